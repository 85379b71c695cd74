/- Texts CdPl CdDec CdPc CdOrd. -/
import Derived.Test.YticlmjkfadklgaaDoorM13
/- The reading of a proof: what its loop holds in memory. -/
set_option linter.unusedSimpArgs false
set_option linter.unusedVariables false
namespace Go.Proofs.YticlmjkfadklgaaDoor
open Go.RowKit

/-- Of what was there nothing has turned but cells 1 and 34 of block b. -/
structure Fr (w w' : World) (b : Nat) : Prop where
  g : w.grownBy w' (some b)
  o : ∀ j, j ≠ 1 → j ≠ 34 → w'.cell? ⟨b, j, none⟩ = w.cell? ⟨b, j, none⟩
  f : ∀ j, w'.frozen? ⟨b, j, none⟩ = w.frozen? ⟨b, j, none⟩
theorem Mv.fr {w w' : World} {b : Nat} (h : Mv w w' b) : Fr w w' b := ⟨h.g, fun j h1 _ => h.o j h1, h.f⟩
theorem Fr.trans {w w1 w2 : World} {b : Nat} (h : Fr w w1 b) (k : Fr w1 w2 b) : Fr w w2 b :=
  ⟨⟨k.g.os.trans h.g.os, k.g.tape.trans h.g.tape, k.g.output.trans h.g.output, Nat.le_trans h.g.size k.g.size, fun i hi hne => (k.g.block i (Nat.lt_of_lt_of_le hi h.g.size) hne).trans (h.g.block i hi hne)⟩,
   fun j hj hj' => (k.o j hj hj').trans (h.o j hj hj'), fun j => (k.f j).trans (h.f j)⟩
theorem Fr.andGrown {w w1 w2 : World} {b : Nat} {row : Option Nat} (h : Fr w w1 b) (g : w1.grownBy w2 row) (hb : b < w.heap.size) (hall : ∀ k, row = some k → w.heap.size ≤ k) : Fr w w2 b := by
  have hne : ∀ k, k < w.heap.size → some k ≠ row := fun k hk e => by have := hall k e.symm; omega
  have hz := h.g.size
  refine ⟨⟨g.os.trans h.g.os, g.tape.trans h.g.tape, g.output.trans h.g.output, Nat.le_trans h.g.size g.size, fun k hk hkb => (g.block k (by omega) (hne k hk)).trans (h.g.block k hk hkb)⟩, fun j hj hj' => ?_, fun j => ?_⟩
  · exact (World.cell?_of_block (w := w1) (a := ⟨b, j, none⟩) (g.block b (by omega) (hne b hb))).trans (h.o j hj hj')
  · exact (World.frozen?_of_block (w := w1) (a := ⟨b, j, none⟩) (g.block b (by omega) (hne b hb))).trans (h.f j)
theorem Fr.set34 (w : World) (b : Nat) (u : Value) : Fr w (w.setCell ⟨b, 34, none⟩ u) b :=
  ⟨grown_set w b 34 u, fun j _ hj => nd_off (fun e => hj e.symm), fun j => World.frozen?_setCell _ _ _ _⟩

/-- What lies from a block on stays. -/
structure Stay (base : Nat) (w w' : World) : Prop where
  size : w.heap.size ≤ w'.heap.size
  block : ∀ k, base ≤ k → k < w.heap.size → w'.heap[k]? = w.heap[k]?
theorem Stay.alloc (base : Nat) (w : World) (o : Obj) : Stay base w (w.alloc o) := ⟨by simp, fun k _ hk => Below.heap_alloc _ _ _ hk⟩
theorem Stay.grown {base : Nat} {w w' : World} {row : Option Nat} (g : w.grownBy w' row) (h : ∀ k, row = some k → k < base) : Stay base w w' := ⟨g.size, fun k hb hk => g.block k hk (fun e => by have := h k e.symm; omega)⟩
theorem Stay.below {base : Nat} {w w' : World} (h : Below w.heap.size w w') : Stay base w w' := ⟨h.size, fun k _ hk => h.block k hk⟩
theorem Stay.trans {base : Nat} {w w1 w2 : World} (h : Stay base w w1) (k : Stay base w1 w2) : Stay base w w2 := ⟨Nat.le_trans h.size k.size, fun i hb hi => (k.block i hb (Nat.lt_of_lt_of_le hi h.size)).trans (h.block i hb hi)⟩
theorem own_stay {base : Nat} {w w' : World} {e : TypeId} {size : Nat} {v : Value} {n : Nat} {xs : List Value} (h : w.ownsRow base e size v n xs) (s : Stay base w w') : w'.ownsRow base e size v n xs := by
  refine ⟨h.1, ?_⟩
  rcases h.2 with hn | ⟨g, cap, cur, hv, hb, hg, rest⟩
  · exact .inl hn
  · exact .inr ⟨g, cap, cur, hv, hb, (s.block g hb (Array.getElem?_eq_some_iff.1 hg).1).trans hg, rest⟩
theorem ints_stay {base : Nat} {w w' : World} {lv : Value} {xs : List Int} (h : IntsAt w.heap.size w lv xs) (hb : xs ≠ [] → ∀ b, lv.ownBlock = some b → base ≤ b) (s : Stay base w w') : IntsAt w'.heap.size w' lv xs := by
  obtain ⟨ao, cap, rfl, hc, hl, hx⟩ := h
  refine ⟨ao, cap, rfl, hc, hl, fun hne => ?_⟩
  obtain ⟨b, off, rfl, hlt, hcell⟩ := hx hne
  have hbb := hb hne b rfl
  exact ⟨b, off, rfl, Nat.lt_of_lt_of_le hlt s.size, fun i hi => (World.cell?_of_block (w := w) (a := ⟨b, off + i, none⟩) (s.block b hbb hlt)).trans (hcell i hi)⟩

/-- Two lists that are appended to, and lists that stay; all from a block on. -/
structure Li (base : Nat) (w : World) (fam : List (Value × List Int)) (sv nv : Value) (n1 n2 : Nat) (xs ys : List Value) : Prop where
  hs : w.ownsRow base 3 1 sv n1 xs
  hn : w.ownsRow base 46 6 nv n2 ys
  hall : ∀ p, p ∈ fam → Kept w p.1 p.2 sv nv ∧ (p.2 ≠ [] → ∀ b, p.1.ownBlock = some b → base ≤ b)
section
variable {base : Nat} {w w' : World} {fam : List (Value × List Int)} {sv nv : Value} {n1 n2 : Nat} {xs ys : List Value}
theorem Li.stay (h : Li base w fam sv nv n1 n2 xs ys) (s : Stay base w w') : Li base w' fam sv nv n1 n2 xs ys :=
  ⟨own_stay h.hs s, own_stay h.hn s, fun p hp => ⟨⟨ints_stay (h.hall p hp).1.1 (h.hall p hp).2 s, (h.hall p hp).1.2⟩, (h.hall p hp).2⟩⟩
theorem Li.first (h : Li base w fam sv nv n1 n2 xs ys) {sv' : Value} {n1' : Nat} {xs' : List Value} (ho : w'.ownsRow base 3 1 sv' n1' xs') (hg : w.grownBy w' sv.ownBlock) (hw : sv'.ownBlock = sv.ownBlock ∨ sv'.ownBlock = some w.heap.size) : Li base w' fam sv' nv n1' n2 xs' ys :=
  ⟨ho, h.hn.kept hg (own_types h.hn h.hs (by decide)), fun p hp => ⟨(h.hall p hp).1.first hg hw, (h.hall p hp).2⟩⟩
theorem Li.second (h : Li base w fam sv nv n1 n2 xs ys) {nv' : Value} {n2' : Nat} {ys' : List Value} (ho : w'.ownsRow base 46 6 nv' n2' ys') (hg : w.grownBy w' nv.ownBlock) (hw : nv'.ownBlock = nv.ownBlock ∨ nv'.ownBlock = some w.heap.size) : Li base w' fam sv nv' n1 n2' xs ys' :=
  ⟨h.hs.kept hg (own_types h.hs h.hn (by decide)), ho, fun p hp => ⟨(h.hall p hp).1.second hg hw, (h.hall p hp).2⟩⟩
theorem Li.add (h : Li base w fam sv nv n1 n2 xs ys) {lvn : Value} {l : List Int} {N : Nat} (hi : IntsAt w.heap.size w lvn l) (hf : ∀ b, lvn.ownBlock = some b → N ≤ b) (hsN : ∀ b, sv.ownBlock = some b → b < N) (hnN : ∀ b, nv.ownBlock = some b → b < N) (hN : base ≤ N) : Li base w (fam ++ [(lvn, l)]) sv nv n1 n2 xs ys := by
  refine ⟨h.hs, h.hn, fun p hp => ?_⟩
  simp only [List.mem_append, List.mem_singleton] at hp
  rcases hp with hp | rfl
  · exact h.hall p hp
  · refine ⟨⟨hi, fun hx => ?_⟩, fun _ b hb => by have := hf b hb; omega⟩
    obtain ⟨b, hb, hlt⟩ := ints_lt hi hx
    have := hf b hb
    exact ⟨fun hh => by have := hsN b (hh.symm.trans hb); omega, fun hh => by have := hnN b (hh.symm.trans hb); omega⟩
end

/-- What the loop over nodes holds: k are read, the next one is at byte q. R: the result's block, P0: the proof's, b: the reader's. -/
structure PL (s : List UInt8) (M q0 : Nat) (w : World) (b P0 : Nat) (lv : Value) (ls : List Int) (wr : World) (k q : Nat) (sv nv : Value) (st : List Int) (acc : List Fl.Node) (lvs : List Value) : Prop where
  hk : k ≤ M
  hq : q ≤ s.length
  hst : st.length = k
  hacc : acc.length = k
  hlvs : lvs.length = k
  hrun : Fl.nodesA s M 0 q0 [] [] = Fl.nodesA s (M - k) k q st acc
  hgood : Fl.allGood acc
  hl : Li (P0 + 1) wr ((lv, ls) :: famOf acc lvs) sv nv k k (st.map (Value.int .i64)) (flat acc lvs)
  c0 : wr.cell? ⟨P0, 0, none⟩ = some lv
  c1 : wr.cell? ⟨P0, 1, none⟩ = some nv
  d0 : wr.cell? ⟨w.heap.size, 0, none⟩ = some (.slice none 0 0)
  d1 : wr.cell? ⟨w.heap.size, 1, none⟩ = some (.slice none 0 0)
  f0 : ∀ j, wr.frozen? ⟨w.heap.size, j, none⟩ = false
  f1 : ∀ j, wr.frozen? ⟨P0, j, none⟩ = false
  fb : ∀ j, wr.frozen? ⟨b, j, none⟩ = false
  fr : Fr w wr b
  a1 : wr.cell? ⟨b, 1, none⟩ = some (.int .i64 (q : Int))
  a34 : wr.cell? ⟨b, 34, none⟩ = some sv
  hR : w.heap.size < P0
  hP : P0 < wr.heap.size
  hb : b < w.heap.size
theorem PL.nodes {s : List UInt8} {M q0 : Nat} {w : World} {b P0 : Nat} {lv : Value} {ls : List Int} {wr : World} {k q : Nat} {sv nv : Value} {st : List Int} {acc : List Fl.Node} {lvs : List Value} (h : PL s M q0 w b P0 lv ls wr k q sv nv st acc lvs) : NodesAt wr.heap.size wr nv acc :=
  nodes_of_own (by rw [h.hacc]; exact h.hl.hn) (by rw [h.hacc, h.hlvs]) (fun i hi => (h.hl.hall _ (by simp only [List.mem_cons]; right; exact famOf_mem acc lvs i (by rw [h.hacc, h.hlvs]) hi)).1.1)
theorem PL.locals {s : List UInt8} {M q0 : Nat} {w : World} {b P0 : Nat} {lv : Value} {ls : List Int} {wr : World} {k q : Nat} {sv nv : Value} {st : List Int} {acc : List Fl.Node} {lvs : List Value} (h : PL s M q0 w b P0 lv ls wr k q sv nv st acc lvs) : IntsAt wr.heap.size wr lv ls := (h.hl.hall (lv, ls) (by simp)).1.1
theorem PL.starts {s : List UInt8} {M q0 : Nat} {w : World} {b P0 : Nat} {lv : Value} {ls : List Int} {wr : World} {k q : Nat} {sv nv : Value} {st : List Int} {acc : List Fl.Node} {lvs : List Value} (h : PL s M q0 w b P0 lv ls wr k q sv nv st acc lvs) : IntsAt wr.heap.size wr sv st := IntsAt.of_own h.hl.hs
end Go.Proofs.YticlmjkfadklgaaDoor

/- A proof's bytes, read in the order in which the program reads them. -/
set_option linter.unusedSimpArgs false
set_option linter.unusedVariables false
namespace Go.Proofs.YticlmjkfadklgaaDoor
open Go.RowKit
section
variable {s : List UInt8} {n q1 q2 M q0 : Nat} {ls : List Int} {z : Int}
theorem decode_n_bad (hh : Fl.headAt s = 3) (h3 : 3 ≤ s.length) (hb : (Fl.numB s 3 0 4).2.1 < 0) : Fl.decode s = (([], []), false, (Fl.numB s 3 0 4).2.2) := by
  have hok := Fl.num_ok s 3 h3
  unfold Fl.decode; rw [hh, if_neg (by decide)]
  simp only
  unfold Fl.numB at *
  by_cases h1 : (Fl.num s 3).2.1 < 0
  · rw [if_pos h1, if_pos h1]
  · rw [if_neg h1] at hb
    rw [if_neg h1, if_neg h1]
    by_cases h2 : (Fl.num s 3).1 < 0 ∨ 4 < (Fl.num s 3).1
    · rw [if_pos h2, if_pos (by omega)]; rfl
    · rw [if_neg h2] at hb; exact absurd hb h1
theorem decode_open (hh : Fl.headAt s = 3) (hn : Fl.num s 3 = ((n : Int), (q1 : Int), 0)) (hn4 : n ≤ 4) :
    Fl.decode s = (let l := Fl.nums s q1 n
      if l.2.1 < 0 then (([], []), false, l.2.2) else
      let m := Fl.num s l.2.1.toNat
      if m.2.1 < 0 then (([], []), false, m.2.2) else
      if m.1 < 1 ∨ 200 < m.1 then (([], []), false, l.2.1) else
      let r := Fl.nodesA s m.1.toNat 0 m.2.1.toNat [] []
      if 0 ≤ r.2.2.2 then (([], []), false, r.2.2.2) else
      if r.2.2.1 < s.length then (([], []), false, r.2.2.1) else
      if 0 ≤ Fl.shaped r.1 then (([], []), false, r.2.1.getD (Fl.shaped r.1).toNat 0) else ((l.1, r.1), true, 0)) := by
  unfold Fl.decode; rw [hh, if_neg (by decide)]
  simp only [hn]
  rw [if_neg (by omega), if_neg (by omega)]
  rfl
theorem decode_l_bad (hh : Fl.headAt s = 3) (hn : Fl.num s 3 = ((n : Int), (q1 : Int), 0)) (hn4 : n ≤ 4) (hl : (Fl.nums s q1 n).2.1 < 0) : Fl.decode s = (([], []), false, (Fl.nums s q1 n).2.2) := by
  rw [decode_open hh hn hn4]; simp only; rw [if_pos hl]
theorem decode_m_bad (hh : Fl.headAt s = 3) (hn : Fl.num s 3 = ((n : Int), (q1 : Int), 0)) (hn4 : n ≤ 4) (hl : Fl.nums s q1 n = (ls, (q2 : Int), z)) (hq2 : q2 ≤ s.length) (hm : (Fl.numB s q2 1 200).2.1 < 0) : Fl.decode s = (([], []), false, (Fl.numB s q2 1 200).2.2) := by
  rw [decode_open hh hn hn4]; simp only [hl, Int.toNat_natCast]; rw [if_neg (by omega)]
  unfold Fl.numB at *
  by_cases h1 : (Fl.num s q2).2.1 < 0
  · rw [if_pos h1, if_pos h1]
  · rw [if_neg h1] at hm
    rw [if_neg h1, if_neg h1]
    by_cases h2 : (Fl.num s q2).1 < 1 ∨ 200 < (Fl.num s q2).1
    · rw [if_pos h2, if_pos h2]
    · rw [if_neg h2] at hm; exact absurd hm h1
/-- Behind the head. -/
def decRest (s : List UInt8) (ls : List Int) (M q0 : Nat) : (List Int × List Fl.Node) × Bool × Int :=
  let r := Fl.nodesA s M 0 q0 [] []
  if 0 ≤ r.2.2.2 then (([], []), false, r.2.2.2) else
  if r.2.2.1 < s.length then (([], []), false, r.2.2.1) else
  if 0 ≤ Fl.shaped r.1 then (([], []), false, r.2.1.getD (Fl.shaped r.1).toNat 0) else ((ls, r.1), true, 0)
theorem decode_rest (hh : Fl.headAt s = 3) (hn : Fl.num s 3 = ((n : Int), (q1 : Int), 0)) (hn4 : n ≤ 4) (hl : Fl.nums s q1 n = (ls, (q2 : Int), z)) (hm : Fl.num s q2 = ((M : Int), (q0 : Int), 0)) (h1 : 1 ≤ M) (h2 : M ≤ 200) : Fl.decode s = decRest s ls M q0 := by
  rw [decode_open hh hn hn4]; simp only [hl, Int.toNat_natCast, hm]; rw [if_neg (by omega), if_neg (by omega), if_neg (by omega)]
  rfl
end
section
variable {s : List UInt8} {M q0 : Nat} {w : World} {b P0 : Nat} {lv : Value} {ls : List Int} {wr : World} {k q : Nat} {sv nv : Value} {st : List Int} {acc : List Fl.Node} {lvs : List Value}
theorem PL.fails (h : PL s M q0 w b P0 lv ls wr k q sv nv st acc lvs) (hk : k < M) (hb : (Fl.one s q k).2.1 < 0) : decRest s ls M q0 = (([], []), false, (Fl.one s q k).2.2) := by
  have hok := Fl.one_ok s q k h.hq
  have hr : Fl.nodesA s M 0 q0 [] [] = (acc, st, (q : Int), (Fl.one s q k).2.2) := by
    rw [h.hrun, show M - k = (M - (k + 1)) + 1 from by omega]; simp only [Fl.nodesA]; rw [if_pos hb]
  unfold decRest; simp only [hr]; rw [if_pos (by omega)]
theorem PL.ends (h : PL s M q0 w b P0 lv ls wr k q sv nv st acc lvs) (hk : ¬ k < M) : decRest s ls M q0 = if q < s.length then (([], []), false, (q : Int)) else if 0 ≤ Fl.shaped acc then (([], []), false, st.getD (Fl.shaped acc).toNat 0) else ((ls, acc), true, 0) := by
  have hkM : k = M := by have := h.hk; omega
  have hr : Fl.nodesA s M 0 q0 [] [] = (acc, st, (q : Int), -1) := by
    rw [h.hrun, hkM, Nat.sub_self]; rfl
  unfold decRest; simp only [hr]; rw [if_neg (by decide)]
  by_cases h1 : q < s.length
  · rw [if_pos (by omega), if_pos h1]
  · rw [if_neg (by omega), if_neg h1]
end
end Go.Proofs.YticlmjkfadklgaaDoor

/- The reading of a proof: its loop's memory, step by step. -/
set_option linter.unusedSimpArgs false
set_option linter.unusedVariables false
namespace Go.Proofs.YticlmjkfadklgaaDoor
open Go.RowKit

structure PC (w : World) (b P0 : Nat) (lv : Value) (wr : World) (q : Nat) (s34 nc1 : Value) (fam : List (Value × List Int)) (sv nv : Value) (n1 n2 : Nat) (xs ys : List Value) : Prop where
  hl : Li (P0 + 1) wr fam sv nv n1 n2 xs ys
  c0 : wr.cell? ⟨P0, 0, none⟩ = some lv
  c1 : wr.cell? ⟨P0, 1, none⟩ = some nc1
  d0 : wr.cell? ⟨w.heap.size, 0, none⟩ = some (.slice none 0 0)
  d1 : wr.cell? ⟨w.heap.size, 1, none⟩ = some (.slice none 0 0)
  f0 : ∀ j, wr.frozen? ⟨w.heap.size, j, none⟩ = false
  f1 : ∀ j, wr.frozen? ⟨P0, j, none⟩ = false
  fb : ∀ j, wr.frozen? ⟨b, j, none⟩ = false
  fr : Fr w wr b
  a1 : wr.cell? ⟨b, 1, none⟩ = some (.int .i64 (q : Int))
  a34 : wr.cell? ⟨b, 34, none⟩ = some s34
  hR : w.heap.size < P0
  hP : P0 < wr.heap.size
  hb : b < w.heap.size
section
variable {w : World} {b P0 : Nat} {lv : Value} {wr w' : World} {q : Nat} {s34 nc1 : Value} {fam : List (Value × List Int)} {sv nv : Value} {n1 n2 : Nat} {xs ys : List Value}
/-- A step that turns no old block but one of the call's own from P0 on. -/
theorem PC.own (h : PC w b P0 lv wr q s34 nc1 fam sv nv n1 n2 xs ys) {row : Option Nat} (g : wr.grownBy w' row) (hrow : ∀ k, row = some k → P0 + 1 ≤ k) {sv' nv' : Value} {n1' n2' : Nat} {xs' ys' : List Value} {fam' : List (Value × List Int)} (hl : Li (P0 + 1) w' fam' sv' nv' n1' n2' xs' ys') : PC w b P0 lv w' q s34 nc1 fam' sv' nv' n1' n2' xs' ys' := by
  have hR := h.hR
  have hb := h.hb
  have hP := h.hP
  have ne : ∀ k, k ≤ P0 → some k ≠ row := fun k hk e => by have := hrow k e.symm; omega
  have fz : ∀ (N j : Nat), N < wr.heap.size → N ≤ P0 → w'.frozen? ⟨N, j, none⟩ = wr.frozen? ⟨N, j, none⟩ := fun N j hN hk => World.frozen?_of_block (w := wr) (a := ⟨N, j, none⟩) (g.block N hN (ne N hk))
  exact ⟨hl, g.cell h.c0 (ne _ (Nat.le_refl _)), g.cell h.c1 (ne _ (Nat.le_refl _)), g.cell h.d0 (ne _ (by show w.heap.size ≤ P0; omega)), g.cell h.d1 (ne _ (by show w.heap.size ≤ P0; omega)), fun j => (fz _ j (by omega) (by omega)).trans (h.f0 j), fun j => (fz _ j hP (by omega)).trans (h.f1 j), fun j => (fz _ j (by omega) (by omega)).trans (h.fb j), h.fr.andGrown g hb (fun k e => by have := hrow k e; omega), g.cell h.a1 (ne _ (by show b ≤ P0; omega)), g.cell h.a34 (ne _ (by show b ≤ P0; omega)), hR, Nat.lt_of_lt_of_le hP g.size, hb⟩
theorem PC.alloc (h : PC w b P0 lv wr q s34 nc1 fam sv nv n1 n2 xs ys) (o : Obj) : PC w b P0 lv (wr.alloc o) q s34 nc1 fam sv nv n1 n2 xs ys :=
  h.own (World.grownBy_alloc wr o none) (fun k e => by cases e) (h.hl.stay (Stay.alloc _ _ _))
theorem PC.drew (h : PC w b P0 lv wr q s34 nc1 fam sv nv n1 n2 xs ys) : PC w b P0 lv wr.drew q s34 nc1 fam sv nv n1 n2 xs ys :=
  h.own (w' := wr.drew) (row := none) ⟨rfl, rfl, rfl, Nat.le_refl _, fun _ _ _ => rfl⟩ (fun k e => by cases e) (h.hl.stay (w' := wr.drew) ⟨Nat.le_refl _, fun _ _ _ => rfl⟩)
theorem PC.below (h : PC w b P0 lv wr q s34 nc1 fam sv nv n1 n2 xs ys) (hb : Below wr.heap.size wr w') : PC w b P0 lv w' q s34 nc1 fam sv nv n1 n2 xs ys :=
  h.own (row := none) ⟨hb.os, hb.tape, hb.output, hb.size, fun k hk _ => hb.block k hk⟩ (fun k e => by cases e) (h.hl.stay (Stay.below hb))
theorem PC.first (h : PC w b P0 lv wr q s34 nc1 fam sv nv n1 n2 xs ys) {sv' : Value} {n1' : Nat} {xs' : List Value} (ho : w'.ownsRow (P0 + 1) 3 1 sv' n1' xs') (hg : wr.grownBy w' sv.ownBlock) (hw : sv'.ownBlock = sv.ownBlock ∨ sv'.ownBlock = some wr.heap.size) : PC w b P0 lv w' q s34 nc1 fam sv' nv n1' n2 xs' ys :=
  h.own hg (fun k e => (h.hl.hs.lt k e).1) (h.hl.first ho hg hw)
theorem PC.second (h : PC w b P0 lv wr q s34 nc1 fam sv nv n1 n2 xs ys) {nv' : Value} {n2' : Nat} {ys' : List Value} (ho : w'.ownsRow (P0 + 1) 46 6 nv' n2' ys') (hg : wr.grownBy w' nv.ownBlock) (hw : nv'.ownBlock = nv.ownBlock ∨ nv'.ownBlock = some wr.heap.size) : PC w b P0 lv w' q s34 nc1 fam sv nv' n1 n2' xs ys' :=
  h.own hg (fun k e => (h.hl.hn.lt k e).1) (h.hl.second ho hg hw)
theorem PC.add (h : PC w b P0 lv wr q s34 nc1 fam sv nv n1 n2 xs ys) {lvn : Value} {l : List Int} {N : Nat} (hi : IntsAt wr.heap.size wr lvn l) (hf : ∀ b, lvn.ownBlock = some b → N ≤ b) (hsN : ∀ b, sv.ownBlock = some b → b < N) (hnN : ∀ b, nv.ownBlock = some b → b < N) (hN : P0 + 1 ≤ N) : PC w b P0 lv wr q s34 nc1 (fam ++ [(lvn, l)]) sv nv n1 n2 xs ys :=
  ⟨h.hl.add hi hf hsN hnN hN, h.c0, h.c1, h.d0, h.d1, h.f0, h.f1, h.fb, h.fr, h.a1, h.a34, h.hR, h.hP, h.hb⟩
theorem PC.move (h : PC w b P0 lv wr q s34 nc1 fam sv nv n1 n2 xs ys) (m : Mv wr w' b) {q' : Nat} (c : w'.cell? ⟨b, 1, none⟩ = some (.int .i64 (q' : Int))) : PC w b P0 lv w' q' s34 nc1 fam sv nv n1 n2 xs ys := by
  have hR := h.hR
  have hb := h.hb
  have hP := h.hP
  have n1 : some P0 ≠ some b := by simp; omega
  have n2 : some w.heap.size ≠ some b := by simp; omega
  have fz : ∀ (N j : Nat), N < wr.heap.size → some N ≠ some b → w'.frozen? ⟨N, j, none⟩ = wr.frozen? ⟨N, j, none⟩ := fun N j hN hne => World.frozen?_of_block (w := wr) (a := ⟨N, j, none⟩) (m.g.block N hN hne)
  exact ⟨h.hl.stay (Stay.grown m.g (fun k e => by injection e with e; omega)), m.g.cell h.c0 n1, m.g.cell h.c1 n1, m.g.cell h.d0 n2, m.g.cell h.d1 n2, fun j => (fz _ j (by omega) n2).trans (h.f0 j), fun j => (fz _ j hP n1).trans (h.f1 j), fun j => (m.f j).trans (h.fb j), h.fr.trans m.fr, c, (m.o 34 (by decide)).trans h.a34, hR, Nat.lt_of_lt_of_le hP m.g.size, hb⟩
theorem PC.set34 (h : PC w b P0 lv wr q s34 nc1 fam sv nv n1 n2 xs ys) (u : Value) : PC w b P0 lv (wr.setCell ⟨b, 34, none⟩ u) q u nc1 fam sv nv n1 n2 xs ys := by
  have hR := h.hR
  have hb := h.hb
  have g := grown_set wr b 34 u
  have n1 : some P0 ≠ some b := by simp; omega
  have n2 : some w.heap.size ≠ some b := by simp; omega
  exact ⟨h.hl.stay (Stay.grown g (fun k e => by injection e with e; omega)), g.cell h.c0 n1, g.cell h.c1 n1, g.cell h.d0 n2, g.cell h.d1 n2, fun j => (World.frozen?_setCell _ _ _ _).trans (h.f0 j), fun j => (World.frozen?_setCell _ _ _ _).trans (h.f1 j), fun j => (World.frozen?_setCell _ _ _ _).trans (h.fb j), h.fr.trans (Fr.set34 _ _ _), (nd_off (by decide)).trans h.a1, nd_same h.a34, hR, by simpa [World.setCell] using h.hP, hb⟩
theorem PC.setc1 (h : PC w b P0 lv wr q s34 nc1 fam sv nv n1 n2 xs ys) (u : Value) : PC w b P0 lv (wr.setCell ⟨P0, 1, none⟩ u) q s34 u fam sv nv n1 n2 xs ys := by
  have hR := h.hR
  have hb := h.hb
  have g := grown_set wr P0 1 u
  have n1 : some b ≠ some P0 := by simp; omega
  have n2 : some w.heap.size ≠ some P0 := by simp; omega
  exact ⟨h.hl.stay (Stay.grown g (fun k e => by injection e with e; omega)), (nd_off (by decide)).trans h.c0, nd_same h.c1, g.cell h.d0 n2, g.cell h.d1 n2, fun j => (World.frozen?_setCell _ _ _ _).trans (h.f0 j), fun j => (World.frozen?_setCell _ _ _ _).trans (h.f1 j), fun j => (World.frozen?_setCell _ _ _ _).trans (h.fb j), h.fr.andGrown g hb (fun k e => by injection e with e; omega), g.cell h.a1 n1, g.cell h.a34 n1, hR, by simpa [World.setCell] using h.hP, hb⟩
end
section
variable {s : List UInt8} {M q0 : Nat} {w : World} {b P0 : Nat} {lv : Value} {ls : List Int} {wr w' : World} {k q : Nat} {sv nv sv' nv' : Value} {st : List Int} {acc : List Fl.Node} {lvs : List Value}
theorem PL.pc (h : PL s M q0 w b P0 lv ls wr k q sv nv st acc lvs) : PC w b P0 lv wr q sv nv ((lv, ls) :: famOf acc lvs) sv nv k k (st.map (Value.int .i64)) (flat acc lvs) :=
  ⟨h.hl, h.c0, h.c1, h.d0, h.d1, h.f0, h.f1, h.fb, h.fr, h.a1, h.a34, h.hR, h.hP, h.hb⟩
/-- One node more. -/
theorem PL.step (h : PL s M q0 w b P0 lv ls wr k q sv nv st acc lvs) (hkM : k < M) {nd : Fl.Node} {af : Nat} {z : Int} (ho : Fl.one s q k = (nd, (af : Int), z)) (haf : af ≤ s.length) {lvn : Value}
    (hc : PC w b P0 lv w' af sv' nv' (((lv, ls) :: famOf acc lvs) ++ [(lvn, nd.list)]) sv' nv' (k + 1) (k + 1) (st.map (Value.int .i64) ++ [.int .i64 (q : Int)]) (flat acc lvs ++ nodeCells nd lvn)) :
    PL s M q0 w b P0 lv ls w' (k + 1) af sv' nv' (st ++ [(q : Int)]) (acc ++ [nd]) (lvs ++ [lvn]) := by
  have hlen : lvs.length = acc.length := by rw [h.hacc, h.hlvs]
  have hgood : Fl.good k nd := by
    have := Fl.one_good' s q k h.hq (by rw [ho]; simp only; omega)
    rw [ho] at this; exact this
  refine ⟨by omega, haf, by simp [h.hst], by simp [h.hacc], by simp [h.hlvs], ?_, Fl.allGood_snoc h.hgood (by rw [h.hacc]; exact hgood), ?_, hc.c0, hc.c1, hc.d0, hc.d1, hc.f0, hc.f1, hc.fb, hc.fr, hc.a1, hc.a34, hc.hR, hc.hP, hc.hb⟩
  · rw [h.hrun, show M - k = (M - (k + 1)) + 1 from by omega]; simp only [Fl.nodesA, ho, Int.toNat_natCast]; rw [if_neg (by omega)]
  · rw [famOf_snoc _ _ _ _ hlen, flat_snoc _ _ _ _ hlen, List.map_append]
    exact hc.hl
end
end Go.Proofs.YticlmjkfadklgaaDoor

/- A region that draws its order: some operations look at no memory and are taken first; the others come up in one order, or in one of two. -/
set_option linter.unusedSimpArgs false
set_option linter.unusedVariables false
namespace Go.Proofs.YticlmjkfadklgaaDoor
open Go.RowKit

def doneBy (m : Nat) (l : List Nat) : Array Bool := l.foldl (fun d i => d.setIfInBounds i true) (Array.replicate m false)
theorem doneBy_snoc (m : Nat) (l : List Nat) (i : Nat) : doneBy m (l ++ [i]) = (doneBy m l).setIfInBounds i true := by simp [doneBy]
def headsB (ops : Array Oper) : List Nat → List Nat → Bool
  | _, [] => true
  | pre, i :: rest => Region.free .any ops (doneBy ops.size pre) i && ((Region.ready .any ops (doneBy ops.size pre)).contains i && headsB ops (pre ++ [i]) rest)
def forcedB (ops : Array Oper) : List Nat → List Nat → Bool
  | pre, [] => decide (Region.ready .any ops (doneBy ops.size pre) = [])
  | pre, i :: rest => decide (Region.ready .any ops (doneBy ops.size pre) = [i]) && forcedB ops (pre ++ [i]) rest
section
variable {P : Program} {Q : Exit → Act → World → Prop}
theorem ord_heads {ops : Array Oper} {f : Nat} {w : World} (hs : Region.noSelect ops = true) (hQ : ∀ c a d v w, Q (.panic c) (Act.put a d v) w → Q (.panic c) a w) :
    ∀ (σ : List Nat) (so : List Oper) (pre : List Nat) (a : Act), σ.map (fun i => ops[i]?) = so.map some → headsB ops pre σ = true →
    wpHeld P (fun _ => True) (fun a' => wpAnyH P .any ops Q (fun _ => True) f (doneBy ops.size (pre ++ σ)) a' w) so a → wpAnyH P .any ops Q (fun _ => True) (f + σ.length) (doneBy ops.size pre) a w
  | [], so, pre, a, hso, _, h => by
    have : so = [] := by cases so with | nil => rfl | cons o so => simp at hso
    subst this; simp only [List.append_nil] at h; exact h
  | i :: σ, so, pre, a, hso, hB, h => by
    cases so with
    | nil => simp at hso
    | cons o so =>
      simp only [List.map_cons, List.cons.injEq] at hso
      simp only [headsB, Bool.and_eq_true] at hB
      obtain ⟨hg, v, h1, h2⟩ := h
      have ih := ord_heads (f := f) (w := w) hs hQ σ so (pre ++ [i]) (a.put o.dst v) hso.2 hB.2.2 (by simpa using h2)
      rw [doneBy_snoc] at ih
      have := wpAnyH_take (fuel := f + σ.length) hso.1 hs hB.1 hB.2.1 (fun c a w h => hQ c a _ _ w h) (Or.inl ⟨by simp [Region.wanted, hg], h1⟩) trivial ih
      simpa [Nat.add_assoc] using this
theorem ord_tail {ops : Array Oper} : ∀ (τ : List Nat) (to : List Oper) (pre : List Nat) (a : Act) (w : World), τ.map (fun i => ops[i]?) = to.map some → forcedB ops pre τ = true →
    wpList P ops Q to a w → wpAnyH P .any ops Q (fun _ => True) τ.length (doneBy ops.size pre) a w
  | [], to, pre, a, w, hto, hB, h => by
    have : to = [] := by cases to with | nil => rfl | cons o to => simp at hto
    subst this
    simp only [forcedB, decide_eq_true_eq] at hB
    exact wpAnyH_done hB h 0
  | i :: τ, to, pre, a, w, hto, hB, h => by
    cases to with
    | nil => simp at hto
    | cons o to =>
      simp only [List.map_cons, List.cons.injEq] at hto
      simp only [forcedB, Bool.and_eq_true, decide_eq_true_eq] at hB
      refine wpAnyH_all hB.1 (by simp) (fun j hj => ?_)
      simp only [List.mem_singleton] at hj
      subst hj
      have hw : wpOp P ops Q j (wpList P ops Q to) a w := by unfold wpOp; simp only [hto.1]; exact h
      refine wpOp_mono (fun a' w' h' => ⟨trivial, ?_⟩) hw
      have := ord_tail τ to (pre ++ [j]) a' w' hto.2 hB.2 h'
      rwa [doneBy_snoc] at this
/-- One order. -/
theorem wp_region_order {id : Nat} {a : Act} {w : World} {l : List Oper} (σ τ : List Nat) (hm : P.follows .mixedOrders = true) (hB : (Region.noSelect l.toArray && (headsB l.toArray [] σ && forcedB l.toArray σ τ)) = true) (hlen : l.length = τ.length + σ.length)
    (so to : List Oper) (hso : σ.map (fun i => l.toArray[i]?) = so.map some) (hto : τ.map (fun i => l.toArray[i]?) = to.map some) (hQ : ∀ c a d v w, Q (.panic c) (Act.put a d v) w → Q (.panic c) a w)
    (h : wpHeld P (fun _ => True) (fun a' => wpList P l.toArray Q to a' w.drew) so a) : (Code.region id l.toArray true).wp P Q a w := by
  simp only [Bool.and_eq_true] at hB
  refine wp_region_held (S := fun _ => True) hm ?_
  have key := ord_heads (P := P) (Q := Q) (ops := l.toArray) (f := τ.length) (w := w.drew) hB.1 hQ σ so [] a hso hB.2.1 ?_
  · rw [← hlen] at key; simpa [doneBy] using key
  · have mono : ∀ (l' : List Oper) (a : Act) (L L' : Act → Prop), (∀ a, L a → L' a) → wpHeld P (fun _ => True) L l' a → wpHeld P (fun _ => True) L' l' a := by
      intro l'
      induction l' with
      | nil => intro a L L' hL h; exact hL a h
      | cons o l' ih => intro a L L' hL h; obtain ⟨hg, v, h1, h2⟩ := h; exact ⟨hg, v, h1, ih _ L L' hL h2⟩
    exact mono _ _ _ _ (fun a' h' => ord_tail τ to _ a' _ hto (by simpa using hB.2.2) h') h
/-- One of two orders. -/
theorem wp_region_order2 {id : Nat} {a : Act} {w : World} {l : List Oper} (σ : List Nat) (i j : Nat) (τ τ' : List Nat) (hm : P.follows .mixedOrders = true)
    (hB : (Region.noSelect l.toArray && (headsB l.toArray [] σ && (decide (Region.ready .any l.toArray (doneBy l.toArray.size σ) = [i, j]) && (forcedB l.toArray (σ ++ [i]) τ && forcedB l.toArray (σ ++ [j]) τ')))) = true) (hlen : l.length = τ.length + 1 + σ.length) (hlen' : τ'.length = τ.length)
    (so : List Oper) (oi oj : Oper) (to to' : List Oper) (hso : σ.map (fun i => l.toArray[i]?) = so.map some) (hi : l.toArray[i]? = some oi) (hj : l.toArray[j]? = some oj) (hto : τ.map (fun i => l.toArray[i]?) = to.map some) (hto' : τ'.map (fun i => l.toArray[i]?) = to'.map some) (hQ : ∀ c a d v w, Q (.panic c) (Act.put a d v) w → Q (.panic c) a w)
    (h : wpHeld P (fun _ => True) (fun a' => wpList P l.toArray Q (oi :: to) a' w.drew ∧ wpList P l.toArray Q (oj :: to') a' w.drew) so a) : (Code.region id l.toArray true).wp P Q a w := by
  simp only [Bool.and_eq_true, decide_eq_true_eq] at hB
  refine wp_region_held (S := fun _ => True) hm ?_
  have key := ord_heads (P := P) (Q := Q) (ops := l.toArray) (f := τ.length + 1) (w := w.drew) hB.1 hQ σ so [] a hso hB.2.1 ?_
  · rw [← hlen] at key; simpa [doneBy] using key
  · have mono : ∀ (l' : List Oper) (a : Act) (L L' : Act → Prop), (∀ a, L a → L' a) → wpHeld P (fun _ => True) L l' a → wpHeld P (fun _ => True) L' l' a := by
      intro l'
      induction l' with
      | nil => intro a L L' hL h; exact hL a h
      | cons o l' ih => intro a L L' hL h; obtain ⟨hg, v, h1, h2⟩ := h; exact ⟨hg, v, h1, ih _ L L' hL h2⟩
    refine mono _ _ _ _ (fun a' h' => ?_) h
    have step : ∀ (x : Nat) (ox : Oper) (tx : List Nat) (tox : List Oper), l.toArray[x]? = some ox → tx.map (fun i => l.toArray[i]?) = tox.map some → forcedB l.toArray (σ ++ [x]) tx = true → tx.length = τ.length → wpList P l.toArray Q (ox :: tox) a' w.drew → wpOp P l.toArray Q x (fun a'' w'' => True ∧ wpAnyH P .any l.toArray Q (fun _ => True) τ.length ((doneBy l.toArray.size ([] ++ σ)).setIfInBounds x true) a'' w'') a' w.drew := by
      intro x ox tx tox hx htx hf hl hw
      have hw' : wpOp P l.toArray Q x (wpList P l.toArray Q tox) a' w.drew := by unfold wpOp; simp only [hx]; exact hw
      refine wpOp_mono (fun a'' w'' h'' => ⟨trivial, ?_⟩) hw'
      have := ord_tail tx tox (σ ++ [x]) a'' w'' htx hf h''
      rw [doneBy_snoc, hl] at this; simpa using this
    refine wpAnyH_all (rs := [i, j]) (by simpa using hB.2.2.1) (by simp) (fun x hx => ?_)
    simp only [List.mem_cons, List.not_mem_nil, or_false] at hx
    rcases hx with rfl | rfl
    · exact step _ oi τ to hi hto hB.2.2.2.1 rfl h'.1
    · exact step _ oj τ' to' hj hto' hB.2.2.2.2 hlen' h'.2
theorem op_then {ops : Array Oper} {y : Nat} {oy : Oper} {K : Act → World → Prop} {a : Act} {w : World} (hy : ops[y]? = some oy) (h : wpList P ops (Exit.then K Q) [oy] a w) : wpOp P ops Q y K a w := by
  have hw : wpOp P ops (Exit.then K Q) y (wpList P ops (Exit.then K Q) []) a w := by unfold wpOp; simp only [hy]; exact h
  have hn : ∀ a w, wpList P ops (Exit.then K Q) [] a w → K a w := fun a w h => h
  unfold wpOp at hw ⊢
  simp only [hy] at hw ⊢
  split
  · rename_i hwt
    rw [if_pos hwt] at hw
    refine hw.imp (fun h1 => ?_) (fun h2 => h2)
    have h2 := Oper.wp_mono hn h1
    unfold Oper.wp at h2 ⊢
    generalize (execOp a.eval oy).run P w = r at *
    cases r with
    | ok n w' => cases n <;> exact h2
    | halt x w' => cases x <;> exact h2
  · rename_i hwt
    rw [if_neg hwt] at hw; exact hn _ _ hw
/-- One of three orders: x first; or y (whatever it does), then p or r. -/
theorem wp_region_forkc {id : Nat} {a : Act} {w : World} {l : List Oper} (σ : List Nat) (x y p r : Nat) (τx τp τr : List Nat) (hm : P.follows .mixedOrders = true)
    (hB : (Region.noSelect l.toArray && (headsB l.toArray [] σ && (decide (Region.ready .any l.toArray (doneBy l.toArray.size σ) = [x, y]) && (forcedB l.toArray (σ ++ [x]) τx && (decide (Region.ready .any l.toArray (doneBy l.toArray.size (σ ++ [y])) = [p, r]) && (forcedB l.toArray (σ ++ [y] ++ [p]) τp && forcedB l.toArray (σ ++ [y] ++ [r]) τr)))))) = true)
    (hlen : l.length = τp.length + 2 + σ.length) (hlx : τx.length = τp.length + 1) (hlr : τr.length = τp.length)
    (so : List Oper) (ox oy op or : Oper) (tox top tor : List Oper) (hso : σ.map (fun i => l.toArray[i]?) = so.map some) (hx : l.toArray[x]? = some ox) (hy : l.toArray[y]? = some oy) (hp : l.toArray[p]? = some op) (hr : l.toArray[r]? = some or)
    (htx : τx.map (fun i => l.toArray[i]?) = tox.map some) (htp : τp.map (fun i => l.toArray[i]?) = top.map some) (htr : τr.map (fun i => l.toArray[i]?) = tor.map some) (hQ : ∀ c a d v w, Q (.panic c) (Act.put a d v) w → Q (.panic c) a w)
    (h : wpHeld P (fun _ => True) (fun a' => wpList P l.toArray Q (ox :: tox) a' w.drew ∧ wpList P l.toArray (Exit.then (fun a'' w'' => wpList P l.toArray Q (op :: top) a'' w'' ∧ wpList P l.toArray Q (or :: tor) a'' w'') Q) [oy] a' w.drew) so a) : (Code.region id l.toArray true).wp P Q a w := by
  simp only [Bool.and_eq_true, decide_eq_true_eq] at hB
  refine wp_region_held (S := fun _ => True) hm ?_
  have key := ord_heads (P := P) (Q := Q) (ops := l.toArray) (f := τp.length + 2) (w := w.drew) hB.1 hQ σ so [] a hso hB.2.1 ?_
  · rw [← hlen] at key; simpa [doneBy] using key
  · have mono : ∀ (l' : List Oper) (a : Act) (L L' : Act → Prop), (∀ a, L a → L' a) → wpHeld P (fun _ => True) L l' a → wpHeld P (fun _ => True) L' l' a := by
      intro l'
      induction l' with
      | nil => intro a L L' hL h; exact hL a h
      | cons o l' ih => intro a L L' hL h; obtain ⟨hg, v, h1, h2⟩ := h; exact ⟨hg, v, h1, ih _ L L' hL h2⟩
    refine mono _ _ _ _ (fun a' h' => ?_) h
    obtain ⟨hx1, hy1⟩ := h'
    have step : ∀ (pre : List Nat) (z : Nat) (oz : Oper) (tz : List Nat) (toz : List Oper) (b : Act) (wb : World), l.toArray[z]? = some oz → tz.map (fun i => l.toArray[i]?) = toz.map some → forcedB l.toArray (pre ++ [z]) tz = true → wpList P l.toArray Q (oz :: toz) b wb → wpOp P l.toArray Q z (fun a'' w'' => True ∧ wpAnyH P .any l.toArray Q (fun _ => True) tz.length ((doneBy l.toArray.size pre).setIfInBounds z true) a'' w'') b wb := by
      intro pre z oz tz toz b wb hz htz hf hw
      have hw' : wpOp P l.toArray Q z (wpList P l.toArray Q toz) b wb := by unfold wpOp; simp only [hz]; exact hw
      refine wpOp_mono (fun a'' w'' h'' => ⟨trivial, ?_⟩) hw'
      have := ord_tail tz toz (pre ++ [z]) a'' w'' htz hf h''
      rwa [doneBy_snoc] at this
    refine wpAnyH_all (rs := [x, y]) (by simpa using hB.2.2.1) (by simp) (fun z hz => ?_)
    simp only [List.mem_cons, List.not_mem_nil, or_false] at hz
    rcases hz with rfl | rfl
    · have := step σ _ ox τx tox a' _ hx htx hB.2.2.2.1 hx1
      rw [hlx] at this; simpa using this
    · refine wpOp_mono (fun b wb hb => ⟨trivial, ?_⟩) (op_then hy hy1)
      have e : (doneBy l.toArray.size ([] ++ σ)).setIfInBounds z true = doneBy l.toArray.size (σ ++ [z]) := by rw [doneBy_snoc]; rfl
      rw [e]
      refine wpAnyH_all (rs := [p, r]) hB.2.2.2.2.1 (by simp) (fun u hu => ?_)
      simp only [List.mem_cons, List.not_mem_nil, or_false] at hu
      rcases hu with rfl | rfl
      · exact step (σ ++ [z]) _ op τp top _ _ hp htp hB.2.2.2.2.2.1 hb.1
      · have := step (σ ++ [z]) _ or τr tor _ _ hr htr hB.2.2.2.2.2.2 hb.2
        rw [hlr] at this; exact this
end
end Go.Proofs.YticlmjkfadklgaaDoor
