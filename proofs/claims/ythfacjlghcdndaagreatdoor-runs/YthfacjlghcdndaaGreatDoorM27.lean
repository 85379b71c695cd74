/- Texts Rle Rlf Rlg Rma. -/
import Derived.Test.YthfacjlghcdndaaGreatDoorM26
import Derived.Deep.MidRow
set_option linter.unusedSimpArgs false
set_option linter.unusedVariables false
namespace Go.Proofs.YthfacjlghcdndaaGreatDoor.Fl
theorem lattice_bad {n : Nat} {t : Tab} {i j : Nat} (hi : i < n) (hj : j < n) (h : pairOk n t i j = false) : lattice n t = false := by
  unfold lattice
  rw [Bool.and_eq_false_iff]
  right
  rw [List.all_eq_false]
  refine ⟨i, List.mem_range.mpr hi, ?_⟩
  rw [Bool.not_eq_true, List.all_eq_false]
  exact ⟨j, List.mem_range.mpr hj, by rw [h]; simp⟩
theorem lattice_good {n : Nat} {t : Tab} (h : ∀ i j, i < n → j < n → pairOk n t i j = true) : lattice n t = decide (0 < n) := by
  unfold lattice
  have h2 : ((List.range n).all fun i => (List.range n).all fun j => pairOk n t i j) = true := by
    rw [List.all_eq_true]
    intro i hi
    rw [List.all_eq_true]
    intro j hj
    exact h i j (List.mem_range.mp hi) (List.mem_range.mp hj)
  rw [h2, Bool.and_true]
theorem pair_both {n : Nat} {t : Tab} {i j : Nat} (hne : i ≠ j) (h1 : t i j = true) (h2 : t j i = true) : pairOk n t i j = false := by
  unfold pairOk
  simp [h1, h2, hne]
theorem pair_none {n : Nat} {t : Tab} {i j : Nat} (h : join n t i j < 0 ∨ meet n t i j < 0) : pairOk n t i j = false := by
  unfold pairOk
  rw [Bool.and_eq_false_iff]
  right
  rw [Bool.and_eq_false_iff]
  rcases h with h | h
  · left; simp; exact h
  · right; simp; exact h
theorem pair_good {n : Nat} {t : Tab} {i j : Nat} (h : i = j ∨ t i j = false ∨ t j i = false) (h1 : 0 ≤ join n t i j) (h2 : 0 ≤ meet n t i j) : pairOk n t i j = true := by
  unfold pairOk
  rcases h with rfl | h | h
  · simp [h1, h2]
  · simp [h, h1, h2]
  · simp [h, h1, h2]
end Go.Proofs.YthfacjlghcdndaaGreatDoor.Fl

namespace Go.Proofs.YthfacjlghcdndaaGreatDoor
open Go.RowKit
def LatEnds (lo base Rb Pb : Nat) (w0 : World) (m : RMem) (res : Bool) (e : Ending) (w' : World) : Prop :=
  e = .returned (.bool res) ∧ ∃ N v, RefAt lo base Rb Pb w0 w' { m with N := N, leq := v }
section
variable {lo base Rb Pb : Nat} {w0 w w' : World} {m : RMem} {r : Fl.RS} {fl : List FlS} {t : Nat}
theorem RefOf.begun (h : RefOf r fl t m) : RefOf { r with begun := true } fl t { m with begun := true } :=
  { r1 := h.r1, r2 := h.r2, r3 := h.r3, r4 := h.r4, r5 := h.r5, r6 := h.r6, r8 := h.r8, r10 := h.r10, r12 := h.r12, r13 := h.r13, bg := rfl, st := h.st, nm := h.nm, lv := h.lv, ce := h.ce, ch := h.ch, lo := h.lo, sm := h.sm, fr := h.fr, lw := h.lw, ft := h.ft, pr := h.pr, bw := h.bw, cl := h.cl, hl := h.hl }
set_option maxRecDepth 100000 in
set_option maxHeartbeats 20000000 in
theorem head_begin (hlat : ∀ (W : World) (m : RMem) (r : Fl.RS), RefAt lo base Rb Pb w0 W m → RefOf r fl t m → Calls Tryz.prog 36 #[.pointer (some ⟨Rb, 0, none⟩)] W (LatEnds lo base Rb Pb w0 m (Fl.lattice r.levels.length r.tab)))
    (h : RefAt lo base Rb Pb w0 w m) (hr : RefOf r fl t m) (b off cap : Nat) (k : List UInt8) (hb : b < w.heap.size) (hbR : b ≠ Rb) (hcap : 1 ≤ cap ∧ cap ≤ maxLen) (c0 : w.cell? ⟨b, off, none⟩ = some (.string ⟨#[98, 101, 103, 105, 110]⟩)) :
    Calls Tryz.prog 23 #[.pointer (some ⟨Rb, 0, none⟩), .slice (some ⟨b, off, none⟩) 1 cap] w (HdEnds lo base Rb Pb w0 fl t (r.head [k])) := by
  have hba := h.hba
  have HL : Hid (Calls Tryz.prog 36 #[.pointer (some ⟨Rb, 0, none⟩)] (w.setCell ⟨Rb, 7, none⟩ (.bool true)) (LatEnds lo base Rb Pb w0 { m with begun := true } (Fl.lattice r.levels.length r.tab))) := hlat _ { m with begun := true } { r with begun := true } (h.setBegun true) hr.begun
  have HO : Hid (RefOf r fl t m) := hr
  have HRES : Hid (r.head [k] = if Fl.lattice r.levels.length r.tab then (0, { r with begun := true }) else (6, r)) := rfl
  obtain ⟨v7, x7⟩ : ∃ v, w.cell? ⟨Rb, 7, none⟩ = some v := ⟨_, h.cR.c 7 (by omega)⟩
  have z7 : w.frozen? ⟨Rb, 7, none⟩ = false := h.cR.z 7
  obtain ⟨res, hres⟩ : ∃ res, res = r.head [k] := ⟨_, rfl⟩
  rw [← hres] at HRES ⊢
  have hcapI : (1 : Int) ≤ (cap : Int) := by omega
  generalize Fl.lattice r.levels.length r.tab = ok at *
  clear h hr hres hlat
  go_enter Tryz.func23, Tryz.ntmps23
  go_wp2_with fail
  refine HL.out.mono ?_
  rintro e w1 ⟨rfl, N, v, hw1⟩
  have HW : Hid (RefAt lo base Rb Pb w0 w1 { m with begun := true, N := N, leq := v }) := hw1
  clear hw1 HL
  cases ok
  · have HE : Hid (HdEnds lo base Rb Pb w0 fl t res (.returned (.int .i64 6)) w1) := by
      show HdEnds _ _ _ _ _ _ _ _ _ _
      rw [HRES.out]
      exact ⟨rfl, fun h => (by cases h), fun _ => HW.out.bel⟩
    go_wp2
    go_ret
    exact HE.out
  · have HE : Hid (HdEnds lo base Rb Pb w0 fl t res (.returned (.int .i64 0)) w1) := by
      show HdEnds _ _ _ _ _ _ _ _ _ _
      rw [HRES.out]
      exact ⟨rfl, fun _ => ⟨_, HW.out, HO.out.begins N v⟩, fun hh => absurd rfl hh⟩
    go_wp2
    go_ret
    exact HE.out
end
end Go.Proofs.YthfacjlghcdndaaGreatDoor

namespace Go.Proofs.YthfacjlghcdndaaGreatDoor
open Go.RowKit
section
variable {lo base Rb Pb : Nat} {w0 w w' : World} {m : RMem} {r : Fl.RS} {fl : List FlS} {t : Nat}
theorem head_any (hlat : ∀ (W : World) (m : RMem) (r : Fl.RS), RefAt lo base Rb Pb w0 W m → RefOf r fl t m → Calls Tryz.prog 36 #[.pointer (some ⟨Rb, 0, none⟩)] W (LatEnds lo base Rb Pb w0 m (Fl.lattice r.levels.length r.tab)))
    (h : RefAt lo base Rb Pb w0 w m) (hr : RefOf r fl t m) (ht : t ≤ 1000000) (v : Value) (ws : List (List UInt8)) (hw : WordsAt w.heap.size w v ws) (hbR : ∀ b off k c, v = .slice (some ⟨b, off, none⟩) k c → b ≠ Rb ∧ ∀ j, isRow j → (m.v j).ownBlock ≠ some b) (hl : Fl.line ws = true) (hh : Fl.isHead (ws.getD 0 []) = true) :
    Calls Tryz.prog 23 #[.pointer (some ⟨Rb, 0, none⟩), v] w (HdEnds lo base Rb Pb w0 fl t (r.head ws)) := by
  obtain ⟨ao, cap, hv, hc1, hc2, hl1, hx, hcells⟩ := hw
  have hne : ws ≠ [] := by intro h0; subst h0; simp [Fl.line] at hl
  obtain ⟨b, off, hao, hb, hcell⟩ := hcells hne
  subst hao
  have hfr := hbR b off ws.length cap hv
  subst hv
  clear hcells hbR
  match ws, hl, hh with
  | [a], hl, hh =>
    have e : a = Fl.wBegin := by
      simp [Fl.line, Fl.isHead] at hl hh
      rcases hl with (h1 | h1) | h1
      · exact h1
      · subst h1; simp [Fl.wElse, Fl.wLevel, Fl.wBelow, Fl.wCell, Fl.wChannel, Fl.wBegin] at hh
      · subst h1; simp [Fl.wEnd, Fl.wLevel, Fl.wBelow, Fl.wCell, Fl.wChannel, Fl.wBegin] at hh
    subst e
    exact head_begin hlat h hr b off cap _ hb hfr.1 ⟨hc1, hc2⟩ (hcell 0 (by simp))
  | [a, n], hl, hh =>
    have e : a = Fl.wLevel := by
      simp [Fl.line, Fl.isHead] at hl hh
      rcases hl with h1 | ⟨h1 | h1, _⟩
      · exact h1.1
      · subst h1; simp [Fl.wIf, Fl.wLevel, Fl.wBelow, Fl.wCell, Fl.wChannel, Fl.wBegin] at hh
      · subst h1; simp [Fl.wWhile, Fl.wLevel, Fl.wBelow, Fl.wCell, Fl.wChannel, Fl.wBegin] at hh
    subst e
    exact head_level h hr b off cap _ n (hx n (by simp)) hb hfr ⟨hc1, hc2⟩ (hcell 0 (by simp)) (hcell 1 (by simp))
  | [a, n, l], hl, hh =>
    have e : a = Fl.wBelow ∨ a = Fl.wCell ∨ a = Fl.wChannel := by
      simp [Fl.line, Fl.isHead] at hl hh
      rcases hl with ⟨⟨h1, _⟩, _⟩ | ⟨⟨h1 | h1, _⟩, _⟩
      · rcases h1 with (h1 | h1) | h1
        · exact .inl h1
        · exact .inr (.inl h1)
        · exact .inr (.inr h1)
      · subst h1; simp [Fl.wOut, Fl.wLevel, Fl.wBelow, Fl.wCell, Fl.wChannel, Fl.wBegin] at hh
      · subst h1; simp [Fl.wSet, Fl.wLevel, Fl.wBelow, Fl.wCell, Fl.wChannel, Fl.wBegin] at hh
    rcases e with e | e | e
    · subst e
      exact head_below h hr ht b off cap n l hb hfr ⟨hc1, hc2⟩ (hcell 0 (by simp)) (hcell 1 (by simp)) (hcell 2 (by simp))
    · subst e
      exact head_cell h hr b off cap n l (hx n (by simp)) hb hfr ⟨hc1, hc2⟩ (hcell 0 (by simp)) (hcell 1 (by simp)) (hcell 2 (by simp))
    · subst e
      exact head_channel h hr b off cap n l (hx n (by simp)) hb hfr ⟨hc1, hc2⟩ (hcell 0 (by simp)) (hcell 1 (by simp)) (hcell 2 (by simp))
  | [_, _, _, _], hl, hh => simp [Fl.line] at hl
  | [a, _, _, _, _], hl, hh =>
    simp [Fl.line, Fl.isHead] at hl hh
    rw [hl.1.1.1.1] at hh
    simp [Fl.wSet, Fl.wLevel, Fl.wBelow, Fl.wCell, Fl.wChannel, Fl.wBegin] at hh
  | _ :: _ :: _ :: _ :: _ :: _ :: _, hl, hh => simp [Fl.line] at hl
end
end Go.Proofs.YthfacjlghcdndaaGreatDoor

namespace Go.Proofs.YthfacjlghcdndaaGreatDoor
open Go.RowKit
theorem setCells_block (b : Nat) : ∀ (cs : List Value) (w : World) (o k : Nat), k ≠ b → (w.setCells b o cs).heap[k]? = w.heap[k]?
  | [], _, _, _, _ => rfl
  | v :: r, w, o, k, h => (setCells_block b r _ _ k h).trans (setCell_block w b o v k h)
theorem setCells_size (b : Nat) : ∀ (cs : List Value) (w : World) (o : Nat), (w.setCells b o cs).heap.size = w.heap.size
  | [], _, _ => rfl
  | v :: r, w, o => (setCells_size b r _ _).trans (setCell_size w _ v)
theorem setCells_rest (b : Nat) : ∀ (cs : List Value) (w : World) (o : Nat), (w.setCells b o cs).os = w.os ∧ (w.setCells b o cs).tape = w.tape ∧ (w.setCells b o cs).output = w.output
  | [], _, _ => ⟨rfl, rfl, rfl⟩
  | v :: r, w, o => setCells_rest b r (w.setCell ⟨b, o, none⟩ v) (o + 1)
theorem take_set_succ (l : List Value) (o : Nat) (v : Value) (h : o < l.length) : (l.set o v).take (o + 1) = l.take o ++ [v] := by
  rw [List.set_eq_take_append_cons_drop, if_pos h, List.take_append, List.take_take]
  have h1 : (l.take o).length = o := by simp; omega
  rw [h1, show o + 1 - o = 1 by omega, show min (o + 1) o = o by omega]
  simp
theorem setCells_row (b : Nat) (e : TypeId) : ∀ (cs : List Value) (w : World) (o : Nat) (cur : Array Value), w.heap[b]? = some (.cells cur e (0, 0)) → o + cs.length ≤ cur.size →
    ∃ cur', (w.setCells b o cs).heap[b]? = some (.cells cur' e (0, 0)) ∧ cur'.size = cur.size ∧ cur'.toList.take (o + cs.length) = cur.toList.take o ++ cs
  | [], w, o, cur, hg, h => ⟨cur, hg, rfl, by simp⟩
  | v :: r, w, o, cur, hg, h => by
    have h0 : o + (r.length + 1) ≤ cur.size := h
    obtain ⟨cur', e1, e2, e3⟩ := setCells_row b e r (w.setCell ⟨b, o, none⟩ v) (o + 1) (cur.setIfInBounds o v) (Go.heap_setCell_same w b o cur e v hg) (by rw [Array.size_setIfInBounds]; omega)
    refine ⟨cur', e1, by rw [e2, Array.size_setIfInBounds], ?_⟩
    rw [List.length_cons, show o + (r.length + 1) = o + 1 + r.length by omega, e3, Array.toList_setIfInBounds, take_set_succ _ _ _ (by simp; omega)]
    simp
theorem own_put {W : World} {base : Nat} {e : TypeId} {g cap n : Nat} {xs z cs : List Value} (h : W.ownsRow base e 10 (.slice (some ⟨g, 0, none⟩) (n + 1) cap) (n + 1) (xs ++ z)) (hz : z.length = 10) (hc : cs.length = 10) : (W.setCells g (n * 10) cs).ownsRow base e 10 (.slice (some ⟨g, 0, none⟩) (n + 1) cap) (n + 1) (xs ++ cs) := by
  obtain ⟨h1, h2⟩ := h
  have hl : xs.length = n * 10 := by simp at h1; omega
  refine ⟨by simp; omega, ?_⟩
  rcases h2 with ⟨h3, -⟩ | ⟨g', cap', cur, h3, hb, hg, hcp, hm, hs, ht⟩
  · cases h3
  · simp only [Value.slice.injEq, Option.some.injEq, Addr.mk.injEq] at h3
    obtain ⟨⟨rfl, -⟩, -, rfl⟩ := h3
    obtain ⟨cur', e1, e2, e3⟩ := setCells_row g e cs W (n * 10) cur hg (by rw [hs, hc]; omega)
    refine .inr ⟨g, cap, cur', rfl, hb, e1, hcp, hm, by rw [e2]; exact hs, ?_⟩
    rw [show (n + 1) * 10 = n * 10 + cs.length by rw [hc]; omega, e3]
    have := congrArg (List.take (n * 10)) ht
    rw [List.take_take, show min (n * 10) ((n + 1) * 10) = n * 10 by omega, List.take_append_of_le_length (by omega), List.take_of_length_le (by omega : xs.length ≤ n * 10)] at this
    rw [this]
theorem own_there {W : World} {base : Nat} {e : TypeId} {g cap n : Nat} {xs : List Value} (h : W.ownsRow base e 10 (.slice (some ⟨g, 0, none⟩) (n + 1) cap) (n + 1) xs) : W.there g (n * 10) 10 := by
  obtain ⟨h1, h2⟩ := h
  rcases h2 with ⟨h3, -⟩ | ⟨g', cap', cur, h3, hb, hg, hcp, hm, hs, ht⟩
  · cases h3
  · simp only [Value.slice.injEq, Option.some.injEq, Addr.mk.injEq] at h3
    obtain ⟨⟨rfl, -⟩, -, rfl⟩ := h3
    intro j hj
    have hlt : n * 10 + j < cur.size := by omega
    exact ⟨by simp [World.cell?, hg, hlt], by simp [World.frozen?, hg]⟩
theorem grown_setCells {w w' : World} {row : Option Nat} (h : w.grownBy w' row) (g o : Nat) (cs : List Value) (hg : some g = row ∨ w.heap.size ≤ g) : w.grownBy (w'.setCells g o cs) row := by
  obtain ⟨r1, r2, r3⟩ := setCells_rest g cs w' o
  refine ⟨r1.trans h.os, r2.trans h.tape, r3.trans h.output, by rw [setCells_size]; exact h.size, fun k hk hne => (setCells_block g cs w' o k ?_).trans (h.block k hk hne)⟩
  rintro rfl
  rcases hg with h1 | h1
  · exact hne h1
  · omega
theorem setCell_comm (w : World) (b c i j : Nat) (u v : Value) (h : b ≠ c) : (w.setCell ⟨b, i, none⟩ u).setCell ⟨c, j, none⟩ v = (w.setCell ⟨c, j, none⟩ v).setCell ⟨b, i, none⟩ u := by
  unfold World.setCell
  congr 1
  apply Array.ext_getElem?
  intro k
  simp only [Array.getElem?_modify]
  by_cases h1 : b = k
  · by_cases h2 : c = k
    · exact absurd (h1.trans h2.symm) h
    · simp [h1, h2]
  · simp [h1]
theorem setCells_comm (b c j : Nat) (v : Value) (h : b ≠ c) : ∀ (cs : List Value) (w : World) (o : Nat), (w.setCell ⟨c, j, none⟩ v).setCells b o cs = (w.setCells b o cs).setCell ⟨c, j, none⟩ v
  | [], _, _ => rfl
  | u :: r, w, o => by
    show ((w.setCell ⟨c, j, none⟩ v).setCell ⟨b, o, none⟩ u).setCells b (o + 1) r = ((w.setCell ⟨b, o, none⟩ u).setCells b (o + 1) r).setCell ⟨c, j, none⟩ v
    rw [setCell_comm w c b j o v u (Ne.symm h), setCells_comm b c j v h r]
section
variable {lo base Rb Pb : Nat} {w0 w w' : World} {m : RMem} {r : Fl.RS} {fl : List FlS} {t : Nat}
theorem RefAt.flat (h : RefAt lo base Rb Pb w0 w m) {W3 W4 : World} {g cap : Nat} {z cs : List Value} (hb3 : Below w.heap.size w W3) (ho4 : W4.ownsRow base 87 10 (.slice (some ⟨g, 0, none⟩) (m.n 10 + 1) cap) (m.n 10 + 1) (m.xs 10 ++ z)) (hz : z.length = 10) (hc : cs.length = 10) (hg4 : W3.grownBy W4 (m.v 10).ownBlock) (hwh : some g = (m.v 10).ownBlock ∨ some g = some W3.heap.size) :
    RefAt lo base Rb Pb w0 ((W4.setCells g (m.n 10 * 10) cs).setCell ⟨Rb, 10, none⟩ (.slice (some ⟨g, 0, none⟩) (m.n 10 + 1) cap)) (m.app 10 (.slice (some ⟨g, 0, none⟩) (m.n 10 + 1) cap) cs) :=
  h.appR 10 (by unfold isRow; omega) (by omega) hb3 (own_put ho4 hz hc) (grown_setCells hg4 g _ _ (by rcases hwh with h1 | h1; exact .inl h1; simp only [Option.some.injEq] at h1; exact .inr (by omega))) hwh
theorem RefAt.setStmts (h : RefAt lo base Rb Pb w0 w m) (k : Nat) : RefAt lo base Rb Pb w0 (w.setCell ⟨Rb, 9, none⟩ (.int .i64 (k : Int))) { m with stmts := k } := by
  obtain ⟨b1, b2, b3, b4, b5, b6, b7⟩ := h.hba
  refine { bel := h.bel.setCell (by show lo ≤ Rb; omega) _, hba := ⟨b1, b2, b3, b4, b5, by rw [setCell_size]; omega, b7⟩, cR := (h.cR.set (j := 9) (by omega) (.int .i64 (k : Int))).congr fun i hi => ?_, cP := ?_, own := fun i hi => own_same (h.own i hi) (fun b hb => setCell_block _ _ _ _ _ (by have := ((h.own i hi).lt b hb).1; omega)), dis := h.dis }
  · unfold rrC
    by_cases h7 : i = 9
    · subst h7; rfl
    · simp [h7]
  · exact (h.cP.block (setCell_block _ _ _ _ _ (Ne.symm b5))).congr fun i hi => rfl
def deepAt (m : RMem) (v : Value) (n : Nat) (xs : List Value) : RMem := { m with n := fun i => if i = 8 then n else m.n i, xs := fun i => if i = 8 then xs else m.xs i, v := fun i => if i = 8 then v else m.v i }
theorem deepAt_v (m : RMem) (v : Value) (n : Nat) (xs : List Value) {i : Nat} (h : i ≠ 8) : (deepAt m v n xs).v i = m.v i ∧ (deepAt m v n xs).n i = m.n i ∧ (deepAt m v n xs).xs i = m.xs i := by
  unfold deepAt
  simp [h]
theorem RefAt.deepSet (h : RefAt lo base Rb Pb w0 w m) {g k cap : Nat} {xs : List Value} {x y : Value} (hv : m.v 8 = .slice (some ⟨g, 0, none⟩) (k + 1) cap) (hn : m.n 8 = k + 1) (hx : m.xs 8 = xs ++ [x]) : RefAt lo base Rb Pb w0 (w.setCell ⟨g, k, none⟩ y) (deepAt m (m.v 8) (m.n 8) (xs ++ [y])) := by
  obtain ⟨b1, b2, b3, b4, b5, b6, b7⟩ := h.hba
  have h8 : isRow 8 := by unfold isRow; omega
  have ho := h.own 8 h8
  have hg := ho.lt g (by rw [hv]; rfl)
  have hvv : (fun i => if i = 8 then m.v 8 else m.v i) = m.v := by funext i; by_cases hi : i = 8 <;> simp [hi]
  refine { bel := h.bel.setCell (by show lo ≤ g; omega) _, hba := ⟨b1, b2, b3, b4, b5, by rw [setCell_size]; omega, b7⟩, cR := (h.cR.block (setCell_block _ _ _ _ _ (by omega))).congr fun i hi => ?_, cP := (h.cP.block (setCell_block _ _ _ _ _ (by omega))).congr fun i hi => ?_, own := fun i hi => ?_, dis := fun i j b hi hj hne => by show ((fun i => if i = 8 then m.v 8 else m.v i) i).ownBlock = _ → ((fun i => if i = 8 then m.v 8 else m.v i) j).ownBlock ≠ _; rw [hvv]; exact h.dis i j b hi hj hne }
  · show rrC Pb m i = if i = 0 then ptr Pb else if i = 7 then .bool m.begun else if i = 9 then .int .i64 m.stmts else (fun i => if i = 8 then m.v 8 else m.v i) i
    rw [hvv]; rfl
  · show rpC m i = if i = 0 then _ else if i = 1 then m.leq else if i = 4 then _ else if i = 5 then m.body else (fun i => if i = 8 then m.v 8 else m.v i) (10 + i)
    rw [hvv]; rfl
  · by_cases h8i : i = 8
    · subst h8i
      show (w.setCell ⟨g, k, none⟩ y).ownsRow base (rTy 8) (rSz 8) (if 8 = 8 then m.v 8 else m.v 8) (if 8 = 8 then m.n 8 else m.n 8) (if 8 = 8 then xs ++ [y] else m.xs 8)
      rw [if_pos rfl, if_pos rfl, if_pos rfl]
      obtain ⟨h1, h2⟩ := ho
      rw [hx] at h1
      have hs8 : rSz 8 = 1 := rfl
      rw [hs8] at h1 h2 ⊢
      have hl : xs.length = k := by simp at h1; omega
      refine ⟨by simp; omega, ?_⟩
      rcases h2 with ⟨h3, h4⟩ | ⟨g', cap', cur, h3, hb, hgg, hc, hm, hs, ht⟩
      · omega
      · rw [hv] at h3
        simp only [Value.slice.injEq, Option.some.injEq, Addr.mk.injEq] at h3
        obtain ⟨⟨rfl, -⟩, -, rfl⟩ := h3
        refine .inr ⟨g, cap, cur.setIfInBounds k y, by rw [hv, hn], hb, Go.heap_setCell_same w g k cur _ y hgg, hc, hm, by rw [Array.size_setIfInBounds]; exact hs, ?_⟩
        rw [hn, Nat.mul_one] at ht ⊢
        rw [Array.toList_setIfInBounds, take_set_succ _ _ _ (by simp; omega)]
        have := congrArg (List.take k) ht
        rw [List.take_take, show min k (k + 1) = k by omega, hx, List.take_append_of_le_length (by omega), List.take_of_length_le (by omega : xs.length ≤ k)] at this
        rw [this]
    · obtain ⟨e1, e2, e3⟩ := deepAt_v m (m.v 8) (m.n 8) (xs ++ [y]) h8i
      rw [e1, e2, e3]
      refine own_same (h.own i hi) (fun b hb => setCell_block _ _ _ _ _ ?_)
      rintro rfl
      exact h.dis i 8 b hi h8 h8i hb (by rw [hv]; rfl)
theorem RefAt.deepCut (h : RefAt lo base Rb Pb w0 w m) {g k cap : Nat} {xs : List Value} {x : Value} (hv : m.v 8 = .slice (some ⟨g, 0, none⟩) (k + 1) cap) (hn : m.n 8 = k + 1) (hx : m.xs 8 = xs ++ [x]) : RefAt lo base Rb Pb w0 (w.setCell ⟨Rb, 8, none⟩ (.slice (some ⟨g, 0, none⟩) k cap)) (deepAt m (.slice (some ⟨g, 0, none⟩) k cap) k xs) := by
  obtain ⟨b1, b2, b3, b4, b5, b6, b7⟩ := h.hba
  have h8 : isRow 8 := by unfold isRow; omega
  have hbo : ∀ i, ((deepAt m (.slice (some ⟨g, 0, none⟩) k cap) k xs).v i).ownBlock = (m.v i).ownBlock := fun i => by
    by_cases hi : i = 8
    · subst hi; rw [hv]; rfl
    · rw [(deepAt_v m _ k xs hi).1]
  refine { bel := h.bel.setCell (by show lo ≤ Rb; omega) _, hba := ⟨b1, b2, b3, b4, b5, by rw [setCell_size]; omega, b7⟩, cR := (h.cR.set (j := 8) (by omega) (.slice (some ⟨g, 0, none⟩) k cap)).congr fun i hi => ?_, cP := (h.cP.block (setCell_block _ _ _ _ _ (Ne.symm b5))).congr fun i hi => ?_, own := fun i hi => ?_, dis := fun i j b hi hj hne => by rw [hbo, hbo]; exact h.dis i j b hi hj hne }
  · by_cases h8i : i = 8
    · subst h8i; rfl
    · rw [if_neg h8i]
      unfold rrC
      rw [(deepAt_v m _ k xs h8i).1]; rfl
  · unfold rpC
    rw [(deepAt_v m (.slice (some ⟨g, 0, none⟩) k cap) k xs (show 10 + i ≠ 8 by omega)).1]; rfl
  · by_cases h8i : i = 8
    · subst h8i
      have ho := h.own 8 h8
      rw [hv, hn, hx] at ho
      refine own_same (w := w) ?_ (fun b hb => setCell_block _ _ _ _ _ ?_)
      · exact own_less ho
      · have := ho.lt b hb; omega
    · obtain ⟨e1, e2, e3⟩ := deepAt_v m (.slice (some ⟨g, 0, none⟩) k cap) k xs h8i
      rw [e1, e2, e3]
      exact own_same (h.own i hi) (fun b hb => setCell_block _ _ _ _ _ (by have := ((h.own i hi).lt b hb).1; omega))
end
end Go.Proofs.YthfacjlghcdndaaGreatDoor
