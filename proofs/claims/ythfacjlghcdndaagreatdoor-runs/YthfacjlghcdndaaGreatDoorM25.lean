/- Texts Rfa Rlb Rlc Rka. -/
import Derived.Test.YthfacjlghcdndaaGreatDoorM24
set_option linter.unusedSimpArgs false
set_option linter.unusedVariables false
namespace Go.Proofs.YthfacjlghcdndaaGreatDoor
open Go.RowKit
structure LqAt (base : Nat) (w : World) (Lq : Nat) (rb : Nat → Nat) (n : Nat) (t : Fl.Tab) : Prop where
  c : ∀ i, i < n → w.cell? ⟨Lq, i, none⟩ = some (.slice (some ⟨rb i, 0, none⟩) n n)
  r : ∀ i j, i < n → j < n → w.cell? ⟨rb i, j, none⟩ = some (.bool (t i j))
  z : ∀ i j, i < n → w.frozen? ⟨rb i, j, none⟩ = false
  inj : ∀ i j, i < n → j < n → i ≠ j → rb i ≠ rb j
  ge : base ≤ Lq ∧ ∀ i, i < n → base ≤ rb i ∧ rb i ≠ Lq
theorem LqAt.lt {base : Nat} {w : World} {Lq : Nat} {rb : Nat → Nat} {n : Nat} {t : Fl.Tab} (h : LqAt base w Lq rb n t) (hn : 0 < n) : Lq < w.heap.size ∧ ∀ i, i < n → rb i < w.heap.size :=
  ⟨World.block_lt_of_cell? w _ (h.c 0 hn), fun i hi => World.block_lt_of_cell? w _ (h.r i 0 hi hn)⟩
theorem LqAt.kept {base : Nat} {w w' : World} {Lq : Nat} {rb : Nat → Nat} {n : Nat} {t : Fl.Tab} (h : LqAt base w Lq rb n t) (hk : ∀ b, base ≤ b → b < w.heap.size → w'.heap[b]? = w.heap[b]?) : LqAt base w' Lq rb n t :=
  ⟨fun i hi => (World.cell?_of_block (a := ⟨Lq, i, none⟩) (hk _ h.ge.1 (h.lt (by omega)).1)).trans (h.c i hi), fun i j hi hj => (World.cell?_of_block (a := ⟨rb i, j, none⟩) (hk _ (h.ge.2 i hi).1 ((h.lt (by omega)).2 i hi))).trans (h.r i j hi hj),
   fun i j hi => (World.frozen?_of_block (a := ⟨rb i, j, none⟩) (hk _ (h.ge.2 i hi).1 ((h.lt (by omega)).2 i hi))).trans (h.z i j hi), h.inj, h.ge⟩
def joinTo (n : Nat) (t : Fl.Tab) (a b k j : Nat) : Bool := t a k && t b k && (List.range j).all fun i => !(t a i) || !(t b i) || t k i
theorem joinTo_succ (n : Nat) (t : Fl.Tab) (a b k j : Nat) : joinTo n t a b k (j + 1) = (joinTo n t a b k j && (!(t a j) || !(t b j) || t k j)) := by
  unfold joinTo
  rw [List.range_succ, List.all_append]
  simp [Bool.and_assoc]
theorem joinTo_all (n : Nat) (t : Fl.Tab) (a b k : Nat) : joinTo n t a b k n = Fl.isJoin n t a b k := rfl
theorem firstK_at (p : Nat → Bool) (n k : Nat) (hk : k < n) (hp : p k = true) (hno : ∀ i, i < k → p i = false) : Fl.firstK p n = (k : Int) := by
  unfold Fl.firstK
  have : (List.range n).find? p = some k := by
    rw [List.find?_eq_some_iff_append]
    refine ⟨hp, List.range k, (List.range' (k + 1) (n - k - 1)), ?_, fun x hx => by simp at hx; simp [hno x hx]⟩
    rw [List.range_eq_range', List.range_eq_range', show n = k + (n - k) by omega, ← List.range'_append_1, show n - k = 1 + (n - k - 1) by omega]
    simp
    rw [Nat.add_comm 1, List.range'_succ]
  rw [this]
theorem firstK_none (p : Nat → Bool) (n : Nat) (hno : ∀ i, i < n → p i = false) : Fl.firstK p n = -1 := by
  unfold Fl.firstK
  have : (List.range n).find? p = none := by
    rw [List.find?_eq_none]
    intro x hx; simp at hx; simp [hno x hx]
  rw [this]
set_option maxRecDepth 100000 in
set_option maxHeartbeats 4000000 in
theorem rjoin_any {base : Nat} {w : World} {Lq : Nat} {rb : Nat → Nat} {n : Nat} {t : Fl.Tab} (h : LqAt base w Lq rb n t) (Pb a b : Nat) (hn : n ≤ 6) (ha : a < n) (hb : b < n) (p0 : w.cell? ⟨Pb, 0, none⟩ = some (.int .i64 n)) (p1 : w.cell? ⟨Pb, 1, none⟩ = some (.slice (some ⟨Lq, 0, none⟩) n n)) :
    Calls Tryz.prog 57 #[.pointer (some ⟨Pb, 0, none⟩), .int .i64 a, .int .i64 b] w fun e w' => e = .returned (.int .i64 (Fl.join n t a b)) ∧ w' = w := by
  have HL : Hid (LqAt base w Lq rb n t) := h
  have hnI : (n : Int) ≤ 6 := by omega
  have haI : (a : Int) < (n : Int) := by omega
  have hbI : (b : Int) < (n : Int) := by omega
  have ca := h.c a ha
  have cb := h.c b hb
  have HRES : Hid (Fl.join n t a b = Fl.firstK (Fl.isJoin n t a b) n) := rfl
  generalize Fl.join n t a b = res at *
  clear h
  go_enter Tryz.func57, Tryz.ntmps57
  go_wp2_with fail
  go_loopw [7] (fun i wr => wr = w ∧ ∃ k : Nat, k ≤ n ∧ i = .int .i64 k ∧ ∀ x, x < k → Fl.isJoin n t a b x = false) (fun i _ => n - (intOf i).toNat)
  case atStart => exact ⟨rfl, 0, Nat.zero_le _, rfl, fun x hx => by omega⟩
  case round =>
    obtain ⟨hwr, k, hk, rfl, hno⟩ := hrel
    have HNO : Hid (∀ x, x < k → Fl.isJoin n t a b x = false) := hno
    rw [hwr]
    clear hno hwr wr
    by_cases hlt : k < n
    · have hkI : (k : Int) < (n : Int) := by omega
      have ck := HL.out.c k hlt
      have x1 : w.cell? ⟨rb a, k, none⟩ = some (.bool (t a k)) := HL.out.r a k ha hlt
      have x2 : w.cell? ⟨rb b, k, none⟩ = some (.bool (t b k)) := HL.out.r b k hb hlt
      obtain ⟨y1, hy1⟩ : ∃ y, y = t a k := ⟨_, rfl⟩
      obtain ⟨y2, hy2⟩ : ∃ y, y = t b k := ⟨_, rfl⟩
      rw [← hy1] at x1
      rw [← hy2] at x2
      have HJ0 : Hid (joinTo n t a b k 0 = (y1 && y2)) := by show _ = _; unfold joinTo; simp [hy1, hy2]
      have HLT : Hid (k < n) := hlt
      have HLOOP : Hid (∀ ls : Bool, ls = (y1 && y2) → ls = joinTo n t a b k 0) := fun ls h => by rw [h]; exact HJ0.out.symm
      clear hy1 hy2
      have HCUT : Hid (∃ y0, y0 = (y1 && y2)) := ⟨_, rfl⟩
      cases y1 <;> cases y2
      all_goals
        have HL0 : Hid _ := HLOOP.out _ rfl
        go_wp2_with fail
        go_loopw [8, 9] (fun ls i wr => wr = w ∧ ∃ j : Nat, j ≤ n ∧ i = .int .i64 j ∧ ls = .bool (joinTo n t a b k j)) (fun _ i _ => n - (intOf i).toNat)
        case atStart => exact ⟨rfl, 0, Nat.zero_le _, rfl, by rw [← HL0.out]; rfl⟩
        case round =>
          obtain ⟨hwr, j, hj, rfl, rfl⟩ := hrel
          rw [hwr]
          clear hwr wr
          by_cases hjl : j < n
          · have hjI : (j : Int) < (n : Int) := by omega
            have cj := HL.out.c j hjl
            have z1 : w.cell? ⟨rb a, j, none⟩ = some (.bool (t a j)) := HL.out.r a j ha hjl
            have z2 : w.cell? ⟨rb b, j, none⟩ = some (.bool (t b j)) := HL.out.r b j hb hjl
            have z3 : w.cell? ⟨rb k, j, none⟩ = some (.bool (t k j)) := HL.out.r k j HLT.out hjl
            have HS : Hid (joinTo n t a b k (j + 1) = (joinTo n t a b k j && (!(t a j) || !(t b j) || t k j))) := joinTo_succ n t a b k j
            generalize joinTo n t a b k j = lj at *
            generalize t a j = u1 at *
            generalize t b j = u2 at *
            generalize t k j = u3 at *
            cases lj <;> cases u1 <;> cases u2 <;> cases u3
            all_goals
              go_wp2
              go_roundw
              case rel => exact ⟨by first | rfl | trivial, j + 1, by omega, by go_num, by rw [HS.out]; rfl⟩
              case measure => simp [intOf]; omega
          · have hjI : ¬ (j : Int) < (n : Int) := by omega
            obtain rfl : j = n := by omega
            cases hjn : joinTo j t a b k j with
            | true =>
              have HE : Hid (res = (k : Int)) := by show _ = _; rw [HRES.out]; exact firstK_at _ _ _ HLT.out hjn HNO.out
              clear hjn
              go_wp2
              go_ret
              exact ⟨by rw [HE.out]; rfl, rfl⟩
            | false =>
              have HN2 : Hid (∀ x, x < k + 1 → Fl.isJoin j t a b x = false) := fun x hx => by
                by_cases hxk : x = k
                · subst hxk; exact hjn
                · exact HNO.out x (by omega)
              clear hjn
              go_wp2
              go_roundw
              case rel => exact ⟨by first | rfl | trivial, k + 1, by omega, by go_num, HN2.out⟩
              case measure => simp [intOf]; omega
    · have hkI : ¬ (k : Int) < (n : Int) := by omega
      have HE : Hid (res = -1) := by show _ = _; rw [HRES.out]; exact firstK_none _ _ (fun x hx => HNO.out x (by omega))
      go_wp2
      go_ret
      exact ⟨by rw [HE.out]; rfl, rfl⟩
end Go.Proofs.YthfacjlghcdndaaGreatDoor

namespace Go.Proofs.YthfacjlghcdndaaGreatDoor
open Go.RowKit
section
variable {base : Nat} {w : World} {Lq : Nat} {rb : Nat → Nat} {n : Nat} {t t' : Fl.Tab}
theorem LqAt.congr (h : LqAt base w Lq rb n t) (ht : ∀ a b, a < n → b < n → t' a b = t a b) : LqAt base w Lq rb n t' :=
  ⟨h.c, fun i j hi hj => by rw [ht i j hi hj]; exact h.r i j hi hj, h.z, h.inj, h.ge⟩
theorem LqAt.set (h : LqAt base w Lq rb n t) {i j : Nat} (hi : i < n) (hj : j < n) (v : Bool) : LqAt base (w.setCell ⟨rb i, j, none⟩ (.bool v)) Lq rb n (fun a b => if a = i ∧ b = j then v else t a b) := by
  refine ⟨fun a ha => ?_, fun a b ha hb => ?_, fun a b ha => by rw [World.frozen?_setCell]; exact h.z a b ha, h.inj, h.ge⟩
  · refine (World.cell?_setCell_other _ _ _ _ ?_).trans (h.c a ha)
    intro hh; injection hh with h1 _; exact (h.ge.2 i hi).2 (by omega)
  · by_cases hab : a = i ∧ b = j
    · obtain ⟨rfl, rfl⟩ := hab
      rw [if_pos ⟨rfl, rfl⟩]
      exact World.cell?_setCell_same' _ _ _ (by simp [h.r a b ha hb])
    · rw [if_neg hab]
      refine (World.cell?_setCell_other _ _ _ _ ?_).trans (h.r a b ha hb)
      intro hh; injection hh with h1 h2
      by_cases hai : a = i
      · exact hab ⟨hai, by omega⟩
      · exact h.inj a i ha hi hai (by omega)
theorem LqAt.mix {T : Fl.Tab} {k i j : Nat} (h : LqAt base w Lq rb n (Fl.mixTab k T i j)) (hi : i < n) (hj : j < n) : LqAt base (w.setCell ⟨rb i, j, none⟩ (.bool (Fl.mixTab k T i j i j || (Fl.mixTab k T i j i k && Fl.mixTab k T i j k j)))) Lq rb n (Fl.mixTab k T i (j + 1)) :=
  (h.set hi hj _).congr fun a b _ _ => Fl.mix_step k T i j a b
theorem LqAt.mixRow {T : Fl.Tab} {k i : Nat} (h : LqAt base w Lq rb n (Fl.mixTab k T i n)) : LqAt base w Lq rb n (Fl.mixTab k T (i + 1) 0) := h.congr fun a b _ hb => (Fl.mix_row k T i n a b hb).symm
theorem LqAt.mixAll {T : Fl.Tab} {k : Nat} (h : LqAt base w Lq rb n (Fl.mixTab k T n 0)) : LqAt base w Lq rb n (Fl.fwStep k T) := h.congr fun a b ha _ => (Fl.mix_all k T n a b ha).symm
theorem LqAt.mixZero {T : Fl.Tab} {k : Nat} (h : LqAt base w Lq rb n T) : LqAt base w Lq rb n (Fl.mixTab k T 0 0) := by rw [Fl.mix_zero]; exact h
theorem tab0_pair (low high : List Nat) (he : low.length = high.length) (p : Nat) (hp : p < low.length) (hq : p < high.length) (a b : Nat) : Fl.tab0 (low.take (p + 1)) (high.take (p + 1)) a b = if a = low[p] ∧ b = high[p] then true else Fl.tab0 (low.take p) (high.take p) a b := by
  unfold Fl.tab0
  rw [List.take_succ_eq_append_getElem hp, List.take_succ_eq_append_getElem hq, List.zip_append (by simp; omega), List.any_append]
  by_cases h : a = low[p] ∧ b = high[p]
  · obtain ⟨rfl, rfl⟩ := h
    simp
  · rw [if_neg h]
    have h2 : ([low[p]].zip [high[p]]).any (fun p => p.1 == a && p.2 == b) = false := by
      simp
      intro h3 h4
      exact h ⟨h3.symm, h4.symm⟩
    rw [h2, Bool.or_false]
theorem LqAt.pair {low high : List Nat} {p : Nat} (h : LqAt base w Lq rb n (Fl.tab0 (low.take p) (high.take p))) (he : low.length = high.length) (hp : p < low.length) (hq : p < high.length) (hi : low[p] < n) (hj : high[p] < n) : LqAt base (w.setCell ⟨rb low[p], high[p], none⟩ (.bool true)) Lq rb n (Fl.tab0 (low.take (p + 1)) (high.take (p + 1))) :=
  (h.set hi hj true).congr fun a b _ _ => tab0_pair low high he p hp hq a b
end
end Go.Proofs.YthfacjlghcdndaaGreatDoor

namespace Go.Proofs.YthfacjlghcdndaaGreatDoor
open Go.RowKit
theorem Tryz.infoBoolR : (Tryz.prog.info? 4).map (fun i => (i.zero, i.size, i.bytes)) = some (some (.bool false), 1, 1) := by kernel_rfl
theorem Tryz.infoRowR : (Tryz.prog.info? 156).map (fun i => (i.zero, i.size, i.bytes)) = some (some (.slice none 0 0), 1, 24) := by kernel_rfl
def fillV (n : Nat) (v : Value) : List Value := List.replicate n v
theorem made_one (n : Nat) (v : Value) (hv : v.cells = #[v]) : madeCells v.cells ((n : Int).toNat * 1) = (fillV n v).toArray := by
  apply Array.ext
  · simp [madeCells, fillV]
  · intro i h1 h2
    simp [madeCells, fillV, hv, Nat.mod_one]
theorem make_bool (W : World) (n : Nat) (hn : n ≤ 6) : (Instr.makeSlice 156 (.int .i64 n) (.int .i64 n)).run Tryz.prog W = .ok (.slice (some ⟨W.heap.size, 0, none⟩) n n) (W.alloc (.cells (fillV n (.bool false)).toArray 4)) := by
  obtain ⟨i0, hi0, hz0, hzs, hzb⟩ := info_parts Tryz.infoBoolR
  have h := run_makeSlice (w := W) 156 4 i0 (.bool false) Tryz.underlying156 hi0 hz0 .i64 .i64 (n : Int) (n : Int) (by omega) (Int.le_refl _) (by rw [hzs]; simp; omega) (by rw [hzb]; omega) (by omega)
  rw [h, hzs, made_one n _ rfl, Int.toNat_natCast]
theorem make_rows (W : World) (n : Nat) (hn : n ≤ 6) : (Instr.makeSlice 36 (.int .i64 n) (.int .i64 n)).run Tryz.prog W = .ok (.slice (some ⟨W.heap.size, 0, none⟩) n n) (W.alloc (.cells (fillV n (.slice none 0 0)).toArray 156)) := by
  obtain ⟨i0, hi0, hz0, hzs, hzb⟩ := info_parts Tryz.infoRowR
  have h := run_makeSlice (w := W) 36 156 i0 (.slice none 0 0) Tryz.underlying36 hi0 hz0 .i64 .i64 (n : Int) (n : Int) (by omega) (Int.le_refl _) (by rw [hzs]; simp; omega) (by rw [hzb]; omega) (by omega)
  rw [h, hzs, made_one n _ rfl, Int.toNat_natCast]
structure LqTo (base : Nat) (w : World) (Lq : Nat) (rb : Nat → Nat) (n i : Nat) : Prop where
  c : ∀ a, a < i → w.cell? ⟨Lq, a, none⟩ = some (.slice (some ⟨rb a, 0, none⟩) n n)
  o : ∀ a, i ≤ a → a < n → w.cell? ⟨Lq, a, none⟩ = some (.slice none 0 0)
  zL : ∀ a, w.frozen? ⟨Lq, a, none⟩ = false
  r : ∀ a b, a < i → b < n → w.cell? ⟨rb a, b, none⟩ = some (.bool (a == b))
  z : ∀ a b, a < i → w.frozen? ⟨rb a, b, none⟩ = false
  inj : ∀ a b, a < i → b < i → a ≠ b → rb a ≠ rb b
  ge : base ≤ Lq ∧ Lq < w.heap.size ∧ ∀ a, a < i → base ≤ rb a ∧ rb a ≠ Lq ∧ rb a < w.heap.size
  le : i ≤ n
section
variable {base : Nat} {w : World} {Lq : Nat} {rb : Nat → Nat} {n i : Nat}
theorem LqTo.all (h : LqTo base w Lq rb n n) : LqAt base w Lq rb n (Fl.tab0 (([] : List Nat)) []) :=
  ⟨h.c, fun a b ha hb => by rw [h.r a b ha hb]; simp [Fl.tab0], h.z, h.inj, h.ge.1, fun a ha => ⟨(h.ge.2.2 a ha).1, (h.ge.2.2 a ha).2.1⟩⟩
theorem LqTo.begun (w : World) (n : Nat) (base : Nat) (hb : base ≤ w.heap.size) (rb : Nat → Nat) : LqTo base (w.alloc (.cells (fillV n (.slice none 0 0)).toArray 156)) w.heap.size rb n 0 := by
  have hc := Cells.new w (fillV n (.slice none 0 0)) 156
  refine ⟨fun a ha => absurd ha (by omega), fun a _ ha => ?_, hc.z, fun a b ha => absurd ha (by omega), fun a b ha => absurd ha (by omega), fun a b ha => absurd ha (by omega), ⟨hb, by simp, fun a ha => absurd ha (by omega)⟩, by omega⟩
  rw [hc.c a (by simp [fillV]; exact ha)]
  simp [rw_, fillV, ha]
theorem LqTo.next (h : LqTo base w Lq rb n i) (hi : i < n) : LqTo base (((w.alloc (.cells (fillV n (.bool false)).toArray 4)).setCell ⟨Lq, i, none⟩ (.slice (some ⟨w.heap.size, 0, none⟩) n n)).setCell ⟨w.heap.size, i, none⟩ (.bool true)) Lq (fun a => if a = i then w.heap.size else rb a) n (i + 1) := by
  have hc := Cells.new w (fillV n (.bool false)) 4
  have hLz := h.ge.2.1
  have hB : Below w.heap.size w (w.alloc (.cells (fillV n (.bool false)).toArray 4)) := (Below.refl _ _).alloc (Nat.le_refl _) _
  have hcells : ∀ p : Addr, p.block < w.heap.size → p ≠ ⟨Lq, i, none⟩ → (((w.alloc (.cells (fillV n (.bool false)).toArray 4)).setCell ⟨Lq, i, none⟩ (.slice (some ⟨w.heap.size, 0, none⟩) n n)).setCell ⟨w.heap.size, i, none⟩ (.bool true)).cell? p = w.cell? p := fun p hp hne =>
    (World.cell?_setCell_other _ _ _ _ (by intro hh; have h9 := congrArg Addr.block hh; simp only at h9; omega)).trans ((World.cell?_setCell_other _ _ _ _ (fun hh => hne (by rw [hh]))).trans (hB.cell (p := p) hp))
  refine ⟨fun a ha => ?_, fun a h1 h2 => ?_, fun a => ?_, fun a b ha hb => ?_, fun a b ha => ?_, fun a b ha hb hne => ?_, ⟨h.ge.1, ?_, fun a ha => ?_⟩, by omega⟩
  · by_cases hai : a = i
    · subst hai
      rw [if_pos rfl]
      refine (World.cell?_setCell_other _ _ _ _ (by intro hh; injection hh with h1 _; omega)).trans ?_
      exact World.cell?_setCell_same' _ _ _ (by rw [hB.cell (p := ⟨Lq, a, none⟩) hLz, h.o a (Nat.le_refl _) hi]; rfl)
    · rw [if_neg hai, hcells _ hLz (by intro hh; injection hh with _ h2; exact hai (by omega))]
      exact h.c a (by omega)
  · rw [hcells _ hLz (by intro hh; injection hh with _ h2; omega)]
    exact h.o a (by omega) h2
  · rw [World.frozen?_setCell, World.frozen?_setCell]
    exact (hB.frozen (p := ⟨Lq, a, none⟩) hLz).trans (h.zL a)
  · by_cases hai : a = i
    · subst hai
      rw [if_pos rfl]
      have h0 : ∀ b, b < n → ((w.alloc (.cells (fillV n (.bool false)).toArray 4)).setCell ⟨Lq, a, none⟩ (.slice (some ⟨w.heap.size, 0, none⟩) n n)).cell? ⟨w.heap.size, b, none⟩ = some (.bool false) := fun b hb => by
        refine (World.cell?_setCell_other _ _ _ _ (by intro hh; injection hh with h1 _; omega)).trans ?_
        rw [hc.c b (by simp [fillV]; exact hb)]
        simp [rw_, fillV, hb]
      by_cases hab : b = a
      · subst hab
        rw [World.cell?_setCell_same' _ _ _ (by rw [h0 b hb]; rfl)]
        simp
      · rw [World.cell?_setCell_other _ _ _ _ (by intro hh; injection hh with _ h2; exact hab (by omega)), h0 b hb]
        simp; omega
    · rw [if_neg hai]
      have hg := h.ge.2.2 a (by omega)
      rw [hcells _ hg.2.2 (by intro hh; injection hh with h1 _; exact hg.2.1 h1)]
      exact h.r a b (by omega) hb
  · rw [World.frozen?_setCell, World.frozen?_setCell]
    by_cases hai : a = i
    · rw [if_pos hai]; exact hc.z b
    · rw [if_neg hai]
      exact (hB.frozen (p := ⟨rb a, b, none⟩) (h.ge.2.2 a (by omega)).2.2).trans (h.z a b (by omega))
  · by_cases hai : a = i
    · have hbi : b ≠ i := fun hh => hne (hai.trans hh.symm)
      rw [if_pos hai, if_neg hbi]
      have := (h.ge.2.2 b (by omega)).2.2; omega
    · rw [if_neg hai]
      by_cases hbi : b = i
      · rw [if_pos hbi]
        have := (h.ge.2.2 a (by omega)).2.2; omega
      · rw [if_neg hbi]; exact h.inj a b (by omega) (by omega) hne
  · rw [setCell_size, setCell_size]; have := hB.size; omega
  · rw [setCell_size, setCell_size]
    have hz : (w.alloc (.cells (fillV n (.bool false)).toArray 4)).heap.size = w.heap.size + 1 := by simp
    by_cases hai : a = i
    · rw [if_pos hai]; have := h.ge.1; exact ⟨by omega, by omega, by omega⟩
    · rw [if_neg hai]; have := h.ge.2.2 a (by omega); exact ⟨this.1, this.2.1, by omega⟩
end
end Go.Proofs.YthfacjlghcdndaaGreatDoor

namespace Go.Proofs.YthfacjlghcdndaaGreatDoor
open Go.RowKit
def HdEnds (lo base Rb Pb : Nat) (w0 : World) (fl : List FlS) (t : Nat) (res : Nat × Fl.RS) (e : Ending) (w' : World) : Prop :=
  e = .returned (.int .i64 res.1) ∧ (res.1 = 0 → ∃ m', RefAt lo base Rb Pb w0 w' m' ∧ RefOf res.2 fl (t + 1) m') ∧ (res.1 ≠ 0 → Below lo w0 w')
section
variable {lo base Rb Pb : Nat} {w0 w w' : World} {m : RMem} {r : Fl.RS} {fl : List FlS} {t : Nat}
theorem RefOf.later (h : RefOf r fl t m) : RefOf r fl (t + 1) m := { h with lw := by have := h.lw; omega, ft := by have := h.ft; omega }
theorem RefOf.addLevel (h : RefOf r fl t m) (x : List UInt8) (v : Value) (hx : x.length ≤ 100000) (hl : r.levels.length < 6) : RefOf { r with levels := r.levels ++ [x] } fl t (m.app 1 v [strV x]) :=
  { r1 := ⟨by show m.n 1 + 1 = _; rw [h.r1.1]; simp, by show m.xs 1 ++ _ = _; rw [h.r1.2]; simp⟩, r2 := h.r2, r3 := h.r3, r4 := h.r4, r5 := h.r5, r6 := h.r6, r8 := h.r8, r10 := h.r10, r12 := h.r12, r13 := h.r13, bg := h.bg, st := h.st,
    nm := fun y hy => by
      simp only [List.mem_append, List.mem_singleton] at hy
      rcases hy with (h1 | rfl) | h1 | h1 | h1
      · exact h.nm y (by simp [h1])
      · exact hx
      · exact h.nm y (by simp [h1])
      · exact h.nm y (by simp [h1])
      · exact h.nm y (by simp [h1])
    lv := by simp; omega, ce := h.ce, ch := h.ch, lo := h.lo, sm := h.sm, fr := h.fr, lw := h.lw, ft := h.ft, pr := h.pr, bw := ⟨fun y hy => by have := h.bw.1 y hy; simp; omega, fun y hy => by have := h.bw.2 y hy; simp; omega⟩, cl := h.cl, hl := h.hl }
set_option maxRecDepth 100000 in
set_option maxHeartbeats 20000000 in
theorem head_level (h : RefAt lo base Rb Pb w0 w m) (hr : RefOf r fl t m) (b off cap : Nat) (k n : List UInt8) (hnl : n.length ≤ 100000) (hb : b < w.heap.size) (hbR : b ≠ Rb ∧ ∀ j, isRow j → (m.v j).ownBlock ≠ some b) (hcap : 2 ≤ cap ∧ cap ≤ maxLen) (c0 : w.cell? ⟨b, off, none⟩ = some (.string ⟨#[108, 101, 118, 101, 108]⟩)) (c1 : w.cell? ⟨b, off + 1, none⟩ = some (.string ⟨n.toArray⟩)) :
    Calls Tryz.prog 23 #[.pointer (some ⟨Rb, 0, none⟩), .slice (some ⟨b, off, none⟩) 2 cap] w (HdEnds lo base Rb Pb w0 fl t (r.head [k, n])) := by
  have hba := h.hba
  have hRz : Rb < w.heap.size := by omega
  have HH : Hid (RefAt lo base Rb Pb w0 w m) := h
  have HO : Hid (RefOf r fl t m) := hr
  have HPC : Hid (∀ W, Below w.heap.size w W → Calls Tryz.prog 22 #[m.v 1, .string ⟨n.toArray⟩] W fun e w' => e = .returned (.int .i64 (Fl.place r.levels n)) ∧ w' = W) := fun W hW => place_words ((h.below hW).levels hr) n
  obtain ⟨d1, k1, hv1⟩ := h.shape 1 (by unfold isRow; omega)
  rw [hr.r1.1] at hv1
  have HV1 : Hid (m.v 1 = .slice d1 r.levels.length k1) := hv1
  rw [hv1] at HPC
  have HS1 : Hid (∀ W, Below w.heap.size w W → W.cell? ⟨Rb, 1, none⟩ = some (.slice d1 r.levels.length k1) ∧ W.cell? ⟨b, off + 1, none⟩ = some (.string ⟨n.toArray⟩)) := fun W hW => ⟨(hW.cell (p := ⟨Rb, 1, none⟩) hRz).trans (by rw [← hv1]; exact h.cR.c 1 (by omega)), (hW.cell (p := ⟨b, off + 1, none⟩) hb).trans c1⟩
  have HOW : Hid (∀ W, Below w.heap.size w W → W.ownsRow base 9 1 (.slice d1 r.levels.length k1) r.levels.length (r.levels.map strV)) := fun W hW => by
    have h1 := (h.below hW).own 1 (by unfold isRow; omega)
    rw [hr.r1.1, hr.r1.2, hv1] at h1
    exact h1
  have HRES : Hid (r.head [k, n] = if 0 ≤ Fl.place r.levels n then (4, r) else if r.levels.length = 6 then (5, r) else (0, { r with levels := r.levels ++ [n] })) := rfl
  obtain ⟨res, hres⟩ : ∃ res, res = r.head [k, n] := ⟨_, rfl⟩
  rw [← hres] at HRES ⊢
  have hpc := Fl.place_cases r.levels n
  have hlv := hr.lv
  generalize Fl.place r.levels n = pc at *
  have hcapI : (2 : Int) ≤ (cap : Int) := by omega
  have hpc1 : -1 ≤ pc ∧ pc ≤ 6 := by omega
  have hlvI : (r.levels.length : Int) ≤ 6 := by omega
  have HBR : Hid ((Value.slice d1 r.levels.length k1).ownBlock ≠ some b) := by rw [← hv1]; exact hbR.2 1 (by unfold isRow; omega)
  clear h hr hres hv1 c1 hbR
  go_enter Tryz.func23, Tryz.ntmps23
  go_wp2_with fail
  refine wp_region_late (fun W => Below w.heap.size w W) [] [(0, 0), (0, 1), (0, 2), (0, 3), (0, 4), (0, 5), (0, 6), (1, 7), (0, 8)] [] (by kernel_rfl) (by kernel_rfl) rfl [(_, _), (_, _), (_, _), (_, _), (_, _), (_, _), (_, _), (_, _), (_, _)] rfl (fun c a d v w h => by cases d <;> exact h) (Below.refl _ _).drew (fun ops hG => ?_)
  clear hG
  simp only [List.getElem_toArray, List.getElem_cons_succ, List.getElem_cons_zero]
  iterate 7
    refine late_read rfl (fun K hK => ?_)
    apply Exists.intro
    refine ⟨fun w' hw' => ?_, ?_⟩
    · obtain ⟨x0, x1⟩ := HS1.out w' hw'
      clear hw'
      go_simp
      try with_reducible rfl
    go_simp
    refine hK _ ?_
    clear hK K
  refine late_do ?_
  go_wp2_with fail
  refine (HPC.out _ (Below.refl _ _).drew).mono ?_
  rintro e w1 ⟨rfl, hw1⟩
  rw [hw1]
  clear hw1 w1
  go_wp2_with fail
  refine ⟨(Below.refl _ _).drew, ?_⟩
  refine late_read rfl (fun K hK => ?_)
  apply Exists.intro
  refine ⟨fun w' hw' => ?_, ?_⟩
  · clear hw'
    go_simp
    try with_reducible rfl
  go_simp
  refine hK _ ?_
  clear hK K
  refine late_end ?_
  have x1 := (HS1.out w.drew (Below.refl _ _).drew).1
  have x2 := (HS1.out w.drew (Below.refl _ _).drew).2
  by_cases hp : 0 ≤ pc
  · have HE : Hid (HdEnds lo base Rb Pb w0 fl t res (.returned (.int .i64 4)) w.drew) := by
      show HdEnds _ _ _ _ _ _ _ _ _ _
      rw [HRES.out, if_pos hp]
      exact ⟨rfl, fun h => (by cases h), fun _ => HH.out.drew.bel⟩
    go_wp2
    go_ret
    exact HE.out
  · have hp2 : pc < 0 := by omega
    by_cases h6 : r.levels.length = 6
    · have b6 : ((r.levels.length : Int) == 6) = true := by simp [h6]
      have HE : Hid (HdEnds lo base Rb Pb w0 fl t res (.returned (.int .i64 5)) w.drew) := by
        show HdEnds _ _ _ _ _ _ _ _ _ _
        rw [HRES.out, if_neg hp, if_pos h6]
        exact ⟨rfl, fun h => (by cases h), fun _ => HH.out.drew.bel⟩
      clear h6 hp
      go_wp2
      go_ret
      exact HE.out
    · have b6 : ((r.levels.length : Int) == 6) = false := by simp; omega
      have HR : Hid (res = (0, { r with levels := r.levels ++ [n] })) := by show _ = _; rw [HRES.out, if_neg hp, if_neg h6]
      have hl6 : r.levels.length < 6 := by omega
      clear h6 hp
      go_wp2_with fail
      refine wp_region_late (fun W => W.cell? ⟨Rb, 1, none⟩ = some (.slice d1 r.levels.length k1) ∧ W.cell? ⟨b, off + 1, none⟩ = some (.string ⟨n.toArray⟩)) [12] [(0, 0), (0, 1), (0, 2), (0, 3), (0, 4), (0, 5), (0, 6), (0, 7), (1, 8), (1, 9), (1, 10), (0, 11), (2, 12)] [] (by kernel_rfl) (by kernel_rfl) rfl [(_, _), (_, _), (_, _), (_, _), (_, _), (_, _), (_, _), (_, _), (_, _), (_, _), (_, _), (_, _), (_, _)] rfl (fun c a d v w h => by cases d <;> exact h) ⟨x1, x2⟩ (fun ops hG => ?_)
      clear hG
      simp only [List.getElem_toArray, List.getElem_cons_succ, List.getElem_cons_zero]
      iterate 8
        refine late_read rfl (fun K hK => ?_)
        apply Exists.intro
        refine ⟨fun w' hw' => ?_, ?_⟩
        · obtain ⟨z0, z1⟩ := hw'
          go_simp
          try with_reducible rfl
        go_simp
        refine hK _ ?_
        clear hK K
      refine late_do ?_
      go_wp2_with fail
      obtain ⟨W3, hW3⟩ : ∃ W3, W3 = (w.alloc (.cells #[.string ⟨n.toArray⟩] 9)).drew.drew := ⟨_, rfl⟩
      obtain ⟨tb, htb⟩ : ∃ tb, tb = w.heap.size := ⟨_, rfl⟩
      have hB3 : Below w.heap.size w W3 := by rw [hW3]; exact ((Below.refl _ _).alloc (Nat.le_refl _) _).drew.drew
      have hz3 : w.heap.size + 1 = W3.heap.size := by rw [hW3]; simp
      have t0 : ∀ i u, ([.string ⟨n.toArray⟩] : List Value)[i]? = some u → W3.cell? ((⟨tb, 0, none⟩ : Addr).add i) = some u := by rw [hW3, htb]; exact str_cell_new
      have e0 : W3.cell? ⟨Rb, 1, none⟩ = some (.slice d1 r.levels.length k1) := (HS1.out W3 hB3).1
      have e1 : W3.cell? ⟨b, off + 1, none⟩ = some (.string ⟨n.toArray⟩) := (HS1.out W3 hB3).2
      have HO3 : Hid (W3.ownsRow base 9 1 (.slice d1 r.levels.length k1) r.levels.length (r.levels.map strV)) := HOW.out W3 hB3
      have HB3 : Hid (Below w.heap.size w W3) := hB3
      first | rw [← hW3, ← htb] | rw [← hW3]
      clear hW3 htb hB3 x1 x2 HOW HS1 HPC
      refine ⟨⟨e0, e1⟩, ?_⟩
      refine late_do ?_
      obtain ⟨i0, hi0, hz0, hzs, hzb⟩ := info_parts Tryz.infoStr
      go_wp2_with (at_builtin; refine wpList_append_at _ rfl (.tmp 47) (.tmp 51) 48 rfl base 9 i0 (.string ⟨#[]⟩) 1 16 Tryz.underlying48 hi0 hz0 hzs hzb rfl (by decide) _ _ _ rfl HO3.out ⟨tb, 0, none⟩ 1 1 [.string ⟨n.toArray⟩] rfl rfl (by decide) t0 ?c2 ?c3 ?c4 ?c5 ?_)
      case c2 => intro u hu; simp at hu; subst hu; rfl
      case c3 => unfold maxLen; omega
      case c4 => omega
      case c5 => omega
      intro v' W4 hown4 hg4 hwh4
      obtain ⟨va, vcap, rfl⟩ : ∃ va vcap, v' = .slice va (r.levels.length + 1) vcap := by
        rcases hown4.2 with ⟨h1, h2⟩ | ⟨g, cp, cur, h1, _⟩
        · omega
        · exact ⟨_, cp, h1⟩
      have hlt3 : ∀ k, (Value.slice d1 r.levels.length k1).ownBlock = some k → base ≤ k ∧ k < w.heap.size + 1 := fun k hk => by have := HO3.out.lt k hk; omega
      have hqR : W4.heap[Rb]? = W3.heap[Rb]? := hg4.block Rb (by omega) (fun hh => by have := (hlt3 Rb hh.symm).1; omega)
      have hqb : W4.heap[b]? = W3.heap[b]? := hg4.block b (by omega) (fun hh => HBR.out hh.symm)
      have g0 : W4.cell? ⟨Rb, 1, none⟩ = some (.slice d1 r.levels.length k1) := (World.cell?_of_block (a := ⟨Rb, 1, none⟩) hqR).trans e0
      have g1 : W4.cell? ⟨b, off + 1, none⟩ = some (.string ⟨n.toArray⟩) := (World.cell?_of_block (a := ⟨b, off + 1, none⟩) hqb).trans e1
      have gz : W4.frozen? ⟨Rb, 1, none⟩ = false := (World.frozen?_of_block (a := ⟨Rb, 1, none⟩) hqR).trans ((HB3.out.frozen (p := ⟨Rb, 1, none⟩) hRz).trans (HH.out.cR.z 1))
      have HADD : Hid (HdEnds lo base Rb Pb w0 fl t res (.returned (.int .i64 0)) (W4.setCell ⟨Rb, 1, none⟩ (.slice va (r.levels.length + 1) vcap))) := by
        show HdEnds _ _ _ _ _ _ _ _ _ _
        rw [HR.out]
        refine ⟨rfl, fun _ => ⟨_, HH.out.appR 1 (by unfold isRow; omega) (by omega) HB3.out (v' := .slice va (r.levels.length + 1) vcap) (news := [.string ⟨n.toArray⟩]) ?_ ?_ ?_, (HO.out.addLevel n _ hnl hl6).later⟩, fun hh => absurd rfl hh⟩
        · rw [HO.out.r1.1, HO.out.r1.2]; exact hown4
        · rw [HV1.out]; exact hg4
        · rw [HV1.out]; exact hwh4
      clear hown4 hg4 hwh4 hqR hqb e0 e1 t0 HO3 HB3 hlt3 HV1 HH HO HR HRES HBR
      go_wp2_with fail
      refine ⟨⟨g0, g1⟩, ?_⟩
      refine late_do ?_
      go_wp2_with fail
      refine ⟨⟨g0, g1⟩, ?_⟩
      refine late_read rfl (fun K hK => ?_)
      apply Exists.intro
      refine ⟨fun w' hw' => ?_, ?_⟩
      · obtain ⟨z0, z1⟩ := hw'
        go_simp
        try with_reducible rfl
      go_simp
      refine hK _ ?_
      clear hK K
      refine late_late ?_
      go_wp2_with fail
      refine late_end ?_
      go_wp2
      go_ret
      exact HADD.out
end
end Go.Proofs.YthfacjlghcdndaaGreatDoor
