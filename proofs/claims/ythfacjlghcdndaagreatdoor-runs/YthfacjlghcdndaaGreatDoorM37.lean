/- Texts Ran Mci Rmk Rml. -/
import Derived.Test.YthfacjlghcdndaaGreatDoorM36
set_option linter.unusedSimpArgs false
set_option linter.unusedVariables false
namespace Go.Proofs.YthfacjlghcdndaaGreatDoor
open Go.RowKit
def CellsAt (w : World) (a : Option Addr) (n k : Nat) (l : List Nat) : Prop := n ≤ k ∧ k ≤ maxLen ∧ n ≤ 100000 ∧ (n ≠ 0 → ∃ b, a = some ⟨b, 0, none⟩ ∧ b < w.heap.size ∧ ∀ i, i < n → w.cell? ⟨b, i, none⟩ = some (.int .u32 (l.getD i 0)))
def SentAt (w : World) (a : Option Addr) (n k : Nat) (s : List (Nat × Nat)) : Prop := n = s.length ∧ n ≤ k ∧ k ≤ maxLen ∧ n ≤ 100000 ∧ (n ≠ 0 → ∃ b, a = some ⟨b, 0, none⟩ ∧ b < w.heap.size ∧ ∀ i, i < n → w.cell? ⟨b, i * 2, none⟩ = some (.int .i64 (s.getD i (0, 0)).1) ∧ w.cell? ⟨b, i * 2 + 1, none⟩ = some (.int .u32 (s.getD i (0, 0)).2))
theorem CellsAt.below {w w' : World} {a : Option Addr} {n k : Nat} {l : List Nat} (h : CellsAt w a n k l) (hb : Below w.heap.size w w') : CellsAt w' a n k l :=
  ⟨h.1, h.2.1, h.2.2.1, fun hn => by
    obtain ⟨b, e, hz, hc⟩ := h.2.2.2 hn
    exact ⟨b, e, Nat.lt_of_lt_of_le hz hb.size, fun i hi => (hb.cell (p := ⟨b, i, none⟩) hz).trans (hc i hi)⟩⟩
theorem SentAt.below {w w' : World} {a : Option Addr} {n k : Nat} {s : List (Nat × Nat)} (h : SentAt w a n k s) (hb : Below w.heap.size w w') : SentAt w' a n k s :=
  ⟨h.1, h.2.1, h.2.2.1, h.2.2.2.1, fun hn => by
    obtain ⟨b, e, hz, hc⟩ := h.2.2.2.2 hn
    exact ⟨b, e, Nat.lt_of_lt_of_le hz hb.size, fun i hi => ⟨(hb.cell (p := ⟨b, i * 2, none⟩) hz).trans (hc i hi).1, (hb.cell (p := ⟨b, i * 2 + 1, none⟩) hz).trans (hc i hi).2⟩⟩⟩
theorem sentV_get (s : List (Nat × Nat)) (i : Nat) (hi : i < s.length) : (sentV s)[i * 2]? = some (.int .i64 (s.getD i (0, 0)).1) ∧ (sentV s)[i * 2 + 1]? = some (.int .u32 (s.getD i (0, 0)).2) := by
  induction s generalizing i with
  | nil => simp at hi
  | cons x s ih =>
    have e : sentV (x :: s) = .int .i64 x.1 :: .int .u32 x.2 :: sentV s := rfl
    rw [e]
    cases i with
    | zero => exact ⟨rfl, rfl⟩
    | succ i =>
      have := ih i (by simpa using hi)
      rw [show (i + 1) * 2 = i * 2 + 1 + 1 by omega]
      simp only [List.getElem?_cons_succ, List.getD_cons_succ]
      exact this
theorem SentAt.own {base : Nat} {w : World} {a : Option Addr} {n k : Nat} {s : List (Nat × Nat)} (h : w.ownsRow base 63 2 (.slice a n k) s.length (sentV s)) (hs : s.length ≤ 2000) : SentAt w a n k s := by
  rcases h.2 with ⟨h1, h2⟩ | ⟨g, cap, cur, h1, h2, h3, h4, h5, h6, h7⟩
  · simp only [Value.slice.injEq] at h1
    obtain ⟨rfl, rfl, rfl⟩ := h1
    exact ⟨h2.symm, Nat.le_refl _, by simp [maxLen], by omega, fun hh => absurd rfl hh⟩
  · have hc := h.cells (g := g) (by rw [h1]; rfl)
    simp only [Value.slice.injEq] at h1
    obtain ⟨rfl, rfl, rfl⟩ := h1
    have hgz : g < w.heap.size := Classical.byContradiction fun hn => by rw [Array.getElem?_eq_none (by omega)] at h3; cases h3
    refine ⟨rfl, h4, h5, by omega, fun _ => ⟨g, rfl, hgz, fun i hi => ?_⟩⟩
    obtain ⟨q1, q2⟩ := sentV_get s i hi
    have a1 := hc _ _ q1
    have a2 := hc _ _ q2
    have e1 : (⟨g, 0, none⟩ : Addr).add (i * 2) = ⟨g, i * 2, none⟩ := by unfold Addr.add; split <;> simp_all
    have e2 : (⟨g, 0, none⟩ : Addr).add (i * 2 + 1) = ⟨g, i * 2 + 1, none⟩ := by unfold Addr.add; split <;> simp_all
    rw [e1] at a1
    rw [e2] at a2
    exact ⟨a1, a2⟩
theorem EndAt.cells {base : Nat} {w : World} {n : Nat} {q : Bool × Fl.MS} {Lb : Nat} {sv : Value} (h : EndAt base w n q Lb sv) (hn : n ≤ 100000) : CellsAt w (some ⟨Lb, 0, none⟩) n n q.2.vars := by
  refine ⟨Nat.le_refl _, by simp [maxLen]; omega, hn, fun _ => ⟨Lb, rfl, h.lt, fun i hi => ?_⟩⟩
  have hl := h.len
  rw [cell_of_row _ _ i _ _ (0, 0) h.row, List.getElem?_toArray, u32V_get _ _ (by omega)]
  rw [List.getD_eq_getElem?_getD, List.getD_eq_getElem?_getD, List.getElem?_take, if_pos hi]
theorem WantAt.cells {base : Nat} {w : World} {n : Nat} {q : Bool × Fl.MS} {va : Option Addr} {vc : Nat} {sv : Value} (h : WantAt base w n q va vc sv) (hn : n ≤ 100000) : CellsAt w va n vc q.2.vars :=
  ⟨h.cp.1, h.cp.2, hn, fun h0 => by
    obtain ⟨Vb, h1, h2, h3, h4⟩ := h.ce h0
    exact ⟨Vb, h1, h3, h4⟩⟩
set_option maxRecDepth 100000 in
set_option maxHeartbeats 4000000 in
theorem ended_same {w : World} {ca cb sa sb : Option Addr} {n ka kb m k1 k2 : Nat} {l : List Nat} {s : List (Nat × Nat)} (dn : Bool) (h1 : CellsAt w ca n ka l) (h2 : CellsAt w cb n kb l) (h3 : SentAt w sa m k1 s) (h4 : SentAt w sb m k2 s) :
    Calls Tryz.prog 8 #[.agg #[.slice ca n ka, .slice sa m k1, .bool dn], .agg #[.slice cb n kb, .slice sb m k2, .bool dn]] w fun e w' => e = .returned (.bool true) ∧ Below w.heap.size w w' := by
  have hnI : (n : Int) ≤ 100000 := by have := h1.2.2.1; omega
  have hmI : (m : Int) ≤ 100000 := by have := h3.2.2.2.1; omega
  have hka : (n : Int) ≤ (ka : Int) := by have := h1.1; omega
  have hkb : (n : Int) ≤ (kb : Int) := by have := h2.1; omega
  have hk1 : (m : Int) ≤ (k1 : Int) := by have := h3.2.1; omega
  have hk2 : (m : Int) ≤ (k2 : Int) := by have := h4.2.1; omega
  obtain ⟨W0, hW0⟩ : ∃ W0, W0 = (w.alloc (.cells #[.slice ca n ka, .slice sa m k1, .bool dn] 29)).alloc (.cells #[.slice cb n kb, .slice sb m k2, .bool dn] 29) := ⟨_, rfl⟩
  have hB0 : Below w.heap.size w W0 := by rw [hW0]; exact ((Below.refl _ _).alloc (Nat.le_refl _) _).alloc (by simp) _
  have hz0 : W0.heap.size = w.heap.size + 2 := by rw [hW0]; simp
  have r1 : W0.heap[w.heap.size]? = some (.cells #[.slice ca n ka, .slice sa m k1, .bool dn] 29 (0, 0)) := by rw [hW0, heap_before _ _ _ (by simp)]; exact heap_at _ _ _ rfl
  have r2 : W0.heap[w.heap.size + 1]? = some (.cells #[.slice cb n kb, .slice sb m k2, .bool dn] 29 (0, 0)) := by rw [hW0]; exact heap_at _ _ _ (by simp)
  have HROW : Hid (∀ W, Below W0.heap.size W0 W → W.cell? ⟨w.heap.size, 0, none⟩ = some (.slice ca n ka) ∧ W.cell? ⟨w.heap.size, 1, none⟩ = some (.slice sa m k1) ∧ W.cell? ⟨w.heap.size + 1, 0, none⟩ = some (.slice cb n kb) ∧ W.cell? ⟨w.heap.size + 1, 1, none⟩ = some (.slice sb m k2)) := fun W hW => by
    have q1 := (hW.block w.heap.size (by omega)).trans r1
    have q2 := (hW.block (w.heap.size + 1) (by omega)).trans r2
    exact ⟨cell_of_row _ _ 0 _ _ (0, 0) q1, cell_of_row _ _ 1 _ _ (0, 0) q1, cell_of_row _ _ 0 _ _ (0, 0) q2, cell_of_row _ _ 1 _ _ (0, 0) q2⟩
  have HCA : Hid (∀ W, Below W0.heap.size W0 W → CellsAt W ca n ka l ∧ CellsAt W cb n kb l ∧ SentAt W sa m k1 s ∧ SentAt W sb m k2 s) := fun W hW => by
    have hb : Below w.heap.size w W := hB0.trans (hW.mono (by omega))
    exact ⟨h1.below hb, h2.below hb, h3.below hb, h4.below hb⟩
  have HBE : Hid (∀ W, Below W0.heap.size W0 W → Below w.heap.size w W) := fun W hW => hB0.trans (hW.mono (by omega))
  have HW0 : Hid (W0 = (w.alloc (.cells #[.slice ca n ka, .slice sa m k1, .bool dn] 29)).alloc (.cells #[.slice cb n kb, .slice sb m k2, .bool dn] 29)) := hW0
  clear h1 h2 h3 h4 hB0 hz0 r1 r2 hW0
  go_enter Tryz.func8, Tryz.ntmps8
  go_wp2_with fail
  rw [← HW0.out]
  go_loopw [5] (fun iv wr => ∃ k : Nat, iv = .int .i64 k ∧ k ≤ n ∧ Below W0.heap.size W0 wr) (fun iv _ => n - (intOf iv).toNat)
  case atStart => exact ⟨0, rfl, Nat.zero_le _, Below.refl _ _⟩
  case round =>
    obtain ⟨k, rfl, hk, hb⟩ := hrel
    have HB : Hid (Below W0.heap.size W0 wr) := hb
    obtain ⟨z1, z2, z3, z4⟩ := HROW.out wr hb
    obtain ⟨y1, y2, y3, y4⟩ := HCA.out wr hb
    clear hb
    by_cases hlt : k < n
    · have hltI : (k : Int) < (n : Int) := by omega
      obtain ⟨b1, rfl, -, hc1⟩ := y1.2.2.2 (by omega)
      obtain ⟨b2, rfl, -, hc2⟩ := y2.2.2.2 (by omega)
      have v1 := hc1 k hlt
      have v2 := hc2 k hlt
      generalize l.getD k 0 = xv at *
      clear y1 y2 y3 y4 hc1 hc2 z2 z4
      go_wp2_with fail
      go_quiet (fail)
      go_wp2
      go_roundw
      case rel => exact ⟨k + 1, by go_num, by omega, HB.out.trans ⟨rfl, rfl, rfl, Nat.le_refl _, fun _ _ => rfl⟩⟩
      case measure => simp [intOf]; omega
    · have hge : ¬ (k : Int) < (n : Int) := by omega
      clear y1 y2 y3 y4 z2 z3 z4
      go_wp2_with fail
      obtain ⟨wo, hwo⟩ : ∃ wo, wo = wr := ⟨_, rfl⟩
      rw [← hwo] at HB ⊢
      clear hwo z1
      go_loopw [6] (fun iv wr2 => ∃ j : Nat, iv = .int .i64 j ∧ j ≤ m ∧ Below W0.heap.size W0 wr2) (fun iv _ => m - (intOf iv).toNat)
      case atStart => exact ⟨0, rfl, Nat.zero_le _, HB.out⟩
      case round =>
        obtain ⟨j, rfl, hj, hb2⟩ := hrel
        have HB2 : Hid (Below W0.heap.size W0 wr) := hb2
        obtain ⟨z1, z2, z3, z4⟩ := HROW.out wr hb2
        obtain ⟨y1, y2, y3, y4⟩ := HCA.out wr hb2
        clear hb2
        by_cases hlt2 : j < m
        · have hltI : (j : Int) < (m : Int) := by omega
          obtain ⟨b1, rfl, -, hc1⟩ := y3.2.2.2.2 (by omega)
          obtain ⟨b2, rfl, -, hc2⟩ := y4.2.2.2.2 (by omega)
          obtain ⟨v1, v2⟩ := hc1 j hlt2
          obtain ⟨v3, v4⟩ := hc2 j hlt2
          generalize (s.getD j (0, 0)).1 = p1 at *
          generalize (s.getD j (0, 0)).2 = p2 at *
          clear y1 y2 y3 y4 hc1 hc2 z1 z3
          go_wp2_with fail
          go_quiet (fail)
          go_wp2
          go_roundw
          case rel => exact ⟨j + 1, by go_num, by omega, HB2.out.trans ⟨rfl, rfl, rfl, Nat.le_refl _, fun _ _ => rfl⟩⟩
          case measure => simp [intOf]; omega
        · have hge2 : ¬ (j : Int) < (m : Int) := by omega
          clear y1 y2 y3 y4 z1 z3 z4
          go_wp2
          go_ret
          exact ⟨rfl, HBE.out _ HB2.out⟩
end Go.Proofs.YthfacjlghcdndaaGreatDoor

namespace Go.Proofs.YthfacjlghcdndaaGreatDoor
open Go.RowKit
def PRunEnds (q : Nat × Nat × Fl.Prog) (cs : List Nat) (F : Nat) (w : World) (e : Ending) (w' : World) : Prop :=
  Below w.heap.size w w' ∧
  ((q.1 ≠ 0 ∧ e = .returned (.tuple #[.agg #[.slice none 0 0, .slice none 0 0, .bool false], .int .i64 q.1, .int .i64 q.2.1])) ∨
   (q.1 = 0 ∧ cs.length ≠ q.2.2.cells.length ∧ e = .returned (.tuple #[.agg #[.slice none 0 0, .slice none 0 0, .bool false], .int .i64 11, .int .i64 (-1)])) ∨
   (q.1 = 0 ∧ cs.length = q.2.2.cells.length ∧ ∃ Lb sa sn sc, e = .returned (.tuple #[.agg #[.slice (some ⟨Lb, 0, none⟩) cs.length cs.length, .slice sa sn sc, .bool (q.2.2.run cs F).1], .int .i64 0, .int .i64 (-1)]) ∧ EndAt w.heap.size w' cs.length (q.2.2.run cs F) Lb (.slice sa sn sc)))
set_option maxRecDepth 100000 in
set_option maxHeartbeats 2000000 in
theorem plain_run {w : World} {l : List UInt8} {cv : Value} {cs : List Nat} (fuel : Int) (F : Nat) (hF : (F : Int) = min (max fuel 0) 2000) (hE : ErrType w) (hl : l.length ≤ 100000) (hg : 1 < w.heap.size) (hm : MaxLenIs w) (hcs : U32At w cv cs) (hcl : cs.length ≤ 100000) :
    Calls Tryz.prog 5 #[.string ⟨l.toArray⟩, cv, .int .i64 fuel] w (PRunEnds (Fl.readProg l) cs F w) := by
  have HC : Hid (∀ W, Below w.heap.size w W → Calls Tryz.prog 9 #[.string ⟨l.toArray⟩, cv, .int .i64 fuel] W (FRunEnds (Fl.readProg l) cs F W)) := fun W hW => flows_run fuel F hF hl (by have := hW.size; omega) (by
    obtain ⟨x, hx⟩ := hm
    exact ⟨x, (hW.cell (p := ⟨1, 0, none⟩) hg).trans hx⟩) (hcs.below hW) hcl
  have hEB : ∀ o, Below w.heap.size w o → ErrType o := fun o ho => (ho.cell (p := ⟨0, 0, none⟩) (World.block_lt_of_cell? w _ hE)).trans hE
  have HEB : Hid (∀ o, Below w.heap.size w o → ErrType o) := hEB
  obtain ⟨ao, cap, rfl, g1, g2, g3, g4⟩ := hcs
  obtain ⟨res, hres⟩ : ∃ res, res = Fl.readProg l := ⟨_, rfl⟩
  rw [← hres] at HC ⊢
  obtain ⟨n, hn⟩ : ∃ n, n = cs.length := ⟨_, rfl⟩
  have HN : Hid (n = cs.length) := hn
  rw [← hn] at HC
  rw [← hn]
  clear hF hl hg hm g1 g2 g3 g4 hres hn hE hEB hcl
  go_enter Tryz.func5, Tryz.ntmps5
  go_wp2_with fail
  have hB1 : Below w.heap.size w (w.alloc (.cells #[.slice none 0 0, .slice none 0 0, .bool false] 29)) := (Below.refl _ w).alloc (Nat.le_refl _) _
  refine (HC.out _ hB1).mono ?_
  rintro e wz ⟨hB, hcase⟩
  have c0 : wz.cell? ⟨w.heap.size, 0, none⟩ = some (.slice none 0 0) := (hB.cell (p := ⟨w.heap.size, 0, none⟩) (by simp)).trans (by simp)
  have c1 : wz.cell? ⟨w.heap.size, 1, none⟩ = some (.slice none 0 0) := (hB.cell (p := ⟨w.heap.size, 1, none⟩) (by simp)).trans (by simp)
  have c2 : wz.cell? ⟨w.heap.size, 2, none⟩ = some (.bool false) := (hB.cell (p := ⟨w.heap.size, 2, none⟩) (by simp)).trans (by simp)
  have fz : ∀ j, wz.frozen? ⟨w.heap.size, j, none⟩ = false := fun j => (hB.frozen (p := ⟨w.heap.size, j, none⟩) (by simp)).trans (by simp)
  have HB : Hid (Below w.heap.size w wz) := hB1.trans (hB.mono (by simp))
  have hsz : w.heap.size + 1 ≤ wz.heap.size := by have := hB.size; simpa using this
  clear hB hB1 HC
  have hnew : ∀ (o : Obj) (w2 : World), Below (wz.alloc o).heap.size (wz.alloc o) w2 → (w2.cell? ⟨w.heap.size, 0, none⟩ = some (.slice none 0 0) ∧ w2.cell? ⟨w.heap.size, 1, none⟩ = some (.slice none 0 0) ∧ w2.cell? ⟨w.heap.size, 2, none⟩ = some (.bool false) ∧ (∀ j, w2.frozen? ⟨w.heap.size, j, none⟩ = false)) ∧ Below w.heap.size w w2 ∧ (∀ b, b < wz.heap.size → w2.heap[b]? = wz.heap[b]?) ∧ w2.heap[wz.heap.size]? = some o ∧ wz.heap.size + 1 ≤ w2.heap.size := fun o w2 hB2 => by
    have q : ∀ b, b < wz.heap.size → w2.heap[b]? = wz.heap[b]? := fun b hb => (hB2.block b (by simp; omega)).trans (heap_before _ _ _ hb)
    have r : w2.heap[w.heap.size]? = wz.heap[w.heap.size]? := q _ (by omega)
    exact ⟨⟨(World.cell?_of_block (a := ⟨w.heap.size, 0, none⟩) r).trans c0, (World.cell?_of_block (a := ⟨w.heap.size, 1, none⟩) r).trans c1, (World.cell?_of_block (a := ⟨w.heap.size, 2, none⟩) r).trans c2, fun j => (World.frozen?_of_block (a := ⟨w.heap.size, j, none⟩) r).trans (fz j)⟩,
      (HB.out.alloc (by omega) _).trans (hB2.mono (by simp; omega)), q, (hB2.block _ (by simp)).trans (heap_at _ _ _ rfl), by have := hB2.size; simpa using this⟩
  have HNEW : Hid (∀ (o : Obj) (w2 : World), Below (wz.alloc o).heap.size (wz.alloc o) w2 → (w2.cell? ⟨w.heap.size, 0, none⟩ = some (.slice none 0 0) ∧ w2.cell? ⟨w.heap.size, 1, none⟩ = some (.slice none 0 0) ∧ w2.cell? ⟨w.heap.size, 2, none⟩ = some (.bool false) ∧ (∀ j, w2.frozen? ⟨w.heap.size, j, none⟩ = false)) ∧ Below w.heap.size w w2 ∧ (∀ b, b < wz.heap.size → w2.heap[b]? = wz.heap[b]?) ∧ w2.heap[wz.heap.size]? = some o ∧ wz.heap.size + 1 ≤ w2.heap.size) := hnew
  clear hnew c0 c1 c2 fz
  rcases hcase with ⟨h0, a, rfl, a0, a1⟩ | ⟨h0, h1, rfl⟩ | ⟨h0, h1, Lb, sa, sn, sc, rfl, hEA⟩
  · have H0 : Hid (res.1 ≠ 0) := h0
    have A0 : Hid (wz.cell? ⟨a, 0, none⟩ = some (.int .i64 (res.1 : Int))) := a0
    have A1 : Hid (wz.cell? ⟨a, 1, none⟩ = some (.int .i64 (res.2.1 : Int))) := a1
    clear h0 a0 a1
    go_wp2_with fail
    refine (tell_at a 0 (res.1 : Int) (res.2.1 : Int) _ (HEB.out _ (HB.out.alloc (by omega) _)) ((World.cell?_alloc_lt _ _ _ (World.block_lt_of_cell? wz _ A0.out)).trans A0.out) ((World.cell?_alloc_lt _ _ _ (World.block_lt_of_cell? wz _ A1.out)).trans A1.out)).mono ?_
    rintro e w2 ⟨rfl, hB2⟩
    obtain ⟨⟨d0, d1, d2, dz⟩, hb2, hq2, hr2, hz2⟩ := HNEW.out _ _ hB2
    have p0 : w2.cell? ⟨wz.heap.size, 0, none⟩ = some (.slice none 0 0) := cell_of_row _ _ 0 _ _ (0, 0) hr2
    have p1 : w2.cell? ⟨wz.heap.size, 1, none⟩ = some (.slice none 0 0) := cell_of_row _ _ 1 _ _ (0, 0) hr2
    have p2 : w2.cell? ⟨wz.heap.size, 2, none⟩ = some (.bool false) := cell_of_row _ _ 2 _ _ (0, 0) hr2
    have HB2 : Hid (Below w.heap.size w w2) := hb2
    clear hB2 hb2 hq2 hr2 HNEW
    go_wp2_with fail
    obtain ⟨f0, f1, f2, fk, fs⟩ := three_set (.slice none 0 0) (.slice none 0 0) (.bool false) d0 d1 d2
    refine bodyPost_ret (v := .tuple #[.agg #[.slice none 0 0, .slice none 0 0, .bool false], .int .i64 (res.1 : Int), .int .i64 (res.2.1 : Int)]) (by simp [results, Tryz.results5, go_sem, f0, f1, f2]) rfl ?_
    exact ⟨((HB2.out.setCell (Nat.le_refl _) _).setCell (Nat.le_refl _) _).setCell (Nat.le_refl _) _, .inl ⟨H0.out, rfl⟩⟩
  · have H0 : Hid (res.1 = 0) := h0
    have H1 : Hid (cs.length ≠ res.2.2.cells.length) := h1
    clear h0 h1
    go_wp2_with fail
    refine (tell_errno 11 _ (HEB.out _ (HB.out.alloc (by omega) _))).mono ?_
    rintro e w2 ⟨rfl, hB2⟩
    obtain ⟨⟨d0, d1, d2, dz⟩, hb2, hq2, hr2, hz2⟩ := HNEW.out _ _ hB2
    have p0 : w2.cell? ⟨wz.heap.size, 0, none⟩ = some (.slice none 0 0) := cell_of_row _ _ 0 _ _ (0, 0) hr2
    have p1 : w2.cell? ⟨wz.heap.size, 1, none⟩ = some (.slice none 0 0) := cell_of_row _ _ 1 _ _ (0, 0) hr2
    have p2 : w2.cell? ⟨wz.heap.size, 2, none⟩ = some (.bool false) := cell_of_row _ _ 2 _ _ (0, 0) hr2
    have HB2 : Hid (Below w.heap.size w w2) := hb2
    clear hB2 hb2 hq2 hr2 HNEW
    go_wp2_with fail
    obtain ⟨f0, f1, f2, fk, fs⟩ := three_set (.slice none 0 0) (.slice none 0 0) (.bool false) d0 d1 d2
    refine bodyPost_ret (v := .tuple #[.agg #[.slice none 0 0, .slice none 0 0, .bool false], .int .i64 11, .int .i64 (-1)]) (by simp [results, Tryz.results5, go_sem, f0, f1, f2]) rfl ?_
    exact ⟨((HB2.out.setCell (Nat.le_refl _) _).setCell (Nat.le_refl _) _).setCell (Nat.le_refl _) _, .inr (.inl ⟨H0.out, H1.out, rfl⟩)⟩
  · have H0 : Hid (res.1 = 0) := h0
    have H1 : Hid (cs.length = res.2.2.cells.length) := h1
    obtain ⟨q, hq⟩ : ∃ q, q = res.2.2.run cs F := ⟨_, rfl⟩
    have HQ : Hid (q = res.2.2.run cs F) := hq
    rw [← hq] at hEA ⊢
    have HEA : Hid (EndAt (w.heap.size + 1) wz cs.length q Lb (.slice sa sn sc)) := by
      show EndAt _ _ _ _ _ _; have := hEA; simpa using this
    clear h0 h1 hq hEA
    go_wp2_with fail
    refine (tell_nil _).mono ?_
    rintro e w2 ⟨rfl, hB2⟩
    obtain ⟨⟨d0, d1, d2, dz⟩, hb2, hq2, hr2, hz2⟩ := HNEW.out _ _ hB2
    have p0 : w2.cell? ⟨wz.heap.size, 0, none⟩ = some (.slice (some ⟨Lb, 0, none⟩) cs.length cs.length) := cell_of_row _ _ 0 _ _ (0, 0) hr2
    have p1 : w2.cell? ⟨wz.heap.size, 1, none⟩ = some (.slice sa sn sc) := cell_of_row _ _ 1 _ _ (0, 0) hr2
    have p2 : w2.cell? ⟨wz.heap.size, 2, none⟩ = some (.bool q.1) := cell_of_row _ _ 2 _ _ (0, 0) hr2
    have HB2 : Hid (Below w.heap.size w w2) := hb2
    have HE2 : Hid (EndAt (w.heap.size + 1) w2 cs.length q Lb (.slice sa sn sc)) := HEA.out.kept (Nat.le_refl _) (fun b _ hb => hq2 b hb)
    clear hB2 hb2 hq2 hr2 HNEW HEA
    go_wp2_with fail
    obtain ⟨f0, f1, f2, fk, fs⟩ := three_set (.slice (some ⟨Lb, 0, none⟩) cs.length cs.length) (.slice sa sn sc) (.bool q.1) d0 d1 d2
    refine bodyPost_ret (v := .tuple #[.agg #[.slice (some ⟨Lb, 0, none⟩) cs.length cs.length, .slice sa sn sc, .bool q.1], .int .i64 0, .int .i64 (-1)]) (by simp [results, Tryz.results5, go_sem, f0, f1, f2]) rfl ?_
    refine ⟨((HB2.out.setCell (Nat.le_refl _) _).setCell (Nat.le_refl _) _).setCell (Nat.le_refl _) _, .inr (.inr ⟨H0.out, H1.out, Lb, sa, sn, sc, ?_, ?_⟩)⟩
    · rw [← HQ.out]
    · rw [← HQ.out]
      exact HE2.out.kept (by omega) (fun b hb _ => fk b (by omega))
end Go.Proofs.YthfacjlghcdndaaGreatDoor

namespace Go.Proofs.YthfacjlghcdndaaGreatDoor
open Go.RowKit
theorem wpList_append_full {w : World} {ops : Array Oper} {rest : List Oper} {o : Oper} {a : Act} {Q : Exit → Act → World → Prop} (hgd : o.guard = none) (s x : Operand)
    (ho : o.op = .call { callee := .builtin .append, args := #[s, x], argTypes := #[23, 23] }) (g n : Nat) (hs : a.eval s = .slice (some ⟨g, 0, none⟩) n n) (olds : List Value) (hlo : olds.length = n) (holds : ∀ j v, olds[j]? = some v → w.cell? ⟨g, j, none⟩ = some v)
    (ad : Nat) (u : Value) (hx : a.eval x = .slice (some ⟨ad, 0, none⟩) 1 1) (hu : w.cell? ⟨ad, 0, none⟩ = some u) (hn : n ≤ 100000)
    (h : ∀ (cap : Nat) (W' : World), Below w.heap.size w W' → W'.cell? ⟨w.heap.size, n, none⟩ = some u → w.heap.size < W'.heap.size → wpList Tryz.prog ops Q rest (a.put o.dst (.slice (some ⟨w.heap.size, 0, none⟩) (n + 1) cap)) W') : wpList Tryz.prog ops Q (o :: rest) a w := by
  obtain ⟨i0, hi, hz0, hz1, hz2⟩ := info_parts Tryz.infoU32P
  have e : ∀ (b j : Nat), (⟨b, 0, none⟩ : Addr).add j = ⟨b, j, none⟩ := fun b j => by unfold Addr.add; split <;> simp_all
  have hrun := run_append_grow (P := Tryz.prog) w 23 o.type 24 i0 (.int .u32 0) Tryz.underlying23 hi hz0 ⟨g, 0, none⟩ n n olds (by rw [hz1, hlo]; omega) (fun j v hv => by rw [e]; exact holds j v hv) ⟨ad, 0, none⟩ 1 1 [u] (by rw [hz1]; rfl) (fun j v hv => by
    cases j with
    | zero => simp at hv; subst hv; rw [e]; exact hu
    | succ j => simp at hv) (by omega) (by omega) (growslice_fits (by omega) (by rw [hz2]; omega))
  refine wpList_plain hgd fun K hK => ?_
  obtain ⟨zs, hzs⟩ : ∃ zs, zs = Builtin.zeroCells (Value.int .u32 0).cells (grownCap w (n + 1) n 24 - (n + 1)) := ⟨_, rfl⟩
  rw [← hzs] at hrun
  have hgo := hK _ _ (h (grownCap w (n + 1) n 24) (w.drew.alloc (.cells (olds.toArray ++ [u].toArray ++ zs) 24)) ((Below.refl _ _).drew.alloc (Nat.le_refl _) _) (by
    have h1 : (w.drew.alloc (.cells (olds.toArray ++ [u].toArray ++ zs) 24)).heap[w.heap.size]? = some (.cells (olds.toArray ++ [u].toArray ++ zs) 24 (0, 0)) := heap_at _ _ _ rfl
    rw [cell_of_row _ _ n _ _ (0, 0) h1]
    rw [Array.getElem?_append_left (by simp; omega), Array.getElem?_append_right (by simp; omega)]
    simp [hlo]) (by show w.drew.heap.size < _; simp))
  unfold Oper.wp execOp
  simp only [ho, resolve, invoke, builtin, Sem.run_bind, Sem.run_pure, Result.andThen_ok, List.map_toArray, List.map_cons, List.map_nil, hs, hx, hrun]
  exact hgo
def fillL (vals : List Nat) (k : Nat) : List Nat := List.replicate k 77 ++ vals.drop k
theorem fillL_len (vals : List Nat) (k : Nat) (h : k ≤ vals.length) : (fillL vals k).length = vals.length := by simp [fillL]; omega
theorem fillL_set (vals : List Nat) (k : Nat) (h : k < vals.length) : (u32V (fillL vals k)).toArray.setIfInBounds k (.int .u32 77) = (u32V (fillL vals (k + 1))).toArray := by
  rw [List.setIfInBounds_toArray]
  congr 1
  unfold fillL u32V
  rw [List.drop_eq_getElem_cons h, List.replicate_succ', List.append_assoc]
  simp
  rw [List.drop_eq_getElem_cons (by simpa using h), List.set_cons_zero]
structure FillAt (W8 : World) (Lb : Nat) (vals : List Nat) (k : Nat) (wr : World) : Prop where
  be : Below Lb W8 wr
  bl : ∀ b, b ≠ Lb → wr.heap[b]? = W8.heap[b]?
  sz : wr.heap.size = W8.heap.size
  row : wr.heap[Lb]? = some (.cells (u32V (fillL vals k)).toArray 24 (0, 0))
section
variable {W8 wr : World} {Lb k : Nat} {vals : List Nat}
theorem FillAt.start (h : W8.heap[Lb]? = some (.cells (u32V vals).toArray 24 (0, 0))) : FillAt W8 Lb vals 0 W8 := ⟨Below.refl _ _, fun _ _ => rfl, rfl, by simpa [fillL] using h⟩
theorem FillAt.next (h : FillAt W8 Lb vals k wr) (hk : k < vals.length) : FillAt W8 Lb vals (k + 1) (wr.setCell ⟨Lb, k, none⟩ (.int .u32 77)) :=
  ⟨h.be.setCell (Nat.le_refl _) _, fun b hb => (setCell_block _ _ _ _ _ hb).trans (h.bl b hb), by rw [setCell_size]; exact h.sz, row_set h.row k _ _ (fillL_set vals k hk)⟩
theorem FillAt.cell (h : FillAt W8 Lb vals k wr) {j : Nat} (hj : j < vals.length) (hk : k ≤ vals.length) : wr.cell? ⟨Lb, j, none⟩ = some (.int .u32 ((fillL vals k).getD j 0)) ∧ wr.frozen? ⟨Lb, j, none⟩ = false := by
  refine ⟨?_, by simp [World.frozen?, h.row]⟩
  rw [cell_of_row _ _ j _ _ (0, 0) h.row, List.getElem?_toArray, u32V_get _ _ (by rw [fillL_len _ _ hk]; exact hj)]
theorem FillAt.full (h : FillAt W8 Lb vals vals.length wr) {j : Nat} (hj : j < vals.length) : wr.cell? ⟨Lb, j, none⟩ = some (.int .u32 77) := by
  rw [(h.cell hj (Nat.le_refl _)).1]
  simp [fillL, List.getD_eq_getElem?_getD, hj]
theorem FillAt.other (h : FillAt W8 Lb vals k wr) {b i : Nat} (hb : b ≠ Lb) : wr.cell? ⟨b, i, none⟩ = W8.cell? ⟨b, i, none⟩ := World.cell?_of_block (a := ⟨b, i, none⟩) (h.bl b hb)
end
theorem U32At.of_own {base : Nat} {w : World} {v : Value} {xs : List Nat} (h : w.ownsRow base 24 1 v xs.length (u32V xs)) (hb : ∀ x ∈ xs, x < 4294967296) : U32At w v xs := by
  rcases h.2 with ⟨h1, h2⟩ | ⟨g, cap, cur, h1, hb', hg, hc, hm, hs, ht⟩
  · exact ⟨none, 0, by rw [h1, h2], by omega, by unfold maxLen; omega, hb, fun hne => absurd (List.eq_nil_of_length_eq_zero h2) hne⟩
  · refine ⟨_, cap, h1, hc, hm, hb, fun _ => ⟨g, 0, rfl, (h.lt g (by rw [h1]; rfl)).2, fun i hi => ?_⟩⟩
    have h5 := h.cells (g := g) (by rw [h1]; rfl) i _ (u32V_get xs i hi)
    have h6 : (⟨g, 0, none⟩ : Addr).add i = ⟨g, 0 + i, none⟩ := by unfold Addr.add; split <;> simp_all
    rw [h6] at h5; exact h5
theorem U32At.get {w : World} {a : Option Addr} {n c : Nat} {cs : List Nat} (h : U32At w (.slice a n c) cs) {k : Nat} (hk : k < cs.length) : ∃ b off, a = some ⟨b, off, none⟩ ∧ w.cell? ⟨b, off + k, none⟩ = some (.int .u32 (cs.getD k 0)) := by
  obtain ⟨ao, cap, e, -, -, -, h6⟩ := h
  simp only [Value.slice.injEq] at e
  obtain ⟨b, off, h7, -, h8⟩ := h6 (by intro h; rw [h] at hk; simp at hk)
  exact ⟨b, off, by rw [e.1, h7], h8 k hk⟩
structure XAt (q : Nat × Nat × Fl.Prog) (cs : List Nat) (F : Nat) (base : Nat) (w' : World) (ca : Option Addr) (cn cc : Nat) (sa : Option Addr) (sn sc : Nat) (dn : Bool) (er at_ : Int) : Prop where
  bad : q.1 ≠ 0 → er = q.1 ∧ at_ = q.2.1 ∧ cn = 0 ∧ sn = 0 ∧ dn = false
  cells : q.1 = 0 → cs.length ≠ q.2.2.cells.length → er = 11 ∧ at_ = -1 ∧ cn = 0 ∧ sn = 0 ∧ dn = false
  good : q.1 = 0 → cs.length = q.2.2.cells.length → er = 0 ∧ cn = cs.length ∧ cc = cs.length ∧ dn = (q.2.2.run cs F).1 ∧ ∃ Lb, ca = some ⟨Lb, 0, none⟩ ∧ EndAt base w' cs.length (q.2.2.run cs F) Lb (.slice sa sn sc)
theorem PRunEnds.shape {q : Nat × Nat × Fl.Prog} {cs : List Nat} {F : Nat} {w w' : World} {e : Ending} (h : PRunEnds q cs F w e w') : Below w.heap.size w w' ∧ ∃ ca cn cc sa sn sc dn er at_, e = .returned (.tuple #[.agg #[.slice ca cn cc, .slice sa sn sc, .bool dn], .int .i64 er, .int .i64 at_]) ∧ XAt q cs F w.heap.size w' ca cn cc sa sn sc dn er at_ := by
  obtain ⟨hb, ⟨h1, rfl⟩ | ⟨h1, h2, rfl⟩ | ⟨h1, h2, Lb, sa, sn, sc, rfl, h3⟩⟩ := h
  · exact ⟨hb, _, _, _, _, _, _, _, _, _, rfl, ⟨fun _ => ⟨rfl, rfl, rfl, rfl, rfl⟩, fun h => absurd h h1, fun h => absurd h h1⟩⟩
  · exact ⟨hb, _, _, _, _, _, _, _, _, _, rfl, ⟨fun h => absurd h1 h, fun _ _ => ⟨rfl, rfl, rfl, rfl, rfl⟩, fun _ h => absurd h h2⟩⟩
  · exact ⟨hb, _, _, _, _, _, _, _, _, _, rfl, ⟨fun h => absurd h1 h, fun _ h => absurd h2 h, fun _ _ => ⟨rfl, rfl, rfl, rfl, Lb, rfl, h3⟩⟩⟩
end Go.Proofs.YthfacjlghcdndaaGreatDoor

namespace Go.Proofs.YthfacjlghcdndaaGreatDoor
open Go.RowKit
set_option maxRecDepth 100000 in
set_option maxHeartbeats 20000000 in
theorem ran_any {w : World} {l : List UInt8} {cv : Value} {cs : List Nat} (fuel : Int) (hE : ErrType w) (hl : l.length ≤ 40000) (hg : 1 < w.heap.size) (hm : MaxLenIs w) (hcs : U32At w cv cs) (hcl : cs.length ≤ 40000) :
    Calls Tryz.prog 4 #[.string ⟨l.toArray⟩, cv, .int .i64 fuel] w fun e w' => e = .returned (.bool true) ∧ Below w.heap.size w w' := by
  obtain ⟨F, hF⟩ : ∃ F : Nat, (F : Int) = min (max fuel 0) 2000 := ⟨(min (max fuel 0) 2000).toNat, by omega⟩
  have hF2 : F ≤ 2000 := by omega
  obtain ⟨q, hq⟩ : ∃ q, q = Fl.readProg l := ⟨_, rfl⟩
  have HRUN : Hid (∀ (fv : Int) (W : World) (v : Value), (F : Int) = min (max fv 0) 2000 → Below w.heap.size w W → U32At W v cs → Calls Tryz.prog 5 #[.string ⟨l.toArray⟩, v, .int .i64 fv] W (fun e w' => Below W.heap.size W w' ∧ ∃ ca cn cc sa sn sc dn er at_, e = .returned (.tuple #[.agg #[.slice ca cn cc, .slice sa sn sc, .bool dn], .int .i64 er, .int .i64 at_]) ∧ XAt q cs F W.heap.size w' ca cn cc sa sn sc dn er at_)) := fun fv W v hfv hW hv => by
    have h1 := plain_run (l := l) fv F hfv ((hW.cell (p := ⟨0, 0, none⟩) (World.block_lt_of_cell? w _ hE)).trans hE) (by omega) (by have := hW.size; omega) (by
      obtain ⟨x, hx⟩ := hm
      exact ⟨x, (hW.cell (p := ⟨1, 0, none⟩) hg).trans hx⟩) hv (by omega)
    rw [← hq] at h1
    exact h1.mono (fun e w' h => h.shape)
  have HRD : Hid (∀ W, Calls Tryz.prog 6 #[.string ⟨l.toArray⟩] W (RReadEnds q W)) := fun W => by rw [hq]; exact rread_any l W hl
  have HQ0 : Hid (q.1 = 0 → q.2.2.Ok) := fun h => by rw [hq] at h ⊢; exact (Fl.readProg_ok l h).1
  have HCS : Hid (∀ W, Below w.heap.size w W → U32At W cv cs) := fun W hW => hcs.below hW
  have HFF : Hid ((F : Int) = min (max fuel 0) 2000) := hF
  have HF2 : Hid (F ≤ 2000) := hF2
  obtain ⟨n, hn⟩ : ∃ n, n = cs.length := ⟨_, rfl⟩
  have HN : Hid (n = cs.length) := hn
  obtain ⟨va0, vc0, hcv, hvc1, hvc2, -⟩ := hcs
  rw [← hn] at hcv hvc1 hcl
  have hnI : (n : Int) ≤ 40000 := by omega
  have hvc1I : (n : Int) ≤ (vc0 : Int) := by omega
  subst hcv
  clear hE hg hm hq hF hF2 hn hl
  go_enter Tryz.func4, Tryz.ntmps4
  go_wp2_with (at_builtin; refine wpList_append_u32 rfl (.const (.slice none 0 0)) (.tmp 25) rfl rfl _ rfl cs (HCS.out _ (Below.refl _ _)) (by rw [← HN.out]; omega) w.heap.size (Nat.le_refl _) ?_)
  intro c1 W1 hown1 hb1 hwh1
  obtain ⟨c_a, c_c, rfl⟩ : ∃ a c, c1 = .slice a n c := by
    rw [← HN.out] at hown1
    rcases hown1.2 with ⟨h1, h2⟩ | ⟨g, cp, cur, h1, _⟩
    · exact ⟨none, 0, by rw [h1, h2]⟩
    · exact ⟨_, cp, h1⟩
  have HB1 : Hid (Below w.heap.size w W1) := hb1
  have HC1 : Hid (U32At W1 (.slice c_a n c_c) cs) := by
    obtain ⟨-, -, -, -, -, h9, -⟩ := HCS.out w (Below.refl _ _)
    exact U32At.of_own hown1 h9
  clear hown1 hb1 hwh1
  go_wp2_with fail
  refine (HRUN.out fuel W1 _ HFF.out HB1.out HC1.out).mono ?_
  rintro e W2 ⟨hb2, ca, cn, cc, sa, sn, sc, dn, er, at_, rfl, hx⟩
  have HX : Hid (XAt q cs F W1.heap.size W2 ca cn cc sa sn sc dn er at_) := hx
  have HB2 : Hid (Below W1.heap.size W1 W2) := hb2
  obtain ⟨xb, hxb⟩ : ∃ xb, xb = W2.heap.size := ⟨_, rfl⟩
  clear hx hb2
  go_wp2_with fail
  obtain ⟨W3, hW3⟩ : ∃ W3, W3 = W2.alloc (.cells #[.slice ca cn cc, .slice sa sn sc, .bool dn] 29) := ⟨_, rfl⟩
  have HB3 : Hid (Below W2.heap.size W2 W3) := by show Below _ _ _; rw [hW3]; exact (Below.refl _ _).alloc (Nat.le_refl _) _
  have HXR : Hid (W3.heap[xb]? = some (.cells #[.slice ca cn cc, .slice sa sn sc, .bool dn] 29 (0, 0))) := by show _ = _; rw [hW3, hxb]; exact heap_at _ _ _ rfl
  have hxz3 : xb < W3.heap.size := by rw [hW3, hxb]; simp
  have HXB : Hid (xb = W2.heap.size) := hxb
  have HB13 : Hid (Below W1.heap.size W1 W3) := HB2.out.trans (HB3.out.mono HB2.out.size)
  rw [← hW3, ← hxb]
  clear hW3 hxb
  go_loopw [11] (fun i wr => Below W3.heap.size W3 wr ∧ ∃ k : Nat, k ≤ n ∧ i = .int .i64 k) (fun i _ => n - (intOf i).toNat)
  case atStart => exact ⟨Below.refl _ _, 0, Nat.zero_le _, rfl⟩
  case round =>
    obtain ⟨hbr, k, hk, rfl⟩ := hrel
    have HBR : Hid (Below W3.heap.size W3 wr) := hbr
    clear hbr
    by_cases hlt : k < n
    · have hkI : (k : Int) < (n : Int) := by omega
      have hkc : k < cs.length := by rw [← HN.out]; exact hlt
      have HBD : Hid (Below W3.heap.size W3 wr.drew) := HBR.out.drew
      have hW9 : Below W1.heap.size W1 wr.drew := HB13.out.trans (HBD.out.mono HB13.out.size)
      obtain ⟨e1, o1, rfl, c1⟩ := (HC1.out.below hW9).get hkc
      obtain ⟨e2, o2, rfl, c2⟩ := (HCS.out wr.drew (HB1.out.trans (hW9.mono HB1.out.size))).get hkc
      obtain ⟨cvv, hcvv⟩ : ∃ cvv, cvv = cs.getD k 0 := ⟨_, rfl⟩
      rw [← hcvv] at c1 c2
      clear hcvv hW9 hkc
      go_wp2_with fail
      refine wp_region_late (fun W => W.cell? ⟨e1, o1 + k, none⟩ = some (.int .u32 (cvv : Nat)) ∧ W.cell? ⟨e2, o2 + k, none⟩ = some (.int .u32 (cvv : Nat))) [] [(0, 0), (0, 1), (0, 2), (0, 3), (0, 4), (0, 5), (0, 6), (0, 7), (0, 8)] [] (by kernel_rfl) (by kernel_rfl) rfl [(_, _), (_, _), (_, _), (_, _), (_, _), (_, _), (_, _), (_, _), (_, _)] rfl (fun c a d v w h => by cases d <;> exact h) ⟨c1, c2⟩ (fun ops hG => ?_)
      clear hG c1 c2
      simp only [List.getElem_toArray, List.getElem_cons_succ, List.getElem_cons_zero]
      iterate 9
        refine late_read rfl (fun K hK => ?_)
        apply Exists.intro
        refine ⟨fun w' hw' => ?_, ?_⟩
        · obtain ⟨q1, q2⟩ := hw'
          go_simp
          try with_reducible rfl
        go_simp
        refine hK _ ?_
        clear hK K
      refine late_end ?_
      go_wp2
      go_roundw
      case rel => exact ⟨HBD.out, k + 1, by omega, by go_num⟩
      case measure => simp [intOf]; omega
    · have hkI : ¬ (k : Int) < (n : Int) := by omega
      go_wp2_with fail
      refine (HRD.out _).mono ?_
      rintro e W5 ⟨hb5, hbad, hgood⟩
      have HB25 : Hid (Below W2.heap.size W2 W5) := HB3.out.trans ((HBR.out.trans (hb5.mono HBR.out.size)).mono HB3.out.size)
      have HBW5 : Hid (Below w.heap.size w W5) := HB1.out.trans ((HB2.out.trans (HB25.out.mono HB2.out.size)).mono HB1.out.size)
      have HXR5 : Hid (W5.heap[xb]? = some (.cells #[.slice ca cn cc, .slice sa sn sc, .bool dn] 29 (0, 0))) := (hb5.block xb (by have := HBR.out.size; omega)).trans ((HBR.out.block xb hxz3).trans HXR.out)
      have a0 : W5.cell? ⟨xb, 0, none⟩ = some (.slice ca cn cc) := cell_of_row _ _ 0 _ _ (0, 0) HXR5.out
      have a1 : W5.cell? ⟨xb, 1, none⟩ = some (.slice sa sn sc) := cell_of_row _ _ 1 _ _ (0, 0) HXR5.out
      have a2 : W5.cell? ⟨xb, 2, none⟩ = some (.bool dn) := cell_of_row _ _ 2 _ _ (0, 0) HXR5.out
      have hz5 := hb5.size
      have hxz5 : xb < W5.heap.size := by have := HBR.out.size; omega
      by_cases h0 : q.1 = 0
      · obtain ⟨Pb, pa, pb, chv, bv, pca, pcc, rfl, hPb1, hPb2, hcp, hst⟩ := hgood h0
        have p2 : W5.cell? ⟨Pb, 2, none⟩ = some (.slice pca q.2.2.cells.length pcc) := hcp.c 2 (by omega)
        by_cases hlen : n = q.2.2.cells.length
        · obtain ⟨rfl, hcn, hcc, rfl, Lb, rfl, hend⟩ := HX.out.good h0 (by rw [← HN.out]; exact hlen)
          rw [← HN.out] at hcn hcc hend
          subst hcn
          subst hcc
          obtain ⟨R, hR⟩ : ∃ R, R = q.2.2.run cs F := ⟨_, rfl⟩
          rw [← hR] at hend a2
          have HEA : Hid (EndAt W1.heap.size W2 cc R Lb (.slice sa sn sc)) := hend
          have hLb1 : W1.heap.size ≤ Lb := hend.lb
          have hLb2 : Lb < W2.heap.size := hend.lt
          obtain ⟨vals, hvals⟩ : ∃ vals, vals = R.2.vars.take cc := ⟨_, rfl⟩
          have HVL : Hid (vals.length = cc) := by show _ = _; rw [hvals]; exact hend.len
          have HLROW : Hid (W2.heap[Lb]? = some (.cells (u32V vals).toArray 24 (0, 0))) := by show _ = _; rw [hvals]; exact hend.row
          have HQQ : Hid (q.1 = 0) := h0
          have HLL : Hid (cs.length = q.2.2.cells.length) := by rw [← HN.out]; exact hlen
          have HRR2 : Hid (q.2.2.run cs F = R) := hR.symm
          rw [← hlen] at p2
          have HRR : Hid (∀ fv : Int, fv = (F : Int) → Calls Tryz.prog 7 #[.pointer (some ⟨Pb, 0, none⟩), .slice va0 cc vc0, .int .i64 fv] W5 (RRunEnds cc R W5)) := fun fv hfv => by
            have h1 := rrun_any (w := W5) (Pb := Pb) (p := q.2.2) (cv := .slice va0 cc vc0) (cs := cs) F HF2.out pa pb (.slice pca q.2.2.cells.length pcc) chv bv hPb2 hcp (RStmts.kept (fun b hb => hb.2) (fun b hb => rfl) 4 _ _ hst) (HQ0.out h0) (HCS.out W5 HBW5.out) (by rw [← HN.out]; exact hlen)
            rw [← HN.out, ← hR] at h1
            rw [hfv]
            exact h1
          have hxw2 : W2.heap.size ≤ xb := by have := HXB.out; omega
          have hLx : Lb < xb := by omega
          have hz25 := HB25.out.size
          have hF3 : (fuel < 0 ∧ (0 : Int) = (F : Int)) ∨ (0 ≤ fuel ∧ 2000 < fuel ∧ (2000 : Int) = (F : Int)) ∨ (0 ≤ fuel ∧ fuel ≤ 2000 ∧ fuel = (F : Int)) := by have := HFF.out; omega
          clear hb5 hbad hgood hcp hst hend hR hvals h0 hlen HX HRD HQ0 hPb1 HCS HFF
          rcases hF3 with ⟨hf, hfv⟩ | ⟨hf, hf', hfv⟩ | ⟨hf, hf', hfv⟩
          all_goals
            have HFV : Hid _ := hfv
            clear hfv
            go_upto_region 9 with fail
            go_cut [] (fun wc => wc = W5)
            case first =>
              cases hb1 : ((cc : Int) == 0) <;> cases hb2 : ((sn : Int) == 0)
              all_goals
                go_wp2_with fail
                go_meet
                case rel => rfl
            case rest =>
            rw [hcut]
            clear hcut wc
            go_wp2_with fail
            refine (HRR.out _ HFV.out).mono ?_
            rintro e W6 ⟨hb6, va, vc, ta, tn, tc, rfl, hwant⟩
            have hz6 := hb6.size
            have hxz6 : xb < W6.heap.size := by omega
            have HB6 : Hid (Below W5.heap.size W5 W6) := hb6
            have HWANT : Hid (WantAt W5.heap.size W6 cc R va vc (.slice ta tn tc)) := hwant
            obtain rfl : tn = sn := by
              have h1 := (SentAt.own hwant.os hwant.sl).1
              have h2 := (SentAt.own HEA.out.os HEA.out.sl).1
              rw [h1, h2]
            have a0' : W6.cell? ⟨xb, 0, none⟩ = some (.slice (some ⟨Lb, 0, none⟩) cc cc) := (hb6.cell (p := ⟨xb, 0, none⟩) hxz5).trans a0
            have a1' : W6.cell? ⟨xb, 1, none⟩ = some (.slice sa tn sc) := (hb6.cell (p := ⟨xb, 1, none⟩) hxz5).trans a1
            have a2' : W6.cell? ⟨xb, 2, none⟩ = some (.bool R.1) := (hb6.cell (p := ⟨xb, 2, none⟩) hxz5).trans a2
            obtain ⟨W7, hW7⟩ : ∃ W7, W7 = W6.alloc (.cells #[.slice va cc vc, .slice ta tn tc, .bool R.1] 29) := ⟨_, rfl⟩
            have HB7 : Hid (Below W6.heap.size W6 W7) := by show Below _ _ _; rw [hW7]; exact (Below.refl _ _).alloc (Nat.le_refl _) _
            have hz7 : W6.heap.size < W7.heap.size := by rw [hW7]; simp
            have HW7R : Hid (W7.heap[W6.heap.size]? = some (.cells #[.slice va cc vc, .slice ta tn tc, .bool R.1] 29 (0, 0))) := by show _ = _; rw [hW7]; exact heap_at _ _ _ rfl
            have HBX : Hid (Below W2.heap.size W2 W7) := HB25.out.trans ((HB6.out.trans (HB7.out.mono hz6)).mono HB25.out.size)
            have HENDED : Hid (Calls Tryz.prog 8 #[.agg #[.slice (some ⟨Lb, 0, none⟩) cc cc, .slice sa tn sc, .bool R.1], .agg #[.slice va cc vc, .slice ta tn tc, .bool R.1]] W7 fun e w' => e = .returned (.bool true) ∧ Below W7.heap.size W7 w') :=
              ended_same R.1 ((HEA.out.cells (by omega)).below HBX.out) ((HWANT.out.cells (by omega)).below HB7.out) ((SentAt.own HEA.out.os HEA.out.sl).below HBX.out) ((SentAt.own HWANT.out.os HWANT.out.sl).below HB7.out)
            obtain ⟨wb, hwb⟩ : ∃ wb, wb = W6.heap.size := ⟨_, rfl⟩
            have HWB : Hid (wb = W6.heap.size) := hwb
            have HW7 : Hid (W6.alloc (.cells #[.slice va cc vc, .slice ta tn tc, .bool R.1] 29) = W7) := hW7.symm
            clear hb6 hwant a0 a1 a2 hW7 hwb
            go_wp2_with fail
            rw [HW7.out, ← HWB.out]
            refine HENDED.out.mono ?_
            rintro e W8 ⟨rfl, hb8⟩
            have HB8 : Hid (Below W7.heap.size W7 W8) := hb8
            have hz8 := hb8.size
            have hxz8 : xb < W8.heap.size := by omega
            have z0 : W8.cell? ⟨xb, 0, none⟩ = some (.slice (some ⟨Lb, 0, none⟩) cc cc) := (hb8.cell (p := ⟨xb, 0, none⟩) (by show xb < _; omega)).trans ((HB7.out.cell (p := ⟨xb, 0, none⟩) hxz6).trans a0')
            have HROW8 : Hid (W8.heap[Lb]? = some (.cells (u32V vals).toArray 24 (0, 0))) := ((hb8.block Lb (by omega)).trans (HBX.out.block Lb (by omega))).trans HLROW.out
            have HWR8 : Hid (W8.heap[wb]? = some (.cells #[.slice va cc vc, .slice ta tn tc, .bool R.1] 29 (0, 0))) := by
              have h1 := HWB.out
              rw [h1]
              exact (hb8.block _ hz7).trans HW7R.out
            have hwb8 : wb < W8.heap.size := by have := HWB.out; omega
            have hLw : Lb < wb := by have := HWB.out; omega
            have hxw : xb < wb := by have := HWB.out; omega
            have hwb5 : W5.heap.size ≤ wb := by have := HWB.out; omega
            have HK8 : Hid (∀ b, W5.heap.size ≤ b → b < W6.heap.size → W8.heap[b]? = W6.heap[b]?) := fun b h1 h2 => (HB8.out.block b (by omega)).trans (HB7.out.block b h2)
            have HBW8 : Hid (Below W1.heap.size W1 W8) := HB2.out.trans ((HBX.out.trans (HB8.out.mono HBX.out.size)).mono HB2.out.size)
            clear hb8 HENDED HW7 a0' a1' a2' HW7R HB7 HB8 HB6 HBX HRR
            go_wp2_with fail
            obtain ⟨wo, hwo⟩ : ∃ wo, wo = wr := ⟨_, rfl⟩
            subst hwo
            go_loopw [18] (fun i wr => ∃ k : Nat, k ≤ cc ∧ i = .int .i64 k ∧ FillAt W8 Lb vals k wr) (fun i _ => cc - (intOf i).toNat)
            case atStart => exact ⟨0, Nat.zero_le _, rfl, FillAt.start HROW8.out⟩
            case round =>
              obtain ⟨k, hk, rfl, hfill⟩ := hrel
              have HFL : Hid (FillAt W8 Lb vals k wr) := hfill
              have y0 : wr.cell? ⟨xb, 0, none⟩ = some (.slice (some ⟨Lb, 0, none⟩) cc cc) := (hfill.other (by omega)).trans z0
              clear hfill
              by_cases hlt : k < cc
              · have hkI : (k : Int) < (cc : Int) := by omega
                have hkv : k < vals.length := by rw [HVL.out]; exact hlt
                obtain ⟨y1, y2⟩ := HFL.out.cell hkv (by omega)
                have HNX : Hid (FillAt W8 Lb vals (k + 1) (wr.setCell ⟨Lb, k, none⟩ (.int .u32 77))) := HFL.out.next hkv
                obtain ⟨yv, hyv⟩ : ∃ yv, yv = (fillL vals k).getD k 0 := ⟨_, rfl⟩
                rw [← hyv] at y1
                clear hyv
                go_wp2
                go_roundw
                case rel => exact ⟨k + 1, by omega, by go_num, HNX.out⟩
                case measure => simp [intOf]; omega
              · have hkI : ¬ (k : Int) < (cc : Int) := by omega
                have hkn : k = vals.length := by rw [HVL.out]; omega
                rw [hkn] at HFL
                have HBWR : Hid (Below w.heap.size w wr) := HB1.out.trans ((HBW8.out.trans (HFL.out.be.mono hLb1)).mono HB1.out.size)
                have hzr : wr.heap.size = W8.heap.size := HFL.out.sz
                have HSZ : Hid (wr.heap.size = W8.heap.size) := hzr
                have hxr : xb < wr.heap.size := by omega
                have hLr : Lb < wr.heap.size := by omega
                have hwr : wb < wr.heap.size := by omega
                have HWRR : Hid (wr.heap[wb]? = some (.cells #[.slice va cc vc, .slice ta tn tc, .bool R.1] 29 (0, 0))) := (HFL.out.bl wb (by omega)).trans HWR8.out
                have HCWR : Hid (U32At wr (.slice c_a cc c_c) cs) := HC1.out.below (HBW8.out.trans (HFL.out.be.mono hLb1))
                clear hkn hzr
                obtain ⟨Wm, hWm⟩ : ∃ Wm, Wm = wr.alloc (.cells #[.int .u32 78] 24) := ⟨_, rfl⟩
                have HBm : Hid (Below wr.heap.size wr Wm) := by show Below _ _ _; rw [hWm]; exact (Below.refl _ _).alloc (Nat.le_refl _) _
                obtain ⟨tb, htb⟩ : ∃ tb, tb = wr.heap.size := ⟨_, rfl⟩
                have HTB : Hid (tb = wr.heap.size) := htb
                have HHU : Hid (Wm.cell? ⟨tb, 0, none⟩ = some (.int .u32 78)) := by show _ = _; rw [hWm, htb]; simp
                have HOLD : Hid (∀ j v, (u32V (List.replicate cc 77))[j]? = some v → Wm.cell? ⟨Lb, j, none⟩ = some v) := fun j v hv => by
                  have hj : j < cc := by
                    have := (List.getElem?_eq_some_iff.1 hv).1
                    simpa [u32V] using this
                  have h1 : (u32V (List.replicate cc 77))[j]? = some (.int .u32 77) := by simp [u32V, hj]
                  rw [h1] at hv
                  simp only [Option.some.injEq] at hv
                  rw [← hv]
                  exact (HBm.out.cell (p := ⟨Lb, j, none⟩) hLr).trans (HFL.out.full (by rw [HVL.out]; exact hj))
                have HWM : Hid (wr.alloc (.cells #[.int .u32 78] 24) = Wm) := hWm.symm
                clear htb hWm
                go_wp2_with (at_builtin; rw [HWM.out]; refine wpList_append_full rfl (.tmp 130) (.tmp 131) rfl Lb cc rfl (u32V (List.replicate cc 77)) (by simp [u32V]) HOLD.out tb (.int .u32 78) (by rw [HTB.out]; rfl) HHU.out (by omega) ?_)
                intro mcap W11 hb11 hm11 hmz
                obtain ⟨mb, hmb⟩ : ∃ mb, mb = Wm.heap.size := ⟨_, rfl⟩
                rw [← hmb] at hm11 hmz ⊢
                have HB11 : Hid (Below wr.heap.size wr W11) := HBm.out.trans (hb11.mono HBm.out.size)
                have HM11 : Hid (W11.cell? ⟨mb, cc, none⟩ = some (.int .u32 78)) := hm11
                clear hb11 hm11 HOLD HHU HWM HTB HBm hmb
                have hz11 : wr.heap.size ≤ W11.heap.size := HB11.out.size
                have HFV2 : Hid (∀ fv : Int, fv = (F : Int) → (F : Int) = min (max fv 0) 2000) := fun fv h => by have := HF2.out; omega
                go_wp2_with fail
                refine (HRUN.out _ W11 _ (HFV2.out _ HFV.out) (HBWR.out.trans (HB11.out.mono HBWR.out.size)) (HCWR.out.below HB11.out)).mono ?_
                rintro e W12 ⟨hb12, ca2, cn2, cc2, sa2, sn2, sc2, dn2, er2, at2, rfl, hx2⟩
                obtain ⟨rfl, hcn2, hcc2, rfl, Lb2, rfl, hend2⟩ := hx2.good HQQ.out HLL.out
                rw [← HN.out] at hcn2 hcc2 hend2
                rw [HRR2.out] at hend2
                rw [hcn2, hcc2, HRR2.out]
                obtain rfl : sn2 = tn := by
                  have h1 := (SentAt.own hend2.os hend2.sl).1
                  have h2 := (SentAt.own HEA.out.os HEA.out.sl).1
                  rw [h1, h2]
                have HE2 : Hid (EndAt W11.heap.size W12 cc R Lb2 (.slice sa2 sn2 sc2)) := hend2
                have HB12 : Hid (Below W11.heap.size W11 W12) := hb12
                have hz12 := hb12.size
                have HWR12 : Hid (W12.heap[wb]? = some (.cells #[.slice va cc vc, .slice ta sn2 tc, .bool R.1] 29 (0, 0))) := (hb12.block wb (by omega)).trans ((HB11.out.block wb hwr).trans HWRR.out)
                have w0' : W12.cell? ⟨wb, 0, none⟩ = some (.slice va cc vc) := cell_of_row _ _ 0 _ _ (0, 0) HWR12.out
                have w1' : W12.cell? ⟨wb, 1, none⟩ = some (.slice ta sn2 tc) := cell_of_row _ _ 1 _ _ (0, 0) HWR12.out
                have w2' : W12.cell? ⟨wb, 2, none⟩ = some (.bool R.1) := cell_of_row _ _ 2 _ _ (0, 0) HWR12.out
                have hwz12 : wb < W12.heap.size := by omega
                obtain ⟨W13, hW13⟩ : ∃ W13, W13 = W12.alloc (.cells #[.slice (some ⟨Lb2, 0, none⟩) cc cc, .slice sa2 sn2 sc2, .bool R.1] 29) := ⟨_, rfl⟩
                have HB13 : Hid (Below W12.heap.size W12 W13) := by show Below _ _ _; rw [hW13]; exact (Below.refl _ _).alloc (Nat.le_refl _) _
                have HWANT13 : Hid (WantAt W5.heap.size W13 cc R va vc (.slice ta sn2 tc)) := HWANT.out.kept (Nat.le_refl _) (by have := HB13.out.size; have := HWB.out; omega) (fun b h1 h2 => by
                  have h3 := HWB.out
                  exact (HB13.out.block b (by omega)).trans ((HB12.out.block b (by omega)).trans ((HB11.out.block b (by omega)).trans ((HFL.out.bl b (by omega)).trans (HK8.out b h1 h2)))))
                have HENDED : Hid (Calls Tryz.prog 8 #[.agg #[.slice (some ⟨Lb2, 0, none⟩) cc cc, .slice sa2 sn2 sc2, .bool R.1], .agg #[.slice va cc vc, .slice ta sn2 tc, .bool R.1]] W13 fun e w' => e = .returned (.bool true) ∧ Below W13.heap.size W13 w') :=
                  ended_same R.1 ((HE2.out.cells (by omega)).below HB13.out) (HWANT13.out.cells (by omega)) ((SentAt.own HE2.out.os HE2.out.sl).below HB13.out) (SentAt.own HWANT13.out.os HWANT13.out.sl)
                have HW13 : Hid (W12.alloc (.cells #[.slice (some ⟨Lb2, 0, none⟩) cc cc, .slice sa2 sn2 sc2, .bool R.1] 29) = W13) := hW13.symm
                have HBF : Hid (Below wr.heap.size wr W13) := HB11.out.trans ((HB12.out.trans (HB13.out.mono hz12)).mono HB11.out.size)
                have HM13 : Hid (W13.cell? ⟨mb, cc, none⟩ = some (.int .u32 78) ∧ mb < W13.heap.size) := ⟨(HB13.out.cell (p := ⟨mb, cc, none⟩) (by show mb < _; omega)).trans ((HB12.out.cell (p := ⟨mb, cc, none⟩) hmz).trans HM11.out), by have := HB13.out.size; omega⟩
                clear hb12 hx2 hend2 hcn2 hcc2 hW13 HRUN
                go_wp2_with fail
                rw [HW13.out]
                refine HENDED.out.mono ?_
                rintro e W14 ⟨rfl, hb14⟩
                have hz13 := HBF.out.size
                have v0 : W14.cell? ⟨xb, 0, none⟩ = some (.slice (some ⟨Lb, 0, none⟩) cc cc) := (hb14.cell (p := ⟨xb, 0, none⟩) (by show xb < _; omega)).trans ((HBF.out.cell (p := ⟨xb, 0, none⟩) hxr).trans y0)
                have vm : W14.cell? ⟨mb, cc, none⟩ = some (.int .u32 78) := (hb14.cell (p := ⟨mb, cc, none⟩) HM13.out.2).trans HM13.out.1
                have HV77 : Hid (∀ j, j < cc → W14.cell? ⟨Lb, j, none⟩ = some (.int .u32 77)) := fun j hj => (hb14.cell (p := ⟨Lb, j, none⟩) (by show Lb < _; omega)).trans ((HBF.out.cell (p := ⟨Lb, j, none⟩) hLr).trans (HFL.out.full (by rw [HVL.out]; exact hj)))
                have HB14 : Hid (Below w.heap.size w W14) := HBWR.out.trans ((HBF.out.trans (hb14.mono HBF.out.size)).mono HBWR.out.size)
                clear hb14 w0' w1' w2' y0 HENDED HW13
                go_wp2_with fail
                obtain ⟨wo2, hwo2⟩ : ∃ wo, wo = wr := ⟨_, rfl⟩
                subst hwo2
                go_loopw [23, 24] (fun ag i wr => wr = W14 ∧ ∃ k : Nat, k ≤ cc ∧ i = .int .i64 k ∧ ag = .bool true) (fun _ i _ => cc - (intOf i).toNat)
                case atStart => exact ⟨rfl, 0, Nat.zero_le _, rfl, rfl⟩
                case round =>
                  obtain ⟨hwr9, k9, hk9, rfl, rfl⟩ := hrel
                  rw [hwr9]
                  clear hwr9 wr
                  by_cases hlt9 : k9 < cc
                  · have hkI9 : (k9 : Int) < (cc : Int) := by omega
                    have v7 := HV77.out k9 hlt9
                    go_wp2
                    go_roundw
                    case rel => exact ⟨by first | rfl | trivial, k9 + 1, by omega, by go_num, rfl⟩
                    case measure => simp [intOf]; omega
                  · have hkI9 : ¬ (k9 : Int) < (cc : Int) := by omega
                    go_wp2
                    go_ret
                    exact ⟨rfl, HB14.out⟩
        · obtain ⟨rfl, rfl, rfl, rfl, rfl⟩ := HX.out.cells h0 (by rw [← HN.out]; exact hlen)
          obtain ⟨mc, hmc⟩ : ∃ mc, mc = q.2.2.cells.length := ⟨_, rfl⟩
          rw [← hmc] at p2 hlen
          have bne : ((n : Int) != (mc : Int)) = true := by rw [bne_iff_ne]; omega
          clear hb5 hbad hgood hcp hst h0 hlen hmc
          go_wp2
          go_ret
          exact ⟨rfl, HBW5.out⟩
      · obtain rfl := hbad h0
        obtain ⟨rfl, rfl, rfl, rfl, rfl⟩ := HX.out.bad h0
        obtain ⟨q1, hq1⟩ : ∃ q1, q1 = q.1 := ⟨_, rfl⟩
        rw [← hq1] at h0 ⊢
        have b0 : ((q1 : Int) != 0) = true := by rw [bne_iff_ne]; omega
        clear hb5 hbad hgood h0 hq1
        go_wp2
        go_ret
        exact ⟨rfl, HBW5.out⟩
end Go.Proofs.YthfacjlghcdndaaGreatDoor
