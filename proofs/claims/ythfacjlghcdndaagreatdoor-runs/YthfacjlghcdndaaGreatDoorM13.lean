/- Texts Prq Prr Prs Prt. -/
import Derived.Test.YthfacjlghcdndaaGreatDoorM12
set_option linter.unusedSimpArgs false
set_option linter.unusedVariables false
namespace Go.Proofs.YthfacjlghcdndaaGreatDoor
open Go.RowKit

structure TurnAt (w w' : World) (b o n : Nat) : Prop where
  g : w.grownBy w' (some b)
  c : ∀ j, j < o ∨ o + n ≤ j → w'.cell? ⟨b, j, none⟩ = w.cell? ⟨b, j, none⟩
  z : ∀ j, w'.frozen? ⟨b, j, none⟩ = w.frozen? ⟨b, j, none⟩
theorem TurnAt.refl (w : World) (b o n : Nat) : TurnAt w w b o n := ⟨World.grownBy.refl _ _, fun _ _ => rfl, fun _ => rfl⟩
theorem TurnAt.trans {w w1 w2 : World} {b o n : Nat} (h : TurnAt w w1 b o n) (k : TurnAt w1 w2 b o n) : TurnAt w w2 b o n :=
  ⟨⟨k.g.os.trans h.g.os, k.g.tape.trans h.g.tape, k.g.output.trans h.g.output, Nat.le_trans h.g.size k.g.size, fun i hi hne => (k.g.block i (Nat.lt_of_lt_of_le hi h.g.size) hne).trans (h.g.block i hi hne)⟩, fun j hj => (k.c j hj).trans (h.c j hj), fun j => (k.z j).trans (h.z j)⟩
theorem TurnAt.set (w : World) (b o n j : Nat) (v : Value) (hj : o ≤ j ∧ j < o + n) : TurnAt w (w.setCell ⟨b, j, none⟩ v) b o n :=
  ⟨(SameBut.set w b o n j v hj).g, (SameBut.set w b o n j v hj).c, (SameBut.set w b o n j v hj).z⟩
theorem TurnAt.alloc {w : World} {b o n : Nat} (x : Obj) (hb : b < w.heap.size) : TurnAt w (w.alloc x) b o n :=
  have hq : (w.alloc x).heap[b]? = w.heap[b]? := ((Below.refl w.heap.size w).alloc (Nat.le_refl _) x).block b hb
  ⟨World.grownBy_alloc _ _ _, fun j _ => World.cell?_of_block (a := ⟨b, j, none⟩) hq, fun j => World.frozen?_of_block (a := ⟨b, j, none⟩) hq⟩
theorem TurnAt.block {w w' : World} {b o n : Nat} (h : TurnAt w w' b o n) (k : Nat) (hk : k < w.heap.size) (hne : k ≠ b) : w'.heap[k]? = w.heap[k]? := h.g.block k hk (by simpa using hne)

set_option maxRecDepth 100000 in
set_option maxHeartbeats 1000000 in
theorem upward_any (cb Lb x y : Nat) (b : Bool) (w : World) (hx : x < 6) (hy : y < 6) (hc : w.cell? ⟨cb, 0, none⟩ = some (.pointer (some ⟨Lb, 0, none⟩))) (ht : w.cell? ⟨Lb, 1 + x * 6 + y, none⟩ = some (.bool b)) :
    Calls Tryz.prog 100 #[.int .i64 x, .int .i64 y, .pointer (some ⟨cb, 0, none⟩)] w fun e w' => e = .returned (.bool b) ∧ w' = w := by
  have hxI : (x : Int) < 6 := by omega
  have hyI : (y : Int) < 6 := by omega
  go_enter Tryz.func100, Tryz.ntmps100
  go_wp2
  go_ret
  exact ⟨rfl, rfl⟩
set_option maxRecDepth 100000 in
set_option maxHeartbeats 1000000 in
theorem downward_any (cb Lb x y : Nat) (b : Bool) (w : World) (hx : x < 6) (hy : y < 6) (hc : w.cell? ⟨cb, 0, none⟩ = some (.pointer (some ⟨Lb, 0, none⟩))) (ht : w.cell? ⟨Lb, 1 + y * 6 + x, none⟩ = some (.bool b)) :
    Calls Tryz.prog 101 #[.int .i64 x, .int .i64 y, .pointer (some ⟨cb, 0, none⟩)] w fun e w' => e = .returned (.bool b) ∧ w' = w := by
  have hxI : (x : Int) < 6 := by omega
  have hyI : (y : Int) < 6 := by omega
  go_enter Tryz.func101, Tryz.ntmps101
  go_wp2
  go_ret
  exact ⟨rfl, rfl⟩
theorem pairOk_parts (n : Nat) (t : Fl.Tab) (i j : Nat) : Fl.pairOk n t i j = (!((i != j) && t i j && t j i) && (!decide (Fl.join n t i j < 0) && !decide (Fl.meet n t i j < 0))) := by
  unfold Fl.pairOk
  congr 2
  · simp only [← decide_not]; congr 1; simp
  · simp only [← decide_not]; congr 1; simp

def FjEnds (Lb n : Nat) (t : Fl.Tab) (w : World) (e : Ending) (w' : World) : Prop :=
  TurnAt w w' Lb 37 36 ∧ ((e = .returned (.bool true) ∧ ∀ i j, i < n → j < n → Fl.pairOk n t i j = true ∧ w'.cell? ⟨Lb, 37 + i * 6 + j, none⟩ = some (.int .i64 (Fl.join n t i j))) ∨ (e = .returned (.bool false) ∧ ∃ i j, i < n ∧ j < n ∧ Fl.pairOk n t i j = false))
structure FjRel (Lb n : Nat) (t : Fl.Tab) (w : World) (k1 k2 : Nat) (wr : World) : Prop where
  tu : TurnAt w wr Lb 37 36
  cb : wr.cell? ⟨w.heap.size, 0, none⟩ = some (.pointer (some ⟨Lb, 0, none⟩))
  ex : ∀ k, 37 ≤ k → k < 73 → ∃ v, wr.cell? ⟨Lb, k, none⟩ = some v
  dn : ∀ i j, (i < k1 ∧ j < n) ∨ (i = k1 ∧ j < k2) → Fl.pairOk n t i j = true ∧ wr.cell? ⟨Lb, 37 + i * 6 + j, none⟩ = some (.int .i64 (Fl.join n t i j))
theorem FjRel.next {Lb n : Nat} {t : Fl.Tab} {w wr : World} {k1 k2 : Nat} (h : FjRel Lb n t w k1 k2 wr) (hL : Lb < w.heap.size) (hn : n ≤ 6) (h1 : k1 < n) (h2 : k2 < n) (hp : Fl.pairOk n t k1 k2 = true) : FjRel Lb n t w k1 (k2 + 1) (wr.setCell ⟨Lb, 37 + k1 * 6 + k2, none⟩ (.int .i64 (Fl.join n t k1 k2))) := by
  obtain ⟨v, hv⟩ := h.ex (37 + k1 * 6 + k2) (by omega) (by omega)
  refine ⟨h.tu.trans (TurnAt.set _ _ _ _ _ _ (by omega)), ?_, fun k hk hk2 => ?_, fun i j hij => ?_⟩
  · refine (World.cell?_setCell_other _ _ _ _ ?_).trans h.cb
    intro hh; injection hh with h3; omega
  · by_cases hkk : k = 37 + k1 * 6 + k2
    · exact ⟨_, by rw [hkk]; exact World.cell?_setCell_same' _ _ _ (by simp [hv])⟩
    · obtain ⟨u, hu⟩ := h.ex k hk hk2
      exact ⟨u, (World.cell?_setCell_other _ _ _ _ (by intro hh; injection hh with _ h3; exact hkk (by omega))).trans hu⟩
  · by_cases he : i = k1 ∧ j = k2
    · obtain ⟨rfl, rfl⟩ := he
      exact ⟨hp, World.cell?_setCell_same' _ _ _ (by simp [hv])⟩
    · have hd := h.dn i j (by omega)
      refine ⟨hd.1, (World.cell?_setCell_other _ _ _ _ ?_).trans hd.2⟩
      intro hh; injection hh with _ h3; apply he; omega
theorem FjRel.row {Lb n : Nat} {t : Fl.Tab} {w wr : World} {k1 : Nat} (h : FjRel Lb n t w k1 n wr) : FjRel Lb n t w (k1 + 1) 0 wr := ⟨h.tu, h.cb, h.ex, fun i j hij => h.dn i j (by omega)⟩
set_option maxRecDepth 100000 in
set_option maxHeartbeats 4000000 in
theorem findJoins_any (Lb n : Nat) (t : Fl.Tab) (w : World) (hn : n ≤ 6) (hc0 : w.cell? ⟨Lb, 0, none⟩ = some (.int .i64 n)) (ht : TabIn w Lb 1 t) (hj : ∀ k, 37 ≤ k → k < 73 → ∃ v, w.cell? ⟨Lb, k, none⟩ = some v) (hz : ∀ j, w.frozen? ⟨Lb, j, none⟩ = false) :
    Calls Tryz.prog 92 #[.pointer (some ⟨Lb, 0, none⟩)] w (FjEnds Lb n t w) := by
  have hmf : ∀ (fn : Fn) (first cap : Array Value) (w : World), (Instr.makeFunc fn first cap).run Tryz.prog w = .ok (.func fn first cap) w := fun _ _ _ _ => rfl
  have hLz : Lb < w.heap.size := World.block_lt_of_cell? w _ hc0
  have HT : Hid (TabIn w Lb 1 t) := ht
  have HJ : Hid (∀ k, 37 ≤ k → k < 73 → ∃ v, w.cell? ⟨Lb, k, none⟩ = some v) := hj
  have HZ : Hid (∀ j, w.frozen? ⟨Lb, j, none⟩ = false) := hz
  have HC0 : Hid (w.cell? ⟨Lb, 0, none⟩ = some (.int .i64 n)) := hc0
  have hnI : (n : Int) ≤ 6 := by omega
  have c0 : ∀ o, (w.alloc o).cell? ⟨Lb, 0, none⟩ = some (.int .i64 n) := fun o => (World.cell?_alloc_lt _ _ _ hLz).trans hc0
  clear ht hj hz hc0
  go_enter Tryz.func92, Tryz.ntmps92
  go_wp2_with fail
  go_step3
  go_wp2_with fail
  go_step3
  go_wp2_with fail
  clear c0
  go_loopw [5, 17] (fun v i wr => v = .bool true ∧ ∃ k : Nat, k ≤ n ∧ i = .int .i64 k ∧ FjRel Lb n t w k 0 wr) (fun _ i _ => n - (intOf i).toNat)
  case atStart => exact ⟨rfl, 0, by omega, rfl, TurnAt.alloc _ hLz, World.cell?_alloc_new _ _ _ _, fun k hk hk2 => (by obtain ⟨v, hv⟩ := HJ.out k hk hk2; exact ⟨v, (World.cell?_alloc_lt _ _ _ hLz).trans hv⟩), fun i j hij => by omega⟩
  case round =>
    obtain ⟨rfl, k1, hk1, rfl, hr1⟩ := hrel
    have HR1 : Hid (FjRel Lb n t w k1 0 wr) := hr1
    clear hr1
    by_cases hlt1 : k1 < n
    · have h1I : (k1 : Int) < (n : Int) := by omega
      have cb1 := HR1.out.cb
      have c01 : wr.cell? ⟨Lb, 0, none⟩ = some (.int .i64 n) := (HR1.out.tu.c 0 (by omega)).trans HC0.out
      go_wp2_with fail
      clear cb1 c01
      obtain ⟨wo, hwo⟩ : ∃ wo, wo = wr := ⟨_, rfl⟩
      subst hwo
      go_loopw [5, 24] (fun v i wr2 => v = .bool true ∧ ∃ k : Nat, k ≤ n ∧ i = .int .i64 k ∧ FjRel Lb n t w k1 k wr2) (fun _ i _ => n - (intOf i).toNat)
      case atStart => exact ⟨rfl, 0, by omega, rfl, HR1.out⟩
      case round =>
        obtain ⟨rfl, k2, hk2, rfl, hr2⟩ := hrel
        have HR2 : Hid (FjRel Lb n t w k1 k2 wr) := hr2
        clear hr2
        by_cases hlt2 : k2 < n
        · have h2I : (k2 : Int) < (n : Int) := by omega
          have cb2 := HR2.out.cb
          have c02 : wr.cell? ⟨Lb, 0, none⟩ = some (.int .i64 n) := (HR2.out.tu.c 0 (by omega)).trans HC0.out
          have HTU : Hid (∀ i j, i < 6 → j < 6 → wr.cell? ⟨Lb, 1 + i * 6 + j, none⟩ = some (.bool (t i j))) := fun i j hi hj => (HR2.out.tu.c (1 + i * 6 + j) (by omega)).trans (HT.out i j hi hj)
          have q12 := HTU.out k1 k2 (by omega) (by omega)
          have q21 := HTU.out k2 k1 (by omega) (by omega)
          have HUP : Hid (Calls Tryz.prog 102 #[.int .i64 n, .int .i64 k1, .int .i64 k2, .func (.func 100) #[] #[.pointer (some ⟨w.heap.size, 0, none⟩)]] wr fun e w' => e = .returned (.int .i64 (Fl.join n t k1 k2)) ∧ w' = wr) :=
            bound_any n k1 k2 t 100 #[.pointer (some ⟨w.heap.size, 0, none⟩)] wr hn hlt1 hlt2 (fun args W => by kernel_rfl) (fun x y hx hy => upward_any w.heap.size Lb x y (t x y) wr (by omega) (by omega) cb2 (HTU.out x y (by omega) (by omega)))
          have HDN : Hid (Calls Tryz.prog 102 #[.int .i64 n, .int .i64 k1, .int .i64 k2, .func (.func 101) #[] #[.pointer (some ⟨w.heap.size, 0, none⟩)]] wr fun e w' => e = .returned (.int .i64 (Fl.meet n t k1 k2)) ∧ w' = wr) :=
            bound_any n k1 k2 (fun i j => t j i) 101 #[.pointer (some ⟨w.heap.size, 0, none⟩)] wr hn hlt1 hlt2 (fun args W => by kernel_rfl) (fun x y hx hy => downward_any w.heap.size Lb x y (t y x) wr (by omega) (by omega) cb2 (HTU.out y x (by omega) (by omega)))
          obtain ⟨jn, hjn⟩ : ∃ jn, jn = Fl.join n t k1 k2 := ⟨_, rfl⟩
          obtain ⟨mt, hmt⟩ : ∃ mt, mt = Fl.meet n t k1 k2 := ⟨_, rfl⟩
          obtain ⟨x12, hx12⟩ : ∃ x, x = t k1 k2 := ⟨_, rfl⟩
          obtain ⟨x21, hx21⟩ : ∃ x, x = t k2 k1 := ⟨_, rfl⟩
          rw [← hjn] at HUP
          rw [← hmt] at HDN
          rw [← hx12] at q12
          rw [← hx21] at q21
          have hP := pairOk_parts n t k1 k2
          rw [← hjn, ← hmt, ← hx12, ← hx21] at hP
          have HP : Hid (Fl.pairOk n t k1 k2 = (!((k1 != k2) && x12 && x21) && (!decide (jn < 0) && !decide (mt < 0)))) := hP
          have HJN : Hid (jn = Fl.join n t k1 k2) := hjn
          obtain ⟨ve, hve⟩ := HR2.out.ex (37 + k1 * 6 + k2) (by omega) (by omega)
          have hfz : ∀ j, wr.frozen? ⟨Lb, j, none⟩ = false := fun j => (HR2.out.tu.z j).trans (HZ.out j)
          have HNX : Hid (Fl.pairOk n t k1 k2 = true → FjRel Lb n t w k1 (k2 + 1) (wr.setCell ⟨Lb, 37 + k1 * 6 + k2, none⟩ (.int .i64 jn))) := fun hp => by rw [hjn]; exact HR2.out.next hLz hn hlt1 hlt2 hp
          clear hP hjn hmt hx12 hx21
          by_cases hne : k1 = k2
          · have hneI : ((k1 : Int) != (k2 : Int)) = false := by rw [hne]; simp
            have HNE : Hid ((k1 != k2) = false) := by show _ = _; rw [hne]; simp
            clear hne
            go_wp2_with fail
            refine HUP.out.mono ?_
            rintro e w1 ⟨rfl, hw1⟩
            rw [hw1]
            clear hw1 w1
            go_wp2_with fail
            refine HDN.out.mono ?_
            rintro e w1 ⟨rfl, hw1⟩
            rw [hw1]
            clear hw1 w1 HUP HDN
            have HTW : Hid (((k1 != k2) && x12 && x21) = false) := by show _ = _; rw [HNE.out]; rfl
            by_cases hj0 : jn < 0
            · skip
              have HB : Hid (Fl.pairOk n t k1 k2 = false) := by show _ = _; rw [HP.out]; simp [hj0]
              go_wp2_with fail
              try rw [Exit.noGoto_ret]
              go_ret
              exact ⟨HR2.out.tu, .inr ⟨rfl, k1, k2, hlt1, hlt2, HB.out⟩⟩
            · by_cases hm0 : mt < 0
              · skip
                have HB : Hid (Fl.pairOk n t k1 k2 = false) := by show _ = _; rw [HP.out]; simp [hm0]
                go_wp2_with fail
                try rw [Exit.noGoto_ret]
                go_ret
                exact ⟨HR2.out.tu, .inr ⟨rfl, k1, k2, hlt1, hlt2, HB.out⟩⟩
              · have HG : Hid (FjRel Lb n t w k1 (k2 + 1) (wr.setCell ⟨Lb, 37 + k1 * 6 + k2, none⟩ (.int .i64 jn))) := HNX.out (by rw [HP.out, HTW.out]; simp [hj0, hm0])
                go_wp2
                go_roundw
                case rel => exact ⟨by first | rfl | trivial, k2 + 1, by omega, by go_num, HG.out⟩
                case measure => simp [intOf]; omega
          · have hneI : ((k1 : Int) != (k2 : Int)) = true := by rw [bne_iff_ne]; omega
            have HNE : Hid ((k1 != k2) = true) := bne_iff_ne.2 hne
            cases x12 with
            | false =>
              go_wp2_with fail
              refine HUP.out.mono ?_
              rintro e w1 ⟨rfl, hw1⟩
              rw [hw1]
              clear hw1 w1
              go_wp2_with fail
              refine HDN.out.mono ?_
              rintro e w1 ⟨rfl, hw1⟩
              rw [hw1]
              clear hw1 w1 HUP HDN
              have HTW : Hid (((k1 != k2) && false && x21) = false) := by show _ = _; simp
              by_cases hj0 : jn < 0
              · skip
                have HB : Hid (Fl.pairOk n t k1 k2 = false) := by show _ = _; rw [HP.out]; simp [hj0]
                go_wp2_with fail
                try rw [Exit.noGoto_ret]
                go_ret
                exact ⟨HR2.out.tu, .inr ⟨rfl, k1, k2, hlt1, hlt2, HB.out⟩⟩
              · by_cases hm0 : mt < 0
                · skip
                  have HB : Hid (Fl.pairOk n t k1 k2 = false) := by show _ = _; rw [HP.out]; simp [hm0]
                  go_wp2_with fail
                  try rw [Exit.noGoto_ret]
                  go_ret
                  exact ⟨HR2.out.tu, .inr ⟨rfl, k1, k2, hlt1, hlt2, HB.out⟩⟩
                · have HG : Hid (FjRel Lb n t w k1 (k2 + 1) (wr.setCell ⟨Lb, 37 + k1 * 6 + k2, none⟩ (.int .i64 jn))) := HNX.out (by rw [HP.out, HTW.out]; simp [hj0, hm0])
                  go_wp2
                  go_roundw
                  case rel => exact ⟨by first | rfl | trivial, k2 + 1, by omega, by go_num, HG.out⟩
                  case measure => simp [intOf]; omega
            | true =>
              cases x21 with
              | false =>
                go_wp2_with fail
                refine HUP.out.mono ?_
                rintro e w1 ⟨rfl, hw1⟩
                rw [hw1]
                clear hw1 w1
                go_wp2_with fail
                refine HDN.out.mono ?_
                rintro e w1 ⟨rfl, hw1⟩
                rw [hw1]
                clear hw1 w1 HUP HDN
                have HTW : Hid (((k1 != k2) && true && false) = false) := by show _ = _; simp
                by_cases hj0 : jn < 0
                · skip
                  have HB : Hid (Fl.pairOk n t k1 k2 = false) := by show _ = _; rw [HP.out]; simp [hj0]
                  go_wp2_with fail
                  try rw [Exit.noGoto_ret]
                  go_ret
                  exact ⟨HR2.out.tu, .inr ⟨rfl, k1, k2, hlt1, hlt2, HB.out⟩⟩
                · by_cases hm0 : mt < 0
                  · skip
                    have HB : Hid (Fl.pairOk n t k1 k2 = false) := by show _ = _; rw [HP.out]; simp [hm0]
                    go_wp2_with fail
                    try rw [Exit.noGoto_ret]
                    go_ret
                    exact ⟨HR2.out.tu, .inr ⟨rfl, k1, k2, hlt1, hlt2, HB.out⟩⟩
                  · have HG : Hid (FjRel Lb n t w k1 (k2 + 1) (wr.setCell ⟨Lb, 37 + k1 * 6 + k2, none⟩ (.int .i64 jn))) := HNX.out (by rw [HP.out, HTW.out]; simp [hj0, hm0])
                    go_wp2
                    go_roundw
                    case rel => exact ⟨by first | rfl | trivial, k2 + 1, by omega, by go_num, HG.out⟩
                    case measure => simp [intOf]; omega
              | true =>
                go_wp2_with fail
                refine HUP.out.mono ?_
                rintro e w1 ⟨rfl, hw1⟩
                rw [hw1]
                clear hw1 w1
                go_wp2_with fail
                refine HDN.out.mono ?_
                rintro e w1 ⟨rfl, hw1⟩
                rw [hw1]
                clear hw1 w1 HUP HDN
                have HB : Hid (Fl.pairOk n t k1 k2 = false) := by show _ = _; rw [HP.out]; rw [HNE.out]; rfl
                go_wp2_with fail
                try rw [Exit.noGoto_ret]
                go_ret
                exact ⟨HR2.out.tu, .inr ⟨rfl, k1, k2, hlt1, hlt2, HB.out⟩⟩
        · have h2I : ¬ (k2 : Int) < (n : Int) := by omega
          obtain rfl : k2 = n := by omega
          have HRW : Hid (FjRel Lb k2 t w (k1 + 1) 0 wr) := HR2.out.row
          go_wp2
          go_roundw
          case rel => exact ⟨by first | rfl | trivial, k1 + 1, by omega, by go_num, HRW.out⟩
          case measure => simp [intOf]; omega
    · have h1I : ¬ (k1 : Int) < (n : Int) := by omega
      go_wp2_with fail
      try rw [Exit.noGoto_ret]
      go_ret
      exact ⟨HR1.out.tu, .inl ⟨rfl, fun i j hi hj => HR1.out.dn i j (.inl ⟨by omega, hj⟩)⟩⟩
end Go.Proofs.YthfacjlghcdndaaGreatDoor

namespace Go.Proofs.YthfacjlghcdndaaGreatDoor
open Go.RowKit

theorem lowTo_lt' {n : Nat} (t : Fl.Tab) (hn : 0 < n) (m : Nat) (hm : m ≤ n) : Fl.lowTo t m < n := Fl.lowTo_lt t hn m hm
set_option maxRecDepth 100000 in
set_option maxHeartbeats 2000000 in
theorem findLowest_any (Lb n : Nat) (t : Fl.Tab) (w : World) (hn : n ≤ 6) (hn0 : 0 < n) (hc0 : w.cell? ⟨Lb, 0, none⟩ = some (.int .i64 n)) (ht : TabIn w Lb 1 t) (hl : w.cell? ⟨Lb, 73, none⟩ = some (.int .i64 0)) (hz : ∀ j, w.frozen? ⟨Lb, j, none⟩ = false) :
    Calls Tryz.prog 93 #[.pointer (some ⟨Lb, 0, none⟩)] w fun e w' => e = .returned (.tuple #[]) ∧ TurnAt w w' Lb 73 1 ∧ w'.cell? ⟨Lb, 73, none⟩ = some (.int .i64 (Fl.lowTo t n)) := by
  have HT : Hid (TabIn w Lb 1 t) := ht
  have HZ : Hid (∀ j, w.frozen? ⟨Lb, j, none⟩ = false) := hz
  have hnI : (n : Int) ≤ 6 := by omega
  have HL : Hid (w.cell? ⟨Lb, 73, none⟩ = some (.int .i64 0)) := hl
  clear ht hz hl
  go_enter Tryz.func93, Tryz.ntmps93
  go_wp2_with fail
  clear hc0
  go_loopw [7] (fun i wr => ∃ k : Nat, k ≤ n ∧ i = .int .i64 k ∧ TurnAt w wr Lb 73 1 ∧ wr.cell? ⟨Lb, 73, none⟩ = some (.int .i64 (Fl.lowTo t k))) (fun i _ => n - (intOf i).toNat)
  case atStart => exact ⟨0, by omega, rfl, TurnAt.refl _ _ _ _, HL.out⟩
  case round =>
    obtain ⟨k, hk, rfl, htu, hlo⟩ := hrel
    have HTU : Hid (TurnAt w wr Lb 73 1) := htu
    clear htu
    by_cases hlt : k < n
    · have hI : (k : Int) < (n : Int) := by omega
      have hlk := Fl.lowTo_lt t hn0 k (by omega)
      have q := (HTU.out.c (1 + k * 6 + Fl.lowTo t k) (by omega)).trans (HT.out k (Fl.lowTo t k) (by omega) (by omega))
      have hz' : ∀ j, wr.frozen? ⟨Lb, j, none⟩ = false := fun j => (HTU.out.z j).trans (HZ.out j)
      obtain ⟨lo, hlo'⟩ : ∃ lo, lo = Fl.lowTo t k := ⟨_, rfl⟩
      rw [← hlo'] at hlo hlk q
      have hstep : Fl.lowTo t (k + 1) = if t k lo then k else lo := by rw [hlo']; rfl
      have HST : Hid (Fl.lowTo t (k + 1) = if t k lo then k else lo) := hstep
      obtain ⟨xk, hxk⟩ : ∃ x, x = t k lo := ⟨_, rfl⟩
      rw [← hxk] at q
      have HXK : Hid (xk = t k lo) := hxk
      have hloI : (lo : Int) < 6 := by omega
      have hkI6 : (k : Int) < 6 := by omega
      clear hstep hlo' hxk
      go_wp2_with fail
      refine wp_region_still_lit (by kernel_rfl) (by kernel_rfl) ?_
      iterate 11 still_step
      refine wpStill_nil ?_
      change Exit.then _ _ _ _ wr.drew
      have hl2 : wr.drew.cell? ⟨Lb, 73, none⟩ = some (.int .i64 lo) := hlo
      have HTD : Hid (TurnAt w wr.drew Lb 73 1) := ⟨⟨HTU.out.g.os, HTU.out.g.tape, HTU.out.g.output, HTU.out.g.size, HTU.out.g.block⟩, HTU.out.c, HTU.out.z⟩
      have hz2 : ∀ j, wr.drew.frozen? ⟨Lb, j, none⟩ = false := hz'
      clear hlo q hz' HTU
      generalize wr.drew = W at *
      cases xk with
      | true =>
        have HN : Hid (Fl.lowTo t (k + 1) = k) := by show _ = _; rw [HST.out, ← HXK.out]; rfl
        have HS : Hid (TurnAt w (W.setCell ⟨Lb, 73, none⟩ (.int .i64 k)) Lb 73 1 ∧ (W.setCell ⟨Lb, 73, none⟩ (.int .i64 k)).cell? ⟨Lb, 73, none⟩ = some (.int .i64 k)) := ⟨HTD.out.trans (TurnAt.set _ _ _ _ _ _ (by omega)), World.cell?_setCell_same' _ _ _ (by simp [hl2])⟩
        go_wp2
        go_roundw
        case rel => exact ⟨k + 1, by omega, by go_num, HS.out.1, by rw [HN.out]; exact HS.out.2⟩
        case measure => simp [intOf]; omega
      | false =>
        have HN : Hid (Fl.lowTo t (k + 1) = lo) := by show _ = _; rw [HST.out, ← HXK.out]; rfl
        go_wp2
        go_roundw
        case rel => exact ⟨k + 1, by omega, by go_num, HTD.out, by rw [HN.out]; exact hl2⟩
        case measure => simp [intOf]; omega
    · obtain rfl : k = n := by omega
      have hI : ¬ (k : Int) < (k : Int) := by omega
      go_wp2_with fail
      go_end0
      exact ⟨rfl, HTU.out, hlo⟩

def tabL (t : Fl.Tab) : List Value := (List.range 36).map fun k => .bool (t (k / 6) (k % 6))
theorem tabL_at (t : Fl.Tab) (i j : Nat) (hi : i < 6) (hj : j < 6) : (tabL t)[i * 6 + j]? = some (.bool (t i j)) := by
  have e1 : (i * 6 + j) / 6 = i := by omega
  have e2 : (i * 6 + j) % 6 = j := by omega
  unfold tabL
  rw [List.getElem?_map, List.getElem?_range (by omega)]
  simp only [Option.map_some, e1, e2]
def latL (n : Nat) (t : Fl.Tab) : List Value := [.int .i64 n] ++ tabL t ++ List.replicate 36 (.int .i64 0) ++ [.int .i64 0]
theorem run_loadAt_cells {P : Program} (w : World) (g o : Nat) (ty : TypeId) (cs : List Value) (d : TypeDesc) (hc : ∀ j v, cs[j]? = some v → w.cell? ⟨g, o + j, none⟩ = some v)
    (hu : P.underlying ty = some d) (hd : (match d with | .struct _ | .array _ _ => true | _ => false) = true) (hi : (P.info? ty).map (·.size) = some cs.length) :
    (Instr.loadAt ty (.pointer (some ⟨g, o, none⟩))).run P w = .ok (.agg cs.toArray) w := by
  have hl : (loadCells ⟨g, o, none⟩ cs.length).run P w = .ok cs.toArray w :=
    run_loadCells_list (P := P) w ⟨g, o, none⟩ cs (fun j v hv => by
      have hadd : (⟨g, o, none⟩ : Addr).add j = ⟨g, o + j, none⟩ := by unfold Addr.add; split <;> simp_all
      rw [hadd]; exact hc j v hv)
  cases hq : P.info? ty with
  | none => simp [hq] at hi
  | some i =>
    have hs : i.size = cs.length := by simpa [hq] using hi
    have hagg : (isAgg ty).run P w = .ok true w := by
      unfold isAgg
      rw [Sem.run_bind, run_underlying hu w]
      cases d <;> simp_all
    simp only [Instr.loadAt, Instr.sureAddr, Sem.run_bind, Sem.run_pure, Result.andThen]
    unfold loadVar
    simp [Sem.run_bind, hagg, sizeOf, typeInfo, hq, hs, hl, Result.andThen]
end Go.Proofs.YthfacjlghcdndaaGreatDoor

namespace Go.Proofs.YthfacjlghcdndaaGreatDoor
open Go.RowKit

theorem Tryz.infoTab : (Tryz.prog.info? 95).map (·.size) = some 36 := by kernel_rfl
theorem tabL_len (t : Fl.Tab) : (tabL t).length = 36 := by simp [tabL]
theorem build_lat (n : Nat) (t : Fl.Tab) (w : World) : (Instr.build 190 #[(0, .int .i64 n), (1, .agg (tabL t).toArray)]).run Tryz.prog w = .ok (.agg (latL n t).toArray) w := by kernel_rfl
theorem latL_cells (n : Nat) (t : Fl.Tab) : (latL n t)[0]? = some (.int .i64 n) ∧ (∀ i j, i < 6 → j < 6 → (latL n t)[1 + i * 6 + j]? = some (.bool (t i j))) ∧ (∀ k, 37 ≤ k → k < 73 → ∃ v, (latL n t)[k]? = some v) ∧ (latL n t)[73]? = some (.int .i64 0) := by
  have hl : (tabL t).length = 36 := tabL_len t
  refine ⟨rfl, fun i j hi hj => ?_, fun k hk hk2 => ?_, ?_⟩
  · unfold latL
    rw [List.append_assoc, List.append_assoc, List.singleton_append, Nat.add_assoc, Nat.add_comm 1, List.getElem?_cons_succ, List.getElem?_append_left (by omega)]
    exact tabL_at t i j hi hj
  · have : k < (latL n t).length := by simp [latL, hl]; omega
    exact ⟨_, List.getElem?_eq_getElem this⟩
  · rfl
theorem exec_load_cells {P : Program} {w : World} {o : Oper} {a : Act} (x : Operand) (ty : TypeId) (ho : o.op = .load ty x) (g q : Nat) (hx : a.eval x = .pointer (some ⟨g, q, none⟩)) (cs : List Value) (d : TypeDesc) (hc : ∀ j v, cs[j]? = some v → w.cell? ⟨g, q + j, none⟩ = some v)
    (hu : P.underlying ty = some d) (hd : (match d with | .struct _ | .array _ _ => true | _ => false) = true) (hi : (P.info? ty).map (·.size) = some cs.length) : (execOp a.eval o).run P w = .ok (.value (.agg cs.toArray)) w := by
  unfold execOp
  simp only [ho, Sem.run_bind, hx, run_loadAt_cells w g q ty cs d hc hu hd hi, Result.andThen_ok, Sem.run_pure]
theorem exec_build {P : Program} {w : World} {o : Oper} {a : Act} (t : TypeId) (parts : Array (Nat × Operand)) (ho : o.op = .build t parts) (arr : Array Value) (vals : Array (Nat × Value)) (hv : (parts.map fun (i, x) => (i, a.eval x)) = vals)
    (hrun : (Instr.build t vals).run P w = .ok (.agg arr) w) : (execOp a.eval o).run P w = .ok (.value (.agg arr)) w := by
  unfold execOp
  simp only [ho, Sem.run_bind, hv, hrun, Result.andThen_ok, Sem.run_pure]
namespace Fl
theorem fw_congr (n : Nat) (t r : Tab) (h : ∀ i j, i < n → j < n → t i j = r i j) : ∀ k, k ≤ n → ∀ i j, i < n → j < n → fw k t i j = fw k r i j
  | 0, _, i, j, hi, hj => h i j hi hj
  | k + 1, hk, i, j, hi, hj => by
    have ih := fw_congr n t r h k (by omega)
    simp only [fw, fwStep, ih i j hi hj, ih i k hi (by omega), ih k j (by omega) hj]
theorem lowTo_congr (n : Nat) (t r : Tab) (hn : 0 < n) (h : ∀ i j, i < n → j < n → t i j = r i j) : ∀ k, k ≤ n → lowTo t k = lowTo r k
  | 0, _ => rfl
  | k + 1, hk => by
    have ih := lowTo_congr n t r hn h k (by omega)
    simp only [lowTo, ih, h k (lowTo r k) (by omega) (lowTo_lt r hn k (by omega))]
end Fl
def LtEnds (n : Nat) (t : Fl.Tab) (w : World) (e : Ending) (w' : World) : Prop :=
  Below w.heap.size w w' ∧ ((Fl.lattice n (Fl.fw n t) = true ∧ e = .returned (.tuple #[ptr w.heap.size, .bool true]) ∧ w.heap.size < w'.heap.size ∧ ∀ r : Fl.Tab, (∀ i j, i < n → j < n → Fl.fw n t i j = r i j) → Fl.Lat n r → LatAt w' w.heap.size n r) ∨ (Fl.lattice n (Fl.fw n t) = false ∧ e = .returned (.tuple #[.pointer none, .bool false])))
theorem grown_below {w0 w w' : World} {b lo : Nat} (h : Below lo w0 w) (hg : w.grownBy w' (some b)) (hb : lo ≤ b) (hz : lo ≤ w.heap.size) : Below lo w0 w' :=
  h.grown hg hz (fun k hk => by simp only [Option.some.injEq] at hk; omega)
set_option maxRecDepth 100000 in
set_option maxHeartbeats 2000000 in
theorem lattice_any (R n : Nat) (t : Fl.Tab) (w : World) (hn : n ≤ 6) (c3 : w.cell? ⟨R, 3, none⟩ = some (.int .i64 n)) (ht : TabIn w R 4 t) :
    Calls Tryz.prog 80 #[.pointer (some ⟨R, 3, none⟩)] w (LtEnds n t w) := by
  have HT : Hid (TabIn w R 4 t) := ht
  have hRz : R < w.heap.size := World.block_lt_of_cell? w _ c3
  have hld : ∀ j v, (tabL t)[j]? = some v → w.drew.cell? ⟨R, 4 + j, none⟩ = some v := fun j v hv => by
    have hj : j < 36 := by rw [← tabL_len t]; exact (List.getElem?_eq_some_iff.1 hv).1
    have h1 := tabL_at t (j / 6) (j % 6) (by omega) (by omega)
    rw [show j / 6 * 6 + j % 6 = j by omega] at h1
    rw [h1] at hv
    simp only [Option.some.injEq] at hv
    have h2 := ht (j / 6) (j % 6) (by omega) (by omega)
    rw [show 4 + j / 6 * 6 + j % 6 = 4 + j by omega, hv] at h2
    exact h2
  have HLD : Hid (∀ j v, (tabL t)[j]? = some v → w.drew.cell? ⟨R, 4 + j, none⟩ = some v) := hld
  obtain ⟨tl, htl⟩ : ∃ tl, tl = tabL t := ⟨_, rfl⟩
  obtain ⟨ll, hll⟩ : ∃ ll, ll = latL n t := ⟨_, rfl⟩
  have HBD : Hid (∀ W : World, (Instr.build 190 #[(0, .int .i64 n), (1, .agg tl.toArray)]).run Tryz.prog W = .ok (.agg ll.toArray) W) := fun W => by rw [htl, hll]; exact build_lat n t W
  have HTL : Hid (tl = tabL t) := htl
  have HLL : Hid (ll = latL n t) := hll
  rw [← htl] at HLD
  clear ht hld htl hll
  go_enter Tryz.func80, Tryz.ntmps80
  go_wp2_with fail
  refine wp_region_still_tail 9 (by kernel_rfl) (by kernel_rfl) ?_
  simp only [List.take_succ_cons, List.take_zero, List.drop_succ_cons, List.drop_zero]
  iterate 7 still_step
  refine still_value rfl (.agg tl.toArray) (exec_load_cells _ 95 rfl R 4 rfl tl _ HLD.out Tryz.underlying95 rfl (by rw [HTL.out, tabL_len]; exact Tryz.infoTab)) ?_
  refine still_value rfl (.agg ll.toArray) (exec_build 190 _ rfl ll.toArray _ (by kernel_rfl) (HBD.out _)) ?_
  refine wpStill_nil ?_
  go_wp2_with fail
  obtain ⟨W, hW⟩ : ∃ W, W = (w.alloc (.cells ll.toArray 190)).drew := ⟨_, rfl⟩
  obtain ⟨Lb, hLb⟩ : ∃ Lb, Lb = w.heap.size := ⟨_, rfl⟩
  have hB : Below w.heap.size w W := by rw [hW]; exact ((Below.refl _ _).alloc (Nat.le_refl _) _).drew
  have hcl : ∀ k v, ll[k]? = some v → W.cell? ⟨Lb, k, none⟩ = some v := fun k v hv => by
    rw [hW, hLb]; show (w.alloc (.cells ll.toArray 190)).cell? _ = _; rw [World.cell?_alloc_new]; simpa using hv
  have hzl : ∀ k, W.frozen? ⟨Lb, k, none⟩ = false := fun k => by
    rw [hW, hLb]; show (w.alloc (.cells ll.toArray 190)).frozen? _ = _; rw [World.frozen?, heap_alloc_new]; simp
  have hsz : W.heap.size = w.heap.size + 1 := by rw [hW]; simp
  obtain ⟨k0, k1, k2, k3⟩ := latL_cells n t
  rw [← HLL.out] at k0 k1 k2 k3
  have HT1 : Hid (TabIn W Lb 1 t) := fun i j hi hj => hcl _ _ (k1 i j hi hj)
  have a0 : W.cell? ⟨Lb, 0, none⟩ = some (.int .i64 n) := hcl _ _ k0
  have HEX : Hid (∀ k, 37 ≤ k → k < 73 → ∃ v, W.cell? ⟨Lb, k, none⟩ = some v) := fun k hk hk2 => by obtain ⟨v, hv⟩ := k2 k hk hk2; exact ⟨v, hcl _ _ hv⟩
  have HA73 : Hid (W.cell? ⟨Lb, 73, none⟩ = some (.int .i64 0)) := hcl _ _ k3
  have HZL : Hid (∀ k, W.frozen? ⟨Lb, k, none⟩ = false) := hzl
  have HB : Hid (Below w.heap.size w W) := hB
  have d3 : W.cell? ⟨R, 3, none⟩ = some (.int .i64 n) := (hB.cell (p := ⟨R, 3, none⟩) hRz).trans c3
  have HA0 : Hid (W.cell? ⟨Lb, 0, none⟩ = some (.int .i64 n)) := a0
  have HLB : Hid (Lb = w.heap.size) := hLb
  have hsz' : W.heap.size = Lb + 1 := by omega
  have HSZ : Hid (W.heap.size = Lb + 1) := hsz'
  have HCP : Hid (Calls Tryz.prog 91 #[.pointer (some ⟨Lb, 1, none⟩), .int .i64 n] W.drew fun e w' => e = .returned (.tuple #[]) ∧ SameBut W.drew w' Lb 1 36 ∧ ∃ t', TabIn w' Lb 1 t' ∧ (∀ i j, i < n → j < n → t' i j = Fl.fw n t i j)) := complete_any Lb 1 n t W.drew hn HT1.out hzl
  rw [← hW, ← hLb]
  clear hW hLb hB hcl hzl hsz hsz' k0 k1 k2 k3 c3 hRz HBD HLD HTL HLL HT
  refine wp_region_still_tail 7 (by kernel_rfl) (by kernel_rfl) ?_
  simp only [List.take_succ_cons, List.take_zero, List.drop_succ_cons, List.drop_zero]
  iterate 7 still_step
  refine wpStill_nil ?_
  clear d3 a0
  go_wp2_with fail
  refine HCP.out.mono ?_
  rintro e W2 ⟨rfl, hs2, t', ht', hfw⟩
  have HS2 : Hid (SameBut W.drew W2 Lb 1 36) := hs2
  have HTB : Hid (TabIn W2 Lb 1 t') := ht'
  have HFW : Hid (∀ i j, i < n → j < n → t' i j = Fl.fw n t i j) := hfw
  have b0 : W2.cell? ⟨Lb, 0, none⟩ = some (.int .i64 n) := (hs2.c 0 (by omega)).trans HA0.out
  have HB2 : Hid (Below w.heap.size w W2) := by
    refine grown_below HB.out.drew hs2.g (by rw [HLB.out]; exact Nat.le_refl _) ?_
    have := HSZ.out; have := HLB.out; simp; omega
  have HZ2 : Hid (∀ k, W2.frozen? ⟨Lb, k, none⟩ = false) := fun k => (hs2.z k).trans (HZL.out k)
  have HL2 : Hid (W2.cell? ⟨Lb, 73, none⟩ = some (.int .i64 0)) := (hs2.c 73 (by omega)).trans HA73.out
  have HE2 : Hid (∀ k, 37 ≤ k → k < 73 → ∃ v, W2.cell? ⟨Lb, k, none⟩ = some v) := fun k hk hk2 => by obtain ⟨v, hv⟩ := HEX.out k hk hk2; exact ⟨v, (hs2.c k (by omega)).trans hv⟩
  have HZS : Hid (W2.heap.size = Lb + 1) := by show _ = _; rw [hs2.s]; exact HSZ.out
  have HLEQ : Hid (Fl.lattice n t' = Fl.lattice n (Fl.fw n t)) := Fl.lattice_congr hfw
  clear hs2 ht' hfw HCP HS2 HT1 HEX HA73 HZL HA0
  by_cases hn0 : n = 0
  · have b1 : ((n : Int) == 0) = true := by rw [hn0]; rfl
    have HLF : Hid (Fl.lattice n (Fl.fw n t) = false) := by show _ = _; rw [hn0]; rfl
    clear hn0
    go_wp2
    go_ret2
    exact ⟨HB2.out, .inr ⟨HLF.out, rfl⟩⟩
  · have b1 : ((n : Int) == 0) = false := by rw [beq_eq_false_iff_ne]; omega
    have hn1 : 0 < n := by omega
    have HFJ : Hid (Calls Tryz.prog 92 #[.pointer (some ⟨Lb, 0, none⟩)] W2 (FjEnds Lb n t' W2)) := findJoins_any Lb n t' W2 hn b0 HTB.out HE2.out HZ2.out
    have HB0 : Hid (W2.cell? ⟨Lb, 0, none⟩ = some (.int .i64 n)) := b0
    go_wp2_with fail
    refine HFJ.out.mono ?_
    rintro e W3 ⟨htu, hcase⟩
    have HB3 : Hid (Below w.heap.size w W3) := by
      refine grown_below HB2.out htu.g (by rw [HLB.out]; exact Nat.le_refl _) ?_
      have := HZS.out; have := HLB.out; omega
    clear b0 HFJ
    rcases hcase with ⟨rfl, hall⟩ | ⟨rfl, i, j, hi, hj, hbad⟩
    · have HLT : Hid (Fl.lattice n (Fl.fw n t) = true) := by
        show _ = _
        rw [← HLEQ.out]
        exact (Fl.lattice_iff n t').2 ⟨hn1, fun i j hi hj => (hall i j hi hj).1⟩
      have HTB3 : Hid (TabIn W3 Lb 1 t') := fun i j hi hj => (htu.c (1 + i * 6 + j) (by omega)).trans (HTB.out i j hi hj)
      have h03 : W3.cell? ⟨Lb, 0, none⟩ = some (.int .i64 n) := (htu.c 0 (by omega)).trans HB0.out
      have HZ3 : Hid (∀ k, W3.frozen? ⟨Lb, k, none⟩ = false) := fun k => (htu.z k).trans (HZ2.out k)
      have HJ3 : Hid (∀ i j, i < n → j < n → W3.cell? ⟨Lb, 37 + i * 6 + j, none⟩ = some (.int .i64 (Fl.join n t' i j))) := fun i j hi hj => (hall i j hi hj).2
      have HFL : Hid (Calls Tryz.prog 93 #[.pointer (some ⟨Lb, 0, none⟩)] W3 fun e w' => e = .returned (.tuple #[]) ∧ TurnAt W3 w' Lb 73 1 ∧ w'.cell? ⟨Lb, 73, none⟩ = some (.int .i64 (Fl.lowTo t' n))) := findLowest_any Lb n t' W3 hn hn1 h03 HTB3.out ((htu.c 73 (by omega)).trans HL2.out) HZ3.out
      have H03 : Hid (W3.cell? ⟨Lb, 0, none⟩ = some (.int .i64 n)) := h03
      have hz3 : Lb < W3.heap.size := World.block_lt_of_cell? W3 _ h03
      clear htu hall h03
      go_wp2_with fail
      refine HFL.out.mono ?_
      rintro e W4 ⟨rfl, htu4, hlow⟩
      have HFIN : Hid (Below w.heap.size w W4 ∧ w.heap.size < W4.heap.size ∧ ∀ r : Fl.Tab, (∀ i j, i < n → j < n → Fl.fw n t i j = r i j) → Fl.Lat n r → LatAt W4 w.heap.size n r) := by
        rw [← HLB.out]
        refine ⟨?_, by have := htu4.g.size; omega, fun r hr hlat => ?_⟩
        · rw [HLB.out]
          exact grown_below HB3.out htu4.g (by rw [HLB.out]; exact Nat.le_refl _) (by have := HLB.out; omega)
        · have hcong : ∀ i j, i < n → j < n → t' i j = r i j := fun i j hi hj => (HFW.out i j hi hj).trans (hr i j hi hj)
          refine ⟨fun j => (htu4.z j).trans (HZ3.out j), (htu4.c 0 (by omega)).trans H03.out, fun i j hi hj => ?_, fun i j hi hj => ?_, ?_⟩
          · rw [← hcong i j hi hj, show 1 + 6 * i + j = 1 + i * 6 + j by omega]
            exact (htu4.c _ (by omega)).trans (HTB3.out i j (by omega) (by omega))
          · rw [← Fl.join_congr hcong hi hj, show 37 + 6 * i + j = 37 + i * 6 + j by omega]
            exact (htu4.c _ (by omega)).trans (HJ3.out i j hi hj)
          · rw [hlow, Fl.lowTo_congr n t' r hn1 hcong n (Nat.le_refl _), Fl.lowTo_bottom hlat]
      clear htu4 hlow HFL
      go_wp2
      go_ret2
      exact ⟨HFIN.out.1, .inl ⟨HLT.out, by rw [← HLB.out]; rfl, HFIN.out.2⟩⟩
    · have HLF : Hid (Fl.lattice n (Fl.fw n t) = false) := by
        show _ = _
        rw [← HLEQ.out, Bool.eq_false_iff]
        intro h
        have := ((Fl.lattice_iff n t').1 h).2 i j hi hj
        rw [hbad] at this; cases this
      clear htu hbad
      go_wp2
      go_ret2
      exact ⟨HB3.out, .inr ⟨HLF.out, rfl⟩⟩
end Go.Proofs.YthfacjlghcdndaaGreatDoor

namespace Go.Proofs.YthfacjlghcdndaaGreatDoor
open Go.RowKit
section
variable {lo base R Pb lm vm cm : Nat} {w0 w w' : World} {r : Fl.RS} {line : Int} {m : PMem}
theorem PrAt.begins (h : PrAt lo base R Pb lm vm cm w0 w r line m) (hb : r.begun = false) (hlat : Fl.lattice r.levels.length r.tab = true) {W : World} (hW : Below w.heap.size w W) (hz : w.heap.size < W.heap.size) (hl : LatAt W w.heap.size r.levels.length r.tab) :
    ∃ m', PrAt lo base R Pb lm vm cm w0 ((W.setCell ⟨Pb, 0, none⟩ (ptr w.heap.size)).setCell ⟨R, 2, none⟩ (.bool true)) { r with begun := true } line m' := by
  obtain ⟨b1, b2, b3, b4, b5, b6⟩ := h.hba
  obtain ⟨l1, l2, l3, l4, l5⟩ := h.hlo
  obtain ⟨n1, n2, n3, n4, n5, n6, n7, n8, n9, n10⟩ := h.nd
  have hk := h.below hW
  obtain ⟨WF, hWF⟩ : ∃ WF, WF = (W.setCell ⟨Pb, 0, none⟩ (ptr w.heap.size)).setCell ⟨R, 2, none⟩ (.bool true) := ⟨_, rfl⟩
  rw [← hWF]
  have hzf : WF.heap.size = W.heap.size := by rw [hWF, setCell_size, setCell_size]
  have q : ∀ b, b ≠ R → b ≠ Pb → WF.heap[b]? = W.heap[b]? := fun b h1 h2 => by rw [hWF, setCell_block _ _ _ _ _ h1, setCell_block _ _ _ _ _ h2]
  have hwho : ∀ b, m.who b ≠ 5 → b ≠ w.heap.size := fun b hb' => by have := h.re.wh b hb'; omega
  have hbut := hk.re.but (w' := WF) 6 (by decide) (fun b => if b = w.heap.size then 0 else m.who b) (fun b h5 _ => ⟨if_neg (hwho b h5), q b (by have := h.re.wh b h5; omega) (by have := h.re.wh b h5; omega)⟩)
  refine ⟨{ m with pl := ptr w.heap.size, who := fun b => if b = w.heap.size then 0 else m.who b }, ?_⟩
  refine { ok := ?ok, bel := ?bel, fx := fun b f1 f2 f3 f4 f5 f6 => ((q b f2 f3).trans (hW.block b (by omega))).trans (h.fx b f1 f2 f3 f4 f5 f6), hlo := h.hlo, hba := ⟨b1, b2, b3, b4, b5, by omega⟩, nd := h.nd, cR := ?cR, cP := ?cP, nl := hk.nl.block (q _ (Ne.symm n2) (Ne.symm n5)), nv := hk.nv.block (q _ (Ne.symm n3) (Ne.symm n6)), nc := hk.nc.block (q _ (Ne.symm n4) (Ne.symm n7)), tab := h.tab, re := ?re }
  case ok =>
    exact { cn := h.ok.cn, lv := h.ok.lv, ce := h.ok.ce, ch := h.ok.ch, lo := h.ok.lo, st := h.ok.st, fr := h.ok.fr, cl := h.ok.cl, hl := h.ok.hl, pairs := h.ok.pairs, kinds := h.ok.kinds, head := fun hh => (by cases hh), below := h.ok.below, clv := h.ok.clv, chv := h.ok.chv, lat := fun _ => hlat }
  case bel => rw [hWF]; exact (hk.bel.setCell l2 _).setCell l1 _
  case cR =>
    have hc := (hk.cR.block (w' := W.setCell ⟨Pb, 0, none⟩ (ptr w.heap.size)) (setCell_block _ _ _ _ _ n1)).set (j := 2) (by omega) (.bool true)
    rw [← hWF] at hc
    refine hc.congr fun j hj => ?_
    by_cases h2 : j = 2
    · subst h2; rfl
    · rw [if_neg h2]
      unfold rdCell
      by_cases hs : j = 0 ∨ j = 1 ∨ j = 3 ∨ j = 40 ∨ j = 41 ∨ j = 42 ∨ j = 43 ∨ j = 44
      · rcases hs with rfl | rfl | rfl | rfl | rfl | rfl | rfl | rfl <;> rfl
      · rw [if_neg (show ¬ j = 0 by omega), if_neg (show ¬ j = 1 by omega), if_neg h2, if_neg (show ¬ j = 0 by omega), if_neg (show ¬ j = 1 by omega), if_neg h2]
  case cP =>
    have hc := (hk.cP.set (j := 0) (by omega) (ptr w.heap.size)).block (w' := WF) (by rw [hWF]; exact setCell_block _ _ _ _ _ (Ne.symm n1))
    refine hc.congr fun k hk => ?_
    rcases (show k = 0 ∨ k = 1 ∨ k = 2 ∨ k = 3 ∨ k = 4 by omega) with rfl | rfl | rfl | rfl | rfl <;> rfl
  case re =>
    exact { wh := fun b hb' => by
              by_cases hbe : b = w.heap.size
              · omega
              · have hb2 : (if b = w.heap.size then 0 else m.who b) ≠ 5 := hb'
                rw [if_neg hbe] at hb2
                have := h.re.wh b hb2; omega
            oc := (hbut.oc (by decide)).1, tc := (hbut.oc (by decide)).2, oh := (hbut.oh (by decide)).1, th := (hbut.oh (by decide)).2, pb := (hbut.pb (by decide)).1, tb := (hbut.pb (by decide)).2, fa := hbut.fa (.inl (by decide)), oo := (hbut.oo (by decide)).1, to := (hbut.oo (by decide)).2,
            la := fun _ => ⟨w.heap.size, rfl, if_pos rfl, hl.block (q _ (by omega) (by omega))⟩ }
set_option maxRecDepth 100000 in
set_option maxHeartbeats 1000000 in
theorem begin_any (h : PrAt lo base R Pb lm vm cm w0 w r line m) (hbg : r.begun = false) (v : Value) (k : List UInt8) (hv : ∃ ao n c, v = .slice ao n c) :
    Calls Tryz.prog 63 #[.pointer (some ⟨R, 0, none⟩), v] w (MEnds lo base R Pb lm vm cm w0 line (r.head [k])) := by
  obtain ⟨ao, vn, vc, rfl⟩ := hv
  obtain ⟨res, hres⟩ : ∃ res, res = r.head [k] := ⟨_, rfl⟩
  rw [← hres]
  have HRES : Hid (res = if Fl.lattice r.levels.length r.tab then (0, { r with begun := true }) else (6, r)) := by show _ = _; rw [hres]; rfl
  have hll := h.ok.lv
  have HLT : Hid (Calls Tryz.prog 80 #[.pointer (some ⟨R, 3, none⟩)] w (LtEnds r.levels.length m.t w)) := lattice_any R r.levels.length m.t w hll (h.cR.c 3 (by omega)) (fun i j hi hj => by
    have := h.cR.c (4 + i * 6 + j) (by omega)
    rw [rd_tab _ _ _ _ _ _ _ _ _ hi hj] at this; exact this)
  have hcong : ∀ i j, i < r.levels.length → j < r.levels.length → Fl.fw r.levels.length m.t i j = r.tab i j := fun i j hi hj => by
    refine Fl.fw_congr _ _ _ (fun a b ha hb => ?_) _ (Nat.le_refl _) i j hi hj
    rw [h.tab a b (by omega) (by omega)]; simp [ha]
  have HLE : Hid (Fl.lattice r.levels.length (Fl.fw r.levels.length m.t) = Fl.lattice r.levels.length r.tab) := Fl.lattice_congr hcong
  have HCO : Hid (∀ i j, i < r.levels.length → j < r.levels.length → Fl.fw r.levels.length m.t i j = r.tab i j) := hcong
  have HH : Hid (PrAt lo base R Pb lm vm cm w0 w r line m) := h
  clear h hres hcong
  go_enter Tryz.func63, Tryz.ntmps63
  go_wp2_with fail
  refine HLT.out.mono ?_
  rintro e W ⟨hbel, hcase⟩
  have HW : Hid (PrAt lo base R Pb lm vm cm w0 W r line m) := HH.out.below hbel
  have hba := HW.out.hba
  have hlo := HW.out.hlo
  have hnd := HW.out.nd
  rcases hcase with ⟨hl, rfl, hz, hat⟩ | ⟨hl, rfl⟩
  · rw [HLE.out] at hl
    have HR : Hid (res = (0, { r with begun := true })) := by show _ = _; rw [HRES.out, if_pos hl]
    have HF : Hid (∃ m', PrAt lo base R Pb lm vm cm w0 ((W.setCell ⟨Pb, 0, none⟩ (ptr w.heap.size)).setCell ⟨R, 2, none⟩ (.bool true)) { r with begun := true } line m') := HH.out.begins hbg hl hbel hz (hat r.tab HCO.out (Fl.RS.lat hl))
    have HOK : Hid (Calls Tryz.prog 46 #[.pointer (some ⟨R, 0, none⟩), .bool true, .int .i64 6] W fun e w' => e = .returned (.tuple #[]) ∧ w' = W) := rneed_ok R 6 W
    have c0 : W.cell? ⟨R, 0, none⟩ = some (.pointer (some ⟨Pb, 0, none⟩)) := HW.out.cR.c 0 (by omega)
    have p0 : W.cell? ⟨Pb, 0, none⟩ = some m.pl := HW.out.cP.c 0 (by omega)
    have zP := HW.out.cP.z
    have zR := HW.out.cR.z
    have c2 : ∀ v, (W.setCell ⟨Pb, 0, none⟩ v).cell? ⟨R, 2, none⟩ = some (.bool r.begun) := fun v => (World.cell?_of_block (a := ⟨R, 2, none⟩) (setCell_block _ _ _ _ _ hnd.1)).trans (HW.out.cR.c 2 (by omega))
    have zR2 : ∀ v j, (W.setCell ⟨Pb, 0, none⟩ v).frozen? ⟨R, j, none⟩ = false := fun v j => by rw [World.frozen?_setCell]; exact zR j
    obtain ⟨pv, hpv⟩ : ∃ pv, pv = m.pl := ⟨_, rfl⟩
    rw [← hpv] at p0
    clear hat hl hbel hpv
    unfold ptr at HF ⊢
    go_wp2_with fail
    refine HOK.out.mono ?_
    rintro e w1 ⟨rfl, hw1⟩
    rw [hw1]
    clear hw1 w1 HOK
    go_wp2
    go_end0
    obtain ⟨m', hm'⟩ := HF.out
    exact MEnds.good HR.out rfl hm'
  · rw [HLE.out] at hl
    have HR : Hid (res = (6, r)) := by show _ = _; rw [HRES.out, if_neg (by rw [hl]; decide)]
    have HRB : Hid (Calls Tryz.prog 46 #[.pointer (some ⟨R, 0, none⟩), .bool false, .int .i64 6] W fun e w' => e = .panicked (stopAt 6 line) ∧ Below W.heap.size W w') := rneed_bad R 6 line W (HW.out.cR.c 1 (by omega))
    clear hl hbel
    go_wp2_with fail
    refine HRB.out.mono ?_
    rintro e w1 ⟨rfl, hb1⟩
    exact ⟨rfl, MEnds.bad HR.out (by decide) rfl (HW.out.gone hb1)⟩
end
end Go.Proofs.YthfacjlghcdndaaGreatDoor
