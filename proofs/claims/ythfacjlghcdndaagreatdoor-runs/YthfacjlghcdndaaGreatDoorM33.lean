/- Texts Rlh Rmh Rmi. -/
import Derived.Test.YthfacjlghcdndaaGreatDoorM32
set_option linter.unusedSimpArgs false
set_option linter.unusedVariables false
namespace Go.Proofs.YthfacjlghcdndaaGreatDoor
open Go.RowKit
section
variable {P : Program} {ops : Array Oper} {Q : Exit → Act → World → Prop} {S : World → Prop}
theorem late_none {o : Oper} {l : List (Nat × Oper)} {a : Act} {w : World} {j : Nat} {b : Bool} (hg : o.guard = some (j, b)) (hy : yielded ops a.tmps j = none)
    (h : wpLate P ops S Q l (a.put o.dst undef) w) : wpLate P ops S Q ((0, o) :: l) a w := ⟨undef, .inr ⟨by simp [Region.wanted, hg, hy], rfl⟩, h⟩
end
theorem LqAt.drew {base : Nat} {w : World} {Lq : Nat} {rb : Nat → Nat} {n : Nat} {t : Fl.Tab} (h : LqAt base w Lq rb n t) : LqAt base w.drew Lq rb n t := ⟨h.c, h.r, h.z, h.inj, h.ge⟩
section
variable {lo base Rb Pb : Nat} {w0 w w' : World} {m : RMem} {r : Fl.RS} {fl : List FlS} {t : Nat}
theorem own_someL {w : World} {base : Nat} {e : TypeId} {v : Value} {n : Nat} {xs : List Value} (h : w.ownsRow base e 1 v n xs) (hn : 0 < n) : ∃ g cap, v = .slice (some ⟨g, 0, none⟩) n cap ∧ base ≤ g ∧ g < w.heap.size ∧ ∀ j u, xs[j]? = some u → w.cell? ⟨g, j, none⟩ = some u := by
  rcases h.2 with ⟨rfl, h0⟩ | ⟨g, cap, cur, rfl, hb, hg, _⟩
  · omega
  · refine ⟨g, cap, rfl, hb, (Array.getElem?_eq_some_iff.1 hg).1, fun j u hu => ?_⟩
    have h1 := h.cells (g := g) rfl j u hu
    have h2 : (⟨g, 0, none⟩ : Addr).add j = ⟨g, j, none⟩ := by unfold Addr.add; split <;> simp_all
    rw [h2] at h1; exact h1
theorem RefAt.ints (h : RefAt lo base Rb Pb w0 w m) (j : Nat) (hj : isRow j) (xs : List Nat) (hr : m.n j = xs.length ∧ m.xs j = intsV xs) (hz : rSz j = 1) (h0 : 0 < xs.length) : ∃ g c, m.v j = .slice (some ⟨g, 0, none⟩) xs.length c ∧ g < w.heap.size ∧ ∀ i (hi : i < xs.length), w.cell? ⟨g, i, none⟩ = some (.int .i64 (xs[i] : Nat)) := by
  have ho := h.own j hj
  rw [hr.1, hr.2, hz] at ho
  obtain ⟨g, c, h1, h2, h3, h4⟩ := own_someL ho h0
  exact ⟨g, c, h1, h3, fun i hi => h4 i _ (by simp [intsV, hi])⟩
set_option maxRecDepth 100000 in
set_option maxHeartbeats 20000000 in
theorem rlattice_any (h : RefAt lo base Rb Pb w0 w m) (hr : RefOf r fl t m) (ht : t ≤ 1000000) :
    Calls Tryz.prog 36 #[.pointer (some ⟨Rb, 0, none⟩)] w (LatEnds lo base Rb Pb w0 m (Fl.lattice r.levels.length r.tab)) := by
  obtain ⟨b1, b2, b3, b4, b5, b6, b7⟩ := h.hba
  obtain ⟨d1, k1, hv1⟩ := h.shape 1 (by unfold isRow; omega)
  obtain ⟨d5, k5, hv5⟩ := h.shape 5 (by unfold isRow; omega)
  obtain ⟨d6, k6, hv6⟩ := h.shape 6 (by unfold isRow; omega)
  rw [hr.r1.1] at hv1
  rw [hr.r5.1] at hv5
  rw [hr.r6.1, ← hr.pr] at hv6
  have HTAB : Hid (r.tab = Fl.fw r.levels.length (Fl.tab0 r.low r.high)) := rfl
  obtain ⟨n, hn⟩ : ∃ n, n = r.levels.length := ⟨_, rfl⟩
  have hn6 : n ≤ 6 := by rw [hn]; exact hr.lv
  obtain ⟨W2, hW2⟩ : ∃ W2, W2 = w.setCell ⟨Pb, 0, none⟩ (.int .i64 (n : Int)) := ⟨_, rfl⟩
  have H2 : Hid (RefAt lo base Rb Pb w0 W2 { m with N := n }) := by show RefAt _ _ _ _ _ _ _; rw [hW2]; exact h.setN n
  obtain ⟨z, hz⟩ : ∃ z, z = W2.heap.size := ⟨_, rfl⟩
  have hzb : base ≤ z := by rw [hz]; exact H2.out.hba.2.2.2.2.2.1
  obtain ⟨low, hlow⟩ : ∃ low, low = r.low := ⟨_, rfl⟩
  obtain ⟨high, hhigh⟩ : ∃ high, high = r.high := ⟨_, rfl⟩
  rw [← hlow] at hv5 hv6
  have hlm : low.length ≤ 1000000 := by rw [hlow]; have := hr.lw; omega
  have HLH : Hid (low.length = high.length) := by show _ = _; rw [hlow, hhigh]; exact hr.pr
  have HBL : Hid (∀ i (hi : i < low.length), low[i] < n) := by rw [hlow, hn]; exact fun i hi => hr.bw.1 _ (List.getElem_mem hi)
  have HBH : Hid (∀ i (hi : i < high.length), high[i] < n) := by rw [hhigh, hn]; exact fun i hi => hr.bw.2 _ (List.getElem_mem hi)
  have HA : Hid (∀ W, Below z W2 W → W.cell? ⟨Rb, 0, none⟩ = some (.pointer (some ⟨Pb, 0, none⟩)) ∧ W.cell? ⟨Rb, 5, none⟩ = some (.slice d5 low.length k5) ∧ W.cell? ⟨Rb, 6, none⟩ = some (.slice d6 low.length k6)) := fun W hW => by
    rw [hz] at hW
    have h1 := (H2.out.below hW).cR.c
    exact ⟨h1 0 (by omega), by rw [← hv5]; exact h1 5 (by omega), by rw [← hv6]; exact h1 6 (by omega)⟩
  have HL5 : Hid (0 < low.length → ∃ g5 g6, d5 = some ⟨g5, 0, none⟩ ∧ d6 = some ⟨g6, 0, none⟩ ∧ ∀ W, Below z W2 W → ∀ i (hi : i < low.length) (hi' : i < high.length), W.cell? ⟨g5, i, none⟩ = some (.int .i64 (low[i] : Nat)) ∧ W.cell? ⟨g6, i, none⟩ = some (.int .i64 (high[i] : Nat))) := fun h0 => by
    obtain ⟨g5, c5, e5, l5, q5⟩ := H2.out.ints 5 (by unfold isRow; omega) low (by rw [hlow]; exact hr.r5) rfl h0
    obtain ⟨g6, c6, e6, l6, q6⟩ := H2.out.ints 6 (by unfold isRow; omega) high (by rw [hhigh]; exact hr.r6) rfl (by rw [← HLH.out]; exact h0)
    have e5' : m.v 5 = .slice (some ⟨g5, 0, none⟩) low.length c5 := e5
    have e6' : m.v 6 = .slice (some ⟨g6, 0, none⟩) high.length c6 := e6
    rw [hv5] at e5'
    rw [hv6] at e6'
    injection e5' with e5a
    injection e6' with e6a
    refine ⟨g5, g6, e5a, e6a, fun W hW i hi hi' => ⟨?_, ?_⟩⟩
    · exact (hW.cell (p := ⟨g5, i, none⟩) (by rw [hz]; exact l5)).trans (q5 i hi)
    · exact (hW.cell (p := ⟨g6, i, none⟩) (by rw [hz]; exact l6)).trans (q6 i hi')
  have x0 : w.cell? ⟨Rb, 0, none⟩ = some (.pointer (some ⟨Pb, 0, none⟩)) := h.cR.c 0 (by omega)
  have x1 : w.cell? ⟨Rb, 1, none⟩ = some (.slice d1 n k1) := by rw [hn, ← hv1]; exact h.cR.c 1 (by omega)
  obtain ⟨v0, p0⟩ : ∃ v, w.cell? ⟨Pb, 0, none⟩ = some v := ⟨_, h.cP.c 0 (by omega)⟩
  have z0 : w.frozen? ⟨Pb, 0, none⟩ = false := h.cP.z 0
  have HMR : Hid (∀ W, (Instr.makeSlice 36 (.int .i64 n) (.int .i64 n)).run Tryz.prog W = .ok (.slice (some ⟨W.heap.size, 0, none⟩) n n) (W.alloc (.cells (fillV n (.slice none 0 0)).toArray 156))) := fun W => make_rows W n hn6
  have HMB : Hid (∀ W, (Instr.makeSlice 156 (.int .i64 n) (.int .i64 n)).run Tryz.prog W = .ok (.slice (some ⟨W.heap.size, 0, none⟩) n n) (W.alloc (.cells (fillV n (.bool false)).toArray 4))) := fun W => make_bool W n hn6
  rw [← hn] at HTAB ⊢
  rw [← hlow, ← hhigh] at HTAB
  obtain ⟨T, hT⟩ : ∃ T, T = r.tab := ⟨_, rfl⟩
  rw [← hT] at HTAB ⊢
  have hnI : (n : Int) ≤ 6 := by omega
  have hlI : (low.length : Int) ≤ 1000000 := by omega
  have HN6 : Hid (n ≤ 6) := hn6
  have HZ : Hid (z = W2.heap.size) := hz
  have HW2 : Hid (W2 = w.setCell ⟨Pb, 0, none⟩ (.int .i64 (n : Int))) := hW2
  clear h hr hn hW2 hz hlow hhigh hT hv1 hv5 hv6
  go_enter Tryz.func36, Tryz.ntmps36
  go_wp2_with fail
  rw [HMR.out, ← HW2.out, ← HZ.out]
  clear x0 x1 p0 z0
  obtain ⟨W3, hW3⟩ : ∃ W3, W3 = W2.alloc (.cells (fillV n (.slice none 0 0)).toArray 156) := ⟨_, rfl⟩
  have HB3 : Hid (Below z W2 W3) := by show Below _ _ _; rw [hW3]; exact (Below.refl _ _).alloc (by rw [HZ.out]; exact Nat.le_refl _) _
  have HQ3 : Hid (LqTo z W3 z (fun _ => 0) n 0) := by show LqTo _ _ _ _ _ _; have h1 := LqTo.begun W2 n z (by rw [HZ.out]; exact Nat.le_refl _) (fun _ => 0); rw [hW3]; rw [← HZ.out] at h1; exact h1
  rw [← hW3]
  clear hW3
  go_wp2_with fail
  go_loopw [5] (fun i wr => ∃ (k : Nat) (rb : Nat → Nat), k ≤ n ∧ i = .int .i64 k ∧ Below z W2 wr ∧ LqTo z wr z rb n k) (fun i _ => n - (intOf i).toNat)
  case atStart => exact ⟨0, _, Nat.zero_le _, rfl, HB3.out, HQ3.out⟩
  case round =>
    obtain ⟨k, rb, hk, rfl, hB, hQ⟩ := hrel
    have HB : Hid (Below z W2 wr) := hB
    have HQ : Hid (LqTo z wr z rb n k) := hQ
    have hzl : z < wr.heap.size := hQ.ge.2.1
    clear hB hQ
    by_cases hlt : k < n
    · have hkI : (k : Int) < (n : Int) := by omega
      have q0 : wr.cell? ⟨z, k, none⟩ = some (.slice none 0 0) := HQ.out.o k (Nat.le_refl _) hlt
      have f0 : wr.frozen? ⟨z, k, none⟩ = false := HQ.out.zL k
      obtain ⟨Wa, hWa⟩ : ∃ Wa, Wa = wr.alloc (.cells (fillV n (.bool false)).toArray 4) := ⟨_, rfl⟩
      obtain ⟨nb, hnb⟩ : ∃ nb, nb = wr.heap.size := ⟨_, rfl⟩
      have HBa : Hid (Below wr.heap.size wr Wa) := by show Below _ _ _; rw [hWa]; exact (Below.refl _ _).alloc (Nat.le_refl _) _
      have qa : Wa.cell? ⟨z, k, none⟩ = some (.slice none 0 0) := (HBa.out.cell (p := ⟨z, k, none⟩) hzl).trans q0
      have fa : Wa.frozen? ⟨z, k, none⟩ = false := (HBa.out.frozen (p := ⟨z, k, none⟩) hzl).trans f0
      have qb : Wa.cell? ⟨nb, k, none⟩ = some (.bool false) := by
        have hc := (Cells.new wr (fillV n (.bool false)) 4).c k (by simp [fillV]; exact hlt)
        rw [hWa, hnb, hc]
        simp [rw_, fillV, hlt]
      have fb : Wa.frozen? ⟨nb, k, none⟩ = false := by rw [hWa, hnb]; exact (Cells.new wr (fillV n (.bool false)) 4).z k
      have hne : z < nb := by rw [hnb]; exact hzl
      have HNX : Hid (LqTo z ((Wa.setCell ⟨z, k, none⟩ (.slice (some ⟨nb, 0, none⟩) n n)).setCell ⟨nb, k, none⟩ (.bool true)) z (fun a => if a = k then nb else rb a) n (k + 1)) := by show LqTo _ _ _ _ _ _; rw [hWa, hnb]; exact HQ.out.next hlt
      have HNB : Hid (Below z W2 ((Wa.setCell ⟨z, k, none⟩ (.slice (some ⟨nb, 0, none⟩) n n)).setCell ⟨nb, k, none⟩ (.bool true))) := ((HB.out.trans (HBa.out.mono (by omega))).setCell (Nat.le_refl _) _).setCell (by show z ≤ nb; omega) _
      have HWa : Hid (Wa = wr.alloc (.cells (fillV n (.bool false)).toArray 4)) := hWa
      have HNbb : Hid (nb = wr.heap.size) := hnb
      clear q0 f0 hWa hnb
      go_wp2_with fail
      rw [HMB.out, ← HWa.out, ← HNbb.out]
      go_wp2
      go_roundw
      case rel => exact ⟨k + 1, _, by omega, by go_num, HNB.out, HNX.out⟩
      case measure => simp [intOf]; omega
    · have hkI : ¬ (k : Int) < (n : Int) := by omega
      obtain rfl : k = n := by omega
      have HQ0 : Hid (LqAt z wr z rb k (Fl.tab0 (low.take 0) (high.take 0))) := HQ.out.all
      clear HQ hzl
      go_wp2_with fail
      obtain ⟨wo, hwo⟩ : ∃ wo, wo = wr := ⟨_, rfl⟩
      subst hwo
      have hkI0 : (k : Int) ≤ 6 := hnI
      go_loopw [6] (fun i wr => ∃ p : Nat, p ≤ low.length ∧ i = .int .i64 p ∧ Below z W2 wr ∧ LqAt z wr z rb k (Fl.tab0 (low.take p) (high.take p))) (fun i _ => low.length - (intOf i).toNat)
      case atStart => exact ⟨0, Nat.zero_le _, rfl, HB.out, HQ0.out⟩
      case round =>
        obtain ⟨p, hp, rfl, hB, hQ⟩ := hrel
        clear HB HQ0
        have HB : Hid (Below z W2 wr) := hB
        have HQ : Hid (LqAt z wr z rb k (Fl.tab0 (low.take p) (high.take p))) := hQ
        clear hB hQ
        obtain ⟨y0, y5, y6⟩ := HA.out wr HB.out
        by_cases hlt : p < low.length
        · have hpI : (p : Int) < (low.length : Int) := by omega
          have hph : p < high.length := by rw [← HLH.out]; exact hlt
          obtain ⟨g5, g6, e5, e6, hg⟩ := HL5.out (by omega)
          have c56 := hg wr.drew HB.out.drew p hlt hph
          rw [e5] at y5
          rw [e6] at y6
          have hiL := HBL.out p hlt
          have hiH := HBH.out p hph
          have HNX : Hid (LqAt z (wr.drew.setCell ⟨rb low[p], high[p], none⟩ (.bool true)) z rb k (Fl.tab0 (low.take (p + 1)) (high.take (p + 1)))) := HQ.out.drew.pair HLH.out hlt hph hiL hiH
          have HNB : Hid (Below z W2 (wr.drew.setCell ⟨rb low[p], high[p], none⟩ (.bool true))) := HB.out.drew.setCell (HQ.out.ge.2 _ hiL).1 _
          have cL : wr.drew.cell? ⟨z, low[p], none⟩ = some (.slice (some ⟨rb low[p], 0, none⟩) k k) := HQ.out.drew.c _ hiL
          obtain ⟨vr, cR⟩ : ∃ v, wr.drew.cell? ⟨rb low[p], high[p], none⟩ = some v := ⟨_, HQ.out.drew.r _ _ hiL hiH⟩
          have fR : wr.drew.frozen? ⟨rb low[p], high[p], none⟩ = false := HQ.out.drew.z _ _ hiL
          have y5' : wr.drew.cell? ⟨Rb, 5, none⟩ = some (.slice (some ⟨g5, 0, none⟩) low.length k5) := y5
          have y6' : wr.drew.cell? ⟨Rb, 6, none⟩ = some (.slice (some ⟨g6, 0, none⟩) low.length k6) := y6
          have cl1 : (wr.drew).cell? ⟨g5, p, none⟩ = some (.int .i64 (low[p] : Nat)) := c56.1
          have ch1 : (wr.drew).cell? ⟨g6, p, none⟩ = some (.int .i64 (high[p] : Nat)) := c56.2
          obtain ⟨la, hla⟩ : ∃ la, la = low[p] := ⟨_, rfl⟩
          obtain ⟨hb, hhb⟩ : ∃ hb, hb = high[p] := ⟨_, rfl⟩
          rw [← hla] at cl1 cL cR fR HNX HNB hiL
          rw [← hhb] at ch1 cR fR HNX HNB hiH
          have hlaI : (la : Int) < (k : Int) := by omega
          have hhbI : (hb : Int) < (k : Int) := by omega
          clear c56 hg hla hhb e5 e6 y0 hph
          go_wp2_with fail
          refine wp_region_late (fun W => W.cell? ⟨Rb, 5, none⟩ = some (.slice (some ⟨g5, 0, none⟩) low.length k5) ∧ W.cell? ⟨Rb, 6, none⟩ = some (.slice (some ⟨g6, 0, none⟩) low.length k6) ∧ W.cell? ⟨g5, p, none⟩ = some (.int .i64 (la : Nat)) ∧ W.cell? ⟨g6, p, none⟩ = some (.int .i64 (hb : Nat)) ∧ W.cell? ⟨z, la, none⟩ = some (.slice (some ⟨rb la, 0, none⟩) k k)) [18] [(0, 0), (0, 1), (0, 2), (0, 3), (0, 4), (0, 5), (0, 6), (0, 7), (0, 8), (0, 9), (0, 10), (0, 11), (0, 12), (0, 13), (0, 14), (0, 15), (0, 16), (0, 17), (2, 18)] [] (by kernel_rfl) (by kernel_rfl) rfl [(_, _), (_, _), (_, _), (_, _), (_, _), (_, _), (_, _), (_, _), (_, _), (_, _), (_, _), (_, _), (_, _), (_, _), (_, _), (_, _), (_, _), (_, _), (_, _)] rfl (fun c a d v w h => by cases d <;> exact h) ⟨y5', y6', cl1, ch1, cL⟩ (fun ops hG => ?_)
          clear hG y5 y6 y5' y6' cl1 ch1 cL
          simp only [List.getElem_toArray, List.getElem_cons_succ, List.getElem_cons_zero]
          iterate 18
            refine late_read rfl (fun K hK => ?_)
            apply Exists.intro
            refine ⟨fun w' hw' => ?_, ?_⟩
            · obtain ⟨q1, q2, q3, q4, q5⟩ := hw'
              go_simp
              try with_reducible rfl
            go_simp
            refine hK _ ?_
            clear hK K
          refine late_late ?_
          go_wp2_with fail
          refine late_end ?_
          go_wp2
          go_roundw
          case rel => exact ⟨p + 1, by omega, by go_num, HNB.out, HNX.out⟩
          case measure => simp [intOf]; omega
        · have hpI : ¬ (p : Int) < (low.length : Int) := by omega
          obtain rfl : p = low.length := by omega
          have HQ0 : Hid (LqAt z wr z rb k (Fl.fw 0 (Fl.tab0 low high))) := by show LqAt _ _ _ _ _ _; have h1 := HQ.out; rw [List.take_length, HLH.out, List.take_length] at h1; exact h1
          clear HQ
          go_wp2_with fail
          clear y5 y6 y0
          obtain ⟨T0, hT0⟩ : ∃ T0, T0 = Fl.tab0 low high := ⟨_, rfl⟩
          rw [← hT0] at HTAB HQ0
          clear hT0 HL5 HBL HBH
          obtain ⟨wo2, hwo2⟩ : ∃ wo, wo = wr := ⟨_, rfl⟩
          subst hwo2
          go_loopw [7] (fun i wr => ∃ s : Nat, s ≤ k ∧ i = .int .i64 s ∧ Below z W2 wr ∧ LqAt z wr z rb k (Fl.fw s T0)) (fun i _ => k - (intOf i).toNat)
          case atStart => exact ⟨0, Nat.zero_le _, rfl, HB.out, HQ0.out⟩
          case round =>
            obtain ⟨s, hs, rfl, hB, hQ⟩ := hrel
            clear HB HQ0
            have HB : Hid (Below z W2 wr) := hB
            have HQ : Hid (LqAt z wr z rb k (Fl.fw s T0)) := hQ
            clear hB hQ
            by_cases hlt : s < k
            · have hsI : (s : Int) < (k : Int) := by omega
              have HM0 : Hid (LqAt z wr z rb k (Fl.mixTab s (Fl.fw s T0) 0 0)) := HQ.out.mixZero
              clear HQ
              go_wp2_with fail
              obtain ⟨wo3, hwo3⟩ : ∃ wo, wo = wr := ⟨_, rfl⟩
              subst hwo3
              go_loopw [8] (fun i wr => ∃ x : Nat, x ≤ k ∧ i = .int .i64 x ∧ Below z W2 wr ∧ LqAt z wr z rb k (Fl.mixTab s (Fl.fw s T0) x 0)) (fun i _ => k - (intOf i).toNat)
              case atStart => exact ⟨0, Nat.zero_le _, rfl, HB.out, HM0.out⟩
              case round =>
                obtain ⟨x, hx, rfl, hB, hQ⟩ := hrel
                clear HB HM0
                have HB : Hid (Below z W2 wr) := hB
                have HM : Hid (LqAt z wr z rb k (Fl.mixTab s (Fl.fw s T0) x 0)) := hQ
                clear hB hQ
                by_cases hlx : x < k
                · have hxI : (x : Int) < (k : Int) := by omega
                  go_wp2_with fail
                  obtain ⟨wo4, hwo4⟩ : ∃ wo, wo = wr := ⟨_, rfl⟩
                  subst hwo4
                  go_loopw [9] (fun i wr => ∃ y : Nat, y ≤ k ∧ i = .int .i64 y ∧ Below z W2 wr ∧ LqAt z wr z rb k (Fl.mixTab s (Fl.fw s T0) x y)) (fun i _ => k - (intOf i).toNat)
                  case atStart => exact ⟨0, Nat.zero_le _, rfl, HB.out, HM.out⟩
                  case round =>
                    obtain ⟨y, hy, rfl, hB, hQ⟩ := hrel
                    clear HB HM
                    have HB : Hid (Below z W2 wr) := hB
                    have HM : Hid (LqAt z wr z rb k (Fl.mixTab s (Fl.fw s T0) x y)) := hQ
                    clear hB hQ
                    by_cases hly : y < k
                    · have hyI : (y : Int) < (k : Int) := by omega
                      have HNX : Hid (LqAt z (wr.drew.setCell ⟨rb x, y, none⟩ (.bool (Fl.mixTab s (Fl.fw s T0) x y x y || (Fl.mixTab s (Fl.fw s T0) x y x s && Fl.mixTab s (Fl.fw s T0) x y s y)))) z rb k (Fl.mixTab s (Fl.fw s T0) x (y + 1))) := HM.out.drew.mix hlx hly
                      have HNB : Hid (∀ v, Below z W2 (wr.drew.setCell ⟨rb x, y, none⟩ v)) := fun v => HB.out.drew.setCell (HM.out.ge.2 _ hlx).1 _
                      have cx : wr.drew.cell? ⟨z, x, none⟩ = some (.slice (some ⟨rb x, 0, none⟩) k k) := HM.out.drew.c _ hlx
                      have cs : wr.drew.cell? ⟨z, s, none⟩ = some (.slice (some ⟨rb s, 0, none⟩) k k) := HM.out.drew.c _ hlt
                      have r1 : wr.drew.cell? ⟨rb x, y, none⟩ = some (.bool (Fl.mixTab s (Fl.fw s T0) x y x y)) := HM.out.drew.r _ _ hlx hly
                      have r2 : wr.drew.cell? ⟨rb x, s, none⟩ = some (.bool (Fl.mixTab s (Fl.fw s T0) x y x s)) := HM.out.drew.r _ _ hlx hlt
                      have r3 : wr.drew.cell? ⟨rb s, y, none⟩ = some (.bool (Fl.mixTab s (Fl.fw s T0) x y s y)) := HM.out.drew.r _ _ hlt hly
                      have fz : wr.drew.frozen? ⟨rb x, y, none⟩ = false := HM.out.drew.z _ _ hlx
                      generalize Fl.mixTab s (Fl.fw s T0) x y x y = c1 at *
                      generalize Fl.mixTab s (Fl.fw s T0) x y x s = c2 at *
                      generalize Fl.mixTab s (Fl.fw s T0) x y s y = c3 at *
                      clear HM
                      cases c1 with
                      | true =>
                        have HNX : Hid (LqAt z (wr.drew.setCell ⟨rb x, y, none⟩ (.bool true)) z rb k (Fl.mixTab s (Fl.fw s T0) x (y + 1))) := HNX.out
                        go_wp2_with fail
                        refine wp_region_late (fun W => W.cell? ⟨z, x, none⟩ = some (.slice (some ⟨rb x, 0, none⟩) k k) ∧ W.cell? ⟨z, s, none⟩ = some (.slice (some ⟨rb s, 0, none⟩) k k) ∧ W.cell? ⟨rb x, y, none⟩ = some (.bool true) ∧ W.cell? ⟨rb x, s, none⟩ = some (.bool c2) ∧ W.cell? ⟨rb s, y, none⟩ = some (.bool c3)) [31] [(0, 0), (0, 1), (0, 2), (0, 3), (0, 4), (0, 5), (0, 6), (0, 7), (0, 8), (0, 9), (0, 10), (0, 11), (0, 12), (0, 13), (0, 14), (0, 15), (0, 16), (0, 17), (0, 18), (0, 19), (0, 20), (0, 21), (0, 22), (0, 23), (0, 24), (0, 25), (0, 26), (0, 27), (0, 28), (0, 29), (0, 30), (2, 31)] [(12, 98), (20, 106)] (by kernel_rfl) (by kernel_rfl) rfl [(_, _), (_, _), (_, _), (_, _), (_, _), (_, _), (_, _), (_, _), (_, _), (_, _), (_, _), (_, _), (_, _), (_, _), (_, _), (_, _), (_, _), (_, _), (_, _), (_, _), (_, _), (_, _), (_, _), (_, _), (_, _), (_, _), (_, _), (_, _), (_, _), (_, _), (_, _), (_, _)] rfl (fun c a d v w h => by cases d <;> exact h) ⟨cx, cs, r1, r2, r3⟩ (fun ops hG => ?_)
                        have g1 := hG (12, 98) (by simp)
                        have g2 := hG (20, 106) (by simp)
                        simp only at g1 g2
                        clear hG cx cs r2 r3
                        simp only [List.getElem_toArray, List.getElem_cons_succ, List.getElem_cons_zero]
                        iterate 13
                          refine late_read rfl (fun K hK => ?_)
                          apply Exists.intro
                          refine ⟨fun w' hw' => ?_, ?_⟩
                          · obtain ⟨q1, q2, q3, q4, q5⟩ := hw'
                            go_simp
                            try with_reducible rfl
                          go_simp
                          refine hK _ ?_
                          clear hK K
                        iterate 8
                          refine late_skip rfl (c := true) (by simp [yielded, g1, Act.put]) (by decide) ?_
                        iterate 7
                          refine late_none rfl (by simp [yielded, g2, Act.put, undef]) ?_
                        iterate 1
                          refine late_skip rfl (c := true) (by simp [yielded, g1, Act.put]) (by decide) ?_
                        iterate 2
                          refine late_read rfl (fun K hK => ?_)
                          apply Exists.intro
                          refine ⟨fun w' hw' => ?_, ?_⟩
                          · obtain ⟨q1, q2, q3, q4, q5⟩ := hw'
                            go_simp
                            try with_reducible rfl
                          go_simp
                          refine hK _ ?_
                          clear hK K
                        clear g1 g2
                        refine late_late ?_
                        go_wp2_with fail
                        refine late_end ?_
                        go_wp2
                        go_roundw
                        case rel => exact ⟨y + 1, by omega, by go_num, HNB.out _, HNX.out⟩
                        case measure => simp [intOf]; omega
                      | false =>
                        cases c2 with
                        | false =>
                          have HNX : Hid (LqAt z (wr.drew.setCell ⟨rb x, y, none⟩ (.bool false)) z rb k (Fl.mixTab s (Fl.fw s T0) x (y + 1))) := HNX.out
                          go_wp2_with fail
                          refine wp_region_late (fun W => W.cell? ⟨z, x, none⟩ = some (.slice (some ⟨rb x, 0, none⟩) k k) ∧ W.cell? ⟨z, s, none⟩ = some (.slice (some ⟨rb s, 0, none⟩) k k) ∧ W.cell? ⟨rb x, y, none⟩ = some (.bool false) ∧ W.cell? ⟨rb x, s, none⟩ = some (.bool false) ∧ W.cell? ⟨rb s, y, none⟩ = some (.bool c3)) [31] [(0, 0), (0, 1), (0, 2), (0, 3), (0, 4), (0, 5), (0, 6), (0, 7), (0, 8), (0, 9), (0, 10), (0, 11), (0, 12), (0, 13), (0, 14), (0, 15), (0, 16), (0, 17), (0, 18), (0, 19), (0, 20), (0, 21), (0, 22), (0, 23), (0, 24), (0, 25), (0, 26), (0, 27), (0, 28), (0, 29), (0, 30), (2, 31)] [(12, 98), (20, 106)] (by kernel_rfl) (by kernel_rfl) rfl [(_, _), (_, _), (_, _), (_, _), (_, _), (_, _), (_, _), (_, _), (_, _), (_, _), (_, _), (_, _), (_, _), (_, _), (_, _), (_, _), (_, _), (_, _), (_, _), (_, _), (_, _), (_, _), (_, _), (_, _), (_, _), (_, _), (_, _), (_, _), (_, _), (_, _), (_, _), (_, _)] rfl (fun c a d v w h => by cases d <;> exact h) ⟨cx, cs, r1, r2, r3⟩ (fun ops hG => ?_)
                          have g1 := hG (12, 98) (by simp)
                          have g2 := hG (20, 106) (by simp)
                          simp only at g1 g2
                          clear hG cx cs r2 r3
                          simp only [List.getElem_toArray, List.getElem_cons_succ, List.getElem_cons_zero]
                          iterate 13
                            refine late_read rfl (fun K hK => ?_)
                            apply Exists.intro
                            refine ⟨fun w' hw' => ?_, ?_⟩
                            · obtain ⟨q1, q2, q3, q4, q5⟩ := hw'
                              go_simp
                              try with_reducible rfl
                            go_simp
                            refine hK _ ?_
                            clear hK K
                          iterate 8
                            refine late_go rfl (by simp [yielded, g1, Act.put]) (fun K hK => ?_)
                            apply Exists.intro
                            refine ⟨fun w' hw' => ?_, ?_⟩
                            · obtain ⟨q1, q2, q3, q4, q5⟩ := hw'
                              go_simp
                              try with_reducible rfl
                            go_simp
                            refine hK _ ?_
                            clear hK K
                          iterate 7
                            refine late_skip rfl (c := false) (by simp [yielded, g2, Act.put]) (by decide) ?_
                          iterate 1
                            refine late_go rfl (by simp [yielded, g1, Act.put]) (fun K hK => ?_)
                            apply Exists.intro
                            refine ⟨fun w' hw' => ?_, ?_⟩
                            · obtain ⟨q1, q2, q3, q4, q5⟩ := hw'
                              go_simp
                              try with_reducible rfl
                            go_simp
                            refine hK _ ?_
                            clear hK K
                          iterate 2
                            refine late_read rfl (fun K hK => ?_)
                            apply Exists.intro
                            refine ⟨fun w' hw' => ?_, ?_⟩
                            · obtain ⟨q1, q2, q3, q4, q5⟩ := hw'
                              go_simp
                              try with_reducible rfl
                            go_simp
                            refine hK _ ?_
                            clear hK K
                          clear g1 g2
                          refine late_late ?_
                          go_wp2_with fail
                          refine late_end ?_
                          go_wp2
                          go_roundw
                          case rel => exact ⟨y + 1, by omega, by go_num, HNB.out _, HNX.out⟩
                          case measure => simp [intOf]; omega
                        | true =>
                          have HNX : Hid (LqAt z (wr.drew.setCell ⟨rb x, y, none⟩ (.bool c3)) z rb k (Fl.mixTab s (Fl.fw s T0) x (y + 1))) := HNX.out
                          go_wp2_with fail
                          refine wp_region_late (fun W => W.cell? ⟨z, x, none⟩ = some (.slice (some ⟨rb x, 0, none⟩) k k) ∧ W.cell? ⟨z, s, none⟩ = some (.slice (some ⟨rb s, 0, none⟩) k k) ∧ W.cell? ⟨rb x, y, none⟩ = some (.bool false) ∧ W.cell? ⟨rb x, s, none⟩ = some (.bool true) ∧ W.cell? ⟨rb s, y, none⟩ = some (.bool c3)) [31] [(0, 0), (0, 1), (0, 2), (0, 3), (0, 4), (0, 5), (0, 6), (0, 7), (0, 8), (0, 9), (0, 10), (0, 11), (0, 12), (0, 13), (0, 14), (0, 15), (0, 16), (0, 17), (0, 18), (0, 19), (0, 20), (0, 21), (0, 22), (0, 23), (0, 24), (0, 25), (0, 26), (0, 27), (0, 28), (0, 29), (0, 30), (2, 31)] [(12, 98), (20, 106)] (by kernel_rfl) (by kernel_rfl) rfl [(_, _), (_, _), (_, _), (_, _), (_, _), (_, _), (_, _), (_, _), (_, _), (_, _), (_, _), (_, _), (_, _), (_, _), (_, _), (_, _), (_, _), (_, _), (_, _), (_, _), (_, _), (_, _), (_, _), (_, _), (_, _), (_, _), (_, _), (_, _), (_, _), (_, _), (_, _), (_, _)] rfl (fun c a d v w h => by cases d <;> exact h) ⟨cx, cs, r1, r2, r3⟩ (fun ops hG => ?_)
                          have g1 := hG (12, 98) (by simp)
                          have g2 := hG (20, 106) (by simp)
                          simp only at g1 g2
                          clear hG cx cs r2 r3
                          simp only [List.getElem_toArray, List.getElem_cons_succ, List.getElem_cons_zero]
                          iterate 13
                            refine late_read rfl (fun K hK => ?_)
                            apply Exists.intro
                            refine ⟨fun w' hw' => ?_, ?_⟩
                            · obtain ⟨q1, q2, q3, q4, q5⟩ := hw'
                              go_simp
                              try with_reducible rfl
                            go_simp
                            refine hK _ ?_
                            clear hK K
                          iterate 8
                            refine late_go rfl (by simp [yielded, g1, Act.put]) (fun K hK => ?_)
                            apply Exists.intro
                            refine ⟨fun w' hw' => ?_, ?_⟩
                            · obtain ⟨q1, q2, q3, q4, q5⟩ := hw'
                              go_simp
                              try with_reducible rfl
                            go_simp
                            refine hK _ ?_
                            clear hK K
                          iterate 7
                            refine late_go rfl (by simp [yielded, g2, Act.put]) (fun K hK => ?_)
                            apply Exists.intro
                            refine ⟨fun w' hw' => ?_, ?_⟩
                            · obtain ⟨q1, q2, q3, q4, q5⟩ := hw'
                              go_simp
                              try with_reducible rfl
                            go_simp
                            refine hK _ ?_
                            clear hK K
                          iterate 1
                            refine late_go rfl (by simp [yielded, g1, Act.put]) (fun K hK => ?_)
                            apply Exists.intro
                            refine ⟨fun w' hw' => ?_, ?_⟩
                            · obtain ⟨q1, q2, q3, q4, q5⟩ := hw'
                              go_simp
                              try with_reducible rfl
                            go_simp
                            refine hK _ ?_
                            clear hK K
                          iterate 2
                            refine late_read rfl (fun K hK => ?_)
                            apply Exists.intro
                            refine ⟨fun w' hw' => ?_, ?_⟩
                            · obtain ⟨q1, q2, q3, q4, q5⟩ := hw'
                              go_simp
                              try with_reducible rfl
                            go_simp
                            refine hK _ ?_
                            clear hK K
                          clear g1 g2
                          refine late_late ?_
                          go_wp2_with fail
                          refine late_end ?_
                          go_wp2
                          go_roundw
                          case rel => exact ⟨y + 1, by omega, by go_num, HNB.out _, HNX.out⟩
                          case measure => simp [intOf]; omega
                    · have hyI : ¬ (y : Int) < (k : Int) := by omega
                      obtain rfl : y = k := by omega
                      have HM2 : Hid (LqAt z wr z rb y (Fl.mixTab s (Fl.fw s T0) (x + 1) 0)) := HM.out.mixRow
                      clear HM
                      go_wp2
                      go_roundw
                      case rel => exact ⟨x + 1, by omega, by go_num, HB.out, HM2.out⟩
                      case measure => simp [intOf]; omega
                · have hxI : ¬ (x : Int) < (k : Int) := by omega
                  obtain rfl : x = k := by omega
                  have HM2 : Hid (LqAt z wr z rb x (Fl.fw (s + 1) T0)) := HM.out.mixAll
                  clear HM
                  go_wp2
                  go_roundw
                  case rel => exact ⟨s + 1, by omega, by go_num, HB.out, HM2.out⟩
                  case measure => simp [intOf]; omega
            · have hsI : ¬ (s : Int) < (k : Int) := by omega
              obtain rfl : s = k := by omega
              rw [← HTAB.out] at HQ
              obtain ⟨y0, y5, y6⟩ := HA.out wr HB.out
              have HRF : Hid (RefAt lo base Rb Pb w0 wr { m with N := s }) := by
                have h1 := HB.out
                rw [HZ.out] at h1
                exact H2.out.below h1
              obtain ⟨v1, p1⟩ : ∃ v, wr.cell? ⟨Pb, 1, none⟩ = some v := ⟨_, HRF.out.cP.c 1 (by omega)⟩
              have pz : wr.frozen? ⟨Pb, 1, none⟩ = false := HRF.out.cP.z 1
              have HRES : Hid (RefAt lo base Rb Pb w0 (wr.setCell ⟨Pb, 1, none⟩ (.slice (some ⟨z, 0, none⟩) s s)) { m with N := s, leq := .slice (some ⟨z, 0, none⟩) s s }) := HRF.out.setLeq _
              have HLQ : Hid (LqAt z (wr.setCell ⟨Pb, 1, none⟩ (.slice (some ⟨z, 0, none⟩) s s)) z rb s T) := HQ.out.kept (fun b hb _ => setCell_block _ _ _ _ _ (by omega))
              clear HQ y5 y6 HRF HB
              go_wp2_with fail
              obtain ⟨W5, hW5⟩ : ∃ W5, W5 = wr.setCell ⟨Pb, 1, none⟩ (.slice (some ⟨z, 0, none⟩) s s) := ⟨_, rfl⟩
              rw [← hW5] at HRES HLQ ⊢
              clear hW5 p1 pz y0
              obtain ⟨wo5, hwo5⟩ : ∃ wo, wo = wr := ⟨_, rfl⟩
              subst hwo5
              have y0 : W5.cell? ⟨Rb, 0, none⟩ = some (.pointer (some ⟨Pb, 0, none⟩)) := HRES.out.cR.c 0 (by omega)
              have p0 : W5.cell? ⟨Pb, 0, none⟩ = some (.int .i64 s) := HRES.out.cP.c 0 (by omega)
              have p1 : W5.cell? ⟨Pb, 1, none⟩ = some (.slice (some ⟨z, 0, none⟩) s s) := HRES.out.cP.c 1 (by omega)
              have HEND : Hid (∀ v : Bool, v = Fl.lattice s T → LatEnds lo base Rb Pb w0 m (Fl.lattice s T) (.returned (.bool v)) W5) := fun v hv => by rw [← hv]; exact ⟨rfl, _, _, HRES.out⟩
              have HJ : Hid (∀ a b, a < s → b < s → Calls Tryz.prog 57 #[.pointer (some ⟨Pb, 0, none⟩), .int .i64 a, .int .i64 b] W5 fun e w' => e = .returned (.int .i64 (Fl.join s T a b)) ∧ w' = W5) := fun a b ha hb => rjoin_any HLQ.out Pb a b HN6.out ha hb p0 p1
              have HMT : Hid (∀ a b, a < s → b < s → Calls Tryz.prog 58 #[.pointer (some ⟨Pb, 0, none⟩), .int .i64 a, .int .i64 b] W5 fun e w' => e = .returned (.int .i64 (Fl.meet s T a b)) ∧ w' = W5) := fun a b ha hb => rmeet_any HLQ.out Pb a b HN6.out ha hb p0 p1
              clear p0 p1
              go_loopw [10] (fun i wr => wr = W5 ∧ ∃ a : Nat, a ≤ s ∧ i = .int .i64 a ∧ ∀ i j, i < a → j < s → Fl.pairOk s T i j = true) (fun i _ => s - (intOf i).toNat)
              case atStart => exact ⟨rfl, 0, Nat.zero_le _, rfl, fun i j hi => by omega⟩
              case round =>
                obtain ⟨hwr, a, ha, rfl, hok⟩ := hrel
                have HOK : Hid (∀ i j, i < a → j < s → Fl.pairOk s T i j = true) := hok
                rw [hwr]
                clear hok hwr wr
                by_cases hla : a < s
                · have haI : (a : Int) < (s : Int) := by omega
                  go_wp2_with fail
                  go_loopw [11] (fun i wr => wr = W5 ∧ ∃ b : Nat, b ≤ s ∧ i = .int .i64 b ∧ ∀ j, j < b → Fl.pairOk s T a j = true) (fun i _ => s - (intOf i).toNat)
                  case atStart => exact ⟨rfl, 0, Nat.zero_le _, rfl, fun j hj => by omega⟩
                  case round =>
                    obtain ⟨hwr, b, hb, rfl, hok⟩ := hrel
                    have HOK2 : Hid (∀ j, j < b → Fl.pairOk s T a j = true) := hok
                    rw [hwr]
                    clear hok hwr wr
                    by_cases hlb : b < s
                    · have hbI : (b : Int) < (s : Int) := by omega
                      have ca := HLQ.out.c a hla
                      have cb := HLQ.out.c b hlb
                      have ta : W5.cell? ⟨rb a, b, none⟩ = some (.bool (T a b)) := HLQ.out.r a b hla hlb
                      have tb : W5.cell? ⟨rb b, a, none⟩ = some (.bool (T b a)) := HLQ.out.r b a hlb hla
                      by_cases hbad : a ≠ b ∧ T a b = true ∧ T b a = true
                      · obtain ⟨h1, h2, h3⟩ := hbad
                        have bne : ((a : Int) != (b : Int)) = true := by rw [bne_iff_ne]; omega
                        rw [h2] at ta
                        rw [h3] at tb
                        have HE : Hid _ := HEND.out false (Fl.lattice_bad hla hlb (Fl.pair_both h1 h2 h3)).symm
                        clear h1 h2 h3
                        go_wp2
                        go_ret
                        exact HE.out
                      · have HGO : Hid (a = b ∨ T a b = false ∨ T b a = false) := by
                          show _ ∨ _ ∨ _
                          by_cases h1 : a = b
                          · exact .inl h1
                          · cases h2 : T a b with
                            | false => exact .inr (.inl rfl)
                            | true => cases h3 : T b a with
                              | false => exact .inr (.inr rfl)
                              | true => exact absurd ⟨h1, h2, h3⟩ hbad
                        have HJA : Hid (Calls Tryz.prog 57 #[.pointer (some ⟨Pb, 0, none⟩), .int .i64 a, .int .i64 b] W5 fun e w' => e = .returned (.int .i64 (Fl.join s T a b)) ∧ w' = W5) := HJ.out a b hla hlb
                        have HMA : Hid (Calls Tryz.prog 58 #[.pointer (some ⟨Pb, 0, none⟩), .int .i64 a, .int .i64 b] W5 fun e w' => e = .returned (.int .i64 (Fl.meet s T a b)) ∧ w' = W5) := HMT.out a b hla hlb
                        have HPG : Hid (0 ≤ Fl.join s T a b → 0 ≤ Fl.meet s T a b → Fl.pairOk s T a b = true) := Fl.pair_good HGO.out
                        have HPB : Hid (Fl.join s T a b < 0 ∨ Fl.meet s T a b < 0 → false = Fl.lattice s T) := fun h => (Fl.lattice_bad hla hlb (Fl.pair_none h)).symm
                        generalize Fl.join s T a b = ja at *
                        generalize Fl.meet s T a b = mb at *
                        have HD : Hid (a = b ∨ (a ≠ b ∧ T a b = false) ∨ (a ≠ b ∧ T a b = true ∧ T b a = false)) := by
                          show _ ∨ _ ∨ _
                          rcases HGO.out with h1 | h1 | h1
                          · exact .inl h1
                          · by_cases h2 : a = b
                            · exact .inl h2
                            · exact .inr (.inl ⟨h2, h1⟩)
                          · by_cases h2 : a = b
                            · exact .inl h2
                            · cases h3 : T a b with
                              | false => exact .inr (.inl ⟨h2, rfl⟩)
                              | true => exact .inr (.inr ⟨h2, rfl, h1⟩)
                        clear hbad HGO
                        rcases HD.out with h1 | ⟨h1, h2⟩ | ⟨h1, h2, h3⟩
                        · have beq : ((a : Int) != (b : Int)) = false := by simp [h1]
                          clear h1 ta tb
                          go_wp2_with fail
                          refine HJA.out.mono ?_
                          rintro e w1 ⟨rfl, hw1⟩
                          rw [hw1]
                          clear hw1 w1
                          go_wp2_with fail
                          refine HMA.out.mono ?_
                          rintro e w1 ⟨rfl, hw1⟩
                          rw [hw1]
                          clear hw1 w1
                          by_cases hj : ja < 0
                          · have HE : Hid _ := HEND.out false (HPB.out (.inl hj))
                            go_wp2
                            go_ret
                            exact HE.out
                          have hj2 : 0 ≤ ja := by omega
                          clear hj
                          by_cases hj : mb < 0
                          · have HE : Hid _ := HEND.out false (HPB.out (.inr hj))
                            go_wp2
                            go_ret
                            exact HE.out
                          have hj3 : 0 ≤ mb := by omega
                          have HOK3 : Hid (∀ j, j < b + 1 → Fl.pairOk s T a j = true) := fun j hj => by
                            by_cases hjb : j = b
                            · rw [hjb]; exact HPG.out hj2 hj3
                            · exact HOK2.out j (by omega)
                          clear hj
                          go_wp2
                          go_roundw
                          case rel => exact ⟨by first | rfl | trivial, b + 1, by omega, by go_num, HOK3.out⟩
                          case measure => simp [intOf]; omega
                        · have bne : ((a : Int) != (b : Int)) = true := by rw [bne_iff_ne]; omega
                          rw [h2] at ta
                          clear h1 h2 tb
                          go_wp2_with fail
                          refine HJA.out.mono ?_
                          rintro e w1 ⟨rfl, hw1⟩
                          rw [hw1]
                          clear hw1 w1
                          go_wp2_with fail
                          refine HMA.out.mono ?_
                          rintro e w1 ⟨rfl, hw1⟩
                          rw [hw1]
                          clear hw1 w1
                          by_cases hj : ja < 0
                          · have HE : Hid _ := HEND.out false (HPB.out (.inl hj))
                            go_wp2
                            go_ret
                            exact HE.out
                          have hj2 : 0 ≤ ja := by omega
                          clear hj
                          by_cases hj : mb < 0
                          · have HE : Hid _ := HEND.out false (HPB.out (.inr hj))
                            go_wp2
                            go_ret
                            exact HE.out
                          have hj3 : 0 ≤ mb := by omega
                          have HOK3 : Hid (∀ j, j < b + 1 → Fl.pairOk s T a j = true) := fun j hj => by
                            by_cases hjb : j = b
                            · rw [hjb]; exact HPG.out hj2 hj3
                            · exact HOK2.out j (by omega)
                          clear hj
                          go_wp2
                          go_roundw
                          case rel => exact ⟨by first | rfl | trivial, b + 1, by omega, by go_num, HOK3.out⟩
                          case measure => simp [intOf]; omega
                        · have bne : ((a : Int) != (b : Int)) = true := by rw [bne_iff_ne]; omega
                          rw [h2] at ta
                          rw [h3] at tb
                          clear h1 h2 h3
                          go_wp2_with fail
                          refine HJA.out.mono ?_
                          rintro e w1 ⟨rfl, hw1⟩
                          rw [hw1]
                          clear hw1 w1
                          go_wp2_with fail
                          refine HMA.out.mono ?_
                          rintro e w1 ⟨rfl, hw1⟩
                          rw [hw1]
                          clear hw1 w1
                          by_cases hj : ja < 0
                          · have HE : Hid _ := HEND.out false (HPB.out (.inl hj))
                            go_wp2
                            go_ret
                            exact HE.out
                          have hj2 : 0 ≤ ja := by omega
                          clear hj
                          by_cases hj : mb < 0
                          · have HE : Hid _ := HEND.out false (HPB.out (.inr hj))
                            go_wp2
                            go_ret
                            exact HE.out
                          have hj3 : 0 ≤ mb := by omega
                          have HOK3 : Hid (∀ j, j < b + 1 → Fl.pairOk s T a j = true) := fun j hj => by
                            by_cases hjb : j = b
                            · rw [hjb]; exact HPG.out hj2 hj3
                            · exact HOK2.out j (by omega)
                          clear hj
                          go_wp2
                          go_roundw
                          case rel => exact ⟨by first | rfl | trivial, b + 1, by omega, by go_num, HOK3.out⟩
                          case measure => simp [intOf]; omega
                    · have hbI : ¬ (b : Int) < (s : Int) := by omega
                      have HOK3 : Hid (∀ i j, i < a + 1 → j < s → Fl.pairOk s T i j = true) := fun i j hi hj => by
                        by_cases hia : i = a
                        · rw [hia]; exact HOK2.out j (by omega)
                        · exact HOK.out i j (by omega) hj
                      go_wp2
                      go_roundw
                      case rel => exact ⟨by first | rfl | trivial, a + 1, by omega, by go_num, HOK3.out⟩
                      case measure => simp [intOf]; omega
                · have haI : ¬ (a : Int) < (s : Int) := by omega
                  have HE := HEND.out (decide (0 < s)) (Fl.lattice_good (fun i j hi hj => HOK.out i j (by omega) hj)).symm
                  have HE2 : Hid _ := HE
                  clear HE
                  by_cases h0 : 0 < s
                  · have h0I : (0 : Int) < (s : Int) := by omega
                    rw [decide_eq_true h0] at HE2
                    go_wp2
                    go_ret
                    exact HE2.out
                  · have h0I : ¬ (0 : Int) < (s : Int) := by omega
                    rw [decide_eq_false h0] at HE2
                    go_wp2
                    go_ret
                    exact HE2.out
end
end Go.Proofs.YthfacjlghcdndaaGreatDoor

namespace Go.Proofs.YthfacjlghcdndaaGreatDoor
open Go.RowKit
theorem frs_mem {nv nc : Nat} : ∀ {d : Nat} {fs : List Fl.Frame}, Fl.FrsOk nv nc d fs → ∀ f ∈ fs, (f.kind = 5 ∨ (f.kind = 6 ∧ f.had = false)) ∧ (f.had = false → f.els = [])
  | _, [], _, f, hf => (by cases hf)
  | d, g :: gs, h, f, hf => by
    rcases List.mem_cons.1 hf with rfl | h1
    · exact ⟨h.1.kd, h.1.no⟩
    · exact frs_mem h.2 f h1
section
variable {lo base Rb Pb : Nat} {w0 w w' : World} {m : RMem} {r : Fl.RS} {fl : List FlS} {t : Nat}
theorem target_same {n : List UInt8} {x : Nat} {r' : Fl.RS} (h : r.target n = some (x, r')) : r'.top = r.top ∧ r'.fr = r.fr ∧ r'.stmts = r.stmts := by
  unfold Fl.RS.target at h
  split at h
  · injection h with h; injection h with h1 h2; subst h2; exact ⟨rfl, rfl, rfl⟩
  · split at h
    · injection h with h; injection h with h1 h2; subst h2; exact ⟨rfl, rfl, rfl⟩
    · split at h
      · cases h
      · injection h with h; injection h with h1 h2; subst h2; exact ⟨rfl, rfl, rfl⟩
theorem stmt_if (kd : Nat) (k a : List UInt8) (hk : (if k == Fl.wIf then 5 else 6) = kd) (at_ : Nat) : ((stIf r kd a).1 ≠ 0 → (r.stmt at_ [k, a]).1 = (stIf r kd a).1) ∧
    ((stIf r kd a).1 = 0 → (stIf r kd a).2.2 = r ∧ ((stIf r kd a).2.1.kind = kd ∧ (stIf r kd a).2.1.x = 0) ∧ (16 ≤ r.stmts ∨ 3 ≤ r.fr.length → (r.stmt at_ [k, a]).1 = 5) ∧ (r.stmts < 16 → r.fr.length < 3 → r.stmt at_ [k, a] = (0, r.opens kd at_ (stIf r kd a).2.1.e))) := by
  have e1 : r.stmt at_ [k, a] = match r.value [a] with | none => (4, r) | some e => if 16 ≤ r.stmts ∨ 3 ≤ r.fr.length then (5, r) else (0, r.opens (if k == Fl.wIf then 5 else 6) at_ e) := rfl
  have e2 : stIf r kd a = match r.value [a] with | none => (4, noS, r) | some e => (0, ⟨kd, 0, 0, e, [], []⟩, r) := rfl
  rw [e1, e2]
  generalize r.value [a] = o
  cases o with
  | none => exact ⟨fun _ => rfl, fun h => (by cases h)⟩
  | some e =>
    refine ⟨fun h => absurd rfl h, fun _ => ⟨rfl, ⟨rfl, rfl⟩, fun h => ?_, fun h1 h2 => ?_⟩⟩
    · show (if 16 ≤ r.stmts ∨ 3 ≤ r.fr.length then (5, r) else _).1 = 5
      rw [if_pos h]
    · show (if 16 ≤ r.stmts ∨ 3 ≤ r.fr.length then (5, r) else _) = _
      rw [if_neg (show ¬ (16 ≤ r.stmts ∨ 3 ≤ r.fr.length) by omega), hk]
theorem stmt_out (n a : List UInt8) (at_ : Nat) : ((stOut r n a).1 ≠ 0 → (r.stmt at_ [Fl.wOut, n, a]).1 = (stOut r n a).1) ∧
    ((stOut r n a).1 = 0 → (stOut r n a).2.2 = r ∧ ((stOut r n a).2.1.kind = 3 ∨ (stOut r n a).2.1.kind = 4) ∧ (16 ≤ r.stmts → (r.stmt at_ [Fl.wOut, n, a]).1 = 5) ∧ (r.stmts < 16 → r.stmt at_ [Fl.wOut, n, a] = (0, r.put (lnS (stOut r n a).2.1 at_)))) := by
  have e1 : r.stmt at_ [Fl.wOut, n, a] = match r.value [a] with | none => (4, r) | some e => if Fl.place r.chans n < 0 then (4, r) else if 16 ≤ r.stmts then (5, r) else (0, r.put ⟨4, (Fl.place r.chans n).toNat, at_, e, [], []⟩) := rfl
  have e2 : stOut r n a = match r.value [a] with | none => (4, noS, r) | some e => if Fl.place r.chans n < 0 then (4, noS, r) else (0, ⟨4, (Fl.place r.chans n).toNat, 0, e, [], []⟩, r) := rfl
  rw [e1, e2]
  generalize r.value [a] = o
  cases o with
  | none => exact ⟨fun _ => rfl, fun h => (by cases h)⟩
  | some e =>
    by_cases hc : Fl.place r.chans n < 0
    · simp only [if_pos hc]
      exact ⟨fun _ => trivial, fun h => (by cases h)⟩
    · simp only [if_neg hc]
      refine ⟨fun h => absurd rfl h, fun _ => ⟨trivial, .inr trivial, fun h => ?_, fun h => ?_⟩⟩
      · rw [if_pos h]
      · rw [if_neg (show ¬ 16 ≤ r.stmts by omega)]; rfl
theorem stmt_set (n x : List UInt8) (v : List (List UInt8)) (at_ : Nat) : ((stSet r n (x :: v)).1 ≠ 0 → (r.stmt at_ (Fl.wSet :: n :: x :: v)).1 = (stSet r n (x :: v)).1) ∧
    ((stSet r n (x :: v)).1 = 0 → ((stSet r n (x :: v)).2.2.top = r.top ∧ (stSet r n (x :: v)).2.2.fr = r.fr ∧ (stSet r n (x :: v)).2.2.stmts = r.stmts) ∧ ((stSet r n (x :: v)).2.1.kind = 3 ∨ (stSet r n (x :: v)).2.1.kind = 4) ∧ (16 ≤ r.stmts → (r.stmt at_ (Fl.wSet :: n :: x :: v)).1 = 5) ∧ (r.stmts < 16 → r.stmt at_ (Fl.wSet :: n :: x :: v) = (0, (stSet r n (x :: v)).2.2.put (lnS (stSet r n (x :: v)).2.1 at_)))) := by
  have e1 : r.stmt at_ (Fl.wSet :: n :: x :: v) = match r.value (x :: v) with | none => (4, r) | some e => if 0 ≤ Fl.place r.chans n then (4, r) else match r.target n with | none => (5, r) | some (y, r') => if 16 ≤ r.stmts then (5, r) else (0, r'.put ⟨3, y, at_, e, [], []⟩) := rfl
  have e2 : stSet r n (x :: v) = match r.value (x :: v) with | none => (4, noS, r) | some e => if 0 ≤ Fl.place r.chans n then (4, noS, r) else match r.target n with | none => (5, noS, r) | some (y, r') => (0, ⟨3, y, 0, e, [], []⟩, r') := rfl
  rw [e1, e2]
  generalize r.value (x :: v) = o
  cases o with
  | none => exact ⟨fun _ => rfl, fun h => (by cases h)⟩
  | some e =>
    by_cases hc : 0 ≤ Fl.place r.chans n
    · simp only [if_pos hc]
      exact ⟨fun _ => trivial, fun h => (by cases h)⟩
    · simp only [if_neg hc]
      have hts : ∀ p, r.target n = some p → p.2.top = r.top ∧ p.2.fr = r.fr ∧ p.2.stmts = r.stmts := fun p hp => target_same (x := p.1) (r' := p.2) hp
      generalize r.target n = o at *
      cases o with
      | none => exact ⟨fun _ => rfl, fun h => (by cases h)⟩
      | some p =>
        obtain ⟨y, r'⟩ := p
        refine ⟨fun h => absurd rfl h, fun _ => ⟨hts _ rfl, .inl rfl, fun h => ?_, fun h => ?_⟩⟩
        · show (if 16 ≤ r.stmts then (5, r) else _).1 = 5
          rw [if_pos h]
        · show (if 16 ≤ r.stmts then (5, r) else _) = _
          rw [if_neg (show ¬ 16 ≤ r.stmts by omega)]; rfl
theorem rrow_any (h : RefAt lo base Rb Pb w0 w m) (hr : RefOf r fl t m) (hfl : FlatR fl r) (hcn : cnt fl = r.stmts) (hfine : r.Fine) (ht : t ≤ 100000) (v : Value) (ws : List (List UInt8)) (hw : WordsAt w.heap.size w v ws) (hbR : ∀ b off k c, v = .slice (some ⟨b, off, none⟩) k c → b ≠ Rb ∧ ∀ j, isRow j → (m.v j).ownBlock ≠ some b) (hl : Fl.line ws = true) (at_ : Nat) :
    Calls Tryz.prog 13 #[.pointer (some ⟨Rb, 0, none⟩), v, .int .i64 (at_ : Int)] w (RwEnds lo base Rb Pb w0 t (r.row ws at_)) := by
  have hlat : ∀ (W : World) (m : RMem) (r : Fl.RS), RefAt lo base Rb Pb w0 W m → RefOf r fl t m → Calls Tryz.prog 36 #[.pointer (some ⟨Rb, 0, none⟩)] W (LatEnds lo base Rb Pb w0 m (Fl.lattice r.levels.length r.tab)) := fun W m r h hr => rlattice_any h hr (by omega)
  have hW := hw
  obtain ⟨ao, cap, hv, hc1, hc2, hl1, hx, hcells⟩ := hw
  have hne : ws ≠ [] := by intro h0; subst h0; simp [Fl.line] at hl
  obtain ⟨b, off, hao, hb, hcell⟩ := hcells hne
  subst hao
  have hfr := hbR b off ws.length cap hv
  have hlen : 1 ≤ ws.length := by cases ws with | nil => exact absurd rfl hne | cons _ _ => simp
  have c0 : w.cell? ⟨b, off, none⟩ = some (.string ⟨(ws.getD 0 []).toArray⟩) := hcell 0 (by omega)
  have hx0 : (⟨(ws.getD 0 []).toArray⟩ : ByteArray).toList = ws.getD 0 [] := toList_mk _
  have hnm : 1 ≤ ws.length ∧ ws.length ≤ maxLen := ⟨hlen, by omega⟩
  by_cases hh : Fl.isHead (ws.getD 0 []) = r.begun
  · have e : r.row ws at_ = (3, r) := by unfold Fl.RS.row; rw [if_pos hh]
    rw [e, hv]
    exact row_bad h hr b off _ cap _ _ hnm c0 (by rw [hx0]; exact hh)
  · by_cases hd : Fl.isHead (ws.getD 0 []) = true
    · have e : r.row ws at_ = r.head ws := by unfold Fl.RS.row; rw [if_neg hh, if_pos hd]
      have hbg : r.begun = false := by cases hg : r.begun with | false => rfl | true => rw [hd, hg] at hh; exact absurd rfl hh
      have hhd := head_any hlat h hr (by omega) v ws hW hbR hl hd
      rw [e]
      rw [hv] at hhd ⊢
      exact row_head h hr hfl hcn b off _ cap _ _ ws hnm c0 (by rw [hx0]; exact hd) hbg hhd
    · have e : r.row ws at_ = r.stmt at_ ws := by unfold Fl.RS.row; rw [if_neg hh, if_neg hd]
      have hbg : r.begun = true := by
        cases hg : r.begun with
        | true => rfl
        | false =>
          have : Fl.isHead (ws.getD 0 []) = false := by cases h9 : Fl.isHead (ws.getD 0 []) with | false => rfl | true => exact absurd h9 hd
          rw [this, hg] at hh; exact absurd rfl hh
      rw [e]
      clear e hh hW
      subst hv
      have hfn := frs_mem hfine.frs
      match ws, hl, hd with
      | [a], hl, hd =>
        have e : a = Fl.wElse ∨ a = Fl.wEnd := by
          simp [Fl.line, Fl.isHead] at hl hd
          rcases hl with (h1 | h1) | h1
          · exact absurd h1 (by intro h2; subst h2; simp [Fl.wLevel, Fl.wBelow, Fl.wCell, Fl.wChannel, Fl.wBegin] at hd)
          · exact .inl h1
          · exact .inr h1
        rcases e with e | e
        · subst e
          exact row_else h hr hfl hcn hfn ht b off cap _ (hcell 0 (by simp)) hbg at_
        · subst e
          exact row_end h hr hfl hcn hfn ht b off cap _ (hcell 0 (by simp)) hbg at_
      | [k, a], hl, hd =>
        have e : k = Fl.wIf ∨ k = Fl.wWhile := by
          simp [Fl.line, Fl.isHead] at hl hd
          rcases hl with h1 | ⟨h1 | h1, _⟩
          · exact absurd h1.1 (by intro h2; subst h2; simp [Fl.wLevel] at hd)
          · exact .inl h1
          · exact .inr h1
        rcases e with e | e
        · subst e
          obtain ⟨s1, s2⟩ := stmt_if (r := r) 5 Fl.wIf a rfl at_
          exact row_if h hr ht b off 2 cap ⟨by omega, hnm.2⟩ hb hfr at_ (hcell 0 (by simp)) hbg (stIf r 5 a) _ (st_if h hr b off cap a (hx a (by simp)) hb ⟨hc1, hc2⟩ (hcell 0 (by simp)) (hcell 1 (by simp))) s1 (fun h0 => by rw [(s2 h0).1]; exact ⟨(s2 h0).2.2.1, (s2 h0).2.2.2⟩) (fun h0 => by rw [(s2 h0).1]; exact ⟨hfl, hcn, (s2 h0).2.1⟩)
        · subst e
          obtain ⟨s1, s2⟩ := stmt_if (r := r) 6 Fl.wWhile a rfl at_
          exact row_while h hr ht b off 2 cap ⟨by omega, hnm.2⟩ hb hfr at_ (hcell 0 (by simp)) hbg (stIf r 6 a) _ (st_while h hr b off cap a (hx a (by simp)) hb ⟨hc1, hc2⟩ (hcell 0 (by simp)) (hcell 1 (by simp))) s1 (fun h0 => by rw [(s2 h0).1]; exact ⟨(s2 h0).2.2.1, (s2 h0).2.2.2⟩) (fun h0 => by rw [(s2 h0).1]; exact ⟨hfl, hcn, (s2 h0).2.1⟩)
      | [k, n, a], hl, hd =>
        have e : k = Fl.wOut ∨ k = Fl.wSet := by
          simp [Fl.line, Fl.isHead] at hl hd
          rcases hl with ⟨⟨h1, _⟩, _⟩ | ⟨⟨h1 | h1, _⟩, _⟩
          · rcases h1 with (h1 | h1) | h1
            · exact absurd h1 (by intro h2; subst h2; simp [Fl.wLevel, Fl.wBelow] at hd)
            · exact absurd h1 (by intro h2; subst h2; simp [Fl.wLevel, Fl.wBelow, Fl.wCell] at hd)
            · exact absurd h1 (by intro h2; subst h2; simp [Fl.wLevel, Fl.wBelow, Fl.wCell, Fl.wChannel] at hd)
          · exact .inl h1
          · exact .inr h1
        rcases e with e | e
        · subst e
          obtain ⟨s1, s2⟩ := stmt_out (r := r) n a at_
          refine row_plain h hr ht b off 3 cap ⟨by omega, hnm.2⟩ hb hfr at_ ⟨Fl.wOut.toArray⟩ ?_ ?_ ?_ ?_ ?_ ?_ ?_ ?_ ?_ (hcell 0 (by simp)) hbg (stOut r n a) _ (st_out h hr b off cap n a (hx a (by simp)) hb ⟨hc1, hc2⟩ (hcell 0 (by simp)) (hcell 1 (by simp)) (hcell 2 (by simp))) s1 (fun h0 => by rw [(s2 h0).1]; exact ⟨(s2 h0).2.2.1, (s2 h0).2.2.2⟩) (fun h0 => by rw [(s2 h0).1]; exact ⟨hfl, hcn, (s2 h0).2.1⟩)
          all_goals (rw [toList_mk]; rfl)
        · subst e
          obtain ⟨s1, s2⟩ := stmt_set (r := r) n a [] at_
          refine row_plain h hr ht b off 3 cap ⟨by omega, hnm.2⟩ hb hfr at_ ⟨Fl.wSet.toArray⟩ ?_ ?_ ?_ ?_ ?_ ?_ ?_ ?_ ?_ (hcell 0 (by simp)) hbg (stSet r n [a]) _ (st_set3 h hr b off cap n a (hx a (by simp)) (hx n (by simp)) hb hfr ⟨hc1, hc2⟩ (hcell 0 (by simp)) (hcell 1 (by simp)) (hcell 2 (by simp))) s1 (fun h0 => by rw [(s2 h0).1.2.2]; exact ⟨(s2 h0).2.2.1, (s2 h0).2.2.2⟩) (fun h0 => by rw [(s2 h0).1.2.2]; exact ⟨hfl.same (s2 h0).1.1 (s2 h0).1.2.1, hcn, (s2 h0).2.1⟩)
          all_goals (rw [toList_mk]; rfl)
      | [_, _, _, _], hl, hd => simp [Fl.line] at hl
      | [k, n, a, o, b2], hl, hd =>
        have e : k = Fl.wSet := by
          simp [Fl.line, Fl.isHead] at hl hd
          exact hl.1.1.1.1
        subst e
        obtain ⟨s1, s2⟩ := stmt_set (r := r) n a [o, b2] at_
        refine row_plain h hr ht b off 5 cap ⟨by omega, hnm.2⟩ hb hfr at_ ⟨Fl.wSet.toArray⟩ ?_ ?_ ?_ ?_ ?_ ?_ ?_ ?_ ?_ (hcell 0 (by simp)) hbg (stSet r n [a, o, b2]) _ (st_set5 h hr b off cap n a o b2 (hx a (by simp)) (hx b2 (by simp)) (hx n (by simp)) hb hfr ⟨hc1, hc2⟩ (hcell 0 (by simp)) (hcell 1 (by simp)) (hcell 2 (by simp)) (hcell 3 (by simp)) (hcell 4 (by simp))) s1 (fun h0 => by rw [(s2 h0).1.2.2]; exact ⟨(s2 h0).2.2.1, (s2 h0).2.2.2⟩) (fun h0 => by rw [(s2 h0).1.2.2]; exact ⟨hfl.same (s2 h0).1.1 (s2 h0).1.2.1, hcn, (s2 h0).2.1⟩)
        all_goals (rw [toList_mk]; rfl)
      | _ :: _ :: _ :: _ :: _ :: _ :: _, hl, hd => simp [Fl.line] at hl
end
end Go.Proofs.YthfacjlghcdndaaGreatDoor

namespace Go.Proofs.YthfacjlghcdndaaGreatDoor
open Go.RowKit
theorem cut_ref (c : UInt8) (s : List UInt8) (W : World) (hs : s.length ≤ 50000) : Calls Tryz.prog 11 #[.string ⟨s.toArray⟩, .int .u8 c.toNat] W fun e w' => ∃ g cap, e = .returned (.slice (some ⟨g, 0, none⟩) (Fl.cutR c s).length cap) ∧ W.heap.size ≤ g ∧ WordsAt w'.heap.size w' (.slice (some ⟨g, 0, none⟩) (Fl.cutR c s).length cap) (Fl.cutR c s) ∧ Below W.heap.size W w' := by
  refine (cut_walk ⟨s.toArray⟩ c W (by show s.toArray.size ≤ 100000; simp; omega)).mono ?_
  rintro e w' ⟨v, rfl, ho, hb⟩
  have e1 : Fl.cut c (⟨s.toArray⟩ : ByteArray).data.toList = Fl.cutR c s := by rw [← Fl.cut_cutR]
  rw [e1] at ho
  obtain ⟨h1, h2⟩ := cutR_len c s
  have hne := List.length_pos_iff.2 (Fl.cutR_ne c s)
  obtain ⟨g, cap, rfl, hg, hz, -⟩ := own_someL ho hne
  exact ⟨g, cap, rfl, hg, WordsAt.of_own ho (by omega) (fun x hx => by have := h2 x hx; omega), hb⟩
theorem line_ref (v : Value) (ws : List (List UInt8)) (W : World) (hw : WordsAt W.heap.size W v ws) (hne : ws ≠ []) : Calls Tryz.prog 12 #[v] W fun e w' => e = .returned (.bool (Fl.line ws)) ∧ Below W.heap.size W w' := by
  have h := line_any v (ws.map fun l => (⟨l.toArray⟩ : ByteArray)) W hw.strs (by intro h; exact hne (List.map_eq_nil_iff.1 h))
  rw [bl_mk] at h
  exact h
theorem fsCells_len (f : FlS) : (fsCells f).length = 10 := by unfold fsCells; split <;> rfl
theorem flatV_get : ∀ (fl : List FlS) (k j : Nat), k < fl.length → j < 10 → (flatV fl)[k * 10 + j]? = some ((fsCells (fl.getD k fEnd)).getD j undef)
  | [], k, j, hk, hj => by simp at hk
  | f :: fl, 0, j, hk, hj => by
    have e : flatV (f :: fl) = fsCells f ++ flatV fl := rfl
    rw [e, List.getElem?_append_left (by rw [fsCells_len]; omega)]
    have h1 : 0 * 10 + j < (fsCells f).length := by rw [fsCells_len]; omega
    have h2 : j < (fsCells f).length := by rw [fsCells_len]; omega
    simp [List.getD_eq_getElem?_getD, h2]
  | f :: fl, k + 1, j, hk, hj => by
    have e : flatV (f :: fl) = fsCells f ++ flatV fl := rfl
    rw [e, List.getElem?_append_right (by rw [fsCells_len]; omega), fsCells_len, show (k + 1) * 10 + j - 10 = k * 10 + j by omega, flatV_get fl k j (by simp at hk; omega) hj]
    simp [List.getD_eq_getElem?_getD]
theorem FlAt.of_own {base : Nat} {w : World} {v : Value} {fl : List FlS} (h : w.ownsRow base 87 10 v fl.length (flatV fl)) (hl : fl.length ≤ 100000) : FlAt w v fl := by
  rcases h.2 with ⟨h1, h2⟩ | ⟨g, cap, cur, h1, hb, hg, hc, hm, hs, ht⟩
  · exact ⟨none, 0, by rw [h1, h2], by omega, by decide, hl, fun hne => absurd (List.eq_nil_of_length_eq_zero h2) hne⟩
  · refine ⟨_, cap, h1, hc, hm, hl, fun hne => ⟨g, rfl, (h.lt g (by rw [h1]; rfl)).2, fun k hk j hj => ?_⟩⟩
    have h5 := h.cells (g := g) (by rw [h1]; rfl) (k * 10 + j) _ (flatV_get fl k j hk hj)
    have h6 : (⟨g, 0, none⟩ : Addr).add (k * 10 + j) = ⟨g, k * 10 + j, none⟩ := by unfold Addr.add; split <;> simp_all
    rw [h6] at h5; exact h5
def progZ : Array Value := #[.int .i64 0, .slice none 0 0, .slice none 0 0, .slice none 0 0, .int .i64 0, .slice none 0 0]
def rdZ (Pb : Nat) : Array Value := #[.pointer (some ⟨Pb, 0, none⟩), .slice none 0 0, .slice none 0 0, .slice none 0 0, .slice none 0 0, .slice none 0 0, .slice none 0 0, .bool false, .slice none 0 0, .int .i64 0, .slice none 0 0]
def m00 : RMem := ⟨fun _ => 0, fun _ => [], fun _ => .slice none 0 0, false, 0, 0, .slice none 0 0, 0, .slice none 0 0⟩
def rdW0 (W : World) : World := (W.alloc (.cells progZ 39)).alloc (.cells (rdZ W.heap.size) 53)
theorem rdW0_size (W : World) : (rdW0 W).heap.size = W.heap.size + 2 := by simp [rdW0]
theorem rdW0_below (W : World) : Below W.heap.size W (rdW0 W) := ((Below.refl _ _).alloc (Nat.le_refl _) _).alloc (by simp) _
theorem RefAt.start (W : World) : RefAt W.heap.size (W.heap.size + 2) (W.heap.size + 1) W.heap.size W (rdW0 W) m00 := by
  have e1 : (W.alloc (.cells progZ 39)).heap.size = W.heap.size + 1 := by simp
  refine { bel := rdW0_below W, hba := ⟨by omega, by omega, by omega, by omega, by omega, by rw [rdW0_size]; omega, by omega⟩, cR := ?_, cP := ?_, own := fun j _ => ⟨(Nat.zero_mul (rSz j)).symm, .inl ⟨rfl, rfl⟩⟩, dis := fun i j b _ _ _ h => (by cases h) }
  · have h := Cells.new (W.alloc (.cells progZ 39)) (rdZ W.heap.size).toList 53
    rw [e1] at h
    refine h.congr (fun j hj => ?_)
    have hj' : j < 11 := hj
    rcases (show j = 0 ∨ j = 1 ∨ j = 2 ∨ j = 3 ∨ j = 4 ∨ j = 5 ∨ j = 6 ∨ j = 7 ∨ j = 8 ∨ j = 9 ∨ j = 10 by omega) with rfl | rfl | rfl | rfl | rfl | rfl | rfl | rfl | rfl | rfl | rfl <;> rfl
  · have h := (Cells.new W progZ.toList 39).block (w' := rdW0 W) (b := W.heap.size) (Below.heap_alloc _ _ _ (by simp))
    refine h.congr (fun j hj => ?_)
    have hj' : j < 6 := hj
    rcases (show j = 0 ∨ j = 1 ∨ j = 2 ∨ j = 3 ∨ j = 4 ∨ j = 5 by omega) with rfl | rfl | rfl | rfl | rfl | rfl <;> rfl
theorem RefOf.start : RefOf Fl.RS.zero [] 0 m00 :=
  { r1 := ⟨rfl, rfl⟩, r2 := ⟨rfl, rfl⟩, r3 := ⟨rfl, rfl⟩, r4 := ⟨rfl, rfl⟩, r5 := ⟨rfl, rfl⟩, r6 := ⟨rfl, rfl⟩, r8 := ⟨rfl, rfl⟩, r10 := ⟨rfl, rfl⟩, r12 := ⟨rfl, rfl⟩, r13 := ⟨rfl, rfl⟩, bg := rfl, st := rfl, nm := fun x hx => (by cases hx), lv := by decide, ce := by decide, ch := by decide, lo := by decide, sm := by decide, fr := by decide, lw := by decide, ft := by decide, pr := rfl, bw := ⟨fun x hx => (by cases hx), fun x hx => (by cases hx)⟩, cl := rfl, hl := rfl }
def RReadEnds (res : Nat × Nat × Fl.Prog) (w : World) (e : Ending) (w' : World) : Prop :=
  Below w.heap.size w w' ∧ (res.1 ≠ 0 → e = .returned (.tuple #[.pointer none, .int .i64 (res.1 : Nat), .int .i64 (res.2.1 : Nat)])) ∧
  (res.1 = 0 → ∃ (Pb : Nat) (a b chv bv : Value) (ca : Option Addr) (cc : Nat), e = .returned (.tuple #[.pointer (some ⟨Pb, 0, none⟩), .int .i64 0, .int .i64 0]) ∧ w.heap.size ≤ Pb ∧ Pb < w'.heap.size ∧ Cells w' Pb 6 (rw_ [a, b, .slice ca res.2.2.cells.length cc, chv, .int .i64 (res.2.2.locals : Nat), bv]) ∧ RStmts 4 (fun b => w.heap.size ≤ b ∧ b < w'.heap.size) w' bv res.2.2.body)
structure RfIn (W1 : World) (L : List (List UInt8)) (k : Nat) (wr : World) (m : RMem) (fl : List FlS) (r : Fl.RS) : Prop where
  at_ : RefAt W1.heap.size (W1.heap.size + 2) (W1.heap.size + 1) W1.heap.size W1 wr m
  of_ : RefOf r fl k m
  fl_ : FlatR fl r
  cn_ : cnt fl = r.stmts
  fi_ : r.Fine
  lt_ : k < L.length
  rs_ : Fl.rows Fl.RS.zero 0 L = Fl.rows r k (L.drop k)
theorem RfIn.start (W1 : World) (L : List (List UInt8)) (h : 0 < L.length) : RfIn W1 L 0 (rdW0 W1) m00 [] Fl.RS.zero := ⟨RefAt.start W1, RefOf.start, flatR0, rfl, Fl.fine0, h, rfl⟩
section
variable {W1 wr w' : World} {L : List (List UInt8)} {k : Nat} {m : RMem} {fl : List FlS} {r : Fl.RS}
theorem drop_two (hk : k + 1 < L.length) : L.drop k = L[k] :: L[k + 1] :: L.drop (k + 2) := by
  rw [List.drop_eq_getElem_cons (by omega), List.drop_eq_getElem_cons hk]
theorem RfIn.badLine (h : RfIn W1 L k wr m fl r) (hk : k + 1 < L.length) (hl : Fl.line (Fl.cutR 32 L[k]) = false) : Fl.rows Fl.RS.zero 0 L = (2, k + 1, r) := by
  rw [h.rs_, drop_two hk, Fl.rows, if_pos hl]
theorem RfIn.badRow (h : RfIn W1 L k wr m fl r) (hk : k + 1 < L.length) (hl : Fl.line (Fl.cutR 32 L[k]) = true) (he : (r.row (Fl.cutR 32 L[k]) (k + 1)).1 ≠ 0) : Fl.rows Fl.RS.zero 0 L = ((r.row (Fl.cutR 32 L[k]) (k + 1)).1, k + 1, r) := by
  rw [h.rs_, drop_two hk, Fl.rows, if_neg (by rw [hl]; decide), if_pos he]
theorem RfIn.next (h : RfIn W1 L k wr m fl r) (hk : k + 1 < L.length) (hl : Fl.line (Fl.cutR 32 L[k]) = true) (he : (r.row (Fl.cutR 32 L[k]) (k + 1)).1 = 0) {m' : RMem} {fl' : List FlS} (h1 : RefAt W1.heap.size (W1.heap.size + 2) (W1.heap.size + 1) W1.heap.size W1 w' m') (h2 : RefOf (r.row (Fl.cutR 32 L[k]) (k + 1)).2 fl' (k + 1) m') (h3 : FlatR fl' (r.row (Fl.cutR 32 L[k]) (k + 1)).2) (h4 : cnt fl' = (r.row (Fl.cutR 32 L[k]) (k + 1)).2.stmts) : RfIn W1 L (k + 1) w' m' fl' (r.row (Fl.cutR 32 L[k]) (k + 1)).2 := by
  refine ⟨h1, h2, h3, h4, h.fi_.row_ok _ _ he, hk, ?_⟩
  rw [h.rs_, drop_two hk, Fl.rows, if_neg (by rw [hl]; decide), if_neg (by rw [he]; decide), List.drop_eq_getElem_cons hk]
theorem drop_one (hk : k + 1 = L.length) : L.drop k = [L[k]] := by
  rw [List.drop_eq_getElem_cons (by omega), List.drop_of_length_le (by omega)]
theorem RfIn.last (h : RfIn W1 L k wr m fl r) (hk : k + 1 = L.length) (hx : ¬ (L[k] = [] ∧ 0 < k)) : Fl.rows Fl.RS.zero 0 L = (2, k + 1, r) := by
  rw [h.rs_, drop_one hk, Fl.rows, if_neg hx]
theorem RfIn.open_ (h : RfIn W1 L k wr m fl r) (hk : k + 1 = L.length) (hx : L[k] = [] ∧ 0 < k) (ho : ¬ (r.begun = true ∧ r.fr = [])) : Fl.rows Fl.RS.zero 0 L = (3, k + 1, r) := by
  rw [h.rs_, drop_one hk, Fl.rows, if_pos hx, if_neg ho]
theorem RfIn.done (h : RfIn W1 L k wr m fl r) (hk : k + 1 = L.length) (hx : L[k] = [] ∧ 0 < k) (ho : r.begun = true ∧ r.fr = []) : Fl.rows Fl.RS.zero 0 L = (0, 0, r) := by
  rw [h.rs_, drop_one hk, Fl.rows, if_pos hx, if_pos ho]
end
end Go.Proofs.YthfacjlghcdndaaGreatDoor
