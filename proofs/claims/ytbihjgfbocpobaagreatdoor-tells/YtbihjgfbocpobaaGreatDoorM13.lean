/- Texts RefQ RefR RefS. -/
import Derived.Test.YtbihjgfbocpobaaGreatDoorM12
/- The reference's one, of the other kinds. -/
set_option linter.unusedSimpArgs false
set_option linter.unusedVariables false
namespace Go.Proofs.YtbihjgfbocpobaaGreatDoor
open Go.RowKit

theorem own_some {w : World} {base : Nat} {e : TypeId} {v : Value} {n : Nat} {xs : List Value} (h : w.ownsRow base e 1 v n xs) (hn : 0 < n) : ∃ g cap, v = .slice (some ⟨g, 0, none⟩) n cap ∧ base ≤ g ∧ g < w.heap.size ∧ ∀ j u, xs[j]? = some u → w.cell? ⟨g, j, none⟩ = some u := by
  rcases h.2 with ⟨rfl, h0⟩ | ⟨g, cap, cur, rfl, hb, hg, _⟩
  · omega
  · refine ⟨g, cap, rfl, hb, (Array.getElem?_eq_some_iff.1 hg).1, fun j u hu => ?_⟩
    have h1 := h.cells (g := g) rfl j u hu
    have h2 : (⟨g, 0, none⟩ : Addr).add j = ⟨g, j, none⟩ := by unfold Addr.add; split <;> simp_all
    rw [h2] at h1; exact h1
theorem two_cells_new {w : World} {e : TypeId} {x y : Value} : ∀ j u, [x, y][j]? = some u → (w.alloc (.cells #[x, y] e)).cell? ((⟨w.heap.size, 0, none⟩ : Addr).add j) = some u := by
  intro j u hj
  match j, hj with
  | 0, hj => simp at hj; subst hj; simp [Addr.add]
  | 1, hj => simp at hj; subst hj; simp [Addr.add]

set_option maxRecDepth 100000 in
set_option maxHeartbeats 4000000 in
theorem one_fbad (s : ByteArray) (p k : Nat) (F v n b n3 b3 : Int) (w : World) (hs : s.size ≤ 4611686018427387904) (hp : p < s.size) (hn : ¬ n < 0) (hF1 : 0 ≤ F) (hF3 : F ≤ 3) (hn3 : n3 < 0)
    (H : Hid (∀ w, Calls Tryz.prog 21 #[.int .i64 s[p].toNat] w fun e w' => e = .returned (.int .i64 F) ∧ w' = w))
    (H1 : Hid (∀ w, Calls Tryz.prog 15 #[.string s, .int .i64 ((p : Int) + 1)] w fun e w' => e = .returned (.tuple #[.int .i64 v, .int .i64 n, .int .i64 b]) ∧ w' = w))
    (H3 : Hid (∀ w, Calls Tryz.prog 16 #[.string s, .int .i64 n, .int .i64 F] w fun e w' => ∃ lv, e = .returned (.tuple #[lv, .int .i64 n3, .int .i64 b3]) ∧ Below w.heap.size w w')) :
    Calls Tryz.prog 17 #[.string s, .int .i64 p, .int .i64 k] w fun e w' => OneEnds (Fl.nd0, -1, b3) w e w' := by
  have b1 : ((p : Int) == (s.size : Int)) = false := beq_eq_false_iff_ne.2 (by omega)
  have b2 : (F == -2) = false := beq_eq_false_iff_ne.2 (by omega)
  have b4 : (F == -1) = false := beq_eq_false_iff_ne.2 (by omega)
  have hc : s[p].toNat < 256 := s[p].toNat_lt
  go_enter Tryz.func17, Tryz.ntmps17
  go_wp2_with (go_at_call 21; refine (H.out _).mono ?_; rintro e w' ⟨rfl, rfl⟩)
  refine (H1.out _).mono ?_; rintro e w' ⟨rfl, rfl⟩
  go_wp2_with fail
  refine (H3.out _).mono ?_; rintro e w1 ⟨lv, rfl, hb1⟩
  obtain ⟨hcB, hfB⟩ := bcell hb1
  simp only [World.size_alloc] at hcB hfB
  have hz : w.heap.size + 1 < w1.heap.size := by have := hb1.size; simp at this; omega
  obtain ⟨q0, q1, q2, q3, q4, q5⟩ := six_same (w1 := w1) (B := w.heap.size) (o0 := .int .i64 0) (o1 := .int .i64 0) (o2 := .int .i64 0) (o3 := .int .i64 0) (o4 := .int .i64 0) (o5 := .slice none 0 0) (.int .i64 s[p].toNat) (.int .i64 v) (.int .i64 0) (.int .i64 0) (.int .i64 0) (.slice none 0 0) (by rw [hcB _ _ (by omega)]; simp) (by rw [hcB _ _ (by omega)]; simp) (by rw [hcB _ _ (by omega)]; simp) (by rw [hcB _ _ (by omega)]; simp) (by rw [hcB _ _ (by omega)]; simp) (by rw [hcB _ _ (by omega)]; simp)
  go_wp2
  exact bodyPost_ret (v := .tuple #[.agg #[.int .i64 s[p].toNat, .int .i64 v, .int .i64 0, .int .i64 0, .int .i64 0, .slice none 0 0], .int .i64 (-1), .int .i64 b3]) (by simp [results, Tryz.results17, go_sem, q0, q1, q2, q3, q4, q5]) rfl (one_bad rfl rfl ⟨⟨_, _, _, _, _, []⟩, _, _, _, rfl⟩ (six_below ((((Below.refl _ _).alloc (Nat.le_refl _) _).alloc (by simp) _).trans (hb1.mono (by simp; omega)))))

set_option maxRecDepth 100000 in
set_option maxHeartbeats 8000000 in
theorem one_f1 (s : ByteArray) (p k : Nat) (v n b n3 b3 : Int) (x : Int) (w : World) (hs : s.size ≤ 4611686018427387904) (hp : p < s.size) (hn : ¬ n < 0) (hn3 : ¬ n3 < 0)
    (H : Hid (∀ w, Calls Tryz.prog 21 #[.int .i64 s[p].toNat] w fun e w' => e = .returned (.int .i64 1) ∧ w' = w))
    (H1 : Hid (∀ w, Calls Tryz.prog 15 #[.string s, .int .i64 ((p : Int) + 1)] w fun e w' => e = .returned (.tuple #[.int .i64 v, .int .i64 n, .int .i64 b]) ∧ w' = w))
    (H3 : Hid (∀ w, Calls Tryz.prog 16 #[.string s, .int .i64 n, .int .i64 1] w fun e w' => ∃ lv, e = .returned (.tuple #[lv, .int .i64 n3, .int .i64 b3]) ∧ w'.ownsRow w.heap.size 3 1 lv 1 [.int .i64 x] ∧ Below w.heap.size w w')) :
    Calls Tryz.prog 17 #[.string s, .int .i64 p, .int .i64 k] w fun e w' => OneEnds (Fl.oneFin p k ⟨s[p].toNat, v, x, 0, 0, []⟩ n3) w e w' := by
  obtain ⟨i0, hi, hz0, hz1, hz2⟩ := info_parts Tryz.infoInt
  have b1 : ((p : Int) == (s.size : Int)) = false := beq_eq_false_iff_ne.2 (by omega)
  have hc : s[p].toNat < 256 := s[p].toNat_lt
  go_enter Tryz.func17, Tryz.ntmps17
  go_wp2_with (go_at_call 21; refine (H.out _).mono ?_; rintro e w' ⟨rfl, rfl⟩)
  refine (H1.out _).mono ?_; rintro e w' ⟨rfl, rfl⟩
  go_wp2_with fail
  refine (H3.out _).mono ?_; rintro e w1 ⟨lv, rfl, hown, hb1⟩
  simp only [World.size_alloc] at hown
  have hsz1 := hb1.size
  simp only [World.size_alloc] at hsz1
  go_wp2_with (at_builtin; refine wpList_append_own _ rfl _ _ 29 rfl (w.heap.size + 1 + 1) 3 i0 (.int .i64 0) 1 8 Tryz.underlying29 hi hz0 hz1 hz2 rfl (by decide) _ _ _ rfl (hown.alloc _) ⟨_, 0, none⟩ 2 2 [.int .i64 0, .int .i64 0] rfl rfl two_cells_new ?c2 ?c3 ?c4 ?c5 ?_)
  case c2 => intro u hu; simp at hu; subst hu; rfl
  case c3 => unfold maxLen; omega
  case c4 => omega
  case c5 => simp; omega
  intro lv' w3 hown' hgrow _
  have hb3 := (((hb1.mono (Nat.le_refl _)).alloc (by simp; omega) _).grown hgrow (by simp; omega) (fun g hg => by have := (hown.lt g hg).1; simp; omega))
  obtain ⟨g, gcap, rfl, hgb, hgl, hgc⟩ := own_some hown' (by omega)
  have e0 := hgc 0 (.int .i64 x) (by simp)
  have e1 := hgc 1 (.int .i64 0) (by simp)
  have e2 := hgc 2 (.int .i64 0) (by simp)
  have hgne : ∀ (W : World) (o : Nat) (u : Value) (j : Nat), (W.setCell ⟨w.heap.size + 1, o, none⟩ u).cell? ⟨g, j, none⟩ = W.cell? ⟨g, j, none⟩ := fun W o u j => by apply World.cell?_setCell_other; intro hh; injection hh with h2; omega
  have hcB : ∀ b o, b < w.heap.size + 1 + 1 → w3.cell? ⟨b, o, none⟩ = _ := fun b o h => hb3.cell (p := ⟨b, o, none⟩) (by simpa using h)
  have hfB : ∀ b o, b < w.heap.size + 1 + 1 → w3.frozen? ⟨b, o, none⟩ = _ := fun b o h => hb3.frozen (p := ⟨b, o, none⟩) (by simpa using h)
  have hbw3 : Below w.heap.size w w3 := (((Below.refl _ _).alloc (Nat.le_refl _) _).alloc (by simp) _).trans (hb3.mono (by simp; omega))
  clear hown hown' hgrow hgc hb3 hb1
  have f0 : (((w3.setCell ⟨w.heap.size + 1, 2, none⟩ (.int .i64 x)).setCell ⟨w.heap.size + 1, 3, none⟩ (.int .i64 0)).setCell ⟨w.heap.size + 1, 3, none⟩ (.int .i64 0)).cell? ⟨w.heap.size + 1, 0, none⟩ = some (.int .i64 s[p].toNat) := ((cell_off (by decide)).trans ((cell_off (by decide)).trans ((cell_off (by decide)).trans (by rw [hcB _ _ (by omega)]; simp))))
  have f1 : (((w3.setCell ⟨w.heap.size + 1, 2, none⟩ (.int .i64 x)).setCell ⟨w.heap.size + 1, 3, none⟩ (.int .i64 0)).setCell ⟨w.heap.size + 1, 3, none⟩ (.int .i64 0)).cell? ⟨w.heap.size + 1, 1, none⟩ = some (.int .i64 v) := ((cell_off (by decide)).trans ((cell_off (by decide)).trans ((cell_off (by decide)).trans (by rw [hcB _ _ (by omega)]; simp))))
  have f2 : (((w3.setCell ⟨w.heap.size + 1, 2, none⟩ (.int .i64 x)).setCell ⟨w.heap.size + 1, 3, none⟩ (.int .i64 0)).setCell ⟨w.heap.size + 1, 3, none⟩ (.int .i64 0)).cell? ⟨w.heap.size + 1, 2, none⟩ = some (.int .i64 x) := ((cell_off (by decide)).trans ((cell_off (by decide)).trans (cell_self (o := .int .i64 0) (by rw [hcB _ _ (by omega)]; simp))))
  have f3 : (((w3.setCell ⟨w.heap.size + 1, 2, none⟩ (.int .i64 x)).setCell ⟨w.heap.size + 1, 3, none⟩ (.int .i64 0)).setCell ⟨w.heap.size + 1, 3, none⟩ (.int .i64 0)).cell? ⟨w.heap.size + 1, 3, none⟩ = some (.int .i64 0) := (cell_self (o := .int .i64 0) (cell_self (o := .int .i64 0) ((cell_off (by decide)).trans (by rw [hcB _ _ (by omega)]; simp))))
  have f4 : (((w3.setCell ⟨w.heap.size + 1, 2, none⟩ (.int .i64 x)).setCell ⟨w.heap.size + 1, 3, none⟩ (.int .i64 0)).setCell ⟨w.heap.size + 1, 3, none⟩ (.int .i64 0)).cell? ⟨w.heap.size + 1, 4, none⟩ = some (.int .i64 0) := ((cell_off (by decide)).trans ((cell_off (by decide)).trans ((cell_off (by decide)).trans (by rw [hcB _ _ (by omega)]; simp))))
  have f5 : (((w3.setCell ⟨w.heap.size + 1, 2, none⟩ (.int .i64 x)).setCell ⟨w.heap.size + 1, 3, none⟩ (.int .i64 0)).setCell ⟨w.heap.size + 1, 3, none⟩ (.int .i64 0)).cell? ⟨w.heap.size + 1, 5, none⟩ = some (.slice none 0 0) := ((cell_off (by decide)).trans ((cell_off (by decide)).trans ((cell_off (by decide)).trans (by rw [hcB _ _ (by omega)]; simp))))
  have HP : Hid (Calls Tryz.prog 32 #[nodeV ⟨s[p].toNat, v, x, 0, 0, []⟩ (.slice none 0 0)] (((w3.setCell ⟨w.heap.size + 1, 2, none⟩ (.int .i64 x)).setCell ⟨w.heap.size + 1, 3, none⟩ (.int .i64 0)).setCell ⟨w.heap.size + 1, 3, none⟩ (.int .i64 0)) fun e w' => ∃ pv, e = .returned pv ∧ IntsAt w'.heap.size w' pv (prem ⟨s[p].toNat, v, x, 0, 0, []⟩) ∧ Below (((w3.setCell ⟨w.heap.size + 1, 2, none⟩ (.int .i64 x)).setCell ⟨w.heap.size + 1, 3, none⟩ (.int .i64 0)).setCell ⟨w.heap.size + 1, 3, none⟩ (.int .i64 0)).heap.size (((w3.setCell ⟨w.heap.size + 1, 2, none⟩ (.int .i64 x)).setCell ⟨w.heap.size + 1, 3, none⟩ (.int .i64 0)).setCell ⟨w.heap.size + 1, 3, none⟩ (.int .i64 0)) w') :=
    premises_any _ _ _ _ (Nat.le_refl _) (IntsAt.nil _ _)
  have HW1 : Hid (Below w.heap.size w (((w3.setCell ⟨w.heap.size + 1, 2, none⟩ (.int .i64 x)).setCell ⟨w.heap.size + 1, 3, none⟩ (.int .i64 0)).setCell ⟨w.heap.size + 1, 3, none⟩ (.int .i64 0))) := (((hbw3.setCell (by simp) _).setCell (by simp) _).setCell (by simp) _)
  have hsz3 : w.heap.size + 1 < w3.heap.size := by omega
  have hblk : ∀ j, (((w3.setCell ⟨w.heap.size + 1, 2, none⟩ (.int .i64 x)).setCell ⟨w.heap.size + 1, 3, none⟩ (.int .i64 0)).setCell ⟨w.heap.size + 1, 3, none⟩ (.int .i64 0)).cell? ⟨w.heap.size, j, none⟩ = w3.cell? ⟨w.heap.size, j, none⟩ := fun j => by
    repeat (rw [World.cell?_setCell_other _ _ _ _ (by intro hh; injection hh with h2; omega)])
  go_wp2_with fail
  refine (HP.out).mono ?_; rintro e w2 ⟨pv, rfl, hpi, hb2⟩
  obtain ⟨hcC, hfC⟩ := bcell hb2
  have hsz2 : (((w3.setCell ⟨w.heap.size + 1, 2, none⟩ (.int .i64 x)).setCell ⟨w.heap.size + 1, 3, none⟩ (.int .i64 0)).setCell ⟨w.heap.size + 1, 3, none⟩ (.int .i64 0)).heap.size = w3.heap.size := by simp [World.setCell]
  rw [hsz2] at hcC hfC
  have hz2 : w.heap.size + 1 < w2.heap.size := by have := hb2.size; rw [hsz2] at this; omega
  have hbw2 : Below w.heap.size w w2 := HW1.out.trans (hb2.mono (by rw [hsz2]; omega))
  have c0 : w2.cell? ⟨w.heap.size + 1, 0, none⟩ = some (.int .i64 s[p].toNat) := by rw [hcC _ _ (by omega)]; exact f0
  have c1 : w2.cell? ⟨w.heap.size + 1, 1, none⟩ = some (.int .i64 v) := by rw [hcC _ _ (by omega)]; exact f1
  have c2 : w2.cell? ⟨w.heap.size + 1, 2, none⟩ = some (.int .i64 x) := by rw [hcC _ _ (by omega)]; exact f2
  have c3 : w2.cell? ⟨w.heap.size + 1, 3, none⟩ = some (.int .i64 0) := by rw [hcC _ _ (by omega)]; exact f3
  have c4 : w2.cell? ⟨w.heap.size + 1, 4, none⟩ = some (.int .i64 0) := by rw [hcC _ _ (by omega)]; exact f4
  have c5 : w2.cell? ⟨w.heap.size + 1, 5, none⟩ = some (.slice none 0 0) := by rw [hcC _ _ (by omega)]; exact f5
  have d0 : w2.cell? ⟨w.heap.size, 0, none⟩ = some (.int .i64 0) := by rw [hcC _ _ (by omega), hblk, hcB _ _ (by omega)]; simp
  have d1 : w2.cell? ⟨w.heap.size, 1, none⟩ = some (.int .i64 0) := by rw [hcC _ _ (by omega), hblk, hcB _ _ (by omega)]; simp
  have d2 : w2.cell? ⟨w.heap.size, 2, none⟩ = some (.int .i64 0) := by rw [hcC _ _ (by omega), hblk, hcB _ _ (by omega)]; simp
  have d3 : w2.cell? ⟨w.heap.size, 3, none⟩ = some (.int .i64 0) := by rw [hcC _ _ (by omega), hblk, hcB _ _ (by omega)]; simp
  have d4 : w2.cell? ⟨w.heap.size, 4, none⟩ = some (.int .i64 0) := by rw [hcC _ _ (by omega), hblk, hcB _ _ (by omega)]; simp
  have d5 : w2.cell? ⟨w.heap.size, 5, none⟩ = some (.slice none 0 0) := by rw [hcC _ _ (by omega), hblk, hcB _ _ (by omega)]; simp
  have hfr : ∀ j, w2.frozen? ⟨w.heap.size, j, none⟩ = false := fun j => by
    rw [hfC _ _ (by omega)]; repeat (rw [World.frozen?_setCell])
    rw [hfB _ _ (by omega)]; simp
  obtain ⟨q0, q1, q2, q3, q4, q5⟩ := six_same (w1 := w2) (B := w.heap.size) (.int .i64 s[p].toNat) (.int .i64 v) (.int .i64 x) (.int .i64 0) (.int .i64 0) (.slice none 0 0) d0 d1 d2 d3 d4 d5
  obtain ⟨pao, pcap, rfl, _, hpm, hpc⟩ := hpi
  generalize hps : prem ⟨s[p].toNat, v, x, 0, 0, []⟩ = ps at *
  have HPS : Hid (prem ⟨s[p].toNat, v, x, 0, 0, []⟩ = ps) := hps
  have HPC : Hid (ps ≠ [] → ∃ b off, pao = some ⟨b, off, none⟩ ∧ b < w2.heap.size ∧ ∀ i, i < ps.length → w2.cell? ⟨b, off + i, none⟩ = some (.int .i64 (ps.getD i 0))) := hpc
  clear hps hpc hb2 hcB hfB hcC hfC HP hblk HW1 f0 f1 f2 f3 f4 f5 e0 e1 e2 hgne
  unfold maxLen at hpm
  go_wp2
  go_loop [23] (fun i => ∃ j : Nat, j ≤ ps.length ∧ i = .int .i64 j ∧ ∀ t, t < j → ¬ (k : Int) ≤ ps.getD t 0) (fun i => ps.length - (intOf i).toNat)
  case atStart => exact ⟨0, by omega, rfl, fun t ht => by omega⟩
  case round =>
    obtain ⟨j, hj, rfl, hsm⟩ := hrel
    have HSM : Hid (∀ t, t < j → ¬ (k : Int) ≤ ps.getD t 0) := hsm
    clear hsm
    by_cases hjl : j < ps.length
    · obtain ⟨pb, po, rfl, hpb, hpcell⟩ := HPC.out (by intro h; rw [h] at hjl; simp at hjl)
      have hcj := hpcell j hjl
      obtain ⟨xv, hx⟩ : ∃ x, x = ps.getD j 0 := ⟨_, rfl⟩
      rw [← hx] at hcj
      have HXJ : Hid (xv = ps.getD j 0) := hx
      have hji : (j : Int) < (ps.length : Int) := by omega
      clear hpcell hx
      by_cases hkx : (k : Int) ≤ xv
      · have hany : Fl.oneFin p k ⟨s[p].toNat, v, x, 0, 0, []⟩ n3 = (Fl.nd0, -1, (p : Int)) := by
          unfold Fl.oneFin; rw [HPS.out, if_pos]
          rw [List.any_eq_true]; exact ⟨xv, by rw [HXJ.out]; exact getD_mem hjl, by simpa using hkx⟩
        have HAN : Hid (Fl.oneFin p k ⟨s[p].toNat, v, x, 0, 0, []⟩ n3 = (Fl.nd0, -1, (p : Int))) := hany
        clear hany
        go_wp2
        exact bodyPost_ret (v := .tuple #[.agg #[.int .i64 s[p].toNat, .int .i64 v, .int .i64 x, .int .i64 0, .int .i64 0, .slice none 0 0], .int .i64 (-1), .int .i64 p]) (by simp [results, Tryz.results17, go_sem, q0, q1, q2, q3, q4, q5]) rfl (one_bad HAN.out rfl ⟨⟨_, _, _, _, _, []⟩, _, _, _, rfl⟩ (six_below hbw2))
      · go_wp2
        go_round
        case rel => exact ⟨j + 1, by omega, by go_num, fun t ht => by
          by_cases h : t < j
          · exact HSM.out t h
          · have : t = j := by omega
            subst this; rw [← HXJ.out]; omega⟩
        case measure => simp [intOf]; omega
    · have hany : Fl.oneFin p k ⟨s[p].toNat, v, x, 0, 0, []⟩ n3 = (⟨s[p].toNat, v, x, 0, 0, []⟩, n3, 0) := by
        unfold Fl.oneFin; rw [HPS.out, if_neg]
        rw [Bool.not_eq_true, List.any_eq_false]; intro x hx
        obtain ⟨i, hi, rfl⟩ := List.getElem_of_mem hx
        have := HSM.out i (by omega)
        rw [List.getD_eq_getElem?_getD, List.getElem?_eq_getElem hi] at this
        simpa using this
      have HAN : Hid (Fl.oneFin p k ⟨s[p].toNat, v, x, 0, 0, []⟩ n3 = (⟨s[p].toNat, v, x, 0, 0, []⟩, n3, 0)) := hany
      clear hany HSM HPC
      go_wp2
      exact bodyPost_ret (v := .tuple #[.agg #[.int .i64 s[p].toNat, .int .i64 v, .int .i64 x, .int .i64 0, .int .i64 0, .slice none 0 0], .int .i64 n3, .int .i64 0]) (by simp [results, Tryz.results17, go_sem, q0, q1, q2, q3, q4, q5]) rfl (one_good HAN.out rfl rfl (IntsAt.nil _ _) (fun b hb => by simp [Value.ownBlock] at hb) (six_below hbw2))
set_option maxRecDepth 100000 in
set_option maxHeartbeats 8000000 in
theorem one_f2 (s : ByteArray) (p k : Nat) (v n b n3 b3 : Int) (x y : Int) (w : World) (hs : s.size ≤ 4611686018427387904) (hp : p < s.size) (hn : ¬ n < 0) (hn3 : ¬ n3 < 0)
    (H : Hid (∀ w, Calls Tryz.prog 21 #[.int .i64 s[p].toNat] w fun e w' => e = .returned (.int .i64 2) ∧ w' = w))
    (H1 : Hid (∀ w, Calls Tryz.prog 15 #[.string s, .int .i64 ((p : Int) + 1)] w fun e w' => e = .returned (.tuple #[.int .i64 v, .int .i64 n, .int .i64 b]) ∧ w' = w))
    (H3 : Hid (∀ w, Calls Tryz.prog 16 #[.string s, .int .i64 n, .int .i64 2] w fun e w' => ∃ lv, e = .returned (.tuple #[lv, .int .i64 n3, .int .i64 b3]) ∧ w'.ownsRow w.heap.size 3 1 lv 2 [.int .i64 x, .int .i64 y] ∧ Below w.heap.size w w')) :
    Calls Tryz.prog 17 #[.string s, .int .i64 p, .int .i64 k] w fun e w' => OneEnds (Fl.oneFin p k ⟨s[p].toNat, v, x, y, 0, []⟩ n3) w e w' := by
  obtain ⟨i0, hi, hz0, hz1, hz2⟩ := info_parts Tryz.infoInt
  have b1 : ((p : Int) == (s.size : Int)) = false := beq_eq_false_iff_ne.2 (by omega)
  have hc : s[p].toNat < 256 := s[p].toNat_lt
  go_enter Tryz.func17, Tryz.ntmps17
  go_wp2_with (go_at_call 21; refine (H.out _).mono ?_; rintro e w' ⟨rfl, rfl⟩)
  refine (H1.out _).mono ?_; rintro e w' ⟨rfl, rfl⟩
  go_wp2_with fail
  refine (H3.out _).mono ?_; rintro e w1 ⟨lv, rfl, hown, hb1⟩
  simp only [World.size_alloc] at hown
  have hsz1 := hb1.size
  simp only [World.size_alloc] at hsz1
  go_wp2_with (at_builtin; refine wpList_append_own _ rfl _ _ 29 rfl (w.heap.size + 1 + 1) 3 i0 (.int .i64 0) 1 8 Tryz.underlying29 hi hz0 hz1 hz2 rfl (by decide) _ _ _ rfl (hown.alloc _) ⟨_, 0, none⟩ 2 2 [.int .i64 0, .int .i64 0] rfl rfl two_cells_new ?c2 ?c3 ?c4 ?c5 ?_)
  case c2 => intro u hu; simp at hu; subst hu; rfl
  case c3 => unfold maxLen; omega
  case c4 => omega
  case c5 => simp; omega
  intro lv' w3 hown' hgrow _
  have hb3 := (((hb1.mono (Nat.le_refl _)).alloc (by simp; omega) _).grown hgrow (by simp; omega) (fun g hg => by have := (hown.lt g hg).1; simp; omega))
  obtain ⟨g, gcap, rfl, hgb, hgl, hgc⟩ := own_some hown' (by omega)
  have e0 := hgc 0 (.int .i64 x) (by simp)
  have e1 := hgc 1 (.int .i64 y) (by simp)
  have e2 := hgc 2 (.int .i64 0) (by simp)
  have hgne : ∀ (W : World) (o : Nat) (u : Value) (j : Nat), (W.setCell ⟨w.heap.size + 1, o, none⟩ u).cell? ⟨g, j, none⟩ = W.cell? ⟨g, j, none⟩ := fun W o u j => by apply World.cell?_setCell_other; intro hh; injection hh with h2; omega
  have hcB : ∀ b o, b < w.heap.size + 1 + 1 → w3.cell? ⟨b, o, none⟩ = _ := fun b o h => hb3.cell (p := ⟨b, o, none⟩) (by simpa using h)
  have hfB : ∀ b o, b < w.heap.size + 1 + 1 → w3.frozen? ⟨b, o, none⟩ = _ := fun b o h => hb3.frozen (p := ⟨b, o, none⟩) (by simpa using h)
  have hbw3 : Below w.heap.size w w3 := (((Below.refl _ _).alloc (Nat.le_refl _) _).alloc (by simp) _).trans (hb3.mono (by simp; omega))
  clear hown hown' hgrow hgc hb3 hb1
  have f0 : ((((w3.setCell ⟨w.heap.size + 1, 2, none⟩ (.int .i64 x)).setCell ⟨w.heap.size + 1, 3, none⟩ (.int .i64 y)).setCell ⟨w.heap.size + 1, 4, none⟩ (.int .i64 0)).setCell ⟨w.heap.size + 1, 4, none⟩ (.int .i64 0)).cell? ⟨w.heap.size + 1, 0, none⟩ = some (.int .i64 s[p].toNat) := ((cell_off (by decide)).trans ((cell_off (by decide)).trans ((cell_off (by decide)).trans ((cell_off (by decide)).trans (by rw [hcB _ _ (by omega)]; simp)))))
  have f1 : ((((w3.setCell ⟨w.heap.size + 1, 2, none⟩ (.int .i64 x)).setCell ⟨w.heap.size + 1, 3, none⟩ (.int .i64 y)).setCell ⟨w.heap.size + 1, 4, none⟩ (.int .i64 0)).setCell ⟨w.heap.size + 1, 4, none⟩ (.int .i64 0)).cell? ⟨w.heap.size + 1, 1, none⟩ = some (.int .i64 v) := ((cell_off (by decide)).trans ((cell_off (by decide)).trans ((cell_off (by decide)).trans ((cell_off (by decide)).trans (by rw [hcB _ _ (by omega)]; simp)))))
  have f2 : ((((w3.setCell ⟨w.heap.size + 1, 2, none⟩ (.int .i64 x)).setCell ⟨w.heap.size + 1, 3, none⟩ (.int .i64 y)).setCell ⟨w.heap.size + 1, 4, none⟩ (.int .i64 0)).setCell ⟨w.heap.size + 1, 4, none⟩ (.int .i64 0)).cell? ⟨w.heap.size + 1, 2, none⟩ = some (.int .i64 x) := ((cell_off (by decide)).trans ((cell_off (by decide)).trans ((cell_off (by decide)).trans (cell_self (o := .int .i64 0) (by rw [hcB _ _ (by omega)]; simp)))))
  have f3 : ((((w3.setCell ⟨w.heap.size + 1, 2, none⟩ (.int .i64 x)).setCell ⟨w.heap.size + 1, 3, none⟩ (.int .i64 y)).setCell ⟨w.heap.size + 1, 4, none⟩ (.int .i64 0)).setCell ⟨w.heap.size + 1, 4, none⟩ (.int .i64 0)).cell? ⟨w.heap.size + 1, 3, none⟩ = some (.int .i64 y) := ((cell_off (by decide)).trans ((cell_off (by decide)).trans (cell_self (o := .int .i64 0) ((cell_off (by decide)).trans (by rw [hcB _ _ (by omega)]; simp)))))
  have f4 : ((((w3.setCell ⟨w.heap.size + 1, 2, none⟩ (.int .i64 x)).setCell ⟨w.heap.size + 1, 3, none⟩ (.int .i64 y)).setCell ⟨w.heap.size + 1, 4, none⟩ (.int .i64 0)).setCell ⟨w.heap.size + 1, 4, none⟩ (.int .i64 0)).cell? ⟨w.heap.size + 1, 4, none⟩ = some (.int .i64 0) := (cell_self (o := .int .i64 0) (cell_self (o := .int .i64 0) ((cell_off (by decide)).trans ((cell_off (by decide)).trans (by rw [hcB _ _ (by omega)]; simp)))))
  have f5 : ((((w3.setCell ⟨w.heap.size + 1, 2, none⟩ (.int .i64 x)).setCell ⟨w.heap.size + 1, 3, none⟩ (.int .i64 y)).setCell ⟨w.heap.size + 1, 4, none⟩ (.int .i64 0)).setCell ⟨w.heap.size + 1, 4, none⟩ (.int .i64 0)).cell? ⟨w.heap.size + 1, 5, none⟩ = some (.slice none 0 0) := ((cell_off (by decide)).trans ((cell_off (by decide)).trans ((cell_off (by decide)).trans ((cell_off (by decide)).trans (by rw [hcB _ _ (by omega)]; simp)))))
  have HP : Hid (Calls Tryz.prog 32 #[nodeV ⟨s[p].toNat, v, x, y, 0, []⟩ (.slice none 0 0)] ((((w3.setCell ⟨w.heap.size + 1, 2, none⟩ (.int .i64 x)).setCell ⟨w.heap.size + 1, 3, none⟩ (.int .i64 y)).setCell ⟨w.heap.size + 1, 4, none⟩ (.int .i64 0)).setCell ⟨w.heap.size + 1, 4, none⟩ (.int .i64 0)) fun e w' => ∃ pv, e = .returned pv ∧ IntsAt w'.heap.size w' pv (prem ⟨s[p].toNat, v, x, y, 0, []⟩) ∧ Below ((((w3.setCell ⟨w.heap.size + 1, 2, none⟩ (.int .i64 x)).setCell ⟨w.heap.size + 1, 3, none⟩ (.int .i64 y)).setCell ⟨w.heap.size + 1, 4, none⟩ (.int .i64 0)).setCell ⟨w.heap.size + 1, 4, none⟩ (.int .i64 0)).heap.size ((((w3.setCell ⟨w.heap.size + 1, 2, none⟩ (.int .i64 x)).setCell ⟨w.heap.size + 1, 3, none⟩ (.int .i64 y)).setCell ⟨w.heap.size + 1, 4, none⟩ (.int .i64 0)).setCell ⟨w.heap.size + 1, 4, none⟩ (.int .i64 0)) w') :=
    premises_any _ _ _ _ (Nat.le_refl _) (IntsAt.nil _ _)
  have HW1 : Hid (Below w.heap.size w ((((w3.setCell ⟨w.heap.size + 1, 2, none⟩ (.int .i64 x)).setCell ⟨w.heap.size + 1, 3, none⟩ (.int .i64 y)).setCell ⟨w.heap.size + 1, 4, none⟩ (.int .i64 0)).setCell ⟨w.heap.size + 1, 4, none⟩ (.int .i64 0))) := ((((hbw3.setCell (by simp) _).setCell (by simp) _).setCell (by simp) _).setCell (by simp) _)
  have hsz3 : w.heap.size + 1 < w3.heap.size := by omega
  have hblk : ∀ j, ((((w3.setCell ⟨w.heap.size + 1, 2, none⟩ (.int .i64 x)).setCell ⟨w.heap.size + 1, 3, none⟩ (.int .i64 y)).setCell ⟨w.heap.size + 1, 4, none⟩ (.int .i64 0)).setCell ⟨w.heap.size + 1, 4, none⟩ (.int .i64 0)).cell? ⟨w.heap.size, j, none⟩ = w3.cell? ⟨w.heap.size, j, none⟩ := fun j => by
    repeat (rw [World.cell?_setCell_other _ _ _ _ (by intro hh; injection hh with h2; omega)])
  go_wp2_with fail
  refine (HP.out).mono ?_; rintro e w2 ⟨pv, rfl, hpi, hb2⟩
  obtain ⟨hcC, hfC⟩ := bcell hb2
  have hsz2 : ((((w3.setCell ⟨w.heap.size + 1, 2, none⟩ (.int .i64 x)).setCell ⟨w.heap.size + 1, 3, none⟩ (.int .i64 y)).setCell ⟨w.heap.size + 1, 4, none⟩ (.int .i64 0)).setCell ⟨w.heap.size + 1, 4, none⟩ (.int .i64 0)).heap.size = w3.heap.size := by simp [World.setCell]
  rw [hsz2] at hcC hfC
  have hz2 : w.heap.size + 1 < w2.heap.size := by have := hb2.size; rw [hsz2] at this; omega
  have hbw2 : Below w.heap.size w w2 := HW1.out.trans (hb2.mono (by rw [hsz2]; omega))
  have c0 : w2.cell? ⟨w.heap.size + 1, 0, none⟩ = some (.int .i64 s[p].toNat) := by rw [hcC _ _ (by omega)]; exact f0
  have c1 : w2.cell? ⟨w.heap.size + 1, 1, none⟩ = some (.int .i64 v) := by rw [hcC _ _ (by omega)]; exact f1
  have c2 : w2.cell? ⟨w.heap.size + 1, 2, none⟩ = some (.int .i64 x) := by rw [hcC _ _ (by omega)]; exact f2
  have c3 : w2.cell? ⟨w.heap.size + 1, 3, none⟩ = some (.int .i64 y) := by rw [hcC _ _ (by omega)]; exact f3
  have c4 : w2.cell? ⟨w.heap.size + 1, 4, none⟩ = some (.int .i64 0) := by rw [hcC _ _ (by omega)]; exact f4
  have c5 : w2.cell? ⟨w.heap.size + 1, 5, none⟩ = some (.slice none 0 0) := by rw [hcC _ _ (by omega)]; exact f5
  have d0 : w2.cell? ⟨w.heap.size, 0, none⟩ = some (.int .i64 0) := by rw [hcC _ _ (by omega), hblk, hcB _ _ (by omega)]; simp
  have d1 : w2.cell? ⟨w.heap.size, 1, none⟩ = some (.int .i64 0) := by rw [hcC _ _ (by omega), hblk, hcB _ _ (by omega)]; simp
  have d2 : w2.cell? ⟨w.heap.size, 2, none⟩ = some (.int .i64 0) := by rw [hcC _ _ (by omega), hblk, hcB _ _ (by omega)]; simp
  have d3 : w2.cell? ⟨w.heap.size, 3, none⟩ = some (.int .i64 0) := by rw [hcC _ _ (by omega), hblk, hcB _ _ (by omega)]; simp
  have d4 : w2.cell? ⟨w.heap.size, 4, none⟩ = some (.int .i64 0) := by rw [hcC _ _ (by omega), hblk, hcB _ _ (by omega)]; simp
  have d5 : w2.cell? ⟨w.heap.size, 5, none⟩ = some (.slice none 0 0) := by rw [hcC _ _ (by omega), hblk, hcB _ _ (by omega)]; simp
  have hfr : ∀ j, w2.frozen? ⟨w.heap.size, j, none⟩ = false := fun j => by
    rw [hfC _ _ (by omega)]; repeat (rw [World.frozen?_setCell])
    rw [hfB _ _ (by omega)]; simp
  obtain ⟨q0, q1, q2, q3, q4, q5⟩ := six_same (w1 := w2) (B := w.heap.size) (.int .i64 s[p].toNat) (.int .i64 v) (.int .i64 x) (.int .i64 y) (.int .i64 0) (.slice none 0 0) d0 d1 d2 d3 d4 d5
  obtain ⟨pao, pcap, rfl, _, hpm, hpc⟩ := hpi
  generalize hps : prem ⟨s[p].toNat, v, x, y, 0, []⟩ = ps at *
  have HPS : Hid (prem ⟨s[p].toNat, v, x, y, 0, []⟩ = ps) := hps
  have HPC : Hid (ps ≠ [] → ∃ b off, pao = some ⟨b, off, none⟩ ∧ b < w2.heap.size ∧ ∀ i, i < ps.length → w2.cell? ⟨b, off + i, none⟩ = some (.int .i64 (ps.getD i 0))) := hpc
  clear hps hpc hb2 hcB hfB hcC hfC HP hblk HW1 f0 f1 f2 f3 f4 f5 e0 e1 e2 hgne
  unfold maxLen at hpm
  go_wp2
  go_loop [23] (fun i => ∃ j : Nat, j ≤ ps.length ∧ i = .int .i64 j ∧ ∀ t, t < j → ¬ (k : Int) ≤ ps.getD t 0) (fun i => ps.length - (intOf i).toNat)
  case atStart => exact ⟨0, by omega, rfl, fun t ht => by omega⟩
  case round =>
    obtain ⟨j, hj, rfl, hsm⟩ := hrel
    have HSM : Hid (∀ t, t < j → ¬ (k : Int) ≤ ps.getD t 0) := hsm
    clear hsm
    by_cases hjl : j < ps.length
    · obtain ⟨pb, po, rfl, hpb, hpcell⟩ := HPC.out (by intro h; rw [h] at hjl; simp at hjl)
      have hcj := hpcell j hjl
      obtain ⟨xv, hx⟩ : ∃ x, x = ps.getD j 0 := ⟨_, rfl⟩
      rw [← hx] at hcj
      have HXJ : Hid (xv = ps.getD j 0) := hx
      have hji : (j : Int) < (ps.length : Int) := by omega
      clear hpcell hx
      by_cases hkx : (k : Int) ≤ xv
      · have hany : Fl.oneFin p k ⟨s[p].toNat, v, x, y, 0, []⟩ n3 = (Fl.nd0, -1, (p : Int)) := by
          unfold Fl.oneFin; rw [HPS.out, if_pos]
          rw [List.any_eq_true]; exact ⟨xv, by rw [HXJ.out]; exact getD_mem hjl, by simpa using hkx⟩
        have HAN : Hid (Fl.oneFin p k ⟨s[p].toNat, v, x, y, 0, []⟩ n3 = (Fl.nd0, -1, (p : Int))) := hany
        clear hany
        go_wp2
        exact bodyPost_ret (v := .tuple #[.agg #[.int .i64 s[p].toNat, .int .i64 v, .int .i64 x, .int .i64 y, .int .i64 0, .slice none 0 0], .int .i64 (-1), .int .i64 p]) (by simp [results, Tryz.results17, go_sem, q0, q1, q2, q3, q4, q5]) rfl (one_bad HAN.out rfl ⟨⟨_, _, _, _, _, []⟩, _, _, _, rfl⟩ (six_below hbw2))
      · go_wp2
        go_round
        case rel => exact ⟨j + 1, by omega, by go_num, fun t ht => by
          by_cases h : t < j
          · exact HSM.out t h
          · have : t = j := by omega
            subst this; rw [← HXJ.out]; omega⟩
        case measure => simp [intOf]; omega
    · have hany : Fl.oneFin p k ⟨s[p].toNat, v, x, y, 0, []⟩ n3 = (⟨s[p].toNat, v, x, y, 0, []⟩, n3, 0) := by
        unfold Fl.oneFin; rw [HPS.out, if_neg]
        rw [Bool.not_eq_true, List.any_eq_false]; intro x hx
        obtain ⟨i, hi, rfl⟩ := List.getElem_of_mem hx
        have := HSM.out i (by omega)
        rw [List.getD_eq_getElem?_getD, List.getElem?_eq_getElem hi] at this
        simpa using this
      have HAN : Hid (Fl.oneFin p k ⟨s[p].toNat, v, x, y, 0, []⟩ n3 = (⟨s[p].toNat, v, x, y, 0, []⟩, n3, 0)) := hany
      clear hany HSM HPC
      go_wp2
      exact bodyPost_ret (v := .tuple #[.agg #[.int .i64 s[p].toNat, .int .i64 v, .int .i64 x, .int .i64 y, .int .i64 0, .slice none 0 0], .int .i64 n3, .int .i64 0]) (by simp [results, Tryz.results17, go_sem, q0, q1, q2, q3, q4, q5]) rfl (one_good HAN.out rfl rfl (IntsAt.nil _ _) (fun b hb => by simp [Value.ownBlock] at hb) (six_below hbw2))
set_option maxRecDepth 100000 in
set_option maxHeartbeats 8000000 in
theorem one_f3 (s : ByteArray) (p k : Nat) (v n b n3 b3 : Int) (x y z : Int) (w : World) (hs : s.size ≤ 4611686018427387904) (hp : p < s.size) (hn : ¬ n < 0) (hn3 : ¬ n3 < 0)
    (H : Hid (∀ w, Calls Tryz.prog 21 #[.int .i64 s[p].toNat] w fun e w' => e = .returned (.int .i64 3) ∧ w' = w))
    (H1 : Hid (∀ w, Calls Tryz.prog 15 #[.string s, .int .i64 ((p : Int) + 1)] w fun e w' => e = .returned (.tuple #[.int .i64 v, .int .i64 n, .int .i64 b]) ∧ w' = w))
    (H3 : Hid (∀ w, Calls Tryz.prog 16 #[.string s, .int .i64 n, .int .i64 3] w fun e w' => ∃ lv, e = .returned (.tuple #[lv, .int .i64 n3, .int .i64 b3]) ∧ w'.ownsRow w.heap.size 3 1 lv 3 [.int .i64 x, .int .i64 y, .int .i64 z] ∧ Below w.heap.size w w')) :
    Calls Tryz.prog 17 #[.string s, .int .i64 p, .int .i64 k] w fun e w' => OneEnds (Fl.oneFin p k ⟨s[p].toNat, v, x, y, z, []⟩ n3) w e w' := by
  obtain ⟨i0, hi, hz0, hz1, hz2⟩ := info_parts Tryz.infoInt
  have b1 : ((p : Int) == (s.size : Int)) = false := beq_eq_false_iff_ne.2 (by omega)
  have hc : s[p].toNat < 256 := s[p].toNat_lt
  go_enter Tryz.func17, Tryz.ntmps17
  go_wp2_with (go_at_call 21; refine (H.out _).mono ?_; rintro e w' ⟨rfl, rfl⟩)
  refine (H1.out _).mono ?_; rintro e w' ⟨rfl, rfl⟩
  go_wp2_with fail
  refine (H3.out _).mono ?_; rintro e w1 ⟨lv, rfl, hown, hb1⟩
  simp only [World.size_alloc] at hown
  have hsz1 := hb1.size
  simp only [World.size_alloc] at hsz1
  go_wp2_with (at_builtin; refine wpList_append_own _ rfl _ _ 29 rfl (w.heap.size + 1 + 1) 3 i0 (.int .i64 0) 1 8 Tryz.underlying29 hi hz0 hz1 hz2 rfl (by decide) _ _ _ rfl (hown.alloc _) ⟨_, 0, none⟩ 2 2 [.int .i64 0, .int .i64 0] rfl rfl two_cells_new ?c2 ?c3 ?c4 ?c5 ?_)
  case c2 => intro u hu; simp at hu; subst hu; rfl
  case c3 => unfold maxLen; omega
  case c4 => omega
  case c5 => simp; omega
  intro lv' w3 hown' hgrow _
  have hb3 := (((hb1.mono (Nat.le_refl _)).alloc (by simp; omega) _).grown hgrow (by simp; omega) (fun g hg => by have := (hown.lt g hg).1; simp; omega))
  obtain ⟨g, gcap, rfl, hgb, hgl, hgc⟩ := own_some hown' (by omega)
  have e0 := hgc 0 (.int .i64 x) (by simp)
  have e1 := hgc 1 (.int .i64 y) (by simp)
  have e2 := hgc 2 (.int .i64 z) (by simp)
  have hgne : ∀ (W : World) (o : Nat) (u : Value) (j : Nat), (W.setCell ⟨w.heap.size + 1, o, none⟩ u).cell? ⟨g, j, none⟩ = W.cell? ⟨g, j, none⟩ := fun W o u j => by apply World.cell?_setCell_other; intro hh; injection hh with h2; omega
  have hcB : ∀ b o, b < w.heap.size + 1 + 1 → w3.cell? ⟨b, o, none⟩ = _ := fun b o h => hb3.cell (p := ⟨b, o, none⟩) (by simpa using h)
  have hfB : ∀ b o, b < w.heap.size + 1 + 1 → w3.frozen? ⟨b, o, none⟩ = _ := fun b o h => hb3.frozen (p := ⟨b, o, none⟩) (by simpa using h)
  have hbw3 : Below w.heap.size w w3 := (((Below.refl _ _).alloc (Nat.le_refl _) _).alloc (by simp) _).trans (hb3.mono (by simp; omega))
  clear hown hown' hgrow hgc hb3 hb1
  have f0 : (((w3.setCell ⟨w.heap.size + 1, 2, none⟩ (.int .i64 x)).setCell ⟨w.heap.size + 1, 3, none⟩ (.int .i64 y)).setCell ⟨w.heap.size + 1, 4, none⟩ (.int .i64 z)).cell? ⟨w.heap.size + 1, 0, none⟩ = some (.int .i64 s[p].toNat) := ((cell_off (by decide)).trans ((cell_off (by decide)).trans ((cell_off (by decide)).trans (by rw [hcB _ _ (by omega)]; simp))))
  have f1 : (((w3.setCell ⟨w.heap.size + 1, 2, none⟩ (.int .i64 x)).setCell ⟨w.heap.size + 1, 3, none⟩ (.int .i64 y)).setCell ⟨w.heap.size + 1, 4, none⟩ (.int .i64 z)).cell? ⟨w.heap.size + 1, 1, none⟩ = some (.int .i64 v) := ((cell_off (by decide)).trans ((cell_off (by decide)).trans ((cell_off (by decide)).trans (by rw [hcB _ _ (by omega)]; simp))))
  have f2 : (((w3.setCell ⟨w.heap.size + 1, 2, none⟩ (.int .i64 x)).setCell ⟨w.heap.size + 1, 3, none⟩ (.int .i64 y)).setCell ⟨w.heap.size + 1, 4, none⟩ (.int .i64 z)).cell? ⟨w.heap.size + 1, 2, none⟩ = some (.int .i64 x) := ((cell_off (by decide)).trans ((cell_off (by decide)).trans (cell_self (o := .int .i64 0) (by rw [hcB _ _ (by omega)]; simp))))
  have f3 : (((w3.setCell ⟨w.heap.size + 1, 2, none⟩ (.int .i64 x)).setCell ⟨w.heap.size + 1, 3, none⟩ (.int .i64 y)).setCell ⟨w.heap.size + 1, 4, none⟩ (.int .i64 z)).cell? ⟨w.heap.size + 1, 3, none⟩ = some (.int .i64 y) := ((cell_off (by decide)).trans (cell_self (o := .int .i64 0) ((cell_off (by decide)).trans (by rw [hcB _ _ (by omega)]; simp))))
  have f4 : (((w3.setCell ⟨w.heap.size + 1, 2, none⟩ (.int .i64 x)).setCell ⟨w.heap.size + 1, 3, none⟩ (.int .i64 y)).setCell ⟨w.heap.size + 1, 4, none⟩ (.int .i64 z)).cell? ⟨w.heap.size + 1, 4, none⟩ = some (.int .i64 z) := (cell_self (o := .int .i64 0) ((cell_off (by decide)).trans ((cell_off (by decide)).trans (by rw [hcB _ _ (by omega)]; simp))))
  have f5 : (((w3.setCell ⟨w.heap.size + 1, 2, none⟩ (.int .i64 x)).setCell ⟨w.heap.size + 1, 3, none⟩ (.int .i64 y)).setCell ⟨w.heap.size + 1, 4, none⟩ (.int .i64 z)).cell? ⟨w.heap.size + 1, 5, none⟩ = some (.slice none 0 0) := ((cell_off (by decide)).trans ((cell_off (by decide)).trans ((cell_off (by decide)).trans (by rw [hcB _ _ (by omega)]; simp))))
  have HP : Hid (Calls Tryz.prog 32 #[nodeV ⟨s[p].toNat, v, x, y, z, []⟩ (.slice none 0 0)] (((w3.setCell ⟨w.heap.size + 1, 2, none⟩ (.int .i64 x)).setCell ⟨w.heap.size + 1, 3, none⟩ (.int .i64 y)).setCell ⟨w.heap.size + 1, 4, none⟩ (.int .i64 z)) fun e w' => ∃ pv, e = .returned pv ∧ IntsAt w'.heap.size w' pv (prem ⟨s[p].toNat, v, x, y, z, []⟩) ∧ Below (((w3.setCell ⟨w.heap.size + 1, 2, none⟩ (.int .i64 x)).setCell ⟨w.heap.size + 1, 3, none⟩ (.int .i64 y)).setCell ⟨w.heap.size + 1, 4, none⟩ (.int .i64 z)).heap.size (((w3.setCell ⟨w.heap.size + 1, 2, none⟩ (.int .i64 x)).setCell ⟨w.heap.size + 1, 3, none⟩ (.int .i64 y)).setCell ⟨w.heap.size + 1, 4, none⟩ (.int .i64 z)) w') :=
    premises_any _ _ _ _ (Nat.le_refl _) (IntsAt.nil _ _)
  have HW1 : Hid (Below w.heap.size w (((w3.setCell ⟨w.heap.size + 1, 2, none⟩ (.int .i64 x)).setCell ⟨w.heap.size + 1, 3, none⟩ (.int .i64 y)).setCell ⟨w.heap.size + 1, 4, none⟩ (.int .i64 z))) := (((hbw3.setCell (by simp) _).setCell (by simp) _).setCell (by simp) _)
  have hsz3 : w.heap.size + 1 < w3.heap.size := by omega
  have hblk : ∀ j, (((w3.setCell ⟨w.heap.size + 1, 2, none⟩ (.int .i64 x)).setCell ⟨w.heap.size + 1, 3, none⟩ (.int .i64 y)).setCell ⟨w.heap.size + 1, 4, none⟩ (.int .i64 z)).cell? ⟨w.heap.size, j, none⟩ = w3.cell? ⟨w.heap.size, j, none⟩ := fun j => by
    repeat (rw [World.cell?_setCell_other _ _ _ _ (by intro hh; injection hh with h2; omega)])
  go_wp2_with fail
  refine (HP.out).mono ?_; rintro e w2 ⟨pv, rfl, hpi, hb2⟩
  obtain ⟨hcC, hfC⟩ := bcell hb2
  have hsz2 : (((w3.setCell ⟨w.heap.size + 1, 2, none⟩ (.int .i64 x)).setCell ⟨w.heap.size + 1, 3, none⟩ (.int .i64 y)).setCell ⟨w.heap.size + 1, 4, none⟩ (.int .i64 z)).heap.size = w3.heap.size := by simp [World.setCell]
  rw [hsz2] at hcC hfC
  have hz2 : w.heap.size + 1 < w2.heap.size := by have := hb2.size; rw [hsz2] at this; omega
  have hbw2 : Below w.heap.size w w2 := HW1.out.trans (hb2.mono (by rw [hsz2]; omega))
  have c0 : w2.cell? ⟨w.heap.size + 1, 0, none⟩ = some (.int .i64 s[p].toNat) := by rw [hcC _ _ (by omega)]; exact f0
  have c1 : w2.cell? ⟨w.heap.size + 1, 1, none⟩ = some (.int .i64 v) := by rw [hcC _ _ (by omega)]; exact f1
  have c2 : w2.cell? ⟨w.heap.size + 1, 2, none⟩ = some (.int .i64 x) := by rw [hcC _ _ (by omega)]; exact f2
  have c3 : w2.cell? ⟨w.heap.size + 1, 3, none⟩ = some (.int .i64 y) := by rw [hcC _ _ (by omega)]; exact f3
  have c4 : w2.cell? ⟨w.heap.size + 1, 4, none⟩ = some (.int .i64 z) := by rw [hcC _ _ (by omega)]; exact f4
  have c5 : w2.cell? ⟨w.heap.size + 1, 5, none⟩ = some (.slice none 0 0) := by rw [hcC _ _ (by omega)]; exact f5
  have d0 : w2.cell? ⟨w.heap.size, 0, none⟩ = some (.int .i64 0) := by rw [hcC _ _ (by omega), hblk, hcB _ _ (by omega)]; simp
  have d1 : w2.cell? ⟨w.heap.size, 1, none⟩ = some (.int .i64 0) := by rw [hcC _ _ (by omega), hblk, hcB _ _ (by omega)]; simp
  have d2 : w2.cell? ⟨w.heap.size, 2, none⟩ = some (.int .i64 0) := by rw [hcC _ _ (by omega), hblk, hcB _ _ (by omega)]; simp
  have d3 : w2.cell? ⟨w.heap.size, 3, none⟩ = some (.int .i64 0) := by rw [hcC _ _ (by omega), hblk, hcB _ _ (by omega)]; simp
  have d4 : w2.cell? ⟨w.heap.size, 4, none⟩ = some (.int .i64 0) := by rw [hcC _ _ (by omega), hblk, hcB _ _ (by omega)]; simp
  have d5 : w2.cell? ⟨w.heap.size, 5, none⟩ = some (.slice none 0 0) := by rw [hcC _ _ (by omega), hblk, hcB _ _ (by omega)]; simp
  have hfr : ∀ j, w2.frozen? ⟨w.heap.size, j, none⟩ = false := fun j => by
    rw [hfC _ _ (by omega)]; repeat (rw [World.frozen?_setCell])
    rw [hfB _ _ (by omega)]; simp
  obtain ⟨q0, q1, q2, q3, q4, q5⟩ := six_same (w1 := w2) (B := w.heap.size) (.int .i64 s[p].toNat) (.int .i64 v) (.int .i64 x) (.int .i64 y) (.int .i64 z) (.slice none 0 0) d0 d1 d2 d3 d4 d5
  obtain ⟨pao, pcap, rfl, _, hpm, hpc⟩ := hpi
  generalize hps : prem ⟨s[p].toNat, v, x, y, z, []⟩ = ps at *
  have HPS : Hid (prem ⟨s[p].toNat, v, x, y, z, []⟩ = ps) := hps
  have HPC : Hid (ps ≠ [] → ∃ b off, pao = some ⟨b, off, none⟩ ∧ b < w2.heap.size ∧ ∀ i, i < ps.length → w2.cell? ⟨b, off + i, none⟩ = some (.int .i64 (ps.getD i 0))) := hpc
  clear hps hpc hb2 hcB hfB hcC hfC HP hblk HW1 f0 f1 f2 f3 f4 f5 e0 e1 e2 hgne
  unfold maxLen at hpm
  go_wp2
  go_loop [23] (fun i => ∃ j : Nat, j ≤ ps.length ∧ i = .int .i64 j ∧ ∀ t, t < j → ¬ (k : Int) ≤ ps.getD t 0) (fun i => ps.length - (intOf i).toNat)
  case atStart => exact ⟨0, by omega, rfl, fun t ht => by omega⟩
  case round =>
    obtain ⟨j, hj, rfl, hsm⟩ := hrel
    have HSM : Hid (∀ t, t < j → ¬ (k : Int) ≤ ps.getD t 0) := hsm
    clear hsm
    by_cases hjl : j < ps.length
    · obtain ⟨pb, po, rfl, hpb, hpcell⟩ := HPC.out (by intro h; rw [h] at hjl; simp at hjl)
      have hcj := hpcell j hjl
      obtain ⟨xv, hx⟩ : ∃ x, x = ps.getD j 0 := ⟨_, rfl⟩
      rw [← hx] at hcj
      have HXJ : Hid (xv = ps.getD j 0) := hx
      have hji : (j : Int) < (ps.length : Int) := by omega
      clear hpcell hx
      by_cases hkx : (k : Int) ≤ xv
      · have hany : Fl.oneFin p k ⟨s[p].toNat, v, x, y, z, []⟩ n3 = (Fl.nd0, -1, (p : Int)) := by
          unfold Fl.oneFin; rw [HPS.out, if_pos]
          rw [List.any_eq_true]; exact ⟨xv, by rw [HXJ.out]; exact getD_mem hjl, by simpa using hkx⟩
        have HAN : Hid (Fl.oneFin p k ⟨s[p].toNat, v, x, y, z, []⟩ n3 = (Fl.nd0, -1, (p : Int))) := hany
        clear hany
        go_wp2
        exact bodyPost_ret (v := .tuple #[.agg #[.int .i64 s[p].toNat, .int .i64 v, .int .i64 x, .int .i64 y, .int .i64 z, .slice none 0 0], .int .i64 (-1), .int .i64 p]) (by simp [results, Tryz.results17, go_sem, q0, q1, q2, q3, q4, q5]) rfl (one_bad HAN.out rfl ⟨⟨_, _, _, _, _, []⟩, _, _, _, rfl⟩ (six_below hbw2))
      · go_wp2
        go_round
        case rel => exact ⟨j + 1, by omega, by go_num, fun t ht => by
          by_cases h : t < j
          · exact HSM.out t h
          · have : t = j := by omega
            subst this; rw [← HXJ.out]; omega⟩
        case measure => simp [intOf]; omega
    · have hany : Fl.oneFin p k ⟨s[p].toNat, v, x, y, z, []⟩ n3 = (⟨s[p].toNat, v, x, y, z, []⟩, n3, 0) := by
        unfold Fl.oneFin; rw [HPS.out, if_neg]
        rw [Bool.not_eq_true, List.any_eq_false]; intro x hx
        obtain ⟨i, hi, rfl⟩ := List.getElem_of_mem hx
        have := HSM.out i (by omega)
        rw [List.getD_eq_getElem?_getD, List.getElem?_eq_getElem hi] at this
        simpa using this
      have HAN : Hid (Fl.oneFin p k ⟨s[p].toNat, v, x, y, z, []⟩ n3 = (⟨s[p].toNat, v, x, y, z, []⟩, n3, 0)) := hany
      clear hany HSM HPC
      go_wp2
      exact bodyPost_ret (v := .tuple #[.agg #[.int .i64 s[p].toNat, .int .i64 v, .int .i64 x, .int .i64 y, .int .i64 z, .slice none 0 0], .int .i64 n3, .int .i64 0]) (by simp [results, Tryz.results17, go_sem, q0, q1, q2, q3, q4, q5]) rfl (one_good HAN.out rfl rfl (IntsAt.nil _ _) (fun b hb => by simp [Value.ownBlock] at hb) (six_below hbw2))
end Go.Proofs.YtbihjgfbocpobaaGreatDoor

/- The reference's one, of all bytes. -/
set_option linter.unusedSimpArgs false
set_option linter.unusedVariables false
namespace Go.Proofs.YtbihjgfbocpobaaGreatDoor
open Go.RowKit

theorem size_toList (s : ByteArray) : s.toList.length = s.size := by rw [ByteArray.toList_eq]; simp
theorem getD_toList (s : ByteArray) (p : Nat) (h : p < s.size) : s.toList.getD p 0 = s[p] := by
  rw [ByteArray.toList_eq, List.getD_eq_getElem?_getD, List.getElem?_eq_getElem (by simpa using h)]; rfl

theorem one_any (s : ByteArray) (p k : Nat) (w : World) (hs : s.size ≤ 4611686018427387904) (hp : p ≤ s.size) :
    Calls Tryz.prog 17 #[.string s, .int .i64 p, .int .i64 k] w fun e w' => OneEnds (Fl.one s.toList p k) w e w' := by
  have hlen := size_toList s
  by_cases h0 : p = s.size
  · have : Fl.one s.toList p k = (Fl.nd0, -1, (p : Int)) := by unfold Fl.one; rw [if_pos (by omega)]
    rw [this, h0]; exact one_end s k w hs
  have hp' : p < s.size := by omega
  have hg := getD_toList s p hp'
  obtain ⟨F, hF⟩ : ∃ F, Fl.fields (s[p].toNat : Int) = F := ⟨_, rfl⟩
  have H : Hid (∀ w, Calls Tryz.prog 21 #[.int .i64 s[p].toNat] w fun e w' => e = .returned (.int .i64 F) ∧ w' = w) := fun w => by have := fields_any (s[p].toNat : Int) w; rwa [hF] at this
  have hFb := Fl.fields_lt (s[p].toNat : Int)
  rw [hF] at hFb
  by_cases h1 : F = -2
  · have : Fl.one s.toList p k = (Fl.nd0, -1, (p : Int)) := by unfold Fl.one; rw [if_neg (by omega)]; simp only [hg, hF]; rw [if_pos h1]
    rw [this]; subst h1; exact one_kind s p k w hs hp' H
  obtain ⟨v, n, b, hv⟩ : ∃ v n b, Fl.num s.toList (p + 1) = (v, n, b) := ⟨_, _, _, rfl⟩
  have H1 : Hid (∀ w, Calls Tryz.prog 15 #[.string s, .int .i64 ((p : Int) + 1)] w fun e w' => e = .returned (.tuple #[.int .i64 v, .int .i64 n, .int .i64 b]) ∧ w' = w) := fun w => num_i s _ w hs (by omega) (by omega) v n b (by rw [show ((p : Int) + 1).toNat = p + 1 from by omega]; exact hv)
  have hok := Fl.num_ok s.toList (p + 1) (by omega)
  rw [hv, hlen] at hok
  simp only at hok
  by_cases h2 : n < 0
  · have : Fl.one s.toList p k = (Fl.nd0, -1, b) := by unfold Fl.one; rw [if_neg (by omega)]; simp only [hg, hF]; rw [if_neg h1]; simp only [hv]; rw [if_pos h2]
    rw [this]; exact one_lev s p k F v n b w hs hp' h1 h2 H H1
  by_cases h3 : F = -1
  · subst h3
    obtain ⟨v2, n2, b2, hv2⟩ : ∃ v m b, Fl.num s.toList n.toNat = (v, m, b) := ⟨_, _, _, rfl⟩
    have H2 : Hid (∀ w, Calls Tryz.prog 15 #[.string s, .int .i64 n] w fun e w' => e = .returned (.tuple #[.int .i64 v2, .int .i64 n2, .int .i64 b2]) ∧ w' = w) := fun w => num_i s _ w hs (by omega) (by omega) v2 n2 b2 hv2
    have hok2 := Fl.num_ok s.toList n.toNat (by omega)
    rw [hv2, hlen] at hok2
    simp only at hok2
    by_cases h4 : n2 < 0
    · have : Fl.one s.toList p k = (Fl.nd0, -1, b2) := by unfold Fl.one; rw [if_neg (by omega)]; simp only [hg, hF]; rw [if_neg h1]; simp only [hv]; rw [if_neg h2, if_pos trivial]; simp only [hv2]; rw [if_pos h4]
      rw [this]; exact one_cnt s p k v n b v2 n2 b2 b2 w hs hp' h2 (Or.inl ⟨h4, rfl⟩) H H1 H2
    by_cases h5 : 16 < v2
    · have : Fl.one s.toList p k = (Fl.nd0, -1, n) := by unfold Fl.one; rw [if_neg (by omega)]; simp only [hg, hF]; rw [if_neg h1]; simp only [hv]; rw [if_neg h2, if_pos trivial]; simp only [hv2]; rw [if_neg h4, if_pos h5]
      rw [this]; exact one_cnt s p k v n b v2 n2 b2 n w hs hp' h2 (Or.inr ⟨h4, h5, rfl⟩) H H1 H2
    obtain ⟨l, n3, b3, hv3⟩ : ∃ l n b, Fl.nums s.toList n2.toNat v2.toNat = (l, n, b) := ⟨_, _, _, rfl⟩
    have H3 : ∀ w, Calls Tryz.prog 16 #[.string s, .int .i64 n2, .int .i64 v2] w fun e w' => ∃ lv, e = .returned (.tuple #[lv, .int .i64 n3, .int .i64 b3]) ∧ w'.ownsRow w.heap.size 3 1 lv l.length (l.map (Value.int .i64)) ∧ Below w.heap.size w w' := fun w => nums_i s _ _ w hs (by omega) (by omega) (by omega) (by omega) l n3 b3 hv3
    have hok3 := Fl.nums_ok s.toList n2.toNat v2.toNat (by omega)
    rw [hv3, hlen] at hok3
    simp only at hok3
    by_cases h6 : n3 < 0
    · have : Fl.one s.toList p k = (Fl.nd0, -1, b3) := by unfold Fl.one; rw [if_neg (by omega)]; simp only [hg, hF]; rw [if_neg h1]; simp only [hv]; rw [if_neg h2, if_pos trivial]; simp only [hv2]; rw [if_neg h4, if_neg h5]; simp only [hv3]; rw [if_pos h6]
      rw [this]; exact one_lbad s p k v n b v2 n2 b2 n3 b3 w hs hp' h2 h4 h5 h6 H H1 H2 (fun w => (H3 w).mono fun e w' ⟨lv, a, _, c⟩ => ⟨lv, a, c⟩)
    have : Fl.one s.toList p k = Fl.oneFin p k ⟨s[p].toNat, v, 0, 0, 0, l⟩ n3 := by unfold Fl.one; rw [if_neg (by omega)]; simp only [hg, hF]; rw [if_neg h1]; simp only [hv]; rw [if_neg h2, if_pos trivial]; simp only [hv2]; rw [if_neg h4, if_neg h5]; simp only [hv3]; rw [if_neg h6]
    rw [this]
    exact one_list s p k v n b v2 n2 b2 n3 b3 l w h4 h5 h6 (by omega) hs hp' h2 H1 H H2 H3
  · obtain ⟨l, n3, b3, hv3⟩ : ∃ l m b, Fl.nums s.toList n.toNat F.toNat = (l, m, b) := ⟨_, _, _, rfl⟩
    have H3 : ∀ w, Calls Tryz.prog 16 #[.string s, .int .i64 n, .int .i64 F] w fun e w' => ∃ lv, e = .returned (.tuple #[lv, .int .i64 n3, .int .i64 b3]) ∧ w'.ownsRow w.heap.size 3 1 lv l.length (l.map (Value.int .i64)) ∧ Below w.heap.size w w' := fun w => nums_i s _ _ w hs (by omega) (by omega) (by omega) (by omega) l n3 b3 hv3
    have hok3 := Fl.nums_ok s.toList n.toNat F.toNat (by omega)
    rw [hv3, hlen] at hok3
    simp only at hok3
    by_cases h6 : n3 < 0
    · have : Fl.one s.toList p k = (Fl.nd0, -1, b3) := by unfold Fl.one; rw [if_neg (by omega)]; simp only [hg, hF]; rw [if_neg h1]; simp only [hv]; rw [if_neg h2, if_neg h3]; simp only [hv3]; rw [if_pos h6]
      rw [this]; exact one_fbad s p k F v n b n3 b3 w hs hp' h2 (by omega) hFb.2 h6 H H1 (fun w => (H3 w).mono fun e w' ⟨lv, a, _, c⟩ => ⟨lv, a, c⟩)
    have : Fl.one s.toList p k = Fl.oneFin p k ⟨s[p].toNat, v, l.getD 0 0, l.getD 1 0, l.getD 2 0, []⟩ n3 := by unfold Fl.one; rw [if_neg (by omega)]; simp only [hg, hF]; rw [if_neg h1]; simp only [hv]; rw [if_neg h2, if_neg h3]; simp only [hv3]; rw [if_neg h6]
    rw [this]
    have hlF : l.length = F.toNat := by
      rcases hok3 with h | h
      · omega
      · exact h.2.2.1
    have hF1 : 1 ≤ F := by
      have : F ≠ 0 := by intro h; rw [h] at hF; unfold Fl.fields at hF; repeat' split at hF <;> omega
      omega
    rcases (show F = 1 ∨ F = 2 ∨ F = 3 from by omega) with rfl | rfl | rfl
    · match l, hlF with
      | [x], _ => exact one_f1 s p k v n b n3 b3 x w hs hp' h2 h6 H H1 H3
    · match l, hlF with
      | [x, y], _ => exact one_f2 s p k v n b n3 b3 x y w hs hp' h2 h6 H H1 H3
    · match l, hlF with
      | [x, y, z], _ => exact one_f3 s p k v n b n3 b3 x y z w hs hp' h2 h6 H H1 H3
end Go.Proofs.YtbihjgfbocpobaaGreatDoor

/- The reference's Encode. -/
set_option linter.unusedSimpArgs false
set_option linter.unusedVariables false
namespace Go.Proofs.YtbihjgfbocpobaaGreatDoor
open Go.RowKit

theorem IntsAt.at {B : Nat} {w : World} {ao : Option Addr} {n cap : Nat} {xs : List Int} (h : IntsAt B w (.slice ao n cap) xs) {i : Nat} (hi : i < xs.length) : ∃ b off, ao = some ⟨b, off, none⟩ ∧ b < B ∧ w.cell? ⟨b, off + i, none⟩ = some (.int .i64 (xs.getD i 0)) := by
  obtain ⟨ao', cap', hv, _, _, hx⟩ := h
  obtain ⟨b, off, ha, hbB, hcell⟩ := hx (by intro hh; rw [hh] at hi; simp at hi)
  simp only [Value.slice.injEq] at hv
  exact ⟨b, off, hv.1.trans ha, hbB, hcell i hi⟩
theorem ret_sbi {r : List UInt8 × Bool × Int} {a : ByteArray} {b : Bool} {c : Int} (h1 : a = ⟨r.1.toArray⟩) (h2 : b = r.2.1) (h3 : c = r.2.2) : Ending.returned (.tuple #[.string a, .bool b, .int .i64 c]) = .returned (.tuple #[.string ⟨r.1.toArray⟩, .bool r.2.1, .int .i64 r.2.2]) := by
  rw [h1, h2, h3]

set_option maxRecDepth 100000 in
set_option maxHeartbeats 8000000 in
theorem enc_early (n m : Nat) (la na : Option Addr) (lcap ncap : Nat) (w : World) (hn : n ≤ 9223372036854775807) (hm : m ≤ 9223372036854775807) (h : 4 < n ∨ m = 0 ∨ 200 < m) :
    Calls Tryz.prog 12 #[.agg #[.slice la n lcap, .slice na m ncap]] w fun e w' => e = .returned (.tuple #[.string ⟨#[]⟩, .bool false, .int .i64 (-1)]) ∧ Below w.heap.size w w' := by
  by_cases h1 : 4 < n
  · clear h
    go_enter Tryz.func12, Tryz.ntmps12
    go_wp2
    go_ret3
    exact ⟨rfl, (Below.refl _ _).alloc (Nat.le_refl _) _⟩
  · by_cases h2 : m = 0
    · have b2 : ((m : Int) == 0) = true := beq_iff_eq.2 (by omega)
      clear h h2
      go_enter Tryz.func12, Tryz.ntmps12
      go_wp2
      go_ret3
      exact ⟨rfl, (Below.refl _ _).alloc (Nat.le_refl _) _⟩
    · have b2 : ((m : Int) == 0) = false := beq_eq_false_iff_ne.2 (by omega)
      have h3 : 200 < m := by omega
      clear h h2
      go_enter Tryz.func12, Tryz.ntmps12
      go_wp2
      go_ret3
      exact ⟨rfl, (Below.refl _ _).alloc (Nat.le_refl _) _⟩

set_option maxRecDepth 100000 in
set_option maxHeartbeats 8000000 in
theorem enc_late (ls : List Int) (ns : List Fl.Node) (la na : Option Addr) (lcap ncap : Nat) (B : Nat) (w : World) (hB : B ≤ w.heap.size) (hl : IntsAt B w (.slice la ls.length lcap) ls) (hn : NodesAt B w (.slice na ns.length ncap) ns)
    (h1 : ls.length ≤ 4) (h2 : ns.length ≠ 0) (h3 : ns.length ≤ 200) :
    Calls Tryz.prog 12 #[.agg #[.slice la ls.length lcap, .slice na ns.length ncap]] w fun e w' => e = .returned (.tuple #[.string ⟨(Fl.encode ls ns).1.toArray⟩, .bool (Fl.encode ls ns).2.1, .int .i64 (Fl.encode ls ns).2.2]) ∧ Below w.heap.size w w' := by
  have HL : Hid (IntsAt B w (.slice la ls.length lcap) ls) := hl
  have HN : Hid (NodesAt B w (.slice na ns.length ncap) ns) := hn
  have b2 : ((ns.length : Int) == 0) = false := beq_eq_false_iff_ne.2 (by omega)
  have H1 : Hid (¬ (4 < ls.length ∨ ns.length = 0 ∨ 200 < ns.length)) := by intro h; omega
  have h2' : 0 < ns.length := by omega
  clear hl hn h2
  have hB1 : Below B w (w.alloc (.cells #[.slice la ls.length lcap, .slice na ns.length ncap] 32)) := (Below.refl _ _).alloc hB _
  have HBW : Hid (Below w.heap.size w (w.alloc (.cells #[.slice la ls.length lcap, .slice na ns.length ncap] 32))) := (Below.refl _ _).alloc (Nat.le_refl _) _
  clear hB1
  go_enter Tryz.func12, Tryz.ntmps12
  go_wp2
  go_loop [5] (fun i => ∃ j : Nat, j ≤ ls.length ∧ i = .int .i64 j ∧ ∀ t : Nat, t < j → Fl.inR (ls.getD t 0) = true) (fun i => ls.length - (intOf i).toNat)
  case atStart => exact ⟨0, by omega, rfl, fun t ht => by omega⟩
  case round =>
    obtain ⟨j, hj, rfl, hall⟩ := hrel
    have HA : Hid (∀ t : Nat, t < j → Fl.inR (ls.getD t 0) = true) := hall
    clear hall
    by_cases hlt : j < ls.length
    · obtain ⟨b, off, rfl, hbB, hcj⟩ := HL.out.at hlt
      have hbw : b < w.heap.size := by omega
      obtain ⟨x, hx⟩ : ∃ x, x = ls.getD j 0 := ⟨_, rfl⟩
      rw [← hx] at hcj
      have HXJ : Hid (x = ls.getD j 0) := hx
      have hji : (j : Int) < (ls.length : Int) := by omega
      clear hx
      by_cases hx0 : x < 0 ∨ 2147483648 ≤ x
      · have hbad : Fl.encode ls ns = ([], false, -1) := by
          unfold Fl.encode; rw [if_neg H1.out, if_pos (all_bad (j := j) hlt (by rw [← HXJ.out]; exact inR_bad hx0))]
        have HBD : Hid (Fl.encode ls ns = ([], false, -1)) := hbad
        clear hbad
        by_cases hx1 : x < 0
        · clear hx0
          go_wp2
          go_ret3
          exact ⟨by rw [HBD.out]; rfl, HBW.out⟩
        · have hx2 : 2147483648 ≤ x := by omega
          clear hx0
          go_wp2
          go_ret3
          exact ⟨by rw [HBD.out]; rfl, HBW.out⟩
      · have hx1 : ¬ x < 0 := by omega
        have hx2 : ¬ 2147483648 ≤ x := by omega
        clear hx0
        go_wp2
        go_round
        case rel => exact ⟨j + 1, by omega, by go_num, fun t ht => by
          by_cases h : t < j
          · exact HA.out t h
          · have : t = j := by omega
            subst this; rw [← HXJ.out]; exact inR_ok (by omega)⟩
        case measure => simp [intOf]; omega
    · have hallR : ls.all Fl.inR = true := all_good (fun t ht => HA.out t (by omega))
      have HAL : Hid (ls.all Fl.inR = true) := hallR
      clear hallR HA
      have HSH : Hid (Calls Tryz.prog 18 #[.slice na ns.length ncap] (w.alloc (.cells #[.slice la ls.length lcap, .slice na ns.length ncap] 32)) fun e w' => e = .returned (.int .i64 (Fl.shaped ns)) ∧ Below (w.alloc (.cells #[.slice la ls.length lcap, .slice na ns.length ncap] 32)).heap.size (w.alloc (.cells #[.slice la ls.length lcap, .slice na ns.length ncap] 32)) w') := shaped_walk ns _ B _ (by simp; omega) (HN.out.below ((Below.refl _ _).alloc hB _))
      go_wp2_with fail
      refine (HSH.out).mono ?_; rintro e w1 ⟨rfl, hb1⟩
      clear HSH
      obtain ⟨sh, hsh⟩ : ∃ sh, Fl.shaped ns = sh := ⟨_, rfl⟩
      rw [hsh]
      have hbw1 : Below w.heap.size w w1 := HBW.out.trans (hb1.mono (by simp))
      by_cases hs0 : 0 ≤ sh
      · have hres : Fl.encode ls ns = ([], false, sh) := by
          unfold Fl.encode; rw [if_neg H1.out, if_neg (by rw [HAL.out]; simp), hsh, if_pos hs0]
        have HR : Hid (Fl.encode ls ns = ([], false, sh)) := hres
        clear hres hsh
        go_wp2
        go_ret3
        exact ⟨by rw [HR.out]; rfl, hbw1⟩
      · have hres : Fl.encode ls ns = (Fl.headBytes ls ns ++ Fl.allBytes ns, true, -1) := by
          unfold Fl.encode; rw [if_neg H1.out, if_neg (by rw [HAL.out]; simp), hsh, if_neg hs0]
        have HR : Hid (Fl.encode ls ns = (Fl.headBytes ls ns ++ Fl.allBytes ns, true, -1)) := hres
        have HSD : Hid (∀ k, k < ns.length → Fl.sound (Fl.nth ns k) = true) := fun k hk => Fl.sound_of_shaped (by rw [hsh]; omega) k hk
        clear hres hsh
        have hz1 : w.heap.size < w1.heap.size := by have := hb1.size; simp at this; omega
        have k0 : w1.cell? ⟨w.heap.size, 0, none⟩ = some (.slice la ls.length lcap) := by rw [hb1.cell (p := ⟨w.heap.size, 0, none⟩) (by simp)]; simp
        go_wp2_with fail
        refine (coded_int ls.length _ (by omega) (by omega)).mono ?_; rintro e w2 ⟨rfl, hb2⟩
        rw [show ((ls.length : Int)).toNat = ls.length from by omega]
        have hb2' : Below (w.alloc (.cells #[.slice la ls.length lcap, .slice na ns.length ncap] 32)).heap.size (w.alloc (.cells #[.slice la ls.length lcap, .slice na ns.length ncap] 32)) w2 := hb1.trans (hb2.mono hb1.size)
        have hcl := Fl.coded_len ls.length
        generalize hq : Fl.coded ls.length = cl at *
        have HCL : Hid (Fl.coded ls.length = cl) := hq
        clear hq hb1 hb2 hbw1 k0
        go_wp2
        go_loopw [8, 9] (fun t i wr => ∃ j : Nat, j ≤ ls.length ∧ i = .int .i64 j ∧ t = .string ⟨([70, 80, 49] ++ (cl ++ Fl.codedAll (ls.take j))).toArray⟩ ∧ Below (w.alloc (.cells #[.slice la ls.length lcap, .slice na ns.length ncap] 32)).heap.size (w.alloc (.cells #[.slice la ls.length lcap, .slice na ns.length ncap] 32)) wr) (fun _ i _ => ls.length - (intOf i).toNat)
        case atStart => exact ⟨0, by omega, rfl, by rw [show (⟨#[70, 80, 49]⟩ : ByteArray) = ⟨([70, 80, 49] : List UInt8).toArray⟩ from rfl, app_bytes]; simp [Fl.codedAll], hb2'⟩
        case round =>
          clear hb2'
          obtain ⟨j, hj, rfl, rfl, hbr⟩ := hrel
          have hrs := hbr.size
          simp only [World.size_alloc] at hrs
          have hbw : Below w.heap.size w wr := HBW.out.trans (hbr.mono (by simp))
          have k0 : wr.cell? ⟨w.heap.size, 0, none⟩ = some (.slice la ls.length lcap) := by rw [hbr.cell (p := ⟨w.heap.size, 0, none⟩) (by simp)]; simp
          have k1 : wr.cell? ⟨w.heap.size, 1, none⟩ = some (.slice na ns.length ncap) := by rw [hbr.cell (p := ⟨w.heap.size, 1, none⟩) (by simp)]; simp
          have hpl := Fl.codedAll_len (ls.take j)
          have hpl2 : (ls.take j).length ≤ 4 := by simp; omega
          generalize hq : Fl.codedAll (ls.take j) = pre at *
          have HP : Hid (Fl.codedAll (ls.take j) = pre) := hq
          clear hq
          by_cases hjl : j < ls.length
          · obtain ⟨b, off, rfl, hbB, hcj⟩ := (HL.out.below (hbw.mono hB)).at hjl
            have hxr := inR_iff.1 (List.all_eq_true.1 HAL.out _ (getD_mem hjl))
            obtain ⟨x, hx⟩ : ∃ x, x = ls.getD j 0 := ⟨_, rfl⟩
            rw [← hx] at hcj hxr
            have HXJ : Hid (x = ls.getD j 0) := hx
            have HXR : Hid (0 ≤ x ∧ x < 2147483648) := hxr
            have hji : (j : Int) < (ls.length : Int) := by omega
            clear hx hxr
            go_wp2_with fail
            refine (coded_int x _ HXR.out.1 HXR.out.2).mono ?_; rintro e w3 ⟨rfl, hb3⟩
            have HB3 : Hid (Below _ _ w3) := hbr.trans (hb3.mono (by simp; omega))
            have hcx := Fl.coded_len x.toNat
            generalize hq : Fl.coded x.toNat = cx at *
            have HCX : Hid (Fl.coded x.toNat = cx) := hq
            clear hq hbr hb3 hcj k0 k1 hbw
            go_wp2
            go_roundw
            case rel => exact ⟨j + 1, by omega, by go_num, by rw [app_bytes, Fl.take_snocI _ j hjl, Fl.codedAll_snoc, HP.out, ← HXJ.out, HCX.out]; simp, HB3.out⟩
            case measure => simp [intOf]; omega
          · have hall : ls.take j = ls := List.take_of_length_le (by omega)
            have HAL2 : Hid (ls.take j = ls) := hall
            clear hall
            go_wp2_with fail
            refine (coded_int ns.length _ (by omega) (by omega)).mono ?_; rintro e w4 ⟨rfl, hb4⟩
            rw [show ((ns.length : Int)).toNat = ns.length from by omega]
            have hb4' : Below (w.alloc (.cells #[.slice la ls.length lcap, .slice na ns.length ncap] 32)).heap.size (w.alloc (.cells #[.slice la ls.length lcap, .slice na ns.length ncap] 32)) w4 := hbr.trans (hb4.mono (by simp; omega))
            have hcn := Fl.coded_len ns.length
            generalize hq : Fl.coded ns.length = cn at *
            have HCN : Hid (Fl.coded ns.length = cn) := hq
            clear hq hb4 hbr hbw k0 k1
            go_wp2
            go_loopw [8, 10] (fun t i wr => ∃ j : Nat, j ≤ ns.length ∧ i = .int .i64 j ∧ t = .string ⟨([70, 80, 49] ++ (cl ++ (pre ++ (cn ++ Fl.allBytes (ns.take j))))).toArray⟩ ∧ Below (w.alloc (.cells #[.slice la ls.length lcap, .slice na ns.length ncap] 32)).heap.size (w.alloc (.cells #[.slice la ls.length lcap, .slice na ns.length ncap] 32)) wr) (fun _ i _ => ns.length - (intOf i).toNat)
            case atStart => exact ⟨0, by omega, rfl, by rw [app_bytes]; simp [Fl.allBytes], hb4'⟩
            case round =>
              clear hb4'
              obtain ⟨i, hi, rfl, rfl, hbr⟩ := hrel
              have hrs := hbr.size
              simp only [World.size_alloc] at hrs
              have hbw : Below w.heap.size w wr := HBW.out.trans (hbr.mono (by simp))
              have k1 : wr.cell? ⟨w.heap.size, 1, none⟩ = some (.slice na ns.length ncap) := by rw [hbr.cell (p := ⟨w.heap.size, 1, none⟩) (by simp)]; simp
              have hpl3 := Fl.allBytes_len (ns.take i) (fun x hx => by
                obtain ⟨j, hj, rfl⟩ := Fl.mem_nth (List.mem_of_mem_take hx); exact HSD.out j hj)
              have hpl4 : (ns.take i).length ≤ 200 := by simp; omega
              generalize hq : Fl.allBytes (ns.take i) = pre2 at *
              have HP2 : Hid (Fl.allBytes (ns.take i) = pre2) := hq
              clear hq
              by_cases hil : i < ns.length
              · obtain ⟨b, off, rfl⟩ : ∃ b off, na = some ⟨b, off, none⟩ := by
                  obtain ⟨ao', cap', hv', _, _, hx'⟩ := HN.out
                  obtain ⟨b, off, ha, _⟩ := hx' (by intro h; rw [h] at hil; simp at hil)
                  simp only [Value.slice.injEq] at hv'
                  exact ⟨b, off, hv'.1.trans ha⟩
                obtain ⟨hbB, lv, c0, c1, c2, c3, c4, c5, c6⟩ := (HN.out.below (hbw.mono hB)).at hil
                have HND : Hid (Calls Tryz.prog 28 #[nodeV (Fl.nth ns i) lv] wr fun e w' => e = .returned (.string ⟨(Fl.nodeBytes (Fl.nth ns i)).toArray⟩) ∧ Below wr.heap.size wr w') := node_any _ _ B _ (by omega) c0 (HSD.out i hil)
                have hii : (i : Int) < (ns.length : Int) := by omega
                have hnl := Fl.nodeBytes_len (HSD.out i hil)
                clear c0
                go_wp2_with fail
                refine (HND.out).mono ?_; rintro e w5 ⟨rfl, hb5⟩
                have HB5 : Hid (Below _ _ w5) := hbr.trans (hb5.mono (by simp; omega))
                generalize hq : Fl.nodeBytes (Fl.nth ns i) = cx at *
                have HCX : Hid (Fl.nodeBytes (Fl.nth ns i) = cx) := hq
                clear hq hbr hb5 c1 c2 c3 c4 c5 c6 k1 hbw HND
                go_wp2
                go_roundw
                case rel => exact ⟨i + 1, by omega, by go_num, by rw [app_bytes, Fl.take_snocN _ i hil, Fl.allBytes_snoc, HP2.out, HCX.out]; simp, HB5.out⟩
                case measure => simp [intOf]; omega
              · have hall : ns.take i = ns := List.take_of_length_le (by omega)
                have HAL3 : Hid (ns.take i = ns) := hall
                clear hall
                go_wp2
                go_ret3
                refine ⟨?_, hbw⟩
                rw [HR.out, Fl.headBytes, HCL.out, HCN.out]
                have e1 := HP.out
                have e2 := HP2.out
                rw [HAL2.out] at e1
                rw [HAL3.out] at e2
                rw [e1, e2]
                simp

/-- Encode, of every proof. -/
theorem encode_any (ls : List Int) (ns : List Fl.Node) (lv nv : Value) (B : Nat) (w : World) (hB : B ≤ w.heap.size) (hl : IntsAt B w lv ls) (hn : NodesAt B w nv ns) :
    Calls Tryz.prog 12 #[.agg #[lv, nv]] w fun e w' => e = .returned (.tuple #[.string ⟨(Fl.encode ls ns).1.toArray⟩, .bool (Fl.encode ls ns).2.1, .int .i64 (Fl.encode ls ns).2.2]) ∧ Below w.heap.size w w' := by
  obtain ⟨la, lcap, rfl, _, hm, _⟩ := id hl
  obtain ⟨na, ncap, rfl, _, hm', _⟩ := id hn
  unfold maxLen at hm hm'
  by_cases h : 4 < ls.length ∨ ns.length = 0 ∨ 200 < ns.length
  · have he : Fl.encode ls ns = ([], false, -1) := by unfold Fl.encode; rw [if_pos h]
    rw [he]; exact enc_early _ _ la na lcap ncap w (by omega) (by omega) h
  · exact enc_late ls ns la na lcap ncap B w hB hl hn (by omega) (by omega) (by omega)
end Go.Proofs.YtbihjgfbocpobaaGreatDoor
