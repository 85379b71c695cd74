/- Texts Rmj Mce. -/
import Derived.Test.YthfacjlghcdndaaGreatDoorM33
set_option linter.unusedSimpArgs false
set_option linter.unusedVariables false
namespace Go.Proofs.YthfacjlghcdndaaGreatDoor
open Go.RowKit
set_option maxRecDepth 100000 in
set_option maxHeartbeats 20000000 in
theorem rread_any (s : List UInt8) (w : World) (hs : s.length ≤ 40000) : Calls Tryz.prog 6 #[.string ⟨s.toArray⟩] w (RReadEnds (Fl.readProg s) w) := by
  have hsI : (s.length : Int) ≤ 40000 := by omega
  by_cases hlong : 1200 < s.length
  · have hlI : (1200 : Int) < (s.length : Int) := by omega
    have HE : Hid (RReadEnds (Fl.readProg s) w (.returned (.tuple #[.pointer none, .int .i64 1, .int .i64 0])) w) := by
      have e : Fl.readProg s = (1, 0, Fl.RS.zero.prog) := by unfold Fl.readProg; rw [if_pos hlong]
      show RReadEnds _ _ _ _
      rw [e]
      exact ⟨Below.refl _ _, fun _ => rfl, fun h => (by cases h)⟩
    go_enter Tryz.func6, Tryz.ntmps6
    go_wp2
    refine bodyPost_ret (v := .tuple #[.pointer none, .int .i64 1, .int .i64 0]) (by simp [results, Tryz.results6, go_sem]) rfl ?_
    exact HE.out
  have hlI : ¬ (1200 : Int) < (s.length : Int) := by omega
  have hlI2 : (s.length : Int) ≤ 1200 := by omega
  obtain ⟨L, hL⟩ : ∃ L, L = Fl.cutR 10 s := ⟨_, rfl⟩
  have HC10 : Hid (Calls Tryz.prog 11 #[.string ⟨s.toArray⟩, .int .u8 10] w fun e w' => ∃ g cap, e = .returned (.slice (some ⟨g, 0, none⟩) L.length cap) ∧ w.heap.size ≤ g ∧ WordsAt w'.heap.size w' (.slice (some ⟨g, 0, none⟩) L.length cap) L ∧ Below w.heap.size w w') := by
    have h := cut_ref 10 s w (by omega)
    rw [← hL] at h
    exact h
  have HCUT : Hid (∀ (x : List UInt8) (W : World), x.length ≤ 1200 → Calls Tryz.prog 11 #[.string ⟨x.toArray⟩, .int .u8 32] W fun e w' => ∃ g cap, e = .returned (.slice (some ⟨g, 0, none⟩) (Fl.cutR 32 x).length cap) ∧ W.heap.size ≤ g ∧ WordsAt w'.heap.size w' (.slice (some ⟨g, 0, none⟩) (Fl.cutR 32 x).length cap) (Fl.cutR 32 x) ∧ Below W.heap.size W w') := fun x W hx => cut_ref 32 x W (by omega)
  have HRES : Hid (Fl.readProg s = ((Fl.rows Fl.RS.zero 0 L).1, (Fl.rows Fl.RS.zero 0 L).2.1, (Fl.rows Fl.RS.zero 0 L).2.2.prog)) := by show _ = _; rw [hL]; unfold Fl.readProg; rw [if_neg hlong]
  have HLEN : Hid (L.length ≤ 1201 ∧ ∀ x ∈ L, x.length ≤ 1200) := by rw [hL]; have := cutR_len 10 s; exact ⟨by omega, fun x hx => by have := this.2 x hx; omega⟩
  have hL0 : 0 < L.length := by rw [hL]; exact List.length_pos_iff.2 (Fl.cutR_ne 10 s)
  have hLI : (L.length : Int) ≤ 1201 := by have := HLEN.out.1; omega
  obtain ⟨res, hres⟩ : ∃ res, res = Fl.readProg s := ⟨_, rfl⟩
  rw [← hres] at HRES ⊢
  clear hres hL hlong
  go_enter Tryz.func6, Tryz.ntmps6
  go_wp2_with fail
  refine HC10.out.mono ?_
  rintro e W1 ⟨g, cap, rfl, hgz, hwords, hb1⟩
  have HB1 : Hid (Below w.heap.size w W1) := hb1
  have HWD : Hid (WordsAt W1.heap.size W1 (.slice (some ⟨g, 0, none⟩) L.length cap) L) := hwords
  have HLN : Hid (∀ W, Below W1.heap.size W1 W → ∀ i, (hi : i < L.length) → W.cell? ⟨g, i, none⟩ = some (.string ⟨(L[i]).toArray⟩)) := fun W hW i hi => by
    obtain ⟨ao, c, h1, h2, h3, h4, h5, h6⟩ := hwords
    simp only [Value.slice.injEq] at h1
    obtain ⟨b, off, e, hb, hc⟩ := h6 (by intro h; rw [h] at hi; simp at hi)
    rw [← h1.1] at e
    simp only [Option.some.injEq, Addr.mk.injEq] at e
    obtain ⟨rfl, rfl, -⟩ := e
    have h7 := hc i hi
    rw [Nat.zero_add] at h7
    rw [hW.cell (p := ⟨g, i, none⟩) hb, h7, List.getD_eq_getElem?_getD, List.getElem?_eq_getElem hi]
    rfl
  clear hgz hwords hb1 HC10
  go_wp2_with (first | (refine wpList_build_whole rfl 39 _ rfl progZ (by kernel_rfl) ?_) | (refine wpList_build_whole rfl 53 _ rfl (rdZ W1.heap.size) (by kernel_rfl) ?_))
  have HR0 : Hid (RfIn W1 L 0 (rdW0 W1) m00 [] Fl.RS.zero) := RfIn.start W1 L hL0
  have hrw : (W1.alloc (.cells progZ 39)).alloc (.cells (rdZ W1.heap.size) 53) = rdW0 W1 := rfl
  rw [hrw]
  clear hrw
  obtain ⟨W2, hW2⟩ : ∃ W2, W2 = rdW0 W1 := ⟨_, rfl⟩
  rw [← hW2] at HR0 ⊢
  clear hW2
  go_loopw [8, 9] (fun n i wr => ∃ (k : Nat) (m : RMem) (fl : List FlS) (r : Fl.RS), n = .int .i64 k ∧ i = .int .i64 k ∧ RfIn W1 L k wr m fl r) (fun _ i _ => L.length - (intOf i).toNat)
  case atStart => exact ⟨0, _, _, _, rfl, rfl, HR0.out⟩
  case round =>
    obtain ⟨k, m, fl, r, rfl, rfl, hI⟩ := hrel
    clear HR0
    have HI : Hid (RfIn W1 L k wr m fl r) := hI
    have hk := hI.lt_
    have hkI : (k : Int) < (L.length : Int) := by omega
    have HBL : Hid (Below W1.heap.size W1 wr) := hI.at_.bel
    have hzr : W1.heap.size + 2 ≤ wr.heap.size := hI.at_.hba.2.2.2.2.2.1
    have cx : wr.cell? ⟨g, k, none⟩ = some (.string ⟨(L[k]).toArray⟩) := HLN.out wr hI.at_.bel k hk
    obtain ⟨x, hx⟩ : ∃ x, x = L[k] := ⟨_, rfl⟩
    rw [← hx] at cx
    have HXL : Hid (x.length ≤ 1200) := by show _ ≤ _; rw [hx]; exact HLEN.out.2 _ (List.getElem_mem hk)
    have HX : Hid (x = L[k]) := hx
    have HBW : Hid (∀ W, Below wr.heap.size wr W → Below w.heap.size w W) := fun W hW => HB1.out.trans ((HBL.out.trans (hW.mono (by omega))).mono HB1.out.size)
    obtain ⟨xb, hxb⟩ : ∃ xb : ByteArray, xb = ⟨x.toArray⟩ := ⟨_, rfl⟩
    have HCX : Hid (∀ W, Calls Tryz.prog 11 #[.string xb, .int .u8 32] W fun e w' => ∃ g cap, e = .returned (.slice (some ⟨g, 0, none⟩) (Fl.cutR 32 x).length cap) ∧ W.heap.size ≤ g ∧ WordsAt w'.heap.size w' (.slice (some ⟨g, 0, none⟩) (Fl.cutR 32 x).length cap) (Fl.cutR 32 x) ∧ Below W.heap.size W w') := fun W => by rw [hxb]; exact HCUT.out x W HXL.out
    have hxt : xb.toList = x := by rw [hxb]; exact toList_mk x
    rw [← hxb] at cx
    have HXB : Hid (xb.toList = x) := hxt
    have HXB2 : Hid (xb = ⟨x.toArray⟩) := hxb
    clear hI hx hxb hxt HCUT HLN
    by_cases hlast : k + 1 = L.length
    · have bl : ((k : Int) == (L.length : Int) - 1) = true := by simp; omega
      by_cases hxe : x = [] ∧ 0 < k
      · have cx2 : wr.cell? ⟨g, k, none⟩ = some (.string ⟨#[]⟩) := by rw [cx, HXB2.out, hxe.1]
        have hk0 : (0 : Int) < (k : Int) := by omega
        have HXE : Hid (L[k] = [] ∧ 0 < k) := by rw [← HX.out]; exact hxe
        have y7 : wr.cell? ⟨W1.heap.size + 1, 7, none⟩ = some (.bool r.begun) := by rw [← HI.out.of_.bg]; exact HI.out.at_.cR.c 7 (by omega)
        obtain ⟨d8, k8, hv8⟩ := HI.out.at_.shape 8 (by unfold isRow; omega)
        rw [HI.out.of_.r8.1] at hv8
        have y8 : wr.cell? ⟨W1.heap.size + 1, 8, none⟩ = some (.slice d8 r.fr.length k8) := by rw [← hv8]; exact HI.out.at_.cR.c 8 (by omega)
        have hfr3 : (r.fr.length : Int) ≤ 3 := by have := HI.out.of_.fr; omega
        clear cx hxe hv8 HCX HXB HXB2 HX
        by_cases hdone : r.begun = true ∧ r.fr = []
        · rw [hdone.1] at y7
          rw [hdone.2] at y8
          have HD : Hid (r.begun = true ∧ r.fr = []) := hdone
          have HROWS : Hid (Fl.rows Fl.RS.zero 0 L = (0, 0, r)) := HI.out.done hlast HXE.out hdone
          obtain ⟨d4, k4, hv4⟩ := HI.out.at_.shape 4 (by unfold isRow; omega)
          rw [HI.out.of_.r4.1] at hv4
          obtain ⟨d10, k10, hv10⟩ := HI.out.at_.shape 10 (by unfold isRow; omega)
          rw [HI.out.of_.r10.1] at hv10
          obtain ⟨dc, kc, hvc⟩ := HI.out.at_.shape 12 (by unfold isRow; omega)
          rw [HI.out.of_.r12.1] at hvc
          have hlo4 : (r.locals.length : Int) ≤ 4 := by have := HI.out.of_.lo; omega
          have e0 : wr.drew.cell? ⟨W1.heap.size + 1, 0, none⟩ = some (.pointer (some ⟨W1.heap.size, 0, none⟩)) := HI.out.at_.cR.c 0 (by omega)
          have e4 : wr.drew.cell? ⟨W1.heap.size + 1, 4, none⟩ = some (.slice d4 r.locals.length k4) := by rw [← hv4]; exact HI.out.at_.cR.c 4 (by omega)
          have e10 : wr.drew.cell? ⟨W1.heap.size + 1, 10, none⟩ = some (.slice d10 fl.length k10) := by rw [← hv10]; exact HI.out.at_.cR.c 10 (by omega)
          obtain ⟨vp4, q4⟩ : ∃ v, wr.drew.cell? ⟨W1.heap.size, 4, none⟩ = some v := ⟨_, HI.out.at_.cP.c 4 (by omega)⟩
          have f4 : wr.drew.frozen? ⟨W1.heap.size, 4, none⟩ = false := HI.out.at_.cP.z 4
          obtain ⟨W4, hW4⟩ : ∃ W4, W4 = (wr.setCell ⟨W1.heap.size, 4, none⟩ (.int .i64 (r.locals.length : Int))).drew := ⟨_, rfl⟩
          have hz4 : W4.heap.size = wr.heap.size := by rw [hW4]; exact setCell_size _ _ _
          have HCP4 : Hid (Cells W4 W1.heap.size 6 (fun i => if i = 4 then .int .i64 (r.locals.length : Int) else rpC m i)) := by
            show Cells _ _ _ _
            rw [hW4]
            exact Cells.set (w := wr.drew) (HI.out.at_.drew.cP) (by omega) _
          have HR4 : Hid (W4.cell? ⟨W1.heap.size + 1, 0, none⟩ = some (.pointer (some ⟨W1.heap.size, 0, none⟩))) := by
            show _ = _
            rw [hW4]
            exact (World.cell?_of_block (a := ⟨W1.heap.size + 1, 0, none⟩) (setCell_block wr.drew _ _ _ _ (by show W1.heap.size + 1 ≠ W1.heap.size; omega))).trans e0
          have g10 : W4.cell? ⟨W1.heap.size + 1, 10, none⟩ = some (.slice d10 fl.length k10) := by
            rw [hW4]
            exact (World.cell?_of_block (a := ⟨W1.heap.size + 1, 10, none⟩) (setCell_block wr.drew _ _ _ _ (by show W1.heap.size + 1 ≠ W1.heap.size; omega))).trans e10
          have HFA : Hid (FlAt W4 (.slice d10 fl.length k10) fl) := by
            have ho := HI.out.at_.drew.own 10 (by unfold isRow; omega)
            rw [hv10, HI.out.of_.r10.1, HI.out.of_.r10.2] at ho
            refine FlAt.of_own (base := W1.heap.size + 2) ?_ (by have := HI.out.of_.ft; have := HLEN.out.1; omega)
            rw [hW4]
            exact own_same ho (fun b hb => setCell_block wr.drew _ _ _ _ (by have := (ho.lt b hb).1; omega))
          have HBODY : Hid (Calls Tryz.prog 14 #[.slice d10 fl.length k10, .int .i64 0] W4 (BdEnds 4 W4 (0 + fl.length) r.top)) := by
            obtain ⟨a, b, h1, h2, h3⟩ := HI.out.fl_
            rw [hdone.2] at h3
            have h4 : b = [] := h3
            rw [h4, List.append_nil] at h1
            rw [← h1] at h2
            exact body_any 4 fl (.slice d10 fl.length k10) (by rw [HI.out.cn_]; exact HI.out.of_.sm) W4 0 fl r.top [] HFA.out (by omega) (by simp) h2 (.inl rfl)
          have HW4 : Hid ((wr.setCell ⟨W1.heap.size, 4, none⟩ (.int .i64 (r.locals.length : Int))).drew = W4) := hW4.symm
          have HBW4 : Hid (Below w.heap.size w W4) := by
            show Below _ _ _
            rw [hW4]
            exact ((HBW.out _ (Below.refl _ _)).setCell HB1.out.size _).drew
          have HVC : Hid (m.v 12 = .slice dc r.cellLv.length kc) := hvc
          have hz4b : W1.heap.size + 2 ≤ W4.heap.size := by omega
          clear hv4 hv10 hvc hdone hW4 HFA hz4
          simp only [List.length_nil] at y8
          go_wp2_with fail
          refine wp_region_late (fun W => W.cell? ⟨W1.heap.size + 1, 0, none⟩ = some (.pointer (some ⟨W1.heap.size, 0, none⟩)) ∧ W.cell? ⟨W1.heap.size + 1, 4, none⟩ = some (.slice d4 r.locals.length k4)) [11] [(0, 0), (0, 1), (0, 2), (0, 3), (0, 4), (0, 5), (0, 6), (0, 7), (0, 8), (1, 9), (0, 10), (2, 11)] [] (by kernel_rfl) (by kernel_rfl) rfl [(_, _), (_, _), (_, _), (_, _), (_, _), (_, _), (_, _), (_, _), (_, _), (_, _), (_, _), (_, _)] rfl (fun c a d v w h => by cases d <;> exact h) ⟨e0, e4⟩ (fun ops hG => ?_)
          clear hG
          simp only [List.getElem_toArray, List.getElem_cons_succ, List.getElem_cons_zero]
          iterate 9
            refine late_read rfl (fun K hK => ?_)
            apply Exists.intro
            refine ⟨fun w' hw' => ?_, ?_⟩
            · obtain ⟨q1, q2⟩ := hw'
              go_simp
              try with_reducible rfl
            go_simp
            refine hK _ ?_
            clear hK K
          refine late_do ?_
          go_wp2_with fail
          refine ⟨⟨e0, e4⟩, ?_⟩
          refine late_read rfl (fun K hK => ?_)
          apply Exists.intro
          refine ⟨fun w' hw' => ?_, ?_⟩
          · clear hw'
            go_simp
            try with_reducible rfl
          go_simp
          refine hK _ ?_
          clear hK K
          refine late_late ?_
          go_wp2_with fail
          refine late_end ?_
          rw [HW4.out]
          clear HW4 e0 e4 e10 q4 f4 y7 y8 cx2
          go_wp2_with fail
          refine HBODY.out.mono ?_
          rintro e W5 ⟨hb5, oa, on, oc, rfl, hst5⟩
          have hz5 : W4.heap.size ≤ W5.heap.size := hb5.size
          have u0 : W5.cell? ⟨W1.heap.size + 1, 0, none⟩ = some (.pointer (some ⟨W1.heap.size, 0, none⟩)) := (hb5.cell (p := ⟨W1.heap.size + 1, 0, none⟩) (by show W1.heap.size + 1 < _; omega)).trans HR4.out
          have hcp5 : Cells W5 W1.heap.size 6 (fun i => if i = 4 then .int .i64 (r.locals.length : Int) else rpC m i) := HCP4.out.block (hb5.block _ (by omega))
          obtain ⟨v5, u5⟩ : ∃ v, W5.cell? ⟨W1.heap.size, 5, none⟩ = some v := ⟨_, hcp5.c 5 (by omega)⟩
          have uz : W5.frozen? ⟨W1.heap.size, 5, none⟩ = false := hcp5.z 5
          have HE : Hid (RReadEnds res w (.returned (.tuple #[.pointer (some ⟨W1.heap.size, 0, none⟩), .int .i64 0, .int .i64 0])) (W5.setCell ⟨W1.heap.size, 5, none⟩ (.slice oa on oc))) := by
            have e9 := HRES.out
            rw [HROWS.out] at e9
            show RReadEnds _ _ _ _
            rw [e9]
            refine ⟨(HBW4.out.trans (hb5.mono HBW4.out.size)).setCell HB1.out.size _, fun h => absurd rfl h, fun _ => ⟨W1.heap.size, .int .i64 m.N, m.leq, m.v 13, .slice oa on oc, dc, kc, rfl, HB1.out.size, by rw [setCell_size]; omega, ?_, ?_⟩⟩
            · refine (hcp5.set (j := 5) (by omega) (.slice oa on oc)).congr (fun j hj => ?_)
              rcases (show j = 0 ∨ j = 1 ∨ j = 2 ∨ j = 3 ∨ j = 4 ∨ j = 5 by omega) with rfl | rfl | rfl | rfl | rfl | rfl
              · rfl
              · rfl
              · exact HVC.out
              · rfl
              · rfl
              · rfl
            · exact RStmts.kept (fun b hb => ⟨by have := HB1.out.size; omega, by rw [setCell_size]; exact hb.2⟩) (fun b hb => setCell_block _ _ _ _ _ (by omega)) 4 _ _ hst5
          clear hb5 hst5 hcp5 HBODY HROWS HRES HI HCP4 HBW4 HVC
          go_wp2
          refine bodyPost_ret (v := .tuple #[.pointer (some ⟨W1.heap.size, 0, none⟩), .int .i64 0, .int .i64 0]) (by simp [results, Tryz.results6, go_sem]) rfl ?_
          exact HE.out
        · have HROWS : Hid (Fl.rows Fl.RS.zero 0 L = (3, k + 1, r)) := HI.out.open_ hlast HXE.out hdone
          have HE : Hid (RReadEnds res w (.returned (.tuple #[.pointer none, .int .i64 3, .int .i64 ((k : Int) + 1)])) wr) := by
            have e9 := HRES.out
            rw [HROWS.out] at e9
            show RReadEnds _ _ _ _
            rw [e9]
            exact ⟨HBW.out _ (Below.refl _ _), fun _ => rfl, fun h => (by cases h)⟩
          clear HROWS HRES HI HBW HXE HBL HB1
          cases hbg : r.begun with
          | false =>
            rw [hbg] at y7
            clear hdone hbg
            go_wp2
            refine bodyPost_ret (v := .tuple #[.pointer none, .int .i64 3, .int .i64 ((k : Int) + 1)]) (by simp [results, Tryz.results6, go_sem]) rfl ?_
            exact HE.out
          | true =>
            rw [hbg] at y7
            have hf0 : 0 < r.fr.length := List.length_pos_iff.2 (fun h => hdone ⟨hbg, h⟩)
            have hf0I : (0 : Int) < (r.fr.length : Int) := by omega
            clear hdone hbg
            go_wp2
            refine bodyPost_ret (v := .tuple #[.pointer none, .int .i64 3, .int .i64 ((k : Int) + 1)]) (by simp [results, Tryz.results6, go_sem]) rfl ?_
            exact HE.out
      · have HROWS : Hid (Fl.rows Fl.RS.zero 0 L = (2, k + 1, r)) := HI.out.last hlast (by rw [← HX.out]; exact hxe)
        have HEE : Hid (∀ W, Below wr.heap.size wr W → RReadEnds res w (.returned (.tuple #[.pointer none, .int .i64 2, .int .i64 ((k : Int) + 1)])) W) := fun W hW => by
          have e9 := HRES.out
          rw [HROWS.out] at e9
          rw [e9]
          exact ⟨HBW.out W hW, fun _ => rfl, fun h => (by cases h)⟩
        have HNE : Hid (x = [] → k = 0) := fun h => by
          by_cases h0 : 0 < k
          · exact absurd ⟨h, h0⟩ hxe
          · omega
        clear hxe
        cases hxn : x with
        | nil =>
          have hk0 := HNE.out hxn
          have cx2 : wr.cell? ⟨g, k, none⟩ = some (.string ⟨#[]⟩) := by rw [cx, HXB2.out, hxn]
          have HCX2 : Hid (∀ W, Calls Tryz.prog 11 #[.string ⟨#[]⟩, .int .u8 32] W fun e w' => ∃ g cap, e = .returned (.slice (some ⟨g, 0, none⟩) (Fl.cutR 32 x).length cap) ∧ W.heap.size ≤ g ∧ WordsAt w'.heap.size w' (.slice (some ⟨g, 0, none⟩) (Fl.cutR 32 x).length cap) (Fl.cutR 32 x) ∧ Below W.heap.size W w') := fun W => by have h := HCX.out W; rw [HXB2.out] at h; rw [hxn] at h ⊢; exact h
          have hk0I : (k : Int) ≤ 0 := by omega
          have hk0J : ¬ (0 : Int) < (k : Int) := by omega
          clear cx hxn hk0
          go_wp2_with fail
          refine (HCX2.out _).mono ?_
          rintro e W3 ⟨g3, c3, rfl, hg3, hw3, hb3⟩
          have HW3 : Hid _ := hw3
          have HB3 : Hid _ := hb3
          clear hg3 hw3 hb3
          go_wp2_with fail
          refine (line_ref _ _ W3 HW3.out (Fl.cutR_ne _ _)).mono ?_
          rintro e W4 ⟨rfl, hb4⟩
          have HE : Hid _ := HEE.out W4 (HB3.out.trans (hb4.mono HB3.out.size))
          clear hb4
          cases Fl.line (Fl.cutR 32 x)
          all_goals
            go_wp2
            refine bodyPost_ret (v := .tuple #[.pointer none, .int .i64 2, .int .i64 ((k : Int) + 1)]) (by simp [results, Tryz.results6, go_sem]) rfl ?_
            exact HE.out
        | cons x1 xs1 =>
          have kx : (xb.toList == []) = false := by rw [HXB.out, hxn]; rfl
          clear hxn
          go_wp2_with fail
          refine (HCX.out _).mono ?_
          rintro e W3 ⟨g3, c3, rfl, hg3, hw3, hb3⟩
          have HW3 : Hid _ := hw3
          have HB3 : Hid _ := hb3
          clear hg3 hw3 hb3
          go_wp2_with fail
          refine (line_ref _ _ W3 HW3.out (Fl.cutR_ne _ _)).mono ?_
          rintro e W4 ⟨rfl, hb4⟩
          have HE : Hid _ := HEE.out W4 (HB3.out.trans (hb4.mono HB3.out.size))
          clear hb4
          cases Fl.line (Fl.cutR 32 x)
          all_goals
            go_wp2
            refine bodyPost_ret (v := .tuple #[.pointer none, .int .i64 2, .int .i64 ((k : Int) + 1)]) (by simp [results, Tryz.results6, go_sem]) rfl ?_
            exact HE.out
    · have bl : ((k : Int) == (L.length : Int) - 1) = false := by simp; omega
      have hk1 : k + 1 < L.length := by omega
      go_wp2_with fail
      refine (HCX.out _).mono ?_
      rintro e W3 ⟨g3, c3, rfl, hg3, hw3, hb3⟩
      have HW3 : Hid (WordsAt W3.heap.size W3 (.slice (some ⟨g3, 0, none⟩) (Fl.cutR 32 x).length c3) (Fl.cutR 32 x)) := hw3
      have HB3 : Hid (Below wr.heap.size wr W3) := hb3
      have HG3 : Hid (wr.heap.size ≤ g3) := hg3
      clear hg3 hw3 hb3
      obtain ⟨ws, hws⟩ : ∃ ws, ws = Fl.cutR 32 x := ⟨_, rfl⟩
      rw [← hws] at HW3 ⊢
      have HWS : Hid (ws = Fl.cutR 32 L[k]) := by show _ = _; rw [hws, HX.out]
      have HWN : Hid (ws ≠ []) := by rw [hws]; exact Fl.cutR_ne _ _
      clear hws HCX
      go_wp2_with fail
      refine (line_ref _ _ W3 HW3.out HWN.out).mono ?_
      rintro e W4 ⟨rfl, hb4⟩
      have HB4 : Hid (Below wr.heap.size wr W4) := HB3.out.trans (hb4.mono HB3.out.size)
      have HW4 : Hid (WordsAt W4.heap.size W4 (.slice (some ⟨g3, 0, none⟩) ws.length c3) ws) := (HW3.out.below hb4).mono hb4.size
      clear hb4
      cases hline : Fl.line ws with
      | false =>
        have HROWS : Hid (Fl.rows Fl.RS.zero 0 L = (2, k + 1, r)) := HI.out.badLine hk1 (by rw [← HWS.out]; exact hline)
        have HE : Hid (RReadEnds res w (.returned (.tuple #[.pointer none, .int .i64 2, .int .i64 ((k : Int) + 1)])) W4) := by
          have e9 := HRES.out
          rw [HROWS.out] at e9
          show RReadEnds _ _ _ _
          rw [e9]
          exact ⟨HBW.out _ HB4.out, fun _ => rfl, fun h => (by cases h)⟩
        clear hline
        go_wp2
        refine bodyPost_ret (v := .tuple #[.pointer none, .int .i64 2, .int .i64 ((k : Int) + 1)]) (by simp [results, Tryz.results6, go_sem]) rfl ?_
        exact HE.out
      | true =>
        have HROW : Hid (Calls Tryz.prog 13 #[.pointer (some ⟨W1.heap.size + 1, 0, none⟩), .slice (some ⟨g3, 0, none⟩) ws.length c3, .int .i64 ((k : Int) + 1)] W4 (RwEnds W1.heap.size (W1.heap.size + 2) (W1.heap.size + 1) W1.heap.size W1 k (r.row ws (k + 1)))) := by
          refine rrow_any (HI.out.at_.below HB4.out) HI.out.of_ HI.out.fl_ HI.out.cn_ HI.out.fi_ (by have := HLEN.out.1; omega) _ ws HW4.out (fun b off n c hv => ?_) hline (k + 1)
          simp only [Value.slice.injEq, Option.some.injEq, Addr.mk.injEq] at hv
          have hg3 := HG3.out
          refine ⟨by omega, fun j hj hh => ?_⟩
          have := ((HI.out.at_.own j hj).lt b hh).2
          omega
        obtain ⟨q, hq⟩ : ∃ q, q = r.row ws (k + 1) := ⟨_, rfl⟩
        rw [← hq] at HROW
        have HQ : Hid (q = r.row ws (k + 1)) := hq
        have HLT : Hid (Fl.line ws = true) := hline
        clear hq hline
        go_wp2_with fail
        refine HROW.out.mono ?_
        rintro e W5 ⟨rfl, hgood, hbad⟩
        by_cases h0 : q.1 = 0
        · obtain ⟨m', fl', h1, h2, h3, h4⟩ := hgood h0
          have HNX : Hid (RfIn W1 L (k + 1) W5 m' fl' q.2) := by
            have e1 : r.row (Fl.cutR 32 L[k]) (k + 1) = q := by rw [← HWS.out, ← HQ.out]
            have h5 := HI.out.next hk1 (by rw [← HWS.out]; exact HLT.out) (by rw [e1]; exact h0) h1 (by rw [e1]; exact h2) (by rw [e1]; exact h3) (by rw [e1]; exact h4)
            rw [e1] at h5
            exact h5
          rw [h0]
          clear hgood hbad h0 h1 h2 h3 h4 HROW
          go_wp2
          go_roundw
          case rel => exact ⟨k + 1, m', fl', q.2, by go_num, by go_num, HNX.out⟩
          case measure => simp [intOf]; omega
        · have b0 : (((q.1 : Nat) : Int) != 0) = true := by rw [bne_iff_ne]; omega
          have HE : Hid (RReadEnds res w (.returned (.tuple #[.pointer none, .int .i64 (q.1 : Nat), .int .i64 ((k : Int) + 1)])) W5) := by
            have e1 : r.row (Fl.cutR 32 L[k]) (k + 1) = q := by rw [← HWS.out, ← HQ.out]
            have h5 := HI.out.badRow hk1 (by rw [← HWS.out]; exact HLT.out) (by rw [e1]; exact h0)
            rw [e1] at h5
            have e9 := HRES.out
            rw [h5] at e9
            show RReadEnds _ _ _ _
            rw [e9]
            exact ⟨HB1.out.trans ((hbad h0).mono HB1.out.size), fun _ => rfl, fun h => absurd h h0⟩
          clear hgood hbad h0 HROW
          go_wp2
          refine bodyPost_ret (v := .tuple #[.pointer none, .int .i64 (q.1 : Nat), .int .i64 ((k : Int) + 1)]) (by simp [results, Tryz.results6, go_sem]) rfl ?_
          exact HE.out
end Go.Proofs.YthfacjlghcdndaaGreatDoor

namespace Go.Proofs.YthfacjlghcdndaaGreatDoor
open Go.RowKit
def AllEnds (lo base Mb Vb Ob Tb nv : Nat) (w0 : World) (q : Bool × Fl.MS) (e : Ending) (w' : World) : Prop :=
  e = .returned (.bool q.1) ∧ ∃ sv', MachAt lo base Mb Vb Ob Tb nv w0 w' q.2 sv'
def Firm (base Mb Vb b : Nat) : Prop := b < base ∧ b ≠ Mb ∧ b ≠ Vb
def AllOk (lo base Mb Vb Ob Tb nv nc : Nat) (w0 : World) (f : Nat) : Prop :=
  ∀ (w : World) (m : Fl.MS) (sv : Value) (d : Nat) (v : Value) (l : List Fl.Stmt), m.fuel < f → MachAt lo base Mb Vb Ob Tb nv w0 w m sv → PStmts d (Firm base Mb Vb) w0 v l → Fl.StmtsOk nv nc d l →
    Calls Tryz.prog 30 #[.pointer (some ⟨Mb, 0, none⟩), v] w (AllEnds lo base Mb Vb Ob Tb nv w0 (Fl.go l m))
def fuelIn (Mb : Nat) (w : World) : Nat := match w.cell? ⟨Mb, 2, none⟩ with
  | some (.int _ n) => n.toNat
  | _ => 0
section
variable {lo base Mb Vb Ob Tb nv nc : Nat} {w0 : World}
theorem MachAt.fuelIn {w : World} {m : Fl.MS} {sv : Value} (h : MachAt lo base Mb Vb Ob Tb nv w0 w m sv) : fuelIn Mb w = m.fuel := by
  unfold Go.Proofs.YthfacjlghcdndaaGreatDoor.fuelIn
  rw [show w.cell? ⟨Mb, 2, none⟩ = some (.int .i64 m.fuel) from h.cM.c 2 (by omega)]
  simp
set_option maxRecDepth 100000 in
set_option maxHeartbeats 4000000 in
theorem one_any {f d sb : Nat} (H : AllOk lo base Mb Vb Ob Tb nv nc w0 f) {s : Fl.Stmt} {vp fv ev : Value} (hsb : Firm base Mb Vb sb) (hcs : Cells w0 sb 6 (rw_ [.int .i64 s.kind, .int .i64 s.line, .int .i64 s.x, vp, fv, ev])) (hvp : PVal (Firm base Mb Vb) w0 vp s.e) (hfv : PStmts d (Firm base Mb Vb) w0 fv s.body) (hev : PStmts d (Firm base Mb Vb) w0 ev s.other)
    (hk : Fl.KindOk nv nc s) (he : Fl.ExprOk nv s.e) (hb : Fl.StmtsOk nv nc d s.body) (ho : Fl.StmtsOk nv nc d s.other) (w : World) (m : Fl.MS) (sv : Value) (hm : m.fuel ≤ f) (hw : MachAt lo base Mb Vb Ob Tb nv w0 w m sv) :
    Calls Tryz.prog 53 #[.pointer (some ⟨Mb, 0, none⟩), .pointer (some ⟨sb, 0, none⟩)] w (AllEnds lo base Mb Vb Ob Tb nv w0 (Fl.go [s] m)) := by
  have hmf : Hid (m.fuel ≤ f) := hm
  have HW : Hid (MachAt lo base Mb Vb Ob Tb nv w0 w m sv) := hw
  have HH : Hid (AllOk lo base Mb Vb Ob Tb nv nc w0 f) := H
  have HCS : Hid (∀ W m' sv', MachAt lo base Mb Vb Ob Tb nv w0 W m' sv' → Cells W sb 6 (rw_ [.int .i64 s.kind, .int .i64 s.line, .int .i64 s.x, vp, fv, ev])) := fun W m' sv' h => hcs.block (h.fx sb hsb.1 hsb.2.1 hsb.2.2)
  have HVP : Hid (∀ W m' sv', MachAt lo base Mb Vb Ob Tb nv w0 W m' sv' → Calls Tryz.prog 74 #[.pointer (some ⟨Mb, 0, none⟩), vp] W fun e w' => e = .returned (.int .u32 ((Fl.exprV m'.vars s.e : Nat) : Int)) ∧ Below W.heap.size W w') := fun W m' sv' h => mvalue_any (S := Firm base Mb Vb) h vp s.e (hvp.kept (fun _ h => h) (fun b hb => h.fx b hb.1 hb.2.1 hb.2.2)) he
  have HFV : Hid (∀ W m' sv', m'.fuel < f → MachAt lo base Mb Vb Ob Tb nv w0 W m' sv' → Calls Tryz.prog 30 #[.pointer (some ⟨Mb, 0, none⟩), fv] W (AllEnds lo base Mb Vb Ob Tb nv w0 (Fl.go s.body m'))) := fun W m' sv' h1 h2 => H W m' sv' d fv s.body h1 h2 hfv hb
  have HEV : Hid (∀ W m' sv', m'.fuel < f → MachAt lo base Mb Vb Ob Tb nv w0 W m' sv' → Calls Tryz.prog 30 #[.pointer (some ⟨Mb, 0, none⟩), ev] W (AllEnds lo base Mb Vb Ob Tb nv w0 (Fl.go s.other m'))) := fun W m' sv' h1 h2 => H W m' sv' d ev s.other h1 h2 hev ho
  have HK : Hid (Fl.KindOk nv nc s) := hk
  have HE : Hid (Fl.ExprOk nv s.e) := he
  obtain ⟨va, rfl⟩ : ∃ va, vp = .pointer (some ⟨va, 0, none⟩) := by
    rcases hvp with ⟨_, b, h1, _⟩ | ⟨_, b, _, _, h1, _⟩
    · exact ⟨b, h1⟩
    · exact ⟨b, h1⟩
  obtain ⟨fa, fn, fc, rfl⟩ : ∃ fa fn fc, fv = .slice fa fn fc := by
    cases d with
    | zero => exact ⟨_, _, _, hfv.2⟩
    | succ d => obtain ⟨ao, c, h1, -⟩ := hfv; exact ⟨_, _, _, h1⟩
  obtain ⟨ea, en, ec, rfl⟩ : ∃ fa fn fc, ev = .slice fa fn fc := by
    cases d with
    | zero => exact ⟨_, _, _, hev.2⟩
    | succ d => obtain ⟨ao, c, h1, -⟩ := hev; exact ⟨_, _, _, h1⟩
  have hsm : sb ≠ Mb ∧ sb ≠ Vb := ⟨hsb.2.1, hsb.2.2⟩
  have HSB : Hid (sb < base) := hsb.1
  clear H hm hw hcs hvp hfv hev hk he hb ho hsb
  go_enter Tryz.func53, Tryz.ntmps53
  go_wp2_with fail
  obtain ⟨J, hJ⟩ : ∃ J : Act → World → Prop, J = fun a' w' => ∃ (m' : Fl.MS) (sv' : Value), (∃ (u2 u3 u4 u5 u6 u7 u8 u9 u10 u11 u12 u13 u14 u15 u16 u17 u18 u19 u20 u21 u22 u23 u24 u25 u26 u27 u28 u29 u30 u31 u32 u33 u34 u35 u36 u37 u38 u39 u40 u41 u42 u43 u44 u45 u46 u47 u48 u49 u50 u51 u52 u53 u54 u55 u56 u57 u58 u59 u60 u61 u62 u63 u64 u65 u66 u67 u68 u69 u70 u71 u72 u73 u74 : Value), a' = { tmps := #[.pointer (some ⟨Mb, 0, none⟩), .pointer (some ⟨sb, 0, none⟩), u2, u3, u4, u5, u6, u7, u8, u9, u10, u11, u12, u13, u14, u15, u16, u17, u18, u19, u20, u21, u22, u23, u24, u25, u26, u27, u28, u29, u30, u31, u32, u33, u34, u35, u36, u37, u38, u39, u40, u41, u42, u43, u44, u45, u46, u47, u48, u49, u50, u51, u52, u53, u54, u55, u56, u57, u58, u59, u60, u61, u62, u63, u64, u65, u66, u67, u68, u69, u70, u71, u72, u73, u74], defers := [] }) ∧ MachAt lo base Mb Vb Ob Tb nv w0 w' m' sv' ∧ m'.fuel ≤ m.fuel ∧ Fl.go [s] m' = Fl.go [s] m := ⟨_, rfl⟩
  obtain ⟨μ, hμ⟩ : ∃ μ : Act → World → Nat, μ = fun a' w' => fuelIn Mb w' := ⟨_, rfl⟩
  have HJ : Hid (J = _) := hJ
  have HMU : Hid (μ = _) := hμ
  refine wp_scope_again 0 J μ ?_ ?_
  · rw [hJ]; exact ⟨m, sv, ⟨_, _, _, _, _, _, _, _, _, _, _, _, _, _, _, _, _, _, _, _, _, _, _, _, _, _, _, _, _, _, _, _, _, _, _, _, _, _, _, _, _, _, _, _, _, _, _, _, _, _, _, _, _, _, _, _, _, _, _, _, _, _, _, _, _, _, _, _, _, _, _, _, _, rfl⟩, HW.out, Nat.le_refl _, rfl⟩
  intro a' W hJW
  rw [hJ] at hJW
  obtain ⟨m', sv', ⟨u2, u3, u4, u5, u6, u7, u8, u9, u10, u11, u12, u13, u14, u15, u16, u17, u18, u19, u20, u21, u22, u23, u24, u25, u26, u27, u28, u29, u30, u31, u32, u33, u34, u35, u36, u37, u38, u39, u40, u41, u42, u43, u44, u45, u46, u47, u48, u49, u50, u51, u52, u53, u54, u55, u56, u57, u58, u59, u60, u61, u62, u63, u64, u65, u66, u67, u68, u69, u70, u71, u72, u73, u74, rfl⟩, hW, hle, hgo⟩ := hJW
  have HM : Hid (MachAt lo base Mb Vb Ob Tb nv w0 W m' sv') := hW
  have HGO : Hid (Fl.go [s] m = Fl.go [s] m') := hgo.symm
  have HF : Hid (m'.fuel ≤ m.fuel) := hle
  have HST : Hid (Calls Tryz.prog 73 #[.pointer (some ⟨Mb, 0, none⟩)] W fun e w' => (m'.fuel = 0 ∧ e = .returned (.bool false) ∧ w' = W) ∨ (m'.fuel ≠ 0 ∧ e = .returned (.bool true) ∧ MachAt lo base Mb Vb Ob Tb nv w0 w' m'.tick sv')) := step_any hW
  clear hW hle hgo hJ hμ HW
  by_cases hf0 : m'.fuel = 0
  · have HEND : Hid (AllEnds lo base Mb Vb Ob Tb nv w0 (Fl.go [s] m) (.returned (.bool false)) W) := by
      show AllEnds _ _ _ _ _ _ _ _ _ _ _
      rw [HGO.out, Fl.go_zero s [] m' hf0]
      exact ⟨rfl, _, HM.out⟩
    have HF0 : Hid (m'.fuel = 0) := hf0
    clear hf0
    go_wp2_with fail
    refine Calls.mono HST.out ?_
    rintro e w1 (⟨-, rfl, hw1⟩ | ⟨hn, -⟩)
    · rw [hw1]
      clear hw1
      go_wp2_with fail
      simp only [Exit.jump]
      go_ret
      exact HEND.out
    · exact absurd HF0.out hn
  · have HF0 : Hid (m'.fuel ≠ 0) := hf0
    have HLT : Hid (m'.tick.fuel < f) := by
      show m'.fuel - 1 < f
      have := hmf.out; have := HF.out; omega
    have HON : Hid _ := Fl.go_one s m' hf0
    clear hf0
    go_wp2_with fail
    refine Calls.mono HST.out ?_
    rintro e W1 (⟨hn, -⟩ | ⟨-, rfl, hW1⟩)
    · exact absurd hn HF0.out
    have HM1 : Hid (MachAt lo base Mb Vb Ob Tb nv w0 W1 m'.tick sv') := hW1
    have HC1 : Hid (Cells W1 sb 6 (rw_ [.int .i64 s.kind, .int .i64 s.line, .int .i64 s.x, .pointer (some ⟨va, 0, none⟩), .slice fa fn fc, .slice ea en ec])) := HCS.out _ _ _ hW1
    have c3 : W1.cell? ⟨sb, 3, none⟩ = some (.pointer (some ⟨va, 0, none⟩)) := HC1.out.c 3 (by omega)
    clear hW1 HST
    go_wp2_with fail
    refine (HVP.out W1 m'.tick sv' HM1.out).mono ?_
    rintro e W2 ⟨rfl, hb2⟩
    have HM2 : Hid (MachAt lo base Mb Vb Ob Tb nv w0 W2 m'.tick sv') := HM1.out.below hb2
    have HC2 : Hid (Cells W2 sb 6 (rw_ [.int .i64 s.kind, .int .i64 s.line, .int .i64 s.x, .pointer (some ⟨va, 0, none⟩), .slice fa fn fc, .slice ea en ec])) := HCS.out _ _ _ HM2.out
    have hvlt : Fl.exprV m'.vars s.e < 4294967296 := by
      unfold Fl.exprV
      have hb := HM1.out.vb
      split
      · exact atomV_lt hb _
      · unfold Fl.opV Fl.u32
        have := atomV_lt hb s.e.a
        (repeat' split) <;> first | exact Nat.mod_lt _ (by decide) | omega | exact this
    have hON := HON.out
    rw [show m'.tick.vars = m'.vars from rfl]
    obtain ⟨v, hv⟩ : ∃ v, v = Fl.exprV m'.vars s.e := ⟨_, rfl⟩
    rw [← hv] at hvlt hON ⊢
    have HON2 : Hid (Fl.go [s] m' = if s.kind = 3 then (true, ⟨m'.vars.set s.x v, m'.sent, m'.fuel - 1⟩)
      else if s.kind = 4 then (true, ⟨m'.vars, m'.sent ++ [(s.x, v)], m'.fuel - 1⟩)
      else if s.kind = 5 then Fl.go (if v = 0 then s.other else s.body) m'.tick
      else if v = 0 then (true, m'.tick)
      else if (Fl.go s.body m'.tick).1 = true then Fl.go [s] (Fl.go s.body m'.tick).2 else Fl.go s.body m'.tick) := hON
    have k0 : W2.cell? ⟨sb, 0, none⟩ = some (.int .i64 s.kind) := HC2.out.c 0 (by omega)
    clear hb2 HM1 HC1 c3 hON HON hv
    rcases HK.out with ⟨hk, hx⟩ | ⟨hk, hx⟩ | hk | ⟨hk, -⟩
    · rw [hk] at k0
      have HEND : Hid (AllEnds lo base Mb Vb Ob Tb nv w0 (Fl.go [s] m) (.returned (.bool true)) (W2.drew.setCell ⟨Vb, s.x, none⟩ (.int .u32 (v : Int)))) := by
        show AllEnds _ _ _ _ _ _ _ _ _ _ _
        rw [HGO.out, HON2.out, if_pos hk]
        exact ⟨rfl, _, HM2.out.drew.setVar s.x v hx hvlt⟩
      have m0 : W2.cell? ⟨Mb, 0, none⟩ = some (.slice (some ⟨Vb, 0, none⟩) nv nv) := HM2.out.cM.c 0 (by omega)
      have k2 : W2.cell? ⟨sb, 2, none⟩ = some (.int .i64 s.x) := HC2.out.c 2 (by omega)
      have cv : W2.cell? ⟨Vb, s.x, none⟩ = some (.int .u32 ((m'.tick.vars.getD s.x 0 : Nat) : Int)) := HM2.out.cV.c s.x hx
      have zv := HM2.out.cV.z
      have hnv := HM2.out.inn.nvm
      obtain ⟨ov, hov⟩ : ∃ ov, ov = m'.tick.vars.getD s.x 0 := ⟨_, rfl⟩
      rw [← hov] at cv
      obtain ⟨x, hxx⟩ : ∃ x, x = s.x := ⟨_, rfl⟩
      rw [← hxx] at cv k2 hx HEND
      have hxn : (x : Int) < (nv : Int) := by omega
      clear hov hxx HON2 HM2 HC2 HK HE hk HVP HFV HEV HCS HGO HLT
      go_wp2_with fail
      refine wp_region_late (fun W => W.cell? ⟨Mb, 0, none⟩ = some (.slice (some ⟨Vb, 0, none⟩) nv nv) ∧ W.cell? ⟨sb, 2, none⟩ = some (.int .i64 x)) [10] [(0, 0), (0, 1), (0, 2), (0, 3), (0, 4), (0, 5), (0, 6), (0, 7), (0, 8), (0, 9), (2, 10)] [] (by kernel_rfl) (by kernel_rfl) rfl [(_, _), (_, _), (_, _), (_, _), (_, _), (_, _), (_, _), (_, _), (_, _), (_, _), (_, _)] rfl (fun c a d v w h => by cases d <;> exact h) ⟨m0, k2⟩ (fun ops hG => ?_)
      clear hG
      simp only [List.getElem_toArray, List.getElem_cons_succ, List.getElem_cons_zero]
      iterate 10
        refine late_read rfl (fun K hK => ?_)
        apply Exists.intro
        refine ⟨fun w' hw' => ?_, ?_⟩
        · obtain ⟨k0, k1⟩ := hw'
          go_simp
          try with_reducible rfl
        go_simp
        refine hK _ ?_
        clear hK K
      refine late_late ?_
      go_wp2_with fail
      refine late_end ?_
      go_wp2_with fail
      simp only [Exit.jump]
      go_ret
      exact HEND.out
    · rw [hk] at k0
      obtain ⟨sa, sc, hsv⟩ : ∃ sa sc, sv' = .slice sa m'.sent.length sc := by
        rcases HM2.out.os.2 with ⟨h1, h2⟩ | ⟨g, cp, cur, h1, _⟩
        · exact ⟨none, 0, by rw [h1, show m'.sent.length = 0 from h2]⟩
        · exact ⟨_, cp, h1⟩
      subst hsv
      have m1 : W2.cell? ⟨Mb, 1, none⟩ = some (.slice sa m'.sent.length sc) := HM2.out.cM.c 1 (by omega)
      have k2 : W2.cell? ⟨sb, 2, none⟩ = some (.int .i64 s.x) := HC2.out.c 2 (by omega)
      have zM := HM2.out.cM.z
      have hsl : m'.sent.length + 1 + m'.tick.fuel ≤ 2000 := by
        have := HM2.out.sl
        have h1 : m'.tick.fuel = m'.fuel - 1 := rfl
        have h2 : m'.tick.sent = m'.sent := rfl
        rw [h2] at this
        have h3 := HM.out.sl
        have := HF0.out
        omega
      have hba := HM2.out.inn.hba
      have hbz := HM2.out.hbz
      have hsbz : sb < W2.heap.size := HC2.out.lt (by omega)
      obtain ⟨x, hxx⟩ : ∃ x, x = s.x := ⟨_, rfl⟩
      rw [← hxx] at k2
      have HFIN : Hid (∀ sv2 W4, MachAt lo base Mb Vb Ob Tb nv w0 W4 ⟨m'.vars, m'.sent ++ [(x, v)], m'.fuel - 1⟩ sv2 → AllEnds lo base Mb Vb Ob Tb nv w0 (Fl.go [s] m) (.returned (.bool true)) W4) := fun sv2 W4 h => by
        rw [HGO.out, HON2.out, if_neg (by omega), if_pos hk, ← hxx]
        exact ⟨rfl, _, h⟩
      have HOS : Hid (W2.ownsRow base 63 2 (.slice sa m'.sent.length sc) m'.sent.length (sentV m'.sent)) := HM2.out.os
      have HSL : Hid (m'.sent.length + 1 + m'.tick.fuel ≤ 2000) := hsl
      have hsl2 : m'.sent.length ≤ 2000 := by omega
      clear hxx HON2 HC2 HK HE hk HVP HFV HEV HCS HGO HLT hsl
      go_wp2_with fail
      refine wp_region_late (fun W => W.cell? ⟨Mb, 1, none⟩ = some (.slice sa m'.sent.length sc) ∧ W.cell? ⟨sb, 2, none⟩ = some (.int .i64 x)) [15] [(0, 0), (0, 1), (0, 2), (0, 3), (0, 4), (0, 5), (0, 6), (0, 7), (0, 8), (0, 9), (0, 10), (1, 11), (1, 12), (1, 13), (0, 14), (2, 15)] [] (by kernel_rfl) (by kernel_rfl) rfl [(_, _), (_, _), (_, _), (_, _), (_, _), (_, _), (_, _), (_, _), (_, _), (_, _), (_, _), (_, _), (_, _), (_, _), (_, _), (_, _)] rfl (fun c a d v w h => by cases d <;> exact h) ⟨m1, k2⟩ (fun ops hG => ?_)
      clear hG
      simp only [List.getElem_toArray, List.getElem_cons_succ, List.getElem_cons_zero]
      iterate 11
        refine late_read rfl (fun K hK => ?_)
        apply Exists.intro
        refine ⟨fun w' hw' => ?_, ?_⟩
        · obtain ⟨k0, k1⟩ := hw'
          go_simp
          try with_reducible rfl
        go_simp
        refine hK _ ?_
        clear hK K
      refine late_do ?_
      go_wp2_with fail
      obtain ⟨W3, hW3⟩ : ∃ W3, W3 = (W2.alloc (.cells #[.int .i64 (x : Int), .int .u32 (v : Int)] 63)).drew := ⟨_, rfl⟩
      obtain ⟨tb, htb⟩ : ∃ tb, tb = W2.heap.size := ⟨_, rfl⟩
      have hB3 : Below W2.heap.size W2 W3 := by rw [hW3]; exact ((Below.refl _ _).alloc (Nat.le_refl _) _).drew
      have hz3 : W2.heap.size + 1 = W3.heap.size := by rw [hW3]; simp
      have t0 : ∀ i u, ([.int .i64 (x : Int), .int .u32 (v : Int)] : List Value)[i]? = some u → W3.cell? ((⟨tb, 0, none⟩ : Addr).add i) = some u := by
        intro i u hu
        have h2 : (⟨tb, 0, none⟩ : Addr).add i = ⟨tb, i, none⟩ := by unfold Addr.add; split <;> simp_all
        rw [h2, hW3, htb]
        show (W2.alloc _).cell? _ = _
        rw [World.cell?_alloc_new]; simpa using hu
      have e0 : W3.cell? ⟨Mb, 1, none⟩ = some (.slice sa m'.sent.length sc) := (hB3.cell (p := ⟨Mb, 1, none⟩) (by show Mb < _; omega)).trans m1
      have e1 : W3.cell? ⟨sb, 2, none⟩ = some (.int .i64 x) := (hB3.cell (p := ⟨sb, 2, none⟩) hsbz).trans k2
      have HO3 : Hid (W3.ownsRow base 63 2 (.slice sa m'.sent.length sc) m'.sent.length (sentV m'.sent)) := own_same HOS.out (fun b hb => hB3.block b (HOS.out.lt b hb).2)
      have HB3 : Hid (Below W2.heap.size W2 W3) := hB3
      rw [← hW3, ← htb]
      clear hW3 htb hB3 HOS
      refine ⟨⟨e0, e1⟩, ?_⟩
      refine late_do ?_
      obtain ⟨i0, hi0, hz0, hzs, hzb⟩ := info_parts Tryz.infoSentP
      go_wp2_with (at_builtin; refine wpList_append_at _ rfl (.tmp 37) (.tmp 44) 27 rfl base 63 i0 (.agg #[.int .i64 0, .int .u32 0]) 2 16 Tryz.underlying27 hi0 hz0 hzs hzb rfl (by decide) _ _ _ rfl HO3.out ⟨tb, 0, none⟩ 1 1 [.int .i64 (x : Int), .int .u32 (v : Int)] rfl rfl (by decide) t0 ?c2 ?c3 ?c4 ?c5 ?_)
      case c2 => intro u hu; simp only [List.mem_cons, List.not_mem_nil, or_false] at hu; rcases hu with rfl | rfl <;> rfl
      case c3 => unfold maxLen; omega
      case c4 => omega
      case c5 => omega
      intro v' W4 hown4 hg4 hwh4
      have HADD : Hid (MachAt lo base Mb Vb Ob Tb nv w0 (W4.setCell ⟨Mb, 1, none⟩ v') ⟨m'.vars, m'.sent ++ [(x, v)], m'.fuel - 1⟩ v') := HM2.out.addSent x v HSL.out HB3.out hown4 hg4
      obtain ⟨va', vcap, rfl⟩ : ∃ va vcap, v' = .slice va (m'.sent.length + 1) vcap := by
        rcases hown4.2 with ⟨h1, h2⟩ | ⟨g, cp, cur, h1, _⟩
        · omega
        · exact ⟨_, cp, h1⟩
      have hlt3 : ∀ k, (Value.slice sa m'.sent.length sc).ownBlock = some k → base ≤ k ∧ k < W2.heap.size + 1 := fun k hk => by have := HO3.out.lt k hk; omega
      have hne3 : ∀ k, k < base → some k ≠ (Value.slice sa m'.sent.length sc).ownBlock := fun k hk hh => by have := (hlt3 k hh.symm).1; omega
      have hq4 : ∀ k, k < base → W4.heap[k]? = W3.heap[k]? := fun k hk => hg4.block k (by omega) (hne3 k hk)
      have g0 : W4.cell? ⟨Mb, 1, none⟩ = some (.slice sa m'.sent.length sc) := (World.cell?_of_block (a := ⟨Mb, 1, none⟩) (hq4 Mb (by omega))).trans e0
      have g1 : W4.cell? ⟨sb, 2, none⟩ = some (.int .i64 x) := (World.cell?_of_block (a := ⟨sb, 2, none⟩) (hq4 sb HSB.out)).trans e1
      have gz : ∀ j, W4.frozen? ⟨Mb, j, none⟩ = false := fun j => (World.frozen?_of_block (a := ⟨Mb, j, none⟩) (hq4 Mb (by omega))).trans ((HB3.out.frozen (p := ⟨Mb, j, none⟩) (by show Mb < _; omega)).trans (zM j))
      have HEND : Hid (AllEnds lo base Mb Vb Ob Tb nv w0 (Fl.go [s] m) (.returned (.bool true)) (W4.setCell ⟨Mb, 1, none⟩ (.slice va' (m'.sent.length + 1) vcap))) := HFIN.out _ _ HADD.out
      clear hown4 hg4 hwh4 hq4 e0 e1 t0 HO3 HB3 hlt3 hne3 HADD HFIN HM2
      go_wp2_with fail
      refine ⟨⟨g0, g1⟩, ?_⟩
      refine late_do ?_
      go_wp2_with fail
      refine ⟨⟨g0, g1⟩, ?_⟩
      refine late_read rfl (fun K hK => ?_)
      apply Exists.intro
      refine ⟨fun w' hw' => ?_, ?_⟩
      · obtain ⟨k0, k1⟩ := hw'
        go_simp
        try with_reducible rfl
      go_simp
      refine hK _ ?_
      clear hK K
      refine late_late ?_
      go_wp2_with fail
      refine late_end ?_
      go_wp2_with fail
      simp only [Exit.jump]
      go_ret
      exact HEND.out
    · rw [hk] at k0
      have k4 : W2.cell? ⟨sb, 4, none⟩ = some (.slice fa fn fc) := HC2.out.c 4 (by omega)
      have k5 : W2.cell? ⟨sb, 5, none⟩ = some (.slice ea en ec) := HC2.out.c 5 (by omega)
      by_cases hv0 : v = 0
      · have HG : Hid (Fl.go [s] m = Fl.go s.other m'.tick) := by show _ = _; rw [HGO.out, HON2.out, if_neg (by omega), if_neg (by omega), if_pos hk, if_pos hv0]
        have b0 : ((v : Int) == 0) = true := by simp [hv0]
        clear HON2 HC2 HK HE hk HVP HFV HCS HGO hv0
        go_wp2_with fail
        refine (HEV.out W2 m'.tick sv' HLT.out HM2.out).mono ?_
        obtain ⟨qq, hqq⟩ : ∃ qq, qq = Fl.go s.other m'.tick := ⟨_, rfl⟩
        rw [← hqq] at HG ⊢
        rintro e W3 ⟨rfl, hM3⟩
        have HEND : Hid (AllEnds lo base Mb Vb Ob Tb nv w0 (Fl.go [s] m) (.returned (.bool qq.1)) W3) := by
          show AllEnds _ _ _ _ _ _ _ _ _ _ _
          rw [HG.out]; exact ⟨rfl, hM3⟩
        clear hM3 hqq HG
        go_wp2_with fail
        simp only [Exit.jump]
        go_ret
        exact HEND.out
      · have HG : Hid (Fl.go [s] m = Fl.go s.body m'.tick) := by show _ = _; rw [HGO.out, HON2.out, if_neg (by omega), if_neg (by omega), if_pos hk, if_neg hv0]
        have b0 : ((v : Int) == 0) = false := by simp; exact hv0
        clear HON2 HC2 HK HE hk HVP HEV HCS HGO hv0
        go_wp2_with fail
        refine (HFV.out W2 m'.tick sv' HLT.out HM2.out).mono ?_
        obtain ⟨qq, hqq⟩ : ∃ qq, qq = Fl.go s.body m'.tick := ⟨_, rfl⟩
        rw [← hqq] at HG ⊢
        rintro e W3 ⟨rfl, hM3⟩
        have HEND : Hid (AllEnds lo base Mb Vb Ob Tb nv w0 (Fl.go [s] m) (.returned (.bool qq.1)) W3) := by
          show AllEnds _ _ _ _ _ _ _ _ _ _ _
          rw [HG.out]; exact ⟨rfl, hM3⟩
        clear hM3 hqq HG
        go_wp2_with fail
        simp only [Exit.jump]
        go_ret
        exact HEND.out
    · rw [hk] at k0
      have k4 : W2.cell? ⟨sb, 4, none⟩ = some (.slice fa fn fc) := HC2.out.c 4 (by omega)
      by_cases hv0 : v = 0
      · have HEND : Hid (AllEnds lo base Mb Vb Ob Tb nv w0 (Fl.go [s] m) (.returned (.bool true)) W2) := by
          show AllEnds _ _ _ _ _ _ _ _ _ _ _
          rw [HGO.out, HON2.out, if_neg (by omega), if_neg (by omega), if_neg (by omega), if_pos hv0]
          exact ⟨rfl, _, HM2.out⟩
        have b0 : ((v : Int) == 0) = true := by simp [hv0]
        clear HON2 HC2 HK HE hk HVP HFV HEV HCS HGO hv0
        go_wp2_with fail
        simp only [Exit.jump]
        go_ret
        exact HEND.out
      · have HG : Hid (Fl.go [s] m = if (Fl.go s.body m'.tick).1 = true then Fl.go [s] (Fl.go s.body m'.tick).2 else Fl.go s.body m'.tick) := by show _ = _; rw [HGO.out, HON2.out, if_neg (by omega), if_neg (by omega), if_neg (by omega), if_neg hv0]
        have b0 : ((v : Int) == 0) = false := by simp; exact hv0
        have HFU : Hid ((Fl.go s.body m'.tick).2.fuel < m'.fuel) := by
          show _ < _
          have h1 := Fl.go_fuel s.body m'.tick
          have h2 : m'.tick.fuel = m'.fuel - 1 := rfl
          have h3 := HF0.out
          omega
        clear HON2 HC2 HK HE hk HVP HEV HCS HGO hv0
        go_wp2_with fail
        refine (HFV.out W2 m'.tick sv' HLT.out HM2.out).mono ?_
        obtain ⟨qq, hqq⟩ : ∃ qq, qq = Fl.go s.body m'.tick := ⟨_, rfl⟩
        rw [← hqq] at HG HFU ⊢
        obtain ⟨qb, qm⟩ := qq
        rintro e W3 ⟨rfl, sv3, hM3⟩
        have HM3 : Hid (MachAt lo base Mb Vb Ob Tb nv w0 W3 qm sv3) := hM3
        clear hM3 hqq
        cases qb with
        | false =>
          have HEND : Hid (AllEnds lo base Mb Vb Ob Tb nv w0 (Fl.go [s] m) (.returned (.bool false)) W3) := by
            show AllEnds _ _ _ _ _ _ _ _ _ _ _
            rw [HG.out]; exact ⟨rfl, _, HM3.out⟩
          clear HG HFU
          go_wp2_with fail
          simp only [Exit.jump]
          go_ret
          exact HEND.out
        | true =>
          have HJN : Hid (∀ a', (∃ (u2 u3 u4 u5 u6 u7 u8 u9 u10 u11 u12 u13 u14 u15 u16 u17 u18 u19 u20 u21 u22 u23 u24 u25 u26 u27 u28 u29 u30 u31 u32 u33 u34 u35 u36 u37 u38 u39 u40 u41 u42 u43 u44 u45 u46 u47 u48 u49 u50 u51 u52 u53 u54 u55 u56 u57 u58 u59 u60 u61 u62 u63 u64 u65 u66 u67 u68 u69 u70 u71 u72 u73 u74 : Value), a' = { tmps := #[.pointer (some ⟨Mb, 0, none⟩), .pointer (some ⟨sb, 0, none⟩), u2, u3, u4, u5, u6, u7, u8, u9, u10, u11, u12, u13, u14, u15, u16, u17, u18, u19, u20, u21, u22, u23, u24, u25, u26, u27, u28, u29, u30, u31, u32, u33, u34, u35, u36, u37, u38, u39, u40, u41, u42, u43, u44, u45, u46, u47, u48, u49, u50, u51, u52, u53, u54, u55, u56, u57, u58, u59, u60, u61, u62, u63, u64, u65, u66, u67, u68, u69, u70, u71, u72, u73, u74], defers := [] }) → ∀ a2, J a' W3 ∧ μ a' W3 < μ a2 W) := fun a' ha' a2 => by
            refine ⟨?_, ?_⟩
            · rw [HJ.out]
              refine ⟨qm, sv3, ha', HM3.out, ?_, ?_⟩
              · have h1 := HFU.out; have h2 := HF.out; simp only at h1; omega
              · rw [HG.out]; rfl
            · rw [HMU.out]
              show fuelIn Mb W3 < fuelIn Mb W
              rw [HM3.out.fuelIn, HM.out.fuelIn]; exact HFU.out
          clear HG HFU
          go_wp2_with fail
          go_step3
          exact ⟨rfl, HJN.out _ ⟨_, _, _, _, _, _, _, _, _, _, _, _, _, _, _, _, _, _, _, _, _, _, _, _, _, _, _, _, _, _, _, _, _, _, _, _, _, _, _, _, _, _, _, _, _, _, _, _, _, _, _, _, _, _, _, _, _, _, _, _, _, _, _, _, _, _, _, _, _, _, _, _, _, rfl⟩ _⟩
end
end Go.Proofs.YthfacjlghcdndaaGreatDoor
