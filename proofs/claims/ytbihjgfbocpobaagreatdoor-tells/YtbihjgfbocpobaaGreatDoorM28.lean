/- Texts RefY. -/
import Derived.Test.YtbihjgfbocpobaaGreatDoorM27
/- The reference's Bytes. -/
set_option linter.unusedSimpArgs false
set_option linter.unusedVariables false
namespace Go.Proofs.YtbihjgfbocpobaaGreatDoor
open Go.RowKit

set_option maxRecDepth 100000 in
set_option maxHeartbeats 4000000 in
theorem rbytes_walk (s : List UInt8) (w : World) (hs : s.length ≤ 40000) :
    Calls Tryz.prog 11 #[.string ⟨s.toArray⟩] w (BytEnds (Fl.readText s) w) := by
  have HC : Hid (∀ (c : UInt8) (x : List UInt8) (W : World), x.length ≤ 40000 → Calls Tryz.prog 24 #[.string ⟨x.toArray⟩, .int .u8 c.toNat] W fun e w' => ∃ g cap, e = .returned (.slice (some ⟨g, 0, none⟩) (Fl.cutR c x).length cap) ∧ W.heap.size ≤ g ∧ w'.ownsRow W.heap.size 9 1 (.slice (some ⟨g, 0, none⟩) (Fl.cutR c x).length cap) (Fl.cutR c x).length ((Fl.cutR c x).map strV) ∧ Below W.heap.size W w') := cut_w
  obtain ⟨lines, hlines⟩ : ∃ lines, lines = Fl.cutR 10 s := ⟨_, rfl⟩
  have HRT : Hid (Fl.readText s = Fl.readL [] [] 0 lines) := by rw [hlines]; rfl
  have hln := (cutR_len 10 s).1
  rw [← hlines] at hln
  have HLL : Hid (∀ x ∈ lines, x.length ≤ 40000) := fun x hx => by have := (cutR_len 10 s).2 x (by rw [← hlines]; exact hx); omega
  have hl0 : 0 < lines.length := by rw [hlines]; exact List.length_pos_iff.2 (Fl.cutR_ne 10 s)
  have HC1 := HC.out 10 s ((w.alloc (.cells #[.slice none 0 0, .slice none 0 0] 32)).alloc (.cells #[.slice none 0 0, .slice none 0 0] 32)) hs
  rw [← hlines] at HC1
  have HC1H : Hid (Calls Tryz.prog 24 #[.string ⟨s.toArray⟩, .int .u8 10] ((w.alloc (.cells #[.slice none 0 0, .slice none 0 0] 32)).alloc (.cells #[.slice none 0 0, .slice none 0 0] 32)) _) := HC1
  clear hlines HC1
  go_enter Tryz.func11, Tryz.ntmps11
  go_wp2_with fail
  refine (HC1H.out).mono ?_
  rintro e wc ⟨g, gcap, rfl, hgb, hown, hbel⟩
  simp only [World.size_alloc] at hgb hown hbel
  clear HC1H
  have hgl : g < wc.heap.size := (hown.lt g rfl).2
  have hcap : gcap ≤ 9223372036854775807 := by
    rcases hown.2 with ⟨hh, _⟩ | ⟨g', cap', cur, hh, _, _, _, hcm, _⟩
    · cases hh
    · simp only [Value.slice.injEq] at hh; rw [hh.2.2]; exact hcm
  have HOWN : Hid (∀ i, i < lines.length → wc.cell? ⟨g, i, none⟩ = some (strV (lines.getD i []))) := fun i hi => by
    have h1 := hown.cells (g := g) rfl i (strV (lines.getD i [])) (by simp [List.getD_eq_getElem?_getD, hi])
    have h2 : (⟨g, 0, none⟩ : Addr).add i = ⟨g, i, none⟩ := by unfold Addr.add; split <;> simp_all
    rw [h2] at h1; exact h1
  have HBC : Hid (Below (w.heap.size + 2) ((w.alloc (.cells #[.slice none 0 0, .slice none 0 0] 32)).alloc (.cells #[.slice none 0 0, .slice none 0 0] 32)) wc) := hbel
  have hwz : w.heap.size + 2 ≤ wc.heap.size := by have := hbel.size; simp only [World.size_alloc] at this; omega
  clear hown hbel
  go_wp2_with (go_at_call 20; refine (words_any _).mono ?_; rintro e w' ⟨rfl, rfl⟩)
  obtain ⟨W3, hW3⟩ : ∃ W3, W3 = wc.alloc (.cells kindStrs 9) := ⟨_, rfl⟩
  have h3z : W3.heap.size = wc.heap.size + 1 := by rw [hW3]; simp
  have HG0 : Hid (BytRel lines W3 W3 (w.heap.size + 1) 0 [] (.slice none 0 0) (.slice none 0 0) [] []) := by
    have hrow : W3.heap[w.heap.size + 1]? = some (.cells #[.slice none 0 0, .slice none 0 0] 32 (0, 0)) := by
      rw [hW3, Deep.blk_alloc_lt _ _ _ (by omega), HBC.out.block _ (by omega)]
      have := heap_alloc_new (w.alloc (.cells #[.slice none 0 0, .slice none 0 0] 32)) (.cells #[.slice none 0 0, .slice none 0 0] 32)
      rwa [World.size_alloc] at this
    exact ⟨hl0, Grow.new (Below.refl _ _) (by omega) (IntsAt.nil _ _) (Nat.le_refl _) (fun h => absurd rfl h) ((cell_of_row _ _ _ _ _ _ hrow).trans rfl) ((cell_of_row _ _ _ _ _ _ hrow).trans rfl) (fun i => by rw [World.frozen?, hrow]; simp), rfl, rfl, fun _ => ⟨rfl, rfl⟩, Mid.refl _ _ _, fun b hb => by simp [Value.ownBlock] at hb, Nat.le_refl _⟩
  have HLC : Hid (∀ i, i < lines.length → W3.cell? ⟨g, i, none⟩ = some (strV (lines.getD i []))) := by
    intro i hi
    rw [hW3]
    exact (World.cell?_alloc_lt _ _ _ hgl).trans (HOWN.out i hi)
  have HKW : Hid (∀ j, j < 8 → W3.cell? ⟨wc.heap.size, j, none⟩ = some (strV (Fl.kindWords.getD j []))) := by
    intro j hj
    rw [hW3, World.cell?_alloc_new]
    rcases (show j = 0 ∨ j = 1 ∨ j = 2 ∨ j = 3 ∨ j = 4 ∨ j = 5 ∨ j = 6 ∨ j = 7 by omega) with rfl | rfl | rfl | rfl | rfl | rfl | rfl | rfl <;> rfl
  have HR3 : Hid (W3.heap[w.heap.size]? = some (.cells #[.slice none 0 0, .slice none 0 0] 32 (0, 0))) := by
    show _ = _
    rw [hW3, Deep.blk_alloc_lt _ _ _ (by omega), HBC.out.block _ (by omega), Deep.blk_alloc_lt _ _ _ (by simp)]
    exact heap_alloc_new _ _
  have HB3 : Hid (Below w.heap.size w W3) := by
    rw [hW3]
    exact (Below.trans (Below.alloc (Below.alloc (Below.refl _ _) (Nat.le_refl _) _) (by simp) _) (HBC.out.mono (by omega))).alloc (by omega) _
  rw [← hW3]
  clear hW3 HOWN HBC
  go_loopw [8] (fun i wr => ∃ (j : Nat) (ls : List Int) (lv nv : Value) (acc : List Fl.Node) (lvs : List Value), i = .int .i64 j ∧ BytRel lines W3 wr (w.heap.size + 1) j ls lv nv acc lvs) (fun i _ => lines.length - (intOf i).toNat)
  case atStart => exact ⟨0, [], _, _, [], [], rfl, HG0.out⟩
  case round =>
    clear HG0
    obtain ⟨j, ls, lv, nv, acc, lvs, rfl, hrel⟩ := hrel
    have HR : Hid (BytRel lines W3 wr (w.heap.size + 1) j ls lv nv acc lvs) := hrel
    have hlt := hrel.hj
    have hz := hrel.hz
    have q0 := hrel.hg.c0
    have q1 := hrel.hg.c1
    have qf := hrel.hg.fq
    have HAL : Hid (acc.length = j - 1) := hrel.ha
    have hal : acc.length ≤ 50000 := by have := hrel.ha; omega
    obtain ⟨nao, ncap, rfl⟩ := own_shape6 hrel.hg.hn
    obtain ⟨lao, lcap, rfl, _⟩ := id hrel.hg.locals
    obtain ⟨x, hx⟩ : ∃ x, x = lines.getD j [] := ⟨_, rfl⟩
    have hck : wr.cell? ⟨g, j, none⟩ = some (.string ⟨x.toArray⟩) := by
      rw [hrel.hm.cell (by omega) (by omega), hx]; exact HLC.out j hlt
    have HX : Hid (x = lines.getD j []) := hx
    have hxl : x.length ≤ 40000 := HLL.out x (by rw [hx, List.getD_eq_getElem?_getD, List.getElem?_eq_getElem hlt]; simp)
    have hltI : (j : Int) < (lines.length : Int) := by omega
    have hres : wr.heap[w.heap.size]? = some (.cells #[.slice none 0 0, .slice none 0 0] 32 (0, 0)) := (hrel.hg.hb.block _ (by omega)).trans HR3.out
    have r0 : wr.cell? ⟨w.heap.size, 0, none⟩ = some (.slice none 0 0) := (cell_of_row _ _ _ _ _ _ hres).trans rfl
    have r1 : wr.cell? ⟨w.heap.size, 1, none⟩ = some (.slice none 0 0) := (cell_of_row _ _ _ _ _ _ hres).trans rfl
    have rf : ∀ o, wr.frozen? ⟨w.heap.size, o, none⟩ = false := fun i => by rw [World.frozen?, hres]; simp
    have HBW : Hid (Below w.heap.size w wr) := HB3.out.trans (hrel.hg.hb.mono (by omega))
    have HRES : Hid (wr.heap[w.heap.size]? = some (.cells #[.slice none 0 0, .slice none 0 0] 32 (0, 0))) := hres
    clear hres
    clear hrel hx
    by_cases hlast : j + 1 = lines.length
    · have b1 : ((j : Int) == (lines.length : Int) - 1) = true := by simp; omega
      have HLAST : Hid (j + 1 = lines.length) := hlast
      clear hlast
      by_cases hxe : x = []
      · subst hxe
        by_cases h0 : 0 < j
        · have HE : Hid (Fl.readText s = ((ls, acc), 0)) := by
            show _ = _
            rw [HRT.out, HR.out.hr, drop_last_of HLAST.out, ← HX.out, Fl.readL_last, if_pos ⟨rfl, h0⟩]
          go_wp2
          obtain ⟨t0, t1⟩ := two_same (w1 := wr) (B := w.heap.size) (.slice lao ls.length lcap) (.slice nao acc.length ncap) r0 r1
          exact bodyPost_ret (v := .tuple #[.agg #[.slice lao ls.length lcap, .slice nao acc.length ncap], .int .i64 0]) (by simp [results, Tryz.results11, go_sem, t0, t1]) rfl ⟨(HBW.out.setCell (by simp) _).setCell (by simp) _, _, _, _, _, _, _, by rw [HE.out]; rfl, fun _ => by rw [HE.out]; exact HR.out.hg.ret (by omega) _ _⟩
        · have HE : Hid (((Fl.readText s).2 : Int) = (j : Int) + 1) := by
            show _ = _
            rw [HRT.out, HR.out.hr, drop_last_of HLAST.out, ← HX.out, Fl.readL_last, if_neg (by rintro ⟨_, h⟩; exact h0 h)]; simp
          go_wp2
          obtain ⟨t0, t1⟩ := two_same (w1 := wr) (B := w.heap.size) (.slice lao ls.length lcap) (.slice nao acc.length ncap) r0 r1
          exact bodyPost_ret (v := .tuple #[.agg #[.slice lao ls.length lcap, .slice nao acc.length ncap], .int .i64 ((j : Int) + 1)]) (by simp [results, Tryz.results11, go_sem, t0, t1]) rfl (BytEnds.bad HE.out (by omega) ((HBW.out.setCell (by simp) _).setCell (by simp) _))
      · have HE : Hid (((Fl.readText s).2 : Int) = (j : Int) + 1) := by
          show _ = _
          rw [HRT.out, HR.out.hr, drop_last_of HLAST.out, ← HX.out, Fl.readL_last, if_neg (by rintro ⟨h, _⟩; exact hxe h)]; simp
        have b2 : ((⟨x.toArray⟩ : ByteArray).toList == []) = false := by rw [ByteArray.toList_eq]; simpa using hxe
        go_wp2
        obtain ⟨t0, t1⟩ := two_same (w1 := wr) (B := w.heap.size) (.slice lao ls.length lcap) (.slice nao acc.length ncap) r0 r1
        exact bodyPost_ret (v := .tuple #[.agg #[.slice lao ls.length lcap, .slice nao acc.length ncap], .int .i64 ((j : Int) + 1)]) (by simp [results, Tryz.results11, go_sem, t0, t1]) rfl (BytEnds.bad HE.out (by omega) ((HBW.out.setCell (by simp) _).setCell (by simp) _))
    · have b1 : ((j : Int) == (lines.length : Int) - 1) = false := by simp; omega
      have hj1 : j + 1 < lines.length := by omega
      clear hlast
      obtain ⟨ws, hws⟩ : ∃ ws, ws = Fl.cutR 32 x := ⟨_, rfl⟩
      have hC := HC.out 32 x wr hxl
      rw [← hws] at hC
      have HCW : Hid (Calls Tryz.prog 24 #[.string ⟨x.toArray⟩, .int .u8 32] wr _) := hC
      have hwl : 0 < ws.length := by rw [hws]; exact List.length_pos_iff.2 (Fl.cutR_ne 32 x)
      have hwl2 : ws.length ≤ 40001 := by have := (cutR_len 32 x).1; rw [← hws] at this; omega
      have HWL : Hid (∀ y ∈ ws, y.length ≤ 40000) := fun y hy => by have := (cutR_len 32 x).2 y (by rw [← hws]; exact hy); omega
      have HWS : Hid (ws = Fl.cutR 32 x) := hws
      clear hws hC
      go_wp2_with fail
      refine (HCW.out).mono ?_
      rintro e w1 ⟨gw, wcap, rfl, hgw, hown, hbel⟩
      have HWA : Hid (WordsAt w1.heap.size w1 (.slice (some ⟨gw, 0, none⟩) ws.length wcap) ws) := WordsAt.of_own hown (by omega) (fun y hy => by have := HWL.out y hy; omega)
      have HB1 : Hid (Below wr.heap.size wr w1) := hbel
      have hb1s := hbel.size
      have hwcap : ws.length ≤ wcap ∧ wcap ≤ 9223372036854775807 := by
        rcases hown.2 with ⟨hh, _⟩ | ⟨g', cap', cur, hh, _, _, h4, hcm, _⟩
        · cases hh
        · simp only [Value.slice.injEq] at hh; rw [hh.2.2]; exact ⟨by omega, hcm⟩
      obtain ⟨hwc1, hwc2⟩ := hwcap
      have HQZ : Hid (w.heap.size + 1 < wr.heap.size) := by show _ < _; omega
      have HCELL : Hid (∀ i, i < ws.length → w1.cell? ⟨gw, i, none⟩ = some (strV (ws.getD i []))) := by
        obtain ⟨ao', cap', h1, _, _, _, _, h6⟩ := HWA.out
        obtain ⟨b', off', e', _, hc'⟩ := h6 (by intro hh; rw [hh] at hwl; simp at hwl)
        simp only [Value.slice.injEq] at h1
        rw [← h1.1] at e'
        simp only [Option.some.injEq, Addr.mk.injEq, and_true] at e'
        intro i hi
        have := hc' i hi
        rw [← e'.1, ← e'.2, Nat.zero_add] at this; exact this
      clear hown hbel HCW
      have c0 := HCELL.out 0 hwl
      have q0' : w1.cell? ⟨w.heap.size + 1, 0, none⟩ = some (.slice lao ls.length lcap) := (HB1.out.cell (p := ⟨w.heap.size + 1, 0, none⟩) (by show w.heap.size + 1 < _; omega)).trans q0
      have q1' : w1.cell? ⟨w.heap.size + 1, 1, none⟩ = some (.slice nao acc.length ncap) := (HB1.out.cell (p := ⟨w.heap.size + 1, 1, none⟩) (by show w.heap.size + 1 < _; omega)).trans q1
      have qf' : ∀ o, w1.frozen? ⟨w.heap.size + 1, o, none⟩ = false := fun o => (HB1.out.frozen (p := ⟨w.heap.size + 1, o, none⟩) (by show w.heap.size + 1 < _; omega)).trans (qf o)
      have r0' : w1.cell? ⟨w.heap.size, 0, none⟩ = some (.slice none 0 0) := (HB1.out.cell (p := ⟨w.heap.size, 0, none⟩) (by show w.heap.size < _; omega)).trans r0
      have r1' : w1.cell? ⟨w.heap.size, 1, none⟩ = some (.slice none 0 0) := (HB1.out.cell (p := ⟨w.heap.size, 1, none⟩) (by show w.heap.size < _; omega)).trans r1
      have rf' : ∀ o, w1.frozen? ⟨w.heap.size, o, none⟩ = false := fun o => (HB1.out.frozen (p := ⟨w.heap.size, o, none⟩) (by show w.heap.size < _; omega)).trans (rf o)
      clear q0 q1 qf r0 r1 rf
      unfold strV at c0
      obtain ⟨x0, hx0⟩ : ∃ x0, x0 = ws.getD 0 [] := ⟨_, rfl⟩
      rw [← hx0] at c0
      have HX0 : Hid (x0 = ws.getD 0 []) := hx0
      clear hx0
      by_cases h0 : j = 0
      · have b2 : ((j : Int) == 0) = true := by simp [h0]
        have HJ : Hid (j = 0) := h0
        clear h0
        obtain ⟨ov, hov⟩ : ∃ ov, ov = Fl.intsOf (ws.drop 1) := ⟨_, rfl⟩
        have HIN : Hid (∀ sv, sv = .slice (some ⟨gw, 1, none⟩) (ws.length - 1) (wcap - 1) ∨ (sv = .slice (some ⟨gw, 0, none⟩) (ws.length - 1) 0 ∧ ws.length ≤ 1) → Calls Tryz.prog 25 #[sv] w1 fun e w' => ∃ v, e = .returned (.tuple #[v, .bool ov.isSome]) ∧ w'.ownsRow w1.heap.size 3 1 v (ov.getD []).length ((ov.getD []).map (Value.int .i64)) ∧ Below w1.heap.size w1 w') := by
          intro sv hsv
          rw [hov]
          refine rints_walk w1.heap.size sv _ w1 ?_ (Nat.le_refl _)
          rcases hsv with rfl | ⟨rfl, h1⟩
          · have := HWA.out.drop 1 (by omega); simpa using this
          · have hl : ws.length - 1 = 0 := by omega
            rw [List.drop_of_length_le h1, hl]
            exact ⟨_, _, rfl, by simp, by simp [maxLen], by simp, by simp, fun h => absurd rfl h⟩
        have HOV : Hid (ov = Fl.intsOf (ws.drop 1)) := hov
        clear hov
        go_wp2_with fail
        all_goals
          refine (HIN.out _ (by first | exact .inl rfl | exact .inr ⟨rfl, by omega⟩)).mono ?_
          rintro e w2 ⟨v, rfl, ho2, hb2⟩
          have HO2 : Hid (w2.ownsRow w1.heap.size 3 1 v (ov.getD []).length ((ov.getD []).map (Value.int .i64))) := ho2
          have HB2 : Hid (Below w1.heap.size w1 w2) := hb2
          have hb2s := hb2.size
          have hz1 : w.heap.size + 1 < w1.heap.size := by have := HQZ.out; omega
          have c0' : w2.cell? ⟨gw, 0, none⟩ = some (.string ⟨x0.toArray⟩) := (hb2.cell (p := ⟨gw, 0, none⟩) (World.block_lt_of_cell? w1 _ c0)).trans c0
          have q0 : w2.cell? ⟨w.heap.size + 1, 0, none⟩ = some (.slice lao ls.length lcap) := (hb2.cell (p := ⟨w.heap.size + 1, 0, none⟩) hz1).trans q0'
          have q1 : w2.cell? ⟨w.heap.size + 1, 1, none⟩ = some (.slice nao acc.length ncap) := (hb2.cell (p := ⟨w.heap.size + 1, 1, none⟩) hz1).trans q1'
          have qf : ∀ o, w2.frozen? ⟨w.heap.size + 1, o, none⟩ = false := fun o => (hb2.frozen (p := ⟨w.heap.size + 1, o, none⟩) hz1).trans (qf' o)
          have r0 : w2.cell? ⟨w.heap.size, 0, none⟩ = some (.slice none 0 0) := (hb2.cell (p := ⟨w.heap.size, 0, none⟩) (by show w.heap.size < _; omega)).trans r0'
          have r1 : w2.cell? ⟨w.heap.size, 1, none⟩ = some (.slice none 0 0) := (hb2.cell (p := ⟨w.heap.size, 1, none⟩) (by show w.heap.size < _; omega)).trans r1'
          have rf : ∀ o, w2.frozen? ⟨w.heap.size, o, none⟩ = false := fun o => (hb2.frozen (p := ⟨w.heap.size, o, none⟩) (by show w.heap.size < _; omega)).trans (rf' o)
          obtain ⟨vao, vcap, rfl⟩ := own_shape6 ho2
          have HBW2 : Hid (Below w.heap.size w w2) := (HBW.out.trans (HB1.out.mono (by omega))).trans (hb2.mono (by omega))
          clear ho2 hb2 q0' q1' qf' r0' r1' rf' c0
          by_cases hgood : x0 = Fl.wLocals ∧ ov.isSome = true
          · obtain ⟨rfl, hos⟩ := hgood
            obtain ⟨vs, hvs⟩ : ∃ vs, ov = some vs := Option.isSome_iff_exists.1 hos
            have HNX : Hid (BytRel lines W3 (w2.setCell ⟨w.heap.size + 1, 0, none⟩ (.slice vao (ov.getD []).length vcap)) (w.heap.size + 1) 1 (ov.getD []) (.slice vao (ov.getD []).length vcap) (.slice nao acc.length ncap) acc lvs) := by
              have hh := HR.out
              have hj := hj1
              rw [HJ.out] at hh hj
              refine hh.first HB1.out HB2.out HO2.out (by omega) ?_
              have h5 := HX.out
              rw [HJ.out] at h5
              rw [← h5, ← HWS.out]; unfold Fl.localsOf; rw [if_neg (by rw [← HX0.out]; exact fun h => h rfl), ← HOV.out, hvs]; rfl
            clear hvs
            go_wp2
            go_roundw
            case rel => exact ⟨1, _, _, _, _, _, by rw [HJ.out]; rfl, HNX.out⟩
            case measure => simp [intOf]; omega
          · have HE : Hid (((Fl.readText s).2 : Int) = 1) := by
              have hh := HR.out
              have hj := hj1
              rw [HJ.out] at hh hj
              have h5 := HX.out
              rw [HJ.out] at h5
              have := hh.bad0 (by omega) (by
                rw [← h5, ← HWS.out]; unfold Fl.localsOf; rw [← HX0.out, ← HOV.out]
                split
                · rfl
                · rename_i hc
                  cases ov with
                  | none => rfl
                  | some _ => exact absurd ⟨Decidable.not_not.1 hc, rfl⟩ hgood)
              show _ = _
              rw [HRT.out, this]; rfl
            by_cases hxl : x0 = Fl.wLocals
            · subst hxl
              have hos : ov.isSome = false := by simpa using hgood
              go_wp2
              obtain ⟨t0, t1⟩ := two_same (w1 := w2) (B := w.heap.size) (.slice lao ls.length lcap) (.slice nao acc.length ncap) r0 r1
              exact bodyPost_ret (v := .tuple #[.agg #[.slice lao ls.length lcap, .slice nao acc.length ncap], .int .i64 1]) (by simp [results, Tryz.results11, go_sem, t0, t1]) rfl (BytEnds.bad HE.out (by omega) ((HBW2.out.setCell (by simp) _).setCell (by simp) _))
            · have b3 : (x0 == [108, 111, 99, 97, 108, 115]) = false := by rw [beq_eq_false_iff_ne]; exact hxl
              go_wp2
              obtain ⟨t0, t1⟩ := two_same (w1 := w2) (B := w.heap.size) (.slice lao ls.length lcap) (.slice nao acc.length ncap) r0 r1
              exact bodyPost_ret (v := .tuple #[.agg #[.slice lao ls.length lcap, .slice nao acc.length ncap], .int .i64 1]) (by simp [results, Tryz.results11, go_sem, t0, t1]) rfl (BytEnds.bad HE.out (by omega) ((HBW2.out.setCell (by simp) _).setCell (by simp) _))
      · have b2 : ((j : Int) == 0) = false := by simp; omega
        have hji : (j : Int) - 1 = ((j - 1 : Nat) : Int) := by omega
        obtain ⟨dk, hdk⟩ : ∃ dk, dk = Lib.decDigits (j - 1) := ⟨_, rfl⟩
        have HDC : Hid (Calls Tryz.prog 22 #[.int .i64 ((j : Int) - 1)] w1 fun e w' => e = .returned (.string ⟨dk.toArray⟩) ∧ w' = w1) := by
          have := decimal_any (j - 1) w1 (by omega)
          rw [← hdk] at this; show Calls _ _ _ _ _; rw [hji]; exact this
        have HDK : Hid (dk = Lib.decDigits (j - 1)) := hdk
        have HBAD : Hid (Fl.nodeOf (j - 1) ws = none → ((Fl.readText s).2 : Int) = (j : Int) + 1) := by
          intro hn
          have hh := HR.out
          rw [show j = (j - 1) + 1 from by omega] at hh
          have := hh.bad (by omega) (by rw [show j - 1 + 1 = j from by omega, ← HX.out, ← HWS.out]; exact hn)
          rw [HRT.out, this]; omega
        have HBW1 : Hid (Below w.heap.size w w1) := HBW.out.trans (HB1.out.mono (by omega))
        have HJ : Hid (0 < j) := by show _ < _; omega
        clear hji hdk h0
        by_cases h3 : ws.length < 3
        · have HE : Hid (((Fl.readText s).2 : Int) = (j : Int) + 1) := HBAD.out (by unfold Fl.nodeOf; rw [if_pos (Or.inl h3)])
          have h3I : (ws.length : Int) < 3 := by omega
          go_wp2_with (go_at_call 22; refine (HDC.out).mono ?_; rintro e w' ⟨rfl, hw'⟩; obtain rfl : w1 = w' := hw'.symm)
          obtain ⟨t0, t1⟩ := two_same (w1 := w1) (B := w.heap.size) (.slice lao ls.length lcap) (.slice nao acc.length ncap) r0' r1'
          exact bodyPost_ret (v := .tuple #[.agg #[.slice lao ls.length lcap, .slice nao acc.length ncap], .int .i64 ((j : Int) + 1)]) (by simp [results, Tryz.results11, go_sem, t0, t1]) rfl (BytEnds.bad HE.out (by omega) ((HBW1.out.setCell (by simp) _).setCell (by simp) _))
        · by_cases hx0 : x0 = dk
          · have h3I : 3 ≤ (ws.length : Int) := by omega
            subst hx0
            have c1 := HCELL.out 1 (by omega)
            obtain ⟨x1, hx1⟩ : ∃ x1, x1 = ws.getD 1 [] := ⟨_, rfl⟩
            rw [← hx1] at c1
            unfold strV at c1
            have HX1 : Hid (x1 = ws.getD 1 []) := hx1
            clear hx1
            obtain ⟨pk, hpk⟩ : ∃ pk, pk = Fl.place Fl.kindWords x1 := ⟨_, rfl⟩
            have HPL : Hid (Calls Tryz.prog 26 #[.slice (some ⟨wc.heap.size, 0, none⟩) 8 8, .string ⟨x1.toArray⟩] w1 fun e w' => e = .returned (.int .i64 pk) ∧ w' = w1) := by
              have := place_kinds wc.heap.size x1 w1 (fun i hi => ?_)
              · rw [← hpk] at this; exact this
              · refine (HB1.out.cell (p := ⟨wc.heap.size, i, none⟩) (by show wc.heap.size < _; omega)).trans ?_
                rw [HR.out.hm.cell (by omega) (by omega)]; exact HKW.out i hi
            obtain ⟨ov, hov⟩ : ∃ ov, ov = Fl.intsOf (ws.drop 2) := ⟨_, rfl⟩
            have HIN : Hid (Calls Tryz.prog 25 #[.slice (some ⟨gw, 2, none⟩) (ws.length - 2) (wcap - 2)] w1 fun e w' => ∃ v, e = .returned (.tuple #[v, .bool ov.isSome]) ∧ w'.ownsRow w1.heap.size 3 1 v (ov.getD []).length ((ov.getD []).map (Value.int .i64)) ∧ Below w1.heap.size w1 w') := by
              show Calls _ _ _ _ _
              rw [hov]
              refine rints_walk w1.heap.size _ _ w1 ?_ (Nat.le_refl _)
              have := HWA.out.drop 2 (by omega); simpa using this
            have HOV : Hid (ov = Fl.intsOf (ws.drop 2)) := hov
            have HPK : Hid (pk = Fl.place Fl.kindWords x1) := hpk
            clear hov hpk
            go_wp2_with (first | (go_at_call 22; refine (HDC.out).mono ?_; rintro e w' ⟨rfl, hw'⟩; obtain rfl : w1 = w' := hw'.symm) | (go_at_call 26; refine (HPL.out).mono ?_; rintro e w' ⟨rfl, hw'⟩; obtain rfl : w1 = w' := hw'.symm))
            refine HIN.out.mono ?_
            rintro e w2 ⟨v, rfl, ho2, hb2⟩
            have HO2 : Hid (w2.ownsRow w1.heap.size 3 1 v (ov.getD []).length ((ov.getD []).map (Value.int .i64))) := ho2
            have HB2 : Hid (Below w1.heap.size w1 w2) := hb2
            have hb2s := hb2.size
            have hz1 : w.heap.size + 1 < w1.heap.size := by have := HQZ.out; omega
            have q0 : w2.cell? ⟨w.heap.size + 1, 0, none⟩ = some (.slice lao ls.length lcap) := (hb2.cell (p := ⟨w.heap.size + 1, 0, none⟩) hz1).trans q0'
            have q1 : w2.cell? ⟨w.heap.size + 1, 1, none⟩ = some (.slice nao acc.length ncap) := (hb2.cell (p := ⟨w.heap.size + 1, 1, none⟩) hz1).trans q1'
            have qf : ∀ o, w2.frozen? ⟨w.heap.size + 1, o, none⟩ = false := fun o => (hb2.frozen (p := ⟨w.heap.size + 1, o, none⟩) hz1).trans (qf' o)
            have r0 : w2.cell? ⟨w.heap.size, 0, none⟩ = some (.slice none 0 0) := (hb2.cell (p := ⟨w.heap.size, 0, none⟩) (by show w.heap.size < _; omega)).trans r0'
            have r1 : w2.cell? ⟨w.heap.size, 1, none⟩ = some (.slice none 0 0) := (hb2.cell (p := ⟨w.heap.size, 1, none⟩) (by show w.heap.size < _; omega)).trans r1'
            have rf : ∀ o, w2.frozen? ⟨w.heap.size, o, none⟩ = false := fun o => (hb2.frozen (p := ⟨w.heap.size, o, none⟩) (by show w.heap.size < _; omega)).trans (rf' o)
            have HBW2 : Hid (Below w.heap.size w w2) := HBW1.out.trans (hb2.mono (by omega))
            have HN0 : Hid (∀ P : Prop, Fl.nodeOf (j - 1) ws = (if pk < 0 then none else match ov with
                | none => none
                | some v => if Fl.fields pk < 0 then some ⟨pk, v.getD 0 0, 0, 0, 0, v.drop 1⟩ else if (v.length : Int) ≠ 1 + Fl.fields pk then none else some ⟨pk, v.getD 0 0, v.getD 1 0, v.getD 2 0, v.getD 3 0, []⟩)) := by
              intro _
              unfold Fl.nodeOf
              rw [if_neg (by rintro (h | h); exact h3 h; exact h (by rw [← HX0.out]; exact HDK.out)), ← HX1.out, ← HPK.out, ← HOV.out]; rfl
            clear hb2 q0' q1' qf' r0' r1' rf' c0 c1 HIN HPL HDC
            by_cases hpk : pk < 0
            · obtain ⟨vao, vcap, rfl⟩ := own_shape6 ho2
              have HE : Hid (((Fl.readText s).2 : Int) = (j : Int) + 1) := HBAD.out (by rw [HN0.out True, if_pos hpk])
              go_wp2
              obtain ⟨t0, t1⟩ := two_same (w1 := w2) (B := w.heap.size) (.slice lao ls.length lcap) (.slice nao acc.length ncap) r0 r1
              exact bodyPost_ret (v := .tuple #[.agg #[.slice lao ls.length lcap, .slice nao acc.length ncap], .int .i64 ((j : Int) + 1)]) (by simp [results, Tryz.results11, go_sem, t0, t1]) rfl (BytEnds.bad HE.out (by omega) ((HBW2.out.setCell (by simp) _).setCell (by simp) _))
            · cases ov with
              | none =>
                obtain ⟨vao, vcap, rfl⟩ := own_shape6 ho2
                have HE : Hid (((Fl.readText s).2 : Int) = (j : Int) + 1) := HBAD.out (by rw [HN0.out True, if_neg hpk])
                have hpk' : 0 ≤ pk := by omega
                clear ho2
                go_wp2
                obtain ⟨t0, t1⟩ := two_same (w1 := w2) (B := w.heap.size) (.slice lao ls.length lcap) (.slice nao acc.length ncap) r0 r1
                exact bodyPost_ret (v := .tuple #[.agg #[.slice lao ls.length lcap, .slice nao acc.length ncap], .int .i64 ((j : Int) + 1)]) (by simp [results, Tryz.results11, go_sem, t0, t1]) rfl (BytEnds.bad HE.out (by omega) ((HBW2.out.setCell (by simp) _).setCell (by simp) _))
              | some vs =>
                have hpk' : 0 ≤ pk := by omega
                simp only [Option.getD_some] at ho2 HO2
                have hvl : vs.length = ws.length - 2 := by
                  have := Fl.intsOf_len (ws.drop 2) vs HOV.out.symm
                  rwa [List.length_drop] at this
                have hv1 : 1 ≤ vs.length := by omega
                have hv2 : vs.length ≤ 40001 := by omega
                obtain ⟨gv, vcap, rfl, hgv, hgv2⟩ := own_strs ho2 (by omega)
                have hvc : vs.length ≤ vcap ∧ vcap ≤ 9223372036854775807 := by
                  rcases ho2.2 with ⟨hh, _⟩ | ⟨g', cap', cur, hh, _, _, h4, hcm, _⟩
                  · cases hh
                  · simp only [Value.slice.injEq] at hh; rw [hh.2.2]; exact ⟨by omega, hcm⟩
                obtain ⟨hvc1, hvc2⟩ := hvc
                have HVC : Hid (∀ i, i < vs.length → w2.cell? ⟨gv, i, none⟩ = some (.int .i64 (vs.getD i 0))) := fun i hi => by
                  have h1 := ho2.cells (g := gv) rfl i (.int .i64 (vs.getD i 0)) (by simp [List.getD_eq_getElem?_getD, hi])
                  have h2 : (⟨gv, 0, none⟩ : Addr).add i = ⟨gv, i, none⟩ := by unfold Addr.add; split <;> simp_all
                  rw [h2] at h1; exact h1
                have v0 := HVC.out 0 (by omega)
                obtain ⟨y0, hy0⟩ : ∃ y0, y0 = vs.getD 0 0 := ⟨_, rfl⟩
                rw [← hy0] at v0
                have HY0 : Hid (y0 = vs.getD 0 0) := hy0
                have HVL : Hid (vs.length = ws.length - 2) := hvl
                have hpl : pk < 8 := by rw [HPK.out]; exact place_lt x1
                obtain ⟨f, hf⟩ : ∃ f, Fl.fields pk = f := ⟨_, rfl⟩
                have hfc : f = -1 ∨ f = 1 ∨ f = 2 ∨ f = 3 := by
                  rw [← hf]
                  rcases (show pk = 0 ∨ pk = 1 ∨ pk = 2 ∨ pk = 3 ∨ pk = 4 ∨ pk = 5 ∨ pk = 6 ∨ pk = 7 by omega) with rfl | rfl | rfl | rfl | rfl | rfl | rfl | rfl <;> decide
                have HFD : Hid (Calls Tryz.prog 21 #[.int .i64 pk] (w2.alloc (.cells #[.int .i64 pk, .int .i64 y0, .int .i64 0, .int .i64 0, .int .i64 0, .slice none 0 0] 53)) fun e w' => e = .returned (.int .i64 f) ∧ w' = (w2.alloc (.cells #[.int .i64 pk, .int .i64 y0, .int .i64 0, .int .i64 0, .int .i64 0, .slice none 0 0] 53))) := by
                  have := fields_any pk (w2.alloc (.cells #[.int .i64 pk, .int .i64 y0, .int .i64 0, .int .i64 0, .int .i64 0, .slice none 0 0] 53))
                  rw [hf] at this; exact this
                have HFF : Hid (Fl.fields pk = f) := hf
                have hz2 : w.heap.size + 1 < w2.heap.size := by omega
                have hz20 : w.heap.size < w2.heap.size := by omega
                have hgv3 : gv ≠ w2.heap.size := by omega
                clear hvl hy0 hf ho2 hpk
                rcases hfc with rfl | hfc
                · have HND : Hid (Fl.nodeOf (j - 1) ws = some ⟨pk, y0, 0, 0, 0, vs.drop 1⟩) := by
                    show _ = _
                    rw [HN0.out True, if_neg (by omega)]; simp only
                    rw [HFF.out, if_pos (by decide), HY0.out]
                  by_cases hvc3 : vcap = 1
                  · subst hvc3
                    have hvs1 : vs.length = 1 := by omega
                    have HV1 : Hid (vs.length = 1) := hvs1
                    clear hvs1
                    have HBA : Hid (Below wr.heap.size wr ((w2.alloc (.cells #[.int .i64 pk, .int .i64 y0, .int .i64 0, .int .i64 0, .int .i64 0, .slice (some ⟨gv, 0, none⟩) 0 0] 53)).alloc (.cells #[.int .i64 pk, .int .i64 y0, .int .i64 0, .int .i64 0, .int .i64 0, .slice (some ⟨gv, 0, none⟩) 0 0] 53))) :=
                      ((HB1.out.trans (HB2.out.mono (by omega))).alloc (by omega) _).alloc (by simp; omega) _
                    have HIA : Hid (IntsAt ((w2.alloc (.cells #[.int .i64 pk, .int .i64 y0, .int .i64 0, .int .i64 0, .int .i64 0, .slice (some ⟨gv, 0, none⟩) 0 0] 53)).alloc (.cells #[.int .i64 pk, .int .i64 y0, .int .i64 0, .int .i64 0, .int .i64 0, .slice (some ⟨gv, 0, none⟩) 0 0] 53)).heap.size ((w2.alloc (.cells #[.int .i64 pk, .int .i64 y0, .int .i64 0, .int .i64 0, .int .i64 0, .slice (some ⟨gv, 0, none⟩) 0 0] 53)).alloc (.cells #[.int .i64 pk, .int .i64 y0, .int .i64 0, .int .i64 0, .int .i64 0, .slice (some ⟨gv, 0, none⟩) 0 0] 53)) (.slice (some ⟨gv, 0, none⟩) 0 0) (vs.drop 1)) :=
                      ints_none0 HV1.out
                    go_wp2_with (first | (go_at_call 21; refine (HFD.out).mono ?_; rintro e w' ⟨rfl, rfl⟩) | (at_builtin; refine wpList_append_node rfl (.tmp 151) (.tmp 153) rfl (w.heap.size + 1 + 1) _ acc lvs rfl (HR.out.hg.below HBA.out).hn (w2.heap.size + 1) ⟨pk, y0, 0, 0, 0, vs.drop 1⟩ (some ⟨gv, 0, none⟩) 0 0 rfl ?n1 (by omega) ?n2 ?_))
                    case n1 =>
                      intro i u hi
                      have h := World.cell?_alloc_new (w2.alloc (.cells #[.int .i64 pk, .int .i64 y0, .int .i64 0, .int .i64 0, .int .i64 0, .slice (some ⟨gv, 0, none⟩) 0 0] 53)) #[.int .i64 pk, .int .i64 y0, .int .i64 0, .int .i64 0, .int .i64 0, .slice (some ⟨gv, 0, none⟩) 0 0] 53 i
                      rw [World.size_alloc] at h
                      rw [h]; simpa [nodeCells] using hi
                    case n2 => simp; omega
                    intro v3 w3 ho3 hg3 hw3
                    obtain ⟨z1, zf⟩ := HR.out.still HBA.out hg3
                    have HNX : Hid (BytRel lines W3 (w3.setCell ⟨w.heap.size + 1, 1, none⟩ v3) (w.heap.size + 1) (j + 1) ls (.slice lao ls.length lcap) v3 (acc ++ [⟨pk, y0, 0, 0, 0, vs.drop 1⟩]) (lvs ++ [.slice (some ⟨gv, 0, none⟩) 0 0])) :=
                      HR.out.nextJ HJ.out HBA.out HIA.out (fun b hb => by simp [Value.ownBlock] at hb; omega) ho3 hg3 (by simp only [World.size_alloc]; exact hw3) hj1 HX.out HWS.out HND.out
                    obtain ⟨zao, zcap, rfl⟩ := own_shape6 ho3
                    clear ho3 hg3 hw3 HBA HIA q0 q1 qf r0 r1 rf v0
                    go_wp2
                    go_roundw
                    case rel => exact ⟨j + 1, _, _, _, _, _, by go_num, HNX.out⟩
                    case measure => simp [intOf]; omega
                  · have hvc4 : 1 < vcap := by omega
                    have HBA : Hid (Below wr.heap.size wr ((w2.alloc (.cells #[.int .i64 pk, .int .i64 y0, .int .i64 0, .int .i64 0, .int .i64 0, .slice (some ⟨gv, 1, none⟩) (vs.length - 1) (vcap - 1)] 53)).alloc (.cells #[.int .i64 pk, .int .i64 y0, .int .i64 0, .int .i64 0, .int .i64 0, .slice (some ⟨gv, 1, none⟩) (vs.length - 1) (vcap - 1)] 53))) :=
                      ((HB1.out.trans (HB2.out.mono (by omega))).alloc (by omega) _).alloc (by simp; omega) _
                    have HIA : Hid (IntsAt ((w2.alloc (.cells #[.int .i64 pk, .int .i64 y0, .int .i64 0, .int .i64 0, .int .i64 0, .slice (some ⟨gv, 1, none⟩) (vs.length - 1) (vcap - 1)] 53)).alloc (.cells #[.int .i64 pk, .int .i64 y0, .int .i64 0, .int .i64 0, .int .i64 0, .slice (some ⟨gv, 1, none⟩) (vs.length - 1) (vcap - 1)] 53)).heap.size ((w2.alloc (.cells #[.int .i64 pk, .int .i64 y0, .int .i64 0, .int .i64 0, .int .i64 0, .slice (some ⟨gv, 1, none⟩) (vs.length - 1) (vcap - 1)] 53)).alloc (.cells #[.int .i64 pk, .int .i64 y0, .int .i64 0, .int .i64 0, .int .i64 0, .slice (some ⟨gv, 1, none⟩) (vs.length - 1) (vcap - 1)] 53)) (.slice (some ⟨gv, 1, none⟩) (vs.length - 1) (vcap - 1)) (vs.drop 1)) :=
                      ints_tail HVC.out (((Below.refl _ _).alloc (Nat.le_refl _) _).alloc (by simp) _) hgv2 hv1 hvc1 (by omega)
                    clear hvc3
                    go_wp2_with (first | (go_at_call 21; refine (HFD.out).mono ?_; rintro e w' ⟨rfl, rfl⟩) | (at_builtin; refine wpList_append_node rfl (.tmp 151) (.tmp 153) rfl (w.heap.size + 1 + 1) _ acc lvs rfl (HR.out.hg.below HBA.out).hn (w2.heap.size + 1) ⟨pk, y0, 0, 0, 0, vs.drop 1⟩ (some ⟨gv, 1, none⟩) (vs.length - 1) (vcap - 1) rfl ?n1 (by omega) ?n2 ?_))
                    case n1 =>
                      intro i u hi
                      have h := World.cell?_alloc_new (w2.alloc (.cells #[.int .i64 pk, .int .i64 y0, .int .i64 0, .int .i64 0, .int .i64 0, .slice (some ⟨gv, 1, none⟩) (vs.length - 1) (vcap - 1)] 53)) #[.int .i64 pk, .int .i64 y0, .int .i64 0, .int .i64 0, .int .i64 0, .slice (some ⟨gv, 1, none⟩) (vs.length - 1) (vcap - 1)] 53 i
                      rw [World.size_alloc] at h
                      rw [h]; simpa [nodeCells] using hi
                    case n2 => simp; omega
                    intro v3 w3 ho3 hg3 hw3
                    obtain ⟨z1, zf⟩ := HR.out.still HBA.out hg3
                    have HNX : Hid (BytRel lines W3 (w3.setCell ⟨w.heap.size + 1, 1, none⟩ v3) (w.heap.size + 1) (j + 1) ls (.slice lao ls.length lcap) v3 (acc ++ [⟨pk, y0, 0, 0, 0, vs.drop 1⟩]) (lvs ++ [.slice (some ⟨gv, 1, none⟩) (vs.length - 1) (vcap - 1)])) :=
                      HR.out.nextJ HJ.out HBA.out HIA.out (fun b hb => by simp [Value.ownBlock] at hb; omega) ho3 hg3 (by simp only [World.size_alloc]; exact hw3) hj1 HX.out HWS.out HND.out
                    obtain ⟨zao, zcap, rfl⟩ := own_shape6 ho3
                    clear ho3 hg3 hw3 HBA HIA q0 q1 qf r0 r1 rf v0
                    go_wp2
                    go_roundw
                    case rel => exact ⟨j + 1, _, _, _, _, _, by go_num, HNX.out⟩
                    case measure => simp [intOf]; omega
                · obtain ⟨i0, hi, hz0, hz1', hz2'⟩ := info_parts Tryz.infoInt
                  rcases hfc with rfl | rfl | rfl
                  · by_cases hlen : vs.length = 2
                    · obtain ⟨a1, rfl⟩ : ∃ a1, vs = [y0, a1] := by
                        have h5 := HY0.out
                        match vs, hlen, h5 with
                        | [_, a1], _, h => exact ⟨a1, by rw [h]; rfl⟩
                      clear hlen
                      have HND : Hid (Fl.nodeOf (j - 1) ws = some ⟨pk, y0, a1, 0, 0, []⟩) := by
                        show _ = _
                        rw [HN0.out True, if_neg (by omega)]; simp only
                        rw [HFF.out, if_neg (by decide), if_neg (by simp)]; rfl
                      have hgv4 : w1.heap.size ≤ gv := hgv
                      go_wp2_with (first | (go_at_call 21; refine (HFD.out).mono ?_; rintro e w' ⟨rfl, rfl⟩) | (at_builtin; refine wpList_append_at _ rfl (.tmp 131) (.tmp 132) 29 rfl w1.heap.size 3 i0 (.int .i64 0) 1 8 Tryz.underlying29 hi hz0 hz1' hz2' rfl (by decide) _ _ _ rfl ((HO2.out.alloc _).alloc _) ⟨_, 0, none⟩ 2 2 [.int .i64 0, .int .i64 0] rfl rfl (by decide) ?m1 ?m2 ?m3 ?m4 ?m5 ?_))
                      case m1 =>
                        intro i u hi
                        have h := World.cell?_alloc_new (w2.alloc (.cells #[.int .i64 pk, .int .i64 y0, .int .i64 0, .int .i64 0, .int .i64 0, .slice none 0 0] 53)) #[.int .i64 0, .int .i64 0] 3 i
                        rw [World.size_alloc] at h
                        have h2 : (⟨w2.heap.size + 1, 0, none⟩ : Addr).add i = ⟨w2.heap.size + 1, i, none⟩ := by unfold Addr.add; split <;> simp_all
                        rw [h2, h]; simpa using hi
                      case m2 => intro u hu; simp only [List.mem_cons, List.not_mem_nil, or_false, or_self] at hu; subst hu; rfl
                      case m3 => simp [maxLen]
                      case m4 => simp
                      case m5 => simp; omega
                      intro v4 w4 ho4 hg4 hw4
                      obtain ⟨g4, c4, rfl, hg4b, hg4l⟩ := own_strs ho4 (by simp)
                      have hv4 : ∀ i u, ([y0, a1].map (Value.int .i64) ++ [.int .i64 0, .int .i64 0])[i]? = some u → w4.cell? ⟨g4, i, none⟩ = some u := fun i u hi => by
                        have h1 := ho4.cells (g := g4) rfl i u hi
                        have h2 : (⟨g4, 0, none⟩ : Addr).add i = ⟨g4, i, none⟩ := by unfold Addr.add; split <;> simp_all
                        rw [h2] at h1; exact h1
                      have v1 : w4.cell? ⟨g4, 1, none⟩ = some (.int .i64 a1) := hv4 1 _ rfl
                      have hg4n : g4 ≠ w2.heap.size := by
                        rcases hw4 with h | h
                        · simp [Value.ownBlock] at h; omega
                        · simp [Value.ownBlock] at h; omega
                      have hc4 : 4 ≤ c4 := by
                        rcases ho4.2 with ⟨hh, _⟩ | ⟨g', cap', cur, hh, _, _, h4, hcm, _⟩
                        · cases hh
                        · simp only [Value.slice.injEq] at hh; rw [hh.2.2]; first | omega | (simp at h4; omega)
                      have hnn : some w2.heap.size ≠ (Value.slice (some ⟨gv, 0, none⟩) [y0, a1].length vcap).ownBlock := by simp [Value.ownBlock]; omega
                      have hqn : some (w.heap.size + 1) ≠ (Value.slice (some ⟨gv, 0, none⟩) [y0, a1].length vcap).ownBlock := by simp [Value.ownBlock]; omega
                      have hnc : ∀ i u, #[.int .i64 pk, .int .i64 y0, .int .i64 0, .int .i64 0, .int .i64 0, .slice none 0 0][i]? = some u → w4.cell? ⟨w2.heap.size, i, none⟩ = some u := fun i u hi => by
                        refine hg4.cell ?_ hnn
                        refine (World.cell?_alloc_lt _ _ _ (by simp)).trans ?_
                        rw [World.cell?_alloc_new]; exact hi
                      have x0' := hnc 0 _ rfl
                      have x1' := hnc 1 _ rfl
                      have x2' := hnc 2 _ rfl
                      have x3' := hnc 3 _ rfl
                      have x4' := hnc 4 _ rfl
                      have x5' := hnc 5 _ rfl
                      have xf : ∀ o, w4.frozen? ⟨w2.heap.size, o, none⟩ = false := fun o => by
                        refine (World.frozen?_of_block (hg4.block w2.heap.size (by simp; omega) hnn)).trans ?_
                        rw [World.frozen?, Deep.blk_alloc_lt _ _ _ (by simp), heap_alloc_new]; simp
                      have y1 : w4.cell? ⟨w.heap.size + 1, 1, none⟩ = some (.slice nao acc.length ncap) := by
                        refine hg4.cell ?_ hqn
                        exact (World.cell?_alloc_lt _ _ _ (by simp; omega)).trans ((World.cell?_alloc_lt _ _ _ hz2).trans q1)
                      have hs4 : w2.heap.size + 2 ≤ w4.heap.size := by have := hg4.size; simp only [World.size_alloc] at this; omega
                      have HB4 : Hid (Below wr.heap.size wr w4) := (((HB1.out.trans (HB2.out.mono (by omega))).alloc (by omega) _).alloc (by simp; omega) _).grown hg4 (by simp; omega) (fun g hg => by simp [Value.ownBlock] at hg; omega)
                      have HBA : Hid (Below wr.heap.size wr ((w4.setCell ⟨w2.heap.size, 2, none⟩ (.int .i64 a1)).alloc (.cells #[.int .i64 pk, .int .i64 y0, .int .i64 a1, .int .i64 0, .int .i64 0, .slice none 0 0] 53))) := (HB4.out.setCell (by show wr.heap.size ≤ w2.heap.size; omega) _).alloc (by simp [World.setCell]; omega) _
                      have hne : w.heap.size + 1 ≠ w2.heap.size := by omega
                      have hn4 : w2.heap.size < w4.heap.size := by omega
                      clear ho4 hg4 hw4 hv4 hnc q0 q1 qf r0 r1 rf v0 HFD HO2 HVC hnn hqn
                      go_wp2_with (at_builtin; refine wpList_append_node rfl (.tmp 151) (.tmp 153) rfl (w.heap.size + 1 + 1) _ acc lvs rfl (HR.out.hg.below HBA.out).hn w4.heap.size ⟨pk, y0, a1, 0, 0, []⟩ none 0 0 rfl ?n1 (by omega) ?n2 ?_)
                      case n1 =>
                        intro i u hi
                        have h := World.cell?_alloc_new (w4.setCell ⟨w2.heap.size, 2, none⟩ (.int .i64 a1)) #[.int .i64 pk, .int .i64 y0, .int .i64 a1, .int .i64 0, .int .i64 0, .slice none 0 0] 53 i
                        rw [show (w4.setCell ⟨w2.heap.size, 2, none⟩ (.int .i64 a1)).heap.size = w4.heap.size from by simp [World.setCell]] at h
                        rw [h]; simpa [nodeCells] using hi
                      case n2 => simp [World.setCell]; omega
                      intro v3 w3 ho3 hg3 hw3
                      obtain ⟨z1, zf⟩ := HR.out.still HBA.out hg3
                      have HNX : Hid (BytRel lines W3 (w3.setCell ⟨w.heap.size + 1, 1, none⟩ v3) (w.heap.size + 1) (j + 1) ls (.slice lao ls.length lcap) v3 (acc ++ [⟨pk, y0, a1, 0, 0, []⟩]) (lvs ++ [.slice none 0 0])) :=
                        HR.out.nextJ HJ.out HBA.out (IntsAt.nil _ _) (fun b hb => by simp [Value.ownBlock] at hb) ho3 hg3 (by simpa [World.setCell] using hw3) hj1 HX.out HWS.out HND.out
                      obtain ⟨zao, zcap, rfl⟩ := own_shape6 ho3
                      clear ho3 hg3 hw3 HBA x0' x1' x2' x3' x4' x5' xf y1
                      go_wp2
                      go_roundw
                      case rel => exact ⟨j + 1, _, _, _, _, _, by go_num, HNX.out⟩
                      case measure => simp [intOf]; omega
                    · have b4 : ((vs.length : Int) == 2) = false := by rw [beq_eq_false_iff_ne]; omega
                      have HE : Hid (((Fl.readText s).2 : Int) = (j : Int) + 1) := HBAD.out (by
                        rw [HN0.out True, if_neg (by omega)]; simp only
                        rw [HFF.out, if_neg (by decide), if_pos (by omega)])
                      have HR0 : Hid (w2.cell? ⟨w.heap.size, 0, none⟩ = some (.slice none 0 0) ∧ w2.cell? ⟨w.heap.size, 1, none⟩ = some (.slice none 0 0)) := ⟨r0, r1⟩
                      clear hlen
                      go_wp2_with (go_at_call 21; refine (HFD.out).mono ?_; rintro e w' ⟨rfl, rfl⟩)
                      obtain ⟨t0, t1⟩ := two_same (w1 := w2) (B := w.heap.size) (.slice lao ls.length lcap) (.slice nao acc.length ncap) HR0.out.1 HR0.out.2
                      have u1 : (((w2.setCell ⟨w.heap.size, 0, none⟩ (.slice lao ls.length lcap)).setCell ⟨w.heap.size, 1, none⟩ (.slice nao acc.length ncap)).alloc (.cells #[.int .i64 pk, .int .i64 y0, .int .i64 0, .int .i64 0, .int .i64 0, .slice none 0 0] 53)).cell? ⟨w.heap.size, 1, none⟩ = some (.slice nao acc.length ncap) := (World.cell?_alloc_lt _ _ _ (by simp [World.setCell]; exact hz20)).trans t1
                      have u0 : (((w2.setCell ⟨w.heap.size, 0, none⟩ (.slice lao ls.length lcap)).setCell ⟨w.heap.size, 1, none⟩ (.slice nao acc.length ncap)).alloc (.cells #[.int .i64 pk, .int .i64 y0, .int .i64 0, .int .i64 0, .int .i64 0, .slice none 0 0] 53)).cell? ⟨w.heap.size, 0, none⟩ = some (.slice lao ls.length lcap) := (World.cell?_alloc_lt _ _ _ (by simp [World.setCell]; exact hz20)).trans ((cell_off (by decide)).trans t0)
                      exact bodyPost_ret (v := .tuple #[.agg #[.slice lao ls.length lcap, .slice nao acc.length ncap], .int .i64 ((j : Int) + 1)]) (by simp [results, Tryz.results11, go_sem, u0, u1]) rfl (BytEnds.bad HE.out (by omega) (((HBW2.out.setCell (by simp) _).setCell (by simp) _).alloc (by simp [World.setCell]; omega) _))
                  · by_cases hlen : vs.length = 3
                    · obtain ⟨a1, a2, rfl⟩ : ∃ a1 a2, vs = [y0, a1, a2] := by
                        have h5 := HY0.out
                        match vs, hlen, h5 with
                        | [_, a1, a2], _, h => exact ⟨a1, a2, by rw [h]; rfl⟩
                      clear hlen
                      have HND : Hid (Fl.nodeOf (j - 1) ws = some ⟨pk, y0, a1, a2, 0, []⟩) := by
                        show _ = _
                        rw [HN0.out True, if_neg (by omega)]; simp only
                        rw [HFF.out, if_neg (by decide), if_neg (by simp)]; rfl
                      have hgv4 : w1.heap.size ≤ gv := hgv
                      go_wp2_with (first | (go_at_call 21; refine (HFD.out).mono ?_; rintro e w' ⟨rfl, rfl⟩) | (at_builtin; refine wpList_append_at _ rfl (.tmp 131) (.tmp 132) 29 rfl w1.heap.size 3 i0 (.int .i64 0) 1 8 Tryz.underlying29 hi hz0 hz1' hz2' rfl (by decide) _ _ _ rfl ((HO2.out.alloc _).alloc _) ⟨_, 0, none⟩ 2 2 [.int .i64 0, .int .i64 0] rfl rfl (by decide) ?m1 ?m2 ?m3 ?m4 ?m5 ?_))
                      case m1 =>
                        intro i u hi
                        have h := World.cell?_alloc_new (w2.alloc (.cells #[.int .i64 pk, .int .i64 y0, .int .i64 0, .int .i64 0, .int .i64 0, .slice none 0 0] 53)) #[.int .i64 0, .int .i64 0] 3 i
                        rw [World.size_alloc] at h
                        have h2 : (⟨w2.heap.size + 1, 0, none⟩ : Addr).add i = ⟨w2.heap.size + 1, i, none⟩ := by unfold Addr.add; split <;> simp_all
                        rw [h2, h]; simpa using hi
                      case m2 => intro u hu; simp only [List.mem_cons, List.not_mem_nil, or_false, or_self] at hu; subst hu; rfl
                      case m3 => simp [maxLen]
                      case m4 => simp
                      case m5 => simp; omega
                      intro v4 w4 ho4 hg4 hw4
                      obtain ⟨g4, c4, rfl, hg4b, hg4l⟩ := own_strs ho4 (by simp)
                      have hv4 : ∀ i u, ([y0, a1, a2].map (Value.int .i64) ++ [.int .i64 0, .int .i64 0])[i]? = some u → w4.cell? ⟨g4, i, none⟩ = some u := fun i u hi => by
                        have h1 := ho4.cells (g := g4) rfl i u hi
                        have h2 : (⟨g4, 0, none⟩ : Addr).add i = ⟨g4, i, none⟩ := by unfold Addr.add; split <;> simp_all
                        rw [h2] at h1; exact h1
                      have v1 : w4.cell? ⟨g4, 1, none⟩ = some (.int .i64 a1) := hv4 1 _ rfl
                      have v2 : w4.cell? ⟨g4, 2, none⟩ = some (.int .i64 a2) := hv4 2 _ rfl
                      have hg4n : g4 ≠ w2.heap.size := by
                        rcases hw4 with h | h
                        · simp [Value.ownBlock] at h; omega
                        · simp [Value.ownBlock] at h; omega
                      have hc4 : 4 ≤ c4 := by
                        rcases ho4.2 with ⟨hh, _⟩ | ⟨g', cap', cur, hh, _, _, h4, hcm, _⟩
                        · cases hh
                        · simp only [Value.slice.injEq] at hh; rw [hh.2.2]; first | omega | (simp at h4; omega)
                      have hnn : some w2.heap.size ≠ (Value.slice (some ⟨gv, 0, none⟩) [y0, a1, a2].length vcap).ownBlock := by simp [Value.ownBlock]; omega
                      have hqn : some (w.heap.size + 1) ≠ (Value.slice (some ⟨gv, 0, none⟩) [y0, a1, a2].length vcap).ownBlock := by simp [Value.ownBlock]; omega
                      have hnc : ∀ i u, #[.int .i64 pk, .int .i64 y0, .int .i64 0, .int .i64 0, .int .i64 0, .slice none 0 0][i]? = some u → w4.cell? ⟨w2.heap.size, i, none⟩ = some u := fun i u hi => by
                        refine hg4.cell ?_ hnn
                        refine (World.cell?_alloc_lt _ _ _ (by simp)).trans ?_
                        rw [World.cell?_alloc_new]; exact hi
                      have x0' := hnc 0 _ rfl
                      have x1' := hnc 1 _ rfl
                      have x2' := hnc 2 _ rfl
                      have x3' := hnc 3 _ rfl
                      have x4' := hnc 4 _ rfl
                      have x5' := hnc 5 _ rfl
                      have xf : ∀ o, w4.frozen? ⟨w2.heap.size, o, none⟩ = false := fun o => by
                        refine (World.frozen?_of_block (hg4.block w2.heap.size (by simp; omega) hnn)).trans ?_
                        rw [World.frozen?, Deep.blk_alloc_lt _ _ _ (by simp), heap_alloc_new]; simp
                      have y1 : w4.cell? ⟨w.heap.size + 1, 1, none⟩ = some (.slice nao acc.length ncap) := by
                        refine hg4.cell ?_ hqn
                        exact (World.cell?_alloc_lt _ _ _ (by simp; omega)).trans ((World.cell?_alloc_lt _ _ _ hz2).trans q1)
                      have hs4 : w2.heap.size + 2 ≤ w4.heap.size := by have := hg4.size; simp only [World.size_alloc] at this; omega
                      have HB4 : Hid (Below wr.heap.size wr w4) := (((HB1.out.trans (HB2.out.mono (by omega))).alloc (by omega) _).alloc (by simp; omega) _).grown hg4 (by simp; omega) (fun g hg => by simp [Value.ownBlock] at hg; omega)
                      have HBA : Hid (Below wr.heap.size wr (((w4.setCell ⟨w2.heap.size, 2, none⟩ (.int .i64 a1)).setCell ⟨w2.heap.size, 3, none⟩ (.int .i64 a2)).alloc (.cells #[.int .i64 pk, .int .i64 y0, .int .i64 a1, .int .i64 a2, .int .i64 0, .slice none 0 0] 53))) := ((HB4.out.setCell (by show wr.heap.size ≤ w2.heap.size; omega) _).setCell (by show wr.heap.size ≤ w2.heap.size; omega) _).alloc (by simp [World.setCell]; omega) _
                      have hne : w.heap.size + 1 ≠ w2.heap.size := by omega
                      have hn4 : w2.heap.size < w4.heap.size := by omega
                      clear ho4 hg4 hw4 hv4 hnc q0 q1 qf r0 r1 rf v0 HFD HO2 HVC hnn hqn
                      go_wp2_with (at_builtin; refine wpList_append_node rfl (.tmp 151) (.tmp 153) rfl (w.heap.size + 1 + 1) _ acc lvs rfl (HR.out.hg.below HBA.out).hn w4.heap.size ⟨pk, y0, a1, a2, 0, []⟩ none 0 0 rfl ?n1 (by omega) ?n2 ?_)
                      case n1 =>
                        intro i u hi
                        have h := World.cell?_alloc_new ((w4.setCell ⟨w2.heap.size, 2, none⟩ (.int .i64 a1)).setCell ⟨w2.heap.size, 3, none⟩ (.int .i64 a2)) #[.int .i64 pk, .int .i64 y0, .int .i64 a1, .int .i64 a2, .int .i64 0, .slice none 0 0] 53 i
                        rw [show ((w4.setCell ⟨w2.heap.size, 2, none⟩ (.int .i64 a1)).setCell ⟨w2.heap.size, 3, none⟩ (.int .i64 a2)).heap.size = w4.heap.size from by simp [World.setCell]] at h
                        rw [h]; simpa [nodeCells] using hi
                      case n2 => simp [World.setCell]; omega
                      intro v3 w3 ho3 hg3 hw3
                      obtain ⟨z1, zf⟩ := HR.out.still HBA.out hg3
                      have HNX : Hid (BytRel lines W3 (w3.setCell ⟨w.heap.size + 1, 1, none⟩ v3) (w.heap.size + 1) (j + 1) ls (.slice lao ls.length lcap) v3 (acc ++ [⟨pk, y0, a1, a2, 0, []⟩]) (lvs ++ [.slice none 0 0])) :=
                        HR.out.nextJ HJ.out HBA.out (IntsAt.nil _ _) (fun b hb => by simp [Value.ownBlock] at hb) ho3 hg3 (by simpa [World.setCell] using hw3) hj1 HX.out HWS.out HND.out
                      obtain ⟨zao, zcap, rfl⟩ := own_shape6 ho3
                      clear ho3 hg3 hw3 HBA x0' x1' x2' x3' x4' x5' xf y1
                      go_wp2
                      go_roundw
                      case rel => exact ⟨j + 1, _, _, _, _, _, by go_num, HNX.out⟩
                      case measure => simp [intOf]; omega
                    · have b4 : ((vs.length : Int) == 3) = false := by rw [beq_eq_false_iff_ne]; omega
                      have HE : Hid (((Fl.readText s).2 : Int) = (j : Int) + 1) := HBAD.out (by
                        rw [HN0.out True, if_neg (by omega)]; simp only
                        rw [HFF.out, if_neg (by decide), if_pos (by omega)])
                      have HR0 : Hid (w2.cell? ⟨w.heap.size, 0, none⟩ = some (.slice none 0 0) ∧ w2.cell? ⟨w.heap.size, 1, none⟩ = some (.slice none 0 0)) := ⟨r0, r1⟩
                      clear hlen
                      go_wp2_with (go_at_call 21; refine (HFD.out).mono ?_; rintro e w' ⟨rfl, rfl⟩)
                      obtain ⟨t0, t1⟩ := two_same (w1 := w2) (B := w.heap.size) (.slice lao ls.length lcap) (.slice nao acc.length ncap) HR0.out.1 HR0.out.2
                      have u1 : (((w2.setCell ⟨w.heap.size, 0, none⟩ (.slice lao ls.length lcap)).setCell ⟨w.heap.size, 1, none⟩ (.slice nao acc.length ncap)).alloc (.cells #[.int .i64 pk, .int .i64 y0, .int .i64 0, .int .i64 0, .int .i64 0, .slice none 0 0] 53)).cell? ⟨w.heap.size, 1, none⟩ = some (.slice nao acc.length ncap) := (World.cell?_alloc_lt _ _ _ (by simp [World.setCell]; exact hz20)).trans t1
                      have u0 : (((w2.setCell ⟨w.heap.size, 0, none⟩ (.slice lao ls.length lcap)).setCell ⟨w.heap.size, 1, none⟩ (.slice nao acc.length ncap)).alloc (.cells #[.int .i64 pk, .int .i64 y0, .int .i64 0, .int .i64 0, .int .i64 0, .slice none 0 0] 53)).cell? ⟨w.heap.size, 0, none⟩ = some (.slice lao ls.length lcap) := (World.cell?_alloc_lt _ _ _ (by simp [World.setCell]; exact hz20)).trans ((cell_off (by decide)).trans t0)
                      exact bodyPost_ret (v := .tuple #[.agg #[.slice lao ls.length lcap, .slice nao acc.length ncap], .int .i64 ((j : Int) + 1)]) (by simp [results, Tryz.results11, go_sem, u0, u1]) rfl (BytEnds.bad HE.out (by omega) (((HBW2.out.setCell (by simp) _).setCell (by simp) _).alloc (by simp [World.setCell]; omega) _))
                  · by_cases hlen : vs.length = 4
                    · obtain ⟨a1, a2, a3, rfl⟩ : ∃ a1 a2 a3, vs = [y0, a1, a2, a3] := by
                        have h5 := HY0.out
                        match vs, hlen, h5 with
                        | [_, a1, a2, a3], _, h => exact ⟨a1, a2, a3, by rw [h]; rfl⟩
                      clear hlen
                      have HND : Hid (Fl.nodeOf (j - 1) ws = some ⟨pk, y0, a1, a2, a3, []⟩) := by
                        show _ = _
                        rw [HN0.out True, if_neg (by omega)]; simp only
                        rw [HFF.out, if_neg (by decide), if_neg (by simp)]; rfl
                      have hgv4 : w1.heap.size ≤ gv := hgv
                      go_wp2_with (first | (go_at_call 21; refine (HFD.out).mono ?_; rintro e w' ⟨rfl, rfl⟩) | (at_builtin; refine wpList_append_at _ rfl (.tmp 131) (.tmp 132) 29 rfl w1.heap.size 3 i0 (.int .i64 0) 1 8 Tryz.underlying29 hi hz0 hz1' hz2' rfl (by decide) _ _ _ rfl ((HO2.out.alloc _).alloc _) ⟨_, 0, none⟩ 2 2 [.int .i64 0, .int .i64 0] rfl rfl (by decide) ?m1 ?m2 ?m3 ?m4 ?m5 ?_))
                      case m1 =>
                        intro i u hi
                        have h := World.cell?_alloc_new (w2.alloc (.cells #[.int .i64 pk, .int .i64 y0, .int .i64 0, .int .i64 0, .int .i64 0, .slice none 0 0] 53)) #[.int .i64 0, .int .i64 0] 3 i
                        rw [World.size_alloc] at h
                        have h2 : (⟨w2.heap.size + 1, 0, none⟩ : Addr).add i = ⟨w2.heap.size + 1, i, none⟩ := by unfold Addr.add; split <;> simp_all
                        rw [h2, h]; simpa using hi
                      case m2 => intro u hu; simp only [List.mem_cons, List.not_mem_nil, or_false, or_self] at hu; subst hu; rfl
                      case m3 => simp [maxLen]
                      case m4 => simp
                      case m5 => simp; omega
                      intro v4 w4 ho4 hg4 hw4
                      obtain ⟨g4, c4, rfl, hg4b, hg4l⟩ := own_strs ho4 (by simp)
                      have hv4 : ∀ i u, ([y0, a1, a2, a3].map (Value.int .i64) ++ [.int .i64 0, .int .i64 0])[i]? = some u → w4.cell? ⟨g4, i, none⟩ = some u := fun i u hi => by
                        have h1 := ho4.cells (g := g4) rfl i u hi
                        have h2 : (⟨g4, 0, none⟩ : Addr).add i = ⟨g4, i, none⟩ := by unfold Addr.add; split <;> simp_all
                        rw [h2] at h1; exact h1
                      have v1 : w4.cell? ⟨g4, 1, none⟩ = some (.int .i64 a1) := hv4 1 _ rfl
                      have v2 : w4.cell? ⟨g4, 2, none⟩ = some (.int .i64 a2) := hv4 2 _ rfl
                      have v3 : w4.cell? ⟨g4, 3, none⟩ = some (.int .i64 a3) := hv4 3 _ rfl
                      have hg4n : g4 ≠ w2.heap.size := by
                        rcases hw4 with h | h
                        · simp [Value.ownBlock] at h; omega
                        · simp [Value.ownBlock] at h; omega
                      have hc4 : 4 ≤ c4 := by
                        rcases ho4.2 with ⟨hh, _⟩ | ⟨g', cap', cur, hh, _, _, h4, hcm, _⟩
                        · cases hh
                        · simp only [Value.slice.injEq] at hh; rw [hh.2.2]; first | omega | (simp at h4; omega)
                      have hnn : some w2.heap.size ≠ (Value.slice (some ⟨gv, 0, none⟩) [y0, a1, a2, a3].length vcap).ownBlock := by simp [Value.ownBlock]; omega
                      have hqn : some (w.heap.size + 1) ≠ (Value.slice (some ⟨gv, 0, none⟩) [y0, a1, a2, a3].length vcap).ownBlock := by simp [Value.ownBlock]; omega
                      have hnc : ∀ i u, #[.int .i64 pk, .int .i64 y0, .int .i64 0, .int .i64 0, .int .i64 0, .slice none 0 0][i]? = some u → w4.cell? ⟨w2.heap.size, i, none⟩ = some u := fun i u hi => by
                        refine hg4.cell ?_ hnn
                        refine (World.cell?_alloc_lt _ _ _ (by simp)).trans ?_
                        rw [World.cell?_alloc_new]; exact hi
                      have x0' := hnc 0 _ rfl
                      have x1' := hnc 1 _ rfl
                      have x2' := hnc 2 _ rfl
                      have x3' := hnc 3 _ rfl
                      have x4' := hnc 4 _ rfl
                      have x5' := hnc 5 _ rfl
                      have xf : ∀ o, w4.frozen? ⟨w2.heap.size, o, none⟩ = false := fun o => by
                        refine (World.frozen?_of_block (hg4.block w2.heap.size (by simp; omega) hnn)).trans ?_
                        rw [World.frozen?, Deep.blk_alloc_lt _ _ _ (by simp), heap_alloc_new]; simp
                      have y1 : w4.cell? ⟨w.heap.size + 1, 1, none⟩ = some (.slice nao acc.length ncap) := by
                        refine hg4.cell ?_ hqn
                        exact (World.cell?_alloc_lt _ _ _ (by simp; omega)).trans ((World.cell?_alloc_lt _ _ _ hz2).trans q1)
                      have hs4 : w2.heap.size + 2 ≤ w4.heap.size := by have := hg4.size; simp only [World.size_alloc] at this; omega
                      have HB4 : Hid (Below wr.heap.size wr w4) := (((HB1.out.trans (HB2.out.mono (by omega))).alloc (by omega) _).alloc (by simp; omega) _).grown hg4 (by simp; omega) (fun g hg => by simp [Value.ownBlock] at hg; omega)
                      have HBA : Hid (Below wr.heap.size wr ((((w4.setCell ⟨w2.heap.size, 2, none⟩ (.int .i64 a1)).setCell ⟨w2.heap.size, 3, none⟩ (.int .i64 a2)).setCell ⟨w2.heap.size, 4, none⟩ (.int .i64 a3)).alloc (.cells #[.int .i64 pk, .int .i64 y0, .int .i64 a1, .int .i64 a2, .int .i64 a3, .slice none 0 0] 53))) := (((HB4.out.setCell (by show wr.heap.size ≤ w2.heap.size; omega) _).setCell (by show wr.heap.size ≤ w2.heap.size; omega) _).setCell (by show wr.heap.size ≤ w2.heap.size; omega) _).alloc (by simp [World.setCell]; omega) _
                      have hne : w.heap.size + 1 ≠ w2.heap.size := by omega
                      have hn4 : w2.heap.size < w4.heap.size := by omega
                      clear ho4 hg4 hw4 hv4 hnc q0 q1 qf r0 r1 rf v0 HFD HO2 HVC hnn hqn
                      go_wp2_with (at_builtin; refine wpList_append_node rfl (.tmp 151) (.tmp 153) rfl (w.heap.size + 1 + 1) _ acc lvs rfl (HR.out.hg.below HBA.out).hn w4.heap.size ⟨pk, y0, a1, a2, a3, []⟩ none 0 0 rfl ?n1 (by omega) ?n2 ?_)
                      case n1 =>
                        intro i u hi
                        have h := World.cell?_alloc_new (((w4.setCell ⟨w2.heap.size, 2, none⟩ (.int .i64 a1)).setCell ⟨w2.heap.size, 3, none⟩ (.int .i64 a2)).setCell ⟨w2.heap.size, 4, none⟩ (.int .i64 a3)) #[.int .i64 pk, .int .i64 y0, .int .i64 a1, .int .i64 a2, .int .i64 a3, .slice none 0 0] 53 i
                        rw [show (((w4.setCell ⟨w2.heap.size, 2, none⟩ (.int .i64 a1)).setCell ⟨w2.heap.size, 3, none⟩ (.int .i64 a2)).setCell ⟨w2.heap.size, 4, none⟩ (.int .i64 a3)).heap.size = w4.heap.size from by simp [World.setCell]] at h
                        rw [h]; simpa [nodeCells] using hi
                      case n2 => simp [World.setCell]; omega
                      intro v3 w3 ho3 hg3 hw3
                      obtain ⟨z1, zf⟩ := HR.out.still HBA.out hg3
                      have HNX : Hid (BytRel lines W3 (w3.setCell ⟨w.heap.size + 1, 1, none⟩ v3) (w.heap.size + 1) (j + 1) ls (.slice lao ls.length lcap) v3 (acc ++ [⟨pk, y0, a1, a2, a3, []⟩]) (lvs ++ [.slice none 0 0])) :=
                        HR.out.nextJ HJ.out HBA.out (IntsAt.nil _ _) (fun b hb => by simp [Value.ownBlock] at hb) ho3 hg3 (by simpa [World.setCell] using hw3) hj1 HX.out HWS.out HND.out
                      obtain ⟨zao, zcap, rfl⟩ := own_shape6 ho3
                      clear ho3 hg3 hw3 HBA x0' x1' x2' x3' x4' x5' xf y1
                      go_wp2
                      go_roundw
                      case rel => exact ⟨j + 1, _, _, _, _, _, by go_num, HNX.out⟩
                      case measure => simp [intOf]; omega
                    · have b4 : ((vs.length : Int) == 4) = false := by rw [beq_eq_false_iff_ne]; omega
                      have HE : Hid (((Fl.readText s).2 : Int) = (j : Int) + 1) := HBAD.out (by
                        rw [HN0.out True, if_neg (by omega)]; simp only
                        rw [HFF.out, if_neg (by decide), if_pos (by omega)])
                      have HR0 : Hid (w2.cell? ⟨w.heap.size, 0, none⟩ = some (.slice none 0 0) ∧ w2.cell? ⟨w.heap.size, 1, none⟩ = some (.slice none 0 0)) := ⟨r0, r1⟩
                      clear hlen
                      go_wp2_with (go_at_call 21; refine (HFD.out).mono ?_; rintro e w' ⟨rfl, rfl⟩)
                      obtain ⟨t0, t1⟩ := two_same (w1 := w2) (B := w.heap.size) (.slice lao ls.length lcap) (.slice nao acc.length ncap) HR0.out.1 HR0.out.2
                      have u1 : (((w2.setCell ⟨w.heap.size, 0, none⟩ (.slice lao ls.length lcap)).setCell ⟨w.heap.size, 1, none⟩ (.slice nao acc.length ncap)).alloc (.cells #[.int .i64 pk, .int .i64 y0, .int .i64 0, .int .i64 0, .int .i64 0, .slice none 0 0] 53)).cell? ⟨w.heap.size, 1, none⟩ = some (.slice nao acc.length ncap) := (World.cell?_alloc_lt _ _ _ (by simp [World.setCell]; exact hz20)).trans t1
                      have u0 : (((w2.setCell ⟨w.heap.size, 0, none⟩ (.slice lao ls.length lcap)).setCell ⟨w.heap.size, 1, none⟩ (.slice nao acc.length ncap)).alloc (.cells #[.int .i64 pk, .int .i64 y0, .int .i64 0, .int .i64 0, .int .i64 0, .slice none 0 0] 53)).cell? ⟨w.heap.size, 0, none⟩ = some (.slice lao ls.length lcap) := (World.cell?_alloc_lt _ _ _ (by simp [World.setCell]; exact hz20)).trans ((cell_off (by decide)).trans t0)
                      exact bodyPost_ret (v := .tuple #[.agg #[.slice lao ls.length lcap, .slice nao acc.length ncap], .int .i64 ((j : Int) + 1)]) (by simp [results, Tryz.results11, go_sem, u0, u1]) rfl (BytEnds.bad HE.out (by omega) (((HBW2.out.setCell (by simp) _).setCell (by simp) _).alloc (by simp [World.setCell]; omega) _))
          · have HE : Hid (((Fl.readText s).2 : Int) = (j : Int) + 1) := HBAD.out (by unfold Fl.nodeOf; rw [if_pos (Or.inr (by rw [← HX0.out, ← HDK.out]; exact hx0))])
            have h3I : 3 ≤ (ws.length : Int) := by omega
            have b3 : (x0 == dk) = false := by rw [beq_eq_false_iff_ne]; exact hx0
            go_wp2_with (go_at_call 22; refine (HDC.out).mono ?_; rintro e w' ⟨rfl, hw'⟩; obtain rfl : w1 = w' := hw'.symm)
            obtain ⟨t0, t1⟩ := two_same (w1 := w1) (B := w.heap.size) (.slice lao ls.length lcap) (.slice nao acc.length ncap) r0' r1'
            exact bodyPost_ret (v := .tuple #[.agg #[.slice lao ls.length lcap, .slice nao acc.length ncap], .int .i64 ((j : Int) + 1)]) (by simp [results, Tryz.results11, go_sem, t0, t1]) rfl (BytEnds.bad HE.out (by omega) ((HBW1.out.setCell (by simp) _).setCell (by simp) _))
end Go.Proofs.YtbihjgfbocpobaaGreatDoor
