/- Texts Cdl Cdm Cdo. -/
import Derived.Test.YtbihjgfbocpobaaGreatDoorM21
import Derived.Deep.DeepCutAuto
import Derived.Recover
import Derived.Defers
import Derived.Stop.Asserts
/- The program: a proof is read. -/
set_option linter.unusedSimpArgs false
set_option linter.unusedVariables false
namespace Go.Proofs.YtbihjgfbocpobaaGreatDoor
open Go.RowKit

theorem Stay.mono {base base' : Nat} {w w' : World} (h : Stay base w w') (hb : base ≤ base') : Stay base' w w' := ⟨h.size, fun k hk hlt => h.block k (by omega) hlt⟩
theorem pass_any {P : Program} {p : Prop} (w : World) (h : p) (_ : wpAny P .any #[] (fun _ _ _ => True) 0 #[] ⟨#[], []⟩ w) : p := h

/-- How the reading of a proof ends. -/
def ProofEnds (r : (List Int × List Fl.Node) × Bool × Int) (b : Nat) (w : World) (e : Ending) (w' : World) : Prop :=
  w.grownBy w' (some b) ∧ (r.2.1 = false → e = .panicked (stopAt 8 r.2.2)) ∧ (r.2.1 = true → ∃ lv nv, e = .returned (.agg #[lv, nv]) ∧ ∀ w'', Stay w.heap.size w' w'' → IntsAt w''.heap.size w'' lv r.1.1 ∧ NodesAt w''.heap.size w'' nv r.1.2)
theorem proofEnds_bad {r : (List Int × List Fl.Node) × Bool × Int} {pl : Int} {b : Nat} {w w' : World} (hr : r = (([], []), false, pl)) (m : w.grownBy w' (some b)) : ProofEnds r b w (.panicked (stopAt 8 pl)) w' := by
  subst hr; exact ⟨m, fun _ => rfl, fun h => by cases h⟩
theorem decode_head {s : List UInt8} {i : Nat} (h : ∀ t, t < i → Fl.headOk s t = true) (hi : i < 3) (hb : Fl.headOk s i = false) : Fl.decode s = (([], []), false, (i : Int)) := by
  have he : Fl.headAt s = i := by
    unfold Fl.headAt
    have : i = 0 ∨ i = 1 ∨ i = 2 := by omega
    rcases this with rfl | rfl | rfl
    · rw [if_pos hb]
    · rw [if_neg (by rw [h 0 (by omega)]; decide), if_pos hb]
    · rw [if_neg (by rw [h 0 (by omega)]; decide), if_neg (by rw [h 1 (by omega)]; decide), if_pos hb]
  unfold Fl.decode; rw [he, if_pos hi]
theorem headOk_end {s : List UInt8} {i : Nat} (h : ¬ i < s.length) : Fl.headOk s i = false := by unfold Fl.headOk; rw [decide_eq_false h]; rfl
theorem cheadOk_at {s : List UInt8} {i : Nat} (h : i < s.length) : Fl.headOk s i = ((s.getD i 0).toNat == (([70, 80, 49] : List UInt8).getD i 0).toNat) := by
  unfold Fl.headOk; rw [decide_eq_true h, Bool.true_and, Bool.eq_iff_iff, beq_iff_eq, beq_iff_eq]
  exact ⟨fun h => by rw [h], fun h => UInt8.toNat_inj.1 h⟩

/-- What is in memory ahead of the loop over nodes. -/
structure PB (w wr : World) (b P0 : Nat) (lv : Value) : Prop where
  c0 : wr.cell? ⟨P0, 0, none⟩ = some lv
  c1 : wr.cell? ⟨P0, 1, none⟩ = some (.slice none 0 0)
  d0 : wr.cell? ⟨w.heap.size, 0, none⟩ = some (.slice none 0 0)
  d1 : wr.cell? ⟨w.heap.size, 1, none⟩ = some (.slice none 0 0)
  f0 : ∀ j, wr.frozen? ⟨w.heap.size, j, none⟩ = false
  f1 : ∀ j, wr.frozen? ⟨P0, j, none⟩ = false
  fb : ∀ j, wr.frozen? ⟨b, j, none⟩ = false
  m : Mv w wr b
  a34 : wr.cell? ⟨b, 34, none⟩ = some (.slice none 0 0)
  hR : w.heap.size < P0
  hP : P0 < wr.heap.size
  hb : b < w.heap.size
theorem PB.move {w wr w' : World} {b P0 : Nat} {lv : Value} (h : PB w wr b P0 lv) (m : Mv wr w' b) : PB w w' b P0 lv := by
  have hR := h.hR
  have hb := h.hb
  have hP := h.hP
  have n1 : some P0 ≠ some b := by simp; omega
  have n2 : some w.heap.size ≠ some b := by simp; omega
  have fz : ∀ (N j : Nat), N < wr.heap.size → some N ≠ some b → w'.frozen? ⟨N, j, none⟩ = wr.frozen? ⟨N, j, none⟩ := fun N j hN hne => World.frozen?_of_block (w := wr) (a := ⟨N, j, none⟩) (m.g.block N hN hne)
  exact ⟨m.g.cell h.c0 n1, m.g.cell h.c1 n1, m.g.cell h.d0 n2, m.g.cell h.d1 n2, fun j => (fz _ j (by omega) n2).trans (h.f0 j), fun j => (fz _ j hP n1).trans (h.f1 j), fun j => (m.f j).trans (h.fb j), h.m.trans m, (m.o 34 (by decide)).trans h.a34, hR, Nat.lt_of_lt_of_le hP m.g.size, hb⟩
theorem PB.set0 {w wr : World} {b P0 : Nat} {lv : Value} (h : PB w wr b P0 lv) (u : Value) : PB w (wr.setCell ⟨P0, 0, none⟩ u) b P0 u := by
  have hR := h.hR
  have hb := h.hb
  have g := grown_set wr P0 0 u
  have n1 : some w.heap.size ≠ some P0 := by simp; omega
  have n2 : some b ≠ some P0 := by simp; omega
  exact ⟨nd_same h.c0, (nd_off (by decide)).trans h.c1, g.cell h.d0 n1, g.cell h.d1 n1, fun j => (World.frozen?_setCell _ _ _ _).trans (h.f0 j), fun j => (World.frozen?_setCell _ _ _ _).trans (h.f1 j), fun j => (World.frozen?_setCell _ _ _ _).trans (h.fb j), h.m.andSet hb (by omega) _ _, g.cell h.a34 n2, hR, by simpa [World.setCell] using h.hP, hb⟩
theorem PB.pl {s : List UInt8} {M q0 : Nat} {w wr : World} {b P0 : Nat} {lv : Value} {ls : List Int} (h : PB w wr b P0 lv) (hq : q0 ≤ s.length) (a1 : wr.cell? ⟨b, 1, none⟩ = some (.int .i64 (q0 : Int))) (hi : IntsAt wr.heap.size wr lv ls) (hown : ∀ bb, lv.ownBlock = some bb → P0 + 1 ≤ bb) :
    PL s M q0 w b P0 lv ls wr 0 q0 (.slice none 0 0) (.slice none 0 0) [] [] [] := by
  refine ⟨by omega, hq, rfl, rfl, rfl, rfl, fun i hi => by simp at hi, ⟨World.ownsRow_nil _ _ _ _, World.ownsRow_nil _ _ _ _, fun p hp => ?_⟩, h.c0, h.c1, h.d0, h.d1, h.f0, h.f1, h.fb, h.m.fr, a1, h.a34, h.hR, h.hP, h.hb⟩
  simp only [famOf, List.mem_singleton] at hp
  subst hp
  refine ⟨⟨hi, fun hx => ?_⟩, fun _ bb hb => hown bb hb⟩
  obtain ⟨bb, hb, _⟩ := ints_lt hi hx
  rw [hb]; exact ⟨by simp [Value.ownBlock], by simp [Value.ownBlock]⟩

theorem Dr.moveF {w w' : World} {b : Nat} {ao : Option Addr} {cap : Nat} {s : List UInt8} {p q : Nat} (h : Dr w b ao cap s p) (m : Fr w w' b) (c : w'.cell? ⟨b, 1, none⟩ = some (.int .i64 q)) (hq : q ≤ s.length) : Dr w' b ao cap s q := by
  refine ⟨(m.o 0 (by decide) (by decide)).trans h.c0, c, (m.f 1).trans h.f1, fun hne => ?_, hq, h.hs⟩
  obtain ⟨bb, bo, ha, hbb, hc⟩ := h.hb hne
  exact ⟨bb, bo, ha, hbb, fun i hi => m.g.cell (hc i hi) (by simpa using hbb)⟩
theorem RulesAt.moveF {w w' : World} {b : Nat} (h : RulesAt w b 2) (m : Fr w w' b) : RulesAt w' b 2 := fun k hk => by
  obtain ⟨h1, h2, h3⟩ := h k hk
  exact ⟨(m.o _ (by omega) (by omega)).trans h1, (m.o _ (by omega) (by omega)).trans h2, (m.o _ (by omega) (by omega)).trans h3⟩

set_option maxRecDepth 100000 in
set_option maxHeartbeats 8000000 in
theorem proof_walk {b : Nat} {ao : Option Addr} {cap : Nat} {s : List UInt8} {w : World} (h : Dr w b ao cap s 0) (hr : RulesAt w b 2) (h34 : w.cell? ⟨b, 34, none⟩ = some (.slice none 0 0)) (hfb : ∀ j, w.frozen? ⟨b, j, none⟩ = false) :
    Calls Tryz.prog 41 #[.pointer (some ⟨b, 0, none⟩)] w fun e w' => ProofEnds (Fl.decode s) b w e w' := by
  obtain ⟨i0, hi0, hz0, hzs, hzb⟩ := info_parts Tryz.infoInt
  obtain ⟨i1, hi1, hy0, hy1, hyb⟩ := info_parts Tryz.infoNode
  have hlb := h.lt
  have hs := h.hs
  have HD : Hid (Dr w b ao cap s 0) := h
  have HR : Hid (RulesAt w b 2) := hr
  have H34 : Hid (w.cell? ⟨b, 34, none⟩ = some (.slice none 0 0)) := h34
  have HFB : Hid (∀ j, w.frozen? ⟨b, j, none⟩ = false) := hfb
  clear h hr h34 hfb
  go_enter Tryz.func41, Tryz.ntmps41
  go_wp2_with fail
  obtain ⟨W0, hW0⟩ : ∃ W0, W0 = w.alloc (.cells #[.slice none 0 0, .slice none 0 0] 32) := ⟨_, rfl⟩
  rw [← hW0]
  have HM0 : Hid (Mv w W0 b) := by rw [hW0]; exact (Mv.refl w b).alloc hlb _
  have HA0 : Hid (W0.cell? ⟨b, 1, none⟩ = some (.int .i64 0)) := by show _ = _; rw [hW0, World.cell?_alloc_past _ _ _ hlb]; exact HD.out.c1
  have HR0 : Hid (W0.cell? ⟨w.heap.size, 0, none⟩ = some (.slice none 0 0) ∧ W0.cell? ⟨w.heap.size, 1, none⟩ = some (.slice none 0 0) ∧ ∀ j, W0.frozen? ⟨w.heap.size, j, none⟩ = false) := by rw [hW0]; exact ⟨by simp, by simp, fun j => by simp⟩
  have hz0 : W0.heap.size = w.heap.size + 1 := by rw [hW0]; simp
  clear hW0
  go_loopw [7] (fun i wr => ∃ j : Nat, j ≤ 3 ∧ i = .int .i64 j ∧ (∀ t, t < j → Fl.headOk s t = true) ∧ Mv W0 wr b ∧ wr.cell? ⟨b, 1, none⟩ = some (.int .i64 (j : Int)) ∧ j ≤ s.length) (fun i _ => 3 - (intOf i).toNat)
  case atStart => exact ⟨0, by omega, rfl, fun t ht => by omega, Mv.refl _ _, HA0.out, by omega⟩
  case round =>
    obtain ⟨i, hi3, rfl, hok, hm, hc1, his⟩ := hrel
    have HOK : Hid (∀ t, t < i → Fl.headOk s t = true) := hok
    have HM : Hid (Mv W0 wr b) := hm
    have HC1 : Hid (wr.cell? ⟨b, 1, none⟩ = some (.int .i64 (i : Int))) := hc1
    have HDi : Hid (Dr wr b ao cap s i) := HD.out.move (HM0.out.trans hm) hc1 his
    have HDd : Hid (Dr wr.drew b ao cap s i) := HDi.out.move ((Mv.refl wr b).drew) hc1 his
    clear hok hm
    by_cases hi : i < 3
    · by_cases hlt : i < s.length
      · obtain ⟨c, hc⟩ : ∃ c, c = (s.getD i 0).toNat := ⟨_, rfl⟩
        have HN : Hid (Calls Tryz.prog 68 #[.pointer (some ⟨b, 0, none⟩)] wr.drew fun e w' => e = .returned (.int .u8 c) ∧ Mv wr.drew w' b ∧ w'.cell? ⟨b, 1, none⟩ = some (.int .i64 ((i + 1 : Nat) : Int))) := by rw [hc]; exact next_ok HDd.out hlt
        have HHC : Hid (Fl.headOk s i = (c == (([70, 80, 49] : List UInt8).getD i 0).toNat)) := by show _ = _; rw [cheadOk_at hlt, hc]
        clear hc
        have h3 : i = 0 ∨ i = 1 ∨ i = 2 := by omega
        clear hc1
        rcases h3 with rfl | rfl | rfl
        · have c1 : wr.cell? ⟨b, 1, none⟩ = some (.int .i64 0) := HC1.out
          by_cases hcm : c = 70
          · have bq : ((c : Int) == (((⟨#[70, 80, 49]⟩ : ByteArray)[0]'(by decide)).toNat : Int)) = true := beq_iff_eq.2 (by rw [hcm]; rfl)
            have bqn : (c == 70) = true := beq_iff_eq.2 hcm
            have HG : Hid (Fl.headOk s 0 = true) := HHC.out.trans bqn
            clear hcm bqn
            go_wp2_with fail
            refine wp_region_order [0, 1, 3, 4, 6] [2, 5, 7] (by kernel_rfl) (by kernel_rfl) rfl [_, _, _, _, _] [_, _, _] rfl rfl (fun c a d v w h => by cases d <;> exact h) ?_
            refine wpHeld_hide (fun L HL => ?_)
            repeat
              refine wpHeld_step rfl (fun K hK => ?_)
              apply Exists.intro
              refine ⟨fun w' _ => ?_, ?_⟩
              · go_simp
                try with_reducible rfl
              go_simp
              refine hK _ ?_
              clear hK K
            refine HL.out _ ?_
            clear HL
            go_wp2_with (first | (go_at_call 68; refine (HN.out).mono ?_; rintro e w1 ⟨rfl, hm1, hd1⟩) | (go_at_call 67; refine (need_ok _ _ _).mono ?_; rintro e w2 ⟨rfl, rfl⟩))
            all_goals
              try go_wp2
              go_roundw
              case rel => exact ⟨0 + 1, by omega, by go_num, fun t ht => by
                by_cases h : t < 0
                · exact HOK.out t h
                · have : t = 0 := by omega
                  subst this; exact HG.out, (HM.out.drew).trans hm1, hd1, by omega⟩
              case measure => simp [intOf]
          · have bq : ((c : Int) == (((⟨#[70, 80, 49]⟩ : ByteArray)[0]'(by decide)).toNat : Int)) = false := beq_eq_false_iff_ne.2 (show (c : Int) ≠ 70 by omega)
            have bqn : (c == 70) = false := beq_eq_false_iff_ne.2 hcm
            have HB : Hid (Fl.decode s = (([], []), false, ((0 : Nat) : Int))) := decode_head HOK.out (by omega) (HHC.out.trans bqn)
            clear hcm bqn
            go_wp2_with fail
            refine wp_region_order [0, 1, 3, 4, 6] [2, 5, 7] (by kernel_rfl) (by kernel_rfl) rfl [_, _, _, _, _] [_, _, _] rfl rfl (fun c a d v w h => by cases d <;> exact h) ?_
            refine wpHeld_hide (fun L HL => ?_)
            repeat
              refine wpHeld_step rfl (fun K hK => ?_)
              apply Exists.intro
              refine ⟨fun w' _ => ?_, ?_⟩
              · go_simp
                try with_reducible rfl
              go_simp
              refine hK _ ?_
              clear hK K
            refine HL.out _ ?_
            clear HL
            go_wp2_with (first | (go_at_call 68; refine (HN.out).mono ?_; rintro e w1 ⟨rfl, hm1, hd1⟩) | (go_at_call 67; refine (need_bad _ _ _).mono ?_; rintro e w2 ⟨rfl, hb2⟩; exact ⟨rfl, proofEnds_bad HB.out (((HM0.out.trans HM.out).drew.trans hm1).andBelow hb2 hlb).g⟩))
        · have c1 : wr.cell? ⟨b, 1, none⟩ = some (.int .i64 1) := HC1.out
          by_cases hcm : c = 80
          · have bq : ((c : Int) == (((⟨#[70, 80, 49]⟩ : ByteArray)[1]'(by decide)).toNat : Int)) = true := beq_iff_eq.2 (by rw [hcm]; rfl)
            have bqn : (c == 80) = true := beq_iff_eq.2 hcm
            have HG : Hid (Fl.headOk s 1 = true) := HHC.out.trans bqn
            clear hcm bqn
            go_wp2_with fail
            refine wp_region_order [0, 1, 3, 4, 6] [2, 5, 7] (by kernel_rfl) (by kernel_rfl) rfl [_, _, _, _, _] [_, _, _] rfl rfl (fun c a d v w h => by cases d <;> exact h) ?_
            refine wpHeld_hide (fun L HL => ?_)
            repeat
              refine wpHeld_step rfl (fun K hK => ?_)
              apply Exists.intro
              refine ⟨fun w' _ => ?_, ?_⟩
              · go_simp
                try with_reducible rfl
              go_simp
              refine hK _ ?_
              clear hK K
            refine HL.out _ ?_
            clear HL
            go_wp2_with (first | (go_at_call 68; refine (HN.out).mono ?_; rintro e w1 ⟨rfl, hm1, hd1⟩) | (go_at_call 67; refine (need_ok _ _ _).mono ?_; rintro e w2 ⟨rfl, rfl⟩))
            all_goals
              try go_wp2
              go_roundw
              case rel => exact ⟨1 + 1, by omega, by go_num, fun t ht => by
                by_cases h : t < 1
                · exact HOK.out t h
                · have : t = 1 := by omega
                  subst this; exact HG.out, (HM.out.drew).trans hm1, hd1, by omega⟩
              case measure => simp [intOf]
          · have bq : ((c : Int) == (((⟨#[70, 80, 49]⟩ : ByteArray)[1]'(by decide)).toNat : Int)) = false := beq_eq_false_iff_ne.2 (show (c : Int) ≠ 80 by omega)
            have bqn : (c == 80) = false := beq_eq_false_iff_ne.2 hcm
            have HB : Hid (Fl.decode s = (([], []), false, ((1 : Nat) : Int))) := decode_head HOK.out (by omega) (HHC.out.trans bqn)
            clear hcm bqn
            go_wp2_with fail
            refine wp_region_order [0, 1, 3, 4, 6] [2, 5, 7] (by kernel_rfl) (by kernel_rfl) rfl [_, _, _, _, _] [_, _, _] rfl rfl (fun c a d v w h => by cases d <;> exact h) ?_
            refine wpHeld_hide (fun L HL => ?_)
            repeat
              refine wpHeld_step rfl (fun K hK => ?_)
              apply Exists.intro
              refine ⟨fun w' _ => ?_, ?_⟩
              · go_simp
                try with_reducible rfl
              go_simp
              refine hK _ ?_
              clear hK K
            refine HL.out _ ?_
            clear HL
            go_wp2_with (first | (go_at_call 68; refine (HN.out).mono ?_; rintro e w1 ⟨rfl, hm1, hd1⟩) | (go_at_call 67; refine (need_bad _ _ _).mono ?_; rintro e w2 ⟨rfl, hb2⟩; exact ⟨rfl, proofEnds_bad HB.out (((HM0.out.trans HM.out).drew.trans hm1).andBelow hb2 hlb).g⟩))
        · have c1 : wr.cell? ⟨b, 1, none⟩ = some (.int .i64 2) := HC1.out
          by_cases hcm : c = 49
          · have bq : ((c : Int) == (((⟨#[70, 80, 49]⟩ : ByteArray)[2]'(by decide)).toNat : Int)) = true := beq_iff_eq.2 (by rw [hcm]; rfl)
            have bqn : (c == 49) = true := beq_iff_eq.2 hcm
            have HG : Hid (Fl.headOk s 2 = true) := HHC.out.trans bqn
            clear hcm bqn
            go_wp2_with fail
            refine wp_region_order [0, 1, 3, 4, 6] [2, 5, 7] (by kernel_rfl) (by kernel_rfl) rfl [_, _, _, _, _] [_, _, _] rfl rfl (fun c a d v w h => by cases d <;> exact h) ?_
            refine wpHeld_hide (fun L HL => ?_)
            repeat
              refine wpHeld_step rfl (fun K hK => ?_)
              apply Exists.intro
              refine ⟨fun w' _ => ?_, ?_⟩
              · go_simp
                try with_reducible rfl
              go_simp
              refine hK _ ?_
              clear hK K
            refine HL.out _ ?_
            clear HL
            go_wp2_with (first | (go_at_call 68; refine (HN.out).mono ?_; rintro e w1 ⟨rfl, hm1, hd1⟩) | (go_at_call 67; refine (need_ok _ _ _).mono ?_; rintro e w2 ⟨rfl, rfl⟩))
            all_goals
              try go_wp2
              go_roundw
              case rel => exact ⟨2 + 1, by omega, by go_num, fun t ht => by
                by_cases h : t < 2
                · exact HOK.out t h
                · have : t = 2 := by omega
                  subst this; exact HG.out, (HM.out.drew).trans hm1, hd1, by omega⟩
              case measure => simp [intOf]
          · have bq : ((c : Int) == (((⟨#[70, 80, 49]⟩ : ByteArray)[2]'(by decide)).toNat : Int)) = false := beq_eq_false_iff_ne.2 (show (c : Int) ≠ 49 by omega)
            have bqn : (c == 49) = false := beq_eq_false_iff_ne.2 hcm
            have HB : Hid (Fl.decode s = (([], []), false, ((2 : Nat) : Int))) := decode_head HOK.out (by omega) (HHC.out.trans bqn)
            clear hcm bqn
            go_wp2_with fail
            refine wp_region_order [0, 1, 3, 4, 6] [2, 5, 7] (by kernel_rfl) (by kernel_rfl) rfl [_, _, _, _, _] [_, _, _] rfl rfl (fun c a d v w h => by cases d <;> exact h) ?_
            refine wpHeld_hide (fun L HL => ?_)
            repeat
              refine wpHeld_step rfl (fun K hK => ?_)
              apply Exists.intro
              refine ⟨fun w' _ => ?_, ?_⟩
              · go_simp
                try with_reducible rfl
              go_simp
              refine hK _ ?_
              clear hK K
            refine HL.out _ ?_
            clear HL
            go_wp2_with (first | (go_at_call 68; refine (HN.out).mono ?_; rintro e w1 ⟨rfl, hm1, hd1⟩) | (go_at_call 67; refine (need_bad _ _ _).mono ?_; rintro e w2 ⟨rfl, hb2⟩; exact ⟨rfl, proofEnds_bad HB.out (((HM0.out.trans HM.out).drew.trans hm1).andBelow hb2 hlb).g⟩))
      · have HB : Hid (Fl.decode s = (([], []), false, (i : Int))) := decode_head HOK.out hi (headOk_end hlt)
        have hils : i = s.length := by omega
        have HE : Hid (Calls Tryz.prog 68 #[.pointer (some ⟨b, 0, none⟩)] wr.drew fun e w' => e = .panicked (stopAt 8 (i : Int)) ∧ Mv wr.drew w' b) := by
          have := next_end HDd.out hlt
          rw [← hils] at this; exact this
        clear hils
        have hii : (i : Int) < 3 := by omega
        go_wp2_with fail
        refine wp_region_order [0, 1, 3, 4, 6] [2, 5, 7] (by kernel_rfl) (by kernel_rfl) rfl [_, _, _, _, _] [_, _, _] rfl rfl (fun c a d v w h => by cases d <;> exact h) ?_
        refine wpHeld_hide (fun L HL => ?_)
        repeat
          refine wpHeld_step rfl (fun K hK => ?_)
          apply Exists.intro
          refine ⟨fun w' _ => ?_, ?_⟩
          · go_simp
            try with_reducible rfl
          go_simp
          refine hK _ ?_
          clear hK K
        refine HL.out _ ?_
        clear HL
        go_wp2_with (go_at_call 68; refine (HE.out).mono ?_; rintro e w1 ⟨rfl, hm1⟩; exact ⟨rfl, proofEnds_bad HB.out ((HM0.out.trans HM.out).drew.trans hm1).g⟩)
    · have hi3' : i = 3 := by omega
      subst hi3'
      have HHD : Hid (Fl.headAt s = 3) := by
        show Fl.headAt s = 3
        unfold Fl.headAt
        rw [if_neg (by rw [HOK.out 0 (by omega)]; decide), if_neg (by rw [HOK.out 1 (by omega)]; decide), if_neg (by rw [HOK.out 2 (by omega)]; decide)]
      clear hc1 HDd hi hi3
      go_wp2_with fail
      obtain ⟨WP, hWP⟩ : ∃ WP, WP = wr.alloc (.cells #[.slice none 0 0, .slice none 0 0] 32) := ⟨_, rfl⟩
      rw [← hWP]
      obtain ⟨P0, hP0⟩ : ∃ P0, P0 = wr.heap.size := ⟨_, rfl⟩
      rw [← hP0]
      have HPB : Hid (PB w WP b P0 (.slice none 0 0)) := by
        have hmw : Mv w wr b := HM0.out.trans HM.out
        have hzr := HM.out.g.size
        have n2 : some w.heap.size ≠ some b := by simp; omega
        obtain ⟨r0, r1, r2⟩ := HR0.out
        have e0 : wr.cell? ⟨w.heap.size, 0, none⟩ = some (.slice none 0 0) := HM.out.g.cell r0 n2
        have e1 : wr.cell? ⟨w.heap.size, 1, none⟩ = some (.slice none 0 0) := HM.out.g.cell r1 n2
        have e2 : ∀ j, wr.frozen? ⟨w.heap.size, j, none⟩ = false := fun j => (World.frozen?_of_block (w := W0) (a := ⟨w.heap.size, j, none⟩) (HM.out.g.block w.heap.size (by omega) n2)).trans (r2 j)
        have g : wr.grownBy WP none := by rw [hWP]; exact World.grownBy_alloc _ _ _
        have fz : ∀ (N j : Nat), N < wr.heap.size → WP.frozen? ⟨N, j, none⟩ = wr.frozen? ⟨N, j, none⟩ := fun N j hN => World.frozen?_of_block (w := wr) (a := ⟨N, j, none⟩) (g.block N hN (by simp))
        refine ⟨by rw [hWP, hP0]; simp, by rw [hWP, hP0]; simp, g.cell e0 (by simp), g.cell e1 (by simp), fun j => (fz _ j (by omega)).trans (e2 j), fun j => by rw [hWP, hP0]; simp, fun j => (fz b j (hmw.lt hlb)).trans ((hmw.f j).trans (HFB.out j)), hmw.andGrown g hlb (fun k e => by cases e), g.cell ((hmw.o 34 (by decide)).trans H34.out) (by simp), by omega, by rw [hWP, hP0]; simp, hlb⟩
      have HDP : Hid (Dr WP b ao cap s 3) := by rw [hWP]; exact HDi.out.move ((Mv.refl wr b).alloc HDi.out.lt _) (by rw [World.cell?_alloc_past _ _ _ HDi.out.lt]; exact HDi.out.c1) his
      clear hWP hP0 HM HDi HC1 HOK HR0 HA0 HM0 hz0
      have HC4 : Hid (Calls Tryz.prog 70 #[.pointer (some ⟨b, 0, none⟩), .int .i64 0, .int .i64 4] WP fun e w' => NumEnds (Fl.numB s 3 0 4) b WP e w') := number_walk HDP.out 0 4 (by omega) (by omega)
      refine (HC4.out).mono ?_
      rintro e w1 ⟨hm1, hbad, hgood⟩
      by_cases hv1 : (Fl.numB s 3 0 4).2.1 < 0
      · obtain rfl := hbad hv1
        exact ⟨rfl, proofEnds_bad (decode_n_bad HHD.out his hv1) (HPB.out.m.trans hm1).g⟩
      obtain ⟨rfl, hd1⟩ := hgood hv1
      obtain ⟨n, q1, hnb, hnm, hq1, hq1s, _, hn4⟩ := numB_split s 3 0 4 his hv1
      rw [hnb] at hd1 ⊢
      simp only at hd1 ⊢
      have HNM : Hid (Fl.num s 3 = ((n : Int), (q1 : Int), 0)) := hnm
      have HPB1 : Hid (PB w w1 b P0 (.slice none 0 0)) := HPB.out.move hm1
      have HD1 : Hid (Dr w1 b ao cap s q1) := HDP.out.move hm1 hd1 hq1s
      have hn4' : n ≤ 4 := by omega
      clear hbad hgood hv1 hnb hnm hd1 hm1 HPB HDP HC4
      go_wp2_with fail
      refine (numbers_walk HD1.out n (by omega)).mono ?_
      rintro e w2 ⟨hm2, hbad, hgood⟩
      by_cases hv2 : (Fl.nums s q1 n).2.1 < 0
      · obtain rfl := hbad hv2
        exact ⟨rfl, proofEnds_bad (decode_l_bad HHD.out HNM.out hn4' hv2) (HPB1.out.m.trans hm2).g⟩
      obtain ⟨lv, rfl, hown, hd2⟩ := hgood hv2
      have hnok := Fl.nums_ok s q1 n hq1s
      obtain ⟨ls, q2, hns, hq2s⟩ : ∃ (ls : List Int) (q2 : Nat), Fl.nums s q1 n = (ls, (q2 : Int), (Fl.nums s q1 n).2.2) ∧ q2 ≤ s.length := ⟨(Fl.nums s q1 n).1, (Fl.nums s q1 n).2.1.toNat, by rw [Int.toNat_of_nonneg (by omega)], by omega⟩
      rw [hns] at hown hd2
      simp only at hown hd2
      obtain ⟨lao, lcap, rfl⟩ := own_shape6 hown
      have HNS : Hid (Fl.nums s q1 n = (ls, (q2 : Int), (Fl.nums s q1 n).2.2)) := hns
      have HPB2 : Hid (PB w w2 b P0 (.slice none 0 0)) := HPB1.out.move hm2
      have HI2 : Hid (IntsAt w2.heap.size w2 (.slice lao ls.length lcap) ls) := IntsAt.of_own hown
      have HOW : Hid (∀ bb, (Value.slice lao ls.length lcap).ownBlock = some bb → P0 + 1 ≤ bb) := fun bb h => by have := (hown.lt bb h).1; have := HPB1.out.hP; omega
      have HC2 : Hid (w2.cell? ⟨b, 1, none⟩ = some (.int .i64 (q2 : Int))) := hd2
      have k0 := HPB2.out.c0
      have kf := HPB2.out.f1
      have HD2' : Hid (Dr w2 b ao cap s q2) := HD1.out.move hm2 hd2 hq2s
      clear hbad hgood hv2 hnok hns hown hd2 hm2 HPB1 HD1
      go_wp2_with fail
      obtain ⟨W3, hW3⟩ : ∃ W3, W3 = w2.setCell ⟨P0, 0, none⟩ (.slice lao ls.length lcap) := ⟨_, rfl⟩
      rw [← hW3]
      have g3 : w2.grownBy W3 (some P0) := by rw [hW3]; exact grown_set _ _ _ _
      have hbP : b ≠ P0 := by have := HPB2.out.hR; omega
      have HPB3 : Hid (PB w W3 b P0 (.slice lao ls.length lcap)) := by rw [hW3]; exact HPB2.out.set0 _
      have HI3 : Hid (IntsAt W3.heap.size W3 (.slice lao ls.length lcap) ls) := by rw [hW3]; exact ints_set HI2.out (fun _ h => by have h9 : P0 + 1 ≤ P0 := HOW.out P0 h; omega)
      have HC3 : Hid (W3.cell? ⟨b, 1, none⟩ = some (.int .i64 (q2 : Int))) := g3.cell HC2.out (by simpa using hbP)
      have HD3 : Hid (Dr W3 b ao cap s q2) := HD.out.move HPB3.out.m HC3.out hq2s
      clear hW3 g3 k0 kf HPB2 HI2 HC2 HD2'
      have HC5 : Hid (Calls Tryz.prog 70 #[.pointer (some ⟨b, 0, none⟩), .int .i64 1, .int .i64 200] W3 fun e w' => NumEnds (Fl.numB s q2 1 200) b W3 e w') := number_walk HD3.out 1 200 (by omega) (by omega)
      refine (HC5.out).mono ?_
      rintro e w4 ⟨hm4, hbad, hgood⟩
      by_cases hv4 : (Fl.numB s q2 1 200).2.1 < 0
      · obtain rfl := hbad hv4
        exact ⟨rfl, proofEnds_bad (decode_m_bad HHD.out HNM.out hn4' HNS.out hq2s hv4) (HPB3.out.m.trans hm4).g⟩
      obtain ⟨rfl, hd4⟩ := hgood hv4
      obtain ⟨M, q0, hmb, hmm, hq0, hq0s, hM1, hM200⟩ := numB_split s q2 1 200 hq2s hv4
      rw [hmb] at hd4 ⊢
      simp only at hd4 ⊢
      have HDEC : Hid (Fl.decode s = decRest s ls M q0) := decode_rest HHD.out HNM.out hn4' HNS.out hmm (by omega) (by omega)
      have hM : M ≤ 200 := by omega
      have HPL : Hid (PL s M q0 w b P0 (.slice lao ls.length lcap) ls w4 0 q0 (.slice none 0 0) (.slice none 0 0) [] [] []) :=
        (HPB3.out.move hm4).pl hq0s hd4 (ints_stay (base := P0 + 1) HI3.out (fun _ => HOW.out) (Stay.grown hm4.g (fun k e => by injection e with e; have := HPB3.out.hR; omega))) HOW.out
      clear hbad hgood hv4 hmb hmm hd4 hm4 HPB3 HI3 HC3 HD3 HC5 HNM HNS HHD hM1 hM200 HOW
      go_wp2_with fail
      go_loopw [30] (fun i wz => ∃ (k q : Nat) (sv nv : Value) (st : List Int) (acc : List Fl.Node) (lvs : List Value), i = .int .i64 k ∧ PL s M q0 w b P0 (.slice lao ls.length lcap) ls wz k q sv nv st acc lvs) (fun i _ => M - (intOf i).toNat)
      case atStart => exact ⟨0, q0, _, _, [], [], [], rfl, HPL.out⟩
      case round =>
        clear HPL
        obtain ⟨k, q, sv, nv, st, acc, lvs, rfl, hpl⟩ := hrel
        have HPL : Hid (PL s M q0 w b P0 (.slice lao ls.length lcap) ls wr k q sv nv st acc lvs) := hpl
        have hkM := hpl.hk
        have hqs := hpl.hq
        clear hpl
        by_cases hlt : k < M
        · obtain ⟨sao, scap, rfl⟩ := own_shape6 HPL.out.hl.hs
          obtain ⟨nao, ncap, rfl⟩ := own_shape6 HPL.out.hl.hn
          have HP0' : Hid _ := HPL.out.pc
          have e34 := HPL.out.a34
          have e1 := HPL.out.a1
          have hkl : (k : Int) < (M : Int) := by omega
          have hst := HPL.out.hst
          go_wp2_with fail
          go_cut [] (fun wc => ∃ (sao' : Option Addr) (scap' : Nat), PC w b P0 (.slice lao ls.length lcap) wc q (.slice sao' (k + 1) scap') (.slice nao k ncap) (((.slice lao ls.length lcap), ls) :: famOf acc lvs) (.slice sao' (k + 1) scap') (.slice nao k ncap) (k + 1) k (st.map (Value.int .i64) ++ [.int .i64 (q : Int)]) (flat acc lvs))
          case first =>
            have HP1 : Hid (PC w b P0 (.slice lao ls.length lcap) wr.drew q (.slice sao k scap) (.slice nao k ncap) (((.slice lao ls.length lcap), ls) :: famOf acc lvs) (.slice sao k scap) (.slice nao k ncap) k k (st.map (Value.int .i64)) (flat acc lvs)) := HPL.out.pc.drew
            have d34 : wr.drew.cell? ⟨b, 34, none⟩ = some (.slice sao k scap) := e34
            have d1 : wr.drew.cell? ⟨b, 1, none⟩ = some (.int .i64 (q : Int)) := e1
            have d34a : ∀ o, (wr.drew.alloc o).cell? ⟨b, 34, none⟩ = some (.slice sao k scap) := fun o => (HP1.out.alloc o).a34
            have hkk : k ≤ 200 := by omega
            refine wp_region_forkc [0, 1, 2, 3, 5, 6, 7] 4 8 4 9 [8, 9, 10, 11, 12, 13] [9, 10, 11, 12, 13] [4, 10, 11, 12, 13] (by kernel_rfl) (by kernel_rfl) rfl rfl rfl [_, _, _, _, _, _, _] _ _ _ _ [_, _, _, _, _, _] [_, _, _, _, _] [_, _, _, _, _] rfl rfl rfl rfl rfl rfl rfl rfl (fun c a d v w h => by cases d <;> exact h) ?_
            refine wpHeld_hide (fun L HL => ?_)
            repeat
              refine wpHeld_step rfl (fun K hK => ?_)
              apply Exists.intro
              refine ⟨fun w' _ => ?_, ?_⟩
              · go_simp
                try with_reducible rfl
              go_simp
              refine hK _ ?_
              clear hK K
            refine HL.out _ ⟨?ga, ?gb⟩
            all_goals
              clear HL
              generalize wr.drew = W1 at *
              simp only [List.getElem_toArray, List.getElem_cons_succ, List.getElem_cons_zero]
            case' gb =>
              go_wp2_with fail
              refine ⟨?_, ?_⟩
            all_goals
              go_wp2_with (at_builtin; refine wpList_append_at _ rfl (.tmp 37) (.tmp 42) 29 rfl (P0 + 1) 3 i0 (.int .i64 0) 1 8 Tryz.underlying29 hi0 hz0 hzs hzb rfl (by decide) _ _ _ rfl (HP1.out.alloc _).hl.hs ⟨_, 0, none⟩ 1 1 [.int .i64 q] rfl rfl (by decide) one_cell_new ?c2 ?c3 ?c4 ?c5 ?_)
              case c2 => intro u hu; simp at hu; subst hu; rfl
              case c3 => unfold maxLen; omega
              case c4 => omega
              case c5 => have := HP1.out.hP; first | omega | (simp; omega)
              intro sv' w3 hown3 hg3 hw3
              have hp3 := (HP1.out.alloc _).first hown3 hg3 (by simp only [World.size_alloc]; exact hw3)
              obtain ⟨sao', scap', rfl⟩ := own_shape6 hown3
              have c34 := hp3.a34
              have fb := hp3.fb
              have HP3 : Hid _ := hp3
              clear hp3 hown3 hg3 hw3 d34 d1 d34a
              go_wp2_with fail
              go_meet
              case rel => exact ⟨sao', scap', HP3.out.set34 _⟩
          case rest =>
          obtain ⟨sao', scap', hp4⟩ := hcut
          have HP4 : Hid (PC w b P0 (.slice lao ls.length lcap) wc q (.slice sao' (k + 1) scap') (.slice nao k ncap) (((.slice lao ls.length lcap), ls) :: famOf acc lvs) (.slice sao' (k + 1) scap') (.slice nao k ncap) (k + 1) k (st.map (Value.int .i64) ++ [.int .i64 (q : Int)]) (flat acc lvs)) := hp4
          obtain ⟨W2, hW2⟩ : ∃ W2, W2 = wc := ⟨_, rfl⟩
          rw [← hW2] at HP4 ⊢
          clear hp4 hW2 e34 e1 HP0'
          go_wp2_with fail
          have HD4 : Hid (Dr W2.drew b ao cap s q) := HD.out.moveF HP4.out.drew.fr HP4.out.a1 hqs
          have HR4 : Hid (RulesAt W2.drew b 2) := HR.out.moveF HP4.out.drew.fr
          have HCN : Hid (Calls Tryz.prog 71 #[.pointer (some ⟨b, 0, none⟩), .int .i64 k] W2.drew fun e w' => NodeEnds (Fl.one s q k) b W2.drew e w') := node_walk HD4.out HR4.out k (by omega)
          have ec1 := HP4.out.c1
          by_cases hv5 : (Fl.one s q k).2.1 < 0
          · have HBD : Hid (Fl.decode s = (([], []), false, (Fl.one s q k).2.2)) := HDEC.out.trans (HPL.out.fails hlt hv5)
            refine wp_region_forkc [0, 2, 3] 1 4 1 5 [4, 5, 6, 7, 8] [5, 6, 7, 8] [1, 6, 7, 8] (by kernel_rfl) (by kernel_rfl) rfl rfl rfl [_, _, _] _ _ _ _ [_, _, _, _, _] [_, _, _, _] [_, _, _, _] rfl rfl rfl rfl rfl rfl rfl rfl (fun c a d v w h => by cases d <;> exact h) ?_
            refine wpHeld_hide (fun L HL => ?_)
            repeat
              refine wpHeld_step rfl (fun K hK => ?_)
              apply Exists.intro
              refine ⟨fun w' _ => ?_, ?_⟩
              · go_simp
                try with_reducible rfl
              go_simp
              refine hK _ ?_
              clear hK K
            refine HL.out _ ⟨?_, ?_⟩
            all_goals
              clear HL
              go_wp2_with (go_at_call 71; refine (HCN.out).mono ?_; rintro e w5 ⟨hm5, hbad, _⟩; obtain rfl := hbad hv5; exact ⟨rfl, proofEnds_bad HBD.out (HP4.out.drew.fr.trans hm5.fr).g⟩)
          · have hone := Fl.one_ok s q k hqs
            obtain ⟨nd, af, z, ho, hafs⟩ : ∃ (nd : Fl.Node) (af : Nat) (z : Int), Fl.one s q k = (nd, (af : Int), z) ∧ af ≤ s.length := ⟨(Fl.one s q k).1, (Fl.one s q k).2.1.toNat, (Fl.one s q k).2.2, by rw [Int.toNat_of_nonneg (by omega)], by omega⟩
            have HO : Hid (Fl.one s q k = (nd, (af : Int), z)) := ho
            have HCG : Hid (Calls Tryz.prog 71 #[.pointer (some ⟨b, 0, none⟩), .int .i64 k] W2.drew fun e w' => ∃ (vao : Option Addr) (vcap : Nat), e = .returned (.agg #[.int .i64 nd.kind, .int .i64 nd.level, .int .i64 nd.a, .int .i64 nd.b, .int .i64 nd.c, .slice vao nd.list.length vcap]) ∧
                PC w b P0 (.slice lao ls.length lcap) w' af (.slice sao' (k + 1) scap') (.slice nao k ncap) ((((.slice lao ls.length lcap), ls) :: famOf acc lvs) ++ [(.slice vao nd.list.length vcap, nd.list)]) (.slice sao' (k + 1) scap') (.slice nao k ncap) (k + 1) k (st.map (Value.int .i64) ++ [.int .i64 (q : Int)]) (flat acc lvs)) := by
              refine (HCN.out).mono ?_
              rintro e w5 ⟨hm5, _, hgood⟩
              obtain ⟨lvn, rfl, hli, hlo, hd5⟩ := hgood hv5
              rw [ho] at hli hd5 ⊢
              simp only at hli hd5 ⊢
              obtain ⟨vao, vcap, rfl, _⟩ := id hli
              refine ⟨vao, vcap, rfl, (HP4.out.drew.move hm5 hd5).add hli hlo (fun bb h => (HP4.out.drew.hl.hs.lt bb h).2) (fun bb h => (HP4.out.drew.hl.hn.lt bb h).2) HP4.out.drew.hP⟩
            have dc1 : W2.drew.cell? ⟨P0, 1, none⟩ = some (.slice nao k ncap) := ec1
            have hkk : k ≤ 200 := by omega
            clear hv5 ho HCN HD4 HR4 hone ec1
            refine wp_region_forkc [0, 2, 3] 1 4 1 5 [4, 5, 6, 7, 8] [5, 6, 7, 8] [1, 6, 7, 8] (by kernel_rfl) (by kernel_rfl) rfl rfl rfl [_, _, _] _ _ _ _ [_, _, _, _, _] [_, _, _, _] [_, _, _, _] rfl rfl rfl rfl rfl rfl rfl rfl (fun c a d v w h => by cases d <;> exact h) ?_
            refine wpHeld_hide (fun L HL => ?_)
            repeat
              refine wpHeld_step rfl (fun K hK => ?_)
              apply Exists.intro
              refine ⟨fun w' _ => ?_, ?_⟩
              · go_simp
                try with_reducible rfl
              go_simp
              refine hK _ ?_
              clear hK K
            refine HL.out _ ⟨?gc, ?gd⟩
            all_goals
              clear HL
              generalize W2.drew = W5 at *
              simp only [List.getElem_toArray, List.getElem_cons_succ, List.getElem_cons_zero]
            case gc =>
              go_wp2_with (first | (go_at_call 71; refine (HCG.out).mono ?_; rintro e w5 ⟨vao, vcap, rfl, hp5⟩; have q1 := hp5.c1; have q1a : ∀ o, (w5.alloc o).cell? ⟨P0, 1, none⟩ = some (.slice nao k ncap) := fun o => (hp5.alloc o).c1; have HP5 : Hid _ := hp5; clear hp5) | (at_builtin; refine wpList_append_at _ rfl (.tmp 47) (.tmp 51) 30 rfl (P0 + 1) 53 i1 (.agg #[.int .i64 0, .int .i64 0, .int .i64 0, .int .i64 0, .int .i64 0, .slice none 0 0]) 6 64 Tryz.underlying30 hi1 hy0 hy1 hyb rfl (by decide) _ _ _ rfl (HP5.out.alloc _).hl.hn ⟨_, 0, none⟩ 1 1 (nodeCells nd (.slice vao nd.list.length vcap)) rfl rfl (by decide) (row_new (nodeCells nd (.slice vao nd.list.length vcap))) ?n2 ?n3 ?n4 ?n5 ?_))
              case n2 => intro u hu; simp [nodeCells] at hu; rcases hu with rfl | rfl | rfl | rfl | rfl | rfl <;> rfl
              case n3 => unfold maxLen; omega
              case n4 => omega
              case n5 => have := HP5.out.hP; first | omega | (simp; omega)
              intro nv' w6 hown6 hg6 hw6
              have hp6 := (HP5.out.alloc _).second hown6 hg6 (by simp only [World.size_alloc]; exact hw6)
              obtain ⟨nao', ncap', rfl⟩ := own_shape6 hown6
              have x1 := hp6.c1
              have xf := hp6.f1
              have HP6 : Hid _ := hp6
              clear hp6 hown6 hg6 hw6 q1 q1a HP5
              go_wp2
              go_roundw
              case rel => exact ⟨k + 1, af, _, _, _, _, _, by go_num, HPL.out.step hlt HO.out hafs (HP6.out.setc1 _)⟩
              case measure => simp [intOf]; omega
            case gd =>
              go_wp2_with (go_at_call 71; refine (HCG.out).mono ?_; rintro e w5 ⟨vao, vcap, rfl, hp5⟩; have q1 := hp5.c1; have q1a : ∀ o, (w5.alloc o).cell? ⟨P0, 1, none⟩ = some (.slice nao k ncap) := fun o => (hp5.alloc o).c1; have HP5 : Hid _ := hp5; clear hp5)
              refine ⟨?_, ?_⟩
              all_goals
                go_wp2_with (at_builtin; refine wpList_append_at _ rfl (.tmp 47) (.tmp 51) 30 rfl (P0 + 1) 53 i1 (.agg #[.int .i64 0, .int .i64 0, .int .i64 0, .int .i64 0, .int .i64 0, .slice none 0 0]) 6 64 Tryz.underlying30 hi1 hy0 hy1 hyb rfl (by decide) _ _ _ rfl (HP5.out.alloc _).hl.hn ⟨_, 0, none⟩ 1 1 (nodeCells nd (.slice vao nd.list.length vcap)) rfl rfl (by decide) (row_new (nodeCells nd (.slice vao nd.list.length vcap))) ?n2 ?n3 ?n4 ?n5 ?_)
                case n2 => intro u hu; simp [nodeCells] at hu; rcases hu with rfl | rfl | rfl | rfl | rfl | rfl <;> rfl
                case n3 => unfold maxLen; omega
                case n4 => omega
                case n5 => have := HP5.out.hP; first | omega | (simp; omega)
                intro nv' w6 hown6 hg6 hw6
                have hp6 := (HP5.out.alloc _).second hown6 hg6 (by simp only [World.size_alloc]; exact hw6)
                obtain ⟨nao', ncap', rfl⟩ := own_shape6 hown6
                have x1 := hp6.c1
                have xf := hp6.f1
                have HP6 : Hid _ := hp6
                clear hp6 hown6 hg6 hw6 q1 q1a HP5
                go_wp2
                go_roundw
                case rel => exact ⟨k + 1, af, _, _, _, _, _, by go_num, HPL.out.step hlt HO.out hafs (HP6.out.setc1 _)⟩
                case measure => simp [intOf]; omega
        · have hdec := HDEC.out.trans (HPL.out.ends hlt)
          have HDEN : Hid (Fl.decode s = if q < s.length then (([], []), false, (q : Int)) else if 0 ≤ Fl.shaped acc then (([], []), false, st.getD (Fl.shaped acc).toNat 0) else ((ls, acc), true, 0)) := hdec
          have e0 : wr.cell? ⟨b, 0, none⟩ = some (.slice ao s.length cap) := (HPL.out.fr.o 0 (by decide) (by decide)).trans HD.out.c0
          have e1 := HPL.out.a1
          clear hdec
          by_cases hql : q < s.length
          · have bq : ((q : Int) == (s.length : Int)) = false := beq_eq_false_iff_ne.2 (by omega)
            have HBD : Hid (Fl.decode s = (([], []), false, (q : Int))) := HDEN.out.trans (if_pos hql)
            go_wp2_with fail
            go_still_tail 15, (by kernel_rfl)
            go_wp2_with (go_at_call 67; refine (need_bad _ _ _).mono ?_; rintro e w6 ⟨rfl, hb6⟩; exact ⟨rfl, proofEnds_bad HBD.out (HPL.out.pc.drew.below hb6).fr.g⟩)
          · have hqe : q = s.length := by omega
            have bq : ((q : Int) == (s.length : Int)) = true := beq_iff_eq.2 (by omega)
            have HDE2 : Hid (Fl.decode s = if 0 ≤ Fl.shaped acc then (([], []), false, st.getD (Fl.shaped acc).toNat 0) else ((ls, acc), true, 0)) := HDEN.out.trans (if_neg hql)
            clear hqe
            go_wp2_with fail
            go_still_tail 15, (by kernel_rfl)
            change wpList _ _ _ _ _ wr.drew
            have HPD : Hid (PC w b P0 (.slice lao ls.length lcap) wr.drew q sv nv (((.slice lao ls.length lcap), ls) :: famOf acc lvs) sv nv k k (st.map (Value.int .i64)) (flat acc lvs)) := HPL.out.pc.drew
            have HALL : Hid (Calls Tryz.prog 72 #[.pointer (some ⟨b, 0, none⟩), nv] wr.drew (AllEnds acc st wr.drew)) :=
              needAll_any acc st nv sv b wr.drew HPL.out.nodes HPL.out.starts (by rw [HPL.out.hst, HPL.out.hacc]) (by rw [HPL.out.hacc]; omega) HPL.out.hgood HPD.out.a34
            have g1 : wr.drew.cell? ⟨P0, 1, none⟩ = some nv := HPD.out.c1
            obtain ⟨nao, ncap, rfl⟩ := own_shape6 HPL.out.hl.hn
            have HLOC : Hid (∀ w7, Below wr.drew.heap.size wr.drew w7 → IntsAt w7.heap.size w7 (.slice lao ls.length lcap) ls ∧ NodesAt w7.heap.size w7 (.slice nao k ncap) acc) := fun w7 h7 =>
              ⟨(HPL.out.locals.below (w' := w7) ⟨h7.os, h7.tape, h7.output, h7.size, h7.block⟩).mono h7.size, (HPL.out.nodes.below (w' := w7) ⟨h7.os, h7.tape, h7.output, h7.size, h7.block⟩).mono h7.size⟩
            generalize wr.drew = W1 at *
            by_cases hsh : 0 ≤ Fl.shaped acc
            · have HBD : Hid (Fl.decode s = (([], []), false, st.getD (Fl.shaped acc).toNat 0)) := HDE2.out.trans (if_pos hsh)
              go_wp2_with (first | (go_at_call 67; refine (need_ok _ _ _).mono ?_; rintro e w6 ⟨rfl, hw6⟩; rw [hw6]; clear hw6) | (go_at_call 72; refine (HALL.out).mono ?_; rintro e w7 ⟨hb7, hbad, _⟩; obtain rfl := hbad hsh; exact ⟨rfl, proofEnds_bad HBD.out (HPD.out.below hb7).fr.g⟩))
            · have HBD : Hid (Fl.decode s = ((ls, acc), true, 0)) := HDE2.out.trans (if_neg hsh)
              have HSH : Hid (¬ 0 ≤ Fl.shaped acc) := hsh
              clear hsh
              go_wp2_with (first | (go_at_call 67; refine (need_ok _ _ _).mono ?_; rintro e w6 ⟨rfl, hw6⟩; rw [hw6]; clear hw6) | (go_at_call 72; refine (HALL.out).mono ?_; rintro e w7 ⟨hb7, _, hgood⟩; obtain rfl := hgood (by have := HSH.out; omega); have hp7 := HPD.out.below hb7; obtain ⟨hl7, hn7⟩ := HLOC.out w7 hb7; have r0 := hp7.d0; have r1 := hp7.d1; have rf := hp7.f0; have s0 := hp7.c0; have s1 := hp7.c1; have HP7 : Hid _ := hp7; have HL7 : Hid _ := hl7; have HN7 : Hid _ := hn7; clear hp7 hl7 hn7 hb7 hgood))
              have hRP := HP7.out.hR
              have q0 : ((w7.setCell ⟨w.heap.size, 0, none⟩ (.slice lao ls.length lcap)).setCell ⟨w.heap.size, 1, none⟩ (.slice nao k ncap)).cell? ⟨w.heap.size, 0, none⟩ = some (.slice lao ls.length lcap) := (nd_off (by decide)).trans (nd_same r0)
              have q1 : ((w7.setCell ⟨w.heap.size, 0, none⟩ (.slice lao ls.length lcap)).setCell ⟨w.heap.size, 1, none⟩ (.slice nao k ncap)).cell? ⟨w.heap.size, 1, none⟩ = some (.slice nao k ncap) := nd_same ((nd_off (by decide)).trans r1)
              have q0' : (w7.setCell ⟨w.heap.size, 0, none⟩ (.slice lao ls.length lcap)).cell? ⟨w.heap.size, 0, none⟩ = some (.slice lao ls.length lcap) := nd_same r0
              have hl9 := (HP7.out.hl.stay (Stay.grown (grown_set w7 w.heap.size 0 (.slice lao ls.length lcap)) (fun k e => by injection e with e; omega))).stay (Stay.grown (grown_set _ w.heap.size 1 (.slice nao k ncap)) (fun k e => by injection e with e; omega))
              have hacc := HPL.out.hacc
              have hlvs := HPL.out.hlvs
              refine bodyPost_ret (v := .agg #[.slice lao ls.length lcap, .slice nao k ncap]) (by simp [results, Tryz.results41, go_sem, q0, q1, q0']) rfl ⟨((HP7.out.fr.andGrown (grown_set w7 w.heap.size 0 (.slice lao ls.length lcap)) hlb (fun k e => by injection e with e; omega)).andGrown (grown_set _ w.heap.size 1 (.slice nao k ncap)) hlb (fun k e => by injection e with e; omega)).g, fun h => (by rw [HBD.out] at h; cases h), fun _ => ?_⟩
              rw [HBD.out]
              refine ⟨_, _, rfl, fun w9 hst => ?_⟩
              have hla := hl9.stay (hst.mono (by omega))
              exact ⟨(hla.hall (.slice lao ls.length lcap, ls) (by simp)).1.1, nodes_of_own (by rw [hacc]; exact hla.hn) (by rw [hacc, hlvs]) (fun i hi => (hla.hall _ (by simp only [List.mem_cons]; right; exact famOf_mem acc lvs i (by rw [hacc, hlvs]) hi)).1.1)⟩
end Go.Proofs.YtbihjgfbocpobaaGreatDoor

/- The program: a panic of its own is caught. -/
set_option linter.unusedSimpArgs false
set_option linter.unusedVariables false
namespace Go.Proofs.YtbihjgfbocpobaaGreatDoor
open Go.RowKit

set_option maxRecDepth 100000 in
set_option maxHeartbeats 800000 in
theorem caught_panicking (p : Addr) (n pl : Int) (v0 : Value) (older : List PanicEntry) (w : World) (hc : w.cell? p = some v0) (hz : w.frozen? p = false) (hlt : p.block < w.heap.size) :
    CallsD Tryz.prog 66 #[.pointer (some p)] (.panicking ({ v := .iface 126 (.agg #[.int .i64 n, .int .i64 pl]), recovered := false } :: older)) w fun e u' w' =>
      e = .returned (.tuple #[]) ∧ u' = .panicking ({ v := .iface 126 (.agg #[.int .i64 n, .int .i64 pl]), recovered := true } :: older) ∧ ∃ o, w' = ((w.alloc o).alloc (.cells #[.int .i64 n, .int .i64 pl] 75)).setCell p (.iface 71 (.pointer (some ⟨w.heap.size + 1, 0, none⟩))) := by
  have hc2 : ∀ o o', ((w.alloc o).alloc o').cell? p = some v0 := fun o o' => by rw [((((Below.refl w.heap.size w).alloc (Nat.le_refl _) o).alloc (by simp) o').cell hlt)]; exact hc
  have hz2 : ∀ o o', ((w.alloc o).alloc o').frozen? p = false := fun o o' => by rw [((((Below.refl w.heap.size w).alloc (Nat.le_refl _) o).alloc (by simp) o').frozen hlt)]; exact hz
  have hta : ∀ W, (Instr.typeAssert (.iface 126 (.agg #[.int .i64 n, .int .i64 pl])) 20 126 true).run Tryz.prog W = .ok (.tuple #[.agg #[.int .i64 n, .int .i64 pl], .bool true]) W := fun W => by kernel_rfl
  refine callsD_of_wpS Tryz.func66 rfl fun c₀ cs hu => ?_
  apply wpS_seq
  apply wpS_region
  simp [wpOpsS, go_sem, recoverD, hu, Tryz.ntmps66, Exit.thenS]
  have ht : (#[Value.pointer (some p)] ++ ((Array.replicate 21 undef).setIfInBounds 3 (.iface 126 (.agg #[.int .i64 n, .int .i64 pl]))).setIfInBounds 0 (.iface 126 (.agg #[.int .i64 n, .int .i64 pl])) : Array Value) = #[.pointer (some p), (.iface 126 (.agg #[.int .i64 n, .int .i64 pl])), undef, undef, (.iface 126 (.agg #[.int .i64 n, .int .i64 pl])), undef, undef, undef, undef, undef, undef, undef, undef, undef, undef, undef, undef, undef, undef, undef, undef, undef] := by kernel_rfl
  rw [ht]
  clear ht
  refine wpS_of_wp ?_
  have HU : Hid (c₀.mode = FrameMode.panicking ({ v := .iface 126 (.agg #[.int .i64 n, .int .i64 pl]), recovered := false } :: older)) := hu
  clear hu
  go_wp2_with fail
  refine ⟨by simp, _, rfl, .tuple #[], ?_, rfl, rfl, _, rfl⟩
  simp [results, Tryz.results66]

set_option maxRecDepth 100000 in
set_option maxHeartbeats 800000 in
theorem caught_idle (p : Addr) (w : World) : CallsD Tryz.prog 66 #[.pointer (some p)] .returning w fun e u' w' => e = .returned (.tuple #[]) ∧ u' = .returning ∧ w' = w := by
  refine callsD_of_wpS Tryz.func66 rfl fun c₀ cs hu => ?_
  apply wpS_seq
  apply wpS_region
  simp [wpOpsS, go_sem, recoverD, hu, Tryz.ntmps66, Exit.thenS]
  have ht : (#[Value.pointer (some p)] ++ ((Array.replicate 21 undef).setIfInBounds 3 .nilIface).setIfInBounds 0 .nilIface : Array Value) = #[.pointer (some p), .nilIface, undef, undef, .nilIface, undef, undef, undef, undef, undef, undef, undef, undef, undef, undef, undef, undef, undef, undef, undef, undef, undef] := by kernel_rfl
  rw [ht]
  clear ht
  refine wpS_of_wp ?_
  have HU : Hid (c₀.mode = .returning) := hu
  clear hu
  go_wp2_with fail
  refine ⟨by simp, .returning, ?_, .tuple #[], ?_, rfl, rfl, rfl⟩
  · have h9 := HU.out
    cases c₀; simp_all
  · simp [results, Tryz.results66]

set_option maxRecDepth 100000 in
set_option maxHeartbeats 2000000 in
theorem catch_any (f : FuncId) (cap : Array Value) (w : World) (Rr : World → Prop) (Rp : Int → Int → World → Prop) (hin : ∀ W, (callFunc f cap).run Tryz.prog W = .ok (.enter f cap) W)
    (hdo : Calls Tryz.prog f cap (w.alloc (.cells #[.nilIface] 43)) fun e w' => w'.cell? ⟨w.heap.size, 0, none⟩ = some .nilIface ∧ w'.frozen? ⟨w.heap.size, 0, none⟩ = false ∧ ((e = .returned (.tuple #[]) ∧ Rr w') ∨ ∃ n pl, e = .panicked (stopAt n pl) ∧ Rp n pl w')) :
    Calls Tryz.prog 39 #[.func (.func f) #[] cap] w fun e w' => (∃ w1, e = .returned .nilIface ∧ Rr w1 ∧ w' = w1.setCell ⟨w.heap.size, 0, none⟩ .nilIface) ∨
      ∃ n pl w1 o, e = .returned (.iface 71 (.pointer (some ⟨w1.heap.size + 1, 0, none⟩))) ∧ Rp n pl w1 ∧ w' = ((w1.alloc o).alloc (.cells #[.int .i64 n, .int .i64 pl] 75)).setCell ⟨w.heap.size, 0, none⟩ (.iface 71 (.pointer (some ⟨w1.heap.size + 1, 0, none⟩))) := by
  have hmf : ∀ (fn : Fn) (first cap : Array Value) (w : World), (Instr.makeFunc fn first cap).run Tryz.prog w = .ok (.func fn first cap) w := fun _ _ _ _ => rfl
  have HDO : Hid (Calls Tryz.prog f cap (w.alloc (.cells #[.nilIface] 43)) fun e w' => w'.cell? ⟨w.heap.size, 0, none⟩ = some .nilIface ∧ w'.frozen? ⟨w.heap.size, 0, none⟩ = false ∧ ((e = .returned (.tuple #[]) ∧ Rr w') ∨ ∃ n pl, e = .panicked (stopAt n pl) ∧ Rp n pl w')) := hdo
  clear hdo
  go_enter_defers Tryz.func39, Tryz.ntmps39
  go_wp2_with fail
  refine (HDO.out).mono ?_
  rintro e w1 ⟨hc, hz, ⟨rfl, hr⟩ | ⟨n, pl, rfl, hp⟩⟩
  · have HR : Hid (Rr w1) := hr
    clear hr
    go_wp2_with fail
    refine leaves_cons (f := 66) (args := #[.pointer (some ⟨w.heap.size, 0, none⟩)]) (by simp) (by simp [go_sem]) ?_
    refine (caught_idle ⟨w.heap.size, 0, none⟩ _).mono ?_
    rintro e u' w'' ⟨rfl, rfl, rfl⟩
    have q0 : (w1.setCell ⟨w.heap.size, 0, none⟩ .nilIface).cell? ⟨w.heap.size, 0, none⟩ = some .nilIface := World.cell?_setCell_same' _ _ _ (by simp [hc])
    refine ⟨.nilIface, by simp [results, Tryz.results39, go_sem, q0], .inl ⟨w1, rfl, HR.out, rfl⟩⟩
  · have hlt : w.heap.size < w1.heap.size := World.block_lt_of_cell? w1 _ hc
    refine leaves_cons (f := 66) (args := #[.pointer (some ⟨w.heap.size, 0, none⟩)]) (by simp) (by simp [go_sem]) ?_
    refine (caught_panicking ⟨w.heap.size, 0, none⟩ n pl .nilIface [] w1 hc hz hlt).mono ?_
    rintro e u' w'' ⟨rfl, rfl, o, rfl⟩
    have q0 : (((w1.alloc o).alloc (.cells #[.int .i64 n, .int .i64 pl] 75)).setCell ⟨w.heap.size, 0, none⟩ (.iface 71 (.pointer (some ⟨w1.heap.size + 1, 0, none⟩)))).cell? ⟨w.heap.size, 0, none⟩ = some (.iface 71 (.pointer (some ⟨w1.heap.size + 1, 0, none⟩))) := by
      refine World.cell?_setCell_same' _ _ _ ?_
      rw [World.cell?_alloc_past _ _ _ (by simp; omega), World.cell?_alloc_past _ _ _ hlt, hc]; rfl
    refine ⟨.iface 71 (.pointer (some ⟨w1.heap.size + 1, 0, none⟩)), by simp [results, Tryz.results39, go_sem, q0], .inr ⟨n, pl, w1, o, rfl, hp, rfl⟩⟩
end Go.Proofs.YtbihjgfbocpobaaGreatDoor

/- The program: what Catch does for Decode. -/
set_option linter.unusedSimpArgs false
set_option linter.unusedVariables false
namespace Go.Proofs.YtbihjgfbocpobaaGreatDoor
open Go.RowKit

theorem Stay.setCell (base : Nat) (w : World) (b i : Nat) (v : Value) (hb : b < base) : Stay base w (w.setCell ⟨b, i, none⟩ v) := Stay.grown (grown_set w b i v) (fun k e => by injection e with e; omega)
/-- How the reading within Catch ends. -/
def DoEnds (r : (List Int × List Fl.Node) × Bool × Int) (b D P : Nat) (w : World) (e : Ending) (w' : World) : Prop :=
  (r.2.1 = false → e = .panicked (stopAt 8 r.2.2) ∧ w.grownBy w' (some b)) ∧
  (r.2.1 = true → ∃ lv nv w1, e = .returned (.tuple #[]) ∧ w.grownBy w1 (some b) ∧ w' = (w1.setCell ⟨P, 0, none⟩ lv).setCell ⟨P, 1, none⟩ nv ∧ (∃ a n c a' n' c', lv = .slice a n c ∧ nv = .slice a' n' c') ∧ ∀ w'', Stay w.heap.size w1 w'' → IntsAt w''.heap.size w'' lv r.1.1 ∧ NodesAt w''.heap.size w'' nv r.1.2)

set_option maxRecDepth 100000 in
set_option maxHeartbeats 2000000 in
theorem do_decode {b D P : Nat} {ao : Option Addr} {cap : Nat} {s : List UInt8} {w : World} (h : Dr w b ao cap s 0) (hr : RulesAt w b 2) (h34 : w.cell? ⟨b, 34, none⟩ = some (.slice none 0 0)) (hfb : ∀ j, w.frozen? ⟨b, j, none⟩ = false)
    (hd : w.cell? ⟨D, 0, none⟩ = some (.pointer (some ⟨b, 0, none⟩))) (hp0 : w.cell? ⟨P, 0, none⟩ = some (.slice none 0 0)) (hp1 : w.cell? ⟨P, 1, none⟩ = some (.slice none 0 0)) (hpf : ∀ j, w.frozen? ⟨P, j, none⟩ = false) (hne : P ≠ b) :
    Calls Tryz.prog 40 #[.pointer (some ⟨D, 0, none⟩), .pointer (some ⟨P, 0, none⟩)] w (DoEnds (Fl.decode s) b D P w) := by
  have HW : Hid (Calls Tryz.prog 41 #[.pointer (some ⟨b, 0, none⟩)] w fun e w' => ProofEnds (Fl.decode s) b w e w') := proof_walk h hr h34 hfb
  clear h hr h34 hfb
  have hPlt : P < w.heap.size := World.block_lt_of_cell? w _ hp0
  go_enter Tryz.func40, Tryz.ntmps40
  go_wp2_with fail
  refine (HW.out).mono ?_
  rintro e w1 ⟨hg, hbad, hgood⟩
  cases hr : (Fl.decode s).2.1 with
  | false =>
    obtain rfl := hbad hr
    exact ⟨rfl, fun _ => ⟨rfl, hg⟩, fun h => by rw [hr] at h; cases h⟩
  | true =>
    obtain ⟨lv, nv, rfl, hst⟩ := hgood hr
    obtain ⟨hl, hn⟩ := hst w1 ⟨Nat.le_refl _, fun _ _ _ => rfl⟩
    obtain ⟨la, lc, rfl, _⟩ := id hl
    obtain ⟨na, nc, rfl, _⟩ := id hn
    have q0 : w1.cell? ⟨P, 0, none⟩ = some (.slice none 0 0) := hg.cell hp0 (by simpa using hne)
    have q1 : w1.cell? ⟨P, 1, none⟩ = some (.slice none 0 0) := hg.cell hp1 (by simpa using hne)
    have qf : ∀ j, w1.frozen? ⟨P, j, none⟩ = false := fun j => (World.frozen?_of_block (w := w) (a := ⟨P, j, none⟩) (hg.block P hPlt (by simpa using hne))).trans (hpf j)
    have HG : Hid (w.grownBy w1 (some b)) := hg
    have HST : Hid _ := hst
    have HRR : Hid ((Fl.decode s).2.1 = true) := hr
    clear hbad hgood hl hn hst hg hr
    go_wp2
    go_end0
    exact ⟨fun h => (by rw [HRR.out] at h; cases h), fun _ => ⟨_, _, w1, rfl, HG.out, rfl, ⟨_, _, _, _, _, _, rfl, rfl⟩, HST.out⟩⟩
end Go.Proofs.YtbihjgfbocpobaaGreatDoor
