/- Texts Lni CdSix Cdf Cdg. -/
import Derived.Test.YtbihjgfbocpobaaGreatDoorM16
import Derived.Laws.CopyOwn
/- The program's readNode: what it holds. -/
set_option linter.unusedSimpArgs false
set_option linter.unusedVariables false
namespace Go.Proofs.YtbihjgfbocpobaaGreatDoor
open Go.RowKit

/-- How readNode ends. -/
def NodeIn (o : Option Fl.Node) (P : Nat) (nv : Value) (acc : List Fl.Node) (lvs : List Value) (w : World) (e : Ending) (w' : World) : Prop :=
  (o = none ∧ e = .returned (.bool false) ∧ Below w.heap.size w w') ∨
  ∃ nd w1 w2 nv' lvn, o = some nd ∧ e = .returned (.bool true) ∧ Below w.heap.size w w1 ∧ IntsAt w1.heap.size w1 lvn nd.list ∧ (∀ b, lvn.ownBlock = some b → w.heap.size ≤ b) ∧
    w2.ownsRow (P + 1) 53 6 nv' (acc.length + 1) (flat acc lvs ++ nodeCells nd lvn) ∧ w1.grownBy w2 nv.ownBlock ∧ (nv'.ownBlock = nv.ownBlock ∨ nv'.ownBlock = some w1.heap.size) ∧ w' = w2.setCell ⟨P, 1, none⟩ nv'

/-- The loop that lays a node's numbers: j of them are laid. -/
structure RnL (W wr : World) (N : Nat) (kd lev : Int) (lv : Value) (xs : List Int) (j : Nat) : Prop where
  nd : Nd wr N kd lev ((xs.take j).getD 0 0) ((xs.take j).getD 1 0) ((xs.take j).getD 2 0) lv
  g : W.grownBy wr (some N)
theorem RnL.zero {W : World} {N : Nat} {kd lev : Int} {lv : Value} {xs : List Int} (h : Nd W N kd lev 0 0 0 lv) : RnL W W N kd lev lv xs 0 := ⟨by simpa using h, World.grownBy.refl _ _⟩
theorem RnL.next {W wr : World} {N : Nat} {kd lev : Int} {lv : Value} {xs : List Int} {j : Nat} (h : RnL W wr N kd lev lv xs j) (hj : j < xs.length) (h3 : j < 3) : RnL W (wr.setCell ⟨N, 2 + j, none⟩ (.int .i64 (xs.getD j 0))) N kd lev lv xs (j + 1) := by
  have hg : W.grownBy (wr.setCell ⟨N, 2 + j, none⟩ (.int .i64 (xs.getD j 0))) (some N) := by
    have g1 := h.g
    have g2 := grown_set wr N (2 + j) (.int .i64 (xs.getD j 0))
    exact ⟨g2.os.trans g1.os, g2.tape.trans g1.tape, g2.output.trans g1.output, Nat.le_trans g1.size g2.size, fun i hi hne => (g2.block i (Nat.lt_of_lt_of_le hi g1.size) hne).trans (g1.block i hi hne)⟩
  refine ⟨?_, hg⟩
  have hnd := h.nd
  have : j = 0 ∨ j = 1 ∨ j = 2 := by omega
  rcases this with rfl | rfl | rfl
  · match xs, hj with
    | x :: r, _ => exact hnd.set2 _
  · match xs, hj with
    | x :: y :: r, _ => exact hnd.set3 _
  · match xs, hj with
    | x :: y :: z :: r, _ => exact hnd.set4 _
theorem RnL.cell {W wr : World} {N : Nat} {kd lev : Int} {lv : Value} {xs : List Int} {j : Nat} (h : RnL W wr N kd lev lv xs j) (h3 : j < 3) : ∃ v, wr.cell? ⟨N, 2 + j, none⟩ = some (.int .i64 v) := by
  have : j = 0 ∨ j = 1 ∨ j = 2 := by omega
  rcases this with rfl | rfl | rfl
  · exact ⟨_, h.nd.c2⟩
  · exact ⟨_, h.nd.c3⟩
  · exact ⟨_, h.nd.c4⟩
/-- A node's numbers, all laid. -/
theorem RnL.all {W wr : World} {N : Nat} {kd lev : Int} {lv : Value} {xs : List Int} (h : RnL W wr N kd lev lv xs xs.length) : Nd wr N kd lev (xs.getD 0 0) (xs.getD 1 0) (xs.getD 2 0) lv := by
  have := h.nd; simpa using this
theorem Nd.cells {w : World} {N : Nat} {kd lev a b c : Int} {l : Value} {ls : List Int} (h : Nd w N kd lev a b c l) : ∀ j u, (nodeCells ⟨kd, lev, a, b, c, ls⟩ l)[j]? = some u → w.cell? ⟨N, j, none⟩ = some u := by
  intro j u hj
  simp only [nodeCells] at hj
  match j with
  | 0 => simp at hj; subst hj; exact h.c0
  | 1 => simp at hj; subst hj; exact h.c1
  | 2 => simp at hj; subst hj; exact h.c2
  | 3 => simp at hj; subst hj; exact h.c3
  | 4 => simp at hj; subst hj; exact h.c4
  | 5 => simp at hj; subst hj; exact h.c5
  | j + 6 => simp at hj

theorem fields_numF7 (k : Nat) (h : k < 8) : Fl.fields (k : Int) = if k = 7 then -1 else (numF k : Int) := by
  by_cases h7 : k = 7
  · subst h7; rw [if_pos rfl]; rfl
  · rw [if_neg h7]; exact fields_numF k h h7
/-- The table's cells of a kind. -/
theorem rule_cells {w : World} {T : Nat} (hT : w.heap[T]? = some (.cells rulesArr 88 (0, 0))) (k : Nat) (hk : k < 8) : w.cell? ⟨T, k * 4 + 1, none⟩ = some (.int .i64 (numF k : Nat)) ∧ w.cell? ⟨T, k * 4 + 2, none⟩ = some (.bool (k == 7)) := by
  rcases (show k = 0 ∨ k = 1 ∨ k = 2 ∨ k = 3 ∨ k = 4 ∨ k = 5 ∨ k = 6 ∨ k = 7 by omega) with rfl | rfl | rfl | rfl | rfl | rfl | rfl | rfl <;> exact ⟨(cell_of_row _ _ _ _ _ _ hT).trans rfl, (cell_of_row _ _ _ _ _ _ hT).trans rfl⟩
end Go.Proofs.YtbihjgfbocpobaaGreatDoor

/- A node that is handed back. -/
set_option linter.unusedSimpArgs false
set_option linter.unusedVariables false
namespace Go.Proofs.YtbihjgfbocpobaaGreatDoor
open Go.RowKit

/-- How the reading of a node ends. -/
def NodeEnds (r : Fl.Node × Int × Int) (b : Nat) (w : World) (e : Ending) (w' : World) : Prop :=
  Mv w w' b ∧ (r.2.1 < 0 → e = .panicked (stopAt 8 r.2.2)) ∧ (¬ r.2.1 < 0 → ∃ lv, e = .returned (nodeV r.1 lv) ∧ IntsAt w'.heap.size w' lv r.1.list ∧ (∀ bb, lv.ownBlock = some bb → w.heap.size ≤ bb) ∧ w'.cell? ⟨b, 1, none⟩ = some (.int .i64 r.2.1))
theorem nodeEnds_bad {r : Fl.Node × Int × Int} {pl : Int} {b : Nat} {w w' : World} (hr : r = (Fl.nd0, -1, pl)) (m : Mv w w' b) : NodeEnds r b w (.panicked (stopAt 8 pl)) w' := by
  subst hr; exact ⟨m, fun _ => rfl, fun h => absurd (show (-1 : Int) < 0 by decide) h⟩
theorem nodeEnds_six {r : Fl.Node × Int × Int} {nd : Fl.Node} {q b B : Nat} {w w1 : World} {lv v0 v1 v2 v3 v4 v5 : Value} (hr : r = (nd, (q : Int), 0)) (m : Mv w w1 b) (hb : b < w.heap.size) (hB : w.heap.size = B) (c : w1.cell? ⟨b, 1, none⟩ = some (.int .i64 (q : Int)))
    (hl : IntsAt w1.heap.size w1 lv nd.list) (hown : ∀ bb, lv.ownBlock = some bb → B < bb) :
    NodeEnds r b w (.returned (nodeV nd lv)) ((((((w1.setCell ⟨B, 0, none⟩ v0).setCell ⟨B, 1, none⟩ v1).setCell ⟨B, 2, none⟩ v2).setCell ⟨B, 3, none⟩ v3).setCell ⟨B, 4, none⟩ v4).setCell ⟨B, 5, none⟩ v5) := by
  subst hr hB
  have hne : nd.list ≠ [] → lv.ownBlock ≠ some w.heap.size := fun _ h => by have := hown _ h; omega
  have hs : ∀ {W : World} {i : Nat} {u : Value}, W.cell? ⟨b, 1, none⟩ = some (.int .i64 (q : Int)) → (W.setCell ⟨w.heap.size, i, none⟩ u).cell? ⟨b, 1, none⟩ = some (.int .i64 (q : Int)) := fun {W i u} h => (grown_set W w.heap.size i u).cell h (by simp; omega)
  refine ⟨(((((m.andSet hb (Nat.le_refl _) _ _).andSet hb (Nat.le_refl _) _ _).andSet hb (Nat.le_refl _) _ _).andSet hb (Nat.le_refl _) _ _).andSet hb (Nat.le_refl _) _ _).andSet hb (Nat.le_refl _) _ _, fun h => by simp only at h; omega, fun _ => ⟨lv, rfl, ?_, fun bb h => by have := hown bb h; omega, hs (hs (hs (hs (hs (hs c)))))⟩⟩
  exact ints_set (ints_set (ints_set (ints_set (ints_set (ints_set hl hne) hne) hne) hne) hne) hne
theorem oneFin_bad {p k : Nat} {nd : Fl.Node} {e : Int} (h : (prem nd).any (fun x => decide ((k : Int) ≤ x)) = true) : Fl.oneFin p k nd e = (Fl.nd0, -1, (p : Int)) := by unfold Fl.oneFin; rw [if_pos h]
theorem oneFin_good {p k : Nat} {nd : Fl.Node} {e : Int} (h : (prem nd).any (fun x => decide ((k : Int) ≤ x)) = false) : Fl.oneFin p k nd e = (nd, e, 0) := by unfold Fl.oneFin; rw [if_neg (by rw [h]; decide)]
end Go.Proofs.YtbihjgfbocpobaaGreatDoor

/- The program: a node is read. -/
set_option linter.unusedSimpArgs false
set_option linter.unusedVariables false
namespace Go.Proofs.YtbihjgfbocpobaaGreatDoor
open Go.RowKit

set_option maxRecDepth 100000 in
set_option maxHeartbeats 8000000 in
theorem node_walk {b : Nat} {ao : Option Addr} {cap : Nat} {s : List UInt8} {p : Nat} {w : World} (h : Dr w b ao cap s p) (hr : RulesAt w b 2) (k : Nat) (hk : k ≤ 200) :
    Calls Tryz.prog 71 #[.pointer (some ⟨b, 0, none⟩), .int .i64 k] w fun e w' => NodeEnds (Fl.one s p k) b w e w' := by
  have hlb := h.lt
  have hp := h.hp
  have hs := h.hs
  have hc1 : ∀ o, (w.alloc o).cell? ⟨b, 1, none⟩ = some (.int .i64 p) := fun o => by rw [World.cell?_alloc_past _ _ _ hlb]; exact h.c1
  have HD : Hid (Dr w b ao cap s p) := h
  have HR : Hid (RulesAt w b 2) := hr
  clear h hr
  go_enter Tryz.func71, Tryz.ntmps71
  go_wp2_with fail
  obtain ⟨W0, hW0⟩ : ∃ W0, W0 = w.alloc (.cells #[.int .i64 0, .int .i64 0, .int .i64 0, .int .i64 0, .int .i64 0, .slice none 0 0] 53) := ⟨_, rfl⟩
  rw [← hW0]
  have hm0 : Mv w W0 b := by rw [hW0]; exact (Mv.refl w b).alloc hlb _
  have hcc : W0.cell? ⟨b, 1, none⟩ = some (.int .i64 p) := by rw [hW0]; exact hc1 _
  have HM0 : Hid (Mv w W0 b) := hm0
  have HD0 : Hid (Dr W0 b ao cap s p) := HD.out.move hm0 hcc hp
  have HR0 : Hid (Nd W0 w.heap.size 0 0 0 0 0 (.slice none 0 0)) := by rw [hW0]; exact Nd.new _ _ _ _ _ _ _ _
  have hz0 : W0.heap.size = w.heap.size + 1 := by rw [hW0]; simp
  have HZ0 : Hid (W0.heap.size = w.heap.size + 1) := hz0
  clear hm0 hc1 hW0 hz0
  by_cases hlt : p < s.length
  · refine (next_ok HD0.out hlt).mono ?_
    rintro e w1 ⟨rfl, hm1, hd1⟩
    obtain ⟨x, hx⟩ : ∃ x, x = (s.getD p 0).toNat := ⟨_, rfl⟩
    rw [← hx]
    have hx256 : x < 256 := by rw [hx]; exact (s.getD p 0).toNat_lt
    have HX : Hid (x = (s.getD p 0).toNat) := hx
    have HM1 : Hid (Mv w w1 b) := HM0.out.trans hm1
    have hz1 : w.heap.size + 1 ≤ w1.heap.size := by have := hm1.g.size; have := HZ0.out; omega
    have HR1 : Hid (Nd w1 w.heap.size 0 0 0 0 0 (.slice none 0 0)) := HR0.out.grown hm1.g (by simp; omega)
    have HD1 : Hid (Dr w1 b ao cap s (p + 1)) := HD0.out.move hm1 hd1 (by omega)
    clear hx hm1 hd1 hcc
    by_cases hx8 : x < 8
    · have hd8 : decide ((x : Int) < 8) = true := decide_eq_true (by omega)
      have hd8n : decide (x < 8) = true := decide_eq_true hx8
      go_wp2_with fail
      obtain ⟨W1, hW1⟩ : ∃ W1, W1 = w1.alloc (.cells #[.int .i64 x, .int .i64 0, .int .i64 0, .int .i64 0, .int .i64 0, .slice none 0 0] 53) := ⟨_, rfl⟩
      rw [← hW1]
      obtain ⟨N, hN⟩ : ∃ N, N = w1.heap.size := ⟨_, rfl⟩
      have hNd : Nd W1 N x 0 0 0 0 (.slice none 0 0) := by rw [hW1, hN]; exact Nd.new _ _ _ _ _ _ _ _
      have hwN : w.heap.size < N := by omega
      have HR2 : Hid (Nd W1 w.heap.size 0 0 0 0 0 (.slice none 0 0)) := by rw [hW1]; exact HR1.out.grown (World.grownBy_alloc _ _ none) (by simp)
      rw [← hN]
      have HM2 : Hid (Mv w W1 b) := by rw [hW1]; exact HM1.out.alloc hlb _
      have HD2 : Hid (Dr W1 b ao cap s (p + 1)) := by rw [hW1]; exact HD1.out.move ((Mv.refl w1 b).alloc HD1.out.lt _) (by rw [World.cell?_alloc_past _ _ _ HD1.out.lt]; exact HD1.out.c1) (by omega)
      have HND : Hid (Nd W1 N x 0 0 0 0 (.slice none 0 0)) := hNd
      have n0 := hNd.c0
      clear hW1 hN hNd HD1
      refine (need_ok _ _ _).mono ?_
      rintro e w' ⟨rfl, rfl⟩
      go_wp2_with fail
      go_quiet (fail)
      go_wp2_with fail
      obtain ⟨W2, hW2⟩ : ∃ W2, W2 = w'.drewN nq := ⟨_, rfl⟩
      rw [← hW2]
      have HM3 : Hid (Mv w W2 b) := by rw [hW2]; exact HM2.out.drewN _
      have HD3 : Hid (Dr W2 b ao cap s (p + 1)) := by rw [hW2]; exact HD2.out.move ((Mv.refl w' b).drewN _) HD2.out.c1 (by omega)
      have HN3 : Hid (Nd W2 N x 0 0 0 0 (.slice none 0 0)) := by rw [hW2]; exact HND.out.drewN _
      have HR3 : Hid (Nd W2 w.heap.size 0 0 0 0 0 (.slice none 0 0)) := by rw [hW2]; exact HR2.out.drewN _
      clear n0 hW2 HM2 HD2 HND HR2 HR1 HM1 HR0 HM0 HD0 HZ0
      refine (number_max HD3.out).mono ?_
      rintro e w2 ⟨hm2, hbad, hgood⟩
      by_cases hv : (Fl.num s (p + 1)).2.1 < 0
      · obtain rfl := hbad hv
        exact ⟨rfl, nodeEnds_bad (one_level_bad hlt HX.out hx8 hv) (HM3.out.trans hm2)⟩
      · obtain ⟨rfl, hd2⟩ := hgood hv
        obtain ⟨v, q, hnum, hpq, hqs, hv31⟩ := num_split s (p + 1) (by omega) hv
        rw [hnum] at hd2 ⊢
        simp only at hd2 ⊢
        have HNUM : Hid (Fl.num s (p + 1) = ((v : Int), (q : Int), 0)) := hnum
        have HM4 : Hid (Mv w w2 b) := HM3.out.trans hm2
        have hbN : b ≠ N := by omega
        have hN4 := HN3.out.grown hm2.g (by simpa using fun h => hbN h.symm)
        have HR4 : Hid (Nd w2 w.heap.size 0 0 0 0 0 (.slice none 0 0)) := HR3.out.grown hm2.g (by simp; omega)
        have k1 := hN4.c1
        have kf := hN4.f
        have HN4 : Hid (Nd w2 N x 0 0 0 0 (.slice none 0 0)) := hN4
        have HD4 : Hid (w2.cell? ⟨b, 1, none⟩ = some (.int .i64 (q : Int))) := hd2
        clear hv hbad hgood hnum hd2 hN4 hm2
        go_wp2_with fail
        obtain ⟨W3, hW3⟩ : ∃ W3, W3 = w2.setCell ⟨N, 1, none⟩ (.int .i64 (v : Int)) := ⟨_, rfl⟩
        rw [← hW3]
        have g3 : w2.grownBy W3 (some N) := by rw [hW3]; exact grown_set _ _ _ _
        have HM5 : Hid (Mv w W3 b) := by rw [hW3]; exact HM4.out.andSet hlb (by omega) _ _
        have HN5 : Hid (Nd W3 N x v 0 0 0 (.slice none 0 0)) := by rw [hW3]; exact HN4.out.set1 _
        have HR5 : Hid (Nd W3 w.heap.size 0 0 0 0 0 (.slice none 0 0)) := HR4.out.grown g3 (by simp; omega)
        have HD5 : Hid (W3.cell? ⟨b, 1, none⟩ = some (.int .i64 (q : Int))) := g3.cell HD4.out (by simpa using hbN)
        have hNW := HN5.out.lt
        clear hW3 g3 HM4 HN4 HR4 HD4 k1 kf HD3 HN3 HR3 HM3
        have hrx := (HR.out.move HM5.out (by omega)) x hx8
        refine (places_any b (2 + x * 4) N (numF x) W3 (numF_le x) (HM5.out.lt hlb) hrx.1).mono ?_
        rintro e w3 ⟨rfl, hw3⟩
        have HL : Hid (NodeLoop s q (numF x) w w3 b N W3.heap.size x v 0 q []) := by
          have g4 : W3.grownBy w3 none := by rw [hw3]; exact ⟨rfl, rfl, rfl, by simp, fun k hk _ => Below.heap_alloc _ _ _ hk⟩
          refine ⟨⟨by omega, hqs, rfl, rfl⟩, HM5.out.andGrown g4 hlb (fun k e => by cases e), g4.cell HD5.out (by simp), HN5.out.grown g4 (by simp), HR5.out.grown g4 (by simp), ?_, ?_, ?_, hwN, hNW⟩
          all_goals (rw [hw3]; simp)
        obtain ⟨PB, hPB⟩ : ∃ PB, PB = W3.heap.size := ⟨_, rfl⟩
        rw [← hPB] at HL ⊢
        have hnf := numF_le x
        obtain ⟨f, hf⟩ : ∃ f, f = numF x := ⟨_, rfl⟩
        rw [← hf] at HL hnf ⊢
        have HF : Hid (f = numF x) := hf
        clear hPB hw3 HM5 HN5 HR5 HD5 hrx hf
        go_wp2_with fail
        go_loopw [36] (fun i wr => ∃ (j q' : Nat) (xs : List Int), i = .int .i64 j ∧ NodeLoop s q f w wr b N PB x v j q' xs) (fun i _ => f - (intOf i).toNat)
        case atStart => exact ⟨0, q, [], rfl, HL.out⟩
        case round =>
          clear HL
          obtain ⟨j, q', xs, rfl, hl⟩ := hrel
          have HL : Hid (NodeLoop s q f w wr b N PB x v j q' xs) := hl
          have hjf := hl.hn.1
          clear hl
          have HDj : Hid (Dr wr b ao cap s q') := HD.out.move HL.out.hm HL.out.hc HL.out.hn.2.1
          by_cases hlt2 : j < f
          · have hx7 : x ≠ 7 := fun h => by have := HF.out; rw [h] at this; have h0 : numF 7 = 0 := rfl; omega
            have hpj := HL.out.ptr (show j < 3 by omega)
            by_cases hv : (Fl.num s q').2.1 < 0
            · go_wp2_with (go_at_call 70; refine (number_max HDj.out).mono ?_; rintro e w4 ⟨hm4, hbad, _⟩; obtain rfl := hbad hv)
              refine ⟨rfl, nodeEnds_bad ?_ (HL.out.hm.trans hm4)⟩
              rw [one_plain hlt HX.out hx8 hx7 HNUM.out, ← HF.out]
              have := HL.out.hn.bad hlt2 (v := (Fl.num s q').1) (m := (Fl.num s q').2.1) (b := (Fl.num s q').2.2) rfl hv
              rw [this]; rfl
            · obtain ⟨y, m, hnum, _, _, _⟩ := num_split s q' HL.out.hn.2.1 hv
              have HNM : Hid (Fl.num s q' = ((y : Int), (m : Int), 0)) := hnum
              have HCA : Hid (Calls Tryz.prog 70 #[.pointer (some ⟨b, 0, none⟩), .int .i64 0, .int .i64 2147483647] wr fun e w' => NumEnds ((y : Int), (m : Int), 0) b wr e w') := by rw [← hnum]; exact number_max HDj.out
              clear hv hnum
              go_wp2_with (go_at_call 70; refine (HCA.out).mono ?_; rintro e w4 ⟨hm4, _, hgood⟩; obtain ⟨rfl, hd4⟩ := hgood (by simp only; omega); have kj := hm4.g.cell (HL.out.cell (show j < 3 by omega)) (by simpa using fun h => hbN h.symm); have kf : ∀ o, w4.frozen? ⟨N, o, none⟩ = false := (HL.out.nd.grown hm4.g (by simpa using fun h => hbN h.symm)).f)
              go_roundw
              case rel => exact ⟨j + 1, m, xs ++ [(y : Int)], by go_num, HL.out.next hlb hlt2 (by omega) HNM.out hm4 hd4⟩
              case measure => simp [intOf]; omega
          · have hjf' : j = f := by omega
            have hnums : Fl.nums s q f = (xs, (q' : Int), 0) := by
              have := HL.out.hn.2.2.2; rw [this, hjf', Nat.sub_self]; rfl
            have HNS : Hid (Fl.nums s q f = (xs, (q' : Int), 0)) := hnums
            have hrx := (HR.out.move HL.out.hm (by omega)) x hx8
            have hl2 := hrx.2.1
            clear hnums hjf'
            by_cases hx7 : x = 7
            · have b7 : (x == 7) = true := beq_iff_eq.2 hx7
              rw [b7] at hl2
              have HX7 : Hid (x = 7) := hx7
              have h3 := hrx.2.2
              have HRX : Hid (wr.cell? ⟨b, 2 + x * 4 + 3, none⟩ = some (.func (.func (byF x)) #[] #[])) := h3
              have hf0 : f = 0 := by have := HF.out; rw [hx7] at this; exact this
              have hqq : q' = q ∧ xs = [] := by
                have h1 := HNS.out; rw [hf0] at h1
                have h2 : Fl.nums s q 0 = ([], (q : Int), 0) := rfl
                rw [h2] at h1; simp only [Prod.mk.injEq] at h1
                exact ⟨by omega, h1.1.symm⟩
              obtain ⟨rfl, rfl⟩ := hqq
              have HCN : Hid (Calls Tryz.prog 70 #[.pointer (some ⟨b, 0, none⟩), .int .i64 0, .int .i64 16] wr fun e w' => NumEnds (Fl.numB s q' 0 16) b wr e w') := number_walk HDj.out 0 16 (by omega) (by omega)
              have hnd0 : Hid (Nd wr N x v 0 0 0 (.slice none 0 0)) := HL.out.nd
              clear hrx h3 hx7 hf0
              go_wp2_with fail
              refine (HCN.out).mono ?_
              rintro e w4 ⟨hm4, hbad, hgood⟩
              by_cases hv2 : (Fl.numB s q' 0 16).2.1 < 0
              · obtain rfl := hbad hv2
                exact ⟨rfl, nodeEnds_bad (one_list_bad hlt (by rw [← HX.out, HX7.out]) HNUM.out hv2 hqs) (HL.out.hm.trans hm4)⟩
              · obtain ⟨rfl, hd4⟩ := hgood hv2
                obtain ⟨m, q2, hnb, hnm, hq2, hq2s, _, hm16⟩ := numB_split s q' 0 16 hqs hv2
                rw [hnb] at hd4 ⊢
                simp only at hd4 ⊢
                have HNM : Hid (Fl.num s q' = ((m : Int), (q2 : Int), 0)) := hnm
                have HM4 : Hid (Mv w w4 b) := HL.out.hm.trans hm4
                have HD4 : Hid (Dr w4 b ao cap s q2) := HDj.out.move hm4 hd4 hq2s
                have HN4 : Hid (Nd w4 N x v 0 0 0 (.slice none 0 0)) := hnd0.out.grown hm4.g (by simpa using fun h => hbN h.symm)
                have HR4 : Hid (Nd w4 w.heap.size 0 0 0 0 0 (.slice none 0 0)) := HL.out.rs.grown hm4.g (by simp; omega)
                have hm16' : m ≤ 16 := by omega
                have HRX4 : Hid (w4.cell? ⟨b, 2 + x * 4 + 3, none⟩ = some (.func (.func (byF x)) #[] #[])) := (hm4.o _ (by omega)).trans HRX.out
                clear hbad hgood hv2 hnb hnm hd4 hm4 hl2 HRX hnd0 HCN
                go_wp2_with fail
                refine (numbers_walk HD4.out m (by omega)).mono ?_
                rintro e w5 ⟨hm5, hbad, hgood⟩
                have HONE0 := cone_list (k := k) hlt (by rw [← HX.out, HX7.out]) HNUM.out HNM.out hm16'
                by_cases hv3 : (Fl.nums s q2 m).2.1 < 0
                · obtain rfl := hbad hv3
                  rw [if_pos hv3] at HONE0
                  exact ⟨rfl, nodeEnds_bad HONE0 (HM4.out.trans hm5)⟩
                · obtain ⟨lv, rfl, hown, hd5⟩ := hgood hv3
                  rw [if_neg hv3] at HONE0
                  have hnok := Fl.nums_ok s q2 m hq2s
                  obtain ⟨ls, q3, hns⟩ : ∃ (ls : List Int) (q3 : Nat), Fl.nums s q2 m = (ls, (q3 : Int), (Fl.nums s q2 m).2.2) := ⟨(Fl.nums s q2 m).1, (Fl.nums s q2 m).2.1.toNat, by rw [Int.toNat_of_nonneg (by omega)]⟩
                  rw [hns] at HONE0 hown hd5
                  simp only at HONE0 hown hd5
                  obtain ⟨lao, lcap, rfl⟩ := own_shape6 hown
                  have HONE : Hid (Fl.one s p k = Fl.oneFin p k ⟨x, v, 0, 0, 0, ls⟩ (q3 : Int)) := by show _ = _; rw [HONE0, HX7.out]; rfl
                  have hNn4 := HN4.out.lt
                  have hownN : ∀ bb, (Value.slice lao ls.length lcap).ownBlock = some bb → N < bb := fun bb h => by have := (hown.lt bb h).1; omega
                  have hnd5 := HN4.out.grown hm5.g (by simpa using fun h => hbN h.symm)
                  have k5 := hnd5.c5
                  have kf := hnd5.f
                  have HN5 : Hid (Nd w5 N x v 0 0 0 (.slice none 0 0)) := hnd5
                  have HR5 : Hid (Nd w5 w.heap.size 0 0 0 0 0 (.slice none 0 0)) := HR4.out.grown hm5.g (by simp; omega)
                  have HM5' : Hid (Mv w w5 b) := HM4.out.trans hm5
                  have HI5 : Hid (IntsAt w5.heap.size w5 (.slice lao ls.length lcap) ls) := IntsAt.of_own hown
                  have HD5' : Hid (w5.cell? ⟨b, 1, none⟩ = some (.int .i64 (q3 : Int))) := hd5
                  have HRX5 : Hid (w5.cell? ⟨b, 2 + x * 4 + 3, none⟩ = some (.func (.func (byF x)) #[] #[])) := (hm5.o _ (by omega)).trans HRX4.out
                  have HOW : Hid (∀ bb, (Value.slice lao ls.length lcap).ownBlock = some bb → N < bb) := hownN
                  clear HONE0 hnok hns hown hd5 hnd5 hm5 hbad hgood hv3 hownN
                  go_wp2_with fail
                  obtain ⟨W6, hW6⟩ : ∃ W6, W6 = w5.setCell ⟨N, 5, none⟩ (.slice lao ls.length lcap) := ⟨_, rfl⟩
                  rw [← hW6]
                  have g6 : w5.grownBy W6 (some N) := by rw [hW6]; exact grown_set _ _ _ _
                  have HM6 : Hid (Mv w W6 b) := by rw [hW6]; exact HM5'.out.andSet hlb (by omega) _ _
                  have HN6 : Hid (Nd W6 N x v 0 0 0 (.slice lao ls.length lcap)) := by rw [hW6]; exact HN5.out.set5 _
                  have HR6 : Hid (Nd W6 w.heap.size 0 0 0 0 0 (.slice none 0 0)) := HR5.out.grown g6 (by simp; omega)
                  have HD6 : Hid (W6.cell? ⟨b, 1, none⟩ = some (.int .i64 (q3 : Int))) := g6.cell HD5'.out (by simpa using hbN)
                  have HI6 : Hid (IntsAt W6.heap.size W6 (.slice lao ls.length lcap) ls) := by rw [hW6]; exact ints_set HI5.out (fun _ h => by have h9 : N < N := HOW.out N h; omega)
                  have HRX6 : Hid (W6.cell? ⟨b, 2 + x * 4 + 3, none⟩ = some (.func (.func (byF x)) #[] #[])) := g6.cell HRX5.out (by simpa using hbN)
                  clear hW6 g6 k5 kf HM5' HN5 HR5 HD5' HI5 HRX5
                  refine (isBehind_any b (2 + x * 4) (byF x) k (.pointer (some ⟨N, 0, none⟩)) (prem ⟨x, v, 0, 0, 0, ls⟩) W6 HRX6.out (by_enter x _ _) (by_any (HN6.out.nodeAt HI6.out))).mono ?_
                  rintro e w7 ⟨rfl, hb7⟩
                  have HM7 : Hid (Mv w w7 b) := HM6.out.andBelow hb7 hlb
                  have HC7 : Hid (w7.cell? ⟨b, 1, none⟩ = some (.int .i64 (q3 : Int))) := (hb7.cell (p := ⟨b, 1, none⟩) (HM6.out.lt hlb)).trans HD6.out
                  have g7 : W6.grownBy w7 none := ⟨hb7.os, hb7.tape, hb7.output, hb7.size, fun k hk _ => hb7.block k hk⟩
                  have HI7 : Hid (IntsAt w7.heap.size w7 (.slice lao ls.length lcap) ls) := ints_below HI6.out hb7
                  have hn7 := HN6.out.grown g7 (by simp)
                  have hr7 := HR6.out.grown g7 (by simp)
                  obtain ⟨e0, e1, e2, e3, e4, e5, _⟩ := hn7
                  obtain ⟨d0, d1, d2, d3, d4, d5, df⟩ := hr7
                  obtain ⟨q0, q1, q2', q3', q4, q5⟩ := six_same (w1 := w7) (B := w.heap.size) (.int .i64 x) (.int .i64 v) (.int .i64 0) (.int .i64 0) (.int .i64 0) (.slice lao ls.length lcap) d0 d1 d2 d3 d4 d5
                  clear hb7 g7 HM6 HN6 HR6 HD6 HI6 HRX6
                  by_cases hany : (prem ⟨x, v, 0, 0, 0, ls⟩).any (fun y => decide ((k : Int) ≤ y)) = true
                  · rw [hany]
                    have HAN : Hid (Fl.one s p k = (Fl.nd0, -1, (p : Int))) := HONE.out.trans (oneFin_bad hany)
                    clear hany q0 q1 q2' q3' q4 q5
                    go_wp2_with fail
                    refine (need_bad _ _ _).mono ?_
                    rintro e w6 ⟨rfl, hb6⟩
                    exact ⟨rfl, nodeEnds_bad HAN.out (HM7.out.andBelow hb6 hlb)⟩
                  · have hany' : (prem ⟨x, v, 0, 0, 0, ls⟩).any (fun y => decide ((k : Int) ≤ y)) = false := by simpa using hany
                    rw [hany']
                    have HAN : Hid (Fl.one s p k = (⟨x, v, 0, 0, 0, ls⟩, (q3 : Int), 0)) := HONE.out.trans (oneFin_good hany')
                    clear hany hany'
                    go_wp2_with fail
                    refine (need_ok _ _ _).mono ?_
                    rintro e w6 ⟨rfl, rfl⟩
                    go_wp2
                    exact bodyPost_ret (v := .agg #[.int .i64 x, .int .i64 v, .int .i64 0, .int .i64 0, .int .i64 0, .slice lao ls.length lcap]) (by simp [results, Tryz.results71, go_sem, q0, q1, q2', q3', q4, q5]) rfl (nodeEnds_six HAN.out HM7.out hlb rfl HC7.out HI7.out (fun bb h => by have := HOW.out bb h; omega))
            · have b7 : (x == 7) = false := beq_eq_false_iff_ne.2 hx7
              rw [b7] at hl2
              have h3 := hrx.2.2
              have HRX : Hid (wr.cell? ⟨b, 2 + x * 4 + 3, none⟩ = some (.func (.func (byF x)) #[] #[])) := h3
              clear hrx h3
              go_wp2_with fail
              have HI : Hid (IntsAt wr.heap.size wr (.slice none 0 0) ([] : List Int)) := IntsAt.nil _ _
              refine (isBehind_any b (2 + x * 4) (byF x) k (.pointer (some ⟨N, 0, none⟩)) (prem ⟨x, v, xs.getD 0 0, xs.getD 1 0, xs.getD 2 0, []⟩) wr HRX.out (by_enter x _ _) (by_any (HL.out.nd.nodeAt HI.out))).mono ?_
              rintro e w5 ⟨rfl, hb5⟩
              have HM5 : Hid (Mv w w5 b) := HL.out.hm.andBelow hb5 hlb
              have HONE : Hid (Fl.one s p k = Fl.oneFin p k ⟨x, v, xs.getD 0 0, xs.getD 1 0, xs.getD 2 0, []⟩ (q' : Int)) := by
                show _ = _
                rw [one_plain hlt HX.out hx8 hx7 HNUM.out, ← HF.out, HNS.out, if_neg (by simp only; omega)]
              have HC5 : Hid (w5.cell? ⟨b, 1, none⟩ = some (.int .i64 (q' : Int))) := (hb5.cell (p := ⟨b, 1, none⟩) (HL.out.hm.lt hlb)).trans HL.out.hc
              have g5 : wr.grownBy w5 none := ⟨hb5.os, hb5.tape, hb5.output, hb5.size, fun k hk _ => hb5.block k hk⟩
              have hn5 := HL.out.nd.grown g5 (by simp)
              have hr5 := HL.out.rs.grown g5 (by simp)
              obtain ⟨e0, e1, e2, e3, e4, e5, _⟩ := hn5
              obtain ⟨d0, d1, d2, d3, d4, d5, df⟩ := hr5
              obtain ⟨q0, q1, q2, q3, q4, q5⟩ := six_same (w1 := w5) (B := w.heap.size) (.int .i64 x) (.int .i64 v) (.int .i64 (xs.getD 0 0)) (.int .i64 (xs.getD 1 0)) (.int .i64 (xs.getD 2 0)) (.slice none 0 0) d0 d1 d2 d3 d4 d5
              clear hb5 g5 hl2 HI
              by_cases hany : (prem ⟨x, v, xs.getD 0 0, xs.getD 1 0, xs.getD 2 0, []⟩).any (fun y => decide ((k : Int) ≤ y)) = true
              · rw [hany]
                have HAN : Hid (Fl.one s p k = (Fl.nd0, -1, (p : Int))) := HONE.out.trans (oneFin_bad hany)
                clear hany q0 q1 q2 q3 q4 q5
                go_wp2_with fail
                refine (need_bad _ _ _).mono ?_
                rintro e w6 ⟨rfl, hb6⟩
                exact ⟨rfl, nodeEnds_bad HAN.out (HM5.out.andBelow hb6 hlb)⟩
              · have hany' : (prem ⟨x, v, xs.getD 0 0, xs.getD 1 0, xs.getD 2 0, []⟩).any (fun y => decide ((k : Int) ≤ y)) = false := by simpa using hany
                rw [hany']
                have HAN : Hid (Fl.one s p k = (⟨x, v, xs.getD 0 0, xs.getD 1 0, xs.getD 2 0, []⟩, (q' : Int), 0)) := HONE.out.trans (oneFin_good hany')
                clear hany hany'
                go_wp2_with fail
                refine (need_ok _ _ _).mono ?_
                rintro e w6 ⟨rfl, rfl⟩
                generalize xs.getD 0 0 = xa at *
                generalize xs.getD 1 0 = xb at *
                generalize xs.getD 2 0 = xc at *
                go_wp2
                exact bodyPost_ret (v := .agg #[.int .i64 x, .int .i64 v, .int .i64 xa, .int .i64 xb, .int .i64 xc, .slice none 0 0]) (by simp [results, Tryz.results71, go_sem, q0, q1, q2, q3, q4, q5]) rfl (nodeEnds_six HAN.out HM5.out hlb rfl HC5.out (IntsAt.nil _ _) (fun bb h => by simp [Value.ownBlock] at h))
    · have hd8 : decide ((x : Int) < 8) = false := decide_eq_false (by omega)
      have hd8n : decide (x < 8) = false := decide_eq_false hx8
      go_wp2_with fail
      refine (need_bad _ _ _).mono ?_
      rintro e w' ⟨rfl, hb⟩
      refine ⟨rfl, nodeEnds_bad ?_ ((HM1.out.alloc hlb _).andBelow hb hlb)⟩
      unfold Fl.one; rw [if_neg (by omega)]
      simp only [← HX.out]
      rw [if_pos (by unfold Fl.fields; repeat' split <;> omega)]
  · refine (next_end HD0.out hlt).mono ?_
    rintro e w1 ⟨rfl, hm1⟩
    refine ⟨rfl, nodeEnds_bad ?_ (HM0.out.trans hm1)⟩
    have : p = s.length := by omega
    unfold Fl.one; rw [if_pos this, this]
end Go.Proofs.YtbihjgfbocpobaaGreatDoor

/- The program: what is in a node. -/
set_option linter.unusedSimpArgs false
set_option linter.unusedVariables false
namespace Go.Proofs.YtbihjgfbocpobaaGreatDoor
open Go.RowKit

/-- What is in a node, cell by cell: ahead of its list, and with it. -/
def contentHead (nd : Fl.Node) : List Value := [.int .i64 nd.kind, .int .i64 nd.level, .int .i64 nd.a, .int .i64 nd.b, .int .i64 nd.c, .int .i64 nd.list.length]
def contentCur (nd : Fl.Node) : List Value := contentHead nd ++ List.replicate 16 (Value.int .i64 0)
def contentL (nd : Fl.Node) : List Value := contentHead nd ++ (nd.list.map (Value.int .i64) ++ List.replicate (16 - nd.list.length) (Value.int .i64 0))
theorem contentL_len (nd : Fl.Node) (h : nd.list.length ≤ 16) : (contentL nd).length = 22 := by simp [contentL, contentHead]; omega
theorem contentL_one (nd : Fl.Node) : (contentL nd).toArray.all (·.oneCell') = true := by
  rw [List.all_toArray, List.all_eq_true]; intro x hx
  simp only [contentL, contentHead, List.mem_append, List.mem_cons, List.mem_map, List.mem_replicate, List.not_mem_nil, or_false] at hx
  rcases hx with (rfl | rfl | rfl | rfl | rfl | rfl) | ⟨y, _, rfl⟩ | ⟨_, rfl⟩ <;> rfl
theorem content_splice (nd : Fl.Node) : splice (contentCur nd) 6 (nd.list.map (Value.int .i64)) = contentL nd := by
  unfold splice contentCur contentL
  have h6 : (contentHead nd).length = 6 := rfl
  rw [List.take_left' h6, List.drop_append, List.drop_of_length_le (by rw [h6]; simp), List.nil_append, List.drop_replicate, h6]
  simp
theorem Tryz.infoInt1 : (Tryz.prog.info? 3).map (·.size) = some 1 := by kernel_rfl
theorem Tryz.infoContent : (Tryz.prog.info? 160).map (·.size) = some 22 := by kernel_rfl

set_option maxRecDepth 100000 in
set_option maxHeartbeats 8000000 in
theorem contentOf_any {w : World} {nb no : Nat} {nd : Fl.Node} {lv : Value} (h : NodeAt w nb no nd lv) (h16 : nd.list.length ≤ 16) :
    Calls Tryz.prog 87 #[.pointer (some ⟨nb, no, none⟩)] w fun e w' => e = .returned (.agg (contentL nd).toArray) ∧ Below w.heap.size w w' := by
  obtain ⟨ao, cap, rfl, hcap, hm, hx⟩ := id h.hl
  have HX : Hid (nd.list ≠ [] → ∃ b off, ao = some ⟨b, off, none⟩ ∧ b < w.heap.size ∧ ∀ i, i < nd.list.length → w.cell? ⟨b, off + i, none⟩ = some (.int .i64 (nd.list.getD i 0))) := hx
  clear hx
  unfold maxLen at hm
  have hlt : nb < w.heap.size := World.block_lt_of_cell? w _ h.c0
  have H5 : Hid (w.cell? ⟨nb, no + 5, none⟩ = some (.slice ao nd.list.length cap)) := h.c5
  have a0 : ∀ o, (w.alloc o).cell? ⟨nb, no, none⟩ = some (.int .i64 nd.kind) := fun o => by rw [World.cell?_alloc_past _ _ _ hlt]; exact h.c0
  have a1 : ∀ o, (w.alloc o).cell? ⟨nb, no + 1, none⟩ = some (.int .i64 nd.level) := fun o => by rw [World.cell?_alloc_past _ _ _ hlt]; exact h.c1
  have a2 : ∀ o, (w.alloc o).cell? ⟨nb, no + 2, none⟩ = some (.int .i64 nd.a) := fun o => by rw [World.cell?_alloc_past _ _ _ hlt]; exact h.c2
  have a3 : ∀ o, (w.alloc o).cell? ⟨nb, no + 3, none⟩ = some (.int .i64 nd.b) := fun o => by rw [World.cell?_alloc_past _ _ _ hlt]; exact h.c3
  have a4 : ∀ o, (w.alloc o).cell? ⟨nb, no + 4, none⟩ = some (.int .i64 nd.c) := fun o => by rw [World.cell?_alloc_past _ _ _ hlt]; exact h.c4
  have a5 : ∀ o, (w.alloc o).cell? ⟨nb, no + 5, none⟩ = some (.slice ao nd.list.length cap) := fun o => by rw [World.cell?_alloc_past _ _ _ hlt]; exact h.c5
  clear h
  go_enter Tryz.func87, Tryz.ntmps87
  go_wp2_with fail
  obtain ⟨W0, hW0⟩ : ∃ W0, W0 = w.alloc (.cells #[.int .i64 0, .int .i64 0, .int .i64 0, .int .i64 0, .int .i64 0, .int .i64 0, .int .i64 0, .int .i64 0, .int .i64 0, .int .i64 0, .int .i64 0, .int .i64 0, .int .i64 0, .int .i64 0, .int .i64 0, .int .i64 0, .int .i64 0, .int .i64 0, .int .i64 0, .int .i64 0, .int .i64 0, .int .i64 0] 160) := ⟨_, rfl⟩
  rw [← hW0]
  have hlt0 : nb < W0.heap.size := by rw [hW0]; simp; omega
  have b0 : W0.cell? ⟨nb, no, none⟩ = some (.int .i64 nd.kind) := by rw [hW0]; exact a0 _
  have b1 : W0.cell? ⟨nb, no + 1, none⟩ = some (.int .i64 nd.level) := by rw [hW0]; exact a1 _
  have b2 : W0.cell? ⟨nb, no + 2, none⟩ = some (.int .i64 nd.a) := by rw [hW0]; exact a2 _
  have b3 : W0.cell? ⟨nb, no + 3, none⟩ = some (.int .i64 nd.b) := by rw [hW0]; exact a3 _
  have b4 : W0.cell? ⟨nb, no + 4, none⟩ = some (.int .i64 nd.c) := by rw [hW0]; exact a4 _
  have b5 : W0.cell? ⟨nb, no + 5, none⟩ = some (.slice ao nd.list.length cap) := by rw [hW0]; exact a5 _
  have HW0 : Hid (W0 = w.alloc (.cells #[.int .i64 0, .int .i64 0, .int .i64 0, .int .i64 0, .int .i64 0, .int .i64 0, .int .i64 0, .int .i64 0, .int .i64 0, .int .i64 0, .int .i64 0, .int .i64 0, .int .i64 0, .int .i64 0, .int .i64 0, .int .i64 0, .int .i64 0, .int .i64 0, .int .i64 0, .int .i64 0, .int .i64 0, .int .i64 0] 160)) := hW0
  clear hW0 a0 a1 a2 a3 a4 a5
  obtain ⟨S, hS⟩ : ∃ S : World → Prop, S = fun w' => w'.cell? ⟨nb, no, none⟩ = some (.int .i64 nd.kind) ∧ w'.cell? ⟨nb, no + 1, none⟩ = some (.int .i64 nd.level) ∧ w'.cell? ⟨nb, no + 2, none⟩ = some (.int .i64 nd.a) ∧ w'.cell? ⟨nb, no + 3, none⟩ = some (.int .i64 nd.b) ∧ w'.cell? ⟨nb, no + 4, none⟩ = some (.int .i64 nd.c) ∧ w'.cell? ⟨nb, no + 5, none⟩ = some (.slice ao nd.list.length cap) := ⟨_, rfl⟩
  have HS : Hid (∀ w', S w' → w'.cell? ⟨nb, no, none⟩ = some (.int .i64 nd.kind) ∧ w'.cell? ⟨nb, no + 1, none⟩ = some (.int .i64 nd.level) ∧ w'.cell? ⟨nb, no + 2, none⟩ = some (.int .i64 nd.a) ∧ w'.cell? ⟨nb, no + 3, none⟩ = some (.int .i64 nd.b) ∧ w'.cell? ⟨nb, no + 4, none⟩ = some (.int .i64 nd.c) ∧ w'.cell? ⟨nb, no + 5, none⟩ = some (.slice ao nd.list.length cap)) := fun w' h => by rw [hS] at h; exact h
  have HS0 : Hid (∀ o, S (W0.drew.alloc o)) := fun o => by
    have hlt0 : nb < W0.drew.heap.size := hlt0
    rw [hS]; exact ⟨(World.cell?_alloc_past _ _ _ hlt0).trans b0, (World.cell?_alloc_past _ _ _ hlt0).trans b1, (World.cell?_alloc_past _ _ _ hlt0).trans b2, (World.cell?_alloc_past _ _ _ hlt0).trans b3, (World.cell?_alloc_past _ _ _ hlt0).trans b4, (World.cell?_alloc_past _ _ _ hlt0).trans b5⟩
  refine wp_region_alloc (S := S) 26 (by kernel_rfl) (by kernel_rfl) rfl (fun c a d v w h => by cases d <;> exact h) _ _ rfl rfl rfl rfl (by rw [hS]; exact ⟨b0, b1, b2, b3, b4, b5⟩) ?_
  clear hS
  simp only [List.take_succ_cons, List.take_zero]
  refine wpHeld_hide (fun L HL => ?_)
  repeat
    refine wpHeld_step rfl (fun K hK => ?_)
    apply Exists.intro
    refine ⟨fun w' hw => ?_, ?_⟩
    · obtain ⟨s0, s1, s2, s3, s4, s5⟩ := HS.out w' hw
      go_simp
      try with_reducible rfl
    go_simp
    refine hK _ ?_
    clear hK K
  refine HL.out _ ⟨.pointer (some ⟨W0.drew.heap.size, 0, none⟩), W0.drew.alloc (.cells #[.int .i64 0, .int .i64 0, .int .i64 0, .int .i64 0, .int .i64 0, .int .i64 0, .int .i64 0, .int .i64 0, .int .i64 0, .int .i64 0, .int .i64 0, .int .i64 0, .int .i64 0, .int .i64 0, .int .i64 0, .int .i64 0, .int .i64 0, .int .i64 0, .int .i64 0, .int .i64 0, .int .i64 0, .int .i64 0] 160), W0.drew.alloc (.cells #[.int .i64 nd.kind, .int .i64 nd.level, .int .i64 nd.a, .int .i64 nd.b, .int .i64 nd.c, .int .i64 nd.list.length, .int .i64 0, .int .i64 0, .int .i64 0, .int .i64 0, .int .i64 0, .int .i64 0, .int .i64 0, .int .i64 0, .int .i64 0, .int .i64 0, .int .i64 0, .int .i64 0, .int .i64 0, .int .i64 0, .int .i64 0, .int .i64 0] 160), by kernel_rfl, HS0.out _, exec_store_new _ _ 160 rfl _ _ _ rfl rfl Tryz.infoContent rfl (by kernel_rfl), HS0.out _, ?_⟩
  clear HL
  obtain ⟨W1, hW1⟩ : ∃ W1, W1 = W0.drew.alloc (.cells #[.int .i64 nd.kind, .int .i64 nd.level, .int .i64 nd.a, .int .i64 nd.b, .int .i64 nd.c, .int .i64 nd.list.length, .int .i64 0, .int .i64 0, .int .i64 0, .int .i64 0, .int .i64 0, .int .i64 0, .int .i64 0, .int .i64 0, .int .i64 0, .int .i64 0, .int .i64 0, .int .i64 0, .int .i64 0, .int .i64 0, .int .i64 0, .int .i64 0] 160) := ⟨_, rfl⟩
  rw [← hW1]
  have hC : W0.drew.heap.size = w.heap.size + 1 := by rw [HW0.out]; simp
  rw [hC]
  have hrow : W1.heap[w.heap.size + 1]? = some (.cells (contentCur nd).toArray 160 (0, 0)) := by rw [hW1, ← hC]; exact heap_alloc_last _ _
  have hrowR : W1.heap[w.heap.size]? = some (.cells (List.replicate 22 (Value.int .i64 0)).toArray 160 (0, 0)) := by
    rw [hW1, Below.heap_alloc _ _ _ (by rw [hC]; omega)]
    show W0.heap[w.heap.size]? = _
    rw [HW0.out]; exact heap_alloc_last _ _
  have hbel : Below w.heap.size w W1 := by
    rw [hW1]
    refine Below.alloc ?_ (by rw [hC]; omega) _
    rw [HW0.out]; exact ((Below.refl _ _).alloc (Nat.le_refl _) _).drew
  have k5 : W1.cell? ⟨nb, no + 5, none⟩ = some (.slice ao nd.list.length cap) := (hbel.cell (p := ⟨nb, no + 5, none⟩) hlt).trans H5.out
  have HROW : Hid (W1.heap[w.heap.size + 1]? = some (.cells (contentCur nd).toArray 160 (0, 0))) := hrow
  have HROWR : Hid (W1.heap[w.heap.size]? = some (.cells (List.replicate 22 (Value.int .i64 0)).toArray 160 (0, 0))) := hrowR
  have HBEL : Hid (Below w.heap.size w W1) := hbel
  clear hW1 hrow hrowR hbel hC b0 b1 b2 b3 b4 b5 HS HS0 HW0 hlt0
  go_wp2_with fail
  go_still_tail 6, (by kernel_rfl)
  refine wpList_copy_splice rfl (.tmp 31) (.tmp 35) 29 29 rfl 3 Tryz.underlying29 Tryz.infoInt1 _ _ _ _ _ _ rfl rfl (w.heap.size + 1) 6 (contentCur nd) 160 HROW.out (nd.list.map (Value.int .i64)) ?hn ?hpos ?hfit ?h1 (w.heap.size + 1) W1 ?hb ?hBg ?_
  case hn => simp only [List.length_map]; show nd.list.length = min nd.list.length 16; omega
  case hpos =>
    intro hpos
    refine ⟨rfl, ?_⟩
    obtain ⟨bb, off, hao, hbb, hcell⟩ := HX.out (by intro h0; rw [h0] at hpos; simp at hpos)
    refine ⟨_, hao, fun j u hj => ?_⟩
    have hj' : j < nd.list.length := by have := (List.getElem?_eq_some_iff.1 hj).1; simpa using this
    have h2 : (⟨bb, off, none⟩ : Addr).add j = ⟨bb, off + j, none⟩ := by unfold Addr.add; split <;> simp_all
    rw [h2]
    have h3 : W1.cell? ⟨bb, off + j, none⟩ = some u := by
      rw [HBEL.out.cell (p := ⟨bb, off + j, none⟩) hbb, hcell j hj']
      rw [List.getElem?_map, List.getElem?_eq_getElem hj'] at hj
      simp only [Option.map_some, Option.some.injEq] at hj
      rw [← hj, List.getD_eq_getElem?_getD, List.getElem?_eq_getElem hj']; rfl
    exact h3
  case hfit => simp only [contentCur, contentHead, List.length_append, List.length_map, List.length_replicate, List.length_cons, List.length_nil]; omega
  case h1 => intro u hu; obtain ⟨y, _, rfl⟩ := List.mem_map.1 hu; rfl
  case hb => exact (Below.refl _ _).drew
  case hBg => omega
  intro w2 hg2 hb2
  have hg2' : w2.heap[w.heap.size + 1]? = some (.cells (contentL nd).toArray 160 (0, 0)) := by rw [hg2.out, content_splice]
  have hgR : w2.heap[w.heap.size]? = some (.cells (List.replicate 22 (Value.int .i64 0)).toArray 160 (0, 0)) := (hb2.block _ (by omega)).trans HROWR.out
  have HG : Hid (w2.heap[w.heap.size + 1]? = some (.cells (contentL nd).toArray 160 (0, 0))) := hg2'
  have HGR : Hid (w2.heap[w.heap.size]? = some (.cells (List.replicate 22 (Value.int .i64 0)).toArray 160 (0, 0))) := hgR
  have HB2 : Hid (Below w.heap.size w w2) := HBEL.out.trans (hb2.mono (by omega))
  have HI : Hid ((Tryz.prog.info? 160).map (·.size) = some (contentL nd).toArray.size) := by
    show _ = _
    rw [Tryz.infoContent]; simp only [List.size_toArray, contentL_len nd h16]
  clear hg2 hg2' hgR hb2 HROW HROWR HBEL HX H5 k5
  generalize hcl : (contentL nd).toArray = cl at *
  have HONE : Hid (cl.all (·.oneCell') = true) := by show _ = _; rw [← hcl]; exact contentL_one nd
  have HSZ : Hid ((List.replicate 22 (Value.int .i64 0)).toArray.size = cl.size) := by show _ = _; rw [← hcl]; simp only [List.size_toArray, List.length_replicate, contentL_len nd h16]
  have HCL : Hid ((contentL nd).toArray = cl) := hcl
  clear hcl
  go_wp2_with (first | (refine wpList_load_row rfl _ 160 rfl _ rfl cl _ _ HG.out _ Tryz.underlying160 rfl HI.out ?_) | (refine wpList_store_row rfl _ _ 160 rfl _ rfl _ cl rfl _ HGR.out HI.out HSZ.out HONE.out ?_))
  refine bodyPost_ret (v := .agg cl) ?_ rfl ⟨by rw [HCL.out], below_setRow HB2.out (Nat.le_refl _) _⟩
  exact results_cell1 (p := 2) (ty := 160) Tryz.results87 _ _ ⟨w.heap.size, 0, none⟩ _ rfl (run_loadVar_row _ _ _ _ cl _ _ (setRow_heap _ _ _ _ _ _ HGR.out) Tryz.underlying160 rfl HI.out)
end Go.Proofs.YtbihjgfbocpobaaGreatDoor
