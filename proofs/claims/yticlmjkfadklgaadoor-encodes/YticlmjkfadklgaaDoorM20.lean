/- Texts Cel LawA Rt3 Lwc. -/
import Derived.Test.YticlmjkfadklgaaDoorM19
import Derived.Deep.RegionWith
import Derived.Laws.IdiomStrings
/- The program: flows.Encode and plain.Encode. -/
set_option linter.unusedSimpArgs false
set_option linter.unusedVariables false
namespace Go.Proofs.YticlmjkfadklgaaDoor
open Go.RowKit

set_option maxRecDepth 100000 in
set_option maxHeartbeats 2000000 in
theorem flows_encode (ls : List Int) (ns : List Fl.Node) (la na : Option Addr) (lc nc : Nat) (w : World) (hl : IntsAt w.heap.size w (.slice la ls.length lc) ls) (hn : NodesAt w.heap.size w (.slice na ns.length nc) ns) :
    Calls Tryd.prog 23 #[.agg #[.slice la ls.length lc, .slice na ns.length nc]] w (EncEnds (Fl.encode ls ns) w) := by
  have HC : Hid (∀ w1 : World, Below w.heap.size w w1 → Calls Tryd.prog 31 #[.agg #[.slice la ls.length lc, .slice na ns.length nc]] w1 (EncEnds (Fl.encode ls ns) w1)) := fun w1 hw => encode_prog ls ns la na lc nc w1 ((hl.below hw).mono hw.size) ((hn.below hw).mono hw.size)
  clear hl hn
  go_enter Tryd.func23, Tryd.ntmps23
  go_wp2_with fail
  have hB1 : Below w.heap.size w (w.alloc (.cells #[.slice la ls.length lc, .slice na ns.length nc] 25)) := (Below.refl _ w).alloc (Nat.le_refl _) _
  refine (HC.out _ hB1).mono ?_
  rintro e wz ⟨hB, hgood, hbad⟩
  have HB : Hid (Below w.heap.size w wz) := hB1.trans (hB.mono (by simp))
  clear hB hB1 HC
  cases hr : (Fl.encode ls ns).2.1 with
  | true =>
    obtain ⟨va, n, c, rfl, ho⟩ := hgood hr
    have HO : Hid (wz.ownsRow w.heap.size 5 1 (.slice va n c) (Fl.encode ls ns).1.length ((Fl.encode ls ns).1.map bval)) := own_mono (base' := w.heap.size) ho (by simp)
    have HRR : Hid ((Fl.encode ls ns).2.1 = true) := hr
    clear hgood hbad hr ho
    go_wp2
    go_ret2
    exact ⟨HB.out, fun _ => ⟨va, n, c, rfl, HO.out⟩, fun h => by rw [HRR.out] at h; cases h⟩
  | false =>
    have HRR : Hid ((Fl.encode ls ns).2.1 = false) := hr
    by_cases h0 : (Fl.encode ls ns).2.2 < 0
    · obtain rfl := (hbad hr).1 h0
      have H0 : Hid ((Fl.encode ls ns).2.2 < 0) := h0
      clear hgood hbad hr h0
      go_wp2
      go_ret2
      exact ⟨HB.out, fun h => (by rw [HRR.out] at h; cases h), fun _ => ⟨fun _ => rfl, fun h => by have := H0.out; omega⟩⟩
    · obtain ⟨q, rfl, q0, q1⟩ := (hbad hr).2 (by omega)
      have HQ : Hid (wz.cell? ⟨q, 0, none⟩ = some (.int .i64 8) ∧ wz.cell? ⟨q, 1, none⟩ = some (.int .i64 (Fl.encode ls ns).2.2)) := ⟨q0, q1⟩
      have H0 : Hid (0 ≤ (Fl.encode ls ns).2.2) := by show 0 ≤ _; omega
      clear hgood hbad hr h0 q0 q1
      go_wp2
      go_ret2
      exact ⟨HB.out, fun h => (by rw [HRR.out] at h; cases h), fun _ => ⟨fun h => (by have := H0.out; omega), fun _ => ⟨q, rfl, HQ.out.1, HQ.out.2⟩⟩⟩

/-- How plain.Encode ends. -/
def PlainEnc (r : List UInt8 × Bool × Int) (w : World) (e : Ending) (w' : World) : Prop :=
  Below w.heap.size w w' ∧
  (r.2.1 = false → e = .returned (.tuple #[.slice none 0 0, .int .i64 8, .int .i64 r.2.2])) ∧
  (r.2.1 = true → ∃ va n c, e = .returned (.tuple #[.slice va n c, .int .i64 0, .int .i64 (-1)]) ∧ w'.ownsRow w.heap.size 5 1 (.slice va n c) r.1.length (r.1.map bval))
theorem encode_neg (ls : List Int) (ns : List Fl.Node) (h : (Fl.encode ls ns).2.2 < 0) : (Fl.encode ls ns).2.2 = -1 := by
  unfold Fl.encode at *
  split at h
  · rename_i hc; rw [if_pos hc]
  · rename_i hc
    rw [if_neg hc]
    split at h
    · rename_i hd; rw [if_pos hd]
    · rename_i hd
      rw [if_neg hd]
      split at h
      · rename_i he; simp only at h; omega
      · rename_i he; rw [if_neg he]

set_option maxRecDepth 100000 in
set_option maxHeartbeats 2000000 in
theorem plain_encode (ls : List Int) (ns : List Fl.Node) (la na : Option Addr) (lc nc : Nat) (w : World) (hE : ErrType w) (hl : IntsAt w.heap.size w (.slice la ls.length lc) ls) (hn : NodesAt w.heap.size w (.slice na ns.length nc) ns) :
    Calls Tryd.prog 12 #[.agg #[.slice la ls.length lc, .slice na ns.length nc]] w (PlainEnc (Fl.encode ls ns) w) := by
  have HC : Hid (∀ w1 : World, Below w.heap.size w w1 → Calls Tryd.prog 23 #[.agg #[.slice la ls.length lc, .slice na ns.length nc]] w1 (EncEnds (Fl.encode ls ns) w1)) := fun w1 hw => flows_encode ls ns la na lc nc w1 ((hl.below hw).mono hw.size) ((hn.below hw).mono hw.size)
  have HEB : Hid (∀ o, Below w.heap.size w o → ErrType o) := fun o ho => (ho.cell (p := ⟨0, 0, none⟩) (World.block_lt_of_cell? w _ hE)).trans hE
  clear hl hn hE
  go_enter Tryd.func12, Tryd.ntmps12
  go_wp2_with fail
  have hB1 : Below w.heap.size w (w.alloc (.cells #[.slice la ls.length lc, .slice na ns.length nc] 25)) := (Below.refl _ w).alloc (Nat.le_refl _) _
  refine (HC.out _ hB1).mono ?_
  rintro e wz ⟨hB, hgood, hbad⟩
  have HB : Hid (Below w.heap.size w wz) := hB1.trans (hB.mono (by simp))
  have hsz : w.heap.size + 1 ≤ wz.heap.size := by have := hB.size; simpa using this
  clear hB hB1 HC
  cases hr : (Fl.encode ls ns).2.1 with
  | true =>
    obtain ⟨va, n, c, rfl, ho⟩ := hgood hr
    have HO : Hid (wz.ownsRow w.heap.size 5 1 (.slice va n c) (Fl.encode ls ns).1.length ((Fl.encode ls ns).1.map bval)) := own_mono (base' := w.heap.size) ho (by simp)
    have HRR : Hid ((Fl.encode ls ns).2.1 = true) := hr
    clear hgood hbad hr ho
    go_wp2_with fail
    refine (tell_nil _).mono ?_
    rintro e w2 ⟨rfl, hB2⟩
    have HB2 : Hid (Below w.heap.size w w2) := HB.out.trans (hB2.mono (by omega))
    have HO2 : Hid (w2.ownsRow w.heap.size 5 1 (.slice va n c) (Fl.encode ls ns).1.length ((Fl.encode ls ns).1.map bval)) := HO.out.kept (row := none) ⟨hB2.os, hB2.tape, hB2.output, hB2.size, fun k hk _ => hB2.block k hk⟩ (by cases (Value.slice va n c).ownBlock <;> simp)
    clear hB2
    go_wp2
    go_ret3
    exact ⟨HB2.out, fun h => (by rw [HRR.out] at h; cases h), fun _ => ⟨va, n, c, rfl, HO2.out⟩⟩
  | false =>
    have HRR : Hid ((Fl.encode ls ns).2.1 = false) := hr
    by_cases h0 : (Fl.encode ls ns).2.2 < 0
    · obtain rfl := (hbad hr).1 h0
      have H0 : Hid ((Fl.encode ls ns).2.2 = -1) := encode_neg ls ns h0
      clear hgood hbad hr h0
      go_wp2_with fail
      refine (tell_errno 8 _ (HEB.out _ HB.out)).mono ?_
      rintro e w2 ⟨rfl, hB2⟩
      have HB2 : Hid (Below w.heap.size w w2) := HB.out.trans (hB2.mono (by omega))
      clear hB2
      go_wp2
      go_ret3
      exact ⟨HB2.out, fun _ => by rw [H0.out]; rfl, fun h => by rw [HRR.out] at h; cases h⟩
    · obtain ⟨q, rfl, q0, q1⟩ := (hbad hr).2 (by omega)
      clear hgood hbad hr h0
      go_wp2_with fail
      refine (tell_at q 0 8 (Fl.encode ls ns).2.2 _ (HEB.out _ HB.out) q0 q1).mono ?_
      rintro e w2 ⟨rfl, hB2⟩
      have HB2 : Hid (Below w.heap.size w w2) := HB.out.trans (hB2.mono (by omega))
      clear hB2 q0 q1
      go_wp2
      go_ret3
      exact ⟨HB2.out, fun _ => rfl, fun h => by rw [HRR.out] at h; cases h⟩
end Go.Proofs.YticlmjkfadklgaaDoor

/- The statements' own helpers: are two lists, two proofs the same? -/
set_option linter.unusedSimpArgs false
set_option linter.unusedVariables false
namespace Go.Proofs.YticlmjkfadklgaaDoor
open Go.RowKit

set_option maxRecDepth 100000 in
set_option maxHeartbeats 4000000 in
theorem ints_any (xs ys : List Int) (v v' : Value) (B : Nat) (w : World) (hx : IntsAt B w v xs) (hy : IntsAt B w v' ys) :
    Calls Tryd.prog 15 #[v, v'] w fun e w' => e = .returned (.bool (xs == ys)) ∧ Below w.heap.size w w' := by
  obtain ⟨ao, cap, rfl, _, hm, _⟩ := id hx
  obtain ⟨ao', cap', rfl, _, hm', _⟩ := id hy
  unfold maxLen at hm hm'
  have HX : Hid (IntsAt B w (.slice ao xs.length cap) xs) := hx
  have HY : Hid (IntsAt B w (.slice ao' ys.length cap') ys) := hy
  clear hx hy
  by_cases hlen : xs.length = ys.length
  · have b0 : ((xs.length : Int) != (ys.length : Int)) = false := by rw [hlen]; simp
    have HL : Hid (xs.length = ys.length) := hlen
    clear hlen
    go_enter Tryd.func15, Tryd.ntmps15
    go_wp2
    go_loopw [5] (fun i wr => ∃ j m : Nat, j ≤ xs.length ∧ i = .int .i64 j ∧ wr = w.drewN m ∧ ∀ t, t < j → xs.getD t 0 = ys.getD t 0) (fun i _ => xs.length - (intOf i).toNat)
    case atStart => exact ⟨0, 0, by omega, rfl, rfl, fun t ht => by omega⟩
    case round =>
      obtain ⟨j, m, hj, rfl, rfl, hsame⟩ := hrel
      have HS : Hid (∀ t, t < j → xs.getD t 0 = ys.getD t 0) := hsame
      clear hsame
      by_cases hlt : j < xs.length
      · obtain ⟨b, off, rfl, hbB, hcj⟩ := HX.out.at hlt
        obtain ⟨b', off', rfl, hbB', hcj'⟩ := HY.out.at (show j < ys.length from by have := HL.out; omega)
        obtain ⟨x, hx⟩ : ∃ x, x = xs.getD j 0 := ⟨_, rfl⟩
        obtain ⟨y, hy⟩ : ∃ y, y = ys.getD j 0 := ⟨_, rfl⟩
        rw [← hx] at hcj
        rw [← hy] at hcj'
        have HXJ : Hid (x = xs.getD j 0) := hx
        have HYJ : Hid (y = ys.getD j 0) := hy
        have hji : (j : Int) < (xs.length : Int) := by omega
        have hji' : (j : Int) < (ys.length : Int) := by have := HL.out; omega
        clear hx hy
        go_wp2_with fail
        go_quiet (fail)
        go_wp2
        · have hne : (x != y) = true := by assumption
          go_ret
          refine ⟨ret_bool ?_, by repeat (first | exact Below.refl _ _ | apply Below.drewN_of)⟩
          rw [eq_comm, beq_eq_false_iff_ne]; intro hh
          rw [bne_iff_ne] at hne; apply hne; rw [HXJ.out, HYJ.out, hh]
        · have hne : (x != y) = false := by assumption
          go_roundw
          case rel => exact ⟨j + 1, _, by omega, by go_num, rfl, fun t ht => by
            by_cases h : t < j
            · exact HS.out t h
            · have : t = j := by omega
              subst this; rw [← HXJ.out, ← HYJ.out]; simpa using hne⟩
          case measure => simp [intOf]; omega
      · have hall : xs = ys := by
          apply List.ext_getElem HL.out
          intro i hi hi'
          have := HS.out i (by omega)
          simpa [List.getD_eq_getElem?_getD, hi, hi'] using this
        have HE : Hid (xs = ys) := hall
        clear hall
        go_wp2
        go_ret
        exact ⟨ret_bool (by rw [HE.out]; simp), Below.drewN_of (Below.refl _ _) _⟩
  · have b0 : ((xs.length : Int) != (ys.length : Int)) = true := by rw [bne_iff_ne]; omega
    have HE : Hid ((xs == ys) = false) := by show (xs == ys) = false; rw [beq_eq_false_iff_ne]; intro hh; exact hlen (by rw [hh])
    clear hlen
    go_enter Tryd.func15, Tryd.ntmps15
    go_wp2
    go_ret
    exact ⟨ret_bool HE.out.symm, Below.refl _ _⟩

/-- Are two lists of nodes the same? -/
def eqNodes (a b : List Fl.Node) : Bool := decide (a.length = b.length) && (List.range a.length).all (fun i => Fl.eqNode (Fl.nth a i) (Fl.nth b i))
theorem eqNodes_iff (a b : List Fl.Node) : eqNodes a b = true ↔ a = b := by
  unfold eqNodes; rw [Bool.and_eq_true, decide_eq_true_eq, List.all_eq_true]
  constructor
  · rintro ⟨hl, h⟩
    apply List.ext_getElem hl
    intro i hi hi'
    have := (Fl.eqNode_iff _ _).1 (h i (by simpa using hi))
    simpa [Fl.nth, List.getD_eq_getElem?_getD, hi, hi'] using this
  · rintro rfl; exact ⟨rfl, fun i _ => (Fl.eqNode_iff _ _).2 rfl⟩

set_option maxRecDepth 100000 in
set_option maxHeartbeats 8000000 in
theorem proofs_any (ls ls2 : List Int) (ns ns2 : List Fl.Node) (lv nv lv2 nv2 : Value) (B : Nat) (w : World) (hB : B ≤ w.heap.size) (hl : IntsAt B w lv ls) (hn : NodesAt B w nv ns) (hl2 : IntsAt B w lv2 ls2) (hn2 : NodesAt B w nv2 ns2) :
    Calls Tryd.prog 8 #[.agg #[lv, nv], .agg #[lv2, nv2]] w fun e w' => e = .returned (.bool ((ls == ls2) && eqNodes ns ns2)) ∧ Below w.heap.size w w' := by
  obtain ⟨la, lc, rfl, _, hm1, _⟩ := id hl
  obtain ⟨lb, ld, rfl, _, hm2, _⟩ := id hl2
  obtain ⟨na, nc, rfl, _, hm3, _⟩ := id hn
  obtain ⟨nb, nd, rfl, _, hm4, _⟩ := id hn2
  unfold maxLen at hm1 hm2 hm3 hm4
  have HL : Hid (IntsAt B w (.slice la ls.length lc) ls) := hl
  have HL2 : Hid (IntsAt B w (.slice lb ls2.length ld) ls2) := hl2
  have HN : Hid (NodesAt B w (.slice na ns.length nc) ns) := hn
  have HN2 : Hid (NodesAt B w (.slice nb ns2.length nd) ns2) := hn2
  have hbb : ∀ o o', Below B w ((w.alloc o).alloc o') := fun o o' => ((Below.refl _ _).alloc hB _).alloc (by simp; omega) _
  have HI : Hid (∀ o o', Calls Tryd.prog 15 #[.slice la ls.length lc, .slice lb ls2.length ld] ((w.alloc o).alloc o') fun e w' => e = .returned (.bool (ls == ls2)) ∧ Below ((w.alloc o).alloc o').heap.size ((w.alloc o).alloc o') w') := fun o o' => ints_any ls ls2 _ _ B _ (hl.below (hbb o o')) (hl2.below (hbb o o'))
  clear hl hl2 hn hn2 hbb
  go_enter Tryd.func8, Tryd.ntmps8
  go_wp2_with fail
  refine (HI.out _ _).mono ?_
  rintro e w1 ⟨rfl, hb1⟩
  have hz1 : w.heap.size + 1 < w1.heap.size := by have := hb1.size; simp at this; omega
  have hz1' : w.heap.size < w1.heap.size := by omega
  have k1 : w1.cell? ⟨w.heap.size, 1, none⟩ = some (.slice na ns.length nc) := by rw [hb1.cell (p := ⟨w.heap.size, 1, none⟩) (by simp <;> omega)]; simp
  have k2 : w1.cell? ⟨w.heap.size + 1, 1, none⟩ = some (.slice nb ns2.length nd) := by rw [hb1.cell (p := ⟨w.heap.size + 1, 1, none⟩) (by simp)]; simp
  have HB1 : Hid (Below w.heap.size w w1) := (((Below.refl _ _).alloc (Nat.le_refl _) _).alloc (by simp) _).trans (hb1.mono (by simp; omega))
  clear hb1
  by_cases hle : ls = ls2
  · have hle' : (ls == ls2) = true := by rw [hle]; simp
    rw [hle']
    have HLE : Hid (ls = ls2) := hle
    clear hle hle'
    by_cases hnn : ns.length = ns2.length
    · have b1 : ((ns.length : Int) != (ns2.length : Int)) = false := by rw [hnn]; simp
      have HNN : Hid (ns.length = ns2.length) := hnn
      clear hnn
      go_wp2
      go_loopw [6] (fun i wr => ∃ j : Nat, j ≤ ns.length ∧ i = .int .i64 j ∧ (∀ t, t < j → Fl.eqNode (Fl.nth ns t) (Fl.nth ns2 t) = true) ∧ Below w.heap.size w wr ∧ wr.cell? ⟨w.heap.size, 1, none⟩ = some (.slice na ns.length nc) ∧ wr.cell? ⟨w.heap.size + 1, 1, none⟩ = some (.slice nb ns2.length nd) ∧ w.heap.size + 1 < wr.heap.size) (fun i _ => ns.length - (intOf i).toNat)
      case atStart => exact ⟨0, by omega, rfl, fun t ht => by omega, HB1.out, k1, k2, hz1⟩
      case round =>
        clear k1 k2 hz1 hz1'
        obtain ⟨j, hj, rfl, hall, hbr, k1, k2, hz1⟩ := hrel
        have HA : Hid (∀ t, t < j → Fl.eqNode (Fl.nth ns t) (Fl.nth ns2 t) = true) := hall
        have HBR : Hid (Below w.heap.size w wr) := hbr
        clear hall hbr
        by_cases hlt : j < ns.length
        · obtain ⟨b, off, rfl⟩ : ∃ b off, na = some ⟨b, off, none⟩ := by
            obtain ⟨ao', cap', hv', _, _, hx'⟩ := HN.out
            obtain ⟨b, off, ha, _⟩ := hx' (by intro h; rw [h] at hlt; simp at hlt)
            simp only [Value.slice.injEq] at hv'
            exact ⟨b, off, hv'.1.trans ha⟩
          obtain ⟨b', off', rfl⟩ : ∃ b off, nb = some ⟨b, off, none⟩ := by
            obtain ⟨ao', cap', hv', _, _, hx'⟩ := HN2.out
            obtain ⟨b, off, ha, _⟩ := hx' (by intro h; have := HNN.out; rw [h] at this; simp at this; rw [this] at hlt; simp at hlt)
            simp only [Value.slice.injEq] at hv'
            exact ⟨b, off, hv'.1.trans ha⟩
          obtain ⟨_, li, i0, i1, i2, i3, i4, i5, i6⟩ := (HN.out.below (HBR.out.mono hB)).at hlt
          obtain ⟨_, lk, j0, j1, j2, j3, j4, j5, j6⟩ := (HN2.out.below (HBR.out.mono hB)).at (show j < ns2.length from by have := HNN.out; omega)
          have hrz := HBR.out.size
          have HE : Hid (∀ wz, Below B wr wz → Calls Tryd.prog 16 #[nodeV (Fl.nth ns j) li, nodeV (Fl.nth ns2 j) lk] wz fun e w' => e = .returned (.bool (Fl.eqNode (Fl.nth ns j) (Fl.nth ns2 j))) ∧ Below wz.heap.size wz w') :=
            fun wz hz => equal_any _ _ _ _ B _ (by have := hz.size; omega) (i0.below hz) (j0.below hz)
          clear i0 j0
          have hjl : (j : Int) < (ns.length : Int) := by omega
          have hjl2 : (j : Int) < (ns2.length : Int) := by have := HNN.out; omega
          by_cases heq : Fl.eqNode (Fl.nth ns j) (Fl.nth ns2 j) = true
          · rw [heq] at HE
            have HEQ : Hid (Fl.eqNode (Fl.nth ns j) (Fl.nth ns2 j) = true) := heq
            clear heq
            go_wp2_with fail
            go_region_with (go_at_call 16; refine (HE.out _ (Below.refl _ _).drew).mono ?_; rintro e w4 ⟨rfl, hb4⟩)
            all_goals
              have hz4 := hb4.size
              have q1 : w4.cell? ⟨w.heap.size, 1, none⟩ = some (.slice (some ⟨b, off, none⟩) ns.length nc) := (hb4.cell (p := ⟨w.heap.size, 1, none⟩) (show w.heap.size < wr.heap.size from by omega)).trans k1
              have q2 : w4.cell? ⟨w.heap.size + 1, 1, none⟩ = some (.slice (some ⟨b', off', none⟩) ns2.length nd) := (hb4.cell (p := ⟨w.heap.size + 1, 1, none⟩) hz1).trans k2
              have HB4 : Hid (Below w.heap.size w w4) := HBR.out.trans ((Below.refl _ _).drew.trans (hb4.mono hrz))
              have hz4' : w.heap.size + 1 < w4.heap.size := Nat.lt_of_lt_of_le hz1 hz4
              clear hb4 k1 k2 i1 i2 i3 i4 i5 i6 j1 j2 j3 j4 j5 j6
              go_wp2
              go_roundw
              case rel => exact ⟨j + 1, by omega, by go_num, fun t ht => by
                by_cases h : t < j
                · exact HA.out t h
                · have : t = j := by omega
                  subst this; exact HEQ.out, HB4.out, q1, q2, hz4'⟩
              case measure => simp [intOf]; omega
          · have heq' : Fl.eqNode (Fl.nth ns j) (Fl.nth ns2 j) = false := by simpa using heq
            rw [heq'] at HE
            have HF : Hid (((ls == ls2) && eqNodes ns ns2) = false) := by
              have : eqNodes ns ns2 = false := by
                rw [Bool.eq_false_iff]; intro hh; rw [eqNodes_iff] at hh; rw [hh] at heq; exact heq ((Fl.eqNode_iff _ _).2 rfl)
              show ((ls == ls2) && eqNodes ns ns2) = false
              rw [this]; simp
            clear heq heq'
            go_wp2_with fail
            go_region_with (go_at_call 16; refine (HE.out _ (Below.refl _ _).drew).mono ?_; rintro e w4 ⟨rfl, hb4⟩)
            all_goals
              go_wp2
              go_ret
              exact ⟨ret_bool HF.out.symm, HBR.out.trans ((Below.refl _ _).drew.trans (hb4.mono hrz))⟩
        · have hfin : ((ls == ls2) && eqNodes ns ns2) = true := by
            have h2 : eqNodes ns ns2 = true := by
              unfold eqNodes; rw [decide_eq_true HNN.out, Bool.true_and, List.all_eq_true]; intro i hi; exact HA.out i (by simp at hi; omega)
            rw [h2, HLE.out]; simp
          have HF : Hid (((ls == ls2) && eqNodes ns ns2) = true) := hfin
          clear hfin
          go_wp2
          go_ret
          exact ⟨ret_bool HF.out.symm, HBR.out⟩
    · have b1 : ((ns.length : Int) != (ns2.length : Int)) = true := by rw [bne_iff_ne]; omega
      have HF : Hid (((ls == ls2) && eqNodes ns ns2) = false) := by
        have h2 : eqNodes ns ns2 = false := by unfold eqNodes; rw [decide_eq_false hnn]; rfl
        show ((ls == ls2) && eqNodes ns ns2) = false
        rw [h2]; simp
      clear hnn
      go_wp2
      go_ret
      exact ⟨ret_bool HF.out.symm, HB1.out⟩
  · have hle' : (ls == ls2) = false := by rw [beq_eq_false_iff_ne]; exact hle
    rw [hle']
    have HF : Hid (((ls == ls2) && eqNodes ns ns2) = false) := by show ((ls == ls2) && eqNodes ns ns2) = false; rw [hle']; rfl
    clear hle hle'
    go_wp2
    go_ret
    exact ⟨ret_bool HF.out.symm, HB1.out⟩
end Go.Proofs.YticlmjkfadklgaaDoor

/- Bytes there and back: a proof. -/
set_option linter.unusedSimpArgs false
set_option linter.unusedVariables false
namespace Go.Proofs.YticlmjkfadklgaaDoor
open Go.RowKit
namespace Fl

theorem head_back {s : List UInt8} (h : ¬ headAt s < 3) : s = [70, 80, 49] ++ s.drop 3 ∧ 3 ≤ s.length := by
  unfold headAt at h
  cases h0 : headOk s 0 with
  | false => rw [if_pos h0] at h; omega
  | true =>
    cases h1 : headOk s 1 with
    | false => rw [if_neg (by rw [h0]; simp), if_pos h1] at h; omega
    | true =>
      cases h2 : headOk s 2 with
      | false => rw [if_neg (by rw [h0]; simp), if_neg (by rw [h1]; simp), if_pos h2] at h; omega
      | true =>
        simp only [headOk, Bool.and_eq_true, decide_eq_true_eq, beq_iff_eq] at h0 h1 h2
        match s, h2.1 with
        | a :: b :: c :: t, _ =>
          have e0 := h0.2; have e1 := h1.2; have e2 := h2.2
          simp at e0 e1 e2
          subst e0 e1 e2
          exact ⟨rfl, by simp⟩
theorem head_coded (t : List UInt8) : headAt ([70, 80, 49] ++ t) = 3 := by
  simp [headAt, headOk]

/-- Bytes that are a proof are its bytes. -/
theorem decode_encode {s : List UInt8} (h : (decode s).2.1 = true) : encode (decode s).1.1 (decode s).1.2 = (s, true, -1) := by
  unfold decode at h ⊢
  by_cases h0 : headAt s < 3
  · rw [if_pos h0] at h; simp at h
  rw [if_neg h0] at h ⊢
  obtain ⟨hs, h3⟩ := head_back h0
  simp only at h ⊢
  have hno := num_ok s 3 h3
  by_cases h1 : (num s 3).2.1 < 0
  · rw [if_pos h1] at h; simp at h
  rw [if_neg h1] at h ⊢
  obtain ⟨v, a1, a2, a3, a4⟩ := num_back h3 (show 0 ≤ (num s 3).2.1 by omega)
  rw [a3] at hno
  rw [a1, a3] at h ⊢
  by_cases h2 : (4 : Int) < (v : Int)
  · rw [if_pos h2] at h; simp at h
  rw [if_neg h2] at h ⊢
  simp only [Int.toNat_natCast] at h ⊢
  by_cases h4 : (nums s (3 + (coded v).length) v).2.1 < 0
  · rw [if_pos h4] at h; simp at h
  rw [if_neg h4] at h ⊢
  have hlo := nums_ok s (3 + (coded v).length) v (by omega)
  obtain ⟨ls, b1, b2, b3, b4, b5⟩ := nums_back (s := s) (p := 3 + (coded v).length) (n := v) (by omega) (by omega)
  rw [b4] at hlo
  rw [b1, b4] at h ⊢
  simp only [Int.toNat_natCast] at h ⊢
  have hmo := num_ok s (3 + (coded v).length + (codedAll ls).length) (by omega)
  by_cases h5 : (num s (3 + (coded v).length + (codedAll ls).length)).2.1 < 0
  · rw [if_pos h5] at h; simp at h
  rw [if_neg h5] at h ⊢
  obtain ⟨m, c1, c2, c3, c4⟩ := num_back (s := s) (p := 3 + (coded v).length + (codedAll ls).length) (by omega) (by omega)
  rw [c3] at hmo
  rw [c1, c3] at h ⊢
  by_cases h6 : (m : Int) < 1 ∨ 200 < (m : Int)
  · rw [if_pos h6] at h; simp at h
  rw [if_neg h6] at h ⊢
  simp only [Int.toNat_natCast] at h ⊢
  generalize hr : nodesA s m 0 (3 + (coded v).length + (codedAll ls).length + (coded m).length) [] [] = r at h ⊢
  by_cases h7 : 0 ≤ r.2.2.2
  · rw [if_pos h7] at h; simp at h
  rw [if_neg h7] at h ⊢
  obtain ⟨ns, d1, d2, d3, d4⟩ := nodesA_back s m 0 (3 + (coded v).length + (codedAll ls).length + (coded m).length) [] [] (by omega) (by rw [hr]; omega)
  rw [hr] at d1 d3
  rw [List.nil_append] at d1
  rw [d1, d3] at h ⊢
  by_cases h8 : ((3 + (coded v).length + (codedAll ls).length + (coded m).length + (allBytes ns).length : Nat) : Int) < (s.length : Int)
  · rw [if_pos h8] at h; simp at h
  rw [if_neg h8] at h ⊢
  by_cases h9 : 0 ≤ shaped ns
  · rw [if_pos h9] at h; simp at h
  rw [if_neg h9]
  simp only
  unfold encode
  rw [if_neg (by omega), if_neg (by rw [b3]; simp), if_neg h9]
  have hrest : s.drop (3 + (coded v).length + (codedAll ls).length + (coded m).length + (allBytes ns).length) = [] := List.drop_eq_nil_of_le (by omega)
  have : headBytes ls ns ++ allBytes ns = s := by
    conv => rhs; rw [hs, a4, b5, c4, d4, hrest]
    unfold headBytes; rw [b2, d2]; simp [List.append_assoc]
  rw [this]

/-- A proof's bytes are that proof. -/
theorem encode_decode {ls : List Int} {ns : List Node} (h : (encode ls ns).2.1 = true) : decode (encode ls ns).1 = ((ls, ns), true, 0) ∧ (encode ls ns).2.2 = -1 := by
  unfold encode at h ⊢
  by_cases h1 : 4 < ls.length ∨ ns.length = 0 ∨ 200 < ns.length
  · rw [if_pos h1] at h; simp at h
  rw [if_neg h1] at h ⊢
  by_cases h2 : ls.all inR = false
  · rw [if_pos h2] at h; simp at h
  rw [if_neg h2] at h ⊢
  by_cases h3 : 0 ≤ shaped ns
  · rw [if_pos h3] at h; simp at h
  rw [if_neg h3]
  simp only [and_true]
  have hall : ls.all inR = true := by simpa using h2
  obtain ⟨s, hs⟩ : ∃ s, s = headBytes ls ns ++ allBytes ns := ⟨_, rfl⟩
  rw [← hs]
  have hs' : s = [70, 80, 49] ++ (coded ls.length ++ (codedAll ls ++ (coded ns.length ++ allBytes ns))) := by rw [hs]; unfold headBytes; simp [List.append_assoc]
  have e3 : s.drop 3 = coded ls.length ++ (codedAll ls ++ (coded ns.length ++ allBytes ns)) := by rw [hs']; rfl
  have n3 := num_coded e3 (by omega)
  have e4 := drop_then e3
  have n4 := nums_coded e4 hall
  have e5 := drop_then e4
  have n5 := num_coded e5 (by omega)
  have e6 := drop_then e5
  have hgood : ∀ i, i < ns.length → sound (nth ns i) = true ∧ (prem (nth ns i)).any (fun x => decide (((0 + i : Nat) : Int) ≤ x)) = false := by
    intro i hi
    have h4 : shaped ns < 0 := by omega
    refine ⟨sound_of_shaped h4 i hi, ?_⟩
    unfold shaped at h4
    cases hf : (List.range ns.length).find? (bad ns) with
    | some j => rw [hf] at h4; simp only at h4; omega
    | none =>
      rw [List.find?_eq_none] at hf
      have := hf i (by simpa using hi)
      simp only [bad, Bool.or_eq_true, not_or, Bool.not_eq_true] at this
      rw [Nat.zero_add]; exact this.2.1
  obtain ⟨st', hn⟩ := nodesA_coded s [] ns 0 _ [] [] (by rw [List.append_nil]; exact e6) hgood
  have hend : s.length = 3 + (coded ls.length).length + (codedAll ls).length + (coded ns.length).length + (allBytes ns).length := by rw [hs']; simp; omega
  unfold decode
  rw [if_neg (by rw [hs', head_coded]; omega)]
  simp only [n3]
  rw [if_neg (by omega), if_neg (by omega)]
  simp only [Int.toNat_natCast, n4]
  rw [if_neg (by omega)]
  simp only [n5]
  rw [if_neg (by omega), if_neg (by omega)]
  simp only [Int.toNat_natCast, hn]
  rw [if_neg (by omega), if_neg (by rw [hend]; omega)]
  simp only [List.nil_append]
  rw [if_neg h3]
end Fl
end Go.Proofs.YticlmjkfadklgaaDoor

/- The statements' own helpers: Encode on both sides. -/
set_option linter.unusedSimpArgs false
set_option linter.unusedVariables false
namespace Go.Proofs.YticlmjkfadklgaaDoor
open Go.RowKit

/-- How encoded ends. -/
def EncodedEnds (r : List UInt8 × Bool × Int) (w : World) (e : Ending) (w' : World) : Prop :=
  Below w.heap.size w w' ∧ ∃ va n c, e = .returned (.tuple #[.slice va n c, .bool true]) ∧ (r.2.1 = false → n = 0) ∧ (r.2.1 = true → w'.ownsRow w.heap.size 5 1 (.slice va n c) r.1.length (r.1.map bval))

set_option maxRecDepth 100000 in
set_option maxHeartbeats 4000000 in
theorem encoded_any (ls : List Int) (ns : List Fl.Node) (la na : Option Addr) (lc nc : Nat) (w : World) (hE : ErrType w) (hl : IntsAt w.heap.size w (.slice la ls.length lc) ls) (hn : NodesAt w.heap.size w (.slice na ns.length nc) ns) (h1 : ls.length ≤ 1000000) (h2 : ns.length ≤ 1000000) (h3 : ∀ k, k < ns.length → (Fl.nth ns k).list.length ≤ 1000000) :
    Calls Tryd.prog 6 #[.agg #[.slice la ls.length lc, .slice na ns.length nc]] w (EncodedEnds (Fl.encode ls ns) w) := by
  have HL : Hid (IntsAt w.heap.size w (.slice la ls.length lc) ls) := hl
  have HN : Hid (NodesAt w.heap.size w (.slice na ns.length nc) ns) := hn
  have H3 : Hid (∀ k, k < ns.length → (Fl.nth ns k).list.length ≤ 1000000) := h3
  have HE : Hid (∀ o, Below w.heap.size w o → ErrType o) := fun o ho => (ho.cell (p := ⟨0, 0, none⟩) (World.block_lt_of_cell? w _ hE)).trans hE
  clear hl hn h3 hE
  go_enter Tryd.func6, Tryd.ntmps6
  go_wp2_with fail
  obtain ⟨W1, hW1⟩ : ∃ W1, W1 = w.alloc (.cells #[.slice la ls.length lc, .slice na ns.length nc] 25) := ⟨_, rfl⟩
  rw [← hW1]
  have hb1 : Below w.heap.size w W1 := by rw [hW1]; exact (Below.refl _ _).alloc (Nat.le_refl _) _
  have hz1 : W1.heap.size = w.heap.size + 1 := by rw [hW1]; simp
  have HP : Hid (∀ i, W1.cell? ⟨w.heap.size, i, none⟩ = #[Value.slice la ls.length lc, .slice na ns.length nc][i]?) := fun i => by rw [hW1]; exact World.cell?_alloc_new _ _ _ _
  have HB1 : Hid (Below w.heap.size w W1) := hb1
  have HCP : Hid (Calls Tryd.prog 11 #[.agg #[.slice la ls.length lc, .slice na ns.length nc]] W1 fun e w' => ∃ lv nv, e = .returned (.agg #[lv, nv]) ∧ IntsAt w'.heap.size w' lv ls ∧ NodesAt w'.heap.size w' nv ns ∧ Below W1.heap.size W1 w') :=
    copied_any ls ns la na lc nc w.heap.size W1 (by omega) (HL.out.below hb1) (HN.out.below hb1) h1 h2 H3.out
  clear hW1 hb1
  refine (HCP.out).mono ?_
  rintro e w2 ⟨lv, nv, rfl, hli2, hni2, hb2⟩
  obtain ⟨lb, ld, rfl, _⟩ := id hli2
  obtain ⟨nb, nd, rfl, _⟩ := id hni2
  have HL2 : Hid (IntsAt w2.heap.size w2 (.slice lb ls.length ld) ls) := hli2
  have HN2 : Hid (NodesAt w2.heap.size w2 (.slice nb ns.length nd) ns) := hni2
  have HB2 : Hid (Below w.heap.size w w2) := HB1.out.trans (hb2.mono (by omega))
  have hz2 : w.heap.size < w2.heap.size := by have := hb2.size; omega
  have p0 : w2.cell? ⟨w.heap.size, 0, none⟩ = some (.slice la ls.length lc) := (hb2.cell (p := ⟨w.heap.size, 0, none⟩) (by simp only; omega)).trans (HP.out 0)
  have p1 : w2.cell? ⟨w.heap.size, 1, none⟩ = some (.slice na ns.length nc) := (hb2.cell (p := ⟨w.heap.size, 1, none⟩) (by simp only; omega)).trans (HP.out 1)
  clear hli2 hni2 hb2 HCP HP
  go_wp2_with fail
  obtain ⟨Q, hQ⟩ : ∃ Q, Q = w2.heap.size := ⟨_, rfl⟩
  obtain ⟨W3, hW3⟩ : ∃ W3, W3 = w2.alloc (.cells #[.slice lb ls.length ld, .slice nb ns.length nd] 25) := ⟨_, rfl⟩
  rw [← hW3, ← hQ]
  have hb3 : Below w2.heap.size w2 W3 := by rw [hW3]; exact (Below.refl _ _).alloc (Nat.le_refl _) _
  have hz3 : W3.heap.size = Q + 1 := by rw [hW3, hQ]; simp
  have HQ : Hid (∀ i, W3.cell? ⟨Q, i, none⟩ = #[Value.slice lb ls.length ld, .slice nb ns.length nd][i]?) := fun i => by rw [hW3, hQ]; exact World.cell?_alloc_new _ _ _ _
  have HB3 : Hid (Below w.heap.size w W3) := HB2.out.trans (hb3.mono (by omega))
  have HL3 : Hid (IntsAt W3.heap.size W3 (.slice lb ls.length ld) ls ∧ NodesAt W3.heap.size W3 (.slice nb ns.length nd) ns) := ⟨(HL2.out.below hb3).mono hb3.size, (HN2.out.below hb3).mono hb3.size⟩
  have HP3 : Hid (W3.cell? ⟨w.heap.size, 0, none⟩ = some (.slice la ls.length lc) ∧ W3.cell? ⟨w.heap.size, 1, none⟩ = some (.slice na ns.length nc)) := ⟨(hb3.cell (p := ⟨w.heap.size, 0, none⟩) hz2).trans p0, (hb3.cell (p := ⟨w.heap.size, 1, none⟩) hz2).trans p1⟩
  have HPE : Hid (Calls Tryd.prog 12 #[.agg #[.slice la ls.length lc, .slice na ns.length nc]] W3 (PlainEnc (Fl.encode ls ns) W3)) :=
    plain_encode ls ns la na lc nc W3 (HE.out _ HB3.out) ((HL.out.below HB3.out).mono HB3.out.size) ((HN.out.below HB3.out).mono HB3.out.size)
  have hzQ : w.heap.size < Q := by omega
  clear hW3 hQ hb3 p0 p1 HL2 HN2
  refine (HPE.out).mono ?_
  rintro e w4 ⟨hb4, hbad, hgood⟩
  have HB4 : Hid (Below w.heap.size w w4) := HB3.out.trans (hb4.mono HB3.out.size)
  have HL4 : Hid (IntsAt w4.heap.size w4 (.slice lb ls.length ld) ls ∧ NodesAt w4.heap.size w4 (.slice nb ns.length nd) ns) := ⟨(HL3.out.1.below hb4).mono hb4.size, (HL3.out.2.below hb4).mono hb4.size⟩
  have s0 : w4.cell? ⟨w.heap.size, 0, none⟩ = some (.slice la ls.length lc) := (hb4.cell (p := ⟨w.heap.size, 0, none⟩) (by simp only; omega)).trans HP3.out.1
  have s1 : w4.cell? ⟨w.heap.size, 1, none⟩ = some (.slice na ns.length nc) := (hb4.cell (p := ⟨w.heap.size, 1, none⟩) (by simp only; omega)).trans HP3.out.2
  have t0 : w4.cell? ⟨Q, 0, none⟩ = some (.slice lb ls.length ld) := (hb4.cell (p := ⟨Q, 0, none⟩) (by simp only; omega)).trans (HQ.out 0)
  have t1 : w4.cell? ⟨Q, 1, none⟩ = some (.slice nb ns.length nd) := (hb4.cell (p := ⟨Q, 1, none⟩) (by simp only; omega)).trans (HQ.out 1)
  have hz4 : Q + 1 ≤ w4.heap.size := by have := hb4.size; omega
  have HPR : Hid (Calls Tryd.prog 8 #[.agg #[.slice la ls.length lc, .slice na ns.length nc], .agg #[.slice lb ls.length ld, .slice nb ns.length nd]] w4 fun e w' => e = .returned (.bool true) ∧ Below w4.heap.size w4 w') := by
    have := proofs_any ls ls ns ns (.slice la ls.length lc) (.slice na ns.length nc) (.slice lb ls.length ld) (.slice nb ns.length nd) w4.heap.size w4 (Nat.le_refl _) ((HL.out.below HB4.out).mono HB4.out.size) ((HN.out.below HB4.out).mono HB4.out.size) HL4.out.1 HL4.out.2
    rw [show ((ls == ls) && eqNodes ns ns) = true from by rw [(eqNodes_iff ns ns).2 rfl]; simp] at this
    exact this
  have HB34 : Hid (Below W3.heap.size W3 w4) := hb4
  have HWW : Hid (w.heap.size ≤ W3.heap.size) := HB3.out.size
  clear hb4 HPE HL3 HP3 HQ
  cases hr : (Fl.encode ls ns).2.1 with
  | false =>
    obtain rfl := hbad hr
    have HRR : Hid ((Fl.encode ls ns).2.1 = false) := hr
    clear hbad hgood hr
    obtain ⟨pl, hpl⟩ : ∃ pl, pl = (Fl.encode ls ns).2.2 := ⟨_, rfl⟩
    rw [← hpl]
    have HPLC : Hid (pl = (Fl.encode ls ns).2.2) := hpl
    clear hpl
    go_wp2_with fail
    refine (HPR.out).mono ?_
    rintro e w5 ⟨rfl, hb5⟩
    have HB5 : Hid (Below w.heap.size w w5) := HB4.out.trans (hb5.mono HB4.out.size)
    have u0 : w5.cell? ⟨Q, 0, none⟩ = some (.slice lb ls.length ld) := (hb5.cell (p := ⟨Q, 0, none⟩) (by simp only; omega)).trans t0
    have u1 : w5.cell? ⟨Q, 1, none⟩ = some (.slice nb ns.length nd) := (hb5.cell (p := ⟨Q, 1, none⟩) (by simp only; omega)).trans t1
    have HRE : Hid (Calls Tryd.prog 13 #[.agg #[.slice lb ls.length ld, .slice nb ns.length nd]] w5 fun e w' => e = .returned (.tuple #[.string ⟨(Fl.encode ls ns).1.toArray⟩, .bool false, .int .i64 pl]) ∧ Below w5.heap.size w5 w') := by
      have := encode_any ls ns _ _ w5.heap.size w5 (Nat.le_refl _) ((HL4.out.1.below hb5).mono hb5.size) ((HL4.out.2.below hb5).mono hb5.size)
      rw [HRR.out, ← HPLC.out] at this; exact this
    clear hb5 HPR s0 s1 t0 t1
    go_wp2_with fail
    refine (HRE.out).mono ?_
    rintro e w6 ⟨rfl, hb6⟩
    have HB6 : Hid (Below w.heap.size w w6) := HB5.out.trans (hb6.mono HB5.out.size)
    clear hb6 HRE u0 u1
    go_wp2
    go_ret2
    exact ⟨HB6.out, none, 0, 0, rfl, fun _ => rfl, fun h => by rw [HRR.out] at h; cases h⟩
  | true =>
    obtain ⟨va, n, c, rfl, ho⟩ := hgood hr
    have HRR : Hid ((Fl.encode ls ns).2.1 = true) := hr
    obtain ⟨bl, hbl⟩ : ∃ bl, bl = (Fl.encode ls ns).1 := ⟨_, rfl⟩
    rw [← hbl] at ho
    have HBL : Hid (bl = (Fl.encode ls ns).1) := hbl
    have HNE : Hid (bl ≠ []) := by
      show bl ≠ []
      rw [hbl]
      have h9 := Fl.encode_decode hr
      intro h
      rw [h] at h9
      have : Fl.decode [] = (([], []), false, 0) := by simp [Fl.decode, Fl.headAt, Fl.headOk]
      rw [this] at h9; simp at h9
    obtain ⟨g, hva, hn⟩ : ∃ g, va = some ⟨g, 0, none⟩ ∧ n = bl.length := by
      rcases ho.2 with ⟨h0, h0'⟩ | ⟨g, cap, cur, hv, _⟩
      · exact absurd (List.eq_nil_of_length_eq_zero h0') HNE.out
      · simp only [Value.slice.injEq] at hv; exact ⟨g, hv.1, hv.2.1⟩
    subst hva hn
    have HO : Hid (w4.ownsRow W3.heap.size 5 1 (.slice (some ⟨g, 0, none⟩) bl.length c) bl.length (bl.map bval)) := ho
    clear hbad hgood hr hbl ho
    go_wp2_with fail
    refine (HPR.out).mono ?_
    rintro e w5 ⟨rfl, hb5⟩
    have HB5 : Hid (Below w.heap.size w w5) := HB4.out.trans (hb5.mono HB4.out.size)
    have HB45 : Hid (Below w4.heap.size w4 w5) := hb5
    have u0 : w5.cell? ⟨Q, 0, none⟩ = some (.slice lb ls.length ld) := (hb5.cell (p := ⟨Q, 0, none⟩) (by simp only; omega)).trans t0
    have u1 : w5.cell? ⟨Q, 1, none⟩ = some (.slice nb ns.length nd) := (hb5.cell (p := ⟨Q, 1, none⟩) (by simp only; omega)).trans t1
    have HRE : Hid (Calls Tryd.prog 13 #[.agg #[.slice lb ls.length ld, .slice nb ns.length nd]] w5 fun e w' => e = .returned (.tuple #[.string ⟨bl.toArray⟩, .bool true, .int .i64 (Fl.encode ls ns).2.2]) ∧ Below w5.heap.size w5 w') := by
      have := encode_any ls ns _ _ w5.heap.size w5 (Nat.le_refl _) ((HL4.out.1.below hb5).mono hb5.size) ((HL4.out.2.below hb5).mono hb5.size)
      rw [HRR.out, ← HBL.out] at this; exact this
    clear hb5 HPR s0 s1 t0 t1
    go_wp2_with fail
    refine (HRE.out).mono ?_
    rintro e w6 ⟨rfl, hb6⟩
    have HB6 : Hid (Below w.heap.size w w6) := HB5.out.trans (hb6.mono HB5.out.size)
    have HO6 : Hid (w6.ownsRow W3.heap.size 5 1 (.slice (some ⟨g, 0, none⟩) bl.length c) bl.length (bl.map bval)) := by
      have hbb : Below w4.heap.size w4 w6 := HB45.out.trans (hb6.mono HB45.out.size)
      exact HO.out.kept (row := none) ⟨hbb.os, hbb.tape, hbb.output, hbb.size, fun k hk _ => hbb.block k hk⟩ (by simp [Value.ownBlock])
    have hcv : (convert 28 9  (.slice (some ⟨g, 0, none⟩) bl.length c)).run Tryd.prog w6.drew = .ok (.string ⟨bl.toArray⟩) w6.drew :=
      run_convert_bytes_back w6.drew 28 9 5 ⟨g, 0, none⟩ c bl Tryd.underlying28 Tryd.underlying5 Tryd.underlying9 (fun j hj => by
        have := HO6.out.cells (g := g) rfl j (bval bl[j]) (by simp [hj])
        exact this)
    clear hb6 HRE u0 u1
    go_wp2_with fail
    refine still_gen 2 _ 6 _ (by kernel_rfl) (by kernel_rfl) rfl rfl (fun ops hY hY2 => ?_)
    iterate 14 still_step
    refine wpStill_nil ?_
    go_wp2
    go_ret2
    refine ⟨HB6.out.drew, _, _, _, rfl, fun h => (by rw [HRR.out] at h; cases h), fun _ => ?_⟩
    rw [← HBL.out]
    have h8 : w6.drew.ownsRow W3.heap.size 5 1 (.slice (some ⟨g, 0, none⟩) bl.length c) bl.length (bl.map bval) := HO6.out.kept (row := none) ⟨rfl, rfl, rfl, Nat.le_refl _, fun _ _ _ => rfl⟩ (by simp [Value.ownBlock])
    exact own_mono (base := W3.heap.size) h8 HWW.out
end Go.Proofs.YticlmjkfadklgaaDoor
