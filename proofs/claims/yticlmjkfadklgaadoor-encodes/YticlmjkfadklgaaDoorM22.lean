/- Texts Lwg EncRow. -/
import Derived.Test.YticlmjkfadklgaaDoorM21
import Derived.Test.YticlmjkfadklgaaDoorTie
import Derived.Test.YticlmjkfadklgaaDoorCards
import Derived.SevenTiedAt
import Derived.ChangeSlices
import Derived.SizedLaws
import Derived.Carry
/- The statement Encodes: the walk. -/
set_option linter.unusedSimpArgs false
set_option linter.unusedVariables false
namespace Go.Proofs.YticlmjkfadklgaaDoor
open Go.RowKit

theorem encode_len {ls : List Int} {ns : List Fl.Node} (h : (Fl.encode ls ns).2.1 = true) : (Fl.encode ls ns).1.length ≤ 50000 := by
  unfold Fl.encode at *
  by_cases h1 : 4 < ls.length ∨ ns.length = 0 ∨ 200 < ns.length
  · rw [if_pos h1] at h; cases h
  rw [if_neg h1] at h ⊢
  by_cases h2 : ls.all Fl.inR = false
  · rw [if_pos h2] at h; cases h
  rw [if_neg h2] at h ⊢
  by_cases h3 : 0 ≤ Fl.shaped ns
  · rw [if_pos h3] at h; cases h
  rw [if_neg h3]
  have a1 := Fl.allBytes_len ns (fun x hx => by
    obtain ⟨j, hj, rfl⟩ := Fl.mem_nth hx; exact Fl.sound_of_shaped (by omega) j hj)
  have a2 := Fl.coded_len ls.length
  have a3 := Fl.codedAll_len ls
  have a4 := Fl.coded_len ns.length
  simp only [Fl.headBytes, List.length_append, List.length_cons, List.length_nil]
  omega

set_option maxRecDepth 100000 in
set_option maxHeartbeats 1000000 in
theorem encodes_any (ls nums li : List Int) (la na ia : Option Addr) (lc nc ic : Nat) (w : World) (hE : ErrType w) (hl : IntsAt w.heap.size w (.slice la ls.length lc) ls) (hn : IntsAt w.heap.size w (.slice na nums.length nc) nums) (hi : IntsAt w.heap.size w (.slice ia li.length ic) li) (h1 : ls.length ≤ 1000000000000000000) (h2 : nums.length ≤ 1000000000000000000) (h3 : li.length ≤ 1000000000000000000)
    (hr : ∀ x ∈ nums, -9223372036854775808 ≤ x ∧ x ≤ 9223372036854775807) :
    Calls Tryd.prog 4 #[.slice la ls.length lc, .slice na nums.length nc, .slice ia li.length ic] w fun e w' => e = .returned (.bool true) ∧ Below w.heap.size w w' := by
  have HE : Hid (∀ o, Below w.heap.size w o → ErrType o) := fun o ho => (ho.cell (p := ⟨0, 0, none⟩) (World.block_lt_of_cell? w _ hE)).trans hE
  by_cases hbig : 4096 < ls.length + nums.length + li.length
  · have hbi : (4096 : Int) < (ls.length : Int) + (nums.length : Int) + (li.length : Int) := by omega
    clear hl hn hi hr hE
    go_enter Tryd.func4, Tryd.ntmps4
    go_wp2
    go_ret
    exact ⟨rfl, Below.refl _ _⟩
  · have hbi : ¬ (4096 : Int) < (ls.length : Int) + (nums.length : Int) + (li.length : Int) := by omega
    have HM : Hid (Calls Tryd.prog 7 #[.slice la ls.length lc, .slice na nums.length nc, .slice ia li.length ic] w fun e w' => ∃ ns lv nv, e = .returned (.agg #[lv, nv]) ∧ IntsAt w'.heap.size w' lv ls ∧ NodesAt w'.heap.size w' nv ns ∧ Below w.heap.size w w' ∧ ns.length ≤ 1000000 ∧ ∀ k, k < ns.length → (Fl.nth ns k).list.length ≤ 1000000) :=
      made_any ls nums li la na ia lc nc ic w.heap.size w (Nat.le_refl _) hl hn hi (by omega) (by omega) (by omega) hr
    have hls : ls.length ≤ 1000000 := by omega
    clear hl hn hi hr hE hbig
    go_enter Tryd.func4, Tryd.ntmps4
    go_wp2_with fail
    refine (HM.out).mono ?_
    rintro e w1 ⟨ns, lv, nv, rfl, hli, hni, hb1, hns, hll⟩
    obtain ⟨pa, pc, rfl, _⟩ := id hli
    obtain ⟨qa, qc, rfl, _⟩ := id hni
    have HLI : Hid (IntsAt w1.heap.size w1 (.slice pa ls.length pc) ls) := hli
    have HNI : Hid (NodesAt w1.heap.size w1 (.slice qa ns.length qc) ns) := hni
    have HB1 : Hid (Below w.heap.size w w1) := hb1
    have HLL : Hid (∀ k, k < ns.length → (Fl.nth ns k).list.length ≤ 1000000) := hll
    clear hli hni hb1 hll HM
    go_wp2_with fail
    obtain ⟨P0, hP0⟩ : ∃ P0, P0 = w1.heap.size := ⟨_, rfl⟩
    obtain ⟨W2, hW2⟩ : ∃ W2, W2 = w1.alloc (.cells #[.slice pa ls.length pc, .slice qa ns.length qc] 25) := ⟨_, rfl⟩
    rw [← hW2, ← hP0]
    have hb2 : Below w1.heap.size w1 W2 := by rw [hW2]; exact (Below.refl _ _).alloc (Nat.le_refl _) _
    have hz2 : W2.heap.size = P0 + 1 := by rw [hW2, hP0]; simp
    have HP2 : Hid (∀ i, W2.cell? ⟨P0, i, none⟩ = #[Value.slice pa ls.length pc, .slice qa ns.length qc][i]?) := fun i => by rw [hW2, hP0]; exact World.cell?_alloc_new _ _ _ _
    have HB2 : Hid (Below w.heap.size w W2) := HB1.out.trans (hb2.mono HB1.out.size)
    have HL2 : Hid (IntsAt W2.heap.size W2 (.slice pa ls.length pc) ls ∧ NodesAt W2.heap.size W2 (.slice qa ns.length qc) ns) := ⟨(HLI.out.below hb2).mono hb2.size, (HNI.out.below hb2).mono hb2.size⟩
    have HEN : Hid (Calls Tryd.prog 6 #[.agg #[.slice pa ls.length pc, .slice qa ns.length qc]] W2 (EncodedEnds (Fl.encode ls ns) W2)) :=
      encoded_any ls ns pa qa pc qc W2 (HE.out _ HB2.out) HL2.out.1 HL2.out.2 hls hns HLL.out
    have hzP : w.heap.size ≤ P0 := by have := HB1.out.size; omega
    clear hW2 hP0 hb2 HLI HNI
    refine (HEN.out).mono ?_
    rintro e w3 ⟨hb3, va, n, c, rfl, hbad, hgood⟩
    have HB3 : Hid (Below w.heap.size w w3) := HB2.out.trans (hb3.mono HB2.out.size)
    have p0 : w3.cell? ⟨P0, 0, none⟩ = some (.slice pa ls.length pc) := (hb3.cell (p := ⟨P0, 0, none⟩) (by simp only; omega)).trans (HP2.out 0)
    have p1 : w3.cell? ⟨P0, 1, none⟩ = some (.slice qa ns.length qc) := (hb3.cell (p := ⟨P0, 1, none⟩) (by simp only; omega)).trans (HP2.out 1)
    have HL3 : Hid (IntsAt w3.heap.size w3 (.slice pa ls.length pc) ls ∧ NodesAt w3.heap.size w3 (.slice qa ns.length qc) ns) := ⟨(HL2.out.1.below hb3).mono hb3.size, (HL2.out.2.below hb3).mono hb3.size⟩
    have hz3 : P0 < w3.heap.size := by have := hb3.size; omega
    clear hb3 HEN HP2
    cases hr : (Fl.encode ls ns).2.1 with
    | false =>
      obtain rfl := hbad hr
      clear hbad hgood hr
      go_wp2
      go_ret
      exact ⟨rfl, HB3.out⟩
    | true =>
      have ho := hgood hr
      have hdec := Fl.encode_decode hr
      have hlen := encode_len hr
      obtain ⟨bl, hbl⟩ : ∃ bl, bl = (Fl.encode ls ns).1 := ⟨_, rfl⟩
      rw [← hbl] at ho hdec hlen
      have HDEC : Hid (Fl.decode bl = ((ls, ns), true, 0)) := hdec.1
      have hne : bl ≠ [] := by
        intro h9; rw [h9] at hdec
        have h8 : Fl.decode [] = (([], []), false, 0) := by simp [Fl.decode, Fl.headAt, Fl.headOk]
        rw [h8] at hdec; simp at hdec
      have hpos : 0 < bl.length := List.length_pos_iff.2 hne
      obtain ⟨g, hva, hn⟩ : ∃ g, va = some ⟨g, 0, none⟩ ∧ n = bl.length := by
        rcases ho.2 with ⟨h9, h9'⟩ | ⟨g, cap, cur, hv, _⟩
        · omega
        · simp only [Value.slice.injEq] at hv; exact ⟨g, hv.1, hv.2.1⟩
      subst hva hn
      have hb0 : (((bl.length : Nat) : Int) == 0) = false := beq_eq_false_iff_ne.2 (by omega)
      have hcv : (convert 28 9 (.slice (some ⟨g, 0, none⟩) bl.length c)).run Tryd.prog w3 = .ok (.string ⟨bl.toArray⟩) w3 :=
        run_convert_bytes_back w3 28 9 5 ⟨g, 0, none⟩ c bl Tryd.underlying28 Tryd.underlying5 Tryd.underlying9 (fun j hj => ho.cells (g := g) rfl j (bval bl[j]) (by simp [hj]))
      have HDD : Hid (Calls Tryd.prog 5 #[.string ⟨bl.toArray⟩] w3 (DecodedEnds ((ls, ns), true, 0) w3)) := by
        have := decoded_any bl w3 (by omega) (HE.out _ HB3.out)
        rw [HDEC.out] at this; exact this
      obtain ⟨s, hs⟩ : ∃ s : ByteArray, s = ⟨bl.toArray⟩ := ⟨_, rfl⟩
      rw [← hs] at hcv HDD
      clear hbad hgood hr ho hdec hbl hne hs
      go_wp2_with fail
      refine (HDD.out).mono ?_
      rintro e w4 ⟨hb4, ra, rn, rc, ta, tn, tc, rfl, hri, hti⟩
      obtain ⟨_, _, hv1, _⟩ := id hri
      obtain ⟨_, _, hv2, _⟩ := id hti
      simp only [Value.slice.injEq] at hv1 hv2
      obtain ⟨-, rfl, -⟩ := hv1
      obtain ⟨-, rfl, -⟩ := hv2
      simp only at hri hti ⊢
      have HB4 : Hid (Below w.heap.size w w4) := HB3.out.trans (hb4.mono HB3.out.size)
      have r0 : w4.cell? ⟨P0, 0, none⟩ = some (.slice pa ls.length pc) := (hb4.cell (p := ⟨P0, 0, none⟩) hz3).trans p0
      have r1 : w4.cell? ⟨P0, 1, none⟩ = some (.slice qa ns.length qc) := (hb4.cell (p := ⟨P0, 1, none⟩) hz3).trans p1
      have hz4 : P0 < w4.heap.size := by have := hb4.size; omega
      have HPR : Hid (∀ o : Obj, Calls Tryd.prog 8 #[.agg #[.slice pa ls.length pc, .slice qa ns.length qc], .agg #[.slice ra ls.length rc, .slice ta ns.length tc]] (w4.alloc o) fun e w' => e = .returned (.bool true) ∧ Below (w4.alloc o).heap.size (w4.alloc o) w') := fun o => by
        have hb9 : Below w4.heap.size w4 (w4.alloc o) := (Below.refl _ _).alloc (Nat.le_refl _) _
        have a1 := (HL3.out.1.below hb4).mono hb4.size
        have a2 := (HL3.out.2.below hb4).mono hb4.size
        have := proofs_any ls ls ns ns (.slice pa ls.length pc) (.slice qa ns.length qc) (.slice ra ls.length rc) (.slice ta ns.length tc) _ _ (Nat.le_refl _) ((a1.below hb9).mono hb9.size) ((a2.below hb9).mono hb9.size) ((hri.below hb9).mono hb9.size) ((hti.below hb9).mono hb9.size)
        rw [show ((ls == ls) && eqNodes ns ns) = true from by rw [(eqNodes_iff ns ns).2 rfl]; simp] at this
        exact this
      clear hb4 hri hti p0 p1 HDD hcv
      go_wp2_with fail
      refine (HPR.out _).mono ?_
      rintro e w5 ⟨rfl, hb5⟩
      have HB5 : Hid (Below w.heap.size w w5) := (HB4.out.alloc (by omega) _).trans (hb5.mono (by simp; omega))
      clear hb5 r0 r1 HPR
      go_wp2
      go_ret
      exact ⟨rfl, HB5.out⟩
end Go.Proofs.YticlmjkfadklgaaDoor

/- The statement Encodes: the row, the card. -/
set_option linter.unusedSimpArgs false
set_option linter.unusedVariables false
namespace Go.Proofs.YticlmjkfadklgaaDoor
open Go.ChangeShapes Go.WideShapes Go.RowKit Go.ChangeMaps

theorem Tryd.cellsInt : Tryd.prog.cellsOf 3 = 1 := by kernel_rfl
theorem Tryd.bytesInt : Tryd.prog.bytesOf 3 = 8 := by kernel_rfl

set_option maxRecDepth 100000 in
/-- A list of ints that came in. -/
theorem ints_in {H : Type} {enc : TypeId × Value → H} {W : World} {base : Nat} {v : Value} {d : DataW H} {p : List MemPlace} (hval : Value.okWide Tryd.prog W .any base 22 v) (h : DataW.Trod enc Tryd.prog W 0 (fun _ => true) true 22 v d p) :
    ∃ (xs : List Int) (ao : Option Addr) (cap : Nat), v = .slice ao xs.length cap ∧ IntsAt W.heap.size W (.slice ao xs.length cap) xs ∧ (∀ x ∈ xs, -9223372036854775808 ≤ x ∧ x ≤ 9223372036854775807) ∧ (xs.length = 0 ∨ ∃ elems spare, d = .slice elems spare ∧ elems.length = xs.length) := by
  obtain ⟨a0, len, cap, rfl⟩ := okWide_slice Tryd.underlying22 hval
  obtain ⟨fuel, hf⟩ := h
  rcases open_ints Tryd.underlying22 Tryd.underlying3 Tryd.cellsInt hf with ⟨hcs, hx⟩ | ⟨a, len', cap', zs, hcs, _, hl, hm, hz, hx, hcell, hwz⟩
  · simp [Value.cells] at hcs
    obtain ⟨rfl, rfl, rfl⟩ := hcs
    exact ⟨[], none, 0, rfl, IntsAt.nil _ _, fun x hx => (by cases hx), .inl rfl⟩
  · simp [Value.cells] at hcs
    obtain ⟨rfl, rfl, rfl⟩ := hcs
    simp only [Prod.mk.injEq] at hx
    obtain ⟨rfl, rfl⟩ := hx
    simp only [if_true] at hz
    have htl : (zs.take len).length = len := by simp; omega
    refine ⟨zs.take len, some a, cap, by rw [htl], ⟨some a, cap, rfl, by omega, by omega, fun hne => ?_⟩, fun x hx => ?_, .inr ⟨_, _, rfl, by simp [lits]⟩⟩
    · have hpos : 0 < len := by
        rcases Nat.eq_zero_or_pos len with h0 | h0
        · rw [h0] at hne; simp at hne
        · exact h0
      obtain ⟨b, off, spot⟩ := a
      have g0 := hcell 0 (by omega)
      have hspot : spot = none := by simpa [Addr.add] using World.cell?_spot g0
      subst hspot
      have hadd : ∀ i, (⟨b, off, none⟩ : Addr).add i = ⟨b, off + i, none⟩ := fun i => by unfold Addr.add; split <;> simp_all
      refine ⟨b, off, rfl, ?_, fun i hi => ?_⟩
      · have := World.block_lt_of_cell? W _ g0
        rwa [hadd] at this
      · have hi' : i < len := by omega
        have := hcell i (by omega)
        rw [hadd] at this
        rw [this]
        simp [List.getD_eq_getElem?_getD, List.getElem?_take, hi']
    · have := hwz x (List.mem_of_mem_take hx)
      simp [Lit.wf, IntKind.min, IntKind.max, IntKind.signed, IntKind.bits] at this
      omega

set_option maxRecDepth 100000 in
theorem encodes_lifted (os : Os) (started : os.Started) (H : Type) (enc : TypeId × Value → H) :
    ReturnsInHanded {} Tryd.checked os 4 .any (fun w args => (Rows.encodesSpec.pre enc Tryd.prog Tryd.f4 [] false w args ∧ laidMetH Tryd.prog [("errors.errorType", Rows.laid_errors_errorType)] w) ∧ sizedMet enc Tryd.prog Tryd.f4 (OpenSpec.ofChange Rows.encodesSpec) false w args)
      (Rows.encodesSpec.post enc Tryd.prog Tryd.f4 false true false false) := by
  refine returnsInHanded_of_change_and (C := Tryd.checked) (X := fun w _ => laidMetH Tryd.prog [("errors.errorType", Rows.laid_errors_errorType)] w) (fun _ _ _ hh h => h.of_heap hh) Tryd.own started (by kernel_rfl) Tryd.func4
    (ChangeSpec.witness_at (enc := enc) (C := Tryd.checked) (os := os) (X := fun w _ => laidMetH Tryd.prog [("errors.errorType", Rows.laid_errors_errorType)] w) false { World.holding Tryd.prog os ⟨#[], #[], []⟩ with heap := (World.holding Tryd.prog os ⟨#[], #[], []⟩).heap.modify 0 fun
      | .cells _ t frozen => .cells #[.iface 111 (.agg #[.pointer (some ⟨1, 51, none⟩)])] t frozen
      | o => o } #[.slice none 0 0, .slice none 0 0, .slice none 0 0] 8 rfl (by kernel_rfl) (by kernel_rfl) (by kernel_rfl) (by kernel_rfl) (by kernel_rfl) (laidWorld_met os _)) ?_
  intro W base args ds gs before hval0 hW _ hwt hL _
  have hval : ∀ (j : Nat) t v, Tryd.f4.params[j]? = some t → args[j]? = some v → Value.okWide Tryd.prog W .any base t v := hval0
  have hW' := hW
  obtain ⟨p, q, hA0, hV0, rfl, hfz, hnd⟩ := hW
  have hA : DataW.TrodAll enc Tryd.prog W 0 (fun _ => true) true Tryd.f4.params.toList args.toList ds p := hA0
  have hV : DataW.TrodVars enc Tryd.prog W (fun _ => true) [] gs q := hV0
  have hwt' : (DataW.weightsEach Tryd.prog (Tryd.f4.params.toList ++ Rows.encodesSpec.plain.varTypes Tryd.prog) (ds ++ gs)).all (· ≤ reachBytes) = true := hwt
  rw [Tryd.params4] at hA hval hwt'
  obtain ⟨v0, v1, v2, d0, d1, d2, p0, p1, p2, rfl, rfl, rfl, t0, t1, t2⟩ := trodAll_three hA
  obtain ⟨rfl, rfl⟩ := trodVars_none hV
  obtain ⟨ls, la, lc, rfl, hl, hlr, hld⟩ := ints_in (hval 0 22 v0 rfl rfl) t0
  obtain ⟨nums, na, nc, rfl, hn, hnr, hnd2⟩ := ints_in (hval 1 22 v1 rfl rfl) t1
  obtain ⟨li, ia, ic, rfl, hi, hir, hid⟩ := ints_in (hval 2 22 v2 rfl rfl) t2
  have hg := handle_of_laid hL
  have hrb := reachBytes_lt
  have bnd : ∀ (j : Nat) (d : DataW H) (n : Nat), ([d0, d1, d2] : List (DataW H))[j]? = some d → ([22, 22, 22] : List TypeId)[j]? = some 22 → (n = 0 ∨ ∃ elems spare, d = .slice elems spare ∧ elems.length = n) → n ≤ 1000000000000000000 := by
    intro j d n hd ht hc
    rcases hc with h0 | ⟨elems, spare, rfl, hlen⟩
    · omega
    · have hj3 : j < 3 := by
        rcases Nat.lt_or_ge j 3 with h | h
        · exact h
        · rw [List.getElem?_eq_none (by simpa using h)] at ht; cases ht
      have := sized_slice hwt' (j := j) (t := 22) (e := 3) (elems := elems) (spare := spare) (by
        rw [List.getElem?_append_left (by simpa using hj3)]; simpa using ht) (by
        rw [List.getElem?_append_left (by simpa using hj3)]; exact hd) Tryd.underlying22
      rw [Tryd.bytesInt] at this
      omega
  have hwalk := encodes_any ls nums li la na ia lc nc ic W hg hl hn hi (bnd 0 d0 _ rfl rfl hld) (bnd 1 d1 _ rfl rfl hnd2) (bnd 2 d2 _ rfl rfl hid) hnr
  have hlt : ∀ x ∈ p0 ++ p1 ++ p2 ++ [], x.block < W.heap.size := fun x hx => hW'.lt x hx
  have e1 : Rows.encodesSpec.fn H ([d0, d1, d2] ++ []) = { results := [.lit (.bool true)], args := [d0, d1, d2] } := by simp [Rows.encodesSpec]
  refine hwalk.mono fun e W' ⟨he, hw⟩ => ?_
  subst he
  refine ⟨_, rfl, _, _, _, [], p0 ++ (p1 ++ p2), [], hW', ?_, ?_, ?_, hw.frame _, fun h => by cases h⟩
  · rw [e1]; exact trodAll_mk1 (shut_bool Tryd.underlying4 true)
  · rw [e1]
    exact trodAll_mk3 (Below.trod Tryd.laidOut (by kernel_rfl) (of_decide_eq_true (by kernel_rfl)) t0 hw (fun x hx => hlt x (by simp [hx]))) (Below.trod Tryd.laidOut (by kernel_rfl) (of_decide_eq_true (by kernel_rfl)) t1 hw (fun x hx => hlt x (by simp [hx]))) (Below.trod Tryd.laidOut (by kernel_rfl) (of_decide_eq_true (by kernel_rfl)) t2 hw (fun x hx => hlt x (by simp [hx])))
  · rw [e1]; rfl

theorem encodes_said : Rows.EncodesSaid :=
  OpenClaim.holds_of_wide 4 Tryd.f4 rfl rfl rfl rfl rfl rfl rfl ⟨rfl, rfl, rfl, rfl, rfl⟩ rfl rfl rfl rfl rfl (by kernel_rfl) Tryd.func4 (by kernel_rfl)
    (of_decide_eq_true (by kernel_rfl)) (by unfold Func.isWrapper; rw [if_neg (of_decide_eq_false (by kernel_rfl))]; exact ⟨rfl, rfl⟩)
    (fun os started H enc _ => encodes_lifted os started H enc)

theorem encodes_card : Rows.EncodesCardSaid :=
  Claim7.holds_tied_plain_at .later [] [.handle] true (true, "b839f8fa3bbc74dd4ee9541c286e13e53eaca5c0747e20050bc60343fcb2357b") true
    encodes_said (fun _ h => by cases h) (by kernel_rfl) (fun _ h => by cases h) encodes_row_tie rfl ⟨rfl, rfl⟩ (by kernel_rfl) rfl
    (fun f fn hf hfn => by
      obtain rfl : f = 4 := Option.some.inj ((show Tryd.prog.funcNamed Rows.encodesRow.func = some 4 by kernel_rfl).symm.trans hf) |>.symm
      obtain rfl : fn = Tryd.f4 := (Option.some.inj (Tryd.func4.symm.trans hfn)).symm
      exact ⟨by kernel_rfl, fun j t ht => by
        rw [Tryd.params4] at ht
        have h3 : t = 22 := by
          rcases j with _ | _ | _ | j
          · simpa using ht.symm
          · simpa using ht.symm
          · simpa using ht.symm
          · simp at ht
        subst h3
        exact (show Tryd.prog.wantsStandIn 22 = false by kernel_rfl)⟩)
    (by kernel_rfl)
end Go.Proofs.YticlmjkfadklgaaDoor
