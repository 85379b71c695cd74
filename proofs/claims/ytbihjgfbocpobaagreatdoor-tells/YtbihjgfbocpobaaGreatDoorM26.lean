/- Texts Ceh Cei Rt Rt2. -/
import Derived.Test.YtbihjgfbocpobaaGreatDoorM25
/- The program: a node has the numbers of its kind. -/
set_option linter.unusedSimpArgs false
set_option linter.unusedVariables false
namespace Go.Proofs.YtbihjgfbocpobaaGreatDoor
open Go.RowKit

set_option maxRecDepth 100000 in
set_option maxHeartbeats 4000000 in
theorem its_out (tp : Value) (nb no : Nat) (K : Int) (w : World) (c0 : w.cell? ⟨nb, no, none⟩ = some (.int .i64 K)) (hk : K < 0 ∨ 8 ≤ K) :
    Calls Tryz.prog 84 #[tp, .pointer (some ⟨nb, no, none⟩)] w fun e w' => e = .returned (.bool false) ∧ Below w.heap.size w w' := by
  by_cases hk0 : K < 0
  · clear hk
    go_enter Tryz.func84, Tryz.ntmps84
    go_wp2_with fail
    refine still_tail_gen 29 5 _ 12 _ (by kernel_rfl) (by kernel_rfl) rfl rfl (fun ops hY hY2 => ?_)
    simp only [List.take_succ_cons, List.take_zero, List.drop_succ_cons, List.drop_zero]
    iterate 29 still_step
    refine wpStill_nil ?_
    go_wp2_with fail
    go_ret
    exact ⟨rfl, (Below.refl _ _).drew⟩
  · have hk8 : 8 ≤ K := by omega
    clear hk
    go_enter Tryz.func84, Tryz.ntmps84
    go_wp2_with fail
    refine still_tail_gen 29 5 _ 12 _ (by kernel_rfl) (by kernel_rfl) rfl rfl (fun ops hY hY2 => ?_)
    simp only [List.take_succ_cons, List.take_zero, List.drop_succ_cons, List.drop_zero]
    iterate 29 still_step
    refine wpStill_nil ?_
    go_wp2_with fail
    go_ret
    exact ⟨rfl, (Below.refl _ _).drew⟩

set_option maxRecDepth 100000 in
set_option maxHeartbeats 4000000 in
theorem its_in {tb nb no k : Nat} {nd : Fl.Node} {lv : Value} {w : World} (h : NodeAt w nb no nd lv) (hr : RulesAt w tb 0) (hk : nd.kind = (k : Int)) (h8 : k < 8) :
    Calls Tryz.prog 84 #[.pointer (some ⟨tb, 0, none⟩), .pointer (some ⟨nb, no, none⟩)] w fun e w' => e = .returned (.bool (Fl.sound nd)) ∧ Below w.heap.size w w' := by
  have HSD : Hid (Fl.sound nd = ((Fl.inR nd.level && (Fl.inR nd.a && (Fl.inR nd.b && Fl.inR nd.c))) && ((decide (restV (numF k) nd.a nd.b nd.c = 0) && ((k == 7) || decide (nd.list = []))) && (decide (nd.list.length ≤ 16) && nd.list.all Fl.inR)))) := sound_kind hk h8
  have HN : Hid (NodeAt w nb no nd lv) := h
  have HR : Hid (RulesAt w tb 0) := hr
  have c0 : w.cell? ⟨nb, no, none⟩ = some (.int .i64 (k : Int)) := by rw [← hk]; exact h.c0
  have c1 := h.c1
  have c2 := h.c2
  have c3 := h.c3
  have c4 := h.c4
  obtain ⟨r, hres⟩ : ∃ r, r = Fl.sound nd := ⟨_, rfl⟩
  rw [← hres]
  have HRS : Hid (r = Fl.sound nd) := hres
  have h8' : (k : Int) < 8 := by omega
  have h0' : (0 : Int) ≤ (k : Int) := by omega
  have HK : Hid (nd.kind = (k : Int)) := hk
  clear h hr hk hres
  go_enter Tryz.func84, Tryz.ntmps84
  go_wp2_with fail
  refine still_tail_gen 29 5 _ 12 _ (by kernel_rfl) (by kernel_rfl) rfl rfl (fun ops hY hY2 => ?_)
  simp only [List.take_succ_cons, List.take_zero, List.drop_succ_cons, List.drop_zero]
  iterate 29 still_step
  refine wpStill_nil ?_
  clear c0 c1 c2 c3 c4
  go_wp2_with fail
  have hfr : IntsAt (w.heap.size + 1) (w.drew.alloc (.cells #[.int .i64 nd.level, .int .i64 nd.a, .int .i64 nd.b, .int .i64 nd.c] 3)) (.slice (some ⟨w.heap.size, 0, none⟩) 4 4) [nd.level, nd.a, nd.b, nd.c] := IntsAt.fresh (w := w.drew) [nd.level, nd.a, nd.b, nd.c] 3 (by simp [maxLen]) _ (by simp)
  refine (allNumbers_any [nd.level, nd.a, nd.b, nd.c] _ _ _ hfr).mono ?_
  clear hfr
  rintro e w1 ⟨rfl, hb1⟩
  have HB1 : Hid (Below w.heap.size w w1) := (((Below.refl _ w).drew).alloc (Nat.le_refl _) _).trans (hb1.mono (by simp [World.size_alloc]))
  clear hb1
  have hAll : [nd.level, nd.a, nd.b, nd.c].all Fl.inR = (Fl.inR nd.level && (Fl.inR nd.a && (Fl.inR nd.b && Fl.inR nd.c))) := by simp [Bool.and_assoc]
  obtain ⟨t, ht⟩ : ∃ t, t = [nd.level, nd.a, nd.b, nd.c].all Fl.inR := ⟨_, rfl⟩
  rw [← ht]
  rw [hAll] at ht
  clear hAll
  cases t with
  | false =>
    have HS : Hid (r = false) := by show r = false; rw [HRS.out, HSD.out, ← ht]; rfl
    clear ht
    go_wp2
    go_ret
    exact ⟨ret_bool HS.out.symm, HB1.out⟩
  | true =>
    have HS : Hid (r = ((decide (restV (numF k) nd.a nd.b nd.c = 0) && ((k == 7) || decide (nd.list = []))) && (decide (nd.list.length ≤ 16) && nd.list.all Fl.inR))) := by show r = _; rw [HRS.out, HSD.out, ← ht]; rfl
    have HBD : Hid (Below w.heap.size w w1.drew) := HB1.out.drew
    have hN1 := HN.out.below HBD.out
    have hR1 := HR.out.below HBD.out k h8
    have d0 : w1.cell? ⟨nb, no, none⟩ = some (.int .i64 (k : Int)) := (HB1.out.cell (p := ⟨nb, no, none⟩) (World.block_lt_of_cell? w _ HN.out.c0)).trans (by rw [HN.out.c0, HK.out])
    have e1 : w1.drew.cell? ⟨tb, k * 4 + 1, none⟩ = some (.int .i64 (numF k : Nat)) := by have := hR1.1; simpa using this
    have e2 : w1.drew.cell? ⟨tb, k * 4 + 2, none⟩ = some (.bool (k == 7)) := by have := hR1.2.1; simpa using this
    have hnf : numF k ≤ 3 := by unfold numF; (repeat' split) <;> omega
    have HC : Hid (Calls Tryz.prog 99 #[.pointer (some ⟨tb, k * 4, none⟩), .pointer (some ⟨nb, no, none⟩)] w1.drew fun e w' => e = .returned (.bool (decide (restV (numF k) nd.a nd.b nd.c = 0) && ((k == 7) || decide (nd.list = [])))) ∧ Below w1.drew.heap.size w1.drew w') := rest_any tb (k * 4) nb no (numF k) hnf (k == 7) nd lv w1.drew hN1 e1 e2
    obtain ⟨u, hu⟩ : ∃ u, u = (decide (restV (numF k) nd.a nd.b nd.c = 0) && ((k == 7) || decide (nd.list = []))) := ⟨_, rfl⟩
    rw [← hu] at HC HS
    clear ht hN1 hR1 e1 e2 hu
    obtain ⟨lao, lcap, hlv, hlc, hlm, hlx⟩ := id HN.out.hl
    subst hlv
    unfold maxLen at hlm
    clear hlx hlc
    go_wp2_with fail
    refine still_tail_gen 8 9 _ 17 _ (by kernel_rfl) (by kernel_rfl) rfl rfl (fun ops hY hY2 => ?_)
    simp only [List.take_succ_cons, List.take_zero, List.drop_succ_cons, List.drop_zero]
    iterate 8 still_step
    refine wpStill_nil ?_
    go_wp2_with fail
    refine (HC.out).mono ?_
    rintro e w2 ⟨rfl, hb2⟩
    have HB2 : Hid (Below w.heap.size w w2) := HBD.out.trans (hb2.mono HBD.out.size)
    have hN2 := HN.out.below HB2.out
    have f5 := hN2.c5
    have HL2 : Hid (∀ W, Below w.heap.size w W → Calls Tryz.prog 82 #[.slice lao nd.list.length lcap] W fun e w' => e = .returned (.bool (nd.list.all Fl.inR)) ∧ Below W.heap.size W w') := fun W hW => allNumbers_any nd.list _ w.heap.size W (HN.out.hl.below hW)
    clear hb2 hN2 HC d0
    cases u with
    | false =>
      have HS2 : Hid (r = false) := by show r = false; rw [HS.out]; rfl
      go_wp2
      go_ret
      exact ⟨ret_bool HS2.out.symm, HB2.out⟩
    | true =>
      by_cases h16 : nd.list.length ≤ 16
      · have h16' : (nd.list.length : Int) ≤ 16 := by omega
        have HS2 : Hid (r = nd.list.all Fl.inR) := by show r = _; rw [HS.out]; simp [h16]
        go_wp2_with fail
        refine (HL2.out _ HB2.out).mono ?_
        rintro e w3 ⟨rfl, hb3⟩
        have HB3 : Hid (Below w.heap.size w w3) := HB2.out.trans (hb3.mono HB2.out.size)
        clear hb3 f5
        obtain ⟨v, hv⟩ : ∃ v, v = nd.list.all Fl.inR := ⟨_, rfl⟩
        rw [← hv] at HS2 ⊢
        clear hv
        go_wp2
        go_ret
        exact ⟨ret_bool HS2.out.symm, HB3.out⟩
      · have h16' : (16 : Int) < (nd.list.length : Int) := by omega
        have HS2 : Hid (r = false) := by show r = _; rw [HS.out]; simp [h16]
        go_wp2
        go_ret
        exact ⟨ret_bool HS2.out.symm, HB2.out⟩
end Go.Proofs.YtbihjgfbocpobaaGreatDoor

/- The program: the first node that is wrong. -/
set_option linter.unusedSimpArgs false
set_option linter.unusedVariables false
namespace Go.Proofs.YtbihjgfbocpobaaGreatDoor
open Go.RowKit

theorem its_any {tb nb no : Nat} {nd : Fl.Node} {lv : Value} {w : World} (h : NodeAt w nb no nd lv) (hr : RulesAt w tb 0) :
    Calls Tryz.prog 84 #[.pointer (some ⟨tb, 0, none⟩), .pointer (some ⟨nb, no, none⟩)] w fun e w' => e = .returned (.bool (Fl.sound nd)) ∧ Below w.heap.size w w' := by
  by_cases hk : 0 ≤ nd.kind ∧ nd.kind < 8
  · exact its_in (k := nd.kind.toNat) h hr (by omega) (by omega)
  · rw [sound_out (by omega)]; exact its_out _ nb no nd.kind w h.c0 (by omega)
namespace Fl
def firstBad (ns : List Node) : Int := match (List.range ns.length).find? (bad ns) with | some k => (k : Int) | none => -1
theorem bad_eq (ns : List Node) (k : Nat) : bad ns k = (!sound (nth ns k) || ((prem (nth ns k)).any (fun p => decide ((k : Int) ≤ p)) || dupAt ns k)) := rfl
theorem shaped_bad (ns : List Node) (h : 0 ≤ firstBad ns) : shaped ns = firstBad ns := by
  unfold firstBad at *; unfold shaped
  cases hf : (List.range ns.length).find? (bad ns) with
  | some k => rfl
  | none => rw [hf] at h; simp at h
theorem firstBad_lt (ns : List Node) : firstBad ns < (ns.length : Int) ∧ -1 ≤ firstBad ns := by
  unfold firstBad
  cases hf : (List.range ns.length).find? (bad ns) with
  | some k => have := List.mem_of_find?_eq_some hf; simp at this; simp only; omega
  | none => simp only; omega
theorem no_bad (ns : List Node) (h : firstBad ns < 0) (k : Nat) (hk : k < ns.length) : bad ns k = false := by
  unfold firstBad at h
  cases hf : (List.range ns.length).find? (bad ns) with
  | some j => rw [hf] at h; simp only at h; omega
  | none =>
    rw [List.find?_eq_none] at hf
    have := hf k (by simpa using hk)
    simpa using this
theorem allGood_bad (ns : List Node) (h : firstBad ns < 0) : allGood ns := fun k hk => by
  have := no_bad ns h k hk
  rw [bad_eq] at this
  simp only [Bool.or_eq_false_iff, Bool.not_eq_false'] at this
  exact ⟨this.1, this.2.1⟩
theorem shaped_un (ns : List Node) (h : firstBad ns < 0) : shaped ns = firstUn ns := by
  have hd : firstDup ns = -1 := by
    unfold firstDup
    rw [find_none _ _ (fun k hk => by
      have := no_bad ns h k hk
      rw [bad_eq] at this
      simp only [Bool.or_eq_false_iff, Bool.not_eq_false'] at this
      exact this.2.2)]
  rw [shaped_good (allGood_bad ns h), hd]; simp
end Fl

/-- What the loop of firstWrong holds. -/
structure WrongRel (ns : List Fl.Node) (w wr : World) (TB B T : Nat) (j : Nat) (seen : List Fl.Node) : Prop where
  hj : j ≤ ns.length
  hlen : seen.length = j
  hmem : ∀ x, x ∈ seen ↔ x ∈ ns.take j
  hno : ∀ t, t < j → Fl.bad ns t = false
  hs : Seen wr T B seen
  hr : RulesAt wr TB 0
  hb : Below w.heap.size w wr
  hw : w.heap.size ≤ TB
  hTB : TB < B
  hBT : B < T
  hz : T < wr.heap.size
theorem WrongRel.below {ns : List Fl.Node} {w wr w' : World} {TB B T : Nat} {j : Nat} {seen : List Fl.Node} (h : WrongRel ns w wr TB B T j seen) (hb : Below wr.heap.size wr w') : WrongRel ns w w' TB B T j seen :=
  ⟨h.hj, h.hlen, h.hmem, h.hno, h.hs.kept (row := none) ⟨hb.os, hb.tape, hb.output, hb.size, fun k hk _ => hb.block k hk⟩ (by simp) (by simp), h.hr.below hb, h.hb.trans (hb.mono h.hb.size), h.hw, h.hTB, h.hBT, Nat.lt_of_lt_of_le h.hz hb.size⟩

set_option maxRecDepth 100000 in
set_option maxHeartbeats 8000000 in
theorem firstWrong_any (ns : List Fl.Node) (nv : Value) (w : World) (hn : NodesAt w.heap.size w nv ns) (hlen : ns.length ≤ 1000) :
    Calls Tryz.prog 57 #[nv] w fun e w' => e = .returned (.int .i64 (Fl.firstBad ns)) ∧ Below w.heap.size w w' := by
  obtain ⟨na, nc, rfl, _, hm, _⟩ := id hn
  have HN : Hid (NodesAt w.heap.size w (.slice na ns.length nc) ns) := hn
  clear hn hm
  go_enter Tryz.func57, Tryz.ntmps57
  go_wp2_with (first | (go_at_call 38; refine (rules_any _).mono ?_; rintro e w1 ⟨rfl, rfl⟩) | (refine wpList_store_newN rfl _ _ 88 rfl _ _ _ rulesArr rfl (by simp) rfl Tryz.infoRules rulesSize rulesOne ?_))
  have hrow : ((w.alloc (.cells rulesArr 88)).alloc (.cells rulesArr 88)).heap[w.heap.size + 1]? = some (.cells rulesArr 88 (0, 0)) := by
    have := heap_alloc_last (w.alloc (.cells rulesArr 88)) (.cells rulesArr 88)
    rwa [World.size_alloc] at this
  have hb0 : Below w.heap.size w ((w.alloc (.cells rulesArr 88)).alloc (.cells rulesArr 88)) := ((Below.refl _ _).alloc (Nat.le_refl _) _).alloc (by simp) _
  refine (none_any _).mono ?_
  rintro e w1 ⟨rfl, hs1, hb1, hz1⟩
  simp only [World.size_alloc] at hs1 hb1 hz1 ⊢
  have HG0 : Hid (WrongRel ns w w1 (w.heap.size + 1) (w.heap.size + 1 + 1) (w.heap.size + 1 + 1 + 1) 0 []) :=
    ⟨by omega, rfl, by simp, fun t ht => by omega, hs1, rules_at ((hb1.block _ (by omega)).trans hrow), hb0.trans (hb1.mono (by omega)), by omega, by omega, by omega, by omega⟩
  obtain ⟨TB, hTB⟩ : ∃ TB, TB = w.heap.size + 1 := ⟨_, rfl⟩
  rw [← hTB] at HG0 ⊢
  obtain ⟨MB, hMB⟩ : ∃ MB, MB = TB + 1 := ⟨_, rfl⟩
  rw [← hMB] at HG0 ⊢
  obtain ⟨T, hT⟩ : ∃ T, T = MB + 1 := ⟨_, rfl⟩
  rw [← hT] at HG0 ⊢
  clear hrow hb0 hs1 hb1 hz1 hTB hMB hT
  go_wp2_with fail
  go_loopw [13] (fun i wr => ∃ (j : Nat) (seen : List Fl.Node), i = .int .i64 j ∧ WrongRel ns w wr TB MB T j seen) (fun i _ => ns.length - (intOf i).toNat)
  case atStart => exact ⟨0, [], rfl, HG0.out⟩
  case round =>
    clear HG0
    obtain ⟨j, seen, rfl, hr⟩ := hrel
    have hj := hr.hj
    have HR : Hid (WrongRel ns w wr TB MB T j seen) := hr
    clear hr
    by_cases hlt : j < ns.length
    · obtain ⟨b, off, rfl⟩ : ∃ b off, na = some ⟨b, off, none⟩ := by
        obtain ⟨ao', cap', hv', _, _, hx'⟩ := HN.out
        obtain ⟨b, off, ha, _⟩ := hx' (by intro h; rw [h] at hlt; simp at hlt)
        simp only [Value.slice.injEq] at hv'
        exact ⟨b, off, hv'.1.trans ha⟩
      obtain ⟨lv, hnd⟩ := (HN.out.below HR.out.hb).node hlt HR.out.hb.size
      have HND : Hid (NodeAt wr b (off + j * 6) (Fl.nth ns j) lv) := hnd
      have hjl : (j : Int) < (ns.length : Int) := by omega
      clear hnd
      go_wp2_with fail
      refine (its_any HND.out HR.out.hr).mono ?_
      rintro e w2 ⟨rfl, hb2⟩
      have HR2 : Hid (WrongRel ns w w2 TB MB T j seen) := HR.out.below hb2
      have HN2 : Hid (NodeAt w2 b (off + j * 6) (Fl.nth ns j) lv) := HND.out.below hb2
      clear hb2
      obtain ⟨nd, hndq⟩ : ∃ nd, nd = Fl.nth ns j := ⟨_, rfl⟩
      rw [← hndq] at HN2 ⊢
      have HNQ : Hid (nd = Fl.nth ns j) := hndq
      clear HND HR hndq
      have HFB : Hid (Fl.bad ns j = true → Fl.firstBad ns = (j : Int)) := fun h => by
        show Fl.firstBad ns = _
        unfold Fl.firstBad; rw [Fl.find_first _ _ j HR2.out.hno hlt h]
      cases hsd : Fl.sound nd with
      | false =>
        have HF : Hid (Fl.firstBad ns = (j : Int)) := HFB.out (by rw [Fl.bad_eq, ← HNQ.out, hsd]; rfl)
        clear hsd
        go_wp2
        go_ret
        exact ⟨ret_int HF.out.symm, HR2.out.hb⟩
      | true =>
        obtain ⟨hfit, hk0, hk8⟩ := Fl.sound_fits hsd
        have HSD : Hid (Fl.sound nd = true) := hsd
        have HFT : Hid (Fl.fits nd) := hfit
        obtain ⟨x, hx⟩ : ∃ x : Nat, nd.kind = (x : Int) := ⟨nd.kind.toNat, by omega⟩
        have hx8 : x < 8 := by omega
        have c0 := HN2.out.c0
        rw [hx] at c0
        have h3' : w2.cell? ⟨TB, x * 4 + 3, none⟩ = some (.func (.func (byF x)) #[] #[]) := by have := (HR2.out.hr x hx8).2.2; simpa using this
        have HC : Hid (Calls Tryz.prog 85 #[.pointer (some ⟨TB, x * 4, none⟩), .pointer (some ⟨b, off + j * 6, none⟩), .int .i64 j] w2 fun e w' => e = .returned (.bool (!(prem nd).any (fun x => decide ((j : Int) ≤ x)))) ∧ Below w2.heap.size w2 w') :=
          isBehind_any TB (x * 4) (byF x) j (.pointer (some ⟨b, off + j * 6, none⟩)) (prem nd) w2 h3' (by_enter x _ _) (by rw [← hx]; exact by_any HN2.out)
        have hxi : (x : Int) < 8 := by omega
        clear hsd hfit hk0 hk8 hx h3'
        go_wp2_with fail
        refine (HC.out).mono ?_
        rintro e w3 ⟨rfl, hb3⟩
        have HR3 : Hid (WrongRel ns w w3 TB MB T j seen) := HR2.out.below hb3
        have HN3 : Hid (NodeAt w3 b (off + j * 6) nd lv) := HN2.out.below hb3
        clear hb3 HC c0
        cases hbh : (prem nd).any (fun x => decide ((j : Int) ≤ x)) with
        | true =>
          have HF : Hid (Fl.firstBad ns = (j : Int)) := HFB.out (by rw [Fl.bad_eq, ← HNQ.out, hbh]; simp)
          clear hbh
          go_wp2
          go_ret
          exact ⟨ret_int HF.out.symm, HR3.out.hb⟩
        | false =>
          have HBH : Hid ((prem nd).any (fun x => decide ((j : Int) ≤ x)) = false) := hbh
          have HC : Hid (Calls Tryz.prog 87 #[.pointer (some ⟨b, off + j * 6, none⟩)] w3 fun e w' => e = .returned (.agg (contentL nd).toArray) ∧ Below w3.heap.size w3 w') := contentOf_any HN3.out HFT.out.2.2.2.2.2.1
          clear hbh
          go_wp2_with (go_at_call 87; refine (HC.out).mono ?_; rintro e w4 ⟨rfl, hb4⟩)
          have HR4 : Hid (WrongRel ns w w4 TB MB T j seen) := HR3.out.below hb4
          have hs4 := HR4.out.hs
          clear hb4 HC
          refine (once_any hs4 HFT.out (by have := HR4.out.hlen; omega)).mono ?_
          rintro e w5 ⟨c, t, rfl, ht, hs5, hg5⟩
          have hR4 := HR4.out
          have HR5 : Hid (Below w.heap.size w w5 ∧ RulesAt w5 TB 0 ∧ T < w5.heap.size) := by
            refine ⟨hR4.hb.grown hg5 hR4.hb.size (fun k hk => by simp only [Option.some.injEq] at hk; have := hR4.hw; have := hR4.hTB; omega), fun k hk => ?_, Nat.lt_of_lt_of_le hR4.hz hg5.size⟩
            have hne : some TB ≠ some MB := by have := hR4.hTB; simp; omega
            obtain ⟨g1, g2, g3⟩ := hR4.hr k hk
            exact ⟨hg5.cell g1 hne, hg5.cell g2 hne, hg5.cell g3 hne⟩
          have HS5 : Hid (Seen w5 T MB (nd :: seen)) := hs5
          have HT : Hid (t = true ↔ nd ∈ seen) := ht
          clear hs4 hs5 hg5 ht hR4
          have HDI : Hid (nd ∈ seen ↔ Fl.dupAt ns j = true) := by
            show _ ↔ _
            rw [Fl.dupAt_iff ns j hlt, HR4.out.hmem, HNQ.out]
          cases t with
          | true =>
            have HF : Hid (Fl.firstBad ns = (j : Int)) := HFB.out (by rw [Fl.bad_eq, HDI.out.1 (HT.out.1 rfl)]; simp)
            go_wp2
            go_ret
            exact ⟨ret_int HF.out.symm, HR5.out.1⟩
          | false =>
            have HD : Hid (Fl.bad ns j = false) := by
              show Fl.bad ns j = false
              have h1 : Fl.dupAt ns j = false := by
                rw [Bool.eq_false_iff]; intro h
                have := HT.out.2 (HDI.out.2 h); cases this
              rw [Fl.bad_eq, ← HNQ.out, HSD.out, HBH.out, h1]; rfl
            go_wp2
            go_roundw
            case rel =>
              refine ⟨j + 1, nd :: seen, by go_num, ⟨by omega, by simp [HR4.out.hlen], fun x => ?_, fun t ht => ?_, HS5.out, HR5.out.2.1, HR5.out.1, HR4.out.hw, HR4.out.hTB, HR4.out.hBT, HR5.out.2.2⟩⟩
              · rw [Fl.take_snocN ns j hlt, List.mem_cons, List.mem_append, List.mem_singleton, HR4.out.hmem x, HNQ.out]; exact or_comm
              · by_cases h : t < j
                · exact HR4.out.hno t h
                · have : t = j := by omega
                  subst this; exact HD.out
            case measure => simp [intOf]; omega
    · have HF : Hid (Fl.firstBad ns = -1) := by
        show Fl.firstBad ns = -1
        unfold Fl.firstBad; rw [Fl.find_none _ _ (fun k hk => HR.out.hno k (by omega))]
      go_wp2
      go_ret
      exact ⟨ret_int HF.out.symm, HR.out.hb⟩
end Go.Proofs.YtbihjgfbocpobaaGreatDoor

/- Bytes there and back. -/
set_option linter.unusedSimpArgs false
set_option linter.unusedVariables false
namespace Go.Proofs.YtbihjgfbocpobaaGreatDoor
open Go.RowKit
namespace Fl

theorem byteNat {x : Nat} (h : x < 256) : (UInt8.ofNat x).toNat = x := by simp; omega
theorem codedF_small {x : Nat} (h : x < 128) (f : Nat) : codedF f x = [UInt8.ofNat x] := by
  cases f with
  | zero => rfl
  | succ f => simp only [codedF, if_pos h]

theorem numG_coded (at_ len : Nat) (r : List UInt8) (f : Nat) : ∀ k v unit x, unit = 128 ^ k → k ≤ 4 → (k = 0 ∨ 0 < x) → v + x * unit < 2147483648 → x < 128 ^ (f + 1) →
    numG at_ len k v unit (codedF f x ++ r) = (((v + x * unit : Nat) : Int), ((at_ + k + (codedF f x).length : Nat) : Int), 0) := by
  have small : ∀ f k v unit x, (k = 0 ∨ 0 < x) → v + x * unit < 2147483648 → x < 128 → numG at_ len k v unit (codedF f x ++ r) = (((v + x * unit : Nat) : Int), ((at_ + k + (codedF f x).length : Nat) : Int), 0) := by
    intro f k v unit x hx hlt hs
    rw [codedF_small hs]
    have e : (UInt8.ofNat x).toNat = x := byteNat (by omega)
    have em : x % 128 = x := Nat.mod_eq_of_lt hs
    simp only [List.cons_append, List.nil_append, numG, e, em]
    rw [if_neg (by rintro (⟨h1, h2⟩ | h | ⟨h1, h2⟩) <;> omega), if_pos hs]
    simp [Nat.add_assoc]
  induction f with
  | zero => intro k v unit x hu hk hx hlt hs; exact small 0 k v unit x hx hlt (by simpa using hs)
  | succ f ih =>
    intro k v unit x hu hk hx hlt hs
    by_cases h : x < 128
    · exact small (f + 1) k v unit x hx hlt h
    have e : (UInt8.ofNat (x % 128 + 128)).toNat = x % 128 + 128 := byteNat (by omega)
    have em : (x % 128 + 128) % 128 = x % 128 := by omega
    have hdm : x = x / 128 * 128 + x % 128 := by omega
    have hval : v + x % 128 * unit + x / 128 * (unit * 128) = v + x * unit := by
      have : x * unit = x / 128 * (unit * 128) + x % 128 * unit := by
        conv => lhs; rw [hdm]
        rw [Nat.add_mul, Nat.mul_assoc, Nat.mul_comm 128 unit]
      omega
    have hk4 : k ≠ 4 := by
      intro h4; subst h4
      have h1 : unit = 268435456 := by rw [hu]
      rw [h1] at hlt; omega
    have hc : codedF (f + 1) x = UInt8.ofNat (x % 128 + 128) :: codedF f (x / 128) := by simp only [codedF, if_neg h]
    rw [hc]
    simp only [List.cons_append, numG, e, em]
    rw [if_neg (by rintro (⟨h1, h2⟩ | h | ⟨h1, h2⟩) <;> omega), if_neg (by omega)]
    rw [ih (k + 1) _ _ (x / 128) (by rw [hu, Nat.pow_succ]) (by omega) (Or.inr (by omega)) (by omega) (by rw [Nat.pow_succ] at hs; omega), hval]
    simp only [List.length_cons]
    congr 2; congr 1; omega
theorem num_coded {s r : List UInt8} {p v : Nat} (h : s.drop p = coded v ++ r) (hv : v < 2147483648) : num s p = ((v : Int), ((p + (coded v).length : Nat) : Int), 0) := by
  unfold num; rw [h]
  have := numG_coded p s.length r 9 0 0 1 v (by rfl) (by omega) (Or.inl rfl) (by omega) (by omega)
  simpa [coded] using this

theorem numG_back (at_ len : Nat) (l : List UInt8) : ∀ k v unit f, k ≤ 4 → 4 ≤ k + f → 0 ≤ (numG at_ len k v unit l).2.1 →
    ∃ x, (k = 0 ∨ 0 < x) ∧ (numG at_ len k v unit l).1 = ((v + x * unit : Nat) : Int) ∧ (numG at_ len k v unit l).2.1 = ((at_ + k + (codedF f x).length : Nat) : Int) ∧ l = codedF f x ++ l.drop (codedF f x).length := by
  induction l with
  | nil => intro k v unit f hk hf h; simp [numG] at h
  | cons c r ih =>
    intro k v unit f hk hf h
    have hc := c.toNat_lt
    simp only [numG] at h ⊢
    by_cases h1 : (c.toNat = 0 ∧ 0 < k) ∨ 2147483648 ≤ v + c.toNat % 128 * unit ∨ (k = 4 ∧ 128 ≤ c.toNat)
    · rw [if_pos h1] at h; simp at h
    rw [if_neg h1] at h ⊢
    by_cases h2 : c.toNat < 128
    · rw [if_pos h2]
      refine ⟨c.toNat, ?_, by rw [Nat.mod_eq_of_lt h2], ?_, ?_⟩
      · by_cases hk0 : k = 0
        · exact Or.inl hk0
        · right; rcases Nat.eq_zero_or_pos c.toNat with h0 | h0
          · exact absurd (Or.inl ⟨h0, by omega⟩) h1
          · exact h0
      · rw [codedF_small h2]; rfl
      · rw [codedF_small h2]; simp
    · rw [if_neg h2] at h ⊢
      have hk4 : k ≠ 4 := fun h4 => h1 (Or.inr (Or.inr ⟨h4, by omega⟩))
      obtain ⟨f', rfl⟩ : ∃ f', f = f' + 1 := ⟨f - 1, by omega⟩
      obtain ⟨y, hy, e1, e2, e3⟩ := ih (k + 1) (v + c.toNat % 128 * unit) (unit * 128) f' (by omega) (by omega) h
      have hy0 : 0 < y := by rcases hy with h | h <;> omega
      have hcode : codedF (f' + 1) (c.toNat % 128 + y * 128) = c :: codedF f' y := by
        have hn : ¬ (c.toNat % 128 + y * 128) < 128 := by omega
        simp only [codedF, if_neg hn]
        have q1 : (c.toNat % 128 + y * 128) % 128 + 128 = c.toNat := by omega
        have q2 : (c.toNat % 128 + y * 128) / 128 = y := by omega
        rw [q1, q2]; simp
      refine ⟨c.toNat % 128 + y * 128, Or.inr (by omega), ?_, ?_, ?_⟩
      · rw [e1]; congr 1
        rw [Nat.add_mul, Nat.mul_assoc, Nat.mul_comm 128 unit]; omega
      · rw [e2, hcode]; simp only [List.length_cons]; congr 1; omega
      · rw [hcode]; simp only [List.length_cons, List.cons_append, List.drop_succ_cons]; rw [← e3]
theorem num_back {s : List UInt8} {p : Nat} (hp : p ≤ s.length) (h : 0 ≤ (num s p).2.1) : ∃ v : Nat, (num s p).1 = (v : Int) ∧ v < 2147483648 ∧ (num s p).2.1 = ((p + (coded v).length : Nat) : Int) ∧ s.drop p = coded v ++ s.drop (p + (coded v).length) := by
  obtain ⟨x, _, e1, e2, e3⟩ := numG_back p s.length (s.drop p) 0 0 1 9 (by omega) (by omega) h
  have ho := num_ok s p hp
  refine ⟨x, by rw [num, e1]; simp, ?_, by rw [num, e2]; simp [coded], by rw [← List.drop_drop]; exact e3⟩
  have : (num s p).1 = (x : Int) := by rw [num, e1]; simp
  omega

theorem codedAll_cons (x : Int) (l : List Int) : codedAll (x :: l) = coded x.toNat ++ codedAll l := by simp [codedAll]
theorem drop_then {s a r : List UInt8} {p : Nat} (h : s.drop p = a ++ r) : s.drop (p + a.length) = r := by
  rw [← List.drop_drop, h]; simp
theorem numsA_coded (s r : List UInt8) : ∀ (xs : List Int) (p : Nat) (acc : List Int), s.drop p = codedAll xs ++ r → xs.all inR = true →
    numsA s xs.length p acc = (acc ++ xs, ((p + (codedAll xs).length : Nat) : Int), 0) := by
  intro xs
  induction xs with
  | nil => intro p acc h _; simp [numsA, codedAll]
  | cons x xs ih =>
    intro p acc h ha
    simp only [List.all_cons, Bool.and_eq_true] at ha
    have hx := ha.1
    simp only [inR, Bool.and_eq_true, decide_eq_true_eq] at hx
    rw [codedAll_cons, List.append_assoc] at h
    have hn := num_coded h (by omega)
    simp only [List.length_cons, numsA, hn]
    rw [if_neg (by omega), Int.toNat_natCast, ih _ _ (drop_then h) ha.2, codedAll_cons]
    simp only [List.length_append, Int.toNat_of_nonneg hx.1, List.append_assoc, List.singleton_append, Nat.add_assoc]
theorem nums_coded {s r : List UInt8} {xs : List Int} {p : Nat} (h : s.drop p = codedAll xs ++ r) (ha : xs.all inR = true) : nums s p xs.length = (xs, ((p + (codedAll xs).length : Nat) : Int), 0) := by
  have := numsA_coded s r xs p [] h ha
  simpa [nums] using this
theorem numsA_back (s : List UInt8) (n : Nat) : ∀ (p : Nat) (acc : List Int), p ≤ s.length → 0 ≤ (numsA s n p acc).2.1 →
    ∃ xs : List Int, (numsA s n p acc).1 = acc ++ xs ∧ xs.length = n ∧ xs.all inR = true ∧ (numsA s n p acc).2.1 = ((p + (codedAll xs).length : Nat) : Int) ∧ s.drop p = codedAll xs ++ s.drop (p + (codedAll xs).length) := by
  induction n with
  | zero => intro p acc hp h; exact ⟨[], by simp [numsA], rfl, rfl, by simp [numsA, codedAll], by simp [codedAll]⟩
  | succ n ih =>
    intro p acc hp h
    simp only [numsA] at h ⊢
    by_cases h1 : (num s p).2.1 < 0
    · rw [if_pos h1] at h; simp at h
    rw [if_neg h1] at h ⊢
    obtain ⟨v, e1, e2, e3, e4⟩ := num_back hp (by omega)
    have ho := num_ok s p hp
    rw [e1, e3, Int.toNat_natCast] at h ⊢
    obtain ⟨xs, f1, f2, f3, f4, f5⟩ := ih _ _ (by omega) h
    refine ⟨(v : Int) :: xs, by rw [f1]; simp, by simp [f2], ?_, ?_, ?_⟩
    · simp only [List.all_cons, f3, Bool.and_true, inR, Bool.and_eq_true, decide_eq_true_eq]; omega
    · rw [f4, codedAll_cons]; simp [Nat.add_assoc]
    · rw [codedAll_cons, Int.toNat_natCast, List.append_assoc, List.length_append, ← Nat.add_assoc, ← f5]; exact e4
theorem nums_back {s : List UInt8} {p n : Nat} (hp : p ≤ s.length) (h : 0 ≤ (nums s p n).2.1) :
    ∃ xs : List Int, (nums s p n).1 = xs ∧ xs.length = n ∧ xs.all inR = true ∧ (nums s p n).2.1 = ((p + (codedAll xs).length : Nat) : Int) ∧ s.drop p = codedAll xs ++ s.drop (p + (codedAll xs).length) := by
  have := numsA_back s n p [] hp h
  simpa [nums] using this
end Fl
end Go.Proofs.YtbihjgfbocpobaaGreatDoor

/- Bytes there and back: nodes, proofs. -/
set_option linter.unusedSimpArgs false
set_option linter.unusedVariables false
namespace Go.Proofs.YtbihjgfbocpobaaGreatDoor
open Go.RowKit
namespace Fl

theorem inR_nat {x : Int} (h : inR x = true) : 0 ≤ x ∧ x < 2147483648 := by simpa [inR] using h
theorem fields_kind {k : Int} (h : fields k ≠ -2) : 0 ≤ k ∧ k < 8 := by unfold fields at h; (repeat' split at h) <;> omega
theorem drop_lt {s a r : List UInt8} {p : Nat} (h : s.drop p = a ++ r) (ha : 0 < a.length) : p < s.length := by
  rcases Nat.lt_or_ge p s.length with h1 | h1
  · exact h1
  · rw [List.drop_eq_nil_of_le h1] at h
    have := congrArg List.length h; simp at this; omega
theorem drop_head {s r : List UInt8} {c : UInt8} {p : Nat} (h : s.drop p = c :: r) : p < s.length ∧ s.getD p 0 = c ∧ s.drop (p + 1) = r := by
  have h1 : p < s.length := drop_lt (a := [c]) (r := r) (by simpa using h) (by simp)
  refine ⟨h1, ?_, by rw [← List.drop_drop, h]; rfl⟩
  have : (s.drop p)[0]? = some c := by rw [h]; rfl
  rw [List.getElem?_drop] at this
  rw [List.getD_eq_getElem?_getD]; simpa using congrArg (fun o => o.getD 0) this
theorem one_coded {s r : List UInt8} {p k : Nat} {nd : Node} (h : s.drop p = nodeBytes nd ++ r) (hs : sound nd = true) (hb : (prem nd).any (fun x => decide ((k : Int) ≤ x)) = false) :
    one s p k = (nd, ((p + (nodeBytes nd).length : Nat) : Int), 0) := by
  simp only [sound, Bool.and_eq_true, Bool.or_eq_true, decide_eq_true_eq] at hs
  obtain ⟨hk, hlv, hlen, ha, hbb, hc, hall, hz⟩ := hs
  obtain ⟨hk0, hk8⟩ := fields_kind hk
  obtain ⟨hl0, hl1⟩ := inR_nat hlv
  unfold nodeBytes at h
  rw [List.cons_append] at h
  obtain ⟨hp, hd, h1⟩ := drop_head h
  have hkind : ((s.getD p 0).toNat : Int) = nd.kind := by rw [hd, byteNat (by omega)]; omega
  rw [List.append_assoc] at h1
  have hn := num_coded h1 (by omega)
  have h2 := drop_then h1
  have fin : ∀ e, oneFin p k nd e = (nd, e, 0) := fun e => by unfold oneFin; rw [hb]; rfl
  unfold one
  rw [if_neg (by omega)]
  simp only [hkind, hn]
  rw [if_neg hk, if_neg (by omega)]
  simp only [Int.toNat_natCast]
  by_cases hf : fields nd.kind = -1
  · rw [if_pos hf]
    have hneg : fields nd.kind < 0 := by omega
    rw [if_pos hneg, List.append_assoc] at h2
    have hm := num_coded h2 (by omega)
    have h3 := drop_then h2
    have hnn : nodeNums nd = nd.list := by unfold nodeNums; rw [if_pos hneg]
    rw [hnn] at h3
    have hl := nums_coded h3 hall
    simp only [hm, Int.toNat_natCast]
    rw [if_neg (by omega), if_neg (by omega)]
    simp only [hl]
    rw [if_neg (by omega)]
    have e0 : (⟨nd.kind, (nd.level.toNat : Int), 0, 0, 0, nd.list⟩ : Node) = nd := by
      have q : ∀ i x, okV (fields nd.kind) i x = true → 0 ≤ i → x = 0 := fun i x hx hi => by
        simp only [okV, Bool.and_eq_true, Bool.or_eq_true, decide_eq_true_eq] at hx; omega
      obtain ⟨kd, lv, a, b, c, li⟩ := nd
      simp only [Node.mk.injEq]
      exact ⟨trivial, Int.toNat_of_nonneg hl0, (q 0 _ ha (by omega)).symm, (q 1 _ hbb (by omega)).symm, (q 2 _ hc (by omega)).symm, trivial⟩
    rw [e0, fin]
    congr 2
    unfold nodeBytes; rw [if_pos hneg, hnn]; simp only [List.length_cons, List.length_append]; omega
  · rw [if_neg hf]
    have hneg : ¬ fields nd.kind < 0 := by have := fields_lt nd.kind; omega
    rw [if_neg hneg, List.nil_append] at h2
    have hnn : nodeNums nd = [nd.a, nd.b, nd.c].take (fields nd.kind).toNat := by unfold nodeNums; rw [if_neg hneg]
    have h3f := fields_lt nd.kind
    have hlenN : (nodeNums nd).length = (fields nd.kind).toNat := by rw [hnn]; simp; omega
    have okR : ∀ i x, okV (fields nd.kind) i x = true → inR x = true ∧ (fields nd.kind ≤ i → x = 0) := fun i x hx => by
      simp only [okV, Bool.and_eq_true, Bool.or_eq_true, decide_eq_true_eq] at hx; exact ⟨hx.1, fun h => by omega⟩
    obtain ⟨ra, za⟩ := okR 0 _ ha
    obtain ⟨rb, zb⟩ := okR 1 _ hbb
    obtain ⟨rc, zc⟩ := okR 2 _ hc
    have hallN : (nodeNums nd).all inR = true := by
      rw [List.all_eq_true]; intro x hx; rw [hnn] at hx
      have := List.mem_of_mem_take hx
      simp only [List.mem_cons, List.not_mem_nil, or_false] at this
      rcases this with rfl | rfl | rfl <;> assumption
    have hl := nums_coded h2 hallN
    rw [hlenN] at hl
    simp only [hl]
    rw [if_neg (by omega)]
    have hlist : nd.list = [] := by rcases hz with h | h; exact absurd h hf; exact h
    have e0 : (⟨nd.kind, (nd.level.toNat : Int), (nodeNums nd).getD 0 0, (nodeNums nd).getD 1 0, (nodeNums nd).getD 2 0, []⟩ : Node) = nd := by
      rw [hnn]
      have hff : fields nd.kind = 0 ∨ fields nd.kind = 1 ∨ fields nd.kind = 2 ∨ fields nd.kind = 3 := by omega
      obtain ⟨kd, lv, a, b, c, li⟩ := nd
      simp only [Node.mk.injEq] at *
      refine ⟨trivial, Int.toNat_of_nonneg hl0, ?_, ?_, ?_, hlist.symm⟩ <;> (rcases hff with hff | hff | hff | hff <;> rw [hff] at za zb zc ⊢ <;> simp <;> first | done | exact (za (by omega)).symm | exact (zb (by omega)).symm | exact (zc (by omega)).symm)
    rw [e0, fin]
    congr 2
    unfold nodeBytes; rw [if_neg hneg]; simp only [List.length_cons, List.length_append, List.nil_append, List.length_nil]; omega

theorem one_back {s : List UInt8} {p k : Nat} (hp : p ≤ s.length) (h : 0 ≤ (one s p k).2.1) :
    s.drop p = nodeBytes (one s p k).1 ++ s.drop (p + (nodeBytes (one s p k).1).length) ∧ (one s p k).2.1 = ((p + (nodeBytes (one s p k).1).length : Nat) : Int) := by
  unfold one at h ⊢
  by_cases h0 : p = s.length
  · rw [if_pos h0] at h; simp at h
  rw [if_neg h0] at h ⊢
  simp only at h ⊢
  by_cases h1 : fields ((s.getD p 0).toNat : Int) = -2
  · rw [if_pos h1] at h; simp at h
  rw [if_neg h1] at h ⊢
  have hdp : s.drop p = s.getD p 0 :: s.drop (p + 1) := by
    rw [List.drop_eq_getElem_cons (show p < s.length by omega), List.getD_eq_getElem?_getD, List.getElem?_eq_getElem (show p < s.length by omega)]; rfl
  generalize hc : s.getD p 0 = c at *
  have hcb : UInt8.ofNat ((c.toNat : Int)).toNat = c := by simp
  have hfin : ∀ (nd : Node) (e : Int), nd.kind = (c.toNat : Int) → 0 ≤ (oneFin p k nd e).2.1 → e = ((p + (nodeBytes nd).length : Nat) : Int) → s.drop p = nodeBytes nd ++ s.drop (p + (nodeBytes nd).length) →
      s.drop p = nodeBytes (oneFin p k nd e).1 ++ s.drop (p + (nodeBytes (oneFin p k nd e).1).length) ∧ (oneFin p k nd e).2.1 = ((p + (nodeBytes (oneFin p k nd e).1).length : Nat) : Int) := by
    intro nd e _ hh he hd
    unfold oneFin at hh ⊢
    by_cases hq : ((prem nd).any fun x => decide ((k : Int) ≤ x)) = true
    · rw [if_pos hq] at hh; simp at hh
    · rw [if_neg hq]; exact ⟨hd, he⟩
  have hno := num_ok s (p + 1) (by omega)
  by_cases h2 : (num s (p + 1)).2.1 < 0
  · rw [if_pos h2] at h; simp at h
  rw [if_neg h2] at h ⊢
  obtain ⟨v, a1, a2, a3, a4⟩ := num_back (s := s) (p := p + 1) (by omega) (by omega)
  rw [a1, a3] at h ⊢
  rw [a3] at hno
  simp only [Int.toNat_natCast] at h ⊢
  by_cases h3 : fields (c.toNat : Int) = -1
  · rw [if_pos h3] at h ⊢
    have hneg : fields (c.toNat : Int) < 0 := by omega
    have hmo := num_ok s (p + 1 + (coded v).length) (by omega)
    by_cases h4 : (num s (p + 1 + (coded v).length)).2.1 < 0
    · rw [if_pos h4] at h; simp at h
    rw [if_neg h4] at h ⊢
    obtain ⟨m, b1, b2, b3, b4⟩ := num_back (s := s) (p := p + 1 + (coded v).length) (by omega) (by omega)
    rw [b1, b3] at h ⊢
    rw [b3] at hmo
    simp only [Int.toNat_natCast] at h ⊢
    by_cases h5 : (16 : Int) < (m : Int)
    · rw [if_pos h5] at h; simp at h
    rw [if_neg h5] at h ⊢
    by_cases h6 : (nums s (p + 1 + (coded v).length + (coded m).length) m).2.1 < 0
    · rw [if_pos h6] at h; simp at h
    rw [if_neg h6] at h ⊢
    obtain ⟨xs, c1, c2, c3, c4, c5⟩ := nums_back (s := s) (p := p + 1 + (coded v).length + (coded m).length) (n := m) (by omega) (by omega)
    rw [c1, c4] at h ⊢
    have hnb : nodeBytes ⟨(c.toNat : Int), (v : Int), 0, 0, 0, xs⟩ = c :: (coded v ++ (coded m ++ codedAll xs)) := by
      unfold nodeBytes nodeNums; simp only [if_pos hneg, Int.toNat_natCast, c2]; rw [show UInt8.ofNat c.toNat = c by simp]
    refine hfin _ _ rfl h ?_ ?_
    · rw [hnb]; simp only [List.length_cons, List.length_append]; congr 1; omega
    · rw [hnb]; simp only [List.length_cons, List.length_append, List.cons_append, List.append_assoc]
      rw [hdp, a4, b4, c5]
      have : p + ((coded v).length + ((coded m).length + (codedAll xs).length) + 1) = p + 1 + (coded v).length + (coded m).length + (codedAll xs).length := by omega
      rw [this]
  · rw [if_neg h3] at h ⊢
    have h3f := fields_lt (c.toNat : Int)
    have hneg : ¬ fields (c.toNat : Int) < 0 := by omega
    by_cases h6 : (nums s (p + 1 + (coded v).length) (fields (c.toNat : Int)).toNat).2.1 < 0
    · rw [if_pos h6] at h; simp at h
    rw [if_neg h6] at h ⊢
    obtain ⟨xs, c1, c2, c3, c4, c5⟩ := nums_back (s := s) (p := p + 1 + (coded v).length) (n := (fields (c.toNat : Int)).toNat) (by omega) (by omega)
    rw [c1, c4] at h ⊢
    have hnn : nodeNums ⟨(c.toNat : Int), (v : Int), xs.getD 0 0, xs.getD 1 0, xs.getD 2 0, []⟩ = xs := by
      unfold nodeNums; simp only [if_neg hneg]
      have hff : fields (c.toNat : Int) = 0 ∨ fields (c.toNat : Int) = 1 ∨ fields (c.toNat : Int) = 2 ∨ fields (c.toNat : Int) = 3 := by omega
      rcases hff with hff | hff | hff | hff <;> rw [hff] at c2 ⊢
      · cases xs with
        | nil => rfl
        | cons a t => simp at c2
      · obtain ⟨a, rfl⟩ := List.length_eq_one_iff.1 c2; rfl
      · match xs, c2 with
        | [a, b], _ => rfl
      · match xs, c2 with
        | [a, b, d], _ => rfl
    have hnb : nodeBytes ⟨(c.toNat : Int), (v : Int), xs.getD 0 0, xs.getD 1 0, xs.getD 2 0, []⟩ = c :: (coded v ++ codedAll xs) := by
      unfold nodeBytes; rw [hnn]; simp only [if_neg hneg, Int.toNat_natCast, List.nil_append]; rw [show UInt8.ofNat c.toNat = c by simp]
    refine hfin _ _ rfl h ?_ ?_
    · rw [hnb]; simp only [List.length_cons, List.length_append]; congr 1; omega
    · rw [hnb]; simp only [List.length_cons, List.length_append, List.cons_append, List.append_assoc]
      rw [hdp, a4, c5]
      have : p + ((coded v).length + (codedAll xs).length + 1) = p + 1 + (coded v).length + (codedAll xs).length := by omega
      rw [this]

theorem allBytes_cons (x : Node) (l : List Node) : allBytes (x :: l) = nodeBytes x ++ allBytes l := by simp [allBytes]
theorem nodesA_coded (s r : List UInt8) : ∀ (ns : List Node) (k p : Nat) (st : List Int) (acc : List Node), s.drop p = allBytes ns ++ r → (∀ i, i < ns.length → sound (nth ns i) = true ∧ (prem (nth ns i)).any (fun x => decide (((k + i : Nat) : Int) ≤ x)) = false) →
    ∃ st', nodesA s ns.length k p st acc = (acc ++ ns, st', ((p + (allBytes ns).length : Nat) : Int), -1) := by
  intro ns
  induction ns with
  | nil => intro k p st acc h _; exact ⟨st, by simp [nodesA, allBytes]⟩
  | cons x ns ih =>
    intro k p st acc h hg
    rw [allBytes_cons, List.append_assoc] at h
    have h0 := hg 0 (by simp)
    have ho := one_coded h h0.1 h0.2
    obtain ⟨st', he⟩ := ih (k + 1) (p + (nodeBytes x).length) (st ++ [(p : Int)]) (acc ++ [x]) (drop_then h) (fun i hi => by
      have := hg (i + 1) (by simp; omega)
      rw [show k + (i + 1) = k + 1 + i by omega] at this; exact this)
    refine ⟨st', ?_⟩
    simp only [List.length_cons, nodesA]
    simp only [nth, List.getD_cons_zero, Nat.add_zero] at ho
    rw [ho]
    rw [if_neg (by simp only; omega)]
    simp only [Int.toNat_natCast]
    rw [he, allBytes_cons]; simp [Nat.add_assoc]
theorem nodesA_back (s : List UInt8) (m : Nat) : ∀ (k p : Nat) (st : List Int) (acc : List Node), p ≤ s.length → (nodesA s m k p st acc).2.2.2 < 0 →
    ∃ ns, (nodesA s m k p st acc).1 = acc ++ ns ∧ ns.length = m ∧ (nodesA s m k p st acc).2.2.1 = ((p + (allBytes ns).length : Nat) : Int) ∧ s.drop p = allBytes ns ++ s.drop (p + (allBytes ns).length) := by
  induction m with
  | zero => intro k p st acc hp h; exact ⟨[], by simp [nodesA], rfl, by simp [nodesA, allBytes], by simp [allBytes]⟩
  | succ m ih =>
    intro k p st acc hp h
    have hok := one_ok s p k hp
    simp only [nodesA] at h ⊢
    by_cases h1 : (one s p k).2.1 < 0
    · rw [if_pos h1] at h; simp only at h; omega
    rw [if_neg h1] at h ⊢
    obtain ⟨e1, e2⟩ := one_back hp (show 0 ≤ (one s p k).2.1 by omega)
    rw [e2] at hok
    rw [e2, Int.toNat_natCast] at h ⊢
    obtain ⟨ns, f1, f2, f3, f4⟩ := ih _ _ _ _ (by omega) h
    refine ⟨(one s p k).1 :: ns, by rw [f1]; simp, by simp [f2], ?_, ?_⟩
    · rw [f3, allBytes_cons]; simp [Nat.add_assoc]
    · rw [allBytes_cons, List.append_assoc, List.length_append, ← Nat.add_assoc, ← f4]; exact e1
end Fl
end Go.Proofs.YtbihjgfbocpobaaGreatDoor
