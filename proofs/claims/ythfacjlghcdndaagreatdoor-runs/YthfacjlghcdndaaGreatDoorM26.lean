/- Texts Rkb Rkc Rkd Rld. -/
import Derived.Test.YthfacjlghcdndaaGreatDoorM25
set_option linter.unusedSimpArgs false
set_option linter.unusedVariables false
namespace Go.Proofs.YthfacjlghcdndaaGreatDoor
open Go.RowKit
section
variable {lo base Rb Pb : Nat} {w0 w w' : World} {m : RMem} {r : Fl.RS} {fl : List FlS} {t : Nat}
theorem RefOf.addBelow (h : RefOf r fl t m) (x y : Nat) (v v' : Value) (hx : x < r.levels.length) (hy : y < r.levels.length) : RefOf { r with low := r.low ++ [x], high := r.high ++ [y] } fl (t + 1) ((m.app 5 v [.int .i64 (x : Int)]).app 6 v' [.int .i64 (y : Int)]) :=
  { r1 := h.r1, r2 := h.r2, r3 := h.r3, r4 := h.r4, r5 := ⟨by show m.n 5 + 1 = _; rw [h.r5.1]; simp, by show m.xs 5 ++ _ = _; rw [h.r5.2]; simp [intsV]⟩, r6 := ⟨by show m.n 6 + 1 = _; rw [h.r6.1]; simp, by show m.xs 6 ++ _ = _; rw [h.r6.2]; simp [intsV]⟩, r8 := h.r8, r10 := h.r10, r12 := h.r12, r13 := h.r13, bg := h.bg, st := h.st, nm := h.nm, lv := h.lv, ce := h.ce, ch := h.ch, lo := h.lo, sm := h.sm, fr := h.fr,
    lw := by have := h.lw; simp; omega, ft := by have := h.ft; omega, pr := by have := h.pr; simp; omega,
    bw := ⟨fun z hz => by
        simp only [List.mem_append, List.mem_singleton] at hz
        rcases hz with h1 | rfl
        · exact h.bw.1 z h1
        · exact hx, fun z hz => by
        simp only [List.mem_append, List.mem_singleton] at hz
        rcases hz with h1 | rfl
        · exact h.bw.2 z h1
        · exact hy⟩, cl := h.cl, hl := h.hl }
set_option maxRecDepth 100000 in
set_option maxHeartbeats 20000000 in
theorem head_below (h : RefAt lo base Rb Pb w0 w m) (hr : RefOf r fl t m) (ht : t ≤ 1000000) (b off cap : Nat) (n l : List UInt8) (hb : b < w.heap.size) (hbR : b ≠ Rb ∧ ∀ j, isRow j → (m.v j).ownBlock ≠ some b) (hcap : 3 ≤ cap ∧ cap ≤ maxLen) (c0 : w.cell? ⟨b, off, none⟩ = some (.string ⟨#[98, 101, 108, 111, 119]⟩)) (c1 : w.cell? ⟨b, off + 1, none⟩ = some (.string ⟨n.toArray⟩)) (c2 : w.cell? ⟨b, off + 2, none⟩ = some (.string ⟨l.toArray⟩)) :
    Calls Tryz.prog 23 #[.pointer (some ⟨Rb, 0, none⟩), .slice (some ⟨b, off, none⟩) 3 cap] w (HdEnds lo base Rb Pb w0 fl t (r.head [Fl.wBelow, n, l])) := by
  have hba := h.hba
  have hRz : Rb < w.heap.size := by omega
  have HH : Hid (RefAt lo base Rb Pb w0 w m) := h
  have HO : Hid (RefOf r fl t m) := hr
  have HPC : Hid (∀ W, Below w.heap.size w W → Calls Tryz.prog 22 #[m.v 1, .string ⟨n.toArray⟩] W fun e w' => e = .returned (.int .i64 (Fl.place r.levels n)) ∧ w' = W) := fun W hW => place_words ((h.below hW).levels hr) n
  have HPD : Hid (∀ W, Below w.heap.size w W → Calls Tryz.prog 22 #[m.v 1, .string ⟨l.toArray⟩] W fun e w' => e = .returned (.int .i64 (Fl.place r.levels l)) ∧ w' = W) := fun W hW => place_words ((h.below hW).levels hr) l
  obtain ⟨d1, k1, hv1⟩ := h.shape 1 (by unfold isRow; omega)
  rw [hr.r1.1] at hv1
  rw [hv1] at HPC HPD
  obtain ⟨d5, k5, hv5⟩ := h.shape 5 (by unfold isRow; omega)
  rw [hr.r5.1] at hv5
  obtain ⟨d6, k6, hv6⟩ := h.shape 6 (by unfold isRow; omega)
  rw [hr.r6.1] at hv6
  have HV5 : Hid (m.v 5 = .slice d5 r.low.length k5) := hv5
  have HV6 : Hid (m.v 6 = .slice d6 r.high.length k6) := hv6
  have HS1 : Hid (∀ W, Below w.heap.size w W → W.cell? ⟨Rb, 1, none⟩ = some (.slice d1 r.levels.length k1) ∧ W.cell? ⟨b, off + 1, none⟩ = some (.string ⟨n.toArray⟩) ∧ W.cell? ⟨b, off + 2, none⟩ = some (.string ⟨l.toArray⟩)) := fun W hW => ⟨(hW.cell (p := ⟨Rb, 1, none⟩) hRz).trans (by rw [← hv1]; exact h.cR.c 1 (by omega)), (hW.cell (p := ⟨b, off + 1, none⟩) hb).trans c1, (hW.cell (p := ⟨b, off + 2, none⟩) hb).trans c2⟩
  have HOW : Hid (∀ W, Below w.heap.size w W → W.ownsRow base 3 1 (.slice d5 r.low.length k5) r.low.length (intsV r.low) ∧ W.cell? ⟨Rb, 5, none⟩ = some (.slice d5 r.low.length k5)) := fun W hW => by
    have h1 := (h.below hW).own 5 (by unfold isRow; omega)
    rw [hr.r5.1, hr.r5.2, hv5] at h1
    exact ⟨h1, (hW.cell (p := ⟨Rb, 5, none⟩) hRz).trans (by rw [← hv5]; exact h.cR.c 5 (by omega))⟩
  have HRES : Hid (r.head [Fl.wBelow, n, l] = if Fl.place r.levels n < 0 ∨ Fl.place r.levels l < 0 then (4, r) else (0, { r with low := r.low ++ [(Fl.place r.levels n).toNat], high := r.high ++ [(Fl.place r.levels l).toNat] })) := by show _ = _; simp [Fl.RS.head]
  obtain ⟨res, hres⟩ : ∃ res, res = r.head [Fl.wBelow, n, l] := ⟨_, rfl⟩
  rw [← hres] at HRES ⊢
  have hpc := Fl.place_cases r.levels n
  have hpd := Fl.place_cases r.levels l
  have hlv := hr.lv
  have hlw := hr.lw
  have hpr := hr.pr
  generalize Fl.place r.levels n = pc at *
  generalize Fl.place r.levels l = pd at *
  have hcapI : (3 : Int) ≤ (cap : Int) := by omega
  have hpc1 : -1 ≤ pc ∧ pc ≤ 6 := by omega
  have hpd1 : -1 ≤ pd ∧ pd ≤ 6 := by omega
  have hlvI : (r.levels.length : Int) ≤ 6 := by omega
  have hpcL : pc < r.levels.length := by omega
  have hpdL : pd < r.levels.length := by omega
  have HLL : Hid (r.low.length = r.high.length) := hpr
  have hhw : r.high.length ≤ t := by omega
  clear h hr hres hv1 hv5 hv6 c1 c2 hbR hpr
  go_enter Tryz.func23, Tryz.ntmps23
  go_wp2_with fail
  refine wp_region_late (fun W => Below w.heap.size w W) [] [(0, 0), (0, 1), (0, 2), (0, 3), (0, 4), (0, 5), (0, 6), (1, 7), (0, 8)] [] (by kernel_rfl) (by kernel_rfl) rfl [(_, _), (_, _), (_, _), (_, _), (_, _), (_, _), (_, _), (_, _), (_, _)] rfl (fun c a d v w h => by cases d <;> exact h) (Below.refl _ _).drew (fun ops hG => ?_)
  clear hG
  simp only [List.getElem_toArray, List.getElem_cons_succ, List.getElem_cons_zero]
  iterate 7
    refine late_read rfl (fun K hK => ?_)
    apply Exists.intro
    refine ⟨fun w' hw' => ?_, ?_⟩
    · obtain ⟨x0, x1, x2⟩ := HS1.out w' hw'
      clear hw'
      go_simp
      try with_reducible rfl
    go_simp
    refine hK _ ?_
    clear hK K
  refine late_do ?_
  go_wp2_with fail
  refine (HPC.out _ (Below.refl _ _).drew).mono ?_
  rintro e w1 ⟨rfl, hw1⟩
  rw [hw1]
  clear hw1 w1
  go_wp2_with fail
  refine ⟨(Below.refl _ _).drew, ?_⟩
  refine late_read rfl (fun K hK => ?_)
  apply Exists.intro
  refine ⟨fun w' hw' => ?_, ?_⟩
  · clear hw'
    go_simp
    try with_reducible rfl
  go_simp
  refine hK _ ?_
  clear hK K
  refine late_end ?_
  go_wp2_with fail
  refine wp_region_late (fun W => Below w.heap.size w W) [] [(0, 0), (0, 1), (0, 2), (0, 3), (0, 4), (0, 5), (0, 6), (1, 7), (0, 8)] [] (by kernel_rfl) (by kernel_rfl) rfl [(_, _), (_, _), (_, _), (_, _), (_, _), (_, _), (_, _), (_, _), (_, _)] rfl (fun c a d v w h => by cases d <;> exact h) (Below.refl _ _).drew.drew (fun ops hG => ?_)
  clear hG
  simp only [List.getElem_toArray, List.getElem_cons_succ, List.getElem_cons_zero]
  iterate 7
    refine late_read rfl (fun K hK => ?_)
    apply Exists.intro
    refine ⟨fun w' hw' => ?_, ?_⟩
    · obtain ⟨x0, x1, x2⟩ := HS1.out w' hw'
      clear hw'
      go_simp
      try with_reducible rfl
    go_simp
    refine hK _ ?_
    clear hK K
  refine late_do ?_
  go_wp2_with fail
  refine (HPD.out _ (Below.refl _ _).drew.drew).mono ?_
  rintro e w1 ⟨rfl, hw1⟩
  rw [hw1]
  clear hw1 w1
  go_wp2_with fail
  refine ⟨(Below.refl _ _).drew.drew, ?_⟩
  refine late_read rfl (fun K hK => ?_)
  apply Exists.intro
  refine ⟨fun w' hw' => ?_, ?_⟩
  · clear hw'
    go_simp
    try with_reducible rfl
  go_simp
  refine hK _ ?_
  clear hK K
  refine late_end ?_
  by_cases hp : pc < 0
  · have HE : Hid (HdEnds lo base Rb Pb w0 fl t res (.returned (.int .i64 4)) w.drew.drew) := by
      show HdEnds _ _ _ _ _ _ _ _ _ _
      rw [HRES.out, if_pos (.inl hp)]
      exact ⟨rfl, fun h => (by cases h), fun _ => HH.out.drew.drew.bel⟩
    go_wp2
    go_ret
    exact HE.out
  have hp2 : 0 ≤ pc := by omega
  clear hp
  by_cases hq : pd < 0
  · have HE : Hid (HdEnds lo base Rb Pb w0 fl t res (.returned (.int .i64 4)) w.drew.drew) := by
      show HdEnds _ _ _ _ _ _ _ _ _ _
      rw [HRES.out, if_pos (.inr hq)]
      exact ⟨rfl, fun h => (by cases h), fun _ => HH.out.drew.drew.bel⟩
    go_wp2
    go_ret
    exact HE.out
  have hq2 : 0 ≤ pd := by omega
  clear hq
  have HR : Hid (res = (0, { r with low := r.low ++ [pc.toNat], high := r.high ++ [pd.toNat] })) := by show _ = _; rw [HRES.out, if_neg (by omega)]
  have x5 := (HOW.out w.drew.drew (Below.refl _ _).drew.drew).2
  have hB3 : Below w.heap.size w (w.alloc (.cells #[.int .i64 pc] 3)).drew.drew := ((Below.refl _ _).alloc (Nat.le_refl _) _).drew.drew
  have HB3 : Hid (Below w.heap.size w (w.alloc (.cells #[.int .i64 pc] 3)).drew.drew) := hB3
  have HO3 : Hid ((w.alloc (.cells #[.int .i64 pc] 3)).drew.drew.ownsRow base 3 1 (.slice d5 r.low.length k5) r.low.length (intsV r.low)) := (HOW.out _ hB3).1
  have HT0 : Hid (∀ i u, ([.int .i64 pc] : List Value)[i]? = some u → (w.alloc (.cells #[.int .i64 pc] 3)).drew.drew.cell? ((⟨w.heap.size, 0, none⟩ : Addr).add i) = some u) := str_cell_new
  clear HPC HPD HS1 HRES HOW hB3
  obtain ⟨i0, hi0, hz0, hzs, hzb⟩ := info_parts Tryz.infoIntP
  go_wp2_with (at_builtin; refine wpList_append_at _ rfl (.tmp 85) (.tmp 87) 22 rfl base 3 i0 (.int .i64 0) 1 8 Tryz.underlying22 hi0 hz0 hzs hzb rfl (by decide) _ _ _ rfl HO3.out ⟨w.heap.size, 0, none⟩ 1 1 [.int .i64 pc] rfl rfl (by decide) HT0.out ?c2 ?c3 ?c4 ?c5 ?_)
  case c2 => intro u hu; simp at hu; subst hu; rfl
  case c3 => unfold maxLen; omega
  case c4 => first | omega | (simp; omega)
  case c5 => first | omega | (simp; omega)
  intro v' W4 hown4 hg4 hwh4
  obtain ⟨va, vcap, rfl⟩ : ∃ va vcap, v' = .slice va (r.low.length + 1) vcap := by
    rcases hown4.2 with ⟨h1, h2⟩ | ⟨g, cp, cur, h1, _⟩
    · omega
    · exact ⟨_, cp, h1⟩
  have hz3 : (w.alloc (.cells #[.int .i64 pc] 3)).drew.drew.heap.size = w.heap.size + 1 := by simp
  have hlt3 : ∀ k, (Value.slice d5 r.low.length k5).ownBlock = some k → base ≤ k ∧ k < w.heap.size + 1 := fun k hk => by have := HO3.out.lt k hk; omega
  have hqR : W4.heap[Rb]? = (w.alloc (.cells #[.int .i64 pc] 3)).drew.drew.heap[Rb]? := hg4.block Rb (by omega) (fun hh => by have := (hlt3 Rb hh.symm).1; omega)
  have gz : W4.frozen? ⟨Rb, 5, none⟩ = false := (World.frozen?_of_block (a := ⟨Rb, 5, none⟩) hqR).trans ((HB3.out.frozen (p := ⟨Rb, 5, none⟩) hRz).trans (HH.out.cR.z 5))
  have g0 : W4.cell? ⟨Rb, 5, none⟩ = some (.slice d5 r.low.length k5) := (World.cell?_of_block (a := ⟨Rb, 5, none⟩) hqR).trans ((HB3.out.cell (p := ⟨Rb, 5, none⟩) hRz).trans x5)
  have H5 : Hid (RefAt lo base Rb Pb w0 (W4.setCell ⟨Rb, 5, none⟩ (.slice va (r.low.length + 1) vcap)) (m.app 5 (.slice va (r.low.length + 1) vcap) [.int .i64 (pc.toNat : Int)])) := by
    have e1 : (pc.toNat : Int) = pc := by omega
    rw [e1]
    refine HH.out.appR 5 (by unfold isRow; omega) (by omega) HB3.out (v' := .slice va (r.low.length + 1) vcap) (news := [.int .i64 pc]) ?_ ?_ ?_
    · rw [HO.out.r5.1, HO.out.r5.2]; exact hown4
    · rw [HV5.out]; exact hg4
    · rw [HV5.out]; rcases hwh4 with hh | hh
      · exact .inl hh
      · exact .inr (by rw [hh]; simp)
  have hz5 : w.heap.size + 1 ≤ W4.heap.size := by have := hg4.size; omega
  have HW5 : Hid ((W4.setCell ⟨Rb, 5, none⟩ (.slice va (r.low.length + 1) vcap)).heap.size = W4.heap.size) := setCell_size _ _ _
  have y6 : W4.cell? ⟨Rb, 6, none⟩ = some (.slice d6 r.high.length k6) := (World.cell?_of_block (a := ⟨Rb, 6, none⟩) hqR).trans ((HB3.out.cell (p := ⟨Rb, 6, none⟩) hRz).trans (by rw [← HV6.out]; exact HH.out.cR.c 6 (by omega)))
  have z6 : W4.frozen? ⟨Rb, 6, none⟩ = false := (World.frozen?_of_block (a := ⟨Rb, 6, none⟩) hqR).trans ((HB3.out.frozen (p := ⟨Rb, 6, none⟩) hRz).trans (HH.out.cR.z 6))
  have hB6 : Below (W4.setCell ⟨Rb, 5, none⟩ (.slice va (r.low.length + 1) vcap)).heap.size (W4.setCell ⟨Rb, 5, none⟩ (.slice va (r.low.length + 1) vcap)) ((W4.setCell ⟨Rb, 5, none⟩ (.slice va (r.low.length + 1) vcap)).alloc (.cells #[.int .i64 pd] 3)) := (Below.refl _ _).alloc (Nat.le_refl _) _
  have HB6 : Hid (Below (W4.setCell ⟨Rb, 5, none⟩ (.slice va (r.low.length + 1) vcap)).heap.size (W4.setCell ⟨Rb, 5, none⟩ (.slice va (r.low.length + 1) vcap)) ((W4.setCell ⟨Rb, 5, none⟩ (.slice va (r.low.length + 1) vcap)).alloc (.cells #[.int .i64 pd] 3))) := hB6
  have HO6 : Hid (((W4.setCell ⟨Rb, 5, none⟩ (.slice va (r.low.length + 1) vcap)).alloc (.cells #[.int .i64 pd] 3)).ownsRow base 3 1 (.slice d6 r.high.length k6) r.high.length (intsV r.high)) := by
    have h1 := (H5.out.below hB6).own 6 (by unfold isRow; omega)
    have e2 : (m.app 5 (.slice va (r.low.length + 1) vcap) [.int .i64 (pc.toNat : Int)]).v 6 = .slice d6 r.high.length k6 := HV6.out
    have e3 : (m.app 5 (.slice va (r.low.length + 1) vcap) [.int .i64 (pc.toNat : Int)]).n 6 = r.high.length := HO.out.r6.1
    have e4 : (m.app 5 (.slice va (r.low.length + 1) vcap) [.int .i64 (pc.toNat : Int)]).xs 6 = intsV r.high := HO.out.r6.2
    rw [e2, e3, e4] at h1
    exact h1
  have HT6 : Hid (∀ i u, ([.int .i64 pd] : List Value)[i]? = some u → ((W4.setCell ⟨Rb, 5, none⟩ (.slice va (r.low.length + 1) vcap)).alloc (.cells #[.int .i64 pd] 3)).cell? ((⟨W4.heap.size, 0, none⟩ : Addr).add i) = some u) := str_cell_at HW5.out
  clear hown4 hg4 hwh4 hqR HO3 HB3 HT0 hlt3 HV5 HH hB6
  go_wp2_with (at_builtin; refine wpList_append_at _ rfl (.tmp 95) (.tmp 97) 22 rfl base 3 i0 (.int .i64 0) 1 8 Tryz.underlying22 hi0 hz0 hzs hzb rfl (by decide) _ _ _ rfl HO6.out ⟨W4.heap.size, 0, none⟩ 1 1 [.int .i64 pd] rfl rfl (by decide) HT6.out ?d2 ?d3 ?d4 ?d5 ?_)
  case d2 => intro u hu; simp at hu; subst hu; rfl
  case d3 => unfold maxLen; omega
  case d4 => first | omega | (simp; omega)
  case d5 => first | omega | (simp; omega)
  intro v6 W6 hown6 hg6 hwh6
  obtain ⟨vb, vcbp, rfl⟩ : ∃ va vcap, v6 = .slice va (r.high.length + 1) vcap := by
    rcases hown6.2 with ⟨h1, h2⟩ | ⟨g, cp, cur, h1, _⟩
    · omega
    · exact ⟨_, cp, h1⟩
  have hz6 : ((W4.setCell ⟨Rb, 5, none⟩ (.slice va (r.low.length + 1) vcap)).alloc (.cells #[.int .i64 pd] 3)).heap.size = W4.heap.size + 1 := by simp
  have hlt6 : ∀ k, (Value.slice d6 r.high.length k6).ownBlock = some k → base ≤ k := fun k hk => (HO6.out.lt k hk).1
  have hqR : W6.heap[Rb]? = ((W4.setCell ⟨Rb, 5, none⟩ (.slice va (r.low.length + 1) vcap)).alloc (.cells #[.int .i64 pd] 3)).heap[Rb]? := hg6.block Rb (by omega) (fun hh => by have := hlt6 Rb hh.symm; omega)
  have gz6 : W6.frozen? ⟨Rb, 6, none⟩ = false := (World.frozen?_of_block (a := ⟨Rb, 6, none⟩) hqR).trans ((HB6.out.frozen (p := ⟨Rb, 6, none⟩) (by rw [HW5.out]; show Rb < _; omega)).trans (H5.out.cR.z 6))
  have HADD : Hid (HdEnds lo base Rb Pb w0 fl t res (.returned (.int .i64 0)) (W6.setCell ⟨Rb, 6, none⟩ (.slice vb (r.high.length + 1) vcbp))) := by
    show HdEnds _ _ _ _ _ _ _ _ _ _
    rw [HR.out]
    have e1 : (pd.toNat : Int) = pd := by omega
    refine ⟨rfl, fun _ => ⟨_, H5.out.appR 6 (by unfold isRow; omega) (by omega) HB6.out (v' := .slice vb (r.high.length + 1) vcbp) (news := [.int .i64 (pd.toNat : Int)]) ?_ ?_ ?_, HO.out.addBelow pc.toNat pd.toNat _ _ (by omega) (by omega)⟩, fun hh => absurd rfl hh⟩
    · rw [e1]
      have e3 : (m.app 5 (.slice va (r.low.length + 1) vcap) [.int .i64 (pc.toNat : Int)]).n 6 = r.high.length := HO.out.r6.1
      have e4 : (m.app 5 (.slice va (r.low.length + 1) vcap) [.int .i64 (pc.toNat : Int)]).xs 6 = intsV r.high := HO.out.r6.2
      rw [e3, e4]; exact hown6
    · have e2 : (m.app 5 (.slice va (r.low.length + 1) vcap) [.int .i64 (pc.toNat : Int)]).v 6 = .slice d6 r.high.length k6 := HV6.out
      rw [e2]; exact hg6
    · have e2 : (m.app 5 (.slice va (r.low.length + 1) vcap) [.int .i64 (pc.toNat : Int)]).v 6 = .slice d6 r.high.length k6 := HV6.out
      rw [e2]; rcases hwh6 with hh | hh
      · exact .inl hh
      · exact .inr (by rw [hh]; simp)
  have g6 : ∃ v, W6.cell? ⟨Rb, 6, none⟩ = some v := ⟨_, (World.cell?_of_block (a := ⟨Rb, 6, none⟩) hqR).trans ((HB6.out.cell (p := ⟨Rb, 6, none⟩) (by rw [HW5.out]; show Rb < _; omega)).trans (H5.out.cR.c 6 (by omega)))⟩
  obtain ⟨v66, g6⟩ := g6
  clear hown6 hg6 hwh6 hqR HO6 HB6 HT6 hlt6 HV6 H5 HO HR HW5
  go_wp2
  go_ret
  exact HADD.out
end
end Go.Proofs.YthfacjlghcdndaaGreatDoor

namespace Go.Proofs.YthfacjlghcdndaaGreatDoor
open Go.RowKit
section
variable {lo base Rb Pb : Nat} {w0 w w' : World} {m : RMem} {r : Fl.RS} {fl : List FlS} {t : Nat}
theorem RefOf.addCell (h : RefOf r fl t m) (x : List UInt8) (y : Nat) (v v' : Value) (hx : x.length ≤ 100000) (hl : r.cells.length < 6) : RefOf { r with cells := r.cells ++ [x], cellLv := r.cellLv ++ [y] } fl (t + 1) ((m.app 2 v [strV x]).app 12 v' [.int .i64 (y : Int)]) :=
  { r1 := h.r1, r2 := ⟨by show m.n 2 + 1 = _; rw [h.r2.1]; simp, by show m.xs 2 ++ _ = _; rw [h.r2.2]; simp⟩, r3 := h.r3, r4 := h.r4, r5 := h.r5, r6 := h.r6, r8 := h.r8, r10 := h.r10, r12 := ⟨by show m.n 12 + 1 = _; rw [h.r12.1]; simp, by show m.xs 12 ++ _ = _; rw [h.r12.2]; simp [intsV]⟩, r13 := h.r13, bg := h.bg, st := h.st,
    nm := fun y hy => by
      simp only [List.mem_append, List.mem_singleton] at hy
      rcases hy with h1 | (h1 | rfl) | h1 | h1
      · exact h.nm y (by simp [h1])
      · exact h.nm y (by simp [h1])
      · exact hx
      · exact h.nm y (by simp [h1])
      · exact h.nm y (by simp [h1])
    lv := h.lv, ce := by simp; omega, ch := h.ch, lo := h.lo, sm := h.sm, fr := h.fr, lw := by have := h.lw; show r.low.length ≤ _; omega, ft := by have := h.ft; omega, pr := h.pr, bw := h.bw, cl := by have := h.cl; simp; omega, hl := h.hl }
set_option maxRecDepth 100000 in
set_option maxHeartbeats 20000000 in
theorem head_cell (h : RefAt lo base Rb Pb w0 w m) (hr : RefOf r fl t m) (b off cap : Nat) (n l : List UInt8) (hnl : n.length ≤ 100000) (hb : b < w.heap.size) (hbR : b ≠ Rb ∧ ∀ j, isRow j → (m.v j).ownBlock ≠ some b) (hcap : 3 ≤ cap ∧ cap ≤ maxLen) (c0 : w.cell? ⟨b, off, none⟩ = some (.string ⟨#[99, 101, 108, 108]⟩)) (c1 : w.cell? ⟨b, off + 1, none⟩ = some (.string ⟨n.toArray⟩)) (c2 : w.cell? ⟨b, off + 2, none⟩ = some (.string ⟨l.toArray⟩)) :
    Calls Tryz.prog 23 #[.pointer (some ⟨Rb, 0, none⟩), .slice (some ⟨b, off, none⟩) 3 cap] w (HdEnds lo base Rb Pb w0 fl t (r.head [Fl.wCell, n, l])) := by
  have hba := h.hba
  have hRz : Rb < w.heap.size := by omega
  have hPz : Pb < w.heap.size := by omega
  have HH : Hid (RefAt lo base Rb Pb w0 w m) := h
  have HO : Hid (RefOf r fl t m) := hr
  have HPA : Hid (∀ W, Below w.heap.size w W → Calls Tryz.prog 22 #[m.v 1, .string ⟨l.toArray⟩] W fun e w' => e = .returned (.int .i64 (Fl.place r.levels l)) ∧ w' = W) := fun W hW => place_words ((h.below hW).levels hr) l
  have HPB : Hid (∀ W, Below w.heap.size w W → Calls Tryz.prog 22 #[m.v 2, .string ⟨n.toArray⟩] W fun e w' => e = .returned (.int .i64 (Fl.place r.cells n)) ∧ w' = W) := fun W hW => place_words ((h.below hW).cells hr) n
  have HPC : Hid (∀ W, Below w.heap.size w W → Calls Tryz.prog 22 #[m.v 3, .string ⟨n.toArray⟩] W fun e w' => e = .returned (.int .i64 (Fl.place r.chans n)) ∧ w' = W) := fun W hW => place_words ((h.below hW).chans hr) n
  obtain ⟨d1, k1, hv1⟩ := h.shape 1 (by unfold isRow; omega)
  rw [hr.r1.1] at hv1
  obtain ⟨d2, k2, hv2⟩ := h.shape 2 (by unfold isRow; omega)
  rw [hr.r2.1] at hv2
  obtain ⟨d3, k3, hv3⟩ := h.shape 3 (by unfold isRow; omega)
  rw [hr.r3.1] at hv3
  obtain ⟨dl, kl, hvl⟩ := h.shape 12 (by unfold isRow; omega)
  rw [hr.r12.1] at hvl
  rw [hv1] at HPA
  rw [hv2] at HPB
  rw [hv3] at HPC
  have HV2 : Hid (m.v 2 = .slice d2 r.cells.length k2) := hv2
  have HVL : Hid (m.v 12 = .slice dl r.cellLv.length kl) := hvl
  have HS1 : Hid (∀ W, Below w.heap.size w W → W.cell? ⟨Rb, 1, none⟩ = some (.slice d1 r.levels.length k1) ∧ W.cell? ⟨Rb, 2, none⟩ = some (.slice d2 r.cells.length k2) ∧ W.cell? ⟨Rb, 3, none⟩ = some (.slice d3 r.chans.length k3) ∧ W.cell? ⟨b, off + 1, none⟩ = some (.string ⟨n.toArray⟩) ∧ W.cell? ⟨b, off + 2, none⟩ = some (.string ⟨l.toArray⟩)) := fun W hW => ⟨(hW.cell (p := ⟨Rb, 1, none⟩) hRz).trans (by rw [← hv1]; exact h.cR.c 1 (by omega)), (hW.cell (p := ⟨Rb, 2, none⟩) hRz).trans (by rw [← hv2]; exact h.cR.c 2 (by omega)), (hW.cell (p := ⟨Rb, 3, none⟩) hRz).trans (by rw [← hv3]; exact h.cR.c 3 (by omega)), (hW.cell (p := ⟨b, off + 1, none⟩) hb).trans c1, (hW.cell (p := ⟨b, off + 2, none⟩) hb).trans c2⟩
  have HOW : Hid (∀ W, Below w.heap.size w W → W.ownsRow base 9 1 (.slice d2 r.cells.length k2) r.cells.length (r.cells.map strV)) := fun W hW => by
    have h1 := (h.below hW).own 2 (by unfold isRow; omega)
    rw [hr.r2.1, hr.r2.2, hv2] at h1
    exact h1
  have HRES : Hid (r.head [Fl.wCell, n, l] = if Fl.place r.levels l < 0 ∨ 0 ≤ Fl.place r.cells n ∨ 0 ≤ Fl.place r.chans n then (4, r) else if r.cells.length = 6 then (5, r) else (0, { r with cells := r.cells ++ [n], cellLv := r.cellLv ++ [(Fl.place r.levels l).toNat] })) := by show _ = _; simp [Fl.RS.head, Fl.wCell, Fl.wBelow, Fl.wChannel]
  obtain ⟨res, hres⟩ : ∃ res, res = r.head [Fl.wCell, n, l] := ⟨_, rfl⟩
  rw [← hres] at HRES ⊢
  have hpa := Fl.place_cases r.levels l
  have hpb := Fl.place_cases r.cells n
  have hpe := Fl.place_cases r.chans n
  have hlv := hr.lv
  have hce := hr.ce
  have hch := hr.ch
  have hlen : r.cellLv.length ≤ 6 := by have := hr.cl; have := hr.hl; omega
  generalize Fl.place r.levels l = pa at *
  generalize Fl.place r.cells n = pb at *
  generalize Fl.place r.chans n = pe at *
  have hcapI : (3 : Int) ≤ (cap : Int) := by omega
  have hpa1 : -1 ≤ pa ∧ pa ≤ 6 := by omega
  have hpb1 : -1 ≤ pb ∧ pb ≤ 6 := by omega
  have hpe1 : -1 ≤ pe ∧ pe ≤ 6 := by omega
  have hlvI : (r.levels.length : Int) ≤ 6 := by omega
  have hceI : (r.cells.length : Int) ≤ 6 := by omega
  have hchI : (r.chans.length : Int) ≤ 3 := by omega
  have HBR : Hid ((Value.slice d2 r.cells.length k2).ownBlock ≠ some b) := by rw [← hv2]; exact hbR.2 2 (by unfold isRow; omega)
  clear h hr hres hv1 hv2 hv3 hvl c1 c2 hbR hpa hpb hpe
  go_enter Tryz.func23, Tryz.ntmps23
  go_wp2_with fail
  refine wp_region_late (fun W => Below w.heap.size w W) [] [(0, 0), (0, 1), (0, 2), (0, 3), (0, 4), (0, 5), (0, 6), (1, 7), (0, 8)] [] (by kernel_rfl) (by kernel_rfl) rfl [(_, _), (_, _), (_, _), (_, _), (_, _), (_, _), (_, _), (_, _), (_, _)] rfl (fun c a d v w h => by cases d <;> exact h) (Below.refl _ _).drew (fun ops hG => ?_)
  clear hG
  simp only [List.getElem_toArray, List.getElem_cons_succ, List.getElem_cons_zero]
  iterate 7
    refine late_read rfl (fun K hK => ?_)
    apply Exists.intro
    refine ⟨fun w' hw' => ?_, ?_⟩
    · obtain ⟨x1, x2, x3, x4, x5⟩ := HS1.out w' hw'
      clear hw'
      go_simp
      try with_reducible rfl
    go_simp
    refine hK _ ?_
    clear hK K
  refine late_do ?_
  go_wp2_with fail
  refine (HPA.out _ (Below.refl _ _).drew).mono ?_
  rintro e w1 ⟨rfl, hw1⟩
  rw [hw1]
  clear hw1 w1
  go_wp2_with fail
  refine ⟨(Below.refl _ _).drew, ?_⟩
  refine late_read rfl (fun K hK => ?_)
  apply Exists.intro
  refine ⟨fun w' hw' => ?_, ?_⟩
  · clear hw'
    go_simp
    try with_reducible rfl
  go_simp
  refine hK _ ?_
  clear hK K
  refine late_end ?_
  go_wp2_with fail
  refine wp_region_late (fun W => Below w.heap.size w W) [] [(0, 0), (0, 1), (0, 2), (0, 3), (0, 4), (0, 5), (0, 6), (1, 7), (0, 8)] [] (by kernel_rfl) (by kernel_rfl) rfl [(_, _), (_, _), (_, _), (_, _), (_, _), (_, _), (_, _), (_, _), (_, _)] rfl (fun c a d v w h => by cases d <;> exact h) (Below.refl _ _).drew.drew (fun ops hG => ?_)
  clear hG
  simp only [List.getElem_toArray, List.getElem_cons_succ, List.getElem_cons_zero]
  iterate 7
    refine late_read rfl (fun K hK => ?_)
    apply Exists.intro
    refine ⟨fun w' hw' => ?_, ?_⟩
    · obtain ⟨x1, x2, x3, x4, x5⟩ := HS1.out w' hw'
      clear hw'
      go_simp
      try with_reducible rfl
    go_simp
    refine hK _ ?_
    clear hK K
  refine late_do ?_
  go_wp2_with fail
  refine (HPB.out _ (Below.refl _ _).drew.drew).mono ?_
  rintro e w1 ⟨rfl, hw1⟩
  rw [hw1]
  clear hw1 w1
  go_wp2_with fail
  refine ⟨(Below.refl _ _).drew.drew, ?_⟩
  refine late_read rfl (fun K hK => ?_)
  apply Exists.intro
  refine ⟨fun w' hw' => ?_, ?_⟩
  · clear hw'
    go_simp
    try with_reducible rfl
  go_simp
  refine hK _ ?_
  clear hK K
  refine late_end ?_
  go_wp2_with fail
  refine wp_region_late (fun W => Below w.heap.size w W) [] [(0, 0), (0, 1), (0, 2), (0, 3), (0, 4), (0, 5), (0, 6), (1, 7), (0, 8)] [] (by kernel_rfl) (by kernel_rfl) rfl [(_, _), (_, _), (_, _), (_, _), (_, _), (_, _), (_, _), (_, _), (_, _)] rfl (fun c a d v w h => by cases d <;> exact h) (Below.refl _ _).drew.drew.drew (fun ops hG => ?_)
  clear hG
  simp only [List.getElem_toArray, List.getElem_cons_succ, List.getElem_cons_zero]
  iterate 7
    refine late_read rfl (fun K hK => ?_)
    apply Exists.intro
    refine ⟨fun w' hw' => ?_, ?_⟩
    · obtain ⟨x1, x2, x3, x4, x5⟩ := HS1.out w' hw'
      clear hw'
      go_simp
      try with_reducible rfl
    go_simp
    refine hK _ ?_
    clear hK K
  refine late_do ?_
  go_wp2_with fail
  refine (HPC.out _ (Below.refl _ _).drew.drew.drew).mono ?_
  rintro e w1 ⟨rfl, hw1⟩
  rw [hw1]
  clear hw1 w1
  go_wp2_with fail
  refine ⟨(Below.refl _ _).drew.drew.drew, ?_⟩
  refine late_read rfl (fun K hK => ?_)
  apply Exists.intro
  refine ⟨fun w' hw' => ?_, ?_⟩
  · clear hw'
    go_simp
    try with_reducible rfl
  go_simp
  refine hK _ ?_
  clear hK K
  refine late_end ?_
  have z0 : w.cell? ⟨b, off, none⟩ = some (.string ⟨#[99, 101, 108, 108]⟩) := c0
  have HE4 : Hid (pa < 0 ∨ 0 ≤ pb ∨ 0 ≤ pe → HdEnds lo base Rb Pb w0 fl t res (.returned (.int .i64 4)) w.drew.drew.drew) := by
    show _ → HdEnds _ _ _ _ _ _ _ _ _ _
    intro hh
    rw [HRES.out, if_pos hh]
    exact ⟨rfl, fun h => (by cases h), fun _ => HH.out.drew.drew.drew.bel⟩
  by_cases hp : pa < 0
  · go_wp2
    go_ret
    exact HE4.out (.inl hp)
  have hp2 : 0 ≤ pa := by omega
  clear hp
  by_cases hq : 0 ≤ pb
  · go_wp2
    go_ret
    exact HE4.out (.inr (.inl hq))
  have hq2 : pb < 0 := by omega
  clear hq
  by_cases hq : 0 ≤ pe
  · go_wp2
    go_ret
    exact HE4.out (.inr (.inr hq))
  have hq3 : pe < 0 := by omega
  clear hq HE4
  obtain ⟨x1, x2, x3, x4, x5⟩ := HS1.out w.drew.drew.drew (Below.refl _ _).drew.drew.drew
  by_cases h6 : r.cells.length = 6
  · have b6 : ((r.cells.length : Int) == 6) = true := by simp [h6]
    have HE : Hid (HdEnds lo base Rb Pb w0 fl t res (.returned (.int .i64 5)) w.drew.drew.drew) := by
      show HdEnds _ _ _ _ _ _ _ _ _ _
      rw [HRES.out, if_neg (by omega), if_pos h6]
      exact ⟨rfl, fun h => (by cases h), fun _ => HH.out.drew.drew.drew.bel⟩
    clear h6
    go_wp2
    go_ret
    exact HE.out
  have b6 : ((r.cells.length : Int) == 6) = false := by simp; omega
  have HR : Hid (res = (0, { r with cells := r.cells ++ [n], cellLv := r.cellLv ++ [pa.toNat] })) := by show _ = _; rw [HRES.out, if_neg (by omega), if_neg h6]
  have hl6 : r.cells.length < 6 := by omega
  clear h6 HPA HPB HPC HRES
  go_wp2_with fail
  refine wp_region_late (fun W => W.cell? ⟨Rb, 2, none⟩ = some (.slice d2 r.cells.length k2) ∧ W.cell? ⟨b, off + 1, none⟩ = some (.string ⟨n.toArray⟩)) [12] [(0, 0), (0, 1), (0, 2), (0, 3), (0, 4), (0, 5), (0, 6), (0, 7), (1, 8), (1, 9), (1, 10), (0, 11), (2, 12)] [] (by kernel_rfl) (by kernel_rfl) rfl [(_, _), (_, _), (_, _), (_, _), (_, _), (_, _), (_, _), (_, _), (_, _), (_, _), (_, _), (_, _), (_, _)] rfl (fun c a d v w h => by cases d <;> exact h) ⟨x2, x4⟩ (fun ops hG => ?_)
  clear hG
  simp only [List.getElem_toArray, List.getElem_cons_succ, List.getElem_cons_zero]
  iterate 8
    refine late_read rfl (fun K hK => ?_)
    apply Exists.intro
    refine ⟨fun w' hw' => ?_, ?_⟩
    · obtain ⟨z0, z1⟩ := hw'
      go_simp
      try with_reducible rfl
    go_simp
    refine hK _ ?_
    clear hK K
  refine late_do ?_
  go_wp2_with fail
  obtain ⟨W3, hW3⟩ : ∃ W3, W3 = (w.alloc (.cells #[.string ⟨n.toArray⟩] 9)).drew.drew.drew.drew := ⟨_, rfl⟩
  obtain ⟨tb, htb⟩ : ∃ tb, tb = w.heap.size := ⟨_, rfl⟩
  have hB3 : Below w.heap.size w W3 := by rw [hW3]; exact ((Below.refl _ _).alloc (Nat.le_refl _) _).drew.drew.drew.drew
  have hz3 : w.heap.size + 1 = W3.heap.size := by rw [hW3]; simp
  have t0 : ∀ i u, ([.string ⟨n.toArray⟩] : List Value)[i]? = some u → W3.cell? ((⟨tb, 0, none⟩ : Addr).add i) = some u := by rw [hW3, htb]; exact str_cell_new
  have e0 : W3.cell? ⟨Rb, 2, none⟩ = some (.slice d2 r.cells.length k2) := by have := HS1.out W3 hB3; exact this.2.1
  have e1 : W3.cell? ⟨b, off + 1, none⟩ = some (.string ⟨n.toArray⟩) := (HS1.out W3 hB3).2.2.2.1
  have HO3 : Hid (W3.ownsRow base 9 1 (.slice d2 r.cells.length k2) r.cells.length (r.cells.map strV)) := HOW.out W3 hB3
  have HB3 : Hid (Below w.heap.size w W3) := hB3
  rw [← hW3, ← htb]
  clear hW3 htb hB3 x1 x2 x3 x4 x5 HOW HS1
  refine ⟨⟨e0, e1⟩, ?_⟩
  refine late_do ?_
  obtain ⟨i0, hi0, hz0, hzs, hzb⟩ := info_parts Tryz.infoStr
  go_wp2_with (at_builtin; refine wpList_append_at _ rfl (.tmp 149) (.tmp 153) 48 rfl base 9 i0 (.string ⟨#[]⟩) 1 16 Tryz.underlying48 hi0 hz0 hzs hzb rfl (by decide) _ _ _ rfl HO3.out ⟨tb, 0, none⟩ 1 1 [.string ⟨n.toArray⟩] rfl rfl (by decide) t0 ?c2 ?c3 ?c4 ?c5 ?_)
  case c2 => intro u hu; simp at hu; subst hu; rfl
  case c3 => unfold maxLen; omega
  case c4 => omega
  case c5 => omega
  intro v' W4 hown4 hg4 hwh4
  obtain ⟨va, vcap, rfl⟩ : ∃ va vcap, v' = .slice va (r.cells.length + 1) vcap := by
    rcases hown4.2 with ⟨h1, h2⟩ | ⟨g, cp, cur, h1, _⟩
    · omega
    · exact ⟨_, cp, h1⟩
  have hlt3 : ∀ k, (Value.slice d2 r.cells.length k2).ownBlock = some k → base ≤ k ∧ k < w.heap.size + 1 := fun k hk => by have := HO3.out.lt k hk; omega
  have hqR : W4.heap[Rb]? = W3.heap[Rb]? := hg4.block Rb (by omega) (fun hh => by have := (hlt3 Rb hh.symm).1; omega)
  have hqb : W4.heap[b]? = W3.heap[b]? := hg4.block b (by omega) (fun hh => HBR.out hh.symm)
  have g0 : W4.cell? ⟨Rb, 2, none⟩ = some (.slice d2 r.cells.length k2) := (World.cell?_of_block (a := ⟨Rb, 2, none⟩) hqR).trans e0
  have g1 : W4.cell? ⟨b, off + 1, none⟩ = some (.string ⟨n.toArray⟩) := (World.cell?_of_block (a := ⟨b, off + 1, none⟩) hqb).trans e1
  have gz : W4.frozen? ⟨Rb, 2, none⟩ = false := (World.frozen?_of_block (a := ⟨Rb, 2, none⟩) hqR).trans ((HB3.out.frozen (p := ⟨Rb, 2, none⟩) hRz).trans (HH.out.cR.z 2))
  have hz4 : w.heap.size + 1 ≤ W4.heap.size := by have := hg4.size; omega
  have H5 : Hid (RefAt lo base Rb Pb w0 (W4.setCell ⟨Rb, 2, none⟩ (.slice va (r.cells.length + 1) vcap)) (m.app 2 (.slice va (r.cells.length + 1) vcap) [strV n])) := by
    refine HH.out.appR 2 (by unfold isRow; omega) (by omega) HB3.out (v' := .slice va (r.cells.length + 1) vcap) (news := [strV n]) ?_ ?_ ?_
    · rw [HO.out.r2.1, HO.out.r2.2]; exact hown4
    · rw [HV2.out]; exact hg4
    · rw [HV2.out]; exact hwh4
  clear hown4 hg4 hwh4 hqR hqb e0 e1 t0 HO3 HB3 hlt3 HV2 HH HBR
  go_wp2_with fail
  refine ⟨⟨g0, g1⟩, ?_⟩
  refine late_do ?_
  go_wp2_with fail
  refine ⟨⟨g0, g1⟩, ?_⟩
  refine late_read rfl (fun K hK => ?_)
  apply Exists.intro
  refine ⟨fun w' hw' => ?_, ?_⟩
  · obtain ⟨z0, z1⟩ := hw'
    go_simp
    try with_reducible rfl
  go_simp
  refine hK _ ?_
  clear hK K
  refine late_late ?_
  go_wp2_with fail
  refine late_end ?_
  obtain ⟨W5, hW5⟩ : ∃ W5, W5 = W4.setCell ⟨Rb, 2, none⟩ (.slice va (r.cells.length + 1) vcap) := ⟨_, rfl⟩
  rw [← hW5] at H5 ⊢
  have hz5 : w.heap.size + 1 ≤ W5.heap.size := by rw [hW5, setCell_size]; omega
  clear hW5 g0 g1 gz
  have y0 : W5.cell? ⟨Rb, 0, none⟩ = some (.pointer (some ⟨Pb, 0, none⟩)) := H5.out.cR.c 0 (by omega)
  have y1 : W5.cell? ⟨Pb, 2, none⟩ = some (.slice dl r.cellLv.length kl) := by rw [← HVL.out]; exact H5.out.cP.c 2 (by omega)
  go_wp2_with fail
  refine wp_region_late (fun W => W.cell? ⟨Rb, 0, none⟩ = some (.pointer (some ⟨Pb, 0, none⟩)) ∧ W.cell? ⟨Pb, 2, none⟩ = some (.slice dl r.cellLv.length kl)) [16] [(0, 0), (0, 1), (0, 2), (0, 3), (0, 4), (0, 5), (0, 6), (0, 7), (0, 8), (0, 9), (0, 10), (0, 11), (1, 12), (1, 13), (1, 14), (0, 15), (2, 16)] [] (by kernel_rfl) (by kernel_rfl) rfl [(_, _), (_, _), (_, _), (_, _), (_, _), (_, _), (_, _), (_, _), (_, _), (_, _), (_, _), (_, _), (_, _), (_, _), (_, _), (_, _), (_, _)] rfl (fun c a d v w h => by cases d <;> exact h) ⟨y0, y1⟩ (fun ops hG => ?_)
  clear hG
  simp only [List.getElem_toArray, List.getElem_cons_succ, List.getElem_cons_zero]
  iterate 12
    refine late_read rfl (fun K hK => ?_)
    apply Exists.intro
    refine ⟨fun w' hw' => ?_, ?_⟩
    · obtain ⟨z0, z1⟩ := hw'
      go_simp
      try with_reducible rfl
    go_simp
    refine hK _ ?_
    clear hK K
  refine late_do ?_
  go_wp2_with fail
  obtain ⟨W6, hW6⟩ : ∃ W6, W6 = (W5.alloc (.cells #[.int .i64 pa] 3)).drew := ⟨_, rfl⟩
  obtain ⟨ub, hub⟩ : ∃ ub, ub = W5.heap.size := ⟨_, rfl⟩
  have hB6 : Below W5.heap.size W5 W6 := by rw [hW6]; exact ((Below.refl _ _).alloc (Nat.le_refl _) _).drew
  have hz6 : W5.heap.size + 1 = W6.heap.size := by rw [hW6]; simp
  have u0 : ∀ i u, ([.int .i64 pa] : List Value)[i]? = some u → W6.cell? ((⟨ub, 0, none⟩ : Addr).add i) = some u := by rw [hW6, hub]; exact str_cell_new
  have f0 : W6.cell? ⟨Rb, 0, none⟩ = some (.pointer (some ⟨Pb, 0, none⟩)) := (hB6.cell (p := ⟨Rb, 0, none⟩) (by show Rb < _; omega)).trans y0
  have f1 : W6.cell? ⟨Pb, 2, none⟩ = some (.slice dl r.cellLv.length kl) := (hB6.cell (p := ⟨Pb, 2, none⟩) (by show Pb < _; omega)).trans y1
  have E2 : Hid ((m.app 2 (.slice va (r.cells.length + 1) vcap) [strV n]).v 12 = .slice dl r.cellLv.length kl) := HVL.out
  have E3 : Hid ((m.app 2 (.slice va (r.cells.length + 1) vcap) [strV n]).n 12 = r.cellLv.length) := HO.out.r12.1
  have E4 : Hid ((m.app 2 (.slice va (r.cells.length + 1) vcap) [strV n]).xs 12 = intsV r.cellLv) := HO.out.r12.2
  have HO6 : Hid (W6.ownsRow base 3 1 (.slice dl r.cellLv.length kl) r.cellLv.length (intsV r.cellLv)) := by
    have h1 := (H5.out.below hB6).own 12 (by unfold isRow; omega)
    rw [E2.out, E3.out, E4.out] at h1
    exact h1
  have HB6 : Hid (Below W5.heap.size W5 W6) := hB6
  rw [← hW6, ← hub]
  clear hW6 hub hB6 y0 y1
  refine ⟨⟨f0, f1⟩, ?_⟩
  refine late_do ?_
  clear hi0 hz0 hzs hzb i0
  obtain ⟨i0, hi0, hz0, hzs, hzb⟩ := info_parts Tryz.infoIntP
  go_wp2_with (at_builtin; refine wpList_append_at _ rfl (.tmp 167) (.tmp 169) 22 rfl base 3 i0 (.int .i64 0) 1 8 Tryz.underlying22 hi0 hz0 hzs hzb rfl (by decide) _ _ _ rfl HO6.out ⟨ub, 0, none⟩ 1 1 [.int .i64 pa] rfl rfl (by decide) u0 ?d2 ?d3 ?d4 ?d5 ?_)
  case d2 => intro u hu; simp at hu; subst hu; rfl
  case d3 => unfold maxLen; omega
  case d4 => omega
  case d5 => omega
  intro v7 W7 hown7 hg7 hwh7
  obtain ⟨vb, vcbp, rfl⟩ : ∃ va vcap, v7 = .slice va (r.cellLv.length + 1) vcap := by
    rcases hown7.2 with ⟨h1, h2⟩ | ⟨g, cp, cur, h1, _⟩
    · omega
    · exact ⟨_, cp, h1⟩
  have hlt6 : ∀ k, (Value.slice dl r.cellLv.length kl).ownBlock = some k → base ≤ k := fun k hk => (HO6.out.lt k hk).1
  have hqR : W7.heap[Rb]? = W6.heap[Rb]? := hg7.block Rb (by omega) (fun hh => by have := hlt6 Rb hh.symm; omega)
  have hqP : W7.heap[Pb]? = W6.heap[Pb]? := hg7.block Pb (by omega) (fun hh => by have := hlt6 Pb hh.symm; omega)
  have g0 : W7.cell? ⟨Rb, 0, none⟩ = some (.pointer (some ⟨Pb, 0, none⟩)) := (World.cell?_of_block (a := ⟨Rb, 0, none⟩) hqR).trans f0
  have g1 : W7.cell? ⟨Pb, 2, none⟩ = some (.slice dl r.cellLv.length kl) := (World.cell?_of_block (a := ⟨Pb, 2, none⟩) hqP).trans f1
  have gz : W7.frozen? ⟨Pb, 2, none⟩ = false := (World.frozen?_of_block (a := ⟨Pb, 2, none⟩) hqP).trans ((HB6.out.frozen (p := ⟨Pb, 2, none⟩) (by show Pb < _; omega)).trans (H5.out.cP.z 2))
  have HADD : Hid (HdEnds lo base Rb Pb w0 fl t res (.returned (.int .i64 0)) (W7.setCell ⟨Pb, 2, none⟩ (.slice vb (r.cellLv.length + 1) vcbp))) := by
    show HdEnds _ _ _ _ _ _ _ _ _ _
    rw [HR.out]
    have ea : (pa.toNat : Int) = pa := by omega
    refine ⟨rfl, fun _ => ⟨_, H5.out.appP 12 (by unfold isRow; omega) (by omega) HB6.out (v' := .slice vb (r.cellLv.length + 1) vcbp) (news := [.int .i64 (pa.toNat : Int)]) ?_ ?_ ?_, HO.out.addCell n pa.toNat _ _ hnl hl6⟩, fun hh => absurd rfl hh⟩
    · rw [ea, E3.out, E4.out]; exact hown7
    · rw [E2.out]; exact hg7
    · rw [E2.out]; exact hwh7
  clear hown7 hg7 hwh7 hqR hqP f0 f1 u0 HO6 HB6 hlt6 HVL H5 HO HR E2 E3 E4
  go_wp2_with fail
  refine ⟨⟨g0, g1⟩, ?_⟩
  refine late_do ?_
  go_wp2_with fail
  refine ⟨⟨g0, g1⟩, ?_⟩
  refine late_read rfl (fun K hK => ?_)
  apply Exists.intro
  refine ⟨fun w' hw' => ?_, ?_⟩
  · obtain ⟨z0, z1⟩ := hw'
    go_simp
    try with_reducible rfl
  go_simp
  refine hK _ ?_
  clear hK K
  refine late_late ?_
  go_wp2_with fail
  refine late_end ?_
  go_wp2
  go_ret
  exact HADD.out
end
end Go.Proofs.YthfacjlghcdndaaGreatDoor

namespace Go.Proofs.YthfacjlghcdndaaGreatDoor
open Go.RowKit
section
variable {lo base Rb Pb : Nat} {w0 w w' : World} {m : RMem} {r : Fl.RS} {fl : List FlS} {t : Nat}
theorem RefOf.addChan (h : RefOf r fl t m) (x : List UInt8) (y : Nat) (v v' : Value) (hx : x.length ≤ 100000) (hl : r.chans.length < 3) : RefOf { r with chans := r.chans ++ [x], chanLv := r.chanLv ++ [y] } fl (t + 1) ((m.app 3 v [strV x]).app 13 v' [.int .i64 (y : Int)]) :=
  { r1 := h.r1, r2 := h.r2, r3 := ⟨by show m.n 3 + 1 = _; rw [h.r3.1]; simp, by show m.xs 3 ++ _ = _; rw [h.r3.2]; simp⟩, r4 := h.r4, r5 := h.r5, r6 := h.r6, r8 := h.r8, r10 := h.r10, r12 := h.r12, r13 := ⟨by show m.n 13 + 1 = _; rw [h.r13.1]; simp, by show m.xs 13 ++ _ = _; rw [h.r13.2]; simp [intsV]⟩, bg := h.bg, st := h.st,
    nm := fun y hy => by
      simp only [List.mem_append, List.mem_singleton] at hy
      rcases hy with h1 | h1 | (h1 | rfl) | h1
      · exact h.nm y (by simp [h1])
      · exact h.nm y (by simp [h1])
      · exact h.nm y (by simp [h1])
      · exact hx
      · exact h.nm y (by simp [h1])
    lv := h.lv, ce := h.ce, ch := by simp; omega, lo := h.lo, sm := h.sm, fr := h.fr, lw := by have := h.lw; show r.low.length ≤ _; omega, ft := by have := h.ft; omega, pr := h.pr, bw := h.bw, cl := h.cl, hl := by have := h.hl; simp; omega }
set_option maxRecDepth 100000 in
set_option maxHeartbeats 20000000 in
theorem head_channel (h : RefAt lo base Rb Pb w0 w m) (hr : RefOf r fl t m) (b off cap : Nat) (n l : List UInt8) (hnl : n.length ≤ 100000) (hb : b < w.heap.size) (hbR : b ≠ Rb ∧ ∀ j, isRow j → (m.v j).ownBlock ≠ some b) (hcap : 3 ≤ cap ∧ cap ≤ maxLen) (c0 : w.cell? ⟨b, off, none⟩ = some (.string ⟨#[99, 104, 97, 110, 110, 101, 108]⟩)) (c1 : w.cell? ⟨b, off + 1, none⟩ = some (.string ⟨n.toArray⟩)) (c2 : w.cell? ⟨b, off + 2, none⟩ = some (.string ⟨l.toArray⟩)) :
    Calls Tryz.prog 23 #[.pointer (some ⟨Rb, 0, none⟩), .slice (some ⟨b, off, none⟩) 3 cap] w (HdEnds lo base Rb Pb w0 fl t (r.head [Fl.wChannel, n, l])) := by
  have hba := h.hba
  have hRz : Rb < w.heap.size := by omega
  have hPz : Pb < w.heap.size := by omega
  have HH : Hid (RefAt lo base Rb Pb w0 w m) := h
  have HO : Hid (RefOf r fl t m) := hr
  have HPA : Hid (∀ W, Below w.heap.size w W → Calls Tryz.prog 22 #[m.v 1, .string ⟨l.toArray⟩] W fun e w' => e = .returned (.int .i64 (Fl.place r.levels l)) ∧ w' = W) := fun W hW => place_words ((h.below hW).levels hr) l
  have HPB : Hid (∀ W, Below w.heap.size w W → Calls Tryz.prog 22 #[m.v 2, .string ⟨n.toArray⟩] W fun e w' => e = .returned (.int .i64 (Fl.place r.cells n)) ∧ w' = W) := fun W hW => place_words ((h.below hW).cells hr) n
  have HPC : Hid (∀ W, Below w.heap.size w W → Calls Tryz.prog 22 #[m.v 3, .string ⟨n.toArray⟩] W fun e w' => e = .returned (.int .i64 (Fl.place r.chans n)) ∧ w' = W) := fun W hW => place_words ((h.below hW).chans hr) n
  obtain ⟨d1, k1, hv1⟩ := h.shape 1 (by unfold isRow; omega)
  rw [hr.r1.1] at hv1
  obtain ⟨d2, k2, hv2⟩ := h.shape 2 (by unfold isRow; omega)
  rw [hr.r2.1] at hv2
  obtain ⟨d3, k3, hv3⟩ := h.shape 3 (by unfold isRow; omega)
  rw [hr.r3.1] at hv3
  obtain ⟨dl, kl, hvl⟩ := h.shape 13 (by unfold isRow; omega)
  rw [hr.r13.1] at hvl
  rw [hv1] at HPA
  rw [hv2] at HPB
  rw [hv3] at HPC
  have HV2 : Hid (m.v 3 = .slice d3 r.chans.length k3) := hv3
  have HVL : Hid (m.v 13 = .slice dl r.chanLv.length kl) := hvl
  have HS1 : Hid (∀ W, Below w.heap.size w W → W.cell? ⟨Rb, 1, none⟩ = some (.slice d1 r.levels.length k1) ∧ W.cell? ⟨Rb, 2, none⟩ = some (.slice d2 r.cells.length k2) ∧ W.cell? ⟨Rb, 3, none⟩ = some (.slice d3 r.chans.length k3) ∧ W.cell? ⟨b, off + 1, none⟩ = some (.string ⟨n.toArray⟩) ∧ W.cell? ⟨b, off + 2, none⟩ = some (.string ⟨l.toArray⟩)) := fun W hW => ⟨(hW.cell (p := ⟨Rb, 1, none⟩) hRz).trans (by rw [← hv1]; exact h.cR.c 1 (by omega)), (hW.cell (p := ⟨Rb, 2, none⟩) hRz).trans (by rw [← hv2]; exact h.cR.c 2 (by omega)), (hW.cell (p := ⟨Rb, 3, none⟩) hRz).trans (by rw [← hv3]; exact h.cR.c 3 (by omega)), (hW.cell (p := ⟨b, off + 1, none⟩) hb).trans c1, (hW.cell (p := ⟨b, off + 2, none⟩) hb).trans c2⟩
  have HOW : Hid (∀ W, Below w.heap.size w W → W.ownsRow base 9 1 (.slice d3 r.chans.length k3) r.chans.length (r.chans.map strV)) := fun W hW => by
    have h1 := (h.below hW).own 3 (by unfold isRow; omega)
    rw [hr.r3.1, hr.r3.2, hv3] at h1
    exact h1
  have HRES : Hid (r.head [Fl.wChannel, n, l] = if Fl.place r.levels l < 0 ∨ 0 ≤ Fl.place r.cells n ∨ 0 ≤ Fl.place r.chans n then (4, r) else if r.chans.length = 3 then (5, r) else (0, { r with chans := r.chans ++ [n], chanLv := r.chanLv ++ [(Fl.place r.levels l).toNat] })) := by show _ = _; simp [Fl.RS.head, Fl.wCell, Fl.wBelow, Fl.wChannel]
  obtain ⟨res, hres⟩ : ∃ res, res = r.head [Fl.wChannel, n, l] := ⟨_, rfl⟩
  rw [← hres] at HRES ⊢
  have hpa := Fl.place_cases r.levels l
  have hpb := Fl.place_cases r.cells n
  have hpe := Fl.place_cases r.chans n
  have hlv := hr.lv
  have hce := hr.ce
  have hch := hr.ch
  have hlen : r.chanLv.length ≤ 6 := by have := hr.cl; have := hr.hl; omega
  generalize Fl.place r.levels l = pa at *
  generalize Fl.place r.cells n = pb at *
  generalize Fl.place r.chans n = pe at *
  have hcapI : (3 : Int) ≤ (cap : Int) := by omega
  have hpa1 : -1 ≤ pa ∧ pa ≤ 6 := by omega
  have hpb1 : -1 ≤ pb ∧ pb ≤ 6 := by omega
  have hpe1 : -1 ≤ pe ∧ pe ≤ 6 := by omega
  have hlvI : (r.levels.length : Int) ≤ 6 := by omega
  have hceI : (r.cells.length : Int) ≤ 6 := by omega
  have hchI : (r.chans.length : Int) ≤ 3 := by omega
  have HBR : Hid ((Value.slice d3 r.chans.length k3).ownBlock ≠ some b) := by rw [← hv3]; exact hbR.2 3 (by unfold isRow; omega)
  clear h hr hres hv1 hv2 hv3 hvl c1 c2 hbR hpa hpb hpe
  go_enter Tryz.func23, Tryz.ntmps23
  go_wp2_with fail
  refine wp_region_late (fun W => Below w.heap.size w W) [] [(0, 0), (0, 1), (0, 2), (0, 3), (0, 4), (0, 5), (0, 6), (1, 7), (0, 8)] [] (by kernel_rfl) (by kernel_rfl) rfl [(_, _), (_, _), (_, _), (_, _), (_, _), (_, _), (_, _), (_, _), (_, _)] rfl (fun c a d v w h => by cases d <;> exact h) (Below.refl _ _).drew (fun ops hG => ?_)
  clear hG
  simp only [List.getElem_toArray, List.getElem_cons_succ, List.getElem_cons_zero]
  iterate 7
    refine late_read rfl (fun K hK => ?_)
    apply Exists.intro
    refine ⟨fun w' hw' => ?_, ?_⟩
    · obtain ⟨x1, x2, x3, x4, x5⟩ := HS1.out w' hw'
      clear hw'
      go_simp
      try with_reducible rfl
    go_simp
    refine hK _ ?_
    clear hK K
  refine late_do ?_
  go_wp2_with fail
  refine (HPA.out _ (Below.refl _ _).drew).mono ?_
  rintro e w1 ⟨rfl, hw1⟩
  rw [hw1]
  clear hw1 w1
  go_wp2_with fail
  refine ⟨(Below.refl _ _).drew, ?_⟩
  refine late_read rfl (fun K hK => ?_)
  apply Exists.intro
  refine ⟨fun w' hw' => ?_, ?_⟩
  · clear hw'
    go_simp
    try with_reducible rfl
  go_simp
  refine hK _ ?_
  clear hK K
  refine late_end ?_
  go_wp2_with fail
  refine wp_region_late (fun W => Below w.heap.size w W) [] [(0, 0), (0, 1), (0, 2), (0, 3), (0, 4), (0, 5), (0, 6), (1, 7), (0, 8)] [] (by kernel_rfl) (by kernel_rfl) rfl [(_, _), (_, _), (_, _), (_, _), (_, _), (_, _), (_, _), (_, _), (_, _)] rfl (fun c a d v w h => by cases d <;> exact h) (Below.refl _ _).drew.drew (fun ops hG => ?_)
  clear hG
  simp only [List.getElem_toArray, List.getElem_cons_succ, List.getElem_cons_zero]
  iterate 7
    refine late_read rfl (fun K hK => ?_)
    apply Exists.intro
    refine ⟨fun w' hw' => ?_, ?_⟩
    · obtain ⟨x1, x2, x3, x4, x5⟩ := HS1.out w' hw'
      clear hw'
      go_simp
      try with_reducible rfl
    go_simp
    refine hK _ ?_
    clear hK K
  refine late_do ?_
  go_wp2_with fail
  refine (HPB.out _ (Below.refl _ _).drew.drew).mono ?_
  rintro e w1 ⟨rfl, hw1⟩
  rw [hw1]
  clear hw1 w1
  go_wp2_with fail
  refine ⟨(Below.refl _ _).drew.drew, ?_⟩
  refine late_read rfl (fun K hK => ?_)
  apply Exists.intro
  refine ⟨fun w' hw' => ?_, ?_⟩
  · clear hw'
    go_simp
    try with_reducible rfl
  go_simp
  refine hK _ ?_
  clear hK K
  refine late_end ?_
  go_wp2_with fail
  refine wp_region_late (fun W => Below w.heap.size w W) [] [(0, 0), (0, 1), (0, 2), (0, 3), (0, 4), (0, 5), (0, 6), (1, 7), (0, 8)] [] (by kernel_rfl) (by kernel_rfl) rfl [(_, _), (_, _), (_, _), (_, _), (_, _), (_, _), (_, _), (_, _), (_, _)] rfl (fun c a d v w h => by cases d <;> exact h) (Below.refl _ _).drew.drew.drew (fun ops hG => ?_)
  clear hG
  simp only [List.getElem_toArray, List.getElem_cons_succ, List.getElem_cons_zero]
  iterate 7
    refine late_read rfl (fun K hK => ?_)
    apply Exists.intro
    refine ⟨fun w' hw' => ?_, ?_⟩
    · obtain ⟨x1, x2, x3, x4, x5⟩ := HS1.out w' hw'
      clear hw'
      go_simp
      try with_reducible rfl
    go_simp
    refine hK _ ?_
    clear hK K
  refine late_do ?_
  go_wp2_with fail
  refine (HPC.out _ (Below.refl _ _).drew.drew.drew).mono ?_
  rintro e w1 ⟨rfl, hw1⟩
  rw [hw1]
  clear hw1 w1
  go_wp2_with fail
  refine ⟨(Below.refl _ _).drew.drew.drew, ?_⟩
  refine late_read rfl (fun K hK => ?_)
  apply Exists.intro
  refine ⟨fun w' hw' => ?_, ?_⟩
  · clear hw'
    go_simp
    try with_reducible rfl
  go_simp
  refine hK _ ?_
  clear hK K
  refine late_end ?_
  have z0 : w.cell? ⟨b, off, none⟩ = some (.string ⟨#[99, 104, 97, 110, 110, 101, 108]⟩) := c0
  have HE4 : Hid (pa < 0 ∨ 0 ≤ pb ∨ 0 ≤ pe → HdEnds lo base Rb Pb w0 fl t res (.returned (.int .i64 4)) w.drew.drew.drew) := by
    show _ → HdEnds _ _ _ _ _ _ _ _ _ _
    intro hh
    rw [HRES.out, if_pos hh]
    exact ⟨rfl, fun h => (by cases h), fun _ => HH.out.drew.drew.drew.bel⟩
  by_cases hp : pa < 0
  · go_wp2
    go_ret
    exact HE4.out (.inl hp)
  have hp2 : 0 ≤ pa := by omega
  clear hp
  by_cases hq : 0 ≤ pb
  · go_wp2
    go_ret
    exact HE4.out (.inr (.inl hq))
  have hq2 : pb < 0 := by omega
  clear hq
  by_cases hq : 0 ≤ pe
  · go_wp2
    go_ret
    exact HE4.out (.inr (.inr hq))
  have hq3 : pe < 0 := by omega
  clear hq HE4
  obtain ⟨x1, x2, x3, x4, x5⟩ := HS1.out w.drew.drew.drew (Below.refl _ _).drew.drew.drew
  by_cases h6 : r.chans.length = 3
  · have b6 : ((r.chans.length : Int) == 3) = true := by simp [h6]
    have HE : Hid (HdEnds lo base Rb Pb w0 fl t res (.returned (.int .i64 5)) w.drew.drew.drew) := by
      show HdEnds _ _ _ _ _ _ _ _ _ _
      rw [HRES.out, if_neg (by omega), if_pos h6]
      exact ⟨rfl, fun h => (by cases h), fun _ => HH.out.drew.drew.drew.bel⟩
    clear h6
    go_wp2
    go_ret
    exact HE.out
  have b6 : ((r.chans.length : Int) == 3) = false := by simp; omega
  have HR : Hid (res = (0, { r with chans := r.chans ++ [n], chanLv := r.chanLv ++ [pa.toNat] })) := by show _ = _; rw [HRES.out, if_neg (by omega), if_neg h6]
  have hl6 : r.chans.length < 3 := by omega
  clear h6 HPA HPB HPC HRES
  go_wp2_with fail
  refine wp_region_late (fun W => W.cell? ⟨Rb, 3, none⟩ = some (.slice d3 r.chans.length k3) ∧ W.cell? ⟨b, off + 1, none⟩ = some (.string ⟨n.toArray⟩)) [12] [(0, 0), (0, 1), (0, 2), (0, 3), (0, 4), (0, 5), (0, 6), (0, 7), (1, 8), (1, 9), (1, 10), (0, 11), (2, 12)] [] (by kernel_rfl) (by kernel_rfl) rfl [(_, _), (_, _), (_, _), (_, _), (_, _), (_, _), (_, _), (_, _), (_, _), (_, _), (_, _), (_, _), (_, _)] rfl (fun c a d v w h => by cases d <;> exact h) ⟨x3, x4⟩ (fun ops hG => ?_)
  clear hG
  simp only [List.getElem_toArray, List.getElem_cons_succ, List.getElem_cons_zero]
  iterate 8
    refine late_read rfl (fun K hK => ?_)
    apply Exists.intro
    refine ⟨fun w' hw' => ?_, ?_⟩
    · obtain ⟨z0, z1⟩ := hw'
      go_simp
      try with_reducible rfl
    go_simp
    refine hK _ ?_
    clear hK K
  refine late_do ?_
  go_wp2_with fail
  obtain ⟨W3, hW3⟩ : ∃ W3, W3 = (w.alloc (.cells #[.string ⟨n.toArray⟩] 9)).drew.drew.drew.drew := ⟨_, rfl⟩
  obtain ⟨tb, htb⟩ : ∃ tb, tb = w.heap.size := ⟨_, rfl⟩
  have hB3 : Below w.heap.size w W3 := by rw [hW3]; exact ((Below.refl _ _).alloc (Nat.le_refl _) _).drew.drew.drew.drew
  have hz3 : w.heap.size + 1 = W3.heap.size := by rw [hW3]; simp
  have t0 : ∀ i u, ([.string ⟨n.toArray⟩] : List Value)[i]? = some u → W3.cell? ((⟨tb, 0, none⟩ : Addr).add i) = some u := by rw [hW3, htb]; exact str_cell_new
  have e0 : W3.cell? ⟨Rb, 3, none⟩ = some (.slice d3 r.chans.length k3) := by have := HS1.out W3 hB3; exact this.2.2.1
  have e1 : W3.cell? ⟨b, off + 1, none⟩ = some (.string ⟨n.toArray⟩) := (HS1.out W3 hB3).2.2.2.1
  have HO3 : Hid (W3.ownsRow base 9 1 (.slice d3 r.chans.length k3) r.chans.length (r.chans.map strV)) := HOW.out W3 hB3
  have HB3 : Hid (Below w.heap.size w W3) := hB3
  rw [← hW3, ← htb]
  clear hW3 htb hB3 x1 x2 x3 x4 x5 HOW HS1
  refine ⟨⟨e0, e1⟩, ?_⟩
  refine late_do ?_
  obtain ⟨i0, hi0, hz0, hzs, hzb⟩ := info_parts Tryz.infoStr
  go_wp2_with (at_builtin; refine wpList_append_at _ rfl (.tmp 183) (.tmp 187) 48 rfl base 9 i0 (.string ⟨#[]⟩) 1 16 Tryz.underlying48 hi0 hz0 hzs hzb rfl (by decide) _ _ _ rfl HO3.out ⟨tb, 0, none⟩ 1 1 [.string ⟨n.toArray⟩] rfl rfl (by decide) t0 ?c2 ?c3 ?c4 ?c5 ?_)
  case c2 => intro u hu; simp at hu; subst hu; rfl
  case c3 => unfold maxLen; omega
  case c4 => omega
  case c5 => omega
  intro v' W4 hown4 hg4 hwh4
  obtain ⟨va, vcap, rfl⟩ : ∃ va vcap, v' = .slice va (r.chans.length + 1) vcap := by
    rcases hown4.2 with ⟨h1, h2⟩ | ⟨g, cp, cur, h1, _⟩
    · omega
    · exact ⟨_, cp, h1⟩
  have hlt3 : ∀ k, (Value.slice d3 r.chans.length k3).ownBlock = some k → base ≤ k ∧ k < w.heap.size + 1 := fun k hk => by have := HO3.out.lt k hk; omega
  have hqR : W4.heap[Rb]? = W3.heap[Rb]? := hg4.block Rb (by omega) (fun hh => by have := (hlt3 Rb hh.symm).1; omega)
  have hqb : W4.heap[b]? = W3.heap[b]? := hg4.block b (by omega) (fun hh => HBR.out hh.symm)
  have g0 : W4.cell? ⟨Rb, 3, none⟩ = some (.slice d3 r.chans.length k3) := (World.cell?_of_block (a := ⟨Rb, 3, none⟩) hqR).trans e0
  have g1 : W4.cell? ⟨b, off + 1, none⟩ = some (.string ⟨n.toArray⟩) := (World.cell?_of_block (a := ⟨b, off + 1, none⟩) hqb).trans e1
  have gz : W4.frozen? ⟨Rb, 3, none⟩ = false := (World.frozen?_of_block (a := ⟨Rb, 3, none⟩) hqR).trans ((HB3.out.frozen (p := ⟨Rb, 3, none⟩) hRz).trans (HH.out.cR.z 3))
  have hz4 : w.heap.size + 1 ≤ W4.heap.size := by have := hg4.size; omega
  have H5 : Hid (RefAt lo base Rb Pb w0 (W4.setCell ⟨Rb, 3, none⟩ (.slice va (r.chans.length + 1) vcap)) (m.app 3 (.slice va (r.chans.length + 1) vcap) [strV n])) := by
    refine HH.out.appR 3 (by unfold isRow; omega) (by omega) HB3.out (v' := .slice va (r.chans.length + 1) vcap) (news := [strV n]) ?_ ?_ ?_
    · rw [HO.out.r3.1, HO.out.r3.2]; exact hown4
    · rw [HV2.out]; exact hg4
    · rw [HV2.out]; exact hwh4
  clear hown4 hg4 hwh4 hqR hqb e0 e1 t0 HO3 HB3 hlt3 HV2 HH HBR
  go_wp2_with fail
  refine ⟨⟨g0, g1⟩, ?_⟩
  refine late_do ?_
  go_wp2_with fail
  refine ⟨⟨g0, g1⟩, ?_⟩
  refine late_read rfl (fun K hK => ?_)
  apply Exists.intro
  refine ⟨fun w' hw' => ?_, ?_⟩
  · obtain ⟨z0, z1⟩ := hw'
    go_simp
    try with_reducible rfl
  go_simp
  refine hK _ ?_
  clear hK K
  refine late_late ?_
  go_wp2_with fail
  refine late_end ?_
  obtain ⟨W5, hW5⟩ : ∃ W5, W5 = W4.setCell ⟨Rb, 3, none⟩ (.slice va (r.chans.length + 1) vcap) := ⟨_, rfl⟩
  rw [← hW5] at H5 ⊢
  have hz5 : w.heap.size + 1 ≤ W5.heap.size := by rw [hW5, setCell_size]; omega
  clear hW5 g0 g1 gz
  have y0 : W5.cell? ⟨Rb, 0, none⟩ = some (.pointer (some ⟨Pb, 0, none⟩)) := H5.out.cR.c 0 (by omega)
  have y1 : W5.cell? ⟨Pb, 3, none⟩ = some (.slice dl r.chanLv.length kl) := by rw [← HVL.out]; exact H5.out.cP.c 3 (by omega)
  go_wp2_with fail
  refine wp_region_late (fun W => W.cell? ⟨Rb, 0, none⟩ = some (.pointer (some ⟨Pb, 0, none⟩)) ∧ W.cell? ⟨Pb, 3, none⟩ = some (.slice dl r.chanLv.length kl)) [16] [(0, 0), (0, 1), (0, 2), (0, 3), (0, 4), (0, 5), (0, 6), (0, 7), (0, 8), (0, 9), (0, 10), (0, 11), (1, 12), (1, 13), (1, 14), (0, 15), (2, 16)] [] (by kernel_rfl) (by kernel_rfl) rfl [(_, _), (_, _), (_, _), (_, _), (_, _), (_, _), (_, _), (_, _), (_, _), (_, _), (_, _), (_, _), (_, _), (_, _), (_, _), (_, _), (_, _)] rfl (fun c a d v w h => by cases d <;> exact h) ⟨y0, y1⟩ (fun ops hG => ?_)
  clear hG
  simp only [List.getElem_toArray, List.getElem_cons_succ, List.getElem_cons_zero]
  iterate 12
    refine late_read rfl (fun K hK => ?_)
    apply Exists.intro
    refine ⟨fun w' hw' => ?_, ?_⟩
    · obtain ⟨z0, z1⟩ := hw'
      go_simp
      try with_reducible rfl
    go_simp
    refine hK _ ?_
    clear hK K
  refine late_do ?_
  go_wp2_with fail
  obtain ⟨W6, hW6⟩ : ∃ W6, W6 = (W5.alloc (.cells #[.int .i64 pa] 3)).drew := ⟨_, rfl⟩
  obtain ⟨ub, hub⟩ : ∃ ub, ub = W5.heap.size := ⟨_, rfl⟩
  have hB6 : Below W5.heap.size W5 W6 := by rw [hW6]; exact ((Below.refl _ _).alloc (Nat.le_refl _) _).drew
  have hz6 : W5.heap.size + 1 = W6.heap.size := by rw [hW6]; simp
  have u0 : ∀ i u, ([.int .i64 pa] : List Value)[i]? = some u → W6.cell? ((⟨ub, 0, none⟩ : Addr).add i) = some u := by rw [hW6, hub]; exact str_cell_new
  have f0 : W6.cell? ⟨Rb, 0, none⟩ = some (.pointer (some ⟨Pb, 0, none⟩)) := (hB6.cell (p := ⟨Rb, 0, none⟩) (by show Rb < _; omega)).trans y0
  have f1 : W6.cell? ⟨Pb, 3, none⟩ = some (.slice dl r.chanLv.length kl) := (hB6.cell (p := ⟨Pb, 3, none⟩) (by show Pb < _; omega)).trans y1
  have E2 : Hid ((m.app 3 (.slice va (r.chans.length + 1) vcap) [strV n]).v 13 = .slice dl r.chanLv.length kl) := HVL.out
  have E3 : Hid ((m.app 3 (.slice va (r.chans.length + 1) vcap) [strV n]).n 13 = r.chanLv.length) := HO.out.r13.1
  have E4 : Hid ((m.app 3 (.slice va (r.chans.length + 1) vcap) [strV n]).xs 13 = intsV r.chanLv) := HO.out.r13.2
  have HO6 : Hid (W6.ownsRow base 3 1 (.slice dl r.chanLv.length kl) r.chanLv.length (intsV r.chanLv)) := by
    have h1 := (H5.out.below hB6).own 13 (by unfold isRow; omega)
    rw [E2.out, E3.out, E4.out] at h1
    exact h1
  have HB6 : Hid (Below W5.heap.size W5 W6) := hB6
  rw [← hW6, ← hub]
  clear hW6 hub hB6 y0 y1
  refine ⟨⟨f0, f1⟩, ?_⟩
  refine late_do ?_
  clear hi0 hz0 hzs hzb i0
  obtain ⟨i0, hi0, hz0, hzs, hzb⟩ := info_parts Tryz.infoIntP
  go_wp2_with (at_builtin; refine wpList_append_at _ rfl (.tmp 201) (.tmp 203) 22 rfl base 3 i0 (.int .i64 0) 1 8 Tryz.underlying22 hi0 hz0 hzs hzb rfl (by decide) _ _ _ rfl HO6.out ⟨ub, 0, none⟩ 1 1 [.int .i64 pa] rfl rfl (by decide) u0 ?d2 ?d3 ?d4 ?d5 ?_)
  case d2 => intro u hu; simp at hu; subst hu; rfl
  case d3 => unfold maxLen; omega
  case d4 => omega
  case d5 => omega
  intro v7 W7 hown7 hg7 hwh7
  obtain ⟨vb, vcbp, rfl⟩ : ∃ va vcap, v7 = .slice va (r.chanLv.length + 1) vcap := by
    rcases hown7.2 with ⟨h1, h2⟩ | ⟨g, cp, cur, h1, _⟩
    · omega
    · exact ⟨_, cp, h1⟩
  have hlt6 : ∀ k, (Value.slice dl r.chanLv.length kl).ownBlock = some k → base ≤ k := fun k hk => (HO6.out.lt k hk).1
  have hqR : W7.heap[Rb]? = W6.heap[Rb]? := hg7.block Rb (by omega) (fun hh => by have := hlt6 Rb hh.symm; omega)
  have hqP : W7.heap[Pb]? = W6.heap[Pb]? := hg7.block Pb (by omega) (fun hh => by have := hlt6 Pb hh.symm; omega)
  have g0 : W7.cell? ⟨Rb, 0, none⟩ = some (.pointer (some ⟨Pb, 0, none⟩)) := (World.cell?_of_block (a := ⟨Rb, 0, none⟩) hqR).trans f0
  have g1 : W7.cell? ⟨Pb, 3, none⟩ = some (.slice dl r.chanLv.length kl) := (World.cell?_of_block (a := ⟨Pb, 3, none⟩) hqP).trans f1
  have gz : W7.frozen? ⟨Pb, 3, none⟩ = false := (World.frozen?_of_block (a := ⟨Pb, 3, none⟩) hqP).trans ((HB6.out.frozen (p := ⟨Pb, 3, none⟩) (by show Pb < _; omega)).trans (H5.out.cP.z 3))
  have HADD : Hid (HdEnds lo base Rb Pb w0 fl t res (.returned (.int .i64 0)) (W7.setCell ⟨Pb, 3, none⟩ (.slice vb (r.chanLv.length + 1) vcbp))) := by
    show HdEnds _ _ _ _ _ _ _ _ _ _
    rw [HR.out]
    have ea : (pa.toNat : Int) = pa := by omega
    refine ⟨rfl, fun _ => ⟨_, H5.out.appP 13 (by unfold isRow; omega) (by omega) HB6.out (v' := .slice vb (r.chanLv.length + 1) vcbp) (news := [.int .i64 (pa.toNat : Int)]) ?_ ?_ ?_, HO.out.addChan n pa.toNat _ _ hnl hl6⟩, fun hh => absurd rfl hh⟩
    · rw [ea, E3.out, E4.out]; exact hown7
    · rw [E2.out]; exact hg7
    · rw [E2.out]; exact hwh7
  clear hown7 hg7 hwh7 hqR hqP f0 f1 u0 HO6 HB6 hlt6 HVL H5 HO HR E2 E3 E4
  go_wp2_with fail
  refine ⟨⟨g0, g1⟩, ?_⟩
  refine late_do ?_
  go_wp2_with fail
  refine ⟨⟨g0, g1⟩, ?_⟩
  refine late_read rfl (fun K hK => ?_)
  apply Exists.intro
  refine ⟨fun w' hw' => ?_, ?_⟩
  · obtain ⟨z0, z1⟩ := hw'
    go_simp
    try with_reducible rfl
  go_simp
  refine hK _ ?_
  clear hK K
  refine late_late ?_
  go_wp2_with fail
  refine late_end ?_
  go_wp2
  go_ret
  exact HADD.out
end
end Go.Proofs.YthfacjlghcdndaaGreatDoor

namespace Go.Proofs.YthfacjlghcdndaaGreatDoor
open Go.RowKit
section
variable {lo base Rb Pb : Nat} {w0 w w' : World} {m : RMem} {r : Fl.RS} {fl : List FlS} {t : Nat}
theorem RefAt.setP (h : RefAt lo base Rb Pb w0 w m) (j : Nat) (hj : j < 6) (v : Value) (m' : RMem) (hn : m'.n = m.n) (hx : m'.xs = m.xs) (hv : m'.v = m.v) (hR : ∀ i, i < 11 → rrC Pb m' i = rrC Pb m i) (hP : ∀ i, i < 6 → rpC m' i = if i = j then v else rpC m i) : RefAt lo base Rb Pb w0 (w.setCell ⟨Pb, j, none⟩ v) m' := by
  obtain ⟨b1, b2, b3, b4, b5, b6, b7⟩ := h.hba
  refine { bel := h.bel.setCell (by show lo ≤ Pb; omega) _, hba := ⟨b1, b2, b3, b4, b5, by rw [setCell_size]; omega, b7⟩, cR := ?_, cP := (h.cP.set hj v).congr fun i hi => (hP i hi).symm, own := fun i hi => ?_, dis := by rw [hv]; exact h.dis }
  · exact (h.cR.block (setCell_block _ _ _ _ _ b5)).congr fun i hi => (hR i hi).symm
  · rw [hn, hx, hv]
    exact own_same (h.own i hi) (fun b hb => setCell_block _ _ _ _ _ (by have := ((h.own i hi).lt b hb).1; omega))
theorem RefAt.setN (h : RefAt lo base Rb Pb w0 w m) (n : Nat) : RefAt lo base Rb Pb w0 (w.setCell ⟨Pb, 0, none⟩ (.int .i64 (n : Int))) { m with N := n } :=
  h.setP 0 (by omega) _ _ rfl rfl rfl (fun _ _ => rfl) (fun i hi => by
    rcases (show i = 0 ∨ i = 1 ∨ i = 2 ∨ i = 3 ∨ i = 4 ∨ i = 5 by omega) with rfl | rfl | rfl | rfl | rfl | rfl <;> rfl)
theorem RefAt.setLeq (h : RefAt lo base Rb Pb w0 w m) (v : Value) : RefAt lo base Rb Pb w0 (w.setCell ⟨Pb, 1, none⟩ v) { m with leq := v } :=
  h.setP 1 (by omega) _ _ rfl rfl rfl (fun _ _ => rfl) (fun i hi => by
    rcases (show i = 0 ∨ i = 1 ∨ i = 2 ∨ i = 3 ∨ i = 4 ∨ i = 5 by omega) with rfl | rfl | rfl | rfl | rfl | rfl <;> rfl)
theorem RefAt.setBegun (h : RefAt lo base Rb Pb w0 w m) (v : Bool) : RefAt lo base Rb Pb w0 (w.setCell ⟨Rb, 7, none⟩ (.bool v)) { m with begun := v } := by
  obtain ⟨b1, b2, b3, b4, b5, b6, b7⟩ := h.hba
  refine { bel := h.bel.setCell (by show lo ≤ Rb; omega) _, hba := ⟨b1, b2, b3, b4, b5, by rw [setCell_size]; omega, b7⟩, cR := (h.cR.set (j := 7) (by omega) (.bool v)).congr fun i hi => ?_, cP := ?_, own := fun i hi => own_same (h.own i hi) (fun b hb => setCell_block _ _ _ _ _ (by have := ((h.own i hi).lt b hb).1; omega)), dis := h.dis }
  · unfold rrC
    by_cases h7 : i = 7
    · subst h7; rfl
    · simp [h7]
  · exact (h.cP.block (setCell_block _ _ _ _ _ (Ne.symm b5))).congr fun i hi => rfl
theorem RefOf.begins (h : RefOf r fl t m) (N : Nat) (v : Value) : RefOf { r with begun := true } fl (t + 1) { m with begun := true, N := N, leq := v } :=
  { r1 := h.r1, r2 := h.r2, r3 := h.r3, r4 := h.r4, r5 := h.r5, r6 := h.r6, r8 := h.r8, r10 := h.r10, r12 := h.r12, r13 := h.r13, bg := rfl, st := h.st, nm := h.nm, lv := h.lv, ce := h.ce, ch := h.ch, lo := h.lo, sm := h.sm, fr := h.fr, lw := by have := h.lw; show r.low.length ≤ _; omega, ft := by have := h.ft; omega, pr := h.pr, bw := h.bw, cl := h.cl, hl := h.hl }
end
end Go.Proofs.YthfacjlghcdndaaGreatDoor
