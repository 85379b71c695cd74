/- Texts Rme Rmf. -/
import Derived.Test.YthfacjlghcdndaaGreatDoorM30
import Derived.Deep.DeepCutAuto
set_option linter.unusedSimpArgs false
set_option linter.unusedVariables false
namespace Go.Proofs.YthfacjlghcdndaaGreatDoor
open Go.RowKit
theorem Tryz.infoByteR : (Tryz.prog.info? 5).map (fun i => (i.zero, i.size, i.bytes)) = some (some (.int .u8 0), 1, 1) := by kernel_rfl
theorem below_lo {lo : Nat} {w0 w w' : World} (h1 : Below lo w0 w) (hz : lo ≤ w.heap.size) (h2 : Below lo w0 w') : lo ≤ w'.heap.size := by
  rcases Nat.lt_or_ge w'.heap.size lo with h | h
  · have e1 := h2.block w'.heap.size h
    have e2 := h1.block w'.heap.size h
    rw [Array.getElem?_eq_none (Nat.le_refl _)] at e1
    rw [← e1, Array.getElem?_eq_getElem (by omega)] at e2
    cases e2
  · exact h
theorem wpList_store_newS {ops : Array Oper} {rest : List Oper} {o : Oper} {a : Act} {Q : Exit → Act → World → Prop} (hgd : o.guard = none) (x y : Operand) (ho : o.op = .store 87 x y) (w : World) (N : Nat) (c' : Array Value) (hx : a.eval x = .pointer (some ⟨w.heap.size, 0, none⟩)) (hN : w.heap.size = N) (hy : a.eval y = .agg c')
    (h1 : c'.all (·.oneCell') = true) (hsz : c'.size = 10) (h : wpList Tryz.prog ops Q rest (a.put o.dst undef) (w.alloc (.cells c' 87))) : wpList Tryz.prog ops Q (o :: rest) a (w.alloc (.cells zeroS 87)) :=
  wpList_store_new hgd x y 87 ho w zeroS c' hx hy (by rw [hsz]; exact Tryz.infoStmt10) (by rw [hsz]; rfl) h1 h
def lnS (s : Fl.Stmt) (at_ : Nat) : Fl.Stmt := ⟨s.kind, s.x, at_, s.e, [], []⟩
def lnF (s : Fl.Stmt) (at_ : Nat) : FlS := ⟨0, lnS s at_⟩
def sArr (s : Fl.Stmt) : Array Value := sCells s.kind s.x s.e.op s.e.a.var s.e.a.v s.e.b.var s.e.b.v
theorem sArr_set (s : Fl.Stmt) (at_ : Nat) : (sArr s).setIfInBounds 2 (.int .i64 (at_ : Int)) = (fsCells (lnF s at_)).toArray := rfl
section
variable {lo base Rb Pb : Nat} {w0 w w' : World} {m : RMem} {r : Fl.RS} {fl : List FlS} {t : Nat}
set_option maxRecDepth 100000 in
set_option maxHeartbeats 20000000 in
theorem row_plain (h : RefAt lo base Rb Pb w0 w m) (hr : RefOf r fl t m) (ht : t ≤ 100000) (b off n cap : Nat) (hn : 1 ≤ n ∧ n ≤ maxLen) (hb : b < w.heap.size) (hbR : b ≠ Rb ∧ ∀ j, isRow j → (m.v j).ownBlock ≠ some b) (at_ : Nat) (x0 : ByteArray) (k1 : (x0.toList == [108, 101, 118, 101, 108]) = false) (k2 : (x0.toList == [98, 101, 108, 111, 119]) = false) (k3 : (x0.toList == [99, 101, 108, 108]) = false) (k4 : (x0.toList == [99, 104, 97, 110, 110, 101, 108]) = false) (k5 : (x0.toList == [98, 101, 103, 105, 110]) = false) (k6 : (x0.toList == [101, 108, 115, 101]) = false) (k7 : (x0.toList == [101, 110, 100]) = false) (k8 : (x0.toList == [105, 102]) = false) (k9 : (x0.toList == [119, 104, 105, 108, 101]) = false) (c0 : w.cell? ⟨b, off, none⟩ = some (.string x0)) (hbg : r.begun = true) (res : Nat × Fl.Stmt × Fl.RS) (out : Nat × Fl.RS)
    (hst : Calls Tryz.prog 24 #[.pointer (some ⟨Rb, 0, none⟩), .slice (some ⟨b, off, none⟩) n cap] w (StEnds lo base Rb Pb w0 w m fl t res))
    (hbad : res.1 ≠ 0 → out.1 = res.1) (hgood : res.1 = 0 → (16 ≤ res.2.2.stmts → out.1 = 5) ∧ (res.2.2.stmts < 16 → out = (0, res.2.2.put (lnS res.2.1 at_)))) (hfl : res.1 = 0 → FlatR fl res.2.2 ∧ cnt fl = res.2.2.stmts ∧ (res.2.1.kind = 3 ∨ res.2.1.kind = 4)) :
    Calls Tryz.prog 13 #[.pointer (some ⟨Rb, 0, none⟩), .slice (some ⟨b, off, none⟩) n cap, .int .i64 (at_ : Int)] w (RwEnds lo base Rb Pb w0 t out) := by
  obtain ⟨b1, b2, b3, b4, b5, b6, b7⟩ := h.hba
  have hRz : Rb < w.heap.size := by omega
  have x7 : w.cell? ⟨Rb, 7, none⟩ = some (.bool true) := by rw [← hbg, ← hr.bg]; exact h.cR.c 7 (by omega)
  obtain ⟨d8, k8', hv8⟩ := h.shape 8 (by unfold isRow; omega)
  rw [hr.r8.1] at hv8
  have x8 : w.cell? ⟨Rb, 8, none⟩ = some (.slice d8 r.fr.length k8') := by rw [← hv8]; exact h.cR.c 8 (by omega)
  have hfr := hr.fr
  have hfrI : (r.fr.length : Int) ≤ 3 := by omega
  have hft := hr.ft
  have hn10 : fl.length ≤ 100000 := by omega
  have hn10I : (fl.length : Int) ≤ 100000 := by omega
  have hnI : (0 : Int) < (n : Int) := by omega
  have HH : Hid (RefAt lo base Rb Pb w0 w m) := h
  have HST : Hid (Calls Tryz.prog 24 #[.pointer (some ⟨Rb, 0, none⟩), .slice (some ⟨b, off, none⟩) n cap] w (StEnds lo base Rb Pb w0 w m fl t res)) := hst
  have HBAD : Hid (res.1 ≠ 0 → out.1 = res.1) := hbad
  have HGOOD : Hid (res.1 = 0 → (16 ≤ res.2.2.stmts → out.1 = 5) ∧ (res.2.2.stmts < 16 → out = (0, res.2.2.put (lnS res.2.1 at_)))) := hgood
  have HFL : Hid (res.1 = 0 → FlatR fl res.2.2 ∧ cnt fl = res.2.2.stmts ∧ (res.2.1.kind = 3 ∨ res.2.1.kind = 4)) := hfl
  have HBR : Hid (∀ j, isRow j → (m.v j).ownBlock ≠ some b) := hbR.2
  have hbR1 : b ≠ Rb := hbR.1
  clear h hr hst hbad hgood hfl hbR hv8 hfr hbg
  go_enter Tryz.func13, Tryz.ntmps13
  go_wp2_with fail
  refine HST.out.mono ?_
  rintro e W1 ⟨hg0, hb0⟩
  clear HST x7 x8
  by_cases h0 : res.1 = 0
  · obtain ⟨rfl, m1, hm1, hro, hsty⟩ := hg0 h0
    obtain ⟨hF1, hF2, hF3⟩ := HFL.out h0
    obtain ⟨hG1, hG2⟩ := HGOOD.out h0
    obtain ⟨s, hs⟩ : ∃ s, s = res.2.1 := ⟨_, rfl⟩
    obtain ⟨r', hr'⟩ : ∃ r', r' = res.2.2 := ⟨_, rfl⟩
    rw [← hs] at hG2 hF3
    rw [← hr'] at hro hF1 hF2 hG1 hG2
    have hk := hsty b hb hbR1 HBR.out
    have c1 : W1.cell? ⟨b, off, none⟩ = some (.string x0) := (World.cell?_of_block (a := ⟨b, off, none⟩) hk.1).trans c0
    have hbz : b < W1.heap.size := World.block_lt_of_cell? W1 _ c1
    have HNB : Hid (∀ j, isRow j → (m1.v j).ownBlock ≠ some b) := hk.2
    obtain ⟨sb, hsb⟩ : ∃ sb, sb = W1.heap.size := ⟨_, rfl⟩
    obtain ⟨q1, q2, q3, q4, q5, q6, q7⟩ := hm1.hba
    have hq6 : base ≤ sb := by omega
    have hbsb : b < sb := by omega
    have hRsb : Rb < sb := by omega
    obtain ⟨d10, k10, hv10⟩ := hm1.shape 10 (by unfold isRow; omega)
    rw [hro.r10.1] at hv10
    obtain ⟨Wp, hWp⟩ : ∃ Wp, Wp = W1.alloc (.cells ((sArr s).setIfInBounds 2 (.int .i64 (at_ : Int))) 87) := ⟨_, rfl⟩
    have HBp : Hid (Below sb W1 Wp) := by show Below _ _ _; rw [hWp, hsb]; exact (Below.refl _ _).alloc (Nat.le_refl _) _
    have HR1 : Hid (RefAt lo base Rb Pb w0 Wp m1) := by have h9 := HBp.out; rw [hsb] at h9; exact hm1.below h9
    have HV10 : Hid (m1.v 10 = .slice d10 fl.length k10) := hv10
    have HN10 : Hid (m1.n 10 = fl.length) := hro.r10.1
    have HX10 : Hid (m1.xs 10 = flatV fl) := hro.r10.2
    have y10 : Wp.cell? ⟨Rb, 10, none⟩ = some (.slice d10 fl.length k10) := by rw [← HV10.out]; exact HR1.out.cR.c 10 (by omega)
    have hzp : sb < Wp.heap.size := by rw [hWp, hsb]; simp
    have hzpb : base ≤ Wp.heap.size := by omega
    have hRzp : Rb < Wp.heap.size := by omega
    have ysb : Wp.heap[sb]? = some (.cells (fsCells (lnF s at_)).toArray 87 (0, 0)) := by rw [hWp, sArr_set, hsb]; exact heapAt _ _ _ rfl
    have HOB : Hid (∀ k, (Value.slice d10 fl.length k10).ownBlock = some k → k < sb) := fun k hk9 => by rw [hsb]; exact ((hm1.own 10 (by unfold isRow; omega)).lt k (by rw [hv10]; exact hk9)).2
    have HNB10 : Hid ((Value.slice d10 fl.length k10).ownBlock ≠ some b) := by rw [← hv10]; exact hk.2 10 (by unfold isRow; omega)
    have cp : Wp.cell? ⟨b, off, none⟩ = some (.string x0) := (HBp.out.cell (p := ⟨b, off, none⟩) hbsb).trans c1
    have HRO : Hid (RefOf r' fl t m1) := hro
    have HF : Hid (FlatR fl r' ∧ cnt fl = r'.stmts ∧ (s.kind = 3 ∨ s.kind = 4)) := ⟨hF1, hF2, hF3⟩
    have HG : Hid ((16 ≤ r'.stmts → out.1 = 5) ∧ (r'.stmts < 16 → out = (0, r'.put (lnS s at_)))) := ⟨hG1, hG2⟩
    have eA : sCells res.2.1.kind res.2.1.x res.2.1.e.op res.2.1.e.a.var res.2.1.e.a.v res.2.1.e.b.var res.2.1.e.b.v = sArr s := by rw [hs]; rfl
    rw [eA]
    have HWp : Hid (Wp = W1.alloc (.cells ((sArr s).setIfInBounds 2 (.int .i64 (at_ : Int))) 87)) := hWp
    have HSB : Hid (sb = W1.heap.size) := hsb
    clear hg0 hb0 hm1 hro hsty hF1 hF2 hF3 hG1 hG2 hk c1 hv10 hWp hsb eA hs hr' HH HBR HBAD HGOOD HFL c0 q1 q2 q3 q4 q5 q6 q7
    go_wp2_with (refine at_store 9 ?_; refine wpList_store_newS rfl (.tmp 9) (.tmp 117) rfl W1 sb (sArr s) rfl HSB.out.symm rfl (sCells_one _ _ _ _ _ _ _) rfl ?_)
    rw [← HWp.out, ← HSB.out]
    clear HWp HBp HSB
    go_cut [] (fun wc => ∃ (g gc : Nat), RefAt lo base Rb Pb w0 wc (m1.app 10 (.slice (some ⟨g, 0, none⟩) (fl.length + 1) gc) (fsCells (lnF s at_))) ∧ wc.cell? ⟨b, off, none⟩ = some (.string x0))
    case first =>
      refine wp_region_two_phase (fun W => W.cell? ⟨Rb, 10, none⟩ = some (.slice d10 fl.length k10) ∧ W.heap[sb]? = some (.cells (fsCells (lnF s at_)).toArray 87 (0, 0))) [8, 9, 10, 11, 12] [(0, 0), (0, 1), (0, 2), (0, 3), (0, 4), (0, 5), (1, 6), (1, 7)] [(0, 8), (0, 10), (0, 11)] 9 12 (by kernel_rfl) (by kernel_rfl) rfl [(_, _), (_, _), (_, _), (_, _), (_, _), (_, _), (_, _), (_, _)] [(_, _), (_, _), (_, _)] _ _ rfl rfl rfl rfl (fun c a d v w h => by cases d <;> exact h) ⟨y10, ysb⟩ (fun ops => ?_)
      simp only [List.getElem_toArray, List.getElem_cons_succ, List.getElem_cons_zero]
      iterate 4
        refine then_read rfl (fun K hK => ?_)
        apply Exists.intro
        refine ⟨fun w' hw' => ?_, ?_⟩
        · obtain ⟨q1, q2⟩ := hw'
          go_simp
          try with_reducible rfl
        go_simp
        refine hK _ ?_
        clear hK K
      refine then_read rfl (fun K hK => ?_)
      refine ⟨.agg (fsCells (lnF s at_)).toArray, fun w' hw' => exec_load_row (.tmp 9) 87 rfl sb rfl _ 87 (0, 0) hw'.2 _ Tryz.underlying87 rfl Tryz.infoStmt10, hK _ ?_⟩
      clear hK K
      iterate 1
        refine then_read rfl (fun K hK => ?_)
        apply Exists.intro
        refine ⟨fun w' hw' => ?_, ?_⟩
        · obtain ⟨q1, q2⟩ := hw'
          go_simp
          try with_reducible rfl
        go_simp
        refine hK _ ?_
        clear hK K
      refine then_do ?_
      go_wp2_with fail
      obtain ⟨W3, hW3⟩ : ∃ W3, W3 = (Wp.alloc (.cells zeroS 87)).drew := ⟨_, rfl⟩
      obtain ⟨tb, htb⟩ : ∃ tb, tb = Wp.heap.size := ⟨_, rfl⟩
      have hB3 : Below Wp.heap.size Wp W3 := by rw [hW3]; exact ((Below.refl _ _).alloc (Nat.le_refl _) _).drew
      have hz3 : Wp.heap.size + 1 = W3.heap.size := by rw [hW3]; simp
      have t0 : ∀ i u, (zeroS.toList)[i]? = some u → W3.cell? ((⟨tb, 0, none⟩ : Addr).add i) = some u := by rw [hW3, htb]; exact cells_new (l := zeroS.toList) rfl
      have HB3 : Hid (Below Wp.heap.size Wp W3) := hB3
      have HO3 : Hid (W3.ownsRow base 87 10 (.slice d10 fl.length k10) fl.length (flatV fl)) := by
        have h1 := (HR1.out.below hB3).own 10 (by unfold isRow; omega)
        rw [HV10.out, HN10.out, HX10.out] at h1
        exact h1
      have hS3 : (fun W => W.cell? ⟨Rb, 10, none⟩ = some (.slice d10 fl.length k10) ∧ W.heap[sb]? = some (.cells (fsCells (lnF s at_)).toArray 87 (0, 0))) W3 := ⟨(HB3.out.cell (p := ⟨Rb, 10, none⟩) (by show Rb < _; omega)).trans y10, (HB3.out.block sb (by omega)).trans ysb⟩
      try rw [show ∀ o, (Wp.drew.alloc o) = (Wp.alloc o).drew from fun _ => rfl]
      have eW3 : (Wp.alloc (.cells #[.int .i64 0, .int .i64 0, .int .i64 0, .int .i64 0, .bool false, .int .i64 0, .bool false, .int .i64 0, .slice none 0 0, .slice none 0 0] 87)).drew = W3 := hW3.symm
      rw [eW3, ← htb]
      clear hW3 htb eW3 hB3
      refine ⟨hS3, ?_⟩
      refine then_do ?_
      obtain ⟨i0, hi0, hz0, hzs, hzb⟩ := info_parts Tryz.infoStmtP
      go_wp2_with (at_builtin; refine wpList_append_at _ rfl (.tmp 127) (.tmp 130) 37 rfl base 87 i0 (.agg zeroS) 10 112 Tryz.underlying37 hi0 hz0 hzs hzb rfl (by decide) _ _ _ rfl HO3.out ⟨tb, 0, none⟩ 1 1 zeroS.toList rfl rfl (by decide) t0 ?c2 ?c3 ?c4 ?c5 ?_)
      case c2 => exact zeroS_one
      case c3 => unfold maxLen; omega
      case c4 => omega
      case c5 => omega
      intro v' W4 hown4 hg4 hwh4
      obtain ⟨g, gc, rfl⟩ : ∃ g gc, v' = .slice (some ⟨g, 0, none⟩) (fl.length + 1) gc := by
        rcases hown4.2 with ⟨h1, h2⟩ | ⟨g, cp, cur, h1, _⟩
        · omega
        · exact ⟨g, cp, h1⟩
      have hlt3 : ∀ k, (Value.slice d10 fl.length k10).ownBlock = some k → base ≤ k ∧ k < Wp.heap.size + 1 := fun k hk => by have := HO3.out.lt k hk; omega
      have hgb : base ≤ g := (hown4.lt g rfl).1
      have hqR : W4.heap[Rb]? = W3.heap[Rb]? := hg4.block Rb (by omega) (fun hh => by have := (hlt3 Rb hh.symm).1; omega)
      have hS4 : (fun W => W.cell? ⟨Rb, 10, none⟩ = some (.slice d10 fl.length k10) ∧ W.heap[sb]? = some (.cells (fsCells (lnF s at_)).toArray 87 (0, 0))) W4 := ⟨(World.cell?_of_block (a := ⟨Rb, 10, none⟩) hqR).trans hS3.1, (hg4.block sb (by omega) (fun hh => by have := HOB.out sb hh.symm; omega)).trans hS3.2⟩
      have gz : ∀ j, W4.frozen? ⟨Rb, j, none⟩ = false := fun j => (World.frozen?_of_block (a := ⟨Rb, j, none⟩) hqR).trans ((HB3.out.frozen (p := ⟨Rb, j, none⟩) (by show Rb < _; omega)).trans (HR1.out.cR.z j))
      have g0 : W4.cell? ⟨Rb, 10, none⟩ = some (.slice d10 fl.length k10) := hS4.1
      have HTH : Hid (W4.there g (fl.length * 10) 10) := own_there hown4
      have H5 : Hid (RefAt lo base Rb Pb w0 ((W4.setCells g (fl.length * 10) (fsCells (lnF s at_))).setCell ⟨Rb, 10, none⟩ (.slice (some ⟨g, 0, none⟩) (fl.length + 1) gc)) (m1.app 10 (.slice (some ⟨g, 0, none⟩) (fl.length + 1) gc) (fsCells (lnF s at_)))) := by
        have h1 := HR1.out.flat (W3 := W3) (W4 := W4) (g := g) (cap := gc) (z := zeroS.toList) (cs := (fsCells (lnF s at_))) HB3.out (by rw [HN10.out, HX10.out]; exact hown4) rfl rfl (by rw [HV10.out]; exact hg4) (by rw [HV10.out]; exact hwh4)
        rw [HN10.out] at h1
        exact h1
      have HCM : Hid ((W4.setCell ⟨Rb, 10, none⟩ (.slice (some ⟨g, 0, none⟩) (fl.length + 1) gc)).setCells g (fl.length * 10) (fsCells (lnF s at_)) = (W4.setCells g (fl.length * 10) (fsCells (lnF s at_))).setCell ⟨Rb, 10, none⟩ (.slice (some ⟨g, 0, none⟩) (fl.length + 1) gc)) := setCells_comm g Rb 10 _ (by omega) _ _ _
      obtain ⟨W5, hW5⟩ : ∃ W5, W5 = W4.setCells g (fl.length * 10) (fsCells (lnF s at_)) := ⟨_, rfl⟩
      have HA1 : Hid (W4.setCells g (fl.length * 10) ((fsCells (lnF s at_))).toArray.toList = W5) := hW5.symm
      obtain ⟨W6, hW6⟩ : ∃ W6, W6 = W5.setCell ⟨Rb, 10, none⟩ (.slice (some ⟨g, 0, none⟩) (fl.length + 1) gc) := ⟨_, rfl⟩
      have HA2 : Hid ((W4.setCell ⟨Rb, 10, none⟩ (.slice (some ⟨g, 0, none⟩) (fl.length + 1) gc)).setCells g (fl.length * 10) ((fsCells (lnF s at_))).toArray.toList = W6) := by show _ = _; rw [hW6, hW5]; exact HCM.out
      have HW6 : Hid (W6 = W5.setCell ⟨Rb, 10, none⟩ (.slice (some ⟨g, 0, none⟩) (fl.length + 1) gc)) := hW6
      rw [← hW5] at H5
      have g0' : (W4.setCells g (fl.length * 10) (fsCells (lnF s at_))).cell? ⟨Rb, 10, none⟩ = some (.slice d10 fl.length k10) := (World.cell?_of_block (a := ⟨Rb, 10, none⟩) (setCells_block g _ W4 _ Rb (by omega))).trans g0
      have gz' : (W4.setCells g (fl.length * 10) (fsCells (lnF s at_))).frozen? ⟨Rb, 10, none⟩ = false := (World.frozen?_setCells g _ _ _ _).trans (gz 10)
      have HTH2 : Hid (∀ v, (W4.setCell ⟨Rb, 10, none⟩ v).there g (fl.length * 10) 10) := fun v j hj => ⟨by rw [World.cell?_of_block (a := ⟨g, fl.length * 10 + j, none⟩) (setCell_block _ _ _ _ _ (by show g ≠ Rb; omega))]; exact (HTH.out j hj).1, by rw [World.frozen?_setCell]; exact (HTH.out j hj).2⟩
      rw [← hW5] at g0' gz'
      clear hW5 hW6 HCM
      have hgb2 : g ≠ b := by
        rintro rfl
        rcases hwh4 with h1 | h1
        · exact HNB10.out h1.symm
        · simp only [Value.ownBlock, Option.some.injEq] at h1; omega
      have cw : W5.cell? ⟨b, off, none⟩ = some (.string x0) := by
        refine (World.cell?_of_block (a := ⟨b, off, none⟩) ?_).trans cp
        show W5.heap[b]? = Wp.heap[b]?
        rw [← HA1.out]
        exact (setCells_block g _ W4 _ b (Ne.symm hgb2)).trans ((hg4.block b (by omega) (fun hh => HNB10.out hh.symm)).trans (HB3.out.block b (by omega)))
      have HE1 : Hid (RefAt lo base Rb Pb w0 (W5.setCell ⟨Rb, 10, none⟩ (.slice (some ⟨g, 0, none⟩) (fl.length + 1) gc)) (m1.app 10 (.slice (some ⟨g, 0, none⟩) (fl.length + 1) gc) (fsCells (lnF s at_))) ∧ (W5.setCell ⟨Rb, 10, none⟩ (.slice (some ⟨g, 0, none⟩) (fl.length + 1) gc)).cell? ⟨b, off, none⟩ = some (.string x0)) := ⟨H5.out, (World.cell?_of_block (a := ⟨b, off, none⟩) (setCell_block _ _ _ _ _ hbR1)).trans cw⟩
      have HE2 : Hid (∃ (g gc : Nat), RefAt lo base Rb Pb w0 W6 (m1.app 10 (.slice (some ⟨g, 0, none⟩) (fl.length + 1) gc) (fsCells (lnF s at_))) ∧ W6.cell? ⟨b, off, none⟩ = some (.string x0)) := by show ∃ g gc, _; rw [HW6.out]; exact ⟨g, gc, HE1.out⟩
      clear H5 HW6 cp cw
      clear hown4 hg4 hwh4 hqR t0 HO3 HB3 hlt3 HR1 HV10 HN10 HX10 hS3 hi0 hz0 hzs hzb i0
      go_wp2_with fail
      refine ⟨hS4, ?_⟩
      try (refine then_end ?_; refine ⟨hS4, ?_⟩)
      clear hS4
      have hidx : (fl.length : Int) < (fl.length : Int) + 1 := by omega
      try simp only [List.getElem_toArray, List.getElem_cons_succ, List.getElem_cons_zero]
      iterate 3
        refine then_read rfl (fun K hK => ?_)
        apply Exists.intro
        refine ⟨fun w' hw' => ?_, ?_⟩
        · clear hw'
          go_simp
          try with_reducible rfl
        go_simp
        refine hK _ ?_
        clear hK K
      refine then_end ?_
      refine ⟨trivial, ?_, ?_⟩
      · go_wp2_with (refine at_store 132 ?_; refine wpList_store_midW rfl 87 (.tmp 132) (.tmp 128) rfl g (fl.length * 10) ((fsCells (lnF s at_))).toArray rfl rfl HTH.out Tryz.infoStmt10 (by kernel_rfl) HA1.out ?_)
        go_meet
        case rel => exact ⟨g, gc, HE1.out⟩
      · go_wp2_with (refine at_store 132 ?_; refine wpList_store_midW rfl 87 (.tmp 132) (.tmp 128) rfl g (fl.length * 10) ((fsCells (lnF s at_))).toArray rfl rfl (HTH2.out _) Tryz.infoStmt10 (by kernel_rfl) HA2.out ?_)
        go_meet
        case rel => exact HE2.out
    case rest =>
    obtain ⟨g, gc, hm2, cw⟩ := hcut
    obtain ⟨W7, hW7⟩ : ∃ W7, W7 = wc := ⟨_, rfl⟩
    rw [← hW7] at hm2 cw ⊢
    clear hW7 y10 ysb cp HR1 HOB HNB10 hzp hzpb hRzp
    obtain ⟨m2, hm2e⟩ : ∃ m2, m2 = m1.app 10 (.slice (some ⟨g, 0, none⟩) (fl.length + 1) gc) (fsCells (lnF s at_)) := ⟨_, rfl⟩
    rw [← hm2e] at hm2
    obtain ⟨st, hst⟩ : ∃ st, st = r'.stmts := ⟨_, rfl⟩
    have hst16 : st ≤ 16 := by rw [hst]; exact HRO.out.sm
    have hm2s : m2.stmts = st := by rw [hm2e, hst]; exact HRO.out.st
    have e8 : m2.v 8 = m1.v 8 := by rw [hm2e]; rfl
    obtain ⟨d8b, k8b, hv8b⟩ := hm2.shape 8 (by unfold isRow; omega)
    have hn8 : m2.n 8 = r'.fr.length := by rw [hm2e]; exact HRO.out.r8.1
    have hx8 : m2.xs 8 = deepV r'.fr := by rw [hm2e]; exact HRO.out.r8.2
    rw [hn8] at hv8b
    have p9 : W7.cell? ⟨Rb, 9, none⟩ = some (.int .i64 (st : Int)) := by rw [← hm2s]; exact hm2.cR.c 9 (by omega)
    have z9 : W7.frozen? ⟨Rb, 9, none⟩ = false := hm2.cR.z 9
    have p8 : W7.cell? ⟨Rb, 8, none⟩ = some (.slice d8b r'.fr.length k8b) := by rw [← hv8b]; exact hm2.cR.c 8 (by omega)
    have z8 : W7.frozen? ⟨Rb, 8, none⟩ = false := hm2.cR.z 8
    obtain ⟨nf, hnf⟩ : ∃ nf, nf = r'.fr.length := ⟨_, rfl⟩
    have hnf3 : nf ≤ 3 := by rw [hnf]; exact HRO.out.fr
    rw [← hnf] at p8 hv8b
    have hnfI : (nf : Int) ≤ 3 := by omega
    have hstI : (st : Int) ≤ 16 := by omega
    have H8 : Hid (RefAt lo base Rb Pb w0 (W7.setCell ⟨Rb, 9, none⟩ (.int .i64 ((st : Int) + 1))) { m2 with stmts := st + 1 }) := hm2.setStmts (st + 1)
    have HLO : Hid (lo ≤ W7.heap.size) := Nat.le_trans b7 hm2.hba.2.2.2.2.2.1
    have hRz7 : Rb < W7.heap.size := by have := hm2.hba; omega
    have hbz7 : b < W7.heap.size := World.block_lt_of_cell? W7 _ cw
    have cw2 : (W7.setCell ⟨Rb, 9, none⟩ (.int .i64 ((st : Int) + 1))).cell? ⟨b, off, none⟩ = some (.string x0) := (World.cell?_of_block (a := ⟨b, off, none⟩) (setCell_block _ _ _ _ _ hbR1)).trans cw
    by_cases hlim : 16 ≤ st
    · have hlI : (16 : Int) < (st : Int) + 1 := by omega
      have HE : Hid (RwEnds lo base Rb Pb w0 t out (.returned (.int .i64 5)) (W7.setCell ⟨Rb, 9, none⟩ (.int .i64 ((st : Int) + 1)))) := by
        have h5 := HG.out.1 (by rw [← hst]; exact hlim)
        exact ⟨by rw [h5]; rfl, fun h => (by rw [h5] at h; cases h), fun _ => H8.out.bel⟩
      clear hm2 hm2e hst hm2s e8 hv8b hn8 hx8 hnf HRO HF HG H8 HNB hlim
      go_wp2
      go_ret
      exact HE.out
    · have hlI : ¬ (16 : Int) < (st : Int) + 1 := by omega
      have hlI2 : (st : Int) + 1 ≤ 16 := by omega
      have HE : Hid (RwEnds lo base Rb Pb w0 t out (.returned (.int .i64 0)) (W7.setCell ⟨Rb, 9, none⟩ (.int .i64 ((st : Int) + 1)))) := by
        have h5 := HG.out.2 (by rw [← hst]; omega)
        refine ⟨by rw [h5]; rfl, fun _ => ⟨_, fl ++ [lnF s at_], H8.out, ?_, ?_, ?_⟩, fun h => absurd (by rw [h5]) h⟩
        · rw [h5, hm2e, hst]
          exact HRO.out.put (lnS s at_) (lnF s at_) (by rw [← hst]; omega) _
        · rw [h5]
          exact flatR_put (s := lnS s at_) HF.out.1 HF.out.2.2 rfl rfl HRO.out.fr
        · rw [h5, cnt_append, HF.out.2.1]
          exact (put_same (r := r') (lnS s at_)).2.2.2.2.2.2.2.2.2.1.symm
      clear hm2 hm2e hst hm2s e8 hv8b hn8 hx8 hnf HRO HF HG H8 HNB hlim
      go_wp2
      go_ret
      exact HE.out
  · obtain ⟨⟨k, x, op, av, an, bv, bn, rfl⟩, hbel⟩ := hb0 h0
    have b0 : (((res.1 : Nat) : Int) != 0) = true := by rw [bne_iff_ne]; omega
    have hlow := below_lo HH.out.bel (Nat.le_trans b7 b6) hbel
    obtain ⟨sb, hsb⟩ : ∃ sb, sb = W1.heap.size := ⟨_, rfl⟩
    have HSB : Hid (sb = W1.heap.size) := hsb
    have HE : Hid (RwEnds lo base Rb Pb w0 t out (.returned (.int .i64 (res.1 : Nat))) (W1.alloc (.cells (sCells k x op av an bv bn) 87))) := by
      have h5 := HBAD.out h0
      exact ⟨by rw [h5], fun h => absurd (h5.symm.trans h) h0, fun _ => hbel.alloc hlow _⟩
    clear hg0 hb0 hbel hlow h0 HH HBR HBAD HGOOD HFL c0 hsb
    go_wp2_with (refine at_store 9 ?_; refine wpList_store_newS rfl (.tmp 9) (.tmp 117) rfl W1 sb (sCells k x op av an bv bn) rfl HSB.out.symm rfl (sCells_one _ _ _ _ _ _ _) rfl ?_)
    go_ret
    exact HE.out
end
end Go.Proofs.YthfacjlghcdndaaGreatDoor

namespace Go.Proofs.YthfacjlghcdndaaGreatDoor
open Go.RowKit
section
variable {lo base Rb Pb : Nat} {w0 w w' : World} {m : RMem} {r : Fl.RS} {fl : List FlS} {t : Nat}
set_option maxRecDepth 100000 in
set_option maxHeartbeats 20000000 in
theorem row_if (h : RefAt lo base Rb Pb w0 w m) (hr : RefOf r fl t m) (ht : t ≤ 100000) (b off n cap : Nat) (hn : 1 ≤ n ∧ n ≤ maxLen) (hb : b < w.heap.size) (hbR : b ≠ Rb ∧ ∀ j, isRow j → (m.v j).ownBlock ≠ some b) (at_ : Nat)  (c0 : w.cell? ⟨b, off, none⟩ = some (.string ⟨#[105, 102]⟩)) (hbg : r.begun = true) (res : Nat × Fl.Stmt × Fl.RS) (out : Nat × Fl.RS)
    (hst : Calls Tryz.prog 24 #[.pointer (some ⟨Rb, 0, none⟩), .slice (some ⟨b, off, none⟩) n cap] w (StEnds lo base Rb Pb w0 w m fl t res))
    (hbad : res.1 ≠ 0 → out.1 = res.1) (hgood : res.1 = 0 → (16 ≤ res.2.2.stmts ∨ 3 ≤ res.2.2.fr.length → out.1 = 5) ∧ (res.2.2.stmts < 16 → res.2.2.fr.length < 3 → out = (0, res.2.2.opens 5 at_ res.2.1.e))) (hfl : res.1 = 0 → FlatR fl res.2.2 ∧ cnt fl = res.2.2.stmts ∧ (res.2.1.kind = 5 ∧ res.2.1.x = 0)) :
    Calls Tryz.prog 13 #[.pointer (some ⟨Rb, 0, none⟩), .slice (some ⟨b, off, none⟩) n cap, .int .i64 (at_ : Int)] w (RwEnds lo base Rb Pb w0 t out) := by
  obtain ⟨b1, b2, b3, b4, b5, b6, b7⟩ := h.hba
  have hRz : Rb < w.heap.size := by omega
  have x7 : w.cell? ⟨Rb, 7, none⟩ = some (.bool true) := by rw [← hbg, ← hr.bg]; exact h.cR.c 7 (by omega)
  obtain ⟨d8, k8', hv8⟩ := h.shape 8 (by unfold isRow; omega)
  rw [hr.r8.1] at hv8
  have x8 : w.cell? ⟨Rb, 8, none⟩ = some (.slice d8 r.fr.length k8') := by rw [← hv8]; exact h.cR.c 8 (by omega)
  have hfr := hr.fr
  have hfrI : (r.fr.length : Int) ≤ 3 := by omega
  have hft := hr.ft
  have hn10 : fl.length ≤ 100000 := by omega
  have hn10I : (fl.length : Int) ≤ 100000 := by omega
  have hnI : (0 : Int) < (n : Int) := by omega
  have HH : Hid (RefAt lo base Rb Pb w0 w m) := h
  have HST : Hid (Calls Tryz.prog 24 #[.pointer (some ⟨Rb, 0, none⟩), .slice (some ⟨b, off, none⟩) n cap] w (StEnds lo base Rb Pb w0 w m fl t res)) := hst
  have HBAD : Hid (res.1 ≠ 0 → out.1 = res.1) := hbad
  have HGOOD : Hid (res.1 = 0 → (16 ≤ res.2.2.stmts ∨ 3 ≤ res.2.2.fr.length → out.1 = 5) ∧ (res.2.2.stmts < 16 → res.2.2.fr.length < 3 → out = (0, res.2.2.opens 5 at_ res.2.1.e))) := hgood
  have HFL : Hid (res.1 = 0 → FlatR fl res.2.2 ∧ cnt fl = res.2.2.stmts ∧ (res.2.1.kind = 5 ∧ res.2.1.x = 0)) := hfl
  have HBR : Hid (∀ j, isRow j → (m.v j).ownBlock ≠ some b) := hbR.2
  have hbR1 : b ≠ Rb := hbR.1
  clear h hr hst hbad hgood hfl hbR hv8 hfr hbg
  go_enter Tryz.func13, Tryz.ntmps13
  go_wp2_with fail
  refine HST.out.mono ?_
  rintro e W1 ⟨hg0, hb0⟩
  clear HST x7 x8
  by_cases h0 : res.1 = 0
  · obtain ⟨rfl, m1, hm1, hro, hsty⟩ := hg0 h0
    obtain ⟨hF1, hF2, hF3⟩ := HFL.out h0
    obtain ⟨hG1, hG2⟩ := HGOOD.out h0
    obtain ⟨s, hs⟩ : ∃ s, s = res.2.1 := ⟨_, rfl⟩
    obtain ⟨r', hr'⟩ : ∃ r', r' = res.2.2 := ⟨_, rfl⟩
    rw [← hs] at hG2 hF3
    rw [← hr'] at hro hF1 hF2 hG1 hG2
    have hk := hsty b hb hbR1 HBR.out
    have c1 : W1.cell? ⟨b, off, none⟩ = some (.string ⟨#[105, 102]⟩) := (World.cell?_of_block (a := ⟨b, off, none⟩) hk.1).trans c0
    have hbz : b < W1.heap.size := World.block_lt_of_cell? W1 _ c1
    have HNB : Hid (∀ j, isRow j → (m1.v j).ownBlock ≠ some b) := hk.2
    obtain ⟨sb, hsb⟩ : ∃ sb, sb = W1.heap.size := ⟨_, rfl⟩
    obtain ⟨q1, q2, q3, q4, q5, q6, q7⟩ := hm1.hba
    have hq6 : base ≤ sb := by omega
    have hbsb : b < sb := by omega
    have hRsb : Rb < sb := by omega
    obtain ⟨d10, k10, hv10⟩ := hm1.shape 10 (by unfold isRow; omega)
    rw [hro.r10.1] at hv10
    obtain ⟨Wp, hWp⟩ : ∃ Wp, Wp = W1.alloc (.cells ((sArr s).setIfInBounds 2 (.int .i64 (at_ : Int))) 87) := ⟨_, rfl⟩
    have HBp : Hid (Below sb W1 Wp) := by show Below _ _ _; rw [hWp, hsb]; exact (Below.refl _ _).alloc (Nat.le_refl _) _
    have HR1 : Hid (RefAt lo base Rb Pb w0 Wp m1) := by have h9 := HBp.out; rw [hsb] at h9; exact hm1.below h9
    have HV10 : Hid (m1.v 10 = .slice d10 fl.length k10) := hv10
    have HN10 : Hid (m1.n 10 = fl.length) := hro.r10.1
    have HX10 : Hid (m1.xs 10 = flatV fl) := hro.r10.2
    have y10 : Wp.cell? ⟨Rb, 10, none⟩ = some (.slice d10 fl.length k10) := by rw [← HV10.out]; exact HR1.out.cR.c 10 (by omega)
    have hzp : sb < Wp.heap.size := by rw [hWp, hsb]; simp
    have hzpb : base ≤ Wp.heap.size := by omega
    have hRzp : Rb < Wp.heap.size := by omega
    have ysb : Wp.heap[sb]? = some (.cells (fsCells (lnF s at_)).toArray 87 (0, 0)) := by rw [hWp, sArr_set, hsb]; exact heapAt _ _ _ rfl
    have HOB : Hid (∀ k, (Value.slice d10 fl.length k10).ownBlock = some k → k < sb) := fun k hk9 => by rw [hsb]; exact ((hm1.own 10 (by unfold isRow; omega)).lt k (by rw [hv10]; exact hk9)).2
    have HNB10 : Hid ((Value.slice d10 fl.length k10).ownBlock ≠ some b) := by rw [← hv10]; exact hk.2 10 (by unfold isRow; omega)
    have cp : Wp.cell? ⟨b, off, none⟩ = some (.string ⟨#[105, 102]⟩) := (HBp.out.cell (p := ⟨b, off, none⟩) hbsb).trans c1
    have HRO : Hid (RefOf r' fl t m1) := hro
    have HF : Hid (FlatR fl r' ∧ cnt fl = r'.stmts ∧ (s.kind = 5 ∧ s.x = 0)) := ⟨hF1, hF2, hF3⟩
    have HG : Hid ((16 ≤ r'.stmts ∨ 3 ≤ r'.fr.length → out.1 = 5) ∧ (r'.stmts < 16 → r'.fr.length < 3 → out = (0, r'.opens 5 at_ s.e))) := ⟨hG1, hG2⟩
    have eA : sCells res.2.1.kind res.2.1.x res.2.1.e.op res.2.1.e.a.var res.2.1.e.a.v res.2.1.e.b.var res.2.1.e.b.v = sArr s := by rw [hs]; rfl
    rw [eA]
    have HWp : Hid (Wp = W1.alloc (.cells ((sArr s).setIfInBounds 2 (.int .i64 (at_ : Int))) 87)) := hWp
    have HSB : Hid (sb = W1.heap.size) := hsb
    clear hg0 hb0 hm1 hro hsty hF1 hF2 hF3 hG1 hG2 hk c1 hv10 hWp hsb eA hs hr' HH HBR HBAD HGOOD HFL c0 q1 q2 q3 q4 q5 q6 q7
    go_wp2_with (refine at_store 9 ?_; refine wpList_store_newS rfl (.tmp 9) (.tmp 117) rfl W1 sb (sArr s) rfl HSB.out.symm rfl (sCells_one _ _ _ _ _ _ _) rfl ?_)
    rw [← HWp.out, ← HSB.out]
    clear HWp HBp HSB
    go_cut [] (fun wc => ∃ (g gc : Nat), RefAt lo base Rb Pb w0 wc (m1.app 10 (.slice (some ⟨g, 0, none⟩) (fl.length + 1) gc) (fsCells (lnF s at_))) ∧ wc.cell? ⟨b, off, none⟩ = some (.string ⟨#[105, 102]⟩))
    case first =>
      refine wp_region_two_phase (fun W => W.cell? ⟨Rb, 10, none⟩ = some (.slice d10 fl.length k10) ∧ W.heap[sb]? = some (.cells (fsCells (lnF s at_)).toArray 87 (0, 0))) [8, 9, 10, 11, 12] [(0, 0), (0, 1), (0, 2), (0, 3), (0, 4), (0, 5), (1, 6), (1, 7)] [(0, 8), (0, 10), (0, 11)] 9 12 (by kernel_rfl) (by kernel_rfl) rfl [(_, _), (_, _), (_, _), (_, _), (_, _), (_, _), (_, _), (_, _)] [(_, _), (_, _), (_, _)] _ _ rfl rfl rfl rfl (fun c a d v w h => by cases d <;> exact h) ⟨y10, ysb⟩ (fun ops => ?_)
      simp only [List.getElem_toArray, List.getElem_cons_succ, List.getElem_cons_zero]
      iterate 4
        refine then_read rfl (fun K hK => ?_)
        apply Exists.intro
        refine ⟨fun w' hw' => ?_, ?_⟩
        · obtain ⟨q1, q2⟩ := hw'
          go_simp
          try with_reducible rfl
        go_simp
        refine hK _ ?_
        clear hK K
      refine then_read rfl (fun K hK => ?_)
      refine ⟨.agg (fsCells (lnF s at_)).toArray, fun w' hw' => exec_load_row (.tmp 9) 87 rfl sb rfl _ 87 (0, 0) hw'.2 _ Tryz.underlying87 rfl Tryz.infoStmt10, hK _ ?_⟩
      clear hK K
      iterate 1
        refine then_read rfl (fun K hK => ?_)
        apply Exists.intro
        refine ⟨fun w' hw' => ?_, ?_⟩
        · obtain ⟨q1, q2⟩ := hw'
          go_simp
          try with_reducible rfl
        go_simp
        refine hK _ ?_
        clear hK K
      refine then_do ?_
      go_wp2_with fail
      obtain ⟨W3, hW3⟩ : ∃ W3, W3 = (Wp.alloc (.cells zeroS 87)).drew := ⟨_, rfl⟩
      obtain ⟨tb, htb⟩ : ∃ tb, tb = Wp.heap.size := ⟨_, rfl⟩
      have hB3 : Below Wp.heap.size Wp W3 := by rw [hW3]; exact ((Below.refl _ _).alloc (Nat.le_refl _) _).drew
      have hz3 : Wp.heap.size + 1 = W3.heap.size := by rw [hW3]; simp
      have t0 : ∀ i u, (zeroS.toList)[i]? = some u → W3.cell? ((⟨tb, 0, none⟩ : Addr).add i) = some u := by rw [hW3, htb]; exact cells_new (l := zeroS.toList) rfl
      have HB3 : Hid (Below Wp.heap.size Wp W3) := hB3
      have HO3 : Hid (W3.ownsRow base 87 10 (.slice d10 fl.length k10) fl.length (flatV fl)) := by
        have h1 := (HR1.out.below hB3).own 10 (by unfold isRow; omega)
        rw [HV10.out, HN10.out, HX10.out] at h1
        exact h1
      have hS3 : (fun W => W.cell? ⟨Rb, 10, none⟩ = some (.slice d10 fl.length k10) ∧ W.heap[sb]? = some (.cells (fsCells (lnF s at_)).toArray 87 (0, 0))) W3 := ⟨(HB3.out.cell (p := ⟨Rb, 10, none⟩) (by show Rb < _; omega)).trans y10, (HB3.out.block sb (by omega)).trans ysb⟩
      try rw [show ∀ o, (Wp.drew.alloc o) = (Wp.alloc o).drew from fun _ => rfl]
      have eW3 : (Wp.alloc (.cells #[.int .i64 0, .int .i64 0, .int .i64 0, .int .i64 0, .bool false, .int .i64 0, .bool false, .int .i64 0, .slice none 0 0, .slice none 0 0] 87)).drew = W3 := hW3.symm
      rw [eW3, ← htb]
      clear hW3 htb eW3 hB3
      refine ⟨hS3, ?_⟩
      refine then_do ?_
      obtain ⟨i0, hi0, hz0, hzs, hzb⟩ := info_parts Tryz.infoStmtP
      go_wp2_with (at_builtin; refine wpList_append_at _ rfl (.tmp 127) (.tmp 130) 37 rfl base 87 i0 (.agg zeroS) 10 112 Tryz.underlying37 hi0 hz0 hzs hzb rfl (by decide) _ _ _ rfl HO3.out ⟨tb, 0, none⟩ 1 1 zeroS.toList rfl rfl (by decide) t0 ?c2 ?c3 ?c4 ?c5 ?_)
      case c2 => exact zeroS_one
      case c3 => unfold maxLen; omega
      case c4 => omega
      case c5 => omega
      intro v' W4 hown4 hg4 hwh4
      obtain ⟨g, gc, rfl⟩ : ∃ g gc, v' = .slice (some ⟨g, 0, none⟩) (fl.length + 1) gc := by
        rcases hown4.2 with ⟨h1, h2⟩ | ⟨g, cp, cur, h1, _⟩
        · omega
        · exact ⟨g, cp, h1⟩
      have hlt3 : ∀ k, (Value.slice d10 fl.length k10).ownBlock = some k → base ≤ k ∧ k < Wp.heap.size + 1 := fun k hk => by have := HO3.out.lt k hk; omega
      have hgb : base ≤ g := (hown4.lt g rfl).1
      have hqR : W4.heap[Rb]? = W3.heap[Rb]? := hg4.block Rb (by omega) (fun hh => by have := (hlt3 Rb hh.symm).1; omega)
      have hS4 : (fun W => W.cell? ⟨Rb, 10, none⟩ = some (.slice d10 fl.length k10) ∧ W.heap[sb]? = some (.cells (fsCells (lnF s at_)).toArray 87 (0, 0))) W4 := ⟨(World.cell?_of_block (a := ⟨Rb, 10, none⟩) hqR).trans hS3.1, (hg4.block sb (by omega) (fun hh => by have := HOB.out sb hh.symm; omega)).trans hS3.2⟩
      have gz : ∀ j, W4.frozen? ⟨Rb, j, none⟩ = false := fun j => (World.frozen?_of_block (a := ⟨Rb, j, none⟩) hqR).trans ((HB3.out.frozen (p := ⟨Rb, j, none⟩) (by show Rb < _; omega)).trans (HR1.out.cR.z j))
      have g0 : W4.cell? ⟨Rb, 10, none⟩ = some (.slice d10 fl.length k10) := hS4.1
      have HTH : Hid (W4.there g (fl.length * 10) 10) := own_there hown4
      have H5 : Hid (RefAt lo base Rb Pb w0 ((W4.setCells g (fl.length * 10) (fsCells (lnF s at_))).setCell ⟨Rb, 10, none⟩ (.slice (some ⟨g, 0, none⟩) (fl.length + 1) gc)) (m1.app 10 (.slice (some ⟨g, 0, none⟩) (fl.length + 1) gc) (fsCells (lnF s at_)))) := by
        have h1 := HR1.out.flat (W3 := W3) (W4 := W4) (g := g) (cap := gc) (z := zeroS.toList) (cs := (fsCells (lnF s at_))) HB3.out (by rw [HN10.out, HX10.out]; exact hown4) rfl rfl (by rw [HV10.out]; exact hg4) (by rw [HV10.out]; exact hwh4)
        rw [HN10.out] at h1
        exact h1
      have HCM : Hid ((W4.setCell ⟨Rb, 10, none⟩ (.slice (some ⟨g, 0, none⟩) (fl.length + 1) gc)).setCells g (fl.length * 10) (fsCells (lnF s at_)) = (W4.setCells g (fl.length * 10) (fsCells (lnF s at_))).setCell ⟨Rb, 10, none⟩ (.slice (some ⟨g, 0, none⟩) (fl.length + 1) gc)) := setCells_comm g Rb 10 _ (by omega) _ _ _
      obtain ⟨W5, hW5⟩ : ∃ W5, W5 = W4.setCells g (fl.length * 10) (fsCells (lnF s at_)) := ⟨_, rfl⟩
      have HA1 : Hid (W4.setCells g (fl.length * 10) ((fsCells (lnF s at_))).toArray.toList = W5) := hW5.symm
      obtain ⟨W6, hW6⟩ : ∃ W6, W6 = W5.setCell ⟨Rb, 10, none⟩ (.slice (some ⟨g, 0, none⟩) (fl.length + 1) gc) := ⟨_, rfl⟩
      have HA2 : Hid ((W4.setCell ⟨Rb, 10, none⟩ (.slice (some ⟨g, 0, none⟩) (fl.length + 1) gc)).setCells g (fl.length * 10) ((fsCells (lnF s at_))).toArray.toList = W6) := by show _ = _; rw [hW6, hW5]; exact HCM.out
      have HW6 : Hid (W6 = W5.setCell ⟨Rb, 10, none⟩ (.slice (some ⟨g, 0, none⟩) (fl.length + 1) gc)) := hW6
      rw [← hW5] at H5
      have g0' : (W4.setCells g (fl.length * 10) (fsCells (lnF s at_))).cell? ⟨Rb, 10, none⟩ = some (.slice d10 fl.length k10) := (World.cell?_of_block (a := ⟨Rb, 10, none⟩) (setCells_block g _ W4 _ Rb (by omega))).trans g0
      have gz' : (W4.setCells g (fl.length * 10) (fsCells (lnF s at_))).frozen? ⟨Rb, 10, none⟩ = false := (World.frozen?_setCells g _ _ _ _).trans (gz 10)
      have HTH2 : Hid (∀ v, (W4.setCell ⟨Rb, 10, none⟩ v).there g (fl.length * 10) 10) := fun v j hj => ⟨by rw [World.cell?_of_block (a := ⟨g, fl.length * 10 + j, none⟩) (setCell_block _ _ _ _ _ (by show g ≠ Rb; omega))]; exact (HTH.out j hj).1, by rw [World.frozen?_setCell]; exact (HTH.out j hj).2⟩
      rw [← hW5] at g0' gz'
      clear hW5 hW6 HCM
      have hgb2 : g ≠ b := by
        rintro rfl
        rcases hwh4 with h1 | h1
        · exact HNB10.out h1.symm
        · simp only [Value.ownBlock, Option.some.injEq] at h1; omega
      have cw : W5.cell? ⟨b, off, none⟩ = some (.string ⟨#[105, 102]⟩) := by
        refine (World.cell?_of_block (a := ⟨b, off, none⟩) ?_).trans cp
        show W5.heap[b]? = Wp.heap[b]?
        rw [← HA1.out]
        exact (setCells_block g _ W4 _ b (Ne.symm hgb2)).trans ((hg4.block b (by omega) (fun hh => HNB10.out hh.symm)).trans (HB3.out.block b (by omega)))
      have HE1 : Hid (RefAt lo base Rb Pb w0 (W5.setCell ⟨Rb, 10, none⟩ (.slice (some ⟨g, 0, none⟩) (fl.length + 1) gc)) (m1.app 10 (.slice (some ⟨g, 0, none⟩) (fl.length + 1) gc) (fsCells (lnF s at_))) ∧ (W5.setCell ⟨Rb, 10, none⟩ (.slice (some ⟨g, 0, none⟩) (fl.length + 1) gc)).cell? ⟨b, off, none⟩ = some (.string ⟨#[105, 102]⟩)) := ⟨H5.out, (World.cell?_of_block (a := ⟨b, off, none⟩) (setCell_block _ _ _ _ _ hbR1)).trans cw⟩
      have HE2 : Hid (∃ (g gc : Nat), RefAt lo base Rb Pb w0 W6 (m1.app 10 (.slice (some ⟨g, 0, none⟩) (fl.length + 1) gc) (fsCells (lnF s at_))) ∧ W6.cell? ⟨b, off, none⟩ = some (.string ⟨#[105, 102]⟩)) := by show ∃ g gc, _; rw [HW6.out]; exact ⟨g, gc, HE1.out⟩
      clear H5 HW6 cp cw
      clear hown4 hg4 hwh4 hqR t0 HO3 HB3 hlt3 HR1 HV10 HN10 HX10 hS3 hi0 hz0 hzs hzb i0
      go_wp2_with fail
      refine ⟨hS4, ?_⟩
      try (refine then_end ?_; refine ⟨hS4, ?_⟩)
      clear hS4
      have hidx : (fl.length : Int) < (fl.length : Int) + 1 := by omega
      try simp only [List.getElem_toArray, List.getElem_cons_succ, List.getElem_cons_zero]
      iterate 3
        refine then_read rfl (fun K hK => ?_)
        apply Exists.intro
        refine ⟨fun w' hw' => ?_, ?_⟩
        · clear hw'
          go_simp
          try with_reducible rfl
        go_simp
        refine hK _ ?_
        clear hK K
      refine then_end ?_
      refine ⟨trivial, ?_, ?_⟩
      · go_wp2_with (refine at_store 132 ?_; refine wpList_store_midW rfl 87 (.tmp 132) (.tmp 128) rfl g (fl.length * 10) ((fsCells (lnF s at_))).toArray rfl rfl HTH.out Tryz.infoStmt10 (by kernel_rfl) HA1.out ?_)
        go_meet
        case rel => exact ⟨g, gc, HE1.out⟩
      · go_wp2_with (refine at_store 132 ?_; refine wpList_store_midW rfl 87 (.tmp 132) (.tmp 128) rfl g (fl.length * 10) ((fsCells (lnF s at_))).toArray rfl rfl (HTH2.out _) Tryz.infoStmt10 (by kernel_rfl) HA2.out ?_)
        go_meet
        case rel => exact HE2.out
    case rest =>
    obtain ⟨g, gc, hm2, cw⟩ := hcut
    obtain ⟨W7, hW7⟩ : ∃ W7, W7 = wc := ⟨_, rfl⟩
    rw [← hW7] at hm2 cw ⊢
    clear hW7 y10 ysb cp HR1 HOB HNB10 hzp hzpb hRzp
    obtain ⟨m2, hm2e⟩ : ∃ m2, m2 = m1.app 10 (.slice (some ⟨g, 0, none⟩) (fl.length + 1) gc) (fsCells (lnF s at_)) := ⟨_, rfl⟩
    rw [← hm2e] at hm2
    obtain ⟨st, hst⟩ : ∃ st, st = r'.stmts := ⟨_, rfl⟩
    have hst16 : st ≤ 16 := by rw [hst]; exact HRO.out.sm
    have hm2s : m2.stmts = st := by rw [hm2e, hst]; exact HRO.out.st
    have e8 : m2.v 8 = m1.v 8 := by rw [hm2e]; rfl
    obtain ⟨d8b, k8b, hv8b⟩ := hm2.shape 8 (by unfold isRow; omega)
    have hn8 : m2.n 8 = r'.fr.length := by rw [hm2e]; exact HRO.out.r8.1
    have hx8 : m2.xs 8 = deepV r'.fr := by rw [hm2e]; exact HRO.out.r8.2
    rw [hn8] at hv8b
    have p9 : W7.cell? ⟨Rb, 9, none⟩ = some (.int .i64 (st : Int)) := by rw [← hm2s]; exact hm2.cR.c 9 (by omega)
    have z9 : W7.frozen? ⟨Rb, 9, none⟩ = false := hm2.cR.z 9
    have p8 : W7.cell? ⟨Rb, 8, none⟩ = some (.slice d8b r'.fr.length k8b) := by rw [← hv8b]; exact hm2.cR.c 8 (by omega)
    have z8 : W7.frozen? ⟨Rb, 8, none⟩ = false := hm2.cR.z 8
    obtain ⟨nf, hnf⟩ : ∃ nf, nf = r'.fr.length := ⟨_, rfl⟩
    have hnf3 : nf ≤ 3 := by rw [hnf]; exact HRO.out.fr
    rw [← hnf] at p8 hv8b
    have hnfI : (nf : Int) ≤ 3 := by omega
    have hstI : (st : Int) ≤ 16 := by omega
    have H8 : Hid (RefAt lo base Rb Pb w0 (W7.setCell ⟨Rb, 9, none⟩ (.int .i64 ((st : Int) + 1))) { m2 with stmts := st + 1 }) := hm2.setStmts (st + 1)
    have HLO : Hid (lo ≤ W7.heap.size) := Nat.le_trans b7 hm2.hba.2.2.2.2.2.1
    have hRz7 : Rb < W7.heap.size := by have := hm2.hba; omega
    have hbz7 : b < W7.heap.size := World.block_lt_of_cell? W7 _ cw
    obtain ⟨W8, hW8⟩ : ∃ W8, W8 = W7.setCell ⟨Rb, 9, none⟩ (.int .i64 ((st : Int) + 1)) := ⟨_, rfl⟩
    rw [← hW8] at H8
    obtain ⟨W9, hW9⟩ : ∃ W9, W9 = W8.alloc (.cells #[.int .u8 105] 5) := ⟨_, rfl⟩
    have hz8 : W8.heap.size = W7.heap.size := by rw [hW8, setCell_size]
    have hB9 : Below W8.heap.size W8 W9 := by rw [hW9]; exact (Below.refl _ _).alloc (Nat.le_refl _) _
    have hz9 : W7.heap.size + 1 = W9.heap.size := by rw [hW9]; simp [hz8]
    have hb9 : base ≤ W9.heap.size := by have := hm2.hba; omega
    have HB9 : Hid (Below W8.heap.size W8 W9) := hB9
    have HO9 : Hid (W9.ownsRow base 5 1 (.slice d8b nf k8b) nf (deepV r'.fr)) := by
      have h1 := (H8.out.below hB9).own 8 (by unfold isRow; omega)
      have e1 : ({ m2 with stmts := st + 1 } : RMem).v 8 = .slice d8b nf k8b := hv8b
      have e2 : ({ m2 with stmts := st + 1 } : RMem).n 8 = nf := by rw [hnf]; exact hn8
      have e3 : ({ m2 with stmts := st + 1 } : RMem).xs 8 = deepV r'.fr := hx8
      rw [e1, e2, e3] at h1
      exact h1
    obtain ⟨tb, htb⟩ : ∃ tb, tb = W7.heap.size := ⟨_, rfl⟩
    have t0 : ∀ i u, ([.int .u8 105] : List Value)[i]? = some u → W9.cell? ((⟨tb, 0, none⟩ : Addr).add i) = some u := by rw [hW9, htb, ← hz8]; exact str_cell_new
    have u9 : W9.cell? ⟨Rb, 9, none⟩ = some (.int .i64 ((st : Int) + 1)) := by
      have h1 : W8.cell? ⟨Rb, 9, none⟩ = some (.int .i64 ((st : Int) + 1)) := by rw [hW8]; exact World.cell?_setCell_same' _ _ _ (by rw [p9]; rfl)
      exact (hB9.cell (p := ⟨Rb, 9, none⟩) (by show Rb < _; omega)).trans h1
    have u8 : W9.cell? ⟨Rb, 8, none⟩ = some (.slice d8b nf k8b) := by
      have h1 : W8.cell? ⟨Rb, 8, none⟩ = some (.slice d8b nf k8b) := by rw [← hv8b]; exact H8.out.cR.c 8 (by omega)
      exact (hB9.cell (p := ⟨Rb, 8, none⟩) (by show Rb < _; omega)).trans h1
    have cw8 : W8.cell? ⟨b, off, none⟩ = some (.string ⟨#[105, 102]⟩) := by rw [hW8]; exact (World.cell?_of_block (a := ⟨b, off, none⟩) (setCell_block _ _ _ _ _ hbR1)).trans cw
    have cw9 : W9.cell? ⟨b, off, none⟩ = some (.string ⟨#[105, 102]⟩) := (hB9.cell (p := ⟨b, off, none⟩) (by show b < _; omega)).trans cw8
    have HNB8 : Hid ((Value.slice d8b nf k8b).ownBlock ≠ some b) := by rw [← hv8b, e8]; exact HNB.out 8 (by unfold isRow; omega)
    have HV8 : Hid (m2.v 8 = .slice d8b nf k8b ∧ m2.n 8 = nf ∧ m2.xs 8 = deepV r'.fr ∧ nf = r'.fr.length ∧ st = r'.stmts ∧ m2 = m1.app 10 (.slice (some ⟨g, 0, none⟩) (fl.length + 1) gc) (fsCells (lnF s at_))) := ⟨hv8b, by rw [hnf]; exact hn8, hx8, hnf, hst, hm2e⟩
    have HW9 : Hid ((W7.setCell ⟨Rb, 9, none⟩ (.int .i64 ((st : Int) + 1))).alloc (.cells #[.int .u8 105] 5) = W9) := by show _ = _; rw [hW9, hW8]
    have HTB : Hid (tb = W7.heap.size) := htb
    have hz79 : W8.heap.size + 1 = W9.heap.size := by omega
    clear hm2 hm2e hst hm2s e8 hv8b hn8 hx8 hnf hW8 hW9 hB9 htb cw8 hz8
    obtain ⟨i0, hi0, hz0, hzs, hzb⟩ := info_parts Tryz.infoByteR
    go_wp2_with (at_builtin; rw [HW9.out]; refine wpList_append_at _ rfl (.tmp 150) (.tmp 151) 51 rfl base 5 i0 (.int .u8 0) 1 1 Tryz.underlying51 hi0 hz0 hzs hzb rfl (by decide) _ _ _ rfl HO9.out ⟨tb, 0, none⟩ 1 1 [.int .u8 105] (by rw [HTB.out]; rfl) rfl (by decide) t0 ?c2 ?c3 ?c4 ?c5 ?_)
    case c2 => intro u hu; simp at hu; subst hu; rfl
    case c3 => unfold maxLen; omega
    case c4 => omega
    case c5 => omega
    intro v8 W10 hown hg hwh
    obtain ⟨va, vc, rfl⟩ : ∃ va vc, v8 = .slice va (nf + 1) vc := by
      rcases hown.2 with ⟨h1, h2⟩ | ⟨g, cp, cur, h1, _⟩
      · omega
      · exact ⟨_, cp, h1⟩
    have hlt9 : ∀ k, (Value.slice d8b nf k8b).ownBlock = some k → base ≤ k := fun k hk => (HO9.out.lt k hk).1
    have hqR : W10.heap[Rb]? = W9.heap[Rb]? := hg.block Rb (by omega) (fun hh => by have := hlt9 Rb hh.symm; omega)
    have hqb : W10.heap[b]? = W9.heap[b]? := hg.block b (by omega) (fun hh => HNB8.out hh.symm)
    have a9 : W10.cell? ⟨Rb, 9, none⟩ = some (.int .i64 ((st : Int) + 1)) := (World.cell?_of_block (a := ⟨Rb, 9, none⟩) hqR).trans u9
    have a8 : W10.cell? ⟨Rb, 8, none⟩ = some (.slice d8b nf k8b) := (World.cell?_of_block (a := ⟨Rb, 8, none⟩) hqR).trans u8
    have aw : W10.cell? ⟨b, off, none⟩ = some (.string ⟨#[105, 102]⟩) := (World.cell?_of_block (a := ⟨b, off, none⟩) hqb).trans cw9
    have az : W10.frozen? ⟨Rb, 8, none⟩ = false := (World.frozen?_of_block (a := ⟨Rb, 8, none⟩) hqR).trans ((HB9.out.frozen (p := ⟨Rb, 8, none⟩) (by show Rb < _; omega)).trans (H8.out.cR.z 8))
    have H11 : Hid (RefAt lo base Rb Pb w0 (W10.setCell ⟨Rb, 8, none⟩ (.slice va (nf + 1) vc)) (({ m2 with stmts := st + 1 } : RMem).app 8 (.slice va (nf + 1) vc) [.int .u8 (105 : Nat)])) := by
      have e1 : ({ m2 with stmts := st + 1 } : RMem).v 8 = .slice d8b nf k8b := HV8.out.1
      have e2 : ({ m2 with stmts := st + 1 } : RMem).n 8 = nf := HV8.out.2.1
      have e3 : ({ m2 with stmts := st + 1 } : RMem).xs 8 = deepV r'.fr := HV8.out.2.2.1
      refine H8.out.appR 8 (by unfold isRow; omega) (by omega) HB9.out (v' := .slice va (nf + 1) vc) (news := [.int .u8 (105 : Nat)]) ?_ ?_ ?_
      · rw [e2, e3]; exact hown
      · rw [e1]; exact hg
      · rw [e1]; exact hwh
    clear hown hg hwh hqR hqb u9 u8 cw9 t0 HO9 HB9 hlt9 hi0 hz0 hzs hzb i0 HNB8 HW9 HTB H8 p9 z9 p8 z8 cw
    by_cases hlim : 16 ≤ st
    · have hlI : (16 : Int) < (st : Int) + 1 := by omega
      have HE : Hid (RwEnds lo base Rb Pb w0 t out (.returned (.int .i64 5)) (W10.setCell ⟨Rb, 8, none⟩ (.slice va (nf + 1) vc))) := by
        have h5 := HG.out.1 (.inl (by rw [← HV8.out.2.2.2.2.1]; exact hlim))
        exact ⟨by rw [h5]; rfl, fun h => (by rw [h5] at h; cases h), fun _ => H11.out.bel⟩
      clear HRO HF HG H11 HNB HV8 hlim
      go_wp2
      go_ret
      exact HE.out
    have hlI : ¬ (16 : Int) < (st : Int) + 1 := by omega
    have hlI2 : (st : Int) + 1 ≤ 16 := by omega
    by_cases hlim2 : 3 ≤ nf
    · have hlJ : (3 : Int) < (nf : Int) + 1 := by omega
      have HE : Hid (RwEnds lo base Rb Pb w0 t out (.returned (.int .i64 5)) (W10.setCell ⟨Rb, 8, none⟩ (.slice va (nf + 1) vc))) := by
        have h5 := HG.out.1 (.inr (by rw [← HV8.out.2.2.2.1]; exact hlim2))
        exact ⟨by rw [h5]; rfl, fun h => (by rw [h5] at h; cases h), fun _ => H11.out.bel⟩
      clear HRO HF HG H11 HNB HV8 hlim hlim2
      go_wp2
      go_ret
      exact HE.out
    have hlJ : ¬ (3 : Int) < (nf : Int) + 1 := by omega
    have hlJ2 : (nf : Int) + 1 ≤ 3 := by omega
    have HE : Hid (RwEnds lo base Rb Pb w0 t out (.returned (.int .i64 0)) (W10.setCell ⟨Rb, 8, none⟩ (.slice va (nf + 1) vc))) := by
      obtain ⟨v1, v2, v3, v4, v5, v6⟩ := HV8.out
      have h5 := HG.out.2 (by rw [← v5]; omega) (by rw [← v4]; omega)
      obtain ⟨f1, f2, f3, f4⟩ := HF.out
      have eF : lnF s at_ = ⟨0, ⟨5, 0, at_, s.e, [], []⟩⟩ := by unfold lnF lnS; rw [f3, f4]
      refine ⟨by rw [h5]; rfl, fun _ => ⟨_, fl ++ [⟨0, ⟨5, 0, at_, s.e, [], []⟩⟩], H11.out, ?_, ?_, ?_⟩, fun h => absurd (by rw [h5]) h⟩
      · rw [h5, v6, v5, eF]
        exact HRO.out.opens 5 at_ s.e (by rw [← v5]; omega) (by rw [← v4]; omega) _ _ 105 rfl
      · rw [h5]
        exact flatR_opens f1 5 at_ s.e (by rw [← v4]; omega)
      · rw [h5, cnt_append, f2]
        rfl
    clear HRO HF HG H11 HNB HV8 hlim hlim2
    go_wp2
    go_ret
    exact HE.out
  · obtain ⟨⟨k, x, op, av, an, bv, bn, rfl⟩, hbel⟩ := hb0 h0
    have b0 : (((res.1 : Nat) : Int) != 0) = true := by rw [bne_iff_ne]; omega
    have hlow := below_lo HH.out.bel (Nat.le_trans b7 b6) hbel
    obtain ⟨sb, hsb⟩ : ∃ sb, sb = W1.heap.size := ⟨_, rfl⟩
    have HSB : Hid (sb = W1.heap.size) := hsb
    have HE : Hid (RwEnds lo base Rb Pb w0 t out (.returned (.int .i64 (res.1 : Nat))) (W1.alloc (.cells (sCells k x op av an bv bn) 87))) := by
      have h5 := HBAD.out h0
      exact ⟨by rw [h5], fun h => absurd (h5.symm.trans h) h0, fun _ => hbel.alloc hlow _⟩
    clear hg0 hb0 hbel hlow h0 HH HBR HBAD HGOOD HFL c0 hsb
    go_wp2_with (refine at_store 9 ?_; refine wpList_store_newS rfl (.tmp 9) (.tmp 117) rfl W1 sb (sCells k x op av an bv bn) rfl HSB.out.symm rfl (sCells_one _ _ _ _ _ _ _) rfl ?_)
    go_ret
    exact HE.out
end
end Go.Proofs.YthfacjlghcdndaaGreatDoor
