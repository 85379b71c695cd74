/- Texts Rei Rej Ree. -/
import Derived.Test.YthfacjlghcdndaaGreatDoorM29
set_option linter.unusedSimpArgs false
set_option linter.unusedVariables false
namespace Go.Proofs.YthfacjlghcdndaaGreatDoor
open Go.RowKit
def stSet (r : Fl.RS) (n : List UInt8) (v : List (List UInt8)) : Nat × Fl.Stmt × Fl.RS := match r.value v with
  | none => (4, noS, r)
  | some e => if 0 ≤ Fl.place r.chans n then (4, noS, r) else match r.target n with
    | none => (5, noS, r)
    | some (x, r') => (0, ⟨3, x, 0, e, [], []⟩, r')
section
variable {lo base Rb Pb : Nat} {w0 w w' : World} {m : RMem} {r : Fl.RS} {fl : List FlS} {t : Nat}
set_option maxRecDepth 100000 in
set_option maxHeartbeats 40000000 in
theorem st_set3 (h : RefAt lo base Rb Pb w0 w m) (hr : RefOf r fl t m) (b off cap : Nat) (n a : List UInt8) (ha : a.length ≤ 100000) (hnl : n.length ≤ 100000) (hb : b < w.heap.size) (hbR : b ≠ Rb ∧ ∀ j, isRow j → (m.v j).ownBlock ≠ some b) (hcap : 3 ≤ cap ∧ cap ≤ maxLen) (c0 : w.cell? ⟨b, off, none⟩ = some (.string ⟨#[115, 101, 116]⟩)) (c1 : w.cell? ⟨b, off + 1, none⟩ = some (.string ⟨n.toArray⟩)) (c2 : w.cell? ⟨b, off + 2, none⟩ = some (.string ⟨a.toArray⟩)) :
    Calls Tryz.prog 24 #[.pointer (some ⟨Rb, 0, none⟩), .slice (some ⟨b, off, none⟩) 3 cap] w (StEnds lo base Rb Pb w0 w m fl t (stSet r n [a])) := by
  have hba := h.hba
  have hRz : Rb < w.heap.size := by omega
  have HH : Hid (RefAt lo base Rb Pb w0 w m) := h
  have HO : Hid (RefOf r fl t m) := hr
  have HAT : Hid (∀ W, Below w.heap.size w W → Calls Tryz.prog 37 #[.pointer (some ⟨Rb, 0, none⟩), .string ⟨a.toArray⟩] W (AtEnds (r.atom a) W)) := fun W hW => fatom_any (h.below hW) hr a ha
  have HPC : Hid (∀ W, Below w.heap.size w W → Calls Tryz.prog 22 #[m.v 3, .string ⟨n.toArray⟩] W fun e w' => e = .returned (.int .i64 (Fl.place r.chans n)) ∧ w' = W) := fun W hW => place_words ((h.below hW).chans hr) n
  obtain ⟨c3, k3, hv3⟩ := h.shape 3 (by unfold isRow; omega)
  rw [hr.r3.1] at hv3
  rw [hv3] at HPC
  have HS3 : Hid (∀ W, Below w.heap.size w W → W.cell? ⟨Rb, 3, none⟩ = some (.slice c3 r.chans.length k3) ∧ W.cell? ⟨b, off + 1, none⟩ = some (.string ⟨n.toArray⟩)) := fun W hW => ⟨(hW.cell (p := ⟨Rb, 3, none⟩) hRz).trans (by rw [← hv3]; exact h.cR.c 3 (by omega)), (hW.cell (p := ⟨b, off + 1, none⟩) hb).trans c1⟩
  have hpc := Fl.place_cases r.chans n
  have hch := hr.ch
  have HVA : Hid (stSet r n [a] = match r.atom a with | none => (4, noS, r) | some x => if 0 ≤ Fl.place r.chans n then (4, noS, r) else match r.target n with
    | none => (5, noS, r)
    | some (y, r') => (0, ⟨3, y, 0, ⟨-1, x, Fl.no0⟩, [], []⟩, r')) := by
    show _ = _
    have hv : r.value [a] = (r.atom a).map fun x => ⟨-1, x, Fl.no0⟩ := rfl
    unfold stSet
    rw [hv]
    generalize r.atom a = o
    cases o <;> rfl
  obtain ⟨res, hres⟩ : ∃ res, res = stSet r n [a] := ⟨_, rfl⟩
  rw [← hres] at HVA ⊢
  obtain ⟨oa, hoa⟩ : ∃ oa, oa = r.atom a := ⟨_, rfl⟩
  rw [← hoa] at HAT HVA
  generalize Fl.place r.chans n = pc at *
  have hcapI : (3 : Int) ≤ (cap : Int) := by omega
  have hpc1 : -1 ≤ pc ∧ pc ≤ 3 := by omega
  have HB : Hid (∀ o o', Below w.heap.size w ((w.alloc o).alloc o')) := fun o o' => ((Below.refl _ _).alloc (Nat.le_refl _) _).alloc (by simp) _
  have HTG : Hid (∀ W, Below w.heap.size w W → ∀ (av : Bool) (an : Int), Calls Tryz.prog 38 #[.pointer (some ⟨Rb, 0, none⟩), .agg #[.int .i64 3, .int .i64 0, .int .i64 0, .int .i64 (-1), .bool av, .int .i64 an, .bool false, .int .i64 0, .slice none 0 0, .slice none 0 0], .string ⟨n.toArray⟩] W (TgEnds2 lo base Rb Pb w0 W (fun j => (m.v j).ownBlock) fl t (r.target n) (-1) av an false 0)) := fun W hW av an => target2_any (h.below hW) hr n hnl (-1) av an false 0
  have HOWN : Hid (∀ j, isRow j → ∀ b, (m.v j).ownBlock = some b → b < w.heap.size) := fun j hj b hb => ((h.own j hj).lt b hb).2
  clear h hr hres hoa hv3 c1
  go_enter Tryz.func24, Tryz.ntmps24
  go_wp2_with fail
  refine (HAT.out _ (HB.out _ _)).mono ?_
  rintro e W1 ⟨hb1, hgood, hbad⟩
  have rE : W1.heap[w.heap.size]? = some (.cells zeroS 87 (0, 0)) := by
    rw [hb1.block _ (by simp; omega), Below.heap_alloc _ _ _ (by simp)]; exact heapAt _ _ _ rfl
  have rS : W1.heap[w.heap.size + 1]? = some (.cells (sCells 3 0 (-1) false 0 false 0) 87 (0, 0)) := by
    rw [hb1.block _ (by simp)]; exact heapAt _ _ _ (by simp)
  have HBW : Hid (Below w.heap.size w W1) := (HB.out _ _).trans (hb1.mono (by simp; omega))
  have hz1 : w.heap.size + 2 ≤ W1.heap.size := by have := hb1.size; simp at this; omega
  have hz2 : w.heap.size + 1 < W1.heap.size := by omega
  have hz3 : w.heap.size < W1.heap.size := by omega
  have s4 : W1.cell? ⟨w.heap.size + 1, 4, none⟩ = some (.bool false) := cell_of_row _ _ 4 _ _ (0, 0) rS
  have s5 : W1.cell? ⟨w.heap.size + 1, 5, none⟩ = some (.int .i64 0) := cell_of_row _ _ 5 _ _ (0, 0) rS
  have sz : ∀ j, W1.frozen? ⟨w.heap.size + 1, j, none⟩ = false := fun j => by simp [World.frozen?, rS]
  have HX : Hid (∀ (u : Bool) (v : Int) a, Below w.heap.size w (((W1.setCell ⟨w.heap.size + 1, 4, none⟩ (.bool u)).setCell ⟨w.heap.size + 1, 5, none⟩ (.int .i64 v)).alloc a).drew ∧
      (((W1.setCell ⟨w.heap.size + 1, 4, none⟩ (.bool u)).setCell ⟨w.heap.size + 1, 5, none⟩ (.int .i64 v)).alloc a).drew.heap[w.heap.size]? = some (.cells zeroS 87 (0, 0)) ∧
      (((W1.setCell ⟨w.heap.size + 1, 4, none⟩ (.bool u)).setCell ⟨w.heap.size + 1, 5, none⟩ (.int .i64 v)).alloc a).drew.heap[w.heap.size + 1]? = some (.cells (sCells 3 0 (-1) u v false 0) 87 (0, 0)) ∧
      w.heap.size + 1 < (((W1.setCell ⟨w.heap.size + 1, 4, none⟩ (.bool u)).setCell ⟨w.heap.size + 1, 5, none⟩ (.int .i64 v)).alloc a).drew.heap.size) := fun u v a => by
    refine ⟨(((HBW.out.setCell (by show w.heap.size ≤ w.heap.size + 1; omega) _).setCell (by show w.heap.size ≤ w.heap.size + 1; omega) _).alloc (by rw [setCell_size, setCell_size]; omega) _).drew, ?_, ?_, ?_⟩
    · show (((W1.setCell _ _).setCell _ _).alloc a).heap[w.heap.size]? = _
      rw [Below.heap_alloc _ _ _ (by rw [setCell_size, setCell_size]; exact hz3), setCell_block _ _ _ _ _ (by omega), setCell_block _ _ _ _ _ (by omega)]; exact rE
    · show (((W1.setCell _ _).setCell _ _).alloc a).heap[w.heap.size + 1]? = _
      rw [Below.heap_alloc _ _ _ (by rw [setCell_size, setCell_size]; exact hz2)]
      exact row_set (row_set rS 4 _ _ rfl) 5 _ _ rfl
    · show w.heap.size + 1 < (((W1.setCell _ _).setCell _ _).alloc a).heap.size
      simp [setCell_size]; omega
  obtain ⟨u, v, ok, rfl, hok⟩ : ∃ (u : Bool) (v : Int) (ok : Bool), e = .returned (.tuple #[.agg #[.bool u, .int .i64 v], .bool ok]) ∧ ((oa = none ∧ ok = false) ∨ ∃ x, oa = some x ∧ ok = true ∧ u = x.var ∧ v = (x.v : Int)) := by
    cases oa with
    | none => obtain ⟨v, hv⟩ := hbad rfl; exact ⟨_, _, _, hv, .inl ⟨rfl, rfl⟩⟩
    | some x => exact ⟨_, _, _, hgood x rfl, .inr ⟨x, rfl, rfl, rfl, rfl⟩⟩
  have HOKK : Hid ((oa = none ∧ ok = false) ∨ ∃ x, oa = some x ∧ ok = true ∧ u = x.var ∧ v = (x.v : Int)) := hok
  clear rE rS hb1 hgood hbad hok c2
  go_wp2_with fail
  refine wp_region_late (fun W => Below w.heap.size w W) [] [(0, 0), (0, 1), (0, 2), (0, 3), (0, 4), (0, 5), (0, 6), (1, 7), (0, 8)] [] (by kernel_rfl) (by kernel_rfl) rfl [(_, _), (_, _), (_, _), (_, _), (_, _), (_, _), (_, _), (_, _), (_, _)] rfl (fun c a d v w h => by cases d <;> exact h) (HX.out _ _ _).1 (fun ops hG => ?_)
  clear hG
  simp only [List.getElem_toArray, List.getElem_cons_succ, List.getElem_cons_zero]
  iterate 7
    refine late_read rfl (fun K hK => ?_)
    apply Exists.intro
    refine ⟨fun w' hw' => ?_, ?_⟩
    · obtain ⟨x0, x1⟩ := HS3.out w' hw'
      clear hw'
      go_simp
      try with_reducible rfl
    go_simp
    refine hK _ ?_
    clear hK K
  refine late_do ?_
  go_wp2_with fail
  refine (HPC.out _ (HX.out _ _ _).1).mono ?_
  rintro e w1 ⟨rfl, hw1⟩
  rw [hw1]
  clear hw1 w1
  go_wp2_with fail
  refine ⟨(HX.out _ _ _).1, ?_⟩
  refine late_read rfl (fun K hK => ?_)
  apply Exists.intro
  refine ⟨fun w' hw' => ?_, ?_⟩
  · clear hw'
    go_simp
    try with_reducible rfl
  go_simp
  refine hK _ ?_
  clear hK K
  refine late_end ?_
  obtain ⟨X, hXX⟩ : ∃ X, X = (((W1.setCell ⟨w.heap.size + 1, 4, none⟩ (.bool u)).setCell ⟨w.heap.size + 1, 5, none⟩ (.int .i64 v)).alloc (.cells #[.bool u, .int .i64 v] 83)).drew := ⟨_, rfl⟩
  have hx4 := HX.out u v (.cells #[.bool u, .int .i64 v] 83)
  rw [← hXX] at hx4
  obtain ⟨x1, x2, x3, x4⟩ := hx4
  have HX1 : Hid (Below w.heap.size w X) := x1
  have HXE : Hid (X.heap[w.heap.size]? = some (.cells zeroS 87 (0, 0))) := x2
  have HXS : Hid (X.heap[w.heap.size + 1]? = some (.cells (sCells 3 0 (-1) u v false 0) 87 (0, 0))) := x3
  rw [← hXX]
  clear hXX x1 x2 x3 s4 s5 sz hz1 hz2 hz3
  cases ok with
  | false =>
    have HR : Hid (res = (4, noS, r)) := by
      show _ = _
      rcases HOKK.out with ⟨h1, -⟩ | ⟨x, -, h2, -⟩
      · rw [HVA.out, h1]
      · cases h2
    go_wp2_with (first | (refine at_load 6 ?_; refine wpList_load_stmt (w.heap.size + 1) (sCells 3 0 (-1) u v false 0) HXS.out rfl rfl ?_) | (refine at_store 4 ?_; refine wpList_store_stmt w.heap.size zeroS (sCells 3 0 (-1) u v false 0) HXE.out rfl rfl (sCells_one _ _ _ _ _ _ _) rfl rfl ?_))
    refine bodyPost_ret (v := .tuple #[.agg (sCells 3 0 (-1) u v false 0), .int .i64 4]) ?_ rfl ?_
    · exact results_cell_tmp (p := 4) (q := 5) (ty := 87) Tryz.results24 _ _ ⟨w.heap.size, 0, none⟩ _ rfl (run_loadVar_row _ _ _ _ _ _ _ (setRow_heap _ _ _ _ _ _ HXE.out) Tryz.underlying87 rfl Tryz.infoStmt10)
    · rw [HR.out]
      exact ⟨fun h => (by cases h), fun _ => ⟨⟨_, _, _, _, _, _, _, rfl⟩, (HH.out.below (below_setRow HX1.out (Nat.le_refl _) _)).bel⟩⟩
  | true =>
    obtain ⟨x, hx, rfl, rfl⟩ : ∃ x, oa = some x ∧ u = x.var ∧ v = (x.v : Int) := by
      rcases HOKK.out with ⟨-, h2⟩ | ⟨x, h1, -, h3, h4⟩
      · cases h2
      · exact ⟨x, h1, h3, h4⟩
    subst hx
    by_cases hp : 0 ≤ pc
    · have HR : Hid (res = (4, noS, r)) := by show _ = _; rw [HVA.out]; exact if_pos hp
      have hp2 : ¬ pc < 0 := by omega
      have hd : decide (pc < 0) = false := decide_eq_false hp2
      go_wp2_with (first | (refine at_load 6 ?_; refine wpList_load_stmt (w.heap.size + 1) (sCells 3 0 (-1) x.var x.v false 0) HXS.out rfl rfl ?_) | (refine at_store 4 ?_; refine wpList_store_stmt w.heap.size zeroS (sCells 3 0 (-1) x.var x.v false 0) HXE.out rfl rfl (sCells_one _ _ _ _ _ _ _) rfl rfl ?_))
      refine bodyPost_ret (v := .tuple #[.agg (sCells 3 0 (-1) x.var x.v false 0), .int .i64 4]) ?_ rfl ?_
      · exact results_cell_tmp (p := 4) (q := 5) (ty := 87) Tryz.results24 _ _ ⟨w.heap.size, 0, none⟩ _ rfl (run_loadVar_row _ _ _ _ _ _ _ (setRow_heap _ _ _ _ _ _ HXE.out) Tryz.underlying87 rfl Tryz.infoStmt10)
      · rw [HR.out]
        exact ⟨fun h => (by cases h), fun _ => ⟨⟨_, _, _, _, _, _, _, rfl⟩, (HH.out.below (below_setRow HX1.out (Nat.le_refl _) _)).bel⟩⟩
    · have hp2 : pc < 0 := by omega
      have hd : decide (pc < 0) = true := decide_eq_true hp2
      have HR0 : Hid (res = match r.target n with | none => (5, noS, r) | some (y, r') => (0, ⟨3, y, 0, ⟨-1, x, Fl.no0⟩, [], []⟩, r')) := by show _ = _; rw [HVA.out]; exact if_neg hp
      have HSS : Hid (∀ W : World, W.heap[w.heap.size + 1]? = some (.cells (sCells 3 0 (-1) x.var x.v false 0) 87 (0, 0)) → W.cell? ⟨b, off + 1, none⟩ = some (.string ⟨n.toArray⟩) → W.cell? ⟨w.heap.size + 1, 0, none⟩ = some (.int .i64 3) ∧ W.cell? ⟨w.heap.size + 1, 1, none⟩ = some (.int .i64 0) ∧ W.cell? ⟨w.heap.size + 1, 2, none⟩ = some (.int .i64 0) ∧ W.cell? ⟨w.heap.size + 1, 3, none⟩ = some (.int .i64 (-1)) ∧ W.cell? ⟨w.heap.size + 1, 4, none⟩ = some (.bool x.var) ∧ W.cell? ⟨w.heap.size + 1, 5, none⟩ = some (.int .i64 x.v) ∧ W.cell? ⟨w.heap.size + 1, 6, none⟩ = some (.bool false) ∧ W.cell? ⟨w.heap.size + 1, 7, none⟩ = some (.int .i64 0) ∧ W.cell? ⟨w.heap.size + 1, 8, none⟩ = some (.slice none 0 0) ∧ W.cell? ⟨w.heap.size + 1, 9, none⟩ = some (.slice none 0 0) ∧ W.cell? ⟨b, off + 1, none⟩ = some (.string ⟨n.toArray⟩)) := fun W h1 h2 => ⟨cell_of_row _ _ 0 _ _ (0, 0) h1, cell_of_row _ _ 1 _ _ (0, 0) h1, cell_of_row _ _ 2 _ _ (0, 0) h1, cell_of_row _ _ 3 _ _ (0, 0) h1, cell_of_row _ _ 4 _ _ (0, 0) h1, cell_of_row _ _ 5 _ _ (0, 0) h1, cell_of_row _ _ 6 _ _ (0, 0) h1, cell_of_row _ _ 7 _ _ (0, 0) h1, cell_of_row _ _ 8 _ _ (0, 0) h1, cell_of_row _ _ 9 _ _ (0, 0) h1, h2⟩
      clear hp
      go_wp2_with fail
      refine wp_region_late (fun W => W.cell? ⟨w.heap.size + 1, 0, none⟩ = some (.int .i64 3) ∧ W.cell? ⟨w.heap.size + 1, 1, none⟩ = some (.int .i64 0) ∧ W.cell? ⟨w.heap.size + 1, 2, none⟩ = some (.int .i64 0) ∧ W.cell? ⟨w.heap.size + 1, 3, none⟩ = some (.int .i64 (-1)) ∧ W.cell? ⟨w.heap.size + 1, 4, none⟩ = some (.bool x.var) ∧ W.cell? ⟨w.heap.size + 1, 5, none⟩ = some (.int .i64 x.v) ∧ W.cell? ⟨w.heap.size + 1, 6, none⟩ = some (.bool false) ∧ W.cell? ⟨w.heap.size + 1, 7, none⟩ = some (.int .i64 0) ∧ W.cell? ⟨w.heap.size + 1, 8, none⟩ = some (.slice none 0 0) ∧ W.cell? ⟨w.heap.size + 1, 9, none⟩ = some (.slice none 0 0) ∧ W.cell? ⟨b, off + 1, none⟩ = some (.string ⟨n.toArray⟩)) [] [(0, 0), (0, 1), (0, 2), (0, 3), (0, 4), (1, 5), (0, 6), (0, 7), (1, 8), (0, 9)] [] (by kernel_rfl) (by kernel_rfl) rfl [(_, _), (_, _), (_, _), (_, _), (_, _), (_, _), (_, _), (_, _), (_, _), (_, _)] rfl (fun c a d v w h => by cases d <;> exact h) (HSS.out _ HXS.out (HS3.out X HX1.out).2) (fun ops hG => ?_)
      clear hG
      simp only [List.getElem_toArray, List.getElem_cons_succ, List.getElem_cons_zero]
      iterate 5
        refine late_read rfl (fun K hK => ?_)
        apply Exists.intro
        refine ⟨fun w' hw' => ?_, ?_⟩
        · obtain ⟨z0, z1, z2, z3, z4, z5, z6, z7, z8, z9, z10⟩ := hw'
          go_simp
          try with_reducible rfl
        go_simp
        refine hK _ ?_
        clear hK K
      refine late_do ?_
      go_wp2_with fail
      refine (HTG.out X.drew HX1.out.drew x.var x.v).mono ?_
      rintro e W5 ⟨hfr, hg, hbd⟩
      have HFR : Hid _ := hfr
      have hE5 : W5.heap[w.heap.size]? = some (.cells zeroS 87 (0, 0)) := (hfr w.heap.size (by show w.heap.size < X.heap.size; omega) (by omega) (fun hh => by have := HOWN.out 4 (by unfold isRow; omega) _ hh; omega)).trans HXE.out
      have hS5 : W5.heap[w.heap.size + 1]? = some (.cells (sCells 3 0 (-1) x.var x.v false 0) 87 (0, 0)) := (hfr (w.heap.size + 1) (by show w.heap.size + 1 < X.heap.size; omega) (by omega) (fun hh => by have := HOWN.out 4 (by unfold isRow; omega) _ hh; omega)).trans HXS.out
      have hW5 : W5.cell? ⟨b, off + 1, none⟩ = some (.string ⟨n.toArray⟩) := (World.cell?_of_block (a := ⟨b, off + 1, none⟩) (hfr b (by show b < X.heap.size; omega) hbR.1 (hbR.2 4 (by unfold isRow; omega)))).trans (HS3.out X HX1.out).2
      have HE5 : Hid (W5.heap[w.heap.size]? = some (.cells zeroS 87 (0, 0))) := hE5
      have HS5 : Hid (W5.cell? ⟨w.heap.size + 1, 0, none⟩ = some (.int .i64 3) ∧ W5.cell? ⟨w.heap.size + 1, 1, none⟩ = some (.int .i64 0) ∧ W5.cell? ⟨w.heap.size + 1, 2, none⟩ = some (.int .i64 0) ∧ W5.cell? ⟨w.heap.size + 1, 3, none⟩ = some (.int .i64 (-1)) ∧ W5.cell? ⟨w.heap.size + 1, 4, none⟩ = some (.bool x.var) ∧ W5.cell? ⟨w.heap.size + 1, 5, none⟩ = some (.int .i64 x.v) ∧ W5.cell? ⟨w.heap.size + 1, 6, none⟩ = some (.bool false) ∧ W5.cell? ⟨w.heap.size + 1, 7, none⟩ = some (.int .i64 0) ∧ W5.cell? ⟨w.heap.size + 1, 8, none⟩ = some (.slice none 0 0) ∧ W5.cell? ⟨w.heap.size + 1, 9, none⟩ = some (.slice none 0 0) ∧ W5.cell? ⟨b, off + 1, none⟩ = some (.string ⟨n.toArray⟩)) := HSS.out W5 hS5 hW5
      have HS6 : Hid (∀ c : Array Value, (W5.setRow w.heap.size c).cell? ⟨w.heap.size + 1, 0, none⟩ = some (.int .i64 3) ∧ (W5.setRow w.heap.size c).cell? ⟨w.heap.size + 1, 1, none⟩ = some (.int .i64 0) ∧ (W5.setRow w.heap.size c).cell? ⟨w.heap.size + 1, 2, none⟩ = some (.int .i64 0) ∧ (W5.setRow w.heap.size c).cell? ⟨w.heap.size + 1, 3, none⟩ = some (.int .i64 (-1)) ∧ (W5.setRow w.heap.size c).cell? ⟨w.heap.size + 1, 4, none⟩ = some (.bool x.var) ∧ (W5.setRow w.heap.size c).cell? ⟨w.heap.size + 1, 5, none⟩ = some (.int .i64 x.v) ∧ (W5.setRow w.heap.size c).cell? ⟨w.heap.size + 1, 6, none⟩ = some (.bool false) ∧ (W5.setRow w.heap.size c).cell? ⟨w.heap.size + 1, 7, none⟩ = some (.int .i64 0) ∧ (W5.setRow w.heap.size c).cell? ⟨w.heap.size + 1, 8, none⟩ = some (.slice none 0 0) ∧ (W5.setRow w.heap.size c).cell? ⟨w.heap.size + 1, 9, none⟩ = some (.slice none 0 0) ∧ (W5.setRow w.heap.size c).cell? ⟨b, off + 1, none⟩ = some (.string ⟨n.toArray⟩)) := fun c => HSS.out _ ((setRow_other W5 w.heap.size (w.heap.size + 1) c (by omega)).trans hS5) ((World.cell?_of_block (a := ⟨b, off + 1, none⟩) (setRow_other W5 w.heap.size b c (by omega))).trans hW5)
      have hlw : lo ≤ w.heap.size := by omega
      clear hE5 hfr hS5 hW5 HSS
      cases htg : r.target n with
      | none =>
        obtain ⟨⟨y, rfl⟩, hbl⟩ := hbd htg
        have HR : Hid (res = (5, noS, r)) := by show _ = _; rw [HR0.out, htg]
        have HBL : Hid (Below lo w0 W5) := hbl
        clear hg hbd hbl htg
        go_wp2_with fail
        refine ⟨HS5.out, ?_⟩
        refine late_read rfl (fun K hK => ?_)
        apply Exists.intro
        refine ⟨fun w' hw' => ?_, ?_⟩
        · clear hw'
          go_simp
          try with_reducible rfl
        go_simp
        refine hK _ ?_
        clear hK K
        refine late_read rfl (fun K hK => ?_)
        apply Exists.intro
        refine ⟨fun w' hw' => ?_, ?_⟩
        · clear hw'
          go_simp
          try with_reducible rfl
        go_simp
        refine hK _ ?_
        clear hK K
        refine late_do ?_
        go_wp2_with (refine at_store 4 ?_; refine wpList_store_stmt w.heap.size zeroS (sCells 3 y (-1) x.var x.v false 0) HE5.out rfl rfl (sCells_one _ _ _ _ _ _ _) rfl rfl ?_)
        refine ⟨HS6.out _, ?_⟩
        refine late_read rfl (fun K hK => ?_)
        apply Exists.intro
        refine ⟨fun w' hw' => ?_, ?_⟩
        · clear hw'
          go_simp
          try with_reducible rfl
        go_simp
        refine hK _ ?_
        clear hK K
        refine late_end ?_
        go_wp2_with fail
        refine bodyPost_ret (v := .tuple #[.agg (sCells 3 y (-1) x.var x.v false 0), .int .i64 5]) ?_ rfl ?_
        · exact results_cell_tmp (p := 4) (q := 5) (ty := 87) Tryz.results24 _ _ ⟨w.heap.size, 0, none⟩ _ rfl (run_loadVar_row _ _ _ _ _ _ _ (setRow_heap _ _ _ _ _ _ HE5.out) Tryz.underlying87 rfl Tryz.infoStmt10)
        · rw [HR.out]
          exact ⟨fun h => (by cases h), fun _ => ⟨⟨_, _, _, _, _, _, _, rfl⟩, below_setRow HBL.out hlw _⟩⟩
      | some yr =>
        obtain ⟨y, r'⟩ := yr
        obtain ⟨rfl, m', hm', hro, hown⟩ := hg y r' htg
        have HR : Hid (res = (0, ⟨3, y, 0, ⟨-1, x, Fl.no0⟩, [], []⟩, r')) := by show _ = _; rw [HR0.out, htg]
        have HM : Hid (RefAt lo base Rb Pb w0 (W5.setRow w.heap.size (sCells 3 y (-1) x.var x.v false 0)) m') := by
          refine hm'.aside (below_setRow hm'.bel hlw _) (by simp only [World.setRow, Array.size_modify]; exact hm'.hba.2.2.2.2.2.1) (fun b hb => setRow_other _ _ _ _ ?_)
          rcases hb with rfl | rfl | ⟨j, hj, hb⟩
          · omega
          · omega
          · rcases hown j hj b hb with h1 | h1
            · have := HOWN.out j hj b h1; omega
            · have : X.heap.size ≤ b := h1
              omega
        have HSTY : Hid (Stays Rb w m (W5.setRow w.heap.size (sCells 3 y (-1) x.var x.v false 0)) m') := fun b hb hne hno => by
          have hx9 := HX1.out.size
          refine ⟨(setRow_other _ _ _ _ (by omega)).trans ((HFR.out b (by show b < X.heap.size; omega) hne (hno 4 (by unfold isRow; omega))).trans (HX1.out.block b hb)), fun j hj hh => ?_⟩
          rcases hown j hj b hh with h1 | h1
          · exact hno j hj h1
          · have : X.heap.size ≤ b := h1
            omega
        have HRO : Hid (RefOf r' fl t m') := hro
        clear hg hbd htg hm' hro hown
        go_wp2_with fail
        refine ⟨HS5.out, ?_⟩
        refine late_read rfl (fun K hK => ?_)
        apply Exists.intro
        refine ⟨fun w' hw' => ?_, ?_⟩
        · clear hw'
          go_simp
          try with_reducible rfl
        go_simp
        refine hK _ ?_
        clear hK K
        refine late_read rfl (fun K hK => ?_)
        apply Exists.intro
        refine ⟨fun w' hw' => ?_, ?_⟩
        · clear hw'
          go_simp
          try with_reducible rfl
        go_simp
        refine hK _ ?_
        clear hK K
        refine late_do ?_
        go_wp2_with (refine at_store 4 ?_; refine wpList_store_stmt w.heap.size zeroS (sCells 3 y (-1) x.var x.v false 0) HE5.out rfl rfl (sCells_one _ _ _ _ _ _ _) rfl rfl ?_)
        refine ⟨HS6.out _, ?_⟩
        refine late_read rfl (fun K hK => ?_)
        apply Exists.intro
        refine ⟨fun w' hw' => ?_, ?_⟩
        · clear hw'
          go_simp
          try with_reducible rfl
        go_simp
        refine hK _ ?_
        clear hK K
        refine late_end ?_
        go_wp2_with fail
        refine bodyPost_ret (v := .tuple #[.agg (sCells 3 y (-1) x.var x.v false 0), .int .i64 0]) ?_ rfl ?_
        · exact results_cell_tmp (p := 4) (q := 5) (ty := 87) Tryz.results24 _ _ ⟨w.heap.size, 0, none⟩ _ rfl (run_loadVar_row _ _ _ _ _ _ _ (setRow_heap _ _ _ _ _ _ HE5.out) Tryz.underlying87 rfl Tryz.infoStmt10)
        · rw [HR.out]
          exact ⟨fun _ => ⟨rfl, m', HM.out, HRO.out, HSTY.out⟩, fun h => absurd rfl h⟩
end
end Go.Proofs.YthfacjlghcdndaaGreatDoor

namespace Go.Proofs.YthfacjlghcdndaaGreatDoor
open Go.RowKit
theorem signs_place (W : World) (o : List UInt8) : Calls Tryz.prog 22 #[.slice (some ⟨W.heap.size, 0, none⟩) 5 5, .string ⟨o.toArray⟩] (W.alloc (.cells #[.string ⟨#[43]⟩, .string ⟨#[45]⟩, .string ⟨#[42]⟩, .string ⟨#[60]⟩, .string ⟨#[61, 61]⟩] 9)) fun e w' => e = .returned (.int .i64 (Fl.place Fl.signs o)) ∧ w' = W.alloc (.cells #[.string ⟨#[43]⟩, .string ⟨#[45]⟩, .string ⟨#[42]⟩, .string ⟨#[60]⟩, .string ⟨#[61, 61]⟩] 9) := by
  have := place_any _ _ (⟨o.toArray⟩ : ByteArray) _ (signs_at W)
  rw [bl_signs, toList_mk] at this
  exact this
section
variable {lo base Rb Pb : Nat} {w0 w w' : World} {m : RMem} {r : Fl.RS} {fl : List FlS} {t : Nat}
set_option maxRecDepth 100000 in
set_option maxHeartbeats 40000000 in
theorem st_set5 (h : RefAt lo base Rb Pb w0 w m) (hr : RefOf r fl t m) (b off cap : Nat) (n a o b2 : List UInt8) (ha : a.length ≤ 100000) (hb2 : b2.length ≤ 100000) (hnl : n.length ≤ 100000) (hb : b < w.heap.size) (hbR : b ≠ Rb ∧ ∀ j, isRow j → (m.v j).ownBlock ≠ some b) (hcap : 5 ≤ cap ∧ cap ≤ maxLen) (c0 : w.cell? ⟨b, off, none⟩ = some (.string ⟨#[115, 101, 116]⟩)) (c1 : w.cell? ⟨b, off + 1, none⟩ = some (.string ⟨n.toArray⟩)) (c2 : w.cell? ⟨b, off + 2, none⟩ = some (.string ⟨a.toArray⟩)) (c3' : w.cell? ⟨b, off + 3, none⟩ = some (.string ⟨o.toArray⟩)) (c4' : w.cell? ⟨b, off + 4, none⟩ = some (.string ⟨b2.toArray⟩)) :
    Calls Tryz.prog 24 #[.pointer (some ⟨Rb, 0, none⟩), .slice (some ⟨b, off, none⟩) 5 cap] w (StEnds lo base Rb Pb w0 w m fl t (stSet r n [a, o, b2])) := by
  have hba := h.hba
  have hRz : Rb < w.heap.size := by omega
  have HH : Hid (RefAt lo base Rb Pb w0 w m) := h
  have HO : Hid (RefOf r fl t m) := hr
  have HAT : Hid (∀ W, Below w.heap.size w W → Calls Tryz.prog 37 #[.pointer (some ⟨Rb, 0, none⟩), .string ⟨a.toArray⟩] W (AtEnds (r.atom a) W)) := fun W hW => fatom_any (h.below hW) hr a ha
  have HAT2 : Hid (∀ W, Below w.heap.size w W → Calls Tryz.prog 37 #[.pointer (some ⟨Rb, 0, none⟩), .string ⟨b2.toArray⟩] W (AtEnds (r.atom b2) W)) := fun W hW => fatom_any (h.below hW) hr b2 hb2
  have HW34 : Hid (∀ W, Below w.heap.size w W → W.cell? ⟨b, off + 3, none⟩ = some (.string ⟨o.toArray⟩) ∧ W.cell? ⟨b, off + 4, none⟩ = some (.string ⟨b2.toArray⟩)) := fun W hW => ⟨(hW.cell (p := ⟨b, off + 3, none⟩) hb).trans c3', (hW.cell (p := ⟨b, off + 4, none⟩) hb).trans c4'⟩
  have HPC : Hid (∀ W, Below w.heap.size w W → Calls Tryz.prog 22 #[m.v 3, .string ⟨n.toArray⟩] W fun e w' => e = .returned (.int .i64 (Fl.place r.chans n)) ∧ w' = W) := fun W hW => place_words ((h.below hW).chans hr) n
  obtain ⟨c3, k3, hv3⟩ := h.shape 3 (by unfold isRow; omega)
  rw [hr.r3.1] at hv3
  rw [hv3] at HPC
  have HS3 : Hid (∀ W, Below w.heap.size w W → W.cell? ⟨Rb, 3, none⟩ = some (.slice c3 r.chans.length k3) ∧ W.cell? ⟨b, off + 1, none⟩ = some (.string ⟨n.toArray⟩)) := fun W hW => ⟨(hW.cell (p := ⟨Rb, 3, none⟩) hRz).trans (by rw [← hv3]; exact h.cR.c 3 (by omega)), (hW.cell (p := ⟨b, off + 1, none⟩) hb).trans c1⟩
  have hpc := Fl.place_cases r.chans n
  have hch := hr.ch
  have HVA : Hid (stSet r n [a, o, b2] = match r.atom a, r.atom b2 with | some x, some y => (if 0 ≤ Fl.place r.chans n then (4, noS, r) else match r.target n with
    | none => (5, noS, r)
    | some (z, r') => (0, ⟨3, z, 0, ⟨Fl.place Fl.signs o, x, y⟩, [], []⟩, r')) | _, _ => (4, noS, r)) := by
    show _ = _
    have hv : r.value [a, o, b2] = (r.atom a).bind fun x => (r.atom b2).map fun y => ⟨Fl.place Fl.signs o, x, y⟩ := rfl
    unfold stSet
    rw [hv]
    generalize r.atom a = o1
    generalize r.atom b2 = o2
    cases o1 <;> cases o2 <;> rfl
  obtain ⟨res, hres⟩ : ∃ res, res = stSet r n [a, o, b2] := ⟨_, rfl⟩
  rw [← hres] at HVA ⊢
  obtain ⟨oa, hoa⟩ : ∃ oa, oa = r.atom a := ⟨_, rfl⟩
  obtain ⟨ob, hob⟩ : ∃ ob, ob = r.atom b2 := ⟨_, rfl⟩
  rw [← hoa] at HAT HVA
  rw [← hob] at HAT2 HVA
  have hsg := Fl.place_cases Fl.signs o
  have hsl : Fl.signs.length = 5 := rfl
  have HSG : Hid (∀ W : World, Calls Tryz.prog 22 #[.slice (some ⟨W.heap.size, 0, none⟩) 5 5, .string ⟨o.toArray⟩] (W.alloc (.cells #[.string ⟨#[43]⟩, .string ⟨#[45]⟩, .string ⟨#[42]⟩, .string ⟨#[60]⟩, .string ⟨#[61, 61]⟩] 9)) fun e w' => e = .returned (.int .i64 (Fl.place Fl.signs o)) ∧ w' = W.alloc (.cells #[.string ⟨#[43]⟩, .string ⟨#[45]⟩, .string ⟨#[42]⟩, .string ⟨#[60]⟩, .string ⟨#[61, 61]⟩] 9)) := fun W => signs_place W o
  generalize Fl.place Fl.signs o = op at *
  have hop : -1 ≤ op ∧ op ≤ 4 := by omega
  generalize Fl.place r.chans n = pc at *
  have hcapI : (5 : Int) ≤ (cap : Int) := by omega
  have hpc1 : -1 ≤ pc ∧ pc ≤ 3 := by omega
  have HB : Hid (∀ o o', Below w.heap.size w ((w.alloc o).alloc o')) := fun o o' => ((Below.refl _ _).alloc (Nat.le_refl _) _).alloc (by simp) _
  have HTG : Hid (∀ W, Below w.heap.size w W → ∀ (av : Bool) (an : Int) (av2 : Bool) (an2 : Int), Calls Tryz.prog 38 #[.pointer (some ⟨Rb, 0, none⟩), .agg #[.int .i64 3, .int .i64 0, .int .i64 0, .int .i64 op, .bool av, .int .i64 an, .bool av2, .int .i64 an2, .slice none 0 0, .slice none 0 0], .string ⟨n.toArray⟩] W (TgEnds2 lo base Rb Pb w0 W (fun j => (m.v j).ownBlock) fl t (r.target n) op av an av2 an2)) := fun W hW av an av2 an2 => target2_any (h.below hW) hr n hnl op av an av2 an2
  have HOWN : Hid (∀ j, isRow j → ∀ b, (m.v j).ownBlock = some b → b < w.heap.size) := fun j hj b hb => ((h.own j hj).lt b hb).2
  clear h hr hres hoa hob hv3 c1 c3' c4' hsg hsl
  go_enter Tryz.func24, Tryz.ntmps24
  go_wp2_with fail
  refine (HAT.out _ (HB.out _ _)).mono ?_
  rintro e W1 ⟨hb1, hgood, hbad⟩
  have rE : W1.heap[w.heap.size]? = some (.cells zeroS 87 (0, 0)) := by
    rw [hb1.block _ (by simp; omega), Below.heap_alloc _ _ _ (by simp)]; exact heapAt _ _ _ rfl
  have rS : W1.heap[w.heap.size + 1]? = some (.cells (sCells 3 0 (-1) false 0 false 0) 87 (0, 0)) := by
    rw [hb1.block _ (by simp)]; exact heapAt _ _ _ (by simp)
  have HBW : Hid (Below w.heap.size w W1) := (HB.out _ _).trans (hb1.mono (by simp; omega))
  have hz1 : w.heap.size + 2 ≤ W1.heap.size := by have := hb1.size; simp at this; omega
  have hz2 : w.heap.size + 1 < W1.heap.size := by omega
  have hz3 : w.heap.size < W1.heap.size := by omega
  have s4 : W1.cell? ⟨w.heap.size + 1, 4, none⟩ = some (.bool false) := cell_of_row _ _ 4 _ _ (0, 0) rS
  have s5 : W1.cell? ⟨w.heap.size + 1, 5, none⟩ = some (.int .i64 0) := cell_of_row _ _ 5 _ _ (0, 0) rS
  have sz : ∀ j, W1.frozen? ⟨w.heap.size + 1, j, none⟩ = false := fun j => by simp [World.frozen?, rS]
  obtain ⟨u, v, ok1, rfl, hok1⟩ : ∃ (u : Bool) (v : Int) (ok : Bool), e = .returned (.tuple #[.agg #[.bool u, .int .i64 v], .bool ok]) ∧ ((oa = none ∧ ok = false) ∨ ∃ x, oa = some x ∧ ok = true ∧ u = x.var ∧ v = (x.v : Int)) := by
    cases oa with
    | none => obtain ⟨v, hv⟩ := hbad rfl; exact ⟨_, _, _, hv, .inl ⟨rfl, rfl⟩⟩
    | some x => exact ⟨_, _, _, hgood x rfl, .inr ⟨x, rfl, rfl, rfl, rfl⟩⟩
  have HOK1 : Hid ((oa = none ∧ ok1 = false) ∨ ∃ x, oa = some x ∧ ok1 = true ∧ u = x.var ∧ v = (x.v : Int)) := hok1
  have s3 : W1.cell? ⟨w.heap.size + 1, 3, none⟩ = some (.int .i64 (-1)) := cell_of_row _ _ 3 _ _ (0, 0) rS
  have RE1 : Hid (W1.heap[w.heap.size]? = some (.cells zeroS 87 (0, 0))) := rE
  have RS1 : Hid (W1.heap[w.heap.size + 1]? = some (.cells (sCells 3 0 (-1) false 0 false 0) 87 (0, 0))) := rS
  clear rE rS hb1 hgood hbad hok1 c2
  go_wp2_with fail
  refine (signs_any _).mono ?_
  rintro e w1 ⟨rfl, hw1⟩
  rw [hw1]
  clear hw1 w1
  obtain ⟨Y0, hY0⟩ : ∃ Y0, Y0 = ((W1.setCell ⟨w.heap.size + 1, 4, none⟩ (.bool u)).setCell ⟨w.heap.size + 1, 5, none⟩ (.int .i64 v)).alloc (.cells #[.bool u, .int .i64 v] 83) := ⟨_, rfl⟩
  have hzY : w.heap.size + 2 ≤ Y0.heap.size := by rw [hY0]; simp [setCell_size]; omega
  have hBY : Below w.heap.size w Y0 := by
    rw [hY0]; exact ((HBW.out.setCell (by show w.heap.size ≤ w.heap.size + 1; omega) _).setCell (by show w.heap.size ≤ w.heap.size + 1; omega) _).alloc (by rw [setCell_size, setCell_size]; omega) _
  have rEY : Y0.heap[w.heap.size]? = some (.cells zeroS 87 (0, 0)) := by
    rw [hY0, Below.heap_alloc _ _ _ (by rw [setCell_size, setCell_size]; exact hz3), setCell_block _ _ _ _ _ (by omega), setCell_block _ _ _ _ _ (by omega)]; exact RE1.out
  have rSY : Y0.heap[w.heap.size + 1]? = some (.cells (sCells 3 0 (-1) u v false 0) 87 (0, 0)) := by
    rw [hY0, Below.heap_alloc _ _ _ (by rw [setCell_size, setCell_size]; exact hz2)]
    exact row_set (row_set RS1.out 4 _ _ rfl) 5 _ _ rfl
  rw [← hY0]
  clear hY0 s3 s4 s5 sz hz1 hz2 hz3 RE1 RS1 HBW
  have hzY2 : w.heap.size + 1 < Y0.heap.size := by omega
  have y3 : Y0.cell? ⟨w.heap.size + 1, 3, none⟩ = some (.int .i64 (-1)) := cell_of_row _ _ 3 _ _ (0, 0) rSY
  have yz : ∀ j, Y0.frozen? ⟨w.heap.size + 1, j, none⟩ = false := fun j => by simp [World.frozen?, rSY]
  have HBY1 : Hid (∀ o', Below w.heap.size w (Y0.alloc o')) := fun o' => hBY.alloc (by omega) _
  have w3 : ∀ o', (Y0.alloc o').cell? ⟨b, off + 3, none⟩ = some (.string ⟨o.toArray⟩) := fun o' => (HW34.out _ (HBY1.out o')).1
  go_wp2_with fail
  refine (HSG.out Y0).mono ?_
  rintro e w1 ⟨rfl, hw1⟩
  rw [hw1]
  clear hw1 w1
  have HBY2 : Hid (∀ v o', Below w.heap.size w ((Y0.setCell ⟨w.heap.size + 1, 3, none⟩ v).alloc o')) := fun v o' => (hBY.setCell (by show w.heap.size ≤ w.heap.size + 1; omega) _).alloc (by rw [setCell_size]; omega) _
  have w4 : ∀ v o', ((Y0.setCell ⟨w.heap.size + 1, 3, none⟩ v).alloc o').cell? ⟨b, off + 4, none⟩ = some (.string ⟨b2.toArray⟩) := fun v o' => (HW34.out _ (HBY2.out v o')).2
  go_wp2_with fail
  refine (HAT2.out _ (HBY2.out _ _)).mono ?_
  rintro e W2 ⟨hb2', hgood, hbad⟩
  have hzW2 : w.heap.size + 2 ≤ W2.heap.size := by have := hb2'.size; simp [setCell_size] at this; omega
  have rE2 : W2.heap[w.heap.size]? = some (.cells zeroS 87 (0, 0)) := by
    rw [hb2'.block _ (by simp [setCell_size]; omega), Below.heap_alloc _ _ _ (by rw [setCell_size]; omega), setCell_block _ _ _ _ _ (by omega)]; exact rEY
  have rS2 : W2.heap[w.heap.size + 1]? = some (.cells (sCells 3 0 op u v false 0) 87 (0, 0)) := by
    rw [hb2'.block _ (by simp [setCell_size]; omega), Below.heap_alloc _ _ _ (by rw [setCell_size]; omega)]
    exact row_set rSY 3 _ _ rfl
  have HBW : Hid (Below w.heap.size w W2) := (HBY2.out _ _).trans (hb2'.mono (by simp [setCell_size]; omega))
  have hz2 : w.heap.size + 1 < W2.heap.size := by omega
  have hz3 : w.heap.size < W2.heap.size := by omega
  have s6 : W2.cell? ⟨w.heap.size + 1, 6, none⟩ = some (.bool false) := cell_of_row _ _ 6 _ _ (0, 0) rS2
  have s7 : W2.cell? ⟨w.heap.size + 1, 7, none⟩ = some (.int .i64 0) := cell_of_row _ _ 7 _ _ (0, 0) rS2
  have sz : ∀ j, W2.frozen? ⟨w.heap.size + 1, j, none⟩ = false := fun j => by simp [World.frozen?, rS2]
  obtain ⟨u2, v2, ok2, rfl, hok2⟩ : ∃ (u : Bool) (v : Int) (ok : Bool), e = .returned (.tuple #[.agg #[.bool u, .int .i64 v], .bool ok]) ∧ ((ob = none ∧ ok = false) ∨ ∃ x, ob = some x ∧ ok = true ∧ u = x.var ∧ v = (x.v : Int)) := by
    cases ob with
    | none => obtain ⟨v, hv⟩ := hbad rfl; exact ⟨_, _, _, hv, .inl ⟨rfl, rfl⟩⟩
    | some x => exact ⟨_, _, _, hgood x rfl, .inr ⟨x, rfl, rfl, rfl, rfl⟩⟩
  have HOK2 : Hid ((ob = none ∧ ok2 = false) ∨ ∃ x, ob = some x ∧ ok2 = true ∧ u2 = x.var ∧ v2 = (x.v : Int)) := hok2
  have HX : Hid (∀ (u2 : Bool) (v2 : Int) a, Below w.heap.size w (((W2.setCell ⟨w.heap.size + 1, 6, none⟩ (.bool u2)).setCell ⟨w.heap.size + 1, 7, none⟩ (.int .i64 v2)).alloc a).drew ∧
      (((W2.setCell ⟨w.heap.size + 1, 6, none⟩ (.bool u2)).setCell ⟨w.heap.size + 1, 7, none⟩ (.int .i64 v2)).alloc a).drew.heap[w.heap.size]? = some (.cells zeroS 87 (0, 0)) ∧
      (((W2.setCell ⟨w.heap.size + 1, 6, none⟩ (.bool u2)).setCell ⟨w.heap.size + 1, 7, none⟩ (.int .i64 v2)).alloc a).drew.heap[w.heap.size + 1]? = some (.cells (sCells 3 0 op u v u2 v2) 87 (0, 0)) ∧
      w.heap.size + 1 < (((W2.setCell ⟨w.heap.size + 1, 6, none⟩ (.bool u2)).setCell ⟨w.heap.size + 1, 7, none⟩ (.int .i64 v2)).alloc a).drew.heap.size) := fun u2 v2 a => by
    refine ⟨(((HBW.out.setCell (by show w.heap.size ≤ w.heap.size + 1; omega) _).setCell (by show w.heap.size ≤ w.heap.size + 1; omega) _).alloc (by rw [setCell_size, setCell_size]; omega) _).drew, ?_, ?_, ?_⟩
    · show (((W2.setCell _ _).setCell _ _).alloc a).heap[w.heap.size]? = _
      rw [Below.heap_alloc _ _ _ (by rw [setCell_size, setCell_size]; exact hz3), setCell_block _ _ _ _ _ (by omega), setCell_block _ _ _ _ _ (by omega)]; exact rE2
    · show (((W2.setCell _ _).setCell _ _).alloc a).heap[w.heap.size + 1]? = _
      rw [Below.heap_alloc _ _ _ (by rw [setCell_size, setCell_size]; exact hz2)]
      exact row_set (row_set rS2 6 _ _ rfl) 7 _ _ rfl
    · show w.heap.size + 1 < (((W2.setCell _ _).setCell _ _).alloc a).heap.size
      simp [setCell_size]; omega
  obtain ⟨ok, hokk⟩ : ∃ ok, ok = (ok1 && ok2) := ⟨_, rfl⟩
  have HOKK : Hid (((oa = none ∨ ob = none) ∧ ok = false) ∨ ∃ x y, oa = some x ∧ ob = some y ∧ ok = true ∧ u = x.var ∧ v = (x.v : Int) ∧ u2 = y.var ∧ v2 = (y.v : Int)) := by
    show _ ∨ _
    rw [hokk]
    rcases HOK1.out with ⟨h1, h2⟩ | ⟨x, h1, h2, h3, h4⟩
    · left; rw [h2]; exact ⟨.inl h1, rfl⟩
    · rcases HOK2.out with ⟨g1, g2⟩ | ⟨y, g1, g2, g3, g4⟩
      · left; rw [h2, g2]; exact ⟨.inr g1, rfl⟩
      · right; rw [h2, g2]; exact ⟨x, y, h1, g1, rfl, h3, h4, g3, g4⟩
  clear rE2 rS2 hb2' hgood hbad hok2 rEY rSY y3 yz w3 w4 hzY hzY2 hBY HOK1 HOK2
  have HCUT : Hid (ok = (ok1 && ok2)) := hokk
  clear hokk
  cases ok1 <;> cases ok2
  all_goals
    have hokv := HCUT.out
    simp only [Bool.and_true, Bool.and_false, Bool.true_and, Bool.false_and, Bool.and_self] at hokv
    subst hokv
    clear HCUT
    go_wp2_with fail
    refine wp_region_late (fun W => Below w.heap.size w W) [] [(0, 0), (0, 1), (0, 2), (0, 3), (0, 4), (0, 5), (0, 6), (1, 7), (0, 8)] [] (by kernel_rfl) (by kernel_rfl) rfl [(_, _), (_, _), (_, _), (_, _), (_, _), (_, _), (_, _), (_, _), (_, _)] rfl (fun c a d v w h => by cases d <;> exact h) (HX.out _ _ _).1 (fun ops hG => ?_)
    clear hG
    simp only [List.getElem_toArray, List.getElem_cons_succ, List.getElem_cons_zero]
    iterate 7
      refine late_read rfl (fun K hK => ?_)
      apply Exists.intro
      refine ⟨fun w' hw' => ?_, ?_⟩
      · obtain ⟨x0, x1⟩ := HS3.out w' hw'
        clear hw'
        go_simp
        try with_reducible rfl
      go_simp
      refine hK _ ?_
      clear hK K
    refine late_do ?_
    go_wp2_with fail
    refine (HPC.out _ (HX.out _ _ _).1).mono ?_
    rintro e w1 ⟨rfl, hw1⟩
    rw [hw1]
    clear hw1 w1
    go_wp2_with fail
    refine ⟨(HX.out _ _ _).1, ?_⟩
    refine late_read rfl (fun K hK => ?_)
    apply Exists.intro
    refine ⟨fun w' hw' => ?_, ?_⟩
    · clear hw'
      go_simp
      try with_reducible rfl
    go_simp
    refine hK _ ?_
    clear hK K
    refine late_end ?_
    obtain ⟨X, hXX⟩ : ∃ X, X = (((W2.setCell ⟨w.heap.size + 1, 6, none⟩ (.bool u2)).setCell ⟨w.heap.size + 1, 7, none⟩ (.int .i64 v2)).alloc (.cells #[.bool u2, .int .i64 v2] 83)).drew := ⟨_, rfl⟩
    have hx4 := HX.out u2 v2 (.cells #[.bool u2, .int .i64 v2] 83)
    rw [← hXX] at hx4
    obtain ⟨x1, x2, x3, x4⟩ := hx4
    have HX1 : Hid (Below w.heap.size w X) := x1
    have HXE : Hid (X.heap[w.heap.size]? = some (.cells zeroS 87 (0, 0))) := x2
    have HXS : Hid (X.heap[w.heap.size + 1]? = some (.cells (sCells 3 0 op u v u2 v2) 87 (0, 0))) := x3
    rw [← hXX]
    clear hXX x1 x2 x3 s6 s7 sz hzW2 hz2 hz3
  · skip
    have HR : Hid (res = (4, noS, r)) := by
      show _ = _
      rcases HOKK.out with ⟨h1 | h1, -⟩ | ⟨x, y, -, -, h2, -⟩
      · rw [HVA.out, h1]
      · rw [HVA.out, h1]; cases oa <;> rfl
      · cases h2
    go_wp2_with (first | (refine at_load 6 ?_; refine wpList_load_stmt (w.heap.size + 1) (sCells 3 0 op u v u2 v2) HXS.out rfl rfl ?_) | (refine at_store 4 ?_; refine wpList_store_stmt w.heap.size zeroS (sCells 3 0 op u v u2 v2) HXE.out rfl rfl (sCells_one _ _ _ _ _ _ _) rfl rfl ?_))
    refine bodyPost_ret (v := .tuple #[.agg (sCells 3 0 op u v u2 v2), .int .i64 4]) ?_ rfl ?_
    · exact results_cell_tmp (p := 4) (q := 5) (ty := 87) Tryz.results24 _ _ ⟨w.heap.size, 0, none⟩ _ rfl (run_loadVar_row _ _ _ _ _ _ _ (setRow_heap _ _ _ _ _ _ HXE.out) Tryz.underlying87 rfl Tryz.infoStmt10)
    · rw [HR.out]
      exact ⟨fun h => (by cases h), fun _ => ⟨⟨_, _, _, _, _, _, _, rfl⟩, (HH.out.below (below_setRow HX1.out (Nat.le_refl _) _)).bel⟩⟩
  · skip
    have HR : Hid (res = (4, noS, r)) := by
      show _ = _
      rcases HOKK.out with ⟨h1 | h1, -⟩ | ⟨x, y, -, -, h2, -⟩
      · rw [HVA.out, h1]
      · rw [HVA.out, h1]; cases oa <;> rfl
      · cases h2
    go_wp2_with (first | (refine at_load 6 ?_; refine wpList_load_stmt (w.heap.size + 1) (sCells 3 0 op u v u2 v2) HXS.out rfl rfl ?_) | (refine at_store 4 ?_; refine wpList_store_stmt w.heap.size zeroS (sCells 3 0 op u v u2 v2) HXE.out rfl rfl (sCells_one _ _ _ _ _ _ _) rfl rfl ?_))
    refine bodyPost_ret (v := .tuple #[.agg (sCells 3 0 op u v u2 v2), .int .i64 4]) ?_ rfl ?_
    · exact results_cell_tmp (p := 4) (q := 5) (ty := 87) Tryz.results24 _ _ ⟨w.heap.size, 0, none⟩ _ rfl (run_loadVar_row _ _ _ _ _ _ _ (setRow_heap _ _ _ _ _ _ HXE.out) Tryz.underlying87 rfl Tryz.infoStmt10)
    · rw [HR.out]
      exact ⟨fun h => (by cases h), fun _ => ⟨⟨_, _, _, _, _, _, _, rfl⟩, (HH.out.below (below_setRow HX1.out (Nat.le_refl _) _)).bel⟩⟩
  · skip
    have HR : Hid (res = (4, noS, r)) := by
      show _ = _
      rcases HOKK.out with ⟨h1 | h1, -⟩ | ⟨x, y, -, -, h2, -⟩
      · rw [HVA.out, h1]
      · rw [HVA.out, h1]; cases oa <;> rfl
      · cases h2
    go_wp2_with (first | (refine at_load 6 ?_; refine wpList_load_stmt (w.heap.size + 1) (sCells 3 0 op u v u2 v2) HXS.out rfl rfl ?_) | (refine at_store 4 ?_; refine wpList_store_stmt w.heap.size zeroS (sCells 3 0 op u v u2 v2) HXE.out rfl rfl (sCells_one _ _ _ _ _ _ _) rfl rfl ?_))
    refine bodyPost_ret (v := .tuple #[.agg (sCells 3 0 op u v u2 v2), .int .i64 4]) ?_ rfl ?_
    · exact results_cell_tmp (p := 4) (q := 5) (ty := 87) Tryz.results24 _ _ ⟨w.heap.size, 0, none⟩ _ rfl (run_loadVar_row _ _ _ _ _ _ _ (setRow_heap _ _ _ _ _ _ HXE.out) Tryz.underlying87 rfl Tryz.infoStmt10)
    · rw [HR.out]
      exact ⟨fun h => (by cases h), fun _ => ⟨⟨_, _, _, _, _, _, _, rfl⟩, (HH.out.below (below_setRow HX1.out (Nat.le_refl _) _)).bel⟩⟩
  · skip
    obtain ⟨x, y, hx, hy, rfl, rfl, rfl, rfl⟩ : ∃ x y, oa = some x ∧ ob = some y ∧ u = x.var ∧ v = (x.v : Int) ∧ u2 = y.var ∧ v2 = (y.v : Int) := by
      rcases HOKK.out with ⟨-, h2⟩ | ⟨x, y, h1, h1', -, h3, h4, h5, h6⟩
      · cases h2
      · exact ⟨x, y, h1, h1', h3, h4, h5, h6⟩
    subst hx
    subst hy
    by_cases hp : 0 ≤ pc
    · have HR : Hid (res = (4, noS, r)) := by show _ = _; rw [HVA.out]; exact if_pos hp
      have hp2 : ¬ pc < 0 := by omega
      have hd : decide (pc < 0) = false := decide_eq_false hp2
      go_wp2_with (first | (refine at_load 6 ?_; refine wpList_load_stmt (w.heap.size + 1) (sCells 3 0 op x.var x.v y.var y.v) HXS.out rfl rfl ?_) | (refine at_store 4 ?_; refine wpList_store_stmt w.heap.size zeroS (sCells 3 0 op x.var x.v y.var y.v) HXE.out rfl rfl (sCells_one _ _ _ _ _ _ _) rfl rfl ?_))
      refine bodyPost_ret (v := .tuple #[.agg (sCells 3 0 op x.var x.v y.var y.v), .int .i64 4]) ?_ rfl ?_
      · exact results_cell_tmp (p := 4) (q := 5) (ty := 87) Tryz.results24 _ _ ⟨w.heap.size, 0, none⟩ _ rfl (run_loadVar_row _ _ _ _ _ _ _ (setRow_heap _ _ _ _ _ _ HXE.out) Tryz.underlying87 rfl Tryz.infoStmt10)
      · rw [HR.out]
        exact ⟨fun h => (by cases h), fun _ => ⟨⟨_, _, _, _, _, _, _, rfl⟩, (HH.out.below (below_setRow HX1.out (Nat.le_refl _) _)).bel⟩⟩
    · have hp2 : pc < 0 := by omega
      have hd : decide (pc < 0) = true := decide_eq_true hp2
      have HR0 : Hid (res = match r.target n with | none => (5, noS, r) | some (z, r') => (0, ⟨3, z, 0, ⟨op, x, y⟩, [], []⟩, r')) := by show _ = _; rw [HVA.out]; exact if_neg hp
      have HSS : Hid (∀ W : World, W.heap[w.heap.size + 1]? = some (.cells (sCells 3 0 op x.var x.v y.var y.v) 87 (0, 0)) → W.cell? ⟨b, off + 1, none⟩ = some (.string ⟨n.toArray⟩) → W.cell? ⟨w.heap.size + 1, 0, none⟩ = some (.int .i64 3) ∧ W.cell? ⟨w.heap.size + 1, 1, none⟩ = some (.int .i64 0) ∧ W.cell? ⟨w.heap.size + 1, 2, none⟩ = some (.int .i64 0) ∧ W.cell? ⟨w.heap.size + 1, 3, none⟩ = some (.int .i64 op) ∧ W.cell? ⟨w.heap.size + 1, 4, none⟩ = some (.bool x.var) ∧ W.cell? ⟨w.heap.size + 1, 5, none⟩ = some (.int .i64 x.v) ∧ W.cell? ⟨w.heap.size + 1, 6, none⟩ = some (.bool y.var) ∧ W.cell? ⟨w.heap.size + 1, 7, none⟩ = some (.int .i64 y.v) ∧ W.cell? ⟨w.heap.size + 1, 8, none⟩ = some (.slice none 0 0) ∧ W.cell? ⟨w.heap.size + 1, 9, none⟩ = some (.slice none 0 0) ∧ W.cell? ⟨b, off + 1, none⟩ = some (.string ⟨n.toArray⟩)) := fun W h1 h2 => ⟨cell_of_row _ _ 0 _ _ (0, 0) h1, cell_of_row _ _ 1 _ _ (0, 0) h1, cell_of_row _ _ 2 _ _ (0, 0) h1, cell_of_row _ _ 3 _ _ (0, 0) h1, cell_of_row _ _ 4 _ _ (0, 0) h1, cell_of_row _ _ 5 _ _ (0, 0) h1, cell_of_row _ _ 6 _ _ (0, 0) h1, cell_of_row _ _ 7 _ _ (0, 0) h1, cell_of_row _ _ 8 _ _ (0, 0) h1, cell_of_row _ _ 9 _ _ (0, 0) h1, h2⟩
      clear hp
      go_wp2_with fail
      refine wp_region_late (fun W => W.cell? ⟨w.heap.size + 1, 0, none⟩ = some (.int .i64 3) ∧ W.cell? ⟨w.heap.size + 1, 1, none⟩ = some (.int .i64 0) ∧ W.cell? ⟨w.heap.size + 1, 2, none⟩ = some (.int .i64 0) ∧ W.cell? ⟨w.heap.size + 1, 3, none⟩ = some (.int .i64 op) ∧ W.cell? ⟨w.heap.size + 1, 4, none⟩ = some (.bool x.var) ∧ W.cell? ⟨w.heap.size + 1, 5, none⟩ = some (.int .i64 x.v) ∧ W.cell? ⟨w.heap.size + 1, 6, none⟩ = some (.bool y.var) ∧ W.cell? ⟨w.heap.size + 1, 7, none⟩ = some (.int .i64 y.v) ∧ W.cell? ⟨w.heap.size + 1, 8, none⟩ = some (.slice none 0 0) ∧ W.cell? ⟨w.heap.size + 1, 9, none⟩ = some (.slice none 0 0) ∧ W.cell? ⟨b, off + 1, none⟩ = some (.string ⟨n.toArray⟩)) [] [(0, 0), (0, 1), (0, 2), (0, 3), (0, 4), (1, 5), (0, 6), (0, 7), (1, 8), (0, 9)] [] (by kernel_rfl) (by kernel_rfl) rfl [(_, _), (_, _), (_, _), (_, _), (_, _), (_, _), (_, _), (_, _), (_, _), (_, _)] rfl (fun c a d v w h => by cases d <;> exact h) (HSS.out _ HXS.out (HS3.out X HX1.out).2) (fun ops hG => ?_)
      clear hG
      simp only [List.getElem_toArray, List.getElem_cons_succ, List.getElem_cons_zero]
      iterate 5
        refine late_read rfl (fun K hK => ?_)
        apply Exists.intro
        refine ⟨fun w' hw' => ?_, ?_⟩
        · obtain ⟨z0, z1, z2, z3, z4, z5, z6, z7, z8, z9, z10⟩ := hw'
          go_simp
          try with_reducible rfl
        go_simp
        refine hK _ ?_
        clear hK K
      refine late_do ?_
      go_wp2_with fail
      refine (HTG.out X.drew HX1.out.drew x.var x.v y.var y.v).mono ?_
      rintro e W5 ⟨hfr, hg, hbd⟩
      have HFR : Hid _ := hfr
      have hE5 : W5.heap[w.heap.size]? = some (.cells zeroS 87 (0, 0)) := (hfr w.heap.size (by show w.heap.size < X.heap.size; omega) (by omega) (fun hh => by have := HOWN.out 4 (by unfold isRow; omega) _ hh; omega)).trans HXE.out
      have hS5 : W5.heap[w.heap.size + 1]? = some (.cells (sCells 3 0 op x.var x.v y.var y.v) 87 (0, 0)) := (hfr (w.heap.size + 1) (by show w.heap.size + 1 < X.heap.size; omega) (by omega) (fun hh => by have := HOWN.out 4 (by unfold isRow; omega) _ hh; omega)).trans HXS.out
      have hW5 : W5.cell? ⟨b, off + 1, none⟩ = some (.string ⟨n.toArray⟩) := (World.cell?_of_block (a := ⟨b, off + 1, none⟩) (hfr b (by show b < X.heap.size; omega) hbR.1 (hbR.2 4 (by unfold isRow; omega)))).trans (HS3.out X HX1.out).2
      have HE5 : Hid (W5.heap[w.heap.size]? = some (.cells zeroS 87 (0, 0))) := hE5
      have HS5 : Hid (W5.cell? ⟨w.heap.size + 1, 0, none⟩ = some (.int .i64 3) ∧ W5.cell? ⟨w.heap.size + 1, 1, none⟩ = some (.int .i64 0) ∧ W5.cell? ⟨w.heap.size + 1, 2, none⟩ = some (.int .i64 0) ∧ W5.cell? ⟨w.heap.size + 1, 3, none⟩ = some (.int .i64 op) ∧ W5.cell? ⟨w.heap.size + 1, 4, none⟩ = some (.bool x.var) ∧ W5.cell? ⟨w.heap.size + 1, 5, none⟩ = some (.int .i64 x.v) ∧ W5.cell? ⟨w.heap.size + 1, 6, none⟩ = some (.bool y.var) ∧ W5.cell? ⟨w.heap.size + 1, 7, none⟩ = some (.int .i64 y.v) ∧ W5.cell? ⟨w.heap.size + 1, 8, none⟩ = some (.slice none 0 0) ∧ W5.cell? ⟨w.heap.size + 1, 9, none⟩ = some (.slice none 0 0) ∧ W5.cell? ⟨b, off + 1, none⟩ = some (.string ⟨n.toArray⟩)) := HSS.out W5 hS5 hW5
      have HS6 : Hid (∀ c : Array Value, (W5.setRow w.heap.size c).cell? ⟨w.heap.size + 1, 0, none⟩ = some (.int .i64 3) ∧ (W5.setRow w.heap.size c).cell? ⟨w.heap.size + 1, 1, none⟩ = some (.int .i64 0) ∧ (W5.setRow w.heap.size c).cell? ⟨w.heap.size + 1, 2, none⟩ = some (.int .i64 0) ∧ (W5.setRow w.heap.size c).cell? ⟨w.heap.size + 1, 3, none⟩ = some (.int .i64 op) ∧ (W5.setRow w.heap.size c).cell? ⟨w.heap.size + 1, 4, none⟩ = some (.bool x.var) ∧ (W5.setRow w.heap.size c).cell? ⟨w.heap.size + 1, 5, none⟩ = some (.int .i64 x.v) ∧ (W5.setRow w.heap.size c).cell? ⟨w.heap.size + 1, 6, none⟩ = some (.bool y.var) ∧ (W5.setRow w.heap.size c).cell? ⟨w.heap.size + 1, 7, none⟩ = some (.int .i64 y.v) ∧ (W5.setRow w.heap.size c).cell? ⟨w.heap.size + 1, 8, none⟩ = some (.slice none 0 0) ∧ (W5.setRow w.heap.size c).cell? ⟨w.heap.size + 1, 9, none⟩ = some (.slice none 0 0) ∧ (W5.setRow w.heap.size c).cell? ⟨b, off + 1, none⟩ = some (.string ⟨n.toArray⟩)) := fun c => HSS.out _ ((setRow_other W5 w.heap.size (w.heap.size + 1) c (by omega)).trans hS5) ((World.cell?_of_block (a := ⟨b, off + 1, none⟩) (setRow_other W5 w.heap.size b c (by omega))).trans hW5)
      have hlw : lo ≤ w.heap.size := by omega
      clear hE5 hfr hS5 hW5 HSS
      cases htg : r.target n with
      | none =>
        obtain ⟨⟨z, rfl⟩, hbl⟩ := hbd htg
        have HR : Hid (res = (5, noS, r)) := by show _ = _; rw [HR0.out, htg]
        have HBL : Hid (Below lo w0 W5) := hbl
        clear hg hbd hbl htg
        go_wp2_with fail
        refine ⟨HS5.out, ?_⟩
        refine late_read rfl (fun K hK => ?_)
        apply Exists.intro
        refine ⟨fun w' hw' => ?_, ?_⟩
        · clear hw'
          go_simp
          try with_reducible rfl
        go_simp
        refine hK _ ?_
        clear hK K
        refine late_read rfl (fun K hK => ?_)
        apply Exists.intro
        refine ⟨fun w' hw' => ?_, ?_⟩
        · clear hw'
          go_simp
          try with_reducible rfl
        go_simp
        refine hK _ ?_
        clear hK K
        refine late_do ?_
        go_wp2_with (refine at_store 4 ?_; refine wpList_store_stmt w.heap.size zeroS (sCells 3 z op x.var x.v y.var y.v) HE5.out rfl rfl (sCells_one _ _ _ _ _ _ _) rfl rfl ?_)
        refine ⟨HS6.out _, ?_⟩
        refine late_read rfl (fun K hK => ?_)
        apply Exists.intro
        refine ⟨fun w' hw' => ?_, ?_⟩
        · clear hw'
          go_simp
          try with_reducible rfl
        go_simp
        refine hK _ ?_
        clear hK K
        refine late_end ?_
        go_wp2_with fail
        refine bodyPost_ret (v := .tuple #[.agg (sCells 3 z op x.var x.v y.var y.v), .int .i64 5]) ?_ rfl ?_
        · exact results_cell_tmp (p := 4) (q := 5) (ty := 87) Tryz.results24 _ _ ⟨w.heap.size, 0, none⟩ _ rfl (run_loadVar_row _ _ _ _ _ _ _ (setRow_heap _ _ _ _ _ _ HE5.out) Tryz.underlying87 rfl Tryz.infoStmt10)
        · rw [HR.out]
          exact ⟨fun h => (by cases h), fun _ => ⟨⟨_, _, _, _, _, _, _, rfl⟩, below_setRow HBL.out hlw _⟩⟩
      | some yr =>
        obtain ⟨z, r'⟩ := yr
        obtain ⟨rfl, m', hm', hro, hown⟩ := hg z r' htg
        have HR : Hid (res = (0, ⟨3, z, 0, ⟨op, x, y⟩, [], []⟩, r')) := by show _ = _; rw [HR0.out, htg]
        have HM : Hid (RefAt lo base Rb Pb w0 (W5.setRow w.heap.size (sCells 3 z op x.var x.v y.var y.v)) m') := by
          refine hm'.aside (below_setRow hm'.bel hlw _) (by simp only [World.setRow, Array.size_modify]; exact hm'.hba.2.2.2.2.2.1) (fun b hb => setRow_other _ _ _ _ ?_)
          rcases hb with rfl | rfl | ⟨j, hj, hb⟩
          · omega
          · omega
          · rcases hown j hj b hb with h1 | h1
            · have := HOWN.out j hj b h1; omega
            · have : X.heap.size ≤ b := h1
              omega
        have HSTY : Hid (Stays Rb w m (W5.setRow w.heap.size (sCells 3 z op x.var x.v y.var y.v)) m') := fun b hb hne hno => by
          have hx9 := HX1.out.size
          refine ⟨(setRow_other _ _ _ _ (by omega)).trans ((HFR.out b (by show b < X.heap.size; omega) hne (hno 4 (by unfold isRow; omega))).trans (HX1.out.block b hb)), fun j hj hh => ?_⟩
          rcases hown j hj b hh with h1 | h1
          · exact hno j hj h1
          · have : X.heap.size ≤ b := h1
            omega
        have HRO : Hid (RefOf r' fl t m') := hro
        clear hg hbd htg hm' hro hown
        go_wp2_with fail
        refine ⟨HS5.out, ?_⟩
        refine late_read rfl (fun K hK => ?_)
        apply Exists.intro
        refine ⟨fun w' hw' => ?_, ?_⟩
        · clear hw'
          go_simp
          try with_reducible rfl
        go_simp
        refine hK _ ?_
        clear hK K
        refine late_read rfl (fun K hK => ?_)
        apply Exists.intro
        refine ⟨fun w' hw' => ?_, ?_⟩
        · clear hw'
          go_simp
          try with_reducible rfl
        go_simp
        refine hK _ ?_
        clear hK K
        refine late_do ?_
        go_wp2_with (refine at_store 4 ?_; refine wpList_store_stmt w.heap.size zeroS (sCells 3 z op x.var x.v y.var y.v) HE5.out rfl rfl (sCells_one _ _ _ _ _ _ _) rfl rfl ?_)
        refine ⟨HS6.out _, ?_⟩
        refine late_read rfl (fun K hK => ?_)
        apply Exists.intro
        refine ⟨fun w' hw' => ?_, ?_⟩
        · clear hw'
          go_simp
          try with_reducible rfl
        go_simp
        refine hK _ ?_
        clear hK K
        refine late_end ?_
        go_wp2_with fail
        refine bodyPost_ret (v := .tuple #[.agg (sCells 3 z op x.var x.v y.var y.v), .int .i64 0]) ?_ rfl ?_
        · exact results_cell_tmp (p := 4) (q := 5) (ty := 87) Tryz.results24 _ _ ⟨w.heap.size, 0, none⟩ _ rfl (run_loadVar_row _ _ _ _ _ _ _ (setRow_heap _ _ _ _ _ _ HE5.out) Tryz.underlying87 rfl Tryz.infoStmt10)
        · rw [HR.out]
          exact ⟨fun _ => ⟨rfl, m', HM.out, HRO.out, HSTY.out⟩, fun h => absurd rfl h⟩
end
end Go.Proofs.YthfacjlghcdndaaGreatDoor

namespace Go.Proofs.YthfacjlghcdndaaGreatDoor
open Go.RowKit
def stOut (r : Fl.RS) (n a : List UInt8) : Nat × Fl.Stmt × Fl.RS := match r.value [a] with
  | none => (4, noS, r)
  | some e => if Fl.place r.chans n < 0 then (4, noS, r) else (0, ⟨4, (Fl.place r.chans n).toNat, 0, e, [], []⟩, r)
section
variable {lo base Rb Pb : Nat} {w0 w w' : World} {m : RMem} {r : Fl.RS} {fl : List FlS} {t : Nat}
set_option maxRecDepth 100000 in
set_option maxHeartbeats 40000000 in
theorem st_out (h : RefAt lo base Rb Pb w0 w m) (hr : RefOf r fl t m) (b off cap : Nat) (n a : List UInt8) (ha : a.length ≤ 100000) (hb : b < w.heap.size) (hcap : 3 ≤ cap ∧ cap ≤ maxLen) (c0 : w.cell? ⟨b, off, none⟩ = some (.string ⟨#[111, 117, 116]⟩)) (c1 : w.cell? ⟨b, off + 1, none⟩ = some (.string ⟨n.toArray⟩)) (c2 : w.cell? ⟨b, off + 2, none⟩ = some (.string ⟨a.toArray⟩)) :
    Calls Tryz.prog 24 #[.pointer (some ⟨Rb, 0, none⟩), .slice (some ⟨b, off, none⟩) 3 cap] w (StEnds lo base Rb Pb w0 w m fl t (stOut r n a)) := by
  have hba := h.hba
  have hRz : Rb < w.heap.size := by omega
  have HH : Hid (RefAt lo base Rb Pb w0 w m) := h
  have HO : Hid (RefOf r fl t m) := hr
  have HAT : Hid (∀ W, Below w.heap.size w W → Calls Tryz.prog 37 #[.pointer (some ⟨Rb, 0, none⟩), .string ⟨a.toArray⟩] W (AtEnds (r.atom a) W)) := fun W hW => fatom_any (h.below hW) hr a ha
  have HPC : Hid (∀ W, Below w.heap.size w W → Calls Tryz.prog 22 #[m.v 3, .string ⟨n.toArray⟩] W fun e w' => e = .returned (.int .i64 (Fl.place r.chans n)) ∧ w' = W) := fun W hW => place_words ((h.below hW).chans hr) n
  obtain ⟨c3, k3, hv3⟩ := h.shape 3 (by unfold isRow; omega)
  rw [hr.r3.1] at hv3
  rw [hv3] at HPC
  have HS3 : Hid (∀ W, Below w.heap.size w W → W.cell? ⟨Rb, 3, none⟩ = some (.slice c3 r.chans.length k3) ∧ W.cell? ⟨b, off + 1, none⟩ = some (.string ⟨n.toArray⟩)) := fun W hW => ⟨(hW.cell (p := ⟨Rb, 3, none⟩) hRz).trans (by rw [← hv3]; exact h.cR.c 3 (by omega)), (hW.cell (p := ⟨b, off + 1, none⟩) hb).trans c1⟩
  have HC2 : Hid (∀ W, Below w.heap.size w W → W.cell? ⟨b, off + 2, none⟩ = some (.string ⟨a.toArray⟩)) := fun W hW => (hW.cell (p := ⟨b, off + 2, none⟩) hb).trans c2
  have hpc := Fl.place_cases r.chans n
  have hch := hr.ch
  have HVA : Hid (stOut r n a = match r.atom a with | none => (4, noS, r) | some x => if Fl.place r.chans n < 0 then (4, noS, r) else (0, ⟨4, (Fl.place r.chans n).toNat, 0, ⟨-1, x, Fl.no0⟩, [], []⟩, r)) := by
    show _ = _
    have hv : r.value [a] = (r.atom a).map fun x => ⟨-1, x, Fl.no0⟩ := rfl
    unfold stOut
    rw [hv]
    generalize r.atom a = o
    cases o <;> rfl
  obtain ⟨res, hres⟩ : ∃ res, res = stOut r n a := ⟨_, rfl⟩
  rw [← hres] at HVA ⊢
  obtain ⟨oa, hoa⟩ : ∃ oa, oa = r.atom a := ⟨_, rfl⟩
  rw [← hoa] at HAT HVA
  generalize Fl.place r.chans n = pc at *
  have hcapI : (3 : Int) ≤ (cap : Int) := by omega
  have hpc1 : -1 ≤ pc ∧ pc ≤ 3 := by omega
  have HB : Hid (∀ o o', Below w.heap.size w ((w.alloc o).alloc o').drew) := fun o o' => (((Below.refl _ _).alloc (Nat.le_refl _) _).alloc (by simp) _).drew
  clear h hr hres hoa hv3 c1 c2
  go_enter Tryz.func24, Tryz.ntmps24
  go_wp2_with fail
  refine wp_region_late (fun W => Below w.heap.size w W) [] [(0, 0), (0, 1), (0, 2), (0, 3), (0, 4), (0, 5), (0, 6), (1, 7), (0, 8)] [] (by kernel_rfl) (by kernel_rfl) rfl [(_, _), (_, _), (_, _), (_, _), (_, _), (_, _), (_, _), (_, _), (_, _)] rfl (fun c a d v w h => by cases d <;> exact h) (HB.out _ _) (fun ops hG => ?_)
  clear hG
  simp only [List.getElem_toArray, List.getElem_cons_succ, List.getElem_cons_zero]
  iterate 7
    refine late_read rfl (fun K hK => ?_)
    apply Exists.intro
    refine ⟨fun w' hw' => ?_, ?_⟩
    · obtain ⟨x0, x1⟩ := HS3.out w' hw'
      clear hw'
      go_simp
      try with_reducible rfl
    go_simp
    refine hK _ ?_
    clear hK K
  refine late_do ?_
  go_wp2_with fail
  refine (HPC.out _ (HB.out _ _)).mono ?_
  rintro e w1 ⟨rfl, hw1⟩
  rw [hw1]
  clear hw1 w1
  go_wp2_with fail
  refine ⟨HB.out _ _, ?_⟩
  refine late_read rfl (fun K hK => ?_)
  apply Exists.intro
  refine ⟨fun w' hw' => ?_, ?_⟩
  · clear hw'
    go_simp
    try with_reducible rfl
  go_simp
  refine hK _ ?_
  clear hK K
  refine late_end ?_
  have k2 := HC2.out _ (HB.out (.cells zeroS 87) (.cells (sCells 4 0 (-1) false 0 false 0) 87))
  unfold zeroS sCells at k2
  go_wp2_with fail
  refine (HAT.out _ (HB.out _ _)).mono ?_
  rintro e W1 ⟨hb1, hgood, hbad⟩
  have rE : W1.heap[w.heap.size]? = some (.cells zeroS 87 (0, 0)) := by
    rw [hb1.block _ (by simp; omega)]
    show ((w.alloc _).alloc _).heap[w.heap.size]? = _
    rw [Below.heap_alloc _ _ _ (by simp)]; exact heapAt _ _ _ rfl
  have rS : W1.heap[w.heap.size + 1]? = some (.cells (sCells 4 0 (-1) false 0 false 0) 87 (0, 0)) := by
    rw [hb1.block _ (by simp)]
    show ((w.alloc _).alloc _).heap[w.heap.size + 1]? = _
    exact heapAt _ _ _ (by simp)
  have HBW : Hid (Below w.heap.size w W1) := (HB.out _ _).trans (hb1.mono (by simp; omega))
  have hz1 : w.heap.size + 2 ≤ W1.heap.size := by have := hb1.size; simp at this; omega
  have hz2 : w.heap.size + 1 < W1.heap.size := by omega
  have hz3 : w.heap.size < W1.heap.size := by omega
  have s1 : W1.cell? ⟨w.heap.size + 1, 1, none⟩ = some (.int .i64 0) := cell_of_row _ _ 1 _ _ (0, 0) rS
  have s4 : W1.cell? ⟨w.heap.size + 1, 4, none⟩ = some (.bool false) := cell_of_row _ _ 4 _ _ (0, 0) rS
  have s5 : W1.cell? ⟨w.heap.size + 1, 5, none⟩ = some (.int .i64 0) := cell_of_row _ _ 5 _ _ (0, 0) rS
  have RS : Hid (W1.heap[w.heap.size + 1]? = some (.cells (sCells 4 0 (-1) false 0 false 0) 87 (0, 0))) := rS
  have sz : ∀ j, W1.frozen? ⟨w.heap.size + 1, j, none⟩ = false := fun j => by simp [World.frozen?, rS]
  have RE : Hid (W1.heap[w.heap.size]? = some (.cells zeroS 87 (0, 0))) := rE
  clear rE rS hb1 k2
  have HRE : Hid (∀ z u v a, ((((W1.setCell ⟨w.heap.size + 1, 1, none⟩ z).setCell ⟨w.heap.size + 1, 4, none⟩ u).setCell ⟨w.heap.size + 1, 5, none⟩ v).alloc a).heap[w.heap.size]? = some (.cells zeroS 87 (0, 0))) := fun z u v a => by
    rw [Below.heap_alloc _ _ _ (by rw [setCell_size, setCell_size, setCell_size]; exact hz3), setCell_block _ _ _ _ _ (by omega), setCell_block _ _ _ _ _ (by omega), setCell_block _ _ _ _ _ (by omega)]; exact RE.out
  have HRS : Hid (∀ (z : Int) (u : Bool) (v : Int) a, ((((W1.setCell ⟨w.heap.size + 1, 1, none⟩ (.int .i64 z)).setCell ⟨w.heap.size + 1, 4, none⟩ (.bool u)).setCell ⟨w.heap.size + 1, 5, none⟩ (.int .i64 v)).alloc a).heap[w.heap.size + 1]? = some (.cells (sCells 4 z (-1) u v false 0) 87 (0, 0))) := fun z u v a => by
    rw [Below.heap_alloc _ _ _ (by rw [setCell_size, setCell_size, setCell_size]; exact hz2)]
    exact row_set (row_set (row_set RS.out 1 _ _ rfl) 4 _ _ rfl) 5 _ _ rfl
  have HBE : Hid (∀ z u v a c, Below w.heap.size w (((((W1.setCell ⟨w.heap.size + 1, 1, none⟩ z).setCell ⟨w.heap.size + 1, 4, none⟩ u).setCell ⟨w.heap.size + 1, 5, none⟩ v).alloc a).setRow w.heap.size c)) := fun z u v a c => by
    refine below_setRow (((((HBW.out.setCell (by show w.heap.size ≤ w.heap.size + 1; omega) _).setCell (by show w.heap.size ≤ w.heap.size + 1; omega) _)).setCell (by show w.heap.size ≤ w.heap.size + 1; omega) _).alloc (by rw [setCell_size, setCell_size, setCell_size]; omega) _) (Nat.le_refl _) _
  cases oa with
  | none =>
    obtain ⟨v, rfl⟩ := hbad rfl
    have HR : Hid (res = (4, noS, r)) := HVA.out
    clear hgood hbad
    go_wp2_with (first | (refine at_load 6 ?_; refine wpList_load_stmt (w.heap.size + 1) (sCells 4 pc (-1) true v false 0) (HRS.out _ _ _ _) rfl rfl ?_) | (refine at_store 4 ?_; refine wpList_store_stmt w.heap.size zeroS (sCells 4 pc (-1) true v false 0) (HRE.out _ _ _ _) rfl rfl (sCells_one _ _ _ _ _ _ _) rfl rfl ?_))
    refine bodyPost_ret (v := .tuple #[.agg (sCells 4 pc (-1) true v false 0), .int .i64 4]) ?_ rfl ?_
    · exact results_cell_tmp (p := 4) (q := 5) (ty := 87) Tryz.results24 _ _ ⟨w.heap.size, 0, none⟩ _ rfl (run_loadVar_row _ _ _ _ _ _ _ (setRow_heap _ _ _ _ _ _ (HRE.out _ _ _ _)) Tryz.underlying87 rfl Tryz.infoStmt10)
    · rw [HR.out]
      exact ⟨fun h => (by cases h), fun _ => ⟨⟨_, _, _, _, _, _, _, rfl⟩, (HH.out.below (HBE.out _ _ _ _ _)).bel⟩⟩
  | some x =>
    obtain rfl := hgood x rfl
    by_cases hp : pc < 0
    · have HR : Hid (res = (4, noS, r)) := by show _ = _; rw [HVA.out]; exact if_pos hp
      have hp2 : ¬ 0 ≤ pc := by omega
      have hd : decide (0 ≤ pc) = false := decide_eq_false hp2
      clear hgood hbad
      go_wp2_with (first | (refine at_load 6 ?_; refine wpList_load_stmt (w.heap.size + 1) (sCells 4 pc (-1) x.var x.v false 0) (HRS.out _ _ _ _) rfl rfl ?_) | (refine at_store 4 ?_; refine wpList_store_stmt w.heap.size zeroS (sCells 4 pc (-1) x.var x.v false 0) (HRE.out _ _ _ _) rfl rfl (sCells_one _ _ _ _ _ _ _) rfl rfl ?_))
      refine bodyPost_ret (v := .tuple #[.agg (sCells 4 pc (-1) x.var x.v false 0), .int .i64 4]) ?_ rfl ?_
      · exact results_cell_tmp (p := 4) (q := 5) (ty := 87) Tryz.results24 _ _ ⟨w.heap.size, 0, none⟩ _ rfl (run_loadVar_row _ _ _ _ _ _ _ (setRow_heap _ _ _ _ _ _ (HRE.out _ _ _ _)) Tryz.underlying87 rfl Tryz.infoStmt10)
      · rw [HR.out]
        exact ⟨fun h => (by cases h), fun _ => ⟨⟨_, _, _, _, _, _, _, rfl⟩, (HH.out.below (HBE.out _ _ _ _ _)).bel⟩⟩
    · have HR : Hid (res = (0, ⟨4, pc.toNat, 0, ⟨-1, x, Fl.no0⟩, [], []⟩, r)) := by show _ = _; rw [HVA.out]; exact if_neg hp
      have hp2 : 0 ≤ pc := by omega
      have hd : decide (0 ≤ pc) = true := decide_eq_true hp2
      have E1 : Hid (((pc.toNat : Nat) : Int) = pc) := by show _ = _; omega
      clear hgood hbad hp
      go_wp2_with (first | (refine at_load 6 ?_; refine wpList_load_stmt (w.heap.size + 1) (sCells 4 pc (-1) x.var x.v false 0) (HRS.out _ _ _ _) rfl rfl ?_) | (refine at_store 4 ?_; refine wpList_store_stmt w.heap.size zeroS (sCells 4 pc (-1) x.var x.v false 0) (HRE.out _ _ _ _) rfl rfl (sCells_one _ _ _ _ _ _ _) rfl rfl ?_))
      refine bodyPost_ret (v := .tuple #[.agg (sCells 4 pc (-1) x.var x.v false 0), .int .i64 0]) ?_ rfl ?_
      · exact results_cell_tmp (p := 4) (q := 5) (ty := 87) Tryz.results24 _ _ ⟨w.heap.size, 0, none⟩ _ rfl (run_loadVar_row _ _ _ _ _ _ _ (setRow_heap _ _ _ _ _ _ (HRE.out _ _ _ _)) Tryz.underlying87 rfl Tryz.infoStmt10)
      · rw [HR.out]
        exact ⟨fun _ => ⟨by simp only [E1.out]; rfl, m, HH.out.below (HBE.out _ _ _ _ _), HO.out, Stays.below (HBE.out _ _ _ _ _)⟩, fun h => absurd rfl h⟩
end
end Go.Proofs.YthfacjlghcdndaaGreatDoor
