/- Texts Rec Rgc Rgd Rla. -/
import Derived.Test.YthfacjlghcdndaaGreatDoorM23
import Derived.Laws.CopyOwn
set_option linter.unusedSimpArgs false
set_option linter.unusedVariables false
namespace Go.Proofs.YthfacjlghcdndaaGreatDoor
open Go.RowKit
theorem RefAt.aside {lo base Rb Pb : Nat} {w0 w w' : World} {m : RMem} (h : RefAt lo base Rb Pb w0 w m) (hbel : Below lo w0 w') (hz : base ≤ w'.heap.size) (hk : ∀ b, b = Rb ∨ b = Pb ∨ (∃ j, isRow j ∧ (m.v j).ownBlock = some b) → w'.heap[b]? = w.heap[b]?) : RefAt lo base Rb Pb w0 w' m := by
  obtain ⟨b1, b2, b3, b4, b5, b6, b7⟩ := h.hba
  exact { bel := hbel, hba := ⟨b1, b2, b3, b4, b5, hz, b7⟩, cR := h.cR.block (hk _ (.inl rfl)), cP := h.cP.block (hk _ (.inr (.inl rfl))), own := fun j hj => own_same (h.own j hj) (fun b hb => hk b (.inr (.inr ⟨j, hj, hb⟩))), dis := h.dis }
def sCells (k x : Int) (op : Int) (av : Bool) (an : Int) (bv : Bool) (bn : Int) : Array Value := #[.int .i64 k, .int .i64 x, .int .i64 0, .int .i64 op, .bool av, .int .i64 an, .bool bv, .int .i64 bn, .slice none 0 0, .slice none 0 0]
section
variable {lo base Rb Pb : Nat} {w0 w w' : World} {m : RMem} {r : Fl.RS} {fl : List FlS} {t : Nat}
theorem RefOf.addLocal (h : RefOf r fl t m) (x : List UInt8) (v : Value) (hx : x.length ≤ 100000) (hl : r.locals.length < 4) : RefOf { r with locals := r.locals ++ [x] } fl t (m.app 4 v [strV x]) :=
  { r1 := h.r1, r2 := h.r2, r3 := h.r3, r4 := ⟨by show m.n 4 + 1 = _; rw [h.r4.1]; simp, by show m.xs 4 ++ _ = _; rw [h.r4.2]; simp⟩, r5 := h.r5, r6 := h.r6, r8 := h.r8, r10 := h.r10, r12 := h.r12, r13 := h.r13, bg := h.bg, st := h.st,
    nm := fun y hy => by
      simp only [List.mem_append, List.mem_singleton] at hy
      rcases hy with h1 | h1 | h1 | h1 | rfl
      · exact h.nm y (by simp [h1])
      · exact h.nm y (by simp [h1])
      · exact h.nm y (by simp [h1])
      · exact h.nm y (by simp [h1])
      · exact hx
    lv := h.lv, ce := h.ce, ch := h.ch, lo := by simp; omega, sm := h.sm, fr := h.fr, lw := h.lw, ft := h.ft, pr := h.pr, bw := h.bw, cl := h.cl, hl := h.hl }
theorem str_cell_at {w : World} {e : TypeId} {x : Value} {N : Nat} (hN : w.heap.size = N) : ∀ j u, [x][j]? = some u → (w.alloc (.cells #[x] e)).cell? ((⟨N, 0, none⟩ : Addr).add j) = some u := by subst hN; exact str_cell_new
theorem results_cell_tmp {P : Program} {fn : Func} {p q : Tmp} {ty : TypeId} (h : fn.results = #[.cell p ty, .tmp q]) (tmps : Array Value) (w : World) (ad : Addr) (v : Value) (ha : tmps.getD p undef = .pointer (some ad)) (hl : (loadVar ty ad).run P w = .ok v w) :
    (results fn tmps).run P w = .ok (.tuple #[v, tmps.getD q undef]) w := by
  have ha' : tmps[p]?.getD undef = .pointer (some ad) := by rw [← ha, Array.getD_eq_getD_getElem?]
  simp only [results, h]
  simp [Sem.run_bind, Result.andThen, ha', asAddr, hl]
theorem Tryz.infoStmt10 : (Tryz.prog.info? 87).map (·.size) = some 10 := by kernel_rfl
theorem heapAt (u : World) (o : Obj) (k : Nat) (hk : u.heap.size = k) : (u.alloc o).heap[k]? = some o := by subst hk; exact heap_alloc_last u o
def zeroS : Array Value := #[.int .i64 0, .int .i64 0, .int .i64 0, .int .i64 0, .bool false, .int .i64 0, .bool false, .int .i64 0, .slice none 0 0, .slice none 0 0]
def TgEnds (lo base Rb Pb : Nat) (w0 : World) (fl : List FlS) (t : Nat) (res : Option (Nat × Fl.RS)) (op : Int) (av : Bool) (an : Int) (bv : Bool) (bn : Int) (e : Ending) (w' : World) : Prop :=
  (∀ x r', res = some (x, r') → e = .returned (.tuple #[.agg (sCells 3 x op av an bv bn), .int .i64 0]) ∧ ∃ m', RefAt lo base Rb Pb w0 w' m' ∧ RefOf r' fl t m') ∧ (res = none → (∃ x : Int, e = .returned (.tuple #[.agg (sCells 3 x op av an bv bn), .int .i64 5])) ∧ Below lo w0 w')
set_option maxRecDepth 100000 in
set_option maxHeartbeats 4000000 in
theorem target_any (h : RefAt lo base Rb Pb w0 w m) (hr : RefOf r fl t m) (x : List UInt8) (hx : x.length ≤ 100000) (op : Int) (av : Bool) (an : Int) (bv : Bool) (bn : Int) :
    Calls Tryz.prog 38 #[.pointer (some ⟨Rb, 0, none⟩), .agg #[.int .i64 3, .int .i64 0, .int .i64 0, .int .i64 op, .bool av, .int .i64 an, .bool bv, .int .i64 bn, .slice none 0 0, .slice none 0 0], .string ⟨x.toArray⟩] w (TgEnds lo base Rb Pb w0 fl t (r.target x) op av an bv bn) := by
  have hba := h.hba
  have hRz : Rb < w.heap.size := by omega
  have HPC : Hid (∀ W, Below w.heap.size w W → Calls Tryz.prog 22 #[m.v 2, .string ⟨x.toArray⟩] W fun e w' => e = .returned (.int .i64 (Fl.place r.cells x)) ∧ w' = W) := fun W hW => place_words ((h.below hW).cells hr) x
  have HPL : Hid (∀ W, Below w.heap.size w W → Calls Tryz.prog 22 #[m.v 4, .string ⟨x.toArray⟩] W fun e w' => e = .returned (.int .i64 (Fl.place r.locals x)) ∧ w' = W) := fun W hW => place_words ((h.below hW).locals hr) x
  obtain ⟨c2, k2, hv2⟩ := h.shape 2 (by unfold isRow; omega)
  obtain ⟨c4, k4, hv4⟩ := h.shape 4 (by unfold isRow; omega)
  rw [hr.r2.1] at hv2
  rw [hr.r4.1] at hv4
  have HV4 : Hid (m.v 4 = .slice c4 r.locals.length k4) := hv4
  rw [hv2] at HPC
  rw [hv4] at HPL
  have HH : Hid (RefAt lo base Rb Pb w0 w m) := h
  have HO : Hid (RefOf r fl t m) := hr
  have Q2 : Hid (∀ W, Below w.heap.size w W → W.cell? ⟨Rb, 2, none⟩ = some (.slice c2 r.cells.length k2)) := fun W hW => (hW.cell (p := ⟨Rb, 2, none⟩) hRz).trans (by rw [← hv2]; exact h.cR.c 2 (by omega))
  have Q4 : Hid (∀ W, Below w.heap.size w W → W.cell? ⟨Rb, 4, none⟩ = some (.slice c4 r.locals.length k4)) := fun W hW => (hW.cell (p := ⟨Rb, 4, none⟩) hRz).trans (by rw [← hv4]; exact h.cR.c 4 (by omega))
  have HB : Hid (∀ o o', Below w.heap.size w ((w.alloc o).alloc o')) := fun o o' => ((Below.refl _ _).alloc (Nat.le_refl _) _).alloc (by simp) _
  have q2 : ∀ o o', ((w.alloc o).alloc o').cell? ⟨Rb, 2, none⟩ = some (.slice c2 r.cells.length k2) := fun o o' => Q2.out _ (HB.out _ _)
  have q4 : ∀ o o', ((w.alloc o).alloc o').cell? ⟨Rb, 4, none⟩ = some (.slice c4 r.locals.length k4) := fun o o' => Q4.out _ (HB.out _ _)
  have HTG : Hid (r.target x = if 0 ≤ Fl.place r.cells x then some ((Fl.place r.cells x).toNat, r) else if 0 ≤ Fl.place r.locals x then some (r.cells.length + (Fl.place r.locals x).toNat, r) else if r.locals.length = 4 then none else some (r.cells.length + r.locals.length, { r with locals := r.locals ++ [x] })) := rfl
  obtain ⟨res, hres⟩ : ∃ res, res = r.target x := ⟨_, rfl⟩
  rw [← hres] at HTG ⊢
  have hcc := Fl.place_cases r.cells x
  have hlc := Fl.place_cases r.locals x
  have hce := hr.ce
  have hlo := hr.lo
  generalize Fl.place r.cells x = pc at *
  generalize Fl.place r.locals x = pl at *
  have hnc6 : (r.cells.length : Int) ≤ 6 := by omega
  have hnl4 : (r.locals.length : Int) ≤ 4 := by omega
  have hpc1 : -1 ≤ pc ∧ pc ≤ 6 := by omega
  have hpl1 : -1 ≤ pl ∧ pl ≤ 4 := by omega
  clear h hr hres hv2 hv4
  go_enter Tryz.func38, Tryz.ntmps38
  go_wp2_with fail
  refine (HPC.out _ (HB.out _ _)).mono ?_
  rintro e w1 ⟨rfl, hw1⟩
  rw [hw1]
  clear hw1 w1
  by_cases hp : 0 ≤ pc
  · have HR : Hid (res = some (pc.toNat, r)) := by show _ = _; rw [HTG.out, if_pos hp]
    have E1 : Hid (((pc.toNat : Nat) : Int) = pc) := by show _ = _; omega
    go_wp2
    refine bodyPost_ret (v := .tuple #[.agg (sCells 3 pc op av an bv bn), .int .i64 0]) (by simp [results, Tryz.results38, go_sem, sCells]) rfl ?_
    rw [HR.out]
    refine ⟨fun y r' hy => ?_, fun h => by cases h⟩
    simp only [Option.some.injEq, Prod.mk.injEq] at hy
    obtain ⟨rfl, rfl⟩ := hy
    exact ⟨by rw [E1.out], m, HH.out.below (HB.out _ _), HO.out⟩
  · have hp2 : pc < 0 := by omega
    clear hp
    go_wp2_with fail
    refine (HPL.out _ (HB.out _ _)).mono ?_
    rintro e w1 ⟨rfl, hw1⟩
    rw [hw1]
    clear hw1 w1
    by_cases hl : 0 ≤ pl
    · have HR : Hid (res = some (r.cells.length + pl.toNat, r)) := by show _ = _; rw [HTG.out, if_neg (show ¬ 0 ≤ pc by omega), if_pos hl]
      have E1 : Hid (((r.cells.length + pl.toNat : Nat) : Int) = (r.cells.length : Int) + pl) := by show _ = _; omega
      go_wp2
      refine bodyPost_ret (v := .tuple #[.agg (sCells 3 ((r.cells.length : Int) + pl) op av an bv bn), .int .i64 0]) (by simp [results, Tryz.results38, go_sem, sCells]) rfl ?_
      rw [HR.out]
      refine ⟨fun y r' hy => ?_, fun h => by cases h⟩
      simp only [Option.some.injEq, Prod.mk.injEq] at hy
      obtain ⟨rfl, rfl⟩ := hy
      exact ⟨by rw [E1.out], m, HH.out.below (HB.out _ _), HO.out⟩
    · have hl2 : pl < 0 := by omega
      clear hl
      by_cases h4 : r.locals.length = 4
      · have b4 : ((r.locals.length : Int) == 4) = true := by simp [h4]
        have HR : Hid (res = none) := by show _ = _; rw [HTG.out, if_neg (show ¬ 0 ≤ pc by omega), if_neg (show ¬ 0 ≤ pl by omega), if_pos h4]
        clear h4
        go_wp2
        refine bodyPost_ret (v := .tuple #[.agg (sCells 3 pc op av an bv bn), .int .i64 5]) (by simp [results, Tryz.results38, go_sem, sCells]) rfl ?_
        rw [HR.out]
        exact ⟨fun y r' hy => (by cases hy), fun _ => ⟨⟨_, rfl⟩, HH.out.bel.trans ((HB.out _ _).mono (by omega))⟩⟩
      · have b4 : ((r.locals.length : Int) == 4) = false := by simp; omega
        have HR : Hid (res = some (r.cells.length + r.locals.length, { r with locals := r.locals ++ [x] })) := by show _ = _; rw [HTG.out, if_neg (show ¬ 0 ≤ pc by omega), if_neg (show ¬ 0 ≤ pl by omega), if_neg h4]
        have hl4 : r.locals.length < 4 := by omega
        clear h4
        obtain ⟨i0, hi0, hz0, hzs, hzb⟩ := info_parts Tryz.infoStr
        have HOW : Hid (∀ W, Below w.heap.size w W → W.ownsRow base 9 1 (.slice c4 r.locals.length k4) r.locals.length (r.locals.map strV)) := fun W hW => by
          have h1 := (HH.out.below hW).own 4 (by unfold isRow; omega)
          rw [HO.out.r4.1, HO.out.r4.2, HV4.out] at h1
          exact h1
        have hB3 : ∀ o o' o'', Below w.heap.size w (((w.alloc o).alloc o').alloc o'') := fun o o' o'' => (HB.out _ _).alloc (by simp; omega) _
        have HB3 : Hid (∀ o o' o'', Below w.heap.size w (((w.alloc o).alloc o').alloc o'')) := hB3
        clear hB3
        go_wp2_with (at_builtin; refine wpList_append_at _ rfl (.tmp 40) (.tmp 42) 48 rfl base 9 i0 (.string ⟨#[]⟩) 1 16 Tryz.underlying48 hi0 hz0 hzs hzb rfl (by decide) _ _ _ rfl (HOW.out _ (HB3.out _ _ _)) ⟨w.heap.size + 1 + 1, 0, none⟩ 1 1 [strV x] rfl rfl (by decide) (str_cell_at (by simp)) ?c2 ?c3 ?c4 ?c5 ?_)
        case c2 => intro u hu; simp at hu; subst hu; rfl
        case c3 => unfold maxLen; omega
        case c4 => omega
        case c5 => simp; omega
        intro v' W4 hown4 hg4 hwh4
        have hlt4 : ∀ k, (Value.slice c4 r.locals.length k4).ownBlock = some k → k < w.heap.size := fun k hk => ((HOW.out w (Below.refl _ _)).lt k hk).2
        have HADD : Hid (RefAt lo base Rb Pb w0 (W4.setCell ⟨Rb, 4, none⟩ v') (m.app 4 v' [strV x])) := by
          refine HH.out.appR 4 (by unfold isRow; omega) (by omega) (HB3.out _ _ _) ?_ (by rw [HV4.out]; exact hg4) (by rw [HV4.out]; rcases hwh4 with h1 | h1; exact .inl h1; exact .inr (by rw [h1]; simp))
          rw [HO.out.r4.1, HO.out.r4.2]; exact hown4
        have HRO : Hid (RefOf { r with locals := r.locals ++ [x] } fl t (m.app 4 v' [strV x])) := HO.out.addLocal x v' hx hl4
        obtain ⟨va', vcap, rfl⟩ : ∃ va vcap, v' = .slice va (r.locals.length + 1) vcap := by
          rcases hown4.2 with ⟨h1, h2⟩ | ⟨g, cp, cur, h1, _⟩
          · omega
          · exact ⟨_, cp, h1⟩
        have q4 : ∀ b, b < w.heap.size + 2 → (Value.slice c4 r.locals.length k4).ownBlock ≠ some b → W4.heap[b]? = _ := fun b hb hne => hg4.block b (by simp; omega) (Ne.symm hne)
        have hsE : ∀ b, w.heap.size ≤ b → (Value.slice c4 r.locals.length k4).ownBlock ≠ some b := fun b hb hh => by have := hlt4 b hh; omega
        have rS : W4.heap[w.heap.size]? = some (.cells #[.int .i64 3, .int .i64 pc, .int .i64 0, .int .i64 op, .bool av, .int .i64 an, .bool bv, .int .i64 bn, .slice none 0 0, .slice none 0 0] 87 (0, 0)) := by
          rw [q4 _ (by omega) (hsE _ (Nat.le_refl _)), Below.heap_alloc _ _ _ (by simp; omega), Below.heap_alloc _ _ _ (by simp)]; exact heap_alloc_last _ _
        have rE : W4.heap[w.heap.size + 1]? = some (.cells zeroS 87 (0, 0)) := by
          rw [q4 _ (by omega) (hsE _ (by omega)), Below.heap_alloc _ _ _ (by simp)]
          exact heapAt _ _ _ (by simp)
        have z4 : W4.cell? ⟨Rb, 4, none⟩ = some (.slice c4 r.locals.length k4) := by
          have h1 := HADD.out.cR
          have h2 := (HH.out.own 4 (by unfold isRow; omega)).lt
          refine (World.cell?_of_block (a := ⟨Rb, 4, none⟩) (q4 Rb (by omega) (fun hh => by have := ((HOW.out w (Below.refl _ _)).lt Rb hh).1; omega))).trans ?_
          exact Q4.out _ (HB3.out _ _ _)
        have fz : ∀ j, W4.frozen? ⟨Rb, j, none⟩ = false := fun j => by
          have := HADD.out.cR.z j
          rw [World.frozen?_setCell] at this; exact this
        have s0 : W4.cell? ⟨w.heap.size, 0, none⟩ = some (.int .i64 3) := cell_of_row _ _ 0 _ _ (0, 0) rS
        have s1 : W4.cell? ⟨w.heap.size, 1, none⟩ = some (.int .i64 pc) := cell_of_row _ _ 1 _ _ (0, 0) rS
        have s2 : W4.cell? ⟨w.heap.size, 2, none⟩ = some (.int .i64 0) := cell_of_row _ _ 2 _ _ (0, 0) rS
        have s3 : W4.cell? ⟨w.heap.size, 3, none⟩ = some (.int .i64 op) := cell_of_row _ _ 3 _ _ (0, 0) rS
        have s4 : W4.cell? ⟨w.heap.size, 4, none⟩ = some (.bool av) := cell_of_row _ _ 4 _ _ (0, 0) rS
        have s5 : W4.cell? ⟨w.heap.size, 5, none⟩ = some (.int .i64 an) := cell_of_row _ _ 5 _ _ (0, 0) rS
        have s6 : W4.cell? ⟨w.heap.size, 6, none⟩ = some (.bool bv) := cell_of_row _ _ 6 _ _ (0, 0) rS
        have s7 : W4.cell? ⟨w.heap.size, 7, none⟩ = some (.int .i64 bn) := cell_of_row _ _ 7 _ _ (0, 0) rS
        have s8 : W4.cell? ⟨w.heap.size, 8, none⟩ = some (.slice none 0 0) := cell_of_row _ _ 8 _ _ (0, 0) rS
        have s9 : W4.cell? ⟨w.heap.size, 9, none⟩ = some (.slice none 0 0) := cell_of_row _ _ 9 _ _ (0, 0) rS
        have sz : ∀ j, W4.frozen? ⟨w.heap.size, j, none⟩ = false := fun j => by simp [World.frozen?, rS]
        have hne : w.heap.size ≠ Rb := by omega
        have c24 : W4.cell? ⟨Rb, 2, none⟩ = some (.slice c2 r.cells.length k2) := by
          have h1 := HADD.out.cR.c 2 (by omega)
          have h2 := Q2.out w (Below.refl _ _)
          rw [HH.out.cR.c 2 (by omega)] at h2
          have h4 : (W4.setCell ⟨Rb, 4, none⟩ (.slice va' (r.locals.length + 1) vcap)).cell? ⟨Rb, 2, none⟩ = W4.cell? ⟨Rb, 2, none⟩ := World.cell?_setCell_other _ _ _ _ (by simp)
          rw [← h4, h1]; exact h2
        have HRE : Hid (∀ v, ((W4.setCell ⟨Rb, 4, none⟩ (.slice va' (r.locals.length + 1) vcap)).setCell ⟨w.heap.size, 1, none⟩ v).heap[w.heap.size + 1]? = some (.cells zeroS 87 (0, 0))) := fun v => (setCell_block _ _ _ _ _ (by omega)).trans ((setCell_block _ _ _ _ _ (by omega)).trans rE)
        have HZ4 : Hid (w.heap.size + 2 ≤ W4.heap.size) := by
          show _ ≤ _
          have := hg4.size; simp at this; omega
        have HOB : Hid (∀ j, isRow j → ∀ b, ((m.app 4 (.slice va' (r.locals.length + 1) vcap) [strV x]).v j).ownBlock = some b → b ≠ w.heap.size ∧ b ≠ w.heap.size + 1) := fun j hj b hb => by
          have hv : (m.app 4 (.slice va' (r.locals.length + 1) vcap) [strV x]).v j = if j = 4 then .slice va' (r.locals.length + 1) vcap else m.v j := rfl
          rw [hv] at hb
          by_cases h4 : j = 4
          · rw [if_pos h4] at hb
            rcases hwh4 with h1 | h1
            · rw [h1] at hb; have := hlt4 b hb; omega
            · rw [h1] at hb; simp only [Option.some.injEq] at hb; omega
          · rw [if_neg h4] at hb; have := ((HH.out.own j hj).lt b hb).2; omega
        clear hown4 hg4 hwh4 q4 hsE rS rE hlt4 HOW
        go_wp2_with (refine wpList_store_row rfl (.tmp 6) (.tmp 54) 87 rfl (w.heap.size + 1) rfl zeroS (sCells 3 ((r.cells.length : Int) + (r.locals.length : Int)) op av an bv bn) rfl 87 (HRE.out _) Tryz.infoStmt10 rfl (by simp [sCells, Value.oneCell']) ?_)
        refine bodyPost_ret (v := .tuple #[.agg (sCells 3 ((r.cells.length : Int) + (r.locals.length : Int)) op av an bv bn), .int .i64 0]) ?_ rfl ?_
        · exact results_cell_tmp (p := 6) (q := 7) (ty := 87) Tryz.results38 _ _ ⟨w.heap.size + 1, 0, none⟩ _ rfl (run_loadVar_row _ _ _ _ _ _ _ (setRow_heap _ _ _ _ _ _ (HRE.out _)) Tryz.underlying87 rfl Tryz.infoStmt10)
        · rw [HR.out]
          refine ⟨fun y r' hy => ?_, fun h => by cases h⟩
          simp only [Option.some.injEq, Prod.mk.injEq] at hy
          obtain ⟨rfl, rfl⟩ := hy
          refine ⟨by push_cast; rfl, _, ?_, HRO.out⟩
          have hz := HZ4.out
          refine HADD.out.aside ?_ ?_ (fun b hb => ?_)
          · exact below_setRow (HADD.out.bel.setCell (show lo ≤ w.heap.size by omega) _) (by omega) _
          · simp only [World.setRow, Array.size_modify, setCell_size]; omega
          · have hne2 : b ≠ w.heap.size ∧ b ≠ w.heap.size + 1 := by
              rcases hb with rfl | rfl | ⟨j, hj, hb⟩
              · omega
              · omega
              · exact HOB.out j hj b hb
            rw [setRow_other _ _ _ _ hne2.2, setCell_block _ _ _ _ _ hne2.1]
end
end Go.Proofs.YthfacjlghcdndaaGreatDoor

namespace Go.Proofs.YthfacjlghcdndaaGreatDoor
open Go.RowKit
def BdEnds (d : Nat) (w : World) (k : Nat) (l : List Fl.Stmt) (e : Ending) (w' : World) : Prop :=
  Below w.heap.size w w' ∧ ∃ oa on oc, e = .returned (.tuple #[.slice oa on oc, .int .i64 k]) ∧ RStmts d (fun b => w.heap.size ≤ b ∧ b < w'.heap.size) w' (.slice oa on oc) l
def BodyOk (d : Nat) (FL : List FlS) (v : Value) : Prop :=
  ∀ (w : World) (i : Nat) (fl : List FlS) (l : List Fl.Stmt) (rest : List FlS), FlAt w v FL → i ≤ FL.length → FL.drop i = fl ++ rest → FlatL d fl l → Stop rest → Calls Tryz.prog 14 #[v, .int .i64 i] w (BdEnds d w (i + fl.length) l)
theorem drop_head {FL : List FlS} {i : Nat} {f : FlS} {r : List FlS} (h : FL.drop i = f :: r) : i < FL.length ∧ FL.getD i fEnd = f ∧ FL.drop (i + 1) = r := by
  have hi : i < FL.length := Classical.byContradiction fun hn => by rw [List.drop_of_length_le (by omega)] at h; cases h
  rw [List.drop_eq_getElem_cons hi] at h
  injection h with h1 h2
  exact ⟨hi, by rw [List.getD_eq_getElem?_getD, List.getElem?_eq_getElem hi]; exact h1, h2⟩
theorem drop_more {FL : List FlS} {i : Nat} {a b : List FlS} (h : FL.drop i = a ++ b) (hi : i ≤ FL.length) : FL.drop (i + a.length) = b ∧ i + a.length ≤ FL.length := by
  have h1 : (FL.drop i).length = FL.length - i := by simp
  have h2 : FL.drop (i + a.length) = (FL.drop i).drop a.length := by rw [List.drop_drop]
  rw [h] at h1 h2
  simp only [List.length_append] at h1
  exact ⟨by rw [h2]; simp, by omega⟩
theorem FlAt.line {w : World} {FL : List FlS} {Fb fc : Nat} {n : Nat} (h : FlAt w (.slice (some ⟨Fb, 0, none⟩) n fc) FL) (i : Nat) (hi : i < FL.length) : ∀ j, j < 10 → w.cell? ⟨Fb, i * 10 + j, none⟩ = some ((fsCells (FL.getD i fEnd)).getD j undef) := by
  obtain ⟨fa, c, h1, h2, h3, h4, h5⟩ := h
  obtain ⟨b, e, hz, hc⟩ := h5 (by rintro rfl; simp at hi)
  simp only [Value.slice.injEq] at h1
  obtain ⟨h6, -, -⟩ := h1
  rw [e] at h6
  simp only [Option.some.injEq, Addr.mk.injEq] at h6
  rw [h6.1]
  exact hc i hi
set_option maxRecDepth 100000 in
set_option maxHeartbeats 4000000 in
theorem body_zero (FL : List FlS) (v : Value) : BodyOk 0 FL v := by
  intro w i fl l rest hF hi hd hl hs
  obtain ⟨rfl, rfl⟩ := hl
  simp only [List.nil_append] at hd
  have HEND : Hid (BdEnds 0 w (i + ([] : List FlS).length) [] (.returned (.tuple #[.slice none 0 0, .int .i64 i])) w) := ⟨Below.refl _ _, none, 0, 0, rfl, rfl, rfl⟩
  obtain ⟨fa, fc, rfl, h2, h3, h4, h5⟩ := id hF
  have hiI : (i : Int) ≤ (FL.length : Int) := by omega
  have hlI : (FL.length : Int) ≤ 100000 := by omega
  rcases hs with rfl | ⟨f, r, rfl, hf⟩
  · have hn : ¬ (i : Int) < (FL.length : Int) := by
      intro hh
      have : i < FL.length := by omega
      rw [List.drop_eq_getElem_cons this] at hd; cases hd
    clear hF h2 h3 h4 h5 hd
    go_enter Tryz.func14, Tryz.ntmps14
    go_wp2_with fail
    go_loopw [1, 6] (fun iv ov wr => iv = .int .i64 i ∧ ov = .slice none 0 0 ∧ wr = w) (fun _ _ _ => 0)
    case atStart => exact ⟨rfl, rfl, rfl⟩
    case round =>
      obtain ⟨rfl, rfl, hwr⟩ := hrel
      rw [hwr]
      clear hwr
      go_wp2
      go_ret2
      exact HEND.out
  · obtain ⟨g1, g2, g3⟩ := drop_head hd
    obtain ⟨Fb, rfl, hz, hc⟩ := h5 (by rintro rfl; simp at g1)
    have c0 := hc i g1 0 (by omega)
    rw [g2, Nat.add_zero] at c0
    obtain ⟨kk, hkk⟩ : ∃ kk : Int, (fsCells f).getD 0 undef = .int .i64 kk ∧ kk < 0 := by
      unfold fsCells
      rw [if_neg hf]
      refine ⟨_, rfl, ?_⟩
      split <;> decide
    rw [hkk.1] at c0
    have hk0 : ¬ 0 ≤ kk := by omega
    have hn : (i : Int) < (FL.length : Int) := by omega
    clear hF h2 h3 h4 h5 hd hc hkk g2 g3
    go_enter Tryz.func14, Tryz.ntmps14
    go_wp2_with fail
    go_loopw [1, 6] (fun iv ov wr => iv = .int .i64 i ∧ ov = .slice none 0 0 ∧ wr = w) (fun _ _ _ => 0)
    case atStart => exact ⟨rfl, rfl, rfl⟩
    case round =>
      obtain ⟨rfl, rfl, hwr⟩ := hrel
      rw [hwr]
      clear hwr
      go_wp2
      go_ret2
      exact HEND.out
end Go.Proofs.YthfacjlghcdndaaGreatDoor

namespace Go.Proofs.YthfacjlghcdndaaGreatDoor
open Go.RowKit
theorem RStmts.nil (d : Nat) (S : Nat → Prop) (w : World) : RStmts d S w (.slice none 0 0) [] := by
  cases d with
  | zero => exact ⟨rfl, rfl⟩
  | succ d => exact ⟨none, 0, rfl, by simp, by simp [maxLen], by simp, fun h => absurd rfl h⟩
theorem Tryz.infoStmtP : (Tryz.prog.info? 87).map (fun i => (i.zero, i.size, i.bytes)) = some (some (.agg zeroS), 10, 112) := by kernel_rfl
theorem cells_new {w : World} {e : TypeId} {l : List Value} {N : Nat} (hN : w.heap.size = N) : ∀ j u, l[j]? = some u → (w.alloc (.cells l.toArray e)).cell? ((⟨N, 0, none⟩ : Addr).add j) = some u := by
  intro j u hj
  subst hN
  have h2 : (⟨w.heap.size, 0, none⟩ : Addr).add j = ⟨w.heap.size, j, none⟩ := by unfold Addr.add; split <;> simp_all
  rw [h2, World.cell?_alloc_new]; simpa using hj
theorem FlatS.head {K : List FlS → List Fl.Stmt → Prop} {p : List FlS} {s : Fl.Stmt} (h : FlatS K p s) : ∃ t, p = fHead s :: t := by
  rcases h with ⟨_, _, _, rfl⟩ | ⟨_, f1, _, ⟨_, rfl⟩ | ⟨f2, _, rfl⟩⟩
  · exact ⟨_, rfl⟩
  · exact ⟨_, rfl⟩
  · exact ⟨_, rfl⟩
theorem fHead_cells (s : Fl.Stmt) : fsCells (fHead s) = stCells s (.slice none 0 0) (.slice none 0 0) := rfl
structure BdRel (d : Nat) (FL : List FlS) (w : World) (i : Nat) (fl : List FlS) (l : List Fl.Stmt) (rest : List FlS) (k : Nat) (ov : Value) (wr : World) (ds : List (Fl.Stmt × Value × Value)) (fl2 : List FlS) (l2 : List Fl.Stmt) : Prop where
  hk : k ≤ FL.length
  hd : FL.drop k = fl2 ++ rest
  fc : FlatCat (FlatS (FlatL d)) fl2 l2
  hl : l = ds.map (·.1) ++ l2
  st : BdSt d w.heap.size wr ds ov
  be : Below w.heap.size w wr
  le : k + fl2.length = i + fl.length
theorem BdRel.ends {d : Nat} {FL : List FlS} {w : World} {i : Nat} {fl : List FlS} {l : List Fl.Stmt} {rest : List FlS} {k : Nat} {oa : Option Addr} {on oc : Nat} {wr : World} {ds : List (Fl.Stmt × Value × Value)} {fl2 : List FlS} (h : BdRel d FL w i fl l rest k (.slice oa on oc) wr ds fl2 []) (h16 : cnt FL ≤ 16) (hfl : FlatL (d + 1) fl l) (hdr : ∃ a b, FL = a ++ fl ++ b) : BdEnds (d + 1) w (i + fl.length) l (.returned (.tuple #[.slice oa on oc, .int .i64 k])) wr := by
  have h0 : fl2 = [] := h.fc
  have hk : k = i + fl.length := by have := h.le; rw [h0] at this; simpa using this
  have hl : l = ds.map (·.1) := by have := h.hl; simpa using this
  refine ⟨h.be, oa, on, oc, by rw [hk], ?_⟩
  rw [hl]
  refine h.st.closed ?_
  have h1 := FlatL.cnt hfl
  obtain ⟨a, b, hab⟩ := hdr
  rw [hab, cnt_append, cnt_append] at h16
  rw [hl, List.length_map] at h1
  omega
set_option maxRecDepth 100000 in
set_option maxHeartbeats 20000000 in
theorem body_step {d : Nat} {FL : List FlS} {v : Value} (H : BodyOk d FL v) (h16 : cnt FL ≤ 16) : BodyOk (d + 1) FL v := by
  intro w i fl l rest hF hi hd hl hs
  obtain ⟨fa, fc, hv, h2, h3, h4, h5⟩ := id hF
  have hdr : ∃ a b, FL = a ++ fl ++ b := ⟨FL.take i, rest, by rw [List.append_assoc, ← hd, List.take_append_drop]⟩
  have hiI : (i : Int) ≤ (FL.length : Int) := by omega
  have hlI : (FL.length : Int) ≤ 100000 := by omega
  by_cases hnil : FL = []
  · have hl0 : l = [] := by
      have h1 := FlatL.cnt hl
      obtain ⟨a, b, hab⟩ := hdr
      rw [hnil] at hab
      have hf : fl = [] := by
        have := congrArg List.length hab
        simp only [List.length_nil, List.length_append] at this
        exact List.eq_nil_of_length_eq_zero (by omega)
      rw [hf] at h1
      exact List.eq_nil_of_length_eq_zero (by simpa [cnt] using h1)
    have hf0 : fl = [] := by
      obtain ⟨a, b, hab⟩ := hdr
      rw [hnil] at hab
      have := congrArg List.length hab
      simp only [List.length_nil, List.length_append] at this
      exact List.eq_nil_of_length_eq_zero (by omega)
    have HEND : Hid (BdEnds (d + 1) w (i + fl.length) l (.returned (.tuple #[.slice none 0 0, .int .i64 i])) w) := by
      rw [hl0, hf0]; exact ⟨Below.refl _ _, none, 0, 0, rfl, RStmts.nil _ _ _⟩
    have hn : ¬ (i : Int) < (FL.length : Int) := by rw [hnil]; simp
    subst hv
    clear hF h2 h3 h4 h5 hd H h16 hdr hl hl0 hf0 hnil hs
    go_enter Tryz.func14, Tryz.ntmps14
    go_wp2_with fail
    go_loopw [1, 6] (fun iv ov wr => iv = .int .i64 i ∧ ov = .slice none 0 0 ∧ wr = w) (fun _ _ _ => 0)
    case atStart => exact ⟨rfl, rfl, rfl⟩
    case round =>
      obtain ⟨rfl, rfl, hwr⟩ := hrel
      rw [hwr]
      clear hwr
      go_wp2
      go_ret2
      exact HEND.out
  · obtain ⟨Fb, hfa, hFz, -⟩ := h5 hnil
    subst hfa
    subst hv
    have HF : Hid (FlAt w (.slice (some ⟨Fb, 0, none⟩) FL.length fc) FL) := hF
    have HH : Hid (BodyOk d FL (.slice (some ⟨Fb, 0, none⟩) FL.length fc)) := H
    have HEX : Hid (∀ k oa on oc wr ds fl2, BdRel d FL w i fl l rest k (.slice oa on oc) wr ds fl2 [] → BdEnds (d + 1) w (i + fl.length) l (.returned (.tuple #[.slice oa on oc, .int .i64 k])) wr) := fun k oa on oc wr ds fl2 h => h.ends h16 hl hdr
    have HIN : Hid (BdRel d FL w i fl l rest i (.slice none 0 0) w [] fl l) := ⟨hi, hd, hl, rfl, BdSt.nil d w, Below.refl _ _, rfl⟩
    have HS : Hid (Stop rest) := hs
    have HDL : Hid (l.length ≤ 16) := by
      show _ ≤ _
      have h1 := FlatL.cnt hl
      obtain ⟨a, b, hab⟩ := hdr
      rw [hab, cnt_append, cnt_append] at h16
      omega
    obtain ⟨n, hn⟩ : ∃ n, n = FL.length := ⟨_, rfl⟩
    have HN : Hid (n = FL.length) := hn
    have hfcI : (n : Int) ≤ (fc : Int) := by omega
    rw [← hn] at HF HH hlI
    rw [← hn]
    clear hF h2 h3 h4 h5 hd H h16 hdr hl hs hiI hn
    go_enter Tryz.func14, Tryz.ntmps14
    go_wp2_with fail
    go_loopw [1, 6] (fun iv ov wr => ∃ (k : Nat) (ds : List (Fl.Stmt × Value × Value)) (fl2 : List FlS) (l2 : List Fl.Stmt), iv = .int .i64 k ∧ BdRel d FL w i fl l rest k ov wr ds fl2 l2) (fun iv _ _ => n - (intOf iv).toNat)
    case atStart => exact ⟨i, [], fl, l, rfl, HIN.out⟩
    case round =>
      obtain ⟨k, ds, fl2, l2, rfl, hR⟩ := hrel
      obtain ⟨oa, oc, rfl⟩ : ∃ oa oc, u6 = .slice oa ds.length oc := by
        rcases hR.st.own.2 with ⟨h1, h2⟩ | ⟨g, cp, cur, h1, _⟩
        · exact ⟨none, 0, by rw [h1, h2]⟩
        · exact ⟨_, cp, h1⟩
      have HR : Hid (BdRel d FL w i fl l rest k (.slice oa ds.length oc) wr ds fl2 l2) := hR
      have hkn : k ≤ n := by rw [HN.out]; exact hR.hk
      have hFr := HF.out.below hR.be
      cases l2 with
      | nil =>
        have hf0 : fl2 = [] := hR.fc
        have hdk : FL.drop k = rest := by have := hR.hd; rw [hf0] at this; simpa using this
        have HEND : Hid (BdEnds (d + 1) w (i + fl.length) l (.returned (.tuple #[.slice oa ds.length oc, .int .i64 k])) wr) := HEX.out _ _ _ _ _ _ _ hR
        clear hR HIN HR
        rcases HS.out with hs | ⟨f, r, hs, hft⟩
        · have hge : ¬ (k : Int) < (n : Int) := by
            intro hh
            have : k < FL.length := by rw [← HN.out]; omega
            rw [hs, List.drop_eq_getElem_cons this] at hdk; cases hdk
          clear hdk hs hFr
          go_wp2
          go_ret2
          exact HEND.out
        · rw [hs] at hdk
          obtain ⟨g1, g2, g3⟩ := drop_head hdk
          have c0 := hFr.line k g1 0 (by omega)
          rw [g2, Nat.add_zero] at c0
          obtain ⟨kk, hkk⟩ : ∃ kk : Int, (fsCells f).getD 0 undef = .int .i64 kk ∧ kk < 0 := by
            unfold fsCells
            rw [if_neg hft]
            refine ⟨_, rfl, ?_⟩
            split <;> decide
          rw [hkk.1] at c0
          have hk0 : ¬ 0 ≤ kk := by omega
          have hlt : (k : Int) < (n : Int) := by rw [HN.out]; omega
          clear hdk hs hFr hkk g2 g3
          go_wp2
          go_ret2
          exact HEND.out
      | cons s l3 =>
        obtain ⟨p, q, hpq, hps, hq⟩ := hR.fc
        obtain ⟨tl, htl⟩ := hps.head
        have hdk : FL.drop k = fHead s :: (tl ++ (q ++ rest)) := by rw [hR.hd, hpq, htl]; simp
        obtain ⟨g1, g2, g3⟩ := drop_head hdk
        have hlt : (k : Int) < (n : Int) := by rw [HN.out]; omega
        have hcw : ∀ j, j < 10 → wr.cell? ⟨Fb, k * 10 + j, none⟩ = some ((stCells s (.slice none 0 0) (.slice none 0 0)).getD j undef) := fun j hj => by
          have := hFr.line k g1 j hj
          rw [g2, fHead_cells] at this; exact this
        have s0 : wr.cell? ⟨Fb, k * 10, none⟩ = some (.int .i64 s.kind) := hcw 0 (by omega)
        have s1 : wr.cell? ⟨Fb, k * 10 + 1, none⟩ = some (.int .i64 s.x) := hcw 1 (by omega)
        have s2 : wr.cell? ⟨Fb, k * 10 + 2, none⟩ = some (.int .i64 s.line) := hcw 2 (by omega)
        have s3 : wr.cell? ⟨Fb, k * 10 + 3, none⟩ = some (.int .i64 s.e.op) := hcw 3 (by omega)
        have s4 : wr.cell? ⟨Fb, k * 10 + 4, none⟩ = some (.bool s.e.a.var) := hcw 4 (by omega)
        have s5 : wr.cell? ⟨Fb, k * 10 + 5, none⟩ = some (.int .i64 s.e.a.v) := hcw 5 (by omega)
        have s6 : wr.cell? ⟨Fb, k * 10 + 6, none⟩ = some (.bool s.e.b.var) := hcw 6 (by omega)
        have s7 : wr.cell? ⟨Fb, k * 10 + 7, none⟩ = some (.int .i64 s.e.b.v) := hcw 7 (by omega)
        have s8 : wr.cell? ⟨Fb, k * 10 + 8, none⟩ = some (.slice none 0 0) := hcw 8 (by omega)
        have s9 : wr.cell? ⟨Fb, k * 10 + 9, none⟩ = some (.slice none 0 0) := hcw 9 (by omega)
        have hk0 : (0 : Int) ≤ (s.kind : Int) := by omega
        have HPS : Hid (FlatS (FlatL d) p s) := hps
        have HQ : Hid (FlatCat (FlatS (FlatL d)) q l3) := hq
        have HG3 : Hid (FL.drop (k + 1) = tl ++ (q ++ rest)) := g3
        have HPQ : Hid (fl2 = p ++ q ∧ p = fHead s :: tl) := ⟨hpq, htl⟩
        have HKL : Hid (k < FL.length) := g1
        have HFR : Hid (FlAt wr (.slice (some ⟨Fb, 0, none⟩) n fc) FL) := hFr
        clear hR hpq hps hq htl hdk g2 g3 hcw hFr HIN
        obtain ⟨i0, hi0, hz0, hzs, hzb⟩ := info_parts Tryz.infoStmtP
        have HOW : Hid (∀ W, Below wr.heap.size wr W → W.ownsRow w.heap.size 87 10 (.slice oa ds.length oc) ds.length (dsV ds)) := fun W hW => (HR.out.st.below hW).own
        have hds : ds.length ≤ 100000 := by
          have h1 := HR.out.hl
          have h2 := HDL.out
          rw [h1] at h2
          simp only [List.length_append, List.length_map] at h2
          omega
        have hbz := HR.out.st.hz
        rcases HPS.out with ⟨hk, hb0, ho0, hp⟩ | ⟨hk, f1, hf1, hcase⟩
        · have htl0 : tl = [] := by
            have := HPQ.out.2
            rw [hp] at this
            injection this with _ h; exact h.symm
          have b5 : ((s.kind : Int) == 5) = false := by rcases hk with hk | hk <;> rw [hk] <;> decide
          have b6 : ((s.kind : Int) == 6) = false := by rcases hk with hk | hk <;> rw [hk] <;> decide
          have HB2 : Hid (∀ o o', Below wr.heap.size wr ((wr.alloc o).alloc o')) := fun o o' => ((Below.refl _ _).alloc (Nat.le_refl _) _).alloc (by simp) _
          have HNX : Hid (∀ v' W4, W4.ownsRow w.heap.size 87 10 v' (ds.length + 1) (dsV ds ++ stCells s (.slice none 0 0) (.slice none 0 0)) → (∃ o o', ((wr.alloc o).alloc o').grownBy W4 (Value.slice oa ds.length oc).ownBlock) → (v'.ownBlock = (Value.slice oa ds.length oc).ownBlock ∨ v'.ownBlock = some (wr.heap.size + 1 + 1)) → BdRel d FL w i fl l rest (k + 1) v' W4 (ds ++ [(s, .slice none 0 0, .slice none 0 0)]) q l3) := fun v' W4 h1 h2 h3 => by
            obtain ⟨o, o', h2⟩ := h2
            have hst := HR.out.st.push (HB2.out o o') (by rw [hb0]; exact RStmts.nil _ _ _) (by rw [ho0]; exact RStmts.nil _ _ _) h1 h2 (by simpa using h3)
            have hlt := HR.out.st.own.lt
            refine ⟨HKL.out, by rw [HG3.out, htl0]; rfl, HQ.out, by rw [HR.out.hl]; simp, hst, ?_, ?_⟩
            · exact (HR.out.be.trans ((HB2.out o o').mono (by omega))).grown h2 (by simp; omega) (fun b hb => by have := (hlt b hb).1; omega)
            · have h4 := HR.out.le
              rw [HPQ.out.1, hp] at h4
              simp only [List.length_append, List.length_singleton] at h4
              omega
          clear HPS hk hb0 ho0 hp htl0 HQ HPQ HG3
          go_wp2_with (at_builtin; refine wpList_append_at _ rfl (.tmp 65) (.tmp 67) 37 rfl w.heap.size 87 i0 (.agg zeroS) 10 112 Tryz.underlying37 hi0 hz0 hzs hzb rfl (by decide) _ _ _ rfl (HOW.out _ (HB2.out _ _)) ⟨wr.heap.size + 1, 0, none⟩ 1 1 (stCells s (.slice none 0 0) (.slice none 0 0)) rfl rfl (by decide) (cells_new (by simp)) ?c2 ?c3 ?c4 ?c5 ?_)
          case c2 => intro u hu; simp only [stCells, List.mem_cons, List.not_mem_nil, or_false] at hu; rcases hu with rfl | rfl | rfl | rfl | rfl | rfl | rfl | rfl | rfl | rfl <;> rfl
          case c3 => unfold maxLen; omega
          case c4 => omega
          case c5 => simp; omega
          intro v' W4 hown4 hg4 hwh4
          have HR2 := HNX.out v' W4 hown4 ⟨_, _, hg4⟩ hwh4
          obtain ⟨va', vcap, rfl⟩ : ∃ va vcap, v' = .slice va (ds.length + 1) vcap := by
            rcases hown4.2 with ⟨h1, h2⟩ | ⟨g, cp, cur, h1, _⟩
            · omega
            · exact ⟨_, cp, h1⟩
          have HR3 : Hid (BdRel d FL w i fl l rest (k + 1) (.slice va' (ds.length + 1) vcap) W4 (ds ++ [(s, .slice none 0 0, .slice none 0 0)]) q l3) := HR2
          clear HR2 hown4 hg4 hwh4 HNX
          go_wp2
          go_roundw
          case rel => exact ⟨k + 1, _, _, _, by go_num, HR3.out⟩
          case measure => simp [intOf]; omega
        · have hkk : (((s.kind : Int) == 5) = true) ∨ (((s.kind : Int) == 5) = false ∧ ((s.kind : Int) == 6) = true) := by rcases hk with hk | hk <;> rw [hk] <;> decide
          obtain ⟨rest1, htl1, hst1⟩ : ∃ rest1, FL.drop (k + 1) = f1 ++ rest1 ∧ Stop rest1 := by
            rcases hcase with ⟨_, hp⟩ | ⟨f2, _, hp⟩
            · have h1 := HPQ.out.2
              rw [hp] at h1
              injection h1 with _ h1
              exact ⟨fEnd :: (q ++ rest), by rw [HG3.out, ← h1]; simp, .inr ⟨_, _, rfl, by decide⟩⟩
            · have h1 := HPQ.out.2
              rw [hp] at h1
              injection h1 with _ h1
              exact ⟨fElse :: (f2 ++ [fEnd] ++ (q ++ rest)), by rw [HG3.out, ← h1]; simp, .inr ⟨_, _, rfl, by decide⟩⟩
          have hk1 := drop_more htl1 (by have := HKL.out; omega)
          have HC1 : Hid (∀ o, Calls Tryz.prog 14 #[.slice (some ⟨Fb, 0, none⟩) n fc, .int .i64 ((k : Int) + 1)] (wr.alloc o) (BdEnds d (wr.alloc o) (k + 1 + f1.length) s.body)) := fun o => by
            have h1 := HH.out (wr.alloc o) (k + 1) f1 s.body rest1 (HFR.out.below ((Below.refl _ _).alloc (Nat.le_refl _) _)) HKL.out htl1 hf1 hst1
            rw [show ((k + 1 : Nat) : Int) = (k : Int) + 1 by omega] at h1
            exact h1
          have HCASE : Hid ((s.other = [] ∧ p = fHead s :: (f1 ++ [fEnd])) ∨ ∃ f2, FlatL d f2 s.other ∧ p = fHead s :: (f1 ++ fElse :: (f2 ++ [fEnd]))) := hcase
          obtain ⟨k1, hk1e⟩ : ∃ k1, k1 = k + 1 + f1.length := ⟨_, rfl⟩
          rw [← hk1e] at HC1 hk1
          have HK1 : Hid (k1 = k + 1 + f1.length) := hk1e
          have HD1 : Hid (FL.drop k1 = rest1) := hk1.1
          have HT1 : Hid (FL.drop (k + 1) = f1 ++ rest1) := htl1
          have hk1n : k1 ≤ n := by rw [HN.out]; exact hk1.2
          have hkk1 : k + 1 ≤ k1 := by omega
          clear hcase hk1 htl1 hst1 hk1e HPS hf1
          rcases hkk with b5 | ⟨b5, b6⟩
          all_goals
            go_wp2_with fail
            refine (HC1.out _).mono ?_
            rintro e W1 ⟨hb1, ba, bn, bc, rfl, hbs⟩
            have rS : W1.heap[wr.heap.size]? = some (.cells #[.int .i64 s.kind, .int .i64 s.x, .int .i64 s.line, .int .i64 s.e.op, .bool s.e.a.var, .int .i64 s.e.a.v, .bool s.e.b.var, .int .i64 s.e.b.v, .slice none 0 0, .slice none 0 0] 87 (0, 0)) := by
              rw [hb1.block _ (by simp)]; exact heapAt _ _ _ rfl
            have hz1 : wr.heap.size < W1.heap.size := by have := hb1.size; simp at this; omega
            have HB1 : Hid (Below wr.heap.size wr W1) := ((Below.refl _ _).alloc (Nat.le_refl _) _).trans (hb1.mono (by simp))
            have HBS : Hid (RStmts d (fun b => wr.heap.size + 1 ≤ b ∧ b < W1.heap.size) W1 (.slice ba bn bc) s.body) := by
              show RStmts _ _ _ _ _
              have := hbs; simpa using this
            have hFz : Fb < wr.heap.size := World.block_lt_of_cell? wr _ s0
            have hFl1 := HFR.out.below HB1.out
            have t0 : W1.cell? ⟨wr.heap.size, 0, none⟩ = some (.int .i64 s.kind) := cell_of_row _ _ 0 _ _ (0, 0) rS
            have t1 : W1.cell? ⟨wr.heap.size, 1, none⟩ = some (.int .i64 s.x) := cell_of_row _ _ 1 _ _ (0, 0) rS
            have t2 : W1.cell? ⟨wr.heap.size, 2, none⟩ = some (.int .i64 s.line) := cell_of_row _ _ 2 _ _ (0, 0) rS
            have t3 : W1.cell? ⟨wr.heap.size, 3, none⟩ = some (.int .i64 s.e.op) := cell_of_row _ _ 3 _ _ (0, 0) rS
            have t4 : W1.cell? ⟨wr.heap.size, 4, none⟩ = some (.bool s.e.a.var) := cell_of_row _ _ 4 _ _ (0, 0) rS
            have t5 : W1.cell? ⟨wr.heap.size, 5, none⟩ = some (.int .i64 s.e.a.v) := cell_of_row _ _ 5 _ _ (0, 0) rS
            have t6 : W1.cell? ⟨wr.heap.size, 6, none⟩ = some (.bool s.e.b.var) := cell_of_row _ _ 6 _ _ (0, 0) rS
            have t7 : W1.cell? ⟨wr.heap.size, 7, none⟩ = some (.int .i64 s.e.b.v) := cell_of_row _ _ 7 _ _ (0, 0) rS
            have t8 : W1.cell? ⟨wr.heap.size, 8, none⟩ = some (.slice none 0 0) := cell_of_row _ _ 8 _ _ (0, 0) rS
            have t9 : W1.cell? ⟨wr.heap.size, 9, none⟩ = some (.slice none 0 0) := cell_of_row _ _ 9 _ _ (0, 0) rS
            have tz : ∀ j, W1.frozen? ⟨wr.heap.size, j, none⟩ = false := fun j => by simp [World.frozen?, rS]
            have hne : wr.heap.size ≠ Fb := by omega
            clear hb1 hbs rS s1 s2 s3 s4 s5 s6 s7 s8 s9
            rcases HCASE.out with ⟨hoth, hp⟩ | ⟨f2, hf2, hp⟩
            · have htl : tl = f1 ++ [fEnd] := by
                have h1 := HPQ.out.2
                rw [hp] at h1
                injection h1 with _ h1; exact h1.symm
              have hd1 : FL.drop k1 = fEnd :: (q ++ rest) := by
                have h1 := HT1.out
                rw [HG3.out, htl, List.append_assoc] at h1
                rw [HD1.out]; exact (List.append_cancel_left h1).symm
              obtain ⟨g1, g2, g3⟩ := drop_head hd1
              have c0 : W1.cell? ⟨Fb, k1 * 10, none⟩ = some (.int .i64 (-2)) := by
                have := hFl1.line k1 g1 0 (by omega)
                rw [g2] at this; exact this
              have hk1I : (k1 : Int) < (n : Int) := by rw [HN.out]; omega
              have HB3 : Hid (∀ v o, Below wr.heap.size wr ((W1.setCell ⟨wr.heap.size, 8, none⟩ v).alloc o)) := fun v o => (HB1.out.setCell (Nat.le_refl _) _).alloc (by rw [setCell_size]; omega) _
              have HNX : Hid (∀ v' W4, W4.ownsRow w.heap.size 87 10 v' (ds.length + 1) (dsV ds ++ stCells s (.slice ba bn bc) (.slice none 0 0)) → (∃ o, ((W1.setCell ⟨wr.heap.size, 8, none⟩ (.slice ba bn bc)).alloc o).grownBy W4 (Value.slice oa ds.length oc).ownBlock) → (v'.ownBlock = (Value.slice oa ds.length oc).ownBlock ∨ v'.ownBlock = some (W1.heap.size + 1)) → BdRel d FL w i fl l rest (k1 + 1) v' W4 (ds ++ [(s, .slice ba bn bc, .slice none 0 0)]) q l3) := fun v' W4 h1 h2 h3 => by
                obtain ⟨o, h2⟩ := h2
                have hlt := HR.out.st.own.lt
                have hbody : RStmts d (BdS w.heap.size ((W1.setCell ⟨wr.heap.size, 8, none⟩ (.slice ba bn bc)).alloc o) (.slice oa ds.length oc)) ((W1.setCell ⟨wr.heap.size, 8, none⟩ (.slice ba bn bc)).alloc o) (.slice ba bn bc) s.body := by
                  refine RStmts.kept (fun b hb => ⟨by omega, by simp [setCell_size]; omega, fun hh => by have := (hlt b hh).2; omega⟩) (fun b hb => ?_) _ _ _ HBS.out
                  rw [Below.heap_alloc _ _ _ (by rw [setCell_size]; omega), setCell_block _ _ _ _ _ (by omega)]
                have hst := HR.out.st.push (HB3.out _ o) hbody (by rw [hoth]; exact RStmts.nil _ _ _) h1 h2 (by rcases h3 with h3 | h3; exact .inl h3; exact .inr (by rw [h3]; simp [setCell_size]))
                refine ⟨by omega, g3, HQ.out, by rw [HR.out.hl]; simp, hst, ?_, ?_⟩
                · exact (HR.out.be.trans ((HB3.out _ o).mono (by omega))).grown h2 (by simp [setCell_size]; omega) (fun b hb => by have := (hlt b hb).1; omega)
                · have h4 := HR.out.le
                  have h5 := HK1.out
                  rw [HPQ.out.1, hp] at h4
                  simp only [List.length_append, List.length_singleton, List.length_cons, List.length_nil] at h4
                  omega
              clear htl hd1 g2 g3 hFl1 hoth hp HCASE HT1 HD1 HG3 HPQ HQ HC1
              go_wp2_with (at_builtin; refine wpList_append_at _ rfl (.tmp 65) (.tmp 67) 37 rfl w.heap.size 87 i0 (.agg zeroS) 10 112 Tryz.underlying37 hi0 hz0 hzs hzb rfl (by decide) _ _ _ rfl (HOW.out _ (HB3.out _ _)) ⟨W1.heap.size, 0, none⟩ 1 1 (stCells s (.slice ba bn bc) (.slice none 0 0)) rfl rfl (by decide) (cells_new (by simp [setCell_size])) ?c2 ?c3 ?c4 ?c5 ?_)
              case c2 => intro u hu; simp only [stCells, List.mem_cons, List.not_mem_nil, or_false] at hu; rcases hu with rfl | rfl | rfl | rfl | rfl | rfl | rfl | rfl | rfl | rfl <;> rfl
              case c3 => unfold maxLen; omega
              case c4 => omega
              case c5 => simp [setCell_size]; omega
              intro v' W4 hown4 hg4 hwh4
              have HR2 := HNX.out v' W4 hown4 ⟨_, hg4⟩ (by simpa [setCell_size] using hwh4)
              obtain ⟨va', vcap, rfl⟩ : ∃ va vcap, v' = .slice va (ds.length + 1) vcap := by
                rcases hown4.2 with ⟨h1, h2⟩ | ⟨g, cp, cur, h1, _⟩
                · omega
                · exact ⟨_, cp, h1⟩
              have HR3 : Hid (BdRel d FL w i fl l rest (k1 + 1) (.slice va' (ds.length + 1) vcap) W4 (ds ++ [(s, .slice ba bn bc, .slice none 0 0)]) q l3) := HR2
              clear HR2 hown4 hg4 hwh4 HNX
              go_wp2
              go_roundw
              case rel => exact ⟨k1 + 1, _, _, _, by go_num, HR3.out⟩
              case measure => simp [intOf]; omega
            · have htl : tl = f1 ++ fElse :: (f2 ++ [fEnd]) := by
                have h1 := HPQ.out.2
                rw [hp] at h1
                injection h1 with _ h1; exact h1.symm
              have hd1 : FL.drop k1 = fElse :: (f2 ++ (fEnd :: (q ++ rest))) := by
                have h1 := HT1.out
                rw [HG3.out, htl, List.append_assoc] at h1
                rw [HD1.out]
                have h2 := (List.append_cancel_left h1).symm
                rw [h2]; simp
              obtain ⟨g1, g2, g3⟩ := drop_head hd1
              have c0 : W1.cell? ⟨Fb, k1 * 10, none⟩ = some (.int .i64 (-1)) := by
                have := hFl1.line k1 g1 0 (by omega)
                rw [g2] at this; exact this
              have hk1I : (k1 : Int) < (n : Int) := by rw [HN.out]; omega
              have hm2 := drop_more g3 (by omega)
              have HBW2 : Hid (∀ v, Below wr.heap.size wr (W1.setCell ⟨wr.heap.size, 8, none⟩ v)) := fun v => HB1.out.setCell (Nat.le_refl _) _
              obtain ⟨k2, hk2e⟩ : ∃ k2, k2 = k1 + 1 + f2.length := ⟨_, rfl⟩
              have HC2 : Hid (∀ v, Calls Tryz.prog 14 #[.slice (some ⟨Fb, 0, none⟩) n fc, .int .i64 ((k1 : Int) + 1)] (W1.setCell ⟨wr.heap.size, 8, none⟩ v) (BdEnds d (W1.setCell ⟨wr.heap.size, 8, none⟩ v) k2 s.other)) := fun v => by
                have h1 := HH.out (W1.setCell ⟨wr.heap.size, 8, none⟩ v) (k1 + 1) f2 s.other _ (HFR.out.below (HBW2.out v)) (by omega) g3 hf2 (.inr ⟨_, _, rfl, by decide⟩)
                rw [show ((k1 + 1 : Nat) : Int) = (k1 : Int) + 1 by omega, ← hk2e] at h1
                exact h1
              rw [← hk2e] at hm2
              have HK2 : Hid (k2 = k1 + 1 + f2.length) := hk2e
              have hk2n : k2 + 1 ≤ n := by
                obtain ⟨a1, -, -⟩ := drop_head hm2.1
                rw [HN.out]; exact a1
              have hkk2 : k1 + 1 ≤ k2 := by omega
              have HD2 : Hid (FL.drop (k2 + 1) = q ++ rest) := (drop_head hm2.1).2.2
              have HP : Hid (p = fHead s :: (f1 ++ fElse :: (f2 ++ [fEnd]))) := hp
              clear htl hd1 g2 g3 hFl1 hp HCASE HT1 HD1 HG3 HC1 hm2 hk2e hf2
              go_wp2_with fail
              refine (HC2.out _).mono ?_
              rintro e W5 ⟨hb5, ea, en, ec, rfl, hes⟩
              have hz5 : wr.heap.size < W5.heap.size := by have := hb5.size; rw [setCell_size] at this; omega
              have HB5 : Hid (Below wr.heap.size wr W5) := (HBW2.out _).trans (hb5.mono (by rw [setCell_size]; omega))
              have HES : Hid (RStmts d (fun b => W1.heap.size ≤ b ∧ b < W5.heap.size) W5 (.slice ea en ec) s.other) := by
                show RStmts _ _ _ _ _
                have := hes
                rw [setCell_size] at this; exact this
              have HBS5 : Hid (RStmts d (fun b => wr.heap.size + 1 ≤ b ∧ b < W5.heap.size) W5 (.slice ba bn bc) s.body) := by
                refine RStmts.kept (fun b hb => ⟨hb.1, by have := hb5.size; rw [setCell_size] at this; omega⟩) (fun b hb => ?_) _ _ _ HBS.out
                rw [hb5.block b (by rw [setCell_size]; omega), setCell_block _ _ _ _ _ (by omega)]
              have hsame : ∀ j, j ≠ 8 → W5.cell? ⟨wr.heap.size, j, none⟩ = W1.cell? ⟨wr.heap.size, j, none⟩ := fun j hj => by
                refine (hb5.cell (p := ⟨wr.heap.size, j, none⟩) (by rw [setCell_size]; exact hz1)).trans (World.cell?_setCell_other _ _ _ _ ?_)
                intro hh; injection hh with _ h9; omega
              have v0 := (hsame 0 (by omega)).trans t0
              have v1 := (hsame 1 (by omega)).trans t1
              have v2 := (hsame 2 (by omega)).trans t2
              have v3 := (hsame 3 (by omega)).trans t3
              have v4 := (hsame 4 (by omega)).trans t4
              have v5 := (hsame 5 (by omega)).trans t5
              have v6 := (hsame 6 (by omega)).trans t6
              have v7 := (hsame 7 (by omega)).trans t7
              have v8 : W5.cell? ⟨wr.heap.size, 8, none⟩ = some (.slice ba bn bc) := (hb5.cell (p := ⟨wr.heap.size, 8, none⟩) (by rw [setCell_size]; exact hz1)).trans (World.cell?_setCell_same' _ _ _ (by simp [t8]))
              have v9 := (hsame 9 (by omega)).trans t9
              have vz : ∀ j, W5.frozen? ⟨wr.heap.size, j, none⟩ = false := fun j => (hb5.frozen (p := ⟨wr.heap.size, j, none⟩) (by rw [setCell_size]; exact hz1)).trans (by rw [World.frozen?_setCell]; exact tz j)
              have HB3 : Hid (∀ v o, Below wr.heap.size wr ((W5.setCell ⟨wr.heap.size, 9, none⟩ v).alloc o)) := fun v o => (HB5.out.setCell (Nat.le_refl _) _).alloc (by rw [setCell_size]; omega) _
              have HNX : Hid (∀ v' W4, W4.ownsRow w.heap.size 87 10 v' (ds.length + 1) (dsV ds ++ stCells s (.slice ba bn bc) (.slice ea en ec)) → (∃ o, ((W5.setCell ⟨wr.heap.size, 9, none⟩ (.slice ea en ec)).alloc o).grownBy W4 (Value.slice oa ds.length oc).ownBlock) → (v'.ownBlock = (Value.slice oa ds.length oc).ownBlock ∨ v'.ownBlock = some (W5.heap.size + 1)) → BdRel d FL w i fl l rest (k2 + 1) v' W4 (ds ++ [(s, .slice ba bn bc, .slice ea en ec)]) q l3) := fun v' W4 h1 h2 h3 => by
                obtain ⟨o, h2⟩ := h2
                have hlt := HR.out.st.own.lt
                have hbl : ∀ b, wr.heap.size < b → b < W5.heap.size → ((W5.setCell ⟨wr.heap.size, 9, none⟩ (.slice ea en ec)).alloc o).heap[b]? = W5.heap[b]? := fun b h8 h9 => by
                  rw [Below.heap_alloc _ _ _ (by rw [setCell_size]; omega), setCell_block _ _ _ _ _ (by omega)]
                have hbody : RStmts d (BdS w.heap.size ((W5.setCell ⟨wr.heap.size, 9, none⟩ (.slice ea en ec)).alloc o) (.slice oa ds.length oc)) ((W5.setCell ⟨wr.heap.size, 9, none⟩ (.slice ea en ec)).alloc o) (.slice ba bn bc) s.body := RStmts.kept (fun b hb => ⟨by omega, by simp [setCell_size]; omega, fun hh => by have := (hlt b hh).2; omega⟩) (fun b hb => hbl b (by omega) hb.2) _ _ _ HBS5.out
                have hoth : RStmts d (BdS w.heap.size ((W5.setCell ⟨wr.heap.size, 9, none⟩ (.slice ea en ec)).alloc o) (.slice oa ds.length oc)) ((W5.setCell ⟨wr.heap.size, 9, none⟩ (.slice ea en ec)).alloc o) (.slice ea en ec) s.other := RStmts.kept (fun b hb => ⟨by omega, by simp [setCell_size]; omega, fun hh => by have := (hlt b hh).2; omega⟩) (fun b hb => hbl b (by omega) hb.2) _ _ _ HES.out
                have hst := HR.out.st.push (HB3.out _ o) hbody hoth h1 h2 (by rcases h3 with h3 | h3; exact .inl h3; exact .inr (by rw [h3]; simp [setCell_size]))
                refine ⟨by rw [← HN.out]; exact hk2n, HD2.out, HQ.out, by rw [HR.out.hl]; simp, hst, ?_, ?_⟩
                · exact (HR.out.be.trans ((HB3.out _ o).mono (by omega))).grown h2 (by simp [setCell_size]; omega) (fun b hb => by have := (hlt b hb).1; omega)
                · have h4 := HR.out.le
                  have h5 := HK1.out
                  have h6 := HK2.out
                  rw [HPQ.out.1, HP.out] at h4
                  simp only [List.length_append, List.length_singleton, List.length_cons, List.length_nil] at h4
                  omega
              clear hb5 hes hsame t0 t1 t2 t3 t4 t5 t6 t7 t8 t9 tz HC2 HPQ HQ HP
              go_wp2_with (at_builtin; refine wpList_append_at _ rfl (.tmp 65) (.tmp 67) 37 rfl w.heap.size 87 i0 (.agg zeroS) 10 112 Tryz.underlying37 hi0 hz0 hzs hzb rfl (by decide) _ _ _ rfl (HOW.out _ (HB3.out _ _)) ⟨W5.heap.size, 0, none⟩ 1 1 (stCells s (.slice ba bn bc) (.slice ea en ec)) rfl rfl (by decide) (cells_new (by simp [setCell_size])) ?c2 ?c3 ?c4 ?c5 ?_)
              case c2 => intro u hu; simp only [stCells, List.mem_cons, List.not_mem_nil, or_false] at hu; rcases hu with rfl | rfl | rfl | rfl | rfl | rfl | rfl | rfl | rfl | rfl <;> rfl
              case c3 => unfold maxLen; omega
              case c4 => omega
              case c5 => simp [setCell_size]; omega
              intro v' W4 hown4 hg4 hwh4
              have HR2 := HNX.out v' W4 hown4 ⟨_, hg4⟩ (by simpa [setCell_size] using hwh4)
              obtain ⟨va', vcap, rfl⟩ : ∃ va vcap, v' = .slice va (ds.length + 1) vcap := by
                rcases hown4.2 with ⟨h1, h2⟩ | ⟨g, cp, cur, h1, _⟩
                · omega
                · exact ⟨_, cp, h1⟩
              have HR3 : Hid (BdRel d FL w i fl l rest (k2 + 1) (.slice va' (ds.length + 1) vcap) W4 (ds ++ [(s, .slice ba bn bc, .slice ea en ec)]) q l3) := HR2
              clear HR2 hown4 hg4 hwh4 HNX
              go_wp2
              go_roundw
              case rel => exact ⟨k2 + 1, _, _, _, by go_num, HR3.out⟩
              case measure => simp [intOf]; omega
theorem body_any (d : Nat) (FL : List FlS) (v : Value) (h16 : cnt FL ≤ 16) : BodyOk d FL v := by
  induction d with
  | zero => exact body_zero FL v
  | succ d ih => exact body_step ih h16
end Go.Proofs.YthfacjlghcdndaaGreatDoor

namespace Go.Proofs.YthfacjlghcdndaaGreatDoor.Fl
def mixTab (k : Nat) (T : Tab) (i j : Nat) : Tab := fun a b => if a < i ∨ (a = i ∧ b < j) then fwStep k T a b else T a b
theorem mix_zero (k : Nat) (T : Tab) : mixTab k T 0 0 = T := by
  funext a b
  simp [mixTab]
theorem mix_col (k : Nat) (T : Tab) (i j a : Nat) : mixTab k T i j a k = T a k := by
  unfold mixTab
  by_cases h : a < i ∨ (a = i ∧ k < j)
  · rw [if_pos h]; unfold fwStep; cases T a k <;> simp
  · rw [if_neg h]
theorem mix_line (k : Nat) (T : Tab) (i j b : Nat) : mixTab k T i j k b = T k b := by
  unfold mixTab
  by_cases h : k < i ∨ (k = i ∧ b < j)
  · rw [if_pos h]; unfold fwStep; cases T k b <;> simp
  · rw [if_neg h]
theorem mix_step (k : Nat) (T : Tab) (i j a b : Nat) : mixTab k T i (j + 1) a b = if a = i ∧ b = j then (mixTab k T i j i j || (mixTab k T i j i k && mixTab k T i j k j)) else mixTab k T i j a b := by
  rw [mix_col, mix_line]
  by_cases h : a = i ∧ b = j
  · obtain ⟨rfl, rfl⟩ := h
    rw [if_pos ⟨rfl, rfl⟩]
    unfold mixTab
    rw [if_pos (by omega), if_neg (by omega)]
    rfl
  · rw [if_neg h]
    unfold mixTab
    by_cases h2 : a < i ∨ (a = i ∧ b < j)
    · rw [if_pos h2, if_pos (by omega)]
    · rw [if_neg h2, if_neg (by omega)]
theorem mix_row (k : Nat) (T : Tab) (i n a b : Nat) (hb : b < n) : mixTab k T i n a b = mixTab k T (i + 1) 0 a b := by
  unfold mixTab
  by_cases h : a < i ∨ (a = i ∧ b < n)
  · rw [if_pos h, if_pos (by omega)]
  · rw [if_neg h, if_neg (by omega)]
theorem mix_all (k : Nat) (T : Tab) (n a b : Nat) (ha : a < n) : mixTab k T n 0 a b = fwStep k T a b := by
  unfold mixTab
  rw [if_pos (.inl ha)]
end Go.Proofs.YthfacjlghcdndaaGreatDoor.Fl
