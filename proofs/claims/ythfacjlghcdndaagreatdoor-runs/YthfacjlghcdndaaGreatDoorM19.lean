/- Texts Psl Psm Psn SpecS. -/
import Derived.Test.YthfacjlghcdndaaGreatDoorM18
set_option linter.unusedSimpArgs false
set_option linter.unusedVariables false
namespace Go.Proofs.YthfacjlghcdndaaGreatDoor
open Go.RowKit
def TxSt (lo base R Pb lm vm cm : Nat) (W0 : World) (l : List UInt8) (i : Nat) (s : List UInt8) (W : World) : Prop :=
  s.length + i ≤ 40000 ∧ ∃ r line m, PrAt lo base R Pb lm vm cm W0 W r line m ∧ Fl.rows Fl.RS.zero 0 (Fl.cutR 10 l) = Fl.rows r i (Fl.cutR 10 s)
def TxBad (lo base R Pb lm vm cm : Nat) (W0 : World) (l : List UInt8) (n p : Int) (W : World) : Prop :=
  Gone lo base R Pb lm vm cm W0 W ∧ n = ((Fl.rows Fl.RS.zero 0 (Fl.cutR 10 l)).1 : Int) ∧ p = ((Fl.rows Fl.RS.zero 0 (Fl.cutR 10 l)).2.1 : Int) ∧ (Fl.rows Fl.RS.zero 0 (Fl.cutR 10 l)).1 ≠ 0
theorem text_lines {lo base R Pb lm vm cm : Nat} {W0 W : World} {line : Int} {m : PMem} (h : PrAt lo base R Pb lm vm cm W0 W Fl.RS.zero line m) (l : List UInt8) (hl : l.length ≤ 1200) (B1 B2 T : Nat) (hg : 1 < lo) (hm : MaxLenIs W0)
    (hin : ∀ args W, (callFunc 44 args).run Tryz.prog W = .ok (.enter 44 args) W)
    (d1 : B1 < base ∧ B1 ≠ R ∧ B1 ≠ Pb ∧ B1 ≠ lm ∧ B1 ≠ vm ∧ B1 ≠ cm) (d2 : B2 < base ∧ B2 ≠ R ∧ B2 ≠ Pb ∧ B2 ≠ lm ∧ B2 ≠ vm ∧ B2 ≠ cm) (d3 : T < base ∧ T ≠ R ∧ T ≠ Pb ∧ T ≠ lm ∧ T ≠ vm ∧ T ≠ cm)
    (hB1 : W0.cell? ⟨B1, 0, none⟩ = some (.pointer (some ⟨R, 0, none⟩))) (hB2 : W0.cell? ⟨B2, 0, none⟩ = some (.slice (some ⟨T, 0, none⟩) 12 12)) (hT : W0.heap[T]? = some (.cells linesArr 161 (0, 0))) :
    Calls Tryz.prog 43 #[.string ⟨l.toArray⟩, .func (.func 44) #[] #[.pointer (some ⟨B1, 0, none⟩), .pointer (some ⟨B2, 0, none⟩)]] W (EachEnds (TxSt lo base R Pb lm vm cm W0 l) (TxBad lo base R Pb lm vm cm W0 l)) := by
  refine each2_any 44 _ l W (TxSt lo base R Pb lm vm cm W0 l) (TxBad lo base R Pb lm vm cm W0 l) hin ?_ ?_ ?_ ?_ ?_ ⟨by omega, Fl.RS.zero, line, m, h, rfl⟩
  · rintro i s W1 W2 ⟨h1, r, ln, m, h2, h3⟩ hb
    exact ⟨h1, r, ln, m, h2.below hb, h3⟩
  · rintro i s W1 ⟨h1, r, ln, m, h2, h3⟩
    obtain ⟨x, hx⟩ := hm
    exact ⟨x, (h2.bel.cell (p := ⟨1, 0, none⟩) hg).trans hx⟩
  · rintro i s W1 ⟨h1, -⟩; exact h1
  · rintro i s W1 ⟨h1, r, ln, m, h2, h3⟩ hs hc
    unfold TxBad
    rw [h3, rows_missed r i s hc hs]
    exact ⟨⟨h2.bel, h2.fx⟩, rfl, by simp, Nat.succ_ne_zero _⟩
  · rintro i s W1 W2 b n ⟨h1, r, ln, m, h2, h3⟩ hb hb1 hb2 hs hc hn hws
    have hP := h2.below hb
    have hba := h2.hba
    have e1 : W2.cell? ⟨B1, 0, none⟩ = some (.pointer (some ⟨R, 0, none⟩)) := (World.cell?_of_block (a := ⟨B1, 0, none⟩) (hP.fx B1 d1.1 d1.2.1 d1.2.2.1 d1.2.2.2.1 d1.2.2.2.2.1 d1.2.2.2.2.2)).trans hB1
    have e2 : W2.cell? ⟨B2, 0, none⟩ = some (.slice (some ⟨T, 0, none⟩) 12 12) := (World.cell?_of_block (a := ⟨B2, 0, none⟩) (hP.fx B2 d2.1 d2.2.1 d2.2.2.1 d2.2.2.2.1 d2.2.2.2.2.1 d2.2.2.2.2.2)).trans hB2
    have e3 : W2.heap[T]? = some (.cells linesArr 161 (0, 0)) := (hP.fx T d3.1 d3.2.1 d3.2.2.1 d3.2.2.2.1 d3.2.2.2.2.1 d3.2.2.2.2.2).trans hT
    have hw5 : m.who b = 5 := Classical.byContradiction fun hne => by have := (h2.re.wh b hne).2; omega
    have hc1 := each_line hP B1 B2 T b n (i + 1) _ e1 e2 e3 ⟨d1.2.1, d2.2.1, d3.2.1⟩ hws (Fl.cutR_ne 32 _) ⟨by omega, hw5⟩
    have hrows := rows_found r i s hc
    have hlen := (Fl.cut_found 10 s hc).2
    refine Calls.mono hc1 ?_
    rintro e W3 (⟨g1, rfl, m', g2⟩ | ⟨g1, rfl, g2⟩)
    · refine .inl ⟨rfl, by omega, _, _, m', g2, ?_⟩
      rw [h3, hrows, if_neg (by simpa using g1)]
    · refine .inr ⟨_, _, rfl, ?_⟩
      unfold TxBad
      rw [h3, hrows, if_pos g1]
      exact ⟨g2, rfl, rfl, g1⟩
end Go.Proofs.YthfacjlghcdndaaGreatDoor

namespace Go.Proofs.YthfacjlghcdndaaGreatDoor
open Go.RowKit
set_option maxRecDepth 100000 in
theorem text_long (R : Nat) (l : List UInt8) (hl : 1200 < l.length) (hl2 : l.length ≤ 100000) (w : World) :
    Calls Tryz.prog 28 #[.pointer (some ⟨R, 0, none⟩), .string ⟨l.toArray⟩] w fun e w' => e = .panicked (stopAt 1 0) ∧ Below w.heap.size w w' := by
  have b1 : (1200 : Int) < (l.length : Int) := by omega
  have HRA : Hid (∀ W, Calls Tryz.prog 41 #[.int .i64 1, .int .i64 0] W fun e w' => e = .panicked (stopAt 1 0) ∧ Below W.heap.size W w') := raise_any 1 0
  have hA : ∀ o, Below w.heap.size w (w.alloc o) := fun o => (Below.refl _ _).alloc (Nat.le_refl _) _
  have HA : Hid (∀ o, Below w.heap.size w (w.alloc o)) := hA
  clear hA
  go_enter Tryz.func28, Tryz.ntmps28
  go_wp2_with fail
  refine (HRA.out _).mono ?_
  rintro e w1 ⟨rfl, hb1⟩
  exact ⟨rfl, rfl, (HA.out _).trans (hb1.mono (by simp))⟩
end Go.Proofs.YthfacjlghcdndaaGreatDoor

namespace Go.Proofs.YthfacjlghcdndaaGreatDoor
open Go.RowKit
def txW (w : World) (R : Nat) : World := ((w.alloc (.cells #[.pointer (some ⟨R, 0, none⟩)] 91)).alloc (.cells linesArr 161)).alloc (.cells #[.slice (some ⟨w.heap.size + 1, 0, none⟩) 12 12] 132)
theorem txW_size (w : World) (R : Nat) : (txW w R).heap.size = w.heap.size + 3 := by simp [txW]
theorem txW_below (w : World) (R : Nat) : Below w.heap.size w (txW w R) := (((Below.refl _ w).alloc (Nat.le_refl _) _).alloc (by simp) _).alloc (by simp; omega) _
theorem txW_blocks (w : World) (R : Nat) : (txW w R).heap[w.heap.size]? = some (.cells #[.pointer (some ⟨R, 0, none⟩)] 91) ∧ (txW w R).heap[w.heap.size + 1]? = some (.cells linesArr 161) ∧ (txW w R).heap[w.heap.size + 1 + 1]? = some (.cells #[.slice (some ⟨w.heap.size + 1, 0, none⟩) 12 12] 132) := by
  have a : ∀ (u : World) (o : Obj) (k : Nat), k < u.heap.size → (u.alloc o).heap[k]? = u.heap[k]? := fun u o k hk => Below.heap_alloc _ _ _ hk
  have l : ∀ (u : World) (o : Obj) (k : Nat), u.heap.size = k → (u.alloc o).heap[k]? = some o := fun u o k hk => by subst hk; exact heap_alloc_last u o
  unfold txW
  refine ⟨?_, ?_, ?_⟩
  · rw [a _ _ _ (by simp; omega), a _ _ _ (by simp), l _ _ _ rfl]
  · rw [a _ _ _ (by simp), l _ _ _ (by simp)]
  · rw [l _ _ _ (by simp)]
def TxEnds (lo base R Pb lm vm cm : Nat) (W0 : World) (q : Nat × Nat × Fl.RS) (e : Ending) (w' : World) : Prop :=
  (q.1 = 0 ∧ e = .returned (.tuple #[]) ∧ q.2.2.begun = true ∧ q.2.2.fr = [] ∧ ∃ line m, PrAt lo base R Pb lm vm cm W0 w' q.2.2 line m) ∨ (q.1 ≠ 0 ∧ e = .panicked (stopAt q.1 q.2.1) ∧ Gone lo base R Pb lm vm cm W0 w')
set_option maxRecDepth 100000 in
set_option maxHeartbeats 2000000 in
theorem text_any {lo R Pb lm vm cm : Nat} {w : World} (hlo : lo ≤ R ∧ lo ≤ Pb ∧ lo ≤ lm ∧ lo ≤ vm ∧ lo ≤ cm) (hz : R < w.heap.size ∧ Pb < w.heap.size ∧ lm < w.heap.size ∧ vm < w.heap.size ∧ cm < w.heap.size)
    (nd : R ≠ Pb ∧ R ≠ lm ∧ R ≠ vm ∧ R ≠ cm ∧ Pb ≠ lm ∧ Pb ≠ vm ∧ Pb ≠ cm ∧ lm ≠ vm ∧ lm ≠ cm ∧ vm ≠ cm) (hR : Cells w R 45 (rdCell Pb lm vm cm 0 Fl.RS.zero mem0)) (hP : Cells w Pb 5 (rw_ [.pointer none, .slice none 0 0, .slice none 0 0, .int .i64 0, .slice none 0 0]))
    (nl : NameMap w lm []) (nv : NameMap w vm []) (nc : NameMap w cm []) (hg : 1 < lo) (hm : MaxLenIs w) (l : List UInt8) (hl : l.length ≤ 1200) :
    Calls Tryz.prog 28 #[.pointer (some ⟨R, 0, none⟩), .string ⟨l.toArray⟩] w (TxEnds lo (w.heap.size + 3) R Pb lm vm cm (txW w R) (Fl.rows Fl.RS.zero 0 (Fl.cutR 10 l))) := by
  have b1 : (l.length : Int) ≤ 1200 := by omega
  have hmf : ∀ (fn : Fn) (first cap : Array Value) (w : World), (Instr.makeFunc fn first cap).run Tryz.prog w = .ok (.func fn first cap) w := fun _ _ _ _ => rfl
  obtain ⟨k1, k2, k3⟩ := txW_blocks w R
  have hsz := txW_size w R
  have hbl := txW_below w R
  have hb : ∀ b, b < w.heap.size → (txW w R).heap[b]? = w.heap[b]? := fun b h => hbl.block b h
  have h0 : PrAt lo (txW w R).heap.size R Pb lm vm cm (txW w R) (txW w R) Fl.RS.zero 0 mem0 := PrAt.zero hlo (by omega) nd 0 (hR.block (hb _ hz.1)) (hP.block (hb _ hz.2.1)) (nl.block (hb _ hz.2.2.1)) (nv.block (hb _ hz.2.2.2.1)) (nc.block (hb _ hz.2.2.2.2))
  rw [hsz] at h0
  have d1 : w.heap.size < w.heap.size + 3 ∧ w.heap.size ≠ R ∧ w.heap.size ≠ Pb ∧ w.heap.size ≠ lm ∧ w.heap.size ≠ vm ∧ w.heap.size ≠ cm := by omega
  have hB1 : (txW w R).cell? ⟨w.heap.size, 0, none⟩ = some (.pointer (some ⟨R, 0, none⟩)) := cell_of_row _ _ 0 _ _ (0, 0) k1
  have HE : Hid (Calls Tryz.prog 43 #[.string ⟨l.toArray⟩, .func (.func 44) #[] #[.pointer (some ⟨w.heap.size, 0, none⟩), .pointer (some ⟨w.heap.size + 1 + 1, 0, none⟩)]] (txW w R) (EachEnds (TxSt lo (w.heap.size + 3) R Pb lm vm cm (txW w R) l) (TxBad lo (w.heap.size + 3) R Pb lm vm cm (txW w R) l))) := by
    refine text_lines h0 l hl w.heap.size (w.heap.size + 1 + 1) (w.heap.size + 1) hg ?_ ?_ d1 (by omega) (by omega) hB1 (cell_of_row _ _ 0 _ _ (0, 0) k3) k2
    · obtain ⟨x, hx⟩ := hm
      exact ⟨x, (hbl.cell (p := ⟨1, 0, none⟩) (by show 1 < w.heap.size; omega)).trans hx⟩
    · intro args W; kernel_rfl
  have HB1 : Hid ((txW w R).cell? ⟨w.heap.size, 0, none⟩ = some (.pointer (some ⟨R, 0, none⟩))) := hB1
  obtain ⟨q, hq⟩ : ∃ q, q = Fl.rows Fl.RS.zero 0 (Fl.cutR 10 l) := ⟨_, rfl⟩
  rw [← hq]
  have HQ : Hid (q = Fl.rows Fl.RS.zero 0 (Fl.cutR 10 l)) := hq
  have HD : Hid (w.heap.size < w.heap.size + 3 ∧ w.heap.size ≠ R ∧ w.heap.size ≠ Pb ∧ w.heap.size ≠ lm ∧ w.heap.size ≠ vm ∧ w.heap.size ≠ cm) := d1
  obtain ⟨W, hW⟩ : ∃ W, W = txW w R := ⟨_, rfl⟩
  rw [← hW] at HE HB1 ⊢
  have HW : Hid (W = txW w R) := hW
  clear hlo hz nd hR hP nl nv nc hg hm k1 k2 k3 hsz hbl hb h0 hB1 hq d1 hW
  go_enter Tryz.func28, Tryz.ntmps28
  go_wp2_with fail
  refine (lineRules_any _).mono ?_
  rintro e w1 ⟨rfl, hw1⟩
  rw [hw1]
  clear hw1 w1
  go_wp2_with fail
  have HE2 := HE.out
  rw [HW.out] at HE2
  unfold txW at HE2
  refine Calls.mono HE2 ?_
  clear HE2 HE
  rintro e W1 (⟨i, rfl, hi, hst⟩ | ⟨n, p, rfl, hbad⟩)
  · change TxSt lo (w.heap.size + 3) R Pb lm vm cm (txW w R) l i [] W1 at hst
    rw [← HW.out] at hst
    obtain ⟨h1, r, ln, m, hP, hr⟩ := hst
    have i1 : (i : Int) + 1 ≤ 50000 := by simp at h1; omega
    have HP1 : Hid (PrAt lo (w.heap.size + 3) R Pb lm vm cm W (W1.setCell ⟨R, 1, none⟩ (.int .i64 ((i : Int) + 1))) r ((i : Int) + 1) m) := hP.setLine _
    have qb : ∀ k, k ≠ R → (W1.setCell ⟨R, 1, none⟩ (.int .i64 ((i : Int) + 1))).heap[k]? = W1.heap[k]? := fun k hk => setCell_block _ _ _ _ _ hk
    have c0 : W1.cell? ⟨w.heap.size, 0, none⟩ = some (.pointer (some ⟨R, 0, none⟩)) := (World.cell?_of_block (a := ⟨w.heap.size, 0, none⟩) (hP.fx _ HD.out.1 HD.out.2.1 HD.out.2.2.1 HD.out.2.2.2.1 HD.out.2.2.2.2.1 HD.out.2.2.2.2.2)).trans HB1.out
    have e0 : (W1.setCell ⟨R, 1, none⟩ (.int .i64 ((i : Int) + 1))).cell? ⟨w.heap.size, 0, none⟩ = some (.pointer (some ⟨R, 0, none⟩)) := (World.cell?_of_block (a := ⟨w.heap.size, 0, none⟩) (qb _ HD.out.2.1)).trans c0
    have c1 : W1.cell? ⟨R, 1, none⟩ = some (.int .i64 ln) := hP.cR.c 1 (by omega)
    have zR := hP.cR.z
    have e2 : (W1.setCell ⟨R, 1, none⟩ (.int .i64 ((i : Int) + 1))).cell? ⟨R, 2, none⟩ = some (.bool r.begun) := HP1.out.cR.c 2 (by omega)
    have e43 : (W1.setCell ⟨R, 1, none⟩ (.int .i64 ((i : Int) + 1))).cell? ⟨R, 43, none⟩ = some m.ov := HP1.out.cR.c 43 (by omega)
    obtain ⟨ao, cp, hov⟩ : ∃ ao cp, m.ov = .slice ao r.fr.length cp := by
      rcases hP.re.oo.2 with ⟨h2, h3⟩ | ⟨g, cap, cur, h2, -⟩
      · exact ⟨none, 0, by rw [h2, h3]⟩
      · exact ⟨_, _, h2⟩
    rw [hov] at e43
    have HRO : Hid (q = if r.begun = true ∧ r.fr = [] then (0, 0, r) else (3, i + 1, r)) := by show _ = _; rw [HQ.out, hr, rows_end r i hi]
    have HZ : Hid (lo ≤ W1.heap.size) := by show lo ≤ _; have := hP.hlo; have := hP.hba; omega
    obtain ⟨W2, hW2⟩ : ∃ W2, W2 = W1.setCell ⟨R, 1, none⟩ (.int .i64 ((i : Int) + 1)) := ⟨_, rfl⟩
    have HW2 : Hid (W2 = W1.setCell ⟨R, 1, none⟩ (.int .i64 ((i : Int) + 1))) := hW2
    have hsz2 : W2.heap.size = W1.heap.size := by rw [hW2]; exact setCell_size _ _ _
    have HLO : Hid (lo ≤ W2.drew.heap.size) := by show lo ≤ W2.heap.size; rw [hsz2]; exact HZ.out
    rw [← hW2] at HP1 e0 e2 e43
    have f0 : W2.drew.cell? ⟨w.heap.size, 0, none⟩ = some (.pointer (some ⟨R, 0, none⟩)) := e0
    have f2 : W2.drew.cell? ⟨R, 2, none⟩ = some (.bool r.begun) := e2
    have f43 : W2.drew.cell? ⟨R, 43, none⟩ = some (.slice ao r.fr.length cp) := e43
    have HRB : Hid (Calls Tryz.prog 46 #[.pointer (some ⟨R, 0, none⟩), .bool false, .int .i64 3] W2.drew fun e w' => e = .panicked (stopAt 3 ((i : Int) + 1)) ∧ Below W2.drew.heap.size W2.drew w') := rneed_bad R 3 _ W2.drew (HP1.out.drew.cR.c 1 (by omega))
    have HOK : Hid (Calls Tryz.prog 46 #[.pointer (some ⟨R, 0, none⟩), .bool true, .int .i64 3] W2.drew fun e w' => e = .returned (.tuple #[]) ∧ w' = W2.drew) := rneed_ok R 3 W2.drew
    clear hP hr hi h1 e0 e2 e43 qb hov HQ HD HB1 hW2 hsz2 HZ
    go_wp2_with fail
    rw [← HW2.out]
    cases hbg : r.begun with
    | false =>
      rw [hbg] at f2
      have HR : Hid (q = (3, i + 1, r)) := by show _ = _; rw [HRO.out, if_neg (by rw [hbg]; simp)]
      clear hbg c0 c1 zR b1 HOK HRO
      refine still_tail_gen 13 5 _ 5 _ (by kernel_rfl) (by kernel_rfl) rfl rfl (fun ops hY hY2 => ?_)
      simp only [List.take_succ_cons, List.take_zero, List.drop_succ_cons, List.drop_zero]
      iterate 13 still_step
      refine wpStill_nil ?_
      go_wp2_with fail
      refine HRB.out.mono ?_
      rintro e w3 ⟨rfl, hb3⟩
      refine ⟨rfl, .inr ⟨?_, ?_, ?_⟩⟩
      · rw [HR.out]; exact Nat.succ_ne_zero _
      · rw [HR.out]; rfl
      · exact HP1.out.drew.gone hb3
    | true =>
      rw [hbg] at f2
      by_cases hfr : r.fr = []
      · have HR : Hid (q = (0, 0, r)) := by show _ = _; rw [HRO.out, if_pos ⟨hbg, hfr⟩]
        have HG : Hid (r.begun = true ∧ r.fr = []) := ⟨hbg, hfr⟩
        rw [hfr] at f43
        simp only [List.length_nil] at f43
        clear hbg c0 c1 zR b1 HRB HRO hfr
        refine still_tail_gen 13 5 _ 5 _ (by kernel_rfl) (by kernel_rfl) rfl rfl (fun ops hY hY2 => ?_)
        simp only [List.take_succ_cons, List.take_zero, List.drop_succ_cons, List.drop_zero]
        iterate 13 still_step
        refine wpStill_nil ?_
        go_wp2_with fail
        refine HOK.out.mono ?_
        rintro e w3 ⟨rfl, hw3⟩
        have HE : Hid (TxEnds lo (w.heap.size + 3) R Pb lm vm cm W q (.returned (.tuple #[])) w3) := by
          show TxEnds _ _ _ _ _ _ _ _ _ _ _
          rw [HR.out, hw3]
          exact .inl ⟨rfl, rfl, HG.out.1, HG.out.2, _, _, HP1.out.drew⟩
        clear hw3 f0 f2 f43 HOK
        go_wp2
        go_end0
        exact HE.out
      · have HR : Hid (q = (3, i + 1, r)) := by show _ = _; rw [HRO.out, if_neg (fun h => hfr h.2)]
        have hn0 : ((r.fr.length : Int) == 0) = false := by
          have : r.fr.length ≠ 0 := fun h => hfr (List.eq_nil_of_length_eq_zero h)
          simp; exact hfr
        obtain ⟨nf, hnf⟩ : ∃ nf, nf = r.fr.length := ⟨_, rfl⟩
        rw [← hnf] at hn0 f43
        clear hbg c0 c1 zR b1 HOK HRO hfr hnf
        refine still_tail_gen 13 5 _ 5 _ (by kernel_rfl) (by kernel_rfl) rfl rfl (fun ops hY hY2 => ?_)
        simp only [List.take_succ_cons, List.take_zero, List.drop_succ_cons, List.drop_zero]
        iterate 13 still_step
        refine wpStill_nil ?_
        go_wp2_with fail
        refine HRB.out.mono ?_
        rintro e w3 ⟨rfl, hb3⟩
        refine ⟨rfl, .inr ⟨?_, ?_, ?_⟩⟩
        · rw [HR.out]; exact Nat.succ_ne_zero _
        · rw [HR.out]; rfl
        · exact HP1.out.drew.gone hb3
  · change TxBad lo (w.heap.size + 3) R Pb lm vm cm (txW w R) l n p W1 at hbad
    rw [← HW.out] at hbad
    obtain ⟨h1, h2, h3, h4⟩ := hbad
    rw [← HQ.out] at h2 h3 h4
    exact ⟨rfl, .inr ⟨h4, by rw [h2, h3], h1⟩⟩
end Go.Proofs.YthfacjlghcdndaaGreatDoor

namespace Go.Proofs.YthfacjlghcdndaaGreatDoor
namespace Fl
structure MS where
  vars : List Nat
  sent : List (Nat × Nat)
  fuel : Nat
def u32 : Nat := 4294967296
def atomV (vs : List Nat) (a : Atom) : Nat := if a.var then vs.getD a.v 0 else a.v % u32
def opV (o : Int) (x y : Nat) : Nat :=
  if o = 0 then (x + y) % u32 else if o = 1 then (x + u32 - y) % u32 else if o = 2 then (x * y) % u32 else if o = 3 then (if x < y then 1 else 0) else if o = 4 then (if x = y then 1 else 0) else x
def exprV (vs : List Nat) (e : Expr) : Nat := if e.op = -1 then atomV vs e.a else opV e.op (atomV vs e.a) (atomV vs e.b)
def run : Nat → List Stmt → MS → Bool × MS
  | 0, _, m => (false, m)
  | _ + 1, [], m => (true, m)
  | n + 1, s :: rest, m =>
    if m.fuel = 0 then (false, m) else
    let v := exprV m.vars s.e
    if s.kind = 3 then run n rest ⟨m.vars.set s.x v, m.sent, m.fuel - 1⟩
    else if s.kind = 4 then run n rest ⟨m.vars, m.sent ++ [(s.x, v)], m.fuel - 1⟩
    else if s.kind = 5 then
      if (run n (if v = 0 then s.other else s.body) ⟨m.vars, m.sent, m.fuel - 1⟩).1 = true then run n rest (run n (if v = 0 then s.other else s.body) ⟨m.vars, m.sent, m.fuel - 1⟩).2
      else run n (if v = 0 then s.other else s.body) ⟨m.vars, m.sent, m.fuel - 1⟩
    else if v = 0 then run n rest ⟨m.vars, m.sent, m.fuel - 1⟩
    else if (run n s.body ⟨m.vars, m.sent, m.fuel - 1⟩).1 = true then run n (s :: rest) (run n s.body ⟨m.vars, m.sent, m.fuel - 1⟩).2
    else run n s.body ⟨m.vars, m.sent, m.fuel - 1⟩
theorem run_fuel : ∀ (n : Nat) (l : List Stmt) (m : MS), (run n l m).2.fuel ≤ m.fuel
  | 0, _, _ => Nat.le_refl _
  | _ + 1, [], _ => Nat.le_refl _
  | n + 1, s :: rest, m => by
    rw [run]
    by_cases h0 : m.fuel = 0
    · rw [if_pos h0]; exact Nat.le_refl _
    · rw [if_neg h0]
      simp only
      split
      · have := run_fuel n rest ⟨m.vars.set s.x (exprV m.vars s.e), m.sent, m.fuel - 1⟩; simp only at this; omega
      · split
        · have := run_fuel n rest ⟨m.vars, m.sent ++ [(s.x, exprV m.vars s.e)], m.fuel - 1⟩; simp only at this; omega
        · split
          · generalize (if exprV m.vars s.e = 0 then s.other else s.body) = part
            have h1 := run_fuel n part ⟨m.vars, m.sent, m.fuel - 1⟩
            simp only at h1
            split
            · have h2 := run_fuel n rest (run n part ⟨m.vars, m.sent, m.fuel - 1⟩).2; omega
            · omega
          · split
            · have := run_fuel n rest ⟨m.vars, m.sent, m.fuel - 1⟩; simp only at this; omega
            · have h1 := run_fuel n s.body ⟨m.vars, m.sent, m.fuel - 1⟩
              simp only at h1
              split
              · have h2 := run_fuel n (s :: rest) (run n s.body ⟨m.vars, m.sent, m.fuel - 1⟩).2; omega
              · omega
theorem run_more : ∀ (n : Nat) (l : List Stmt) (m : MS) (k : Nat), m.fuel < n → n ≤ k → run k l m = run n l m
  | 0, _, _, _, h, _ => absurd h (Nat.not_lt_zero _)
  | n + 1, [], m, k, _, hk => by
    obtain ⟨k', rfl⟩ : ∃ k', k = k' + 1 := ⟨k - 1, by omega⟩
    rfl
  | n + 1, s :: rest, m, k, h, hk => by
    obtain ⟨k', rfl⟩ : ∃ k', k = k' + 1 := ⟨k - 1, by omega⟩
    rw [run, run]
    by_cases h0 : m.fuel = 0
    · rw [if_pos h0, if_pos h0]
    · rw [if_neg h0, if_neg h0]
      have e : ∀ l (m' : MS), m'.fuel ≤ m.fuel - 1 → run k' l m' = run n l m' := fun l m' hm => run_more n l m' k' (by omega) (by omega)
      have f : ∀ l (m' : MS), m'.fuel ≤ m.fuel - 1 → (run n l m').2.fuel ≤ m.fuel - 1 := fun l m' hm => Nat.le_trans (run_fuel n l m') hm
      simp only
      rw [e rest ⟨m.vars.set s.x (exprV m.vars s.e), m.sent, m.fuel - 1⟩ (Nat.le_refl _), e rest ⟨m.vars, m.sent ++ [(s.x, exprV m.vars s.e)], m.fuel - 1⟩ (Nat.le_refl _), e _ ⟨m.vars, m.sent, m.fuel - 1⟩ (Nat.le_refl _), e rest ⟨m.vars, m.sent, m.fuel - 1⟩ (Nat.le_refl _), e s.body ⟨m.vars, m.sent, m.fuel - 1⟩ (Nat.le_refl _), e rest _ (f _ ⟨m.vars, m.sent, m.fuel - 1⟩ (Nat.le_refl _)), e (s :: rest) _ (f _ ⟨m.vars, m.sent, m.fuel - 1⟩ (Nat.le_refl _))]
theorem run_same (l : List Stmt) (m : MS) (n k : Nat) (hn : m.fuel < n) (hk : m.fuel < k) : run k l m = run n l m := by
  rcases Nat.le_total n k with h | h
  · exact run_more n l m k hn h
  · exact (run_more k l m n hk h).symm
theorem run_cons : ∀ (n : Nat) (s : Stmt) (rest : List Stmt) (m : MS), m.fuel < n → run n (s :: rest) m = if (run n [s] m).1 = true then run n rest (run n [s] m).2 else run n [s] m
  | 0, _, _, _, h => absurd h (Nat.not_lt_zero _)
  | n + 1, s, rest, m, h => by
    have hG : ∀ (l : List Stmt) (m' : MS), m'.fuel ≤ m.fuel - 1 → m.fuel ≠ 0 → run (n + 1) l m' = run n l m' := fun l m' hm h0 => run_more n l m' (n + 1) (by omega) (by omega)
    by_cases h0 : m.fuel = 0
    · have e : ∀ l, run (n + 1) (s :: l) m = (false, m) := fun l => by rw [run, if_pos h0]
      rw [e, e]; rfl
    · have hnil : ∀ m', m'.fuel ≤ m.fuel - 1 → run n [] m' = (true, m') := fun m' hm => by
        obtain ⟨k, rfl⟩ : ∃ k, n = k + 1 := ⟨n - 1, by omega⟩
        rfl
      have e : ∀ l, run (n + 1) (s :: l) m = _ := fun l => by rw [run, if_neg h0]
      rw [e rest, e []]
      simp only
      by_cases h3 : s.kind = 3
      · rw [if_pos h3, if_pos h3, hnil _ (Nat.le_refl _)]
        simp only [if_true]
        exact (hG _ _ (Nat.le_refl _) h0).symm
      rw [if_neg h3, if_neg h3]
      by_cases h4 : s.kind = 4
      · rw [if_pos h4, if_pos h4, hnil _ (Nat.le_refl _)]
        simp only [if_true]
        exact (hG _ _ (Nat.le_refl _) h0).symm
      rw [if_neg h4, if_neg h4]
      have hf : ∀ l, (run n l ⟨m.vars, m.sent, m.fuel - 1⟩).2.fuel ≤ m.fuel - 1 := fun l => run_fuel n l _
      by_cases h5 : s.kind = 5
      · rw [if_pos h5, if_pos h5]
        generalize (if exprV m.vars s.e = 0 then s.other else s.body) = part
        by_cases hq : (run n part ⟨m.vars, m.sent, m.fuel - 1⟩).1 = true
        · rw [if_pos hq, if_pos hq, hnil _ (hf _)]
          simp only [if_true]
          exact (hG _ _ (hf _) h0).symm
        · rw [if_neg hq, if_neg hq, if_neg hq]
      rw [if_neg h5, if_neg h5]
      by_cases hv : exprV m.vars s.e = 0
      · rw [if_pos hv, if_pos hv, hnil _ (Nat.le_refl _)]
        simp only [if_true]
        exact (hG _ _ (Nat.le_refl _) h0).symm
      rw [if_neg hv, if_neg hv]
      by_cases hq : (run n s.body ⟨m.vars, m.sent, m.fuel - 1⟩).1 = true
      · rw [if_pos hq, if_pos hq, run_cons n s rest _ (by have := hf s.body; omega)]
        have hf2 := Nat.le_trans (run_fuel n [s] (run n s.body ⟨m.vars, m.sent, m.fuel - 1⟩).2) (hf s.body)
        split
        · exact (hG _ _ hf2 h0).symm
        · rfl
      · rw [if_neg hq, if_neg hq, if_neg hq]
def Prog.run (p : Prog) (cells : List Nat) (fuel : Nat) : Bool × MS := Fl.run (fuel + 1) p.body ⟨cells ++ List.replicate p.locals 0, [], fuel⟩
def AtomOk (nv : Nat) (a : Atom) : Prop := if a.var = true then a.v < nv else a.v ≤ 999999999
def ExprOk (nv : Nat) (e : Expr) : Prop := -1 ≤ e.op ∧ e.op ≤ 4 ∧ AtomOk nv e.a ∧ AtomOk nv e.b
def KindOk (nv nc : Nat) (s : Stmt) : Prop := (s.kind = 3 ∧ s.x < nv) ∨ (s.kind = 4 ∧ s.x < nc) ∨ s.kind = 5 ∨ (s.kind = 6 ∧ s.other = [])
def StmtsOk (nv nc : Nat) : Nat → List Stmt → Prop
  | 0, l => l = []
  | d + 1, l => ∀ s ∈ l, KindOk nv nc s ∧ ExprOk nv s.e ∧ StmtsOk nv nc d s.body ∧ StmtsOk nv nc d s.other
theorem AtomOk.mono {nv nv' : Nat} (h : nv ≤ nv') {a : Atom} (ha : AtomOk nv a) : AtomOk nv' a := by
  unfold AtomOk at ha ⊢
  split <;> simp_all <;> omega
theorem ExprOk.mono {nv nv' : Nat} (h : nv ≤ nv') {e : Expr} (he : ExprOk nv e) : ExprOk nv' e := ⟨he.1, he.2.1, he.2.2.1.mono h, he.2.2.2.mono h⟩
theorem StmtsOk.mono {nv nv' nc : Nat} (h : nv ≤ nv') : ∀ {d : Nat} {l : List Stmt}, StmtsOk nv nc d l → StmtsOk nv' nc d l
  | 0, _, hl => hl
  | d + 1, l, hl => fun s hs => by
    obtain ⟨h1, h2, h3, h4⟩ := hl s hs
    refine ⟨?_, h2.mono h, StmtsOk.mono h h3, StmtsOk.mono h h4⟩
    rcases h1 with h1 | h1
    · exact .inl ⟨h1.1, by omega⟩
    · exact .inr h1
end Fl
end Go.Proofs.YthfacjlghcdndaaGreatDoor
