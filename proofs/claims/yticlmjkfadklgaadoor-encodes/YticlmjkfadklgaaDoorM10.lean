/- Texts CdLaw Cdd Cde CdNd. -/
import Derived.Test.YticlmjkfadklgaaDoorM09
import Derived.WalkKit
import Derived.Deep.WholeRow
import Derived.StillTailTactics
/- Laws of our own on whole rows of cells. -/
set_option linter.unusedSimpArgs false
set_option linter.unusedVariables false
namespace Go.Proofs.YticlmjkfadklgaaDoor
open Go.RowKit

section
variable {P : Program} {w : World} {ops : Array Oper} {rest : List Oper} {o : Oper} {a : Act} {Q : Exit → Act → World → Prop}
/-- A whole aggregate, built. -/
theorem wpList_build_whole (hgd : o.guard = none) (t : TypeId) (parts : Array (Nat × Operand)) (ho : o.op = .build t parts) (arr : Array Value)
    (hrun : (Instr.build t (parts.map fun (i, x) => (i, a.eval x))).run P w = .ok (.agg arr) w) (h : wpList P ops Q rest (a.put o.dst (.agg arr)) w) : wpList P ops Q (o :: rest) a w :=
  wpList_plain hgd fun _ hK => by
    have hgo := hK _ _ h
    unfold Oper.wp execOp
    simp only [ho, Sem.run_bind, hrun, Result.andThen_ok, Sem.run_pure]
    exact hgo
/-- A whole aggregate, stored into the newest block. -/
theorem wpList_store_new (hgd : o.guard = none) (x y : Operand) (t : TypeId) (ho : o.op = .store t x y) (w : World) (c c' : Array Value) (hx : a.eval x = .pointer (some ⟨w.heap.size, 0, none⟩)) (hy : a.eval y = .agg c')
    (hi : (P.info? t).map (·.size) = some c'.size) (hsz : c.size = c'.size) (h1 : c'.all (·.oneCell') = true) (h : wpList P ops Q rest (a.put o.dst undef) (w.alloc (.cells c' t))) : wpList P ops Q (o :: rest) a (w.alloc (.cells c t)) :=
  wpList_plain hgd fun _ hK => by
    have hgo := hK _ _ h
    unfold Oper.wp execOp
    simp only [ho, Sem.run_bind, hx, hy, run_storeAt_new w t c c' hi hsz h1, Result.andThen_ok, Sem.run_pure]
    exact hgo
theorem wpList_store_newN (hgd : o.guard = none) (x y : Operand) (t : TypeId) (ho : o.op = .store t x y) (w : World) (N : Nat) (c c' : Array Value) (hx : a.eval x = .pointer (some ⟨N, 0, none⟩)) (hN : w.heap.size = N) (hy : a.eval y = .agg c')
    (hi : (P.info? t).map (·.size) = some c'.size) (hsz : c.size = c'.size) (h1 : c'.all (·.oneCell') = true) (h : wpList P ops Q rest (a.put o.dst undef) (w.alloc (.cells c' t))) : wpList P ops Q (o :: rest) a (w.alloc (.cells c t)) := by
  subst hN; exact wpList_store_new hgd x y t ho w c c' hx hy hi hsz h1 h
theorem exec_store_new (x y : Operand) (t : TypeId) (ho : o.op = .store t x y) (w : World) (c c' : Array Value) (hx : a.eval x = .pointer (some ⟨w.heap.size, 0, none⟩)) (hy : a.eval y = .agg c')
    (hi : (P.info? t).map (·.size) = some c'.size) (hsz : c.size = c'.size) (h1 : c'.all (·.oneCell') = true) : (execOp a.eval o).run P (w.alloc (.cells c t)) = .ok .skip (w.alloc (.cells c' t)) := by
  unfold execOp
  simp only [ho, Sem.run_bind, hx, hy, run_storeAt_new w t c c' hi hsz h1, Result.andThen_ok, Sem.run_pure]
/-- A whole row, loaded; a whole row, stored. -/
theorem wpList_load_row (hgd : o.guard = none) (x : Operand) (t : TypeId) (ho : o.op = .load t x) (g : Nat) (hx : a.eval x = .pointer (some ⟨g, 0, none⟩)) (arr : Array Value) (te : TypeId) (fr : Nat × Nat) (hg : w.heap[g]? = some (.cells arr te fr))
    (d : TypeDesc) (hu : P.underlying t = some d) (hd : (match d with | .struct _ | .array _ _ => true | _ => false) = true) (hi : (P.info? t).map (·.size) = some arr.size) (h : wpList P ops Q rest (a.put o.dst (.agg arr)) w) : wpList P ops Q (o :: rest) a w :=
  wpList_plain hgd fun _ hK => by
    have hgo := hK _ _ h
    unfold Oper.wp execOp
    simp only [ho, Sem.run_bind, hx, Instr.loadAt, Instr.sureAddr, Sem.run_pure, Result.andThen_ok, run_loadVar_row w g te t arr fr d hg hu hd hi]
    exact hgo
theorem wpList_store_row (hgd : o.guard = none) (x y : Operand) (t : TypeId) (ho : o.op = .store t x y) (g : Nat) (hx : a.eval x = .pointer (some ⟨g, 0, none⟩)) (c c' : Array Value) (hy : a.eval y = .agg c') (te : TypeId) (hg : w.heap[g]? = some (.cells c te (0, 0)))
    (hi : (P.info? t).map (·.size) = some c'.size) (hsz : c.size = c'.size) (h1 : c'.all (·.oneCell') = true) (h : wpList P ops Q rest (a.put o.dst undef) (w.setRow g c')) : wpList P ops Q (o :: rest) a w :=
  wpList_plain hgd fun _ hK => by
    have hgo := hK _ _ h
    unfold Oper.wp execOp
    simp only [ho, Sem.run_bind, hx, hy, Instr.storeAt, Instr.sureAddr, Sem.run_pure, Result.andThen_ok, run_storeVar_row w g te t c c' hg hi hsz h1]
    exact hgo
theorem still_value {L : Act → Prop} (hgd : o.guard = none) (v : Value) (hrun : (execOp a.eval o).run P w = .ok (.value v) w) (h : wpStill P ops w L rest (a.put o.dst v)) : wpStill P ops w L (o :: rest) a := by
  unfold wpStill
  simp only [Region.wanted, hgd, if_true, Oper.still, hrun, Oper.stillUpon, true_and]
  exact h
theorem exec_load_row (x : Operand) (t : TypeId) (ho : o.op = .load t x) (g : Nat) (hx : a.eval x = .pointer (some ⟨g, 0, none⟩)) (arr : Array Value) (te : TypeId) (fr : Nat × Nat) (hg : w.heap[g]? = some (.cells arr te fr))
    (d : TypeDesc) (hu : P.underlying t = some d) (hd : (match d with | .struct _ | .array _ _ => true | _ => false) = true) (hi : (P.info? t).map (·.size) = some arr.size) : (execOp a.eval o).run P w = .ok (.value (.agg arr)) w := by
  unfold execOp
  simp only [ho, Sem.run_bind, hx, Instr.loadAt, Instr.sureAddr, Sem.run_pure, Result.andThen_ok, run_loadVar_row w g te t arr fr d hg hu hd hi]
theorem exec_lookup (m x : Operand) (t : TypeId) (ho : o.op = .lookup t m x true) (mv kv v : Value) (hm : a.eval m = mv) (hx : a.eval x = kv) (hrun : (Instr.lookup t mv kv true).run P w = .ok v w) : (execOp a.eval o).run P w = .ok (.value v) w := by
  unfold execOp
  simp only [ho, Sem.run_bind, hm, hx, hrun, Result.andThen_ok, Sem.run_pure]
/-- A result that lies in a block. -/
theorem results_cell1 {P : Program} {fn : Func} {p : Tmp} {ty : TypeId} (h : fn.results = #[.cell p ty]) (tmps : Array Value) (w : World) (ad : Addr) (v : Value) (ha : tmps.getD p undef = .pointer (some ad)) (hl : (loadVar ty ad).run P w = .ok v w) :
    (results fn tmps).run P w = .ok v w := by
  have ha' : tmps[p]?.getD undef = .pointer (some ad) := by rw [← ha, Array.getD_eq_getD_getElem?]
  simp only [results, h]
  simp [Sem.run_bind, Result.andThen, ha', asAddr, hl]
end
end Go.Proofs.YticlmjkfadklgaaDoor

/- The program: what each kind has. -/
set_option linter.unusedSimpArgs false
set_option linter.unusedVariables false
namespace Go.Proofs.YticlmjkfadklgaaDoor
open Go.RowKit

/-- What each kind has, cell by cell. -/
def rulesArr : Array Value := #[
  .string ⟨#[110, 117, 109]⟩, .int .i64 1, .bool false, .func (.func 44) #[] #[],
  .string ⟨#[118, 97, 114]⟩, .int .i64 1, .bool false, .func (.func 44) #[] #[],
  .string ⟨#[111, 112]⟩, .int .i64 3, .bool false, .func (.func 46) #[] #[],
  .string ⟨#[115, 101, 116]⟩, .int .i64 2, .bool false, .func (.func 45) #[] #[],
  .string ⟨#[111, 117, 116]⟩, .int .i64 2, .bool false, .func (.func 45) #[] #[],
  .string ⟨#[105, 102]⟩, .int .i64 3, .bool false, .func (.func 47) #[] #[],
  .string ⟨#[119, 104, 105, 108, 101]⟩, .int .i64 2, .bool false, .func (.func 48) #[] #[],
  .string ⟨#[98, 108, 111, 99, 107]⟩, .int .i64 0, .bool true, .func (.func 49) #[] #[]]
theorem Tryd.infoRules : (Tryd.prog.info? 80).map (·.size) = some rulesArr.size := by kernel_rfl
theorem rulesOne : rulesArr.all (·.oneCell') = true := by kernel_rfl
theorem rulesSize : (32 : Nat) = rulesArr.size := by kernel_rfl

set_option maxRecDepth 100000 in
set_option maxHeartbeats 4000000 in
theorem rules_any (w : World) : Calls Tryd.prog 32 #[] w fun e w' => e = .returned (.agg rulesArr) ∧ w' = w.alloc (.cells rulesArr 80) := by
  go_enter Tryd.func32, Tryd.ntmps32
  go_wp2_with (first | (refine wpList_build_whole rfl 80 _ rfl rulesArr (by kernel_rfl) ?_) | (refine wpList_store_new rfl _ _ 80 rfl _ _ rulesArr rfl rfl Tryd.infoRules rulesSize rulesOne ?_))
  refine bodyPost_ret (v := .agg rulesArr) ?_ rfl ⟨rfl, rfl⟩
  exact results_cell1 (p := 0) (ty := 80) Tryd.results32 _ _ ⟨w.heap.size, 0, none⟩ _ rfl (run_loadVar_new w 80 rulesArr 8 79 Tryd.underlying80 Tryd.infoRules)

set_option maxRecDepth 100000 in
set_option maxHeartbeats 4000000 in
theorem places_any (rb ro nb n : Nat) (w : World) (hn : n ≤ 3) (hrb : rb < w.heap.size) (h : w.cell? ⟨rb, ro + 1, none⟩ = some (.int .i64 n)) : Calls Tryd.prog 68 #[.pointer (some ⟨rb, ro, none⟩), .pointer (some ⟨nb, 0, none⟩)] w fun e w' => e = .returned (.slice (some ⟨w.heap.size, 0, none⟩) n 3) ∧ w' = (w.alloc (.cells #[.pointer (some ⟨nb, 2, none⟩), .pointer (some ⟨nb, 3, none⟩), .pointer (some ⟨nb, 4, none⟩)] 142)).drew := by
  have h2 : ∀ o, (w.alloc o).cell? ⟨rb, ro + 1, none⟩ = some (.int .i64 n) := fun o => by rw [World.cell?_alloc_past _ _ _ hrb]; exact h
  go_enter Tryd.func68, Tryd.ntmps68
  go_wp2_with fail
  go_region
  go_wp2
  go_ret
  exact ⟨rfl, rfl⟩
end Go.Proofs.YticlmjkfadklgaaDoor

/- The program: the nodes that a node is by. -/
set_option linter.unusedSimpArgs false
set_option linter.unusedVariables false
namespace Go.Proofs.YticlmjkfadklgaaDoor
open Go.RowKit

/-- A node in memory. -/
structure NodeAt (w : World) (nb no : Nat) (nd : Fl.Node) (lv : Value) : Prop where
  c0 : w.cell? ⟨nb, no, none⟩ = some (.int .i64 nd.kind)
  c1 : w.cell? ⟨nb, no + 1, none⟩ = some (.int .i64 nd.level)
  c2 : w.cell? ⟨nb, no + 2, none⟩ = some (.int .i64 nd.a)
  c3 : w.cell? ⟨nb, no + 3, none⟩ = some (.int .i64 nd.b)
  c4 : w.cell? ⟨nb, no + 4, none⟩ = some (.int .i64 nd.c)
  c5 : w.cell? ⟨nb, no + 5, none⟩ = some lv
  hl : IntsAt w.heap.size w lv nd.list
theorem NodeAt.below {w w' : World} {nb no : Nat} {nd : Fl.Node} {lv : Value} (h : NodeAt w nb no nd lv) (hb : Below w.heap.size w w') : NodeAt w' nb no nd lv := by
  have hn : nb < w.heap.size := World.block_lt_of_cell? w _ h.c0
  have q : ∀ o, w'.cell? ⟨nb, o, none⟩ = w.cell? ⟨nb, o, none⟩ := fun o => hb.cell (p := ⟨nb, o, none⟩) hn
  exact ⟨(q _).trans h.c0, (q _).trans h.c1, (q _).trans h.c2, (q _).trans h.c3, (q _).trans h.c4, (q _).trans h.c5, (h.hl.below hb).mono hb.size⟩

/-- Which function tells the nodes that a kind is by. -/
def byF (k : Int) : FuncId :=
  if k = 2 then 46 else if k = 3 then 45 else if k = 4 then 45 else if k = 5 then 47 else if k = 6 then 48 else if k = 7 then 49 else 44

def ByEnds (ps : List Int) (w : World) (e : Ending) (w' : World) : Prop := ∃ pv, e = .returned pv ∧ IntsAt w'.heap.size w' pv ps ∧ Below w.heap.size w w'

set_option maxRecDepth 100000 in
set_option maxHeartbeats 2000000 in
theorem by1 (v : Value) (w : World) : Calls Tryd.prog 44 #[v] w (ByEnds [] w) := by
  go_enter Tryd.func44, Tryd.ntmps44
  go_wp2
  go_ret
  exact ⟨_, rfl, IntsAt.nil _ _, Below.refl _ _⟩
theorem ByEnds.fresh (w : World) (xs : List Int) (e : TypeId) (hl : xs.length ≤ maxLen) : ByEnds xs w (.returned (.slice (some ⟨w.heap.size, 0, none⟩) xs.length xs.length)) (w.alloc (.cells (xs.map (Value.int .i64)).toArray e)) :=
  ⟨_, rfl, IntsAt.fresh xs e hl _ (by simp), (Below.refl _ _).alloc (Nat.le_refl _) _⟩
theorem ByEnds.freshD (w : World) (xs : List Int) (e : TypeId) (hl : xs.length ≤ maxLen) : ByEnds xs w (.returned (.slice (some ⟨w.heap.size, 0, none⟩) xs.length xs.length)) (w.alloc (.cells (xs.map (Value.int .i64)).toArray e)).drew := by
  obtain ⟨pv, h1, h2, h3⟩ := ByEnds.fresh w xs e hl
  exact ⟨pv, h1, h2.below ((Below.refl _ _).drew), h3.drew⟩
set_option maxRecDepth 100000 in
set_option maxHeartbeats 2000000 in
theorem by2 {w : World} {nb no : Nat} {nd : Fl.Node} {lv : Value} (h : NodeAt w nb no nd lv) : Calls Tryd.prog 45 #[.pointer (some ⟨nb, no, none⟩)] w (ByEnds [nd.b] w) := by
  have c3 := h.c3
  go_enter Tryd.func45, Tryd.ntmps45
  go_wp2
  go_ret
  exact ByEnds.fresh _ [nd.b] _ (by simp [maxLen])
set_option maxRecDepth 100000 in
set_option maxHeartbeats 2000000 in
theorem by3 {w : World} {nb no : Nat} {nd : Fl.Node} {lv : Value} (h : NodeAt w nb no nd lv) : Calls Tryd.prog 46 #[.pointer (some ⟨nb, no, none⟩)] w (ByEnds [nd.b, nd.c] w) := by
  have c3 := h.c3
  have c4 := h.c4
  go_enter Tryd.func46, Tryd.ntmps46
  go_wp2_with fail
  go_still_tail 8, (by kernel_rfl)
  go_wp2
  go_ret
  exact ByEnds.freshD _ [nd.b, nd.c] _ (by simp [maxLen])
set_option maxRecDepth 100000 in
set_option maxHeartbeats 2000000 in
theorem by4 {w : World} {nb no : Nat} {nd : Fl.Node} {lv : Value} (h : NodeAt w nb no nd lv) : Calls Tryd.prog 47 #[.pointer (some ⟨nb, no, none⟩)] w (ByEnds [nd.a, nd.b, nd.c] w) := by
  have c2 := h.c2
  have c3 := h.c3
  have c4 := h.c4
  go_enter Tryd.func47, Tryd.ntmps47
  go_wp2_with fail
  go_still_tail 12, (by kernel_rfl)
  go_wp2
  go_ret
  exact ByEnds.freshD _ [nd.a, nd.b, nd.c] _ (by simp [maxLen])
set_option maxRecDepth 100000 in
set_option maxHeartbeats 2000000 in
theorem by5 {w : World} {nb no : Nat} {nd : Fl.Node} {lv : Value} (h : NodeAt w nb no nd lv) : Calls Tryd.prog 48 #[.pointer (some ⟨nb, no, none⟩)] w (ByEnds [nd.a, nd.b] w) := by
  have c2 := h.c2
  have c3 := h.c3
  go_enter Tryd.func48, Tryd.ntmps48
  go_wp2_with fail
  go_still_tail 8, (by kernel_rfl)
  go_wp2
  go_ret
  exact ByEnds.freshD _ [nd.a, nd.b] _ (by simp [maxLen])
set_option maxRecDepth 100000 in
set_option maxHeartbeats 2000000 in
theorem by6 {w : World} {nb no : Nat} {nd : Fl.Node} {lv : Value} (h : NodeAt w nb no nd lv) : Calls Tryd.prog 49 #[.pointer (some ⟨nb, no, none⟩)] w (ByEnds nd.list w) := by
  have c5 := h.c5
  have HL : Hid (IntsAt w.heap.size w lv nd.list) := h.hl
  obtain ⟨ao, cap, rfl, _⟩ := h.hl
  clear h
  go_enter Tryd.func49, Tryd.ntmps49
  go_wp2
  go_ret
  exact ⟨_, rfl, HL.out, Below.refl _ _⟩
theorem by_any {w : World} {nb no : Nat} {nd : Fl.Node} {lv : Value} (h : NodeAt w nb no nd lv) : Calls Tryd.prog (byF nd.kind) #[.pointer (some ⟨nb, no, none⟩)] w (ByEnds (prem nd) w) := by
  unfold byF prem
  by_cases h2 : nd.kind = 2
  · rw [if_pos h2, if_pos h2]; exact by3 h
  rw [if_neg h2, if_neg h2]
  by_cases h3 : nd.kind = 3
  · rw [if_pos h3, if_pos (Or.inl h3)]; exact by2 h
  rw [if_neg h3]
  by_cases h4 : nd.kind = 4
  · rw [if_pos h4, if_pos (Or.inr h4)]; exact by2 h
  rw [if_neg h4, if_neg (show ¬ (nd.kind = 3 ∨ nd.kind = 4) from fun h => h.elim h3 h4)]
  by_cases h5 : nd.kind = 5
  · rw [if_pos h5, if_pos h5]; exact by4 h
  rw [if_neg h5, if_neg h5]
  by_cases h6 : nd.kind = 6
  · rw [if_pos h6, if_pos h6]; exact by5 h
  rw [if_neg h6, if_neg h6]
  by_cases h7 : nd.kind = 7
  · rw [if_pos h7, if_pos h7]; exact by6 h
  rw [if_neg h7, if_neg h7]; exact by1 _ _

theorem by_enter (k : Int) (v : Value) (w : World) : (callFunc (byF k) #[v]).run Tryd.prog w = .ok (.enter (byF k) #[v]) w := by
  unfold byF
  repeat' split
  all_goals kernel_rfl

set_option maxRecDepth 100000 in
set_option maxHeartbeats 4000000 in
theorem isBehind_any (rb ro f k : Nat) (np : Value) (ps : List Int) (w : World) (hf : w.cell? ⟨rb, ro + 3, none⟩ = some (.func (.func f) #[] #[])) (hin : (callFunc f #[np]).run Tryd.prog w = .ok (.enter f #[np]) w) (hc : Calls Tryd.prog f #[np] w (ByEnds ps w)) :
    Calls Tryd.prog 63 #[.pointer (some ⟨rb, ro, none⟩), np, .int .i64 k] w fun e w' => e = .returned (.bool (!ps.any (fun x => decide ((k : Int) ≤ x)))) ∧ Below w.heap.size w w' := by
  have HC : Hid (Calls Tryd.prog f #[np] w (ByEnds ps w)) := hc
  clear hc
  go_enter Tryd.func63, Tryd.ntmps63
  go_wp2_with fail
  refine (HC.out).mono ?_
  rintro e w1 ⟨pv, rfl, hp, hb1⟩
  obtain ⟨pao, pcap, rfl, _, hpm, hpc⟩ := hp
  unfold maxLen at hpm
  have HPC : Hid (ps ≠ [] → ∃ b off, pao = some ⟨b, off, none⟩ ∧ b < w1.heap.size ∧ ∀ i, i < ps.length → w1.cell? ⟨b, off + i, none⟩ = some (.int .i64 (ps.getD i 0))) := hpc
  have HB1 : Hid (Below w.heap.size w w1) := hb1
  clear hpc hb1
  go_wp2_with fail
  go_loop [16] (fun i => ∃ j : Nat, j ≤ ps.length ∧ i = .int .i64 j ∧ ∀ t, t < j → ¬ (k : Int) ≤ ps.getD t 0) (fun i => ps.length - (intOf i).toNat)
  case atStart => exact ⟨0, by omega, rfl, fun t ht => by omega⟩
  case round =>
    obtain ⟨j, hj, rfl, hsm⟩ := hrel
    have HSM : Hid (∀ t, t < j → ¬ (k : Int) ≤ ps.getD t 0) := hsm
    clear hsm
    by_cases hjl : j < ps.length
    · obtain ⟨pb, po, rfl, hpb, hpcell⟩ := HPC.out (by intro h; rw [h] at hjl; simp at hjl)
      have hcj := hpcell j hjl
      obtain ⟨x, hx⟩ : ∃ x, x = ps.getD j 0 := ⟨_, rfl⟩
      rw [← hx] at hcj
      have HXJ : Hid (x = ps.getD j 0) := hx
      have hji : (j : Int) < (ps.length : Int) := by omega
      clear hpcell hx
      by_cases hkx : (k : Int) ≤ x
      · have HAN : Hid ((!ps.any (fun x => decide ((k : Int) ≤ x))) = false) := by
          show (!ps.any (fun x => decide ((k : Int) ≤ x))) = false
          rw [Bool.not_eq_false', List.any_eq_true]; exact ⟨x, by rw [HXJ.out]; exact getD_mem hjl, by simpa using hkx⟩
        go_wp2
        go_ret
        exact ⟨ret_bool HAN.out.symm, HB1.out⟩
      · go_wp2
        go_round
        case rel => exact ⟨j + 1, by omega, by go_num, fun t ht => by
          by_cases h : t < j
          · exact HSM.out t h
          · have : t = j := by omega
            subst this; rw [← HXJ.out]; omega⟩
        case measure => simp [intOf]; omega
    · have HAN : Hid ((!ps.any (fun x => decide ((k : Int) ≤ x))) = true) := by
        show (!ps.any (fun x => decide ((k : Int) ≤ x))) = true
        rw [Bool.not_eq_true', List.any_eq_false]; intro x hx
        obtain ⟨i, hi, rfl⟩ := List.getElem_of_mem hx
        have := HSM.out i (by omega)
        rw [List.getD_eq_getElem?_getD, List.getElem?_eq_getElem hi] at this
        simpa using this
      go_wp2
      go_ret
      exact ⟨ret_bool HAN.out.symm, HB1.out⟩
end Go.Proofs.YticlmjkfadklgaaDoor

/- A node that is being made, in a block of its own. -/
set_option linter.unusedSimpArgs false
set_option linter.unusedVariables false
namespace Go.Proofs.YticlmjkfadklgaaDoor
open Go.RowKit

structure Nd (w : World) (N : Nat) (kd lev a b c : Int) (l : Value) : Prop where
  c0 : w.cell? ⟨N, 0, none⟩ = some (.int .i64 kd)
  c1 : w.cell? ⟨N, 1, none⟩ = some (.int .i64 lev)
  c2 : w.cell? ⟨N, 2, none⟩ = some (.int .i64 a)
  c3 : w.cell? ⟨N, 3, none⟩ = some (.int .i64 b)
  c4 : w.cell? ⟨N, 4, none⟩ = some (.int .i64 c)
  c5 : w.cell? ⟨N, 5, none⟩ = some l
  f : ∀ j, w.frozen? ⟨N, j, none⟩ = false
section
variable {w w' : World} {N : Nat} {kd lev a b c : Int} {l : Value}
theorem Nd.lt (h : Nd w N kd lev a b c l) : N < w.heap.size := World.block_lt_of_cell? w _ h.c0
theorem Nd.new (w : World) (kd lev a b c : Int) (l : Value) (e : TypeId) : Nd (w.alloc (.cells #[.int .i64 kd, .int .i64 lev, .int .i64 a, .int .i64 b, .int .i64 c, l] e)) w.heap.size kd lev a b c l := by
  refine ⟨?_, ?_, ?_, ?_, ?_, ?_, fun j => by simp⟩ <;> (rw [World.cell?_alloc_new]; rfl)
theorem Nd.grown (h : Nd w N kd lev a b c l) {row : Option Nat} (g : w.grownBy w' row) (hne : some N ≠ row) : Nd w' N kd lev a b c l :=
  ⟨g.cell h.c0 hne, g.cell h.c1 hne, g.cell h.c2 hne, g.cell h.c3 hne, g.cell h.c4 hne, g.cell h.c5 hne, fun j => (World.frozen?_of_block (w := w) (a := ⟨N, j, none⟩) (g.block N h.lt hne)).trans (h.f j)⟩
theorem Nd.drewN (h : Nd w N kd lev a b c l) (n : Nat) : Nd (w.drewN n) N kd lev a b c l := ⟨h.c0, h.c1, h.c2, h.c3, h.c4, h.c5, h.f⟩
theorem Nd.drew (h : Nd w N kd lev a b c l) : Nd w.drew N kd lev a b c l := ⟨h.c0, h.c1, h.c2, h.c3, h.c4, h.c5, h.f⟩
theorem nd_off {w : World} {N i j : Nat} {v : Value} (hne : i ≠ j) : (w.setCell ⟨N, i, none⟩ v).cell? ⟨N, j, none⟩ = w.cell? ⟨N, j, none⟩ := by
  apply World.cell?_setCell_other; intro hh; injection hh with _ h2; exact hne h2
theorem nd_same {w : World} {N i : Nat} {v u : Value} (h : w.cell? ⟨N, i, none⟩ = some u) : (w.setCell ⟨N, i, none⟩ v).cell? ⟨N, i, none⟩ = some v := World.cell?_setCell_same' _ _ _ (by simp [h])
theorem Nd.set1 (h : Nd w N kd lev a b c l) (x : Int) : Nd (w.setCell ⟨N, 1, none⟩ (.int .i64 x)) N kd x a b c l :=
  ⟨(nd_off (by decide)).trans h.c0, nd_same h.c1, (nd_off (by decide)).trans h.c2, (nd_off (by decide)).trans h.c3, (nd_off (by decide)).trans h.c4, (nd_off (by decide)).trans h.c5, fun j => (World.frozen?_setCell _ _ _ _).trans (h.f j)⟩
theorem Nd.set2 (h : Nd w N kd lev a b c l) (x : Int) : Nd (w.setCell ⟨N, 2, none⟩ (.int .i64 x)) N kd lev x b c l :=
  ⟨(nd_off (by decide)).trans h.c0, (nd_off (by decide)).trans h.c1, nd_same h.c2, (nd_off (by decide)).trans h.c3, (nd_off (by decide)).trans h.c4, (nd_off (by decide)).trans h.c5, fun j => (World.frozen?_setCell _ _ _ _).trans (h.f j)⟩
theorem Nd.set3 (h : Nd w N kd lev a b c l) (x : Int) : Nd (w.setCell ⟨N, 3, none⟩ (.int .i64 x)) N kd lev a x c l :=
  ⟨(nd_off (by decide)).trans h.c0, (nd_off (by decide)).trans h.c1, (nd_off (by decide)).trans h.c2, nd_same h.c3, (nd_off (by decide)).trans h.c4, (nd_off (by decide)).trans h.c5, fun j => (World.frozen?_setCell _ _ _ _).trans (h.f j)⟩
theorem Nd.set4 (h : Nd w N kd lev a b c l) (x : Int) : Nd (w.setCell ⟨N, 4, none⟩ (.int .i64 x)) N kd lev a b x l :=
  ⟨(nd_off (by decide)).trans h.c0, (nd_off (by decide)).trans h.c1, (nd_off (by decide)).trans h.c2, (nd_off (by decide)).trans h.c3, nd_same h.c4, (nd_off (by decide)).trans h.c5, fun j => (World.frozen?_setCell _ _ _ _).trans (h.f j)⟩
theorem Nd.set5 (h : Nd w N kd lev a b c l) (x : Value) : Nd (w.setCell ⟨N, 5, none⟩ x) N kd lev a b c x :=
  ⟨(nd_off (by decide)).trans h.c0, (nd_off (by decide)).trans h.c1, (nd_off (by decide)).trans h.c2, (nd_off (by decide)).trans h.c3, (nd_off (by decide)).trans h.c4, nd_same h.c5, fun j => (World.frozen?_setCell _ _ _ _).trans (h.f j)⟩
theorem Nd.nodeAt (h : Nd w N kd lev a b c l) {ls : List Int} (hl : IntsAt w.heap.size w l ls) : NodeAt w N 0 ⟨kd, lev, a, b, c, ls⟩ l := ⟨h.c0, h.c1, h.c2, h.c3, h.c4, h.c5, hl⟩
end
/-- A store into a block of the call's own. -/
theorem grown_set (w : World) (N i : Nat) (v : Value) : w.grownBy (w.setCell ⟨N, i, none⟩ v) (some N) :=
  ⟨rfl, rfl, rfl, by simp [World.setCell], fun k hk hne => Below.heap_setCell _ _ _ _ (by intro h; exact hne (by rw [h]))⟩
theorem Mv.andSet {w w1 : World} {b N : Nat} (h : Mv w w1 b) (hb : b < w.heap.size) (hN : w.heap.size ≤ N) (i : Nat) (v : Value) : Mv w (w1.setCell ⟨N, i, none⟩ v) b :=
  h.andGrown (grown_set w1 N i v) hb (fun k e => by injection e with e; omega)
end Go.Proofs.YticlmjkfadklgaaDoor
