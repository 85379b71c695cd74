/- Texts Rnb Mcf Psp CeFork. -/
import Derived.Test.YthfacjlghcdndaaGreatDoorM34
set_option linter.unusedSimpArgs false
set_option linter.unusedVariables false
namespace Go.Proofs.YthfacjlghcdndaaGreatDoor
open Go.RowKit
namespace Fl
theorem go_again (s : Stmt) (rest : List Stmt) (m : MS) (h0 : m.fuel ≠ 0) (hk : s.kind = 6) (hv : exprV m.vars s.e ≠ 0) (hq : (go s.body m.tick).1 = true) : go (s :: rest) m = go (s :: rest) (go s.body m.tick).2 := by
  rw [go_cons s rest m, go_cons s rest (go s.body m.tick).2]
  have : go [s] m = go [s] (go s.body m.tick).2 := by rw [go_one s m h0, if_neg (by omega), if_neg (by omega), if_neg (by omega), if_neg hv, if_pos hq]
  rw [this]
end Fl
section
variable {lo base Kb Vb nv : Nat} {va : Option Addr} {vc : Nat} {w0 w w' : World} {m : Fl.MS} {sv : Value}
theorem RunAt.setFuel (h : RunAt lo base Kb Vb nv va vc w0 w m sv) (n : Nat) (hn : n ≤ m.fuel) : RunAt lo base Kb Vb nv va vc w0 (w.setCell ⟨Kb, 2, none⟩ (.int .i64 n)) ⟨m.vars, m.sent, n⟩ sv := by
  obtain ⟨b1, b2⟩ := h.inn.hba
  obtain ⟨l1, l2, l3⟩ := h.inn.hlo
  have n1 := h.inn.nd
  have hbz := h.hbz
  have q : ∀ k, k ≠ Kb → (w.setCell ⟨Kb, 2, none⟩ (.int .i64 n)).heap[k]? = w.heap[k]? := fun k hk => setCell_block _ _ _ _ _ hk
  exact { inn := h.inn, bel := h.bel.setCell (by show lo ≤ Kb; omega) _, fx := fun b f1 f2 f3 => (q b f2).trans (h.fx b f1 f2 f3), hbz := by rw [setCell_size]; exact hbz, ha := h.ha, hc := h.hc,
          cK := (h.cK.set (j := 2) (by omega) (.int .i64 n)).congr (fun j hj => by rcases (show j = 0 ∨ j = 1 ∨ j = 2 by omega) with rfl | rfl | rfl <;> rfl),
          hv := h.hv, cV := h.cV.block (q _ (Ne.symm n1)), vb := h.vb, sl := by have := h.sl; simp only; omega, os := ownsRow_setCell_below h.os (by show Kb < base; omega) _ }
theorem RunAt.setVar (h : RunAt lo base Kb Vb nv va vc w0 w m sv) (x v : Nat) (hx : x < nv) (hv : v < 4294967296) : RunAt lo base Kb Vb nv va vc w0 (w.setCell ⟨Vb, x, none⟩ (.int .u32 v)) ⟨m.vars.set x v, m.sent, m.fuel⟩ sv := by
  obtain ⟨b1, b2⟩ := h.inn.hba
  obtain ⟨l1, l2, l3⟩ := h.inn.hlo
  have n1 := h.inn.nd
  have hbz := h.hbz
  have q : ∀ k, k ≠ Vb → (w.setCell ⟨Vb, x, none⟩ (.int .u32 v)).heap[k]? = w.heap[k]? := fun k hk => setCell_block _ _ _ _ _ hk
  have hlen := h.hv
  refine { inn := h.inn, bel := h.bel.setCell (by show lo ≤ Vb; omega) _, fx := fun b f1 f2 f3 => (q b (by omega)).trans (h.fx b f1 f2 f3), hbz := by rw [setCell_size]; exact hbz, ha := h.ha, hc := h.hc, cK := h.cK.block (q _ n1),
           hv := by simp [hlen], cV := ?_, vb := fun y hy => ?_, sl := h.sl, os := ownsRow_setCell_below h.os (by show Vb < base; omega) _ }
  · refine (h.cV.set (j := x) hx (.int .u32 v)).congr (fun i hi => ?_)
    simp only [getD_set' m.vars x v i (by omega)]
    split <;> rfl
  · rcases List.mem_or_eq_of_mem_set hy with h1 | h1
    · exact h.vb y h1
    · omega
theorem RunAt.addSent (h : RunAt lo base Kb Vb nv va vc w0 w m sv) {W3 W4 : World} {sv' : Value} (c v : Nat) (hf : m.sent.length + 1 + m.fuel ≤ 2000) (hb3 : Below w.heap.size w W3) (ho4 : W4.ownsRow base 63 2 sv' (m.sent.length + 1) (sentV m.sent ++ [.int .i64 c, .int .u32 v])) (hg4 : W3.grownBy W4 sv.ownBlock) :
    RunAt lo base Kb Vb nv va vc w0 (W4.setCell ⟨Kb, 1, none⟩ sv') ⟨m.vars, m.sent ++ [(c, v)], m.fuel⟩ sv' := by
  have hw3 := h.below hb3
  obtain ⟨b1, b2⟩ := h.inn.hba
  obtain ⟨l1, l2, l3⟩ := h.inn.hlo
  have n1 := h.inn.nd
  have hbz := hw3.hbz
  have hz4 := hg4.size
  have hlt := h.os.lt
  have q4 : ∀ k, k < base → W4.heap[k]? = W3.heap[k]? := fun k hk => hg4.block k (by omega) (fun hh => by have := (hlt k hh.symm).1; omega)
  have q : ∀ k, k < base → k ≠ Kb → (W4.setCell ⟨Kb, 1, none⟩ sv').heap[k]? = W3.heap[k]? := fun k hk hne => (setCell_block _ _ _ _ _ hne).trans (q4 k hk)
  have hb4 : Below lo w0 W4 := hw3.bel.grown hg4 (by have := hw3.bel.size; omega) (fun k hk => by have := (hlt k hk).1; omega)
  exact { inn := h.inn, bel := hb4.setCell (by show lo ≤ Kb; omega) _, fx := fun b f1 f2 f3 => (q b f1 f2).trans (hw3.fx b f1 f2 f3), hbz := by rw [setCell_size]; omega, ha := h.ha, hc := h.hc,
          cK := ((hw3.cK.block (q4 _ b1)).set (j := 1) (by omega) sv').congr (fun j hj => by rcases (show j = 0 ∨ j = 1 ∨ j = 2 by omega) with rfl | rfl | rfl <;> rfl),
          hv := h.hv, cV := hw3.cV.block (q _ b2 (Ne.symm n1)), vb := h.vb, sl := by simp; omega, os := by rw [sentV_snoc, List.length_append]; exact ownsRow_setCell_below ho4 (by show Kb < base; omega) _ }
theorem RunAt.fuelIn (h : RunAt lo base Kb Vb nv va vc w0 w m sv) : Go.Proofs.YthfacjlghcdndaaGreatDoor.fuelIn Kb w = m.fuel := by
  unfold Go.Proofs.YthfacjlghcdndaaGreatDoor.fuelIn
  rw [show w.cell? ⟨Kb, 2, none⟩ = some (.int .i64 m.fuel) from h.cK.c 2 (by omega)]
  simp
end
theorem heap_at' (u : World) (o : Obj) (k : Nat) (hk : u.heap.size = k) : (u.alloc o).heap[k]? = some o := by subst hk; exact heap_alloc_last u o
structure RowStays (base : Nat) (w : World) (sv : Value) (w' : World) (sv' : Value) : Prop where
  blk : ∀ b, base ≤ b → b < w.heap.size → sv.ownBlock ≠ some b → w'.heap[b]? = w.heap[b]?
  own : ∀ b, sv'.ownBlock = some b → sv.ownBlock = some b ∨ w.heap.size ≤ b
  sz : w.heap.size ≤ w'.heap.size
theorem RowStays.refl (base : Nat) (w : World) (sv : Value) : RowStays base w sv w sv := ⟨fun _ _ _ _ => rfl, fun _ h => .inl h, Nat.le_refl _⟩
theorem RowStays.trans {base : Nat} {w w1 w2 : World} {sv sv1 sv2 : Value} (h : RowStays base w sv w1 sv1) (k : RowStays base w1 sv1 w2 sv2) : RowStays base w sv w2 sv2 :=
  ⟨fun b h1 h2 h3 => (k.blk b h1 (by have := h.sz; omega) (fun hh => Or.elim (h.own b hh) (fun h4 => h3 h4) (fun h4 => by omega))).trans (h.blk b h1 h2 h3),
   fun b hb => by
    rcases k.own b hb with h1 | h1
    · exact h.own b h1
    · right; have := h.sz; omega, Nat.le_trans h.sz k.sz⟩
theorem RowStays.below {base : Nat} {w w' : World} {sv : Value} (h : Below w.heap.size w w') : RowStays base w sv w' sv := ⟨fun b _ hb _ => h.block b hb, fun _ h => .inl h, h.size⟩
theorem RowStays.set {base : Nat} {w : World} {sv : Value} (b i : Nat) (v : Value) (hb : b < base) : RowStays base w sv (w.setCell ⟨b, i, none⟩ v) sv := ⟨fun k h1 _ _ => setCell_block _ _ _ _ _ (by omega), fun _ h => .inl h, by rw [setCell_size]; exact Nat.le_refl _⟩
def DoEnds (lo base Kb Vb nv : Nat) (va : Option Addr) (vc : Nat) (w0 : World) (w : World) (sv : Value) (q : Bool × Fl.MS) (e : Ending) (w' : World) : Prop :=
  e = .returned (.bool q.1) ∧ ∃ sv', RunAt lo base Kb Vb nv va vc w0 w' q.2 sv' ∧ RowStays base w sv w' sv'
def DoOk (lo base Kb Vb nv nc : Nat) (va : Option Addr) (vc : Nat) (w0 : World) (f : Nat) : Prop :=
  ∀ (w : World) (m : Fl.MS) (sv : Value) (d : Nat) (v : Value) (l : List Fl.Stmt), m.fuel < f → RunAt lo base Kb Vb nv va vc w0 w m sv → RStmts d (Firm base Kb Vb) w0 v l → Fl.StmtsOk nv nc d l →
    Calls Tryz.prog 15 #[.pointer (some ⟨Kb, 0, none⟩), v] w (DoEnds lo base Kb Vb nv va vc w0 w sv (Fl.go l m))
section
variable {lo base Kb Vb nv nc : Nat} {va : Option Addr} {vc : Nat} {w0 : World}
set_option maxRecDepth 100000 in
set_option maxHeartbeats 4000000 in
theorem do_step {f : Nat} (H : DoOk lo base Kb Vb nv nc va vc w0 f) : DoOk lo base Kb Vb nv nc va vc w0 (f + 1) := by
  intro w m sv d v l hm hw hv hl
  by_cases hnil : l = []
  · subst hnil
    obtain ⟨ao, cp, rfl⟩ : ∃ ao cp, v = .slice ao 0 cp := by
      cases d with
      | zero => exact ⟨_, _, hv.2⟩
      | succ d => obtain ⟨ao, c, h1, -⟩ := hv; exact ⟨_, _, h1⟩
    have HEND : Hid (DoEnds lo base Kb Vb nv va vc w0 w sv (Fl.go [] m) (.returned (.bool true)) w) := ⟨rfl, _, hw, RowStays.refl _ _ _⟩
    clear hm hw hv hl H
    go_enter Tryz.func15, Tryz.ntmps15
    go_wp2_with fail
    go_loopw [5] (fun i wr => i = .int .i64 0 ∧ wr = w) (fun i _ => 0)
    case atStart => exact ⟨rfl, rfl⟩
    case round =>
      obtain ⟨rfl, hwr⟩ := hrel
      rw [hwr]
      clear hwr
      go_wp2
      go_ret
      exact HEND.out
  · cases d with
    | zero => exact absurd hv.1 hnil
    | succ d =>
      obtain ⟨ao, cp, rfl, h2, h3, h4, h5⟩ := hv
      obtain ⟨b, rfl, hb, hc⟩ := h5 hnil
      have HST : Hid (∀ k, k < l.length → ∃ bv ov, (∀ j, j < 10 → w0.cell? ⟨b, k * 10 + j, none⟩ = some ((stCells (l.getD k noS) bv ov).getD j undef)) ∧ RStmts d (Firm base Kb Vb) w0 bv (l.getD k noS).body ∧ RStmts d (Firm base Kb Vb) w0 ov (l.getD k noS).other ∧ Fl.KindOk nv nc (l.getD k noS) ∧ Fl.ExprOk nv (l.getD k noS).e ∧ Fl.StmtsOk nv nc d (l.getD k noS).body ∧ Fl.StmtsOk nv nc d (l.getD k noS).other) := fun k hk => by
        obtain ⟨bv, ov, g1, g2, g3⟩ := hc k hk
        obtain ⟨e1, e2, e3, e4⟩ := hl (l.getD k noS) (by rw [List.getD_eq_getElem?_getD, List.getElem?_eq_getElem hk]; exact List.getElem_mem hk)
        exact ⟨bv, ov, g1, g2, g3, e1, e2, e3, e4⟩
      have HW : Hid (RunAt lo base Kb Vb nv va vc w0 w m sv) := hw
      have HM : Hid (m.fuel ≤ f) := by show m.fuel ≤ f; omega
      have HB : Hid (Firm base Kb Vb b) := hb
      have HH : Hid (DoOk lo base Kb Vb nv nc va vc w0 f) := H
      obtain ⟨n, hn⟩ : ∃ n, n = l.length := ⟨_, rfl⟩
      have hn16 : (n : Int) ≤ 16 := by omega
      have hncp : (n : Int) ≤ (cp : Int) := by omega
      have HN : Hid (n = l.length) := hn
      obtain ⟨q, hq⟩ : ∃ q, q = Fl.go l m := ⟨_, rfl⟩
      have HQ : Hid (q = Fl.go l m) := hq
      rw [← hn, ← hq]
      clear hm hw hl H h5 hc hb hn hq h3 h2 h4
      go_enter Tryz.func15, Tryz.ntmps15
      go_wp2_with fail
      go_loopw [5] (fun i wr => ∃ (k : Nat) (m' : Fl.MS) (sv' : Value), i = .int .i64 k ∧ k ≤ n ∧ RunAt lo base Kb Vb nv va vc w0 wr m' sv' ∧ m'.fuel ≤ f ∧ q = Fl.go (l.drop k) m' ∧ RowStays base w sv wr sv') (fun _ wr => fuelIn Kb wr)
      case atStart => exact ⟨0, m, sv, rfl, Nat.zero_le _, HW.out, HM.out, by rw [HQ.out]; rfl, RowStays.refl _ _ _⟩
      case round =>
        obtain ⟨k, m', sv', rfl, hk, hM, hF, hG, hKp⟩ := hrel
        have HKP : Hid (RowStays base w sv wr sv') := hKp
        clear hKp
        have HM1 : Hid (RunAt lo base Kb Vb nv va vc w0 wr m' sv') := hM
        have HF1 : Hid (m'.fuel ≤ f) := hF
        have HG1 : Hid (q = Fl.go (l.drop k) m') := hG
        have HFI : Hid (fuelIn Kb wr = m'.fuel) := hM.fuelIn
        clear hM hF hG
        by_cases hlt : k < n
        · have hltI : (k : Int) < (n : Int) := by omega
          have hkl : k < l.length := by rw [← HN.out]; exact hlt
          have hdr : l.drop k = l.getD k noS :: l.drop (k + 1) := by
            rw [List.drop_eq_getElem_cons hkl, List.getD_eq_getElem?_getD, List.getElem?_eq_getElem hkl]; rfl
          obtain ⟨bv, ov, hcs, hbv, hov, hkd, hex, hbo, hot⟩ := HST.out k hkl
          obtain ⟨s, hs⟩ : ∃ s, s = l.getD k noS := ⟨_, rfl⟩
          rw [← hs] at hdr hcs hbv hov hkd hex hbo hot
          have HDR : Hid (l.drop k = s :: l.drop (k + 1)) := hdr
          have HG2 : Hid (q = Fl.go (s :: l.drop (k + 1)) m') := by show _ = _; rw [← hdr]; exact HG1.out
          have HBO : Hid (∀ W m'' sv'', m''.fuel < f → RunAt lo base Kb Vb nv va vc w0 W m'' sv'' → Calls Tryz.prog 15 #[.pointer (some ⟨Kb, 0, none⟩), bv] W (DoEnds lo base Kb Vb nv va vc w0 W sv'' (Fl.go s.body m''))) := fun W m'' sv'' h1 h2 => HH.out W m'' sv'' d bv s.body h1 h2 hbv hbo
          have HOT : Hid (∀ W m'' sv'', m''.fuel < f → RunAt lo base Kb Vb nv va vc w0 W m'' sv'' → Calls Tryz.prog 15 #[.pointer (some ⟨Kb, 0, none⟩), ov] W (DoEnds lo base Kb Vb nv va vc w0 W sv'' (Fl.go s.other m''))) := fun W m'' sv'' h1 h2 => HH.out W m'' sv'' d ov s.other h1 h2 hov hot
          obtain ⟨ba, bn, bc, rfl⟩ := hbv.slice
          obtain ⟨oa, on, oc, rfl⟩ := hov.slice
          have hfb : wr.heap[b]? = w0.heap[b]? := HM1.out.fx b HB.out.1 HB.out.2.1 (.inr HB.out.2.2)
          have hcw : ∀ j, j < 10 → wr.cell? ⟨b, k * 10 + j, none⟩ = some ((stCells s (.slice ba bn bc) (.slice oa on oc)).getD j undef) := fun j hj => (World.cell?_of_block (a := ⟨b, k * 10 + j, none⟩) hfb).trans (hcs j hj)
          have s0 : wr.cell? ⟨b, k * 10, none⟩ = some (.int .i64 s.kind) := hcw 0 (by omega)
          have s1 : wr.cell? ⟨b, k * 10 + 1, none⟩ = some (.int .i64 s.x) := hcw 1 (by omega)
          have s2 : wr.cell? ⟨b, k * 10 + 2, none⟩ = some (.int .i64 s.line) := hcw 2 (by omega)
          have s3 : wr.cell? ⟨b, k * 10 + 3, none⟩ = some (.int .i64 s.e.op) := hcw 3 (by omega)
          have s4 : wr.cell? ⟨b, k * 10 + 4, none⟩ = some (.bool s.e.a.var) := hcw 4 (by omega)
          have s5 : wr.cell? ⟨b, k * 10 + 5, none⟩ = some (.int .i64 s.e.a.v) := hcw 5 (by omega)
          have s6 : wr.cell? ⟨b, k * 10 + 6, none⟩ = some (.bool s.e.b.var) := hcw 6 (by omega)
          have s7 : wr.cell? ⟨b, k * 10 + 7, none⟩ = some (.int .i64 s.e.b.v) := hcw 7 (by omega)
          have s8 : wr.cell? ⟨b, k * 10 + 8, none⟩ = some (.slice ba bn bc) := hcw 8 (by omega)
          have s9 : wr.cell? ⟨b, k * 10 + 9, none⟩ = some (.slice oa on oc) := hcw 9 (by omega)
          have HKD : Hid (Fl.KindOk nv nc s) := hkd
          have HEX : Hid (Fl.ExprOk nv s.e) := hex
          have HL9 : Hid (k < n) := hlt
          have hKz : Kb < wr.heap.size := by have := HM1.out.inn.hba; have := HM1.out.hbz; omega
          have c2 : ∀ o, (wr.alloc o).cell? ⟨Kb, 2, none⟩ = some (.int .i64 m'.fuel) := fun o => (World.cell?_alloc_lt _ _ _ hKz).trans (HM1.out.cK.c 2 (by omega))
          have zK : ∀ o j, (wr.alloc o).frozen? ⟨Kb, j, none⟩ = false := fun o j => (World.frozen?_alloc_old _ _ _ (by simp; omega)).trans (HM1.out.cK.z j)
          have hfu := HM1.out.sl
          have hf2 : (m'.fuel : Int) ≤ 2000 := by omega
          clear hcs hbv hov hkd hex hbo hot hdr hs hcw hfb hkl hfu
          by_cases hf0 : m'.fuel = 0
          · have b0 : ((m'.fuel : Int) == 0) = true := by simp [hf0]
            have HEND : Hid (∀ o, DoEnds lo base Kb Vb nv va vc w0 w sv q (.returned (.bool false)) (wr.alloc o)) := fun o => by
              rw [HG2.out, Fl.go_zero s _ m' hf0]
              exact ⟨rfl, _, HM1.out.below ((Below.refl _ _).alloc (Nat.le_refl _) _), HKP.out.trans (RowStays.below ((Below.refl _ _).alloc (Nat.le_refl _) _))⟩
            clear hf0
            go_wp2_with fail
            go_ret
            exact HEND.out _
          · have b0 : ((m'.fuel : Int) == 0) = false := by simp; exact hf0
            have hf1 : (1 : Int) ≤ (m'.fuel : Int) := by omega
            have HF0 : Hid (m'.fuel ≠ 0) := hf0
            have HR1 : Hid (∀ o, RunAt lo base Kb Vb nv va vc w0 ((wr.setCell ⟨Kb, 2, none⟩ (.int .i64 ((m'.fuel : Int) - 1))).alloc o) m'.tick sv') := fun o => by
              have h1 := HM1.out.setFuel (m'.fuel - 1) (by omega)
              rw [show ((m'.fuel - 1 : Nat) : Int) = (m'.fuel : Int) - 1 by omega] at h1
              exact h1.below ((Below.refl _ _).alloc (Nat.le_refl _) o)
            have hne : wr.heap.size ≠ Kb := by omega
            have HLT : Hid (m'.tick.fuel < f) := by
              show m'.fuel - 1 < f
              have := HF1.out; omega
            have HVL : Hid (Fl.exprV m'.vars s.e < 4294967296) := by
              show _ < _
              have hb := HM1.out.vb
              unfold Fl.exprV
              split
              · exact atomV_lt hb _
              · unfold Fl.opV Fl.u32
                have := atomV_lt hb s.e.a
                (repeat' split) <;> first | exact Nat.mod_lt _ (by decide) | omega | exact this
            have HON : Hid (Fl.go (s :: l.drop (k + 1)) m' = if (Fl.go [s] m').1 = true then Fl.go (l.drop (k + 1)) (Fl.go [s] m').2 else Fl.go [s] m') := Fl.go_cons _ _ _
            clear hf0
            go_wp2_with fail
            obtain ⟨sB, hsB⟩ : ∃ sB, sB = wr.heap.size := ⟨_, rfl⟩
            obtain ⟨W1, hW1⟩ : ∃ W1, W1 = (wr.setCell ⟨Kb, 2, none⟩ (.int .i64 ((m'.fuel : Int) - 1))).alloc (.cells #[.int .i64 s.kind, .int .i64 s.x, .int .i64 s.line, .int .i64 s.e.op, .bool s.e.a.var, .int .i64 s.e.a.v, .bool s.e.b.var, .int .i64 s.e.b.v, .slice ba bn bc, .slice oa on oc] 87) := ⟨_, rfl⟩
            have hr1 : W1.heap[sB]? = some (.cells #[.int .i64 s.kind, .int .i64 s.x, .int .i64 s.line, .int .i64 s.e.op, .bool s.e.a.var, .int .i64 s.e.a.v, .bool s.e.b.var, .int .i64 s.e.b.v, .slice ba bn bc, .slice oa on oc] 87) := by
              rw [hW1, hsB]; exact heap_at' _ _ _ (setCell_size _ _ _)
            have HM2 : Hid (RunAt lo base Kb Vb nv va vc w0 W1 m'.tick sv') := by rw [hW1]; exact HR1.out _
            have HK1 : Hid (RowStays base w sv W1 sv') := by
              rw [hW1]
              exact (HKP.out.trans (RowStays.set Kb 2 _ HM1.out.inn.hba.1)).trans (RowStays.below ((Below.refl _ _).alloc (Nat.le_refl _) _))
            have hsz1 : sB < W1.heap.size := by rw [hW1, hsB]; simp [setCell_size]
            have HSBO : Hid (∀ b, sv'.ownBlock = some b → b < sB) := fun b hb => by rw [hsB]; exact (HM1.out.os.lt b hb).2
            have HSB : Hid (base ≤ sB ∧ sB ≠ Kb) := ⟨by have := HM1.out.hbz; omega, by rw [hsB]; exact hne⟩
            rw [← hW1, ← hsB]
            clear hW1 hsB HR1 s0 s1 s2 s3 s4 s5 s6 s7 s8 s9 c2 zK hne hKz
            refine (rexpr_any HM2.out s.e HEX.out).mono ?_
            rintro e W2 ⟨rfl, hb2⟩
            have HM3 : Hid (RunAt lo base Kb Vb nv va vc w0 W2 m'.tick sv') := HM2.out.below hb2
            have HK2 : Hid (RowStays base w sv W2 sv') := HK1.out.trans (RowStays.below hb2)
            have hr2 : W2.heap[sB]? = some (.cells #[.int .i64 s.kind, .int .i64 s.x, .int .i64 s.line, .int .i64 s.e.op, .bool s.e.a.var, .int .i64 s.e.a.v, .bool s.e.b.var, .int .i64 s.e.b.v, .slice ba bn bc, .slice oa on oc] 87 (0, 0)) := (hb2.block sB hsz1).trans hr1
            have t0 : W2.cell? ⟨sB, 0, none⟩ = some (.int .i64 s.kind) := cell_of_row _ _ 0 _ _ (0, 0) hr2
            have t1 : W2.cell? ⟨sB, 1, none⟩ = some (.int .i64 s.x) := cell_of_row _ _ 1 _ _ (0, 0) hr2
            have t8 : W2.cell? ⟨sB, 8, none⟩ = some (.slice ba bn bc) := cell_of_row _ _ 8 _ _ (0, 0) hr2
            have t9 : W2.cell? ⟨sB, 9, none⟩ = some (.slice oa on oc) := cell_of_row _ _ 9 _ _ (0, 0) hr2
            have hsz2 : sB < W2.heap.size := Nat.lt_of_lt_of_le hsz1 hb2.size
            have HR2 : Hid (W2.heap[sB]? = some (.cells #[.int .i64 s.kind, .int .i64 s.x, .int .i64 s.line, .int .i64 s.e.op, .bool s.e.a.var, .int .i64 s.e.a.v, .bool s.e.b.var, .int .i64 s.e.b.v, .slice ba bn bc, .slice oa on oc] 87 (0, 0))) := hr2
            rw [show m'.tick.vars = m'.vars from rfl]
            obtain ⟨x, hxx⟩ : ∃ x, x = s.x := ⟨_, rfl⟩
            obtain ⟨v, hvv⟩ : ∃ v, v = Fl.exprV m'.vars s.e := ⟨_, rfl⟩
            have HVV : Hid (v = Fl.exprV m'.vars s.e) := hvv
            have hvlt := HVL.out
            rw [← hvv] at hvlt
            rw [← hvv]
            rw [← hxx] at t1
            have HXX : Hid (x = s.x) := hxx
            have HONE : Hid _ := Fl.go_one s m' HF0.out
            clear hb2 hr1 hr2 hsz1 HM2 hvv hxx HVL
            rcases HKD.out with ⟨hk, hxn⟩ | ⟨hk, hxn⟩ | hk | ⟨hk, hoth⟩
            · rw [hk] at t0
              have HGO : Hid (Fl.go [s] m' = (true, ⟨m'.vars.set x v, m'.sent, m'.fuel - 1⟩)) := by show _ = _; rw [HONE.out, if_pos hk, ← HVV.out, ← HXX.out]
              have HGE : Hid (q = Fl.go (l.drop (k + 1)) ⟨m'.vars.set x v, m'.sent, m'.fuel - 1⟩) := by show _ = _; rw [HG2.out, HON.out, HGO.out]; rfl
              rw [← HXX.out] at hxn
              have HEND : Hid (RunAt lo base Kb Vb nv va vc w0 (W2.drew.setCell ⟨Vb, x, none⟩ (.int .u32 (v : Int))) ⟨m'.vars.set x v, m'.sent, m'.fuel - 1⟩ sv') := HM3.out.drew.setVar x v hxn hvlt
              have HME : Hid (fuelIn Kb (W2.drew.setCell ⟨Vb, x, none⟩ (.int .u32 (v : Int))) < m'.fuel) := by
                rw [HEND.out.fuelIn]; have := HF0.out; show m'.fuel - 1 < m'.fuel; omega
              have HFE : Hid (m'.fuel - 1 ≤ f) := by show _ ≤ _; have := HF1.out; omega
              have HKE : Hid (RowStays base w sv (W2.drew.setCell ⟨Vb, x, none⟩ (.int .u32 (v : Int))) sv') := (HK2.out.trans (RowStays.below (Below.refl _ _).drew)).trans (RowStays.set Vb x _ HM3.out.inn.hba.2)
              have m0 : W2.cell? ⟨Kb, 0, none⟩ = some (.slice (some ⟨Vb, 0, none⟩) nv vc) := by
                rw [← HM3.out.ha (by omega)]; exact HM3.out.cK.c 0 (by omega)
              have cv : W2.cell? ⟨Vb, x, none⟩ = some (.int .u32 ((m'.tick.vars.getD x 0 : Nat) : Int)) := HM3.out.cV.c x hxn
              have zv := HM3.out.cV.z
              have hnv := HM3.out.inn.nvm
              obtain ⟨ov, hov⟩ : ∃ ov, ov = m'.tick.vars.getD x 0 := ⟨_, rfl⟩
              rw [← hov] at cv
              have hxI : (x : Int) < (nv : Int) := by omega
              clear hov HONE HON HG2 HGO HVV HXX HBO HOT HST HM3 hk
              go_wp2_with fail
              refine wp_region_late (fun W => W.cell? ⟨Kb, 0, none⟩ = some (.slice (some ⟨Vb, 0, none⟩) nv vc) ∧ W.cell? ⟨sB, 1, none⟩ = some (.int .i64 x)) [8] [(0, 0), (0, 1), (0, 2), (0, 3), (0, 4), (0, 5), (0, 6), (0, 7), (2, 8)] [] (by kernel_rfl) (by kernel_rfl) rfl [(_, _), (_, _), (_, _), (_, _), (_, _), (_, _), (_, _), (_, _), (_, _)] rfl (fun c a d v w h => by cases d <;> exact h) ⟨m0, t1⟩ (fun ops hG => ?_)
              clear hG
              simp only [List.getElem_toArray, List.getElem_cons_succ, List.getElem_cons_zero]
              iterate 8
                refine late_read rfl (fun K hK => ?_)
                apply Exists.intro
                refine ⟨fun w' hw' => ?_, ?_⟩
                · obtain ⟨k0, k1⟩ := hw'
                  go_simp
                  try with_reducible rfl
                go_simp
                refine hK _ ?_
                clear hK K
              refine late_late ?_
              go_wp2_with fail
              refine late_end ?_
              go_wp2_with fail
              go_roundw
              case rel => exact ⟨k + 1, _, _, by go_num, by have := HL9.out; omega, HEND.out, HFE.out, HGE.out, HKE.out⟩
              case measure => rw [HFI.out]; exact HME.out
            · rw [hk] at t0
              have HGO : Hid (Fl.go [s] m' = (true, ⟨m'.vars, m'.sent ++ [(x, v)], m'.fuel - 1⟩)) := by show _ = _; rw [HONE.out, if_neg (by omega), if_pos hk, ← HVV.out, ← HXX.out]
              have HGE : Hid (q = Fl.go (l.drop (k + 1)) ⟨m'.vars, m'.sent ++ [(x, v)], m'.fuel - 1⟩) := by show _ = _; rw [HG2.out, HON.out, HGO.out]; rfl
              have HFE : Hid (m'.fuel - 1 ≤ f) := by show _ ≤ _; have := HF1.out; omega
              obtain ⟨sa, sc, hsv⟩ : ∃ sa sc, sv' = .slice sa m'.sent.length sc := by
                rcases HM3.out.os.2 with ⟨h1, h2⟩ | ⟨g, cp, cur, h1, _⟩
                · exact ⟨none, 0, by rw [h1, show m'.sent.length = 0 from h2]⟩
                · exact ⟨_, cp, h1⟩
              subst hsv
              have m1 : W2.cell? ⟨Kb, 1, none⟩ = some (.slice sa m'.sent.length sc) := HM3.out.cK.c 1 (by omega)
              have zK := HM3.out.cK.z
              have hsl : m'.sent.length + 1 + m'.tick.fuel ≤ 2000 := by
                have h1 : m'.tick.fuel = m'.fuel - 1 := rfl
                have h3 := HM1.out.sl
                have := HF0.out
                omega
              have hba := HM3.out.inn.hba
              have hbz := HM3.out.hbz
              have HOS : Hid (W2.ownsRow base 63 2 (.slice sa m'.sent.length sc) m'.sent.length (sentV m'.sent)) := HM3.out.os
              have HSL : Hid (m'.sent.length + 1 + m'.tick.fuel ≤ 2000) := hsl
              have hsl2 : m'.sent.length ≤ 2000 := by omega
              clear HONE HON HG2 HGO HVV HXX HBO HOT HST hk hsl
              go_wp2_with fail
              refine wp_region_late (fun W => W.cell? ⟨Kb, 1, none⟩ = some (.slice sa m'.sent.length sc) ∧ W.cell? ⟨sB, 1, none⟩ = some (.int .i64 x)) [13] [(0, 0), (0, 1), (0, 2), (0, 3), (0, 4), (0, 5), (0, 6), (0, 7), (0, 8), (1, 9), (1, 10), (1, 11), (0, 12), (2, 13)] [] (by kernel_rfl) (by kernel_rfl) rfl [(_, _), (_, _), (_, _), (_, _), (_, _), (_, _), (_, _), (_, _), (_, _), (_, _), (_, _), (_, _), (_, _), (_, _)] rfl (fun c a d v w h => by cases d <;> exact h) ⟨m1, t1⟩ (fun ops hG => ?_)
              clear hG
              simp only [List.getElem_toArray, List.getElem_cons_succ, List.getElem_cons_zero]
              iterate 9
                refine late_read rfl (fun K hK => ?_)
                apply Exists.intro
                refine ⟨fun w' hw' => ?_, ?_⟩
                · obtain ⟨k0, k1⟩ := hw'
                  go_simp
                  try with_reducible rfl
                go_simp
                refine hK _ ?_
                clear hK K
              refine late_do ?_
              go_wp2_with fail
              obtain ⟨W3, hW3⟩ : ∃ W3, W3 = (W2.alloc (.cells #[.int .i64 (x : Int), .int .u32 (v : Int)] 63)).drew := ⟨_, rfl⟩
              obtain ⟨tb, htb⟩ : ∃ tb, tb = W2.heap.size := ⟨_, rfl⟩
              have hB3 : Below W2.heap.size W2 W3 := by rw [hW3]; exact ((Below.refl _ _).alloc (Nat.le_refl _) _).drew
              have hz3 : W2.heap.size + 1 = W3.heap.size := by rw [hW3]; simp
              have tt : ∀ i u, ([.int .i64 (x : Int), .int .u32 (v : Int)] : List Value)[i]? = some u → W3.cell? ((⟨tb, 0, none⟩ : Addr).add i) = some u := by
                intro i u hu
                have h2 : (⟨tb, 0, none⟩ : Addr).add i = ⟨tb, i, none⟩ := by unfold Addr.add; split <;> simp_all
                rw [h2, hW3, htb]
                show (W2.alloc _).cell? _ = _
                rw [World.cell?_alloc_new]; simpa using hu
              have e0 : W3.cell? ⟨Kb, 1, none⟩ = some (.slice sa m'.sent.length sc) := (hB3.cell (p := ⟨Kb, 1, none⟩) (by show Kb < _; omega)).trans m1
              have e1 : W3.cell? ⟨sB, 1, none⟩ = some (.int .i64 x) := (hB3.cell (p := ⟨sB, 1, none⟩) hsz2).trans t1
              have HO3 : Hid (W3.ownsRow base 63 2 (.slice sa m'.sent.length sc) m'.sent.length (sentV m'.sent)) := own_same HOS.out (fun b hb => hB3.block b (HOS.out.lt b hb).2)
              have HB3 : Hid (Below W2.heap.size W2 W3) := hB3
              rw [← hW3, ← htb]
              clear hW3 htb hB3
              refine ⟨⟨e0, e1⟩, ?_⟩
              refine late_do ?_
              obtain ⟨i0, hi0, hz0, hzs, hzb⟩ := info_parts Tryz.infoSentP
              go_wp2_with (at_builtin; refine wpList_append_at _ rfl (.tmp 74) (.tmp 79) 27 rfl base 63 i0 (.agg #[.int .i64 0, .int .u32 0]) 2 16 Tryz.underlying27 hi0 hz0 hzs hzb rfl (by decide) _ _ _ rfl HO3.out ⟨tb, 0, none⟩ 1 1 [.int .i64 (x : Int), .int .u32 (v : Int)] rfl rfl (by decide) tt ?c2 ?c3 ?c4 ?c5 ?_)
              case c2 => intro u hu; simp only [List.mem_cons, List.not_mem_nil, or_false] at hu; rcases hu with rfl | rfl <;> rfl
              case c3 => unfold maxLen; omega
              case c4 => omega
              case c5 => omega
              intro v' W4 hown4 hg4 hwh4
              have HADD : Hid (RunAt lo base Kb Vb nv va vc w0 (W4.setCell ⟨Kb, 1, none⟩ v') ⟨m'.vars, m'.sent ++ [(x, v)], m'.fuel - 1⟩ v') := HM3.out.addSent x v HSL.out HB3.out hown4 hg4
              obtain ⟨va', vcap, rfl⟩ : ∃ va vcap, v' = .slice va (m'.sent.length + 1) vcap := by
                rcases hown4.2 with ⟨h1, h2⟩ | ⟨g, cp, cur, h1, _⟩
                · omega
                · exact ⟨_, cp, h1⟩
              have hlt3 : ∀ k, (Value.slice sa m'.sent.length sc).ownBlock = some k → base ≤ k ∧ k < W2.heap.size + 1 := fun k hk => by have := HO3.out.lt k hk; omega
              have hne3 : ∀ k, k < base → some k ≠ (Value.slice sa m'.sent.length sc).ownBlock := fun k hk hh => by have := (hlt3 k hh.symm).1; omega
              have hq4 : ∀ k, k < base → W4.heap[k]? = W3.heap[k]? := fun k hk => hg4.block k (by omega) (hne3 k hk)
              have hsbo : some sB ≠ (Value.slice sa m'.sent.length sc).ownBlock := fun hh => by
                have h1 := HSBO.out sB hh.symm
                omega
              have g0 : W4.cell? ⟨Kb, 1, none⟩ = some (.slice sa m'.sent.length sc) := (World.cell?_of_block (a := ⟨Kb, 1, none⟩) (hq4 Kb (by omega))).trans e0
              have g1 : W4.cell? ⟨sB, 1, none⟩ = some (.int .i64 x) := (World.cell?_of_block (a := ⟨sB, 1, none⟩) (hg4.block sB (by omega) hsbo)).trans e1
              have gz : ∀ j, W4.frozen? ⟨Kb, j, none⟩ = false := fun j => (World.frozen?_of_block (a := ⟨Kb, j, none⟩) (hq4 Kb (by omega))).trans ((HB3.out.frozen (p := ⟨Kb, j, none⟩) (by show Kb < _; omega)).trans (zK j))
              have HKE : Hid (RowStays base w sv (W4.setCell ⟨Kb, 1, none⟩ (.slice va' (m'.sent.length + 1) vcap)) (.slice va' (m'.sent.length + 1) vcap)) := by
                have h3 : RowStays base W3 (.slice sa m'.sent.length sc) W4 (.slice va' (m'.sent.length + 1) vcap) := ⟨fun b _ h2 h3 => hg4.block b h2 (Ne.symm h3), fun b hb => by
                  rcases hwh4 with hh | hh
                  · left; rw [← hh]; exact hb
                  · right; rw [hh] at hb; simp only [Option.some.injEq] at hb; omega, hg4.size⟩
                exact ((HK2.out.trans (RowStays.below HB3.out)).trans h3).trans (RowStays.set Kb 1 _ (by omega))
              have HME : Hid (fuelIn Kb (W4.setCell ⟨Kb, 1, none⟩ (.slice va' (m'.sent.length + 1) vcap)) < m'.fuel) := by
                rw [HADD.out.fuelIn]; have := HF0.out; show m'.fuel - 1 < m'.fuel; omega
              clear hown4 hg4 hwh4 hq4 e0 e1 tt HO3 HB3 hlt3 hne3 HM3 hsbo HOS
              go_wp2_with fail
              refine ⟨⟨g0, g1⟩, ?_⟩
              refine late_do ?_
              go_wp2_with fail
              refine ⟨⟨g0, g1⟩, ?_⟩
              refine late_read rfl (fun K hK => ?_)
              apply Exists.intro
              refine ⟨fun w' hw' => ?_, ?_⟩
              · obtain ⟨k0, k1⟩ := hw'
                go_simp
                try with_reducible rfl
              go_simp
              refine hK _ ?_
              clear hK K
              refine late_late ?_
              go_wp2_with fail
              refine late_end ?_
              go_wp2_with fail
              go_roundw
              case rel => exact ⟨k + 1, _, _, by go_num, by have := HL9.out; omega, HADD.out, HFE.out, HGE.out, HKE.out⟩
              case measure => rw [HFI.out]; exact HME.out
            · rw [hk] at t0
              by_cases hv0 : v = 0
              · have HGO : Hid (Fl.go [s] m' = Fl.go s.other m'.tick) := by show _ = _; rw [HONE.out, ← HVV.out, if_neg (by omega), if_neg (by omega), if_pos hk, if_pos hv0]
                have b0 : ((v : Int) == 0) = true := by simp [hv0]
                have HV0 : Hid (v = 0) := hv0
                clear hv0
                go_wp2_with fail
                refine (HOT.out W2 m'.tick sv' HLT.out HM3.out).mono ?_
                have hfu := Fl.go_fuel s.other m'.tick
                obtain ⟨qq, hqq⟩ : ∃ qq, qq = Fl.go s.other m'.tick := ⟨_, rfl⟩
                rw [← hqq] at hfu ⊢
                obtain ⟨qb, qm⟩ := qq
                rintro e W3 ⟨rfl, sv4, hM4, hK4⟩
                have hr3 : W3.cell? ⟨sB, 0, none⟩ = some (.int .i64 5) := (World.cell?_of_block (a := ⟨sB, 0, none⟩) (hK4.blk sB HSB.out.1 hsz2 (fun hh => by have := HSBO.out sB hh; omega))).trans t0
                have HKE : Hid (RowStays base w sv W3 sv4) := HK2.out.trans hK4
                have HM4 : Hid (RunAt lo base Kb Vb nv va vc w0 W3 qm sv4) := hM4
                cases qb with
                | false =>
                  have HEND : Hid (DoEnds lo base Kb Vb nv va vc w0 w sv q (.returned (.bool false)) W3) := by
                    show DoEnds _ _ _ _ _ _ _ _ _ _ _ _ _
                    rw [HG2.out, HON.out, HGO.out, ← hqq]; exact ⟨rfl, _, hM4, HKE.out⟩
                  clear hM4 hK4 hqq hfu HONE HON HG2 HGO HVV HXX HBO HOT HST HM3 t0 t1 t8 t9
                  go_wp2_with fail
                  go_ret
                  exact HEND.out
                | true =>
                  have HGE : Hid (q = Fl.go (l.drop (k + 1)) qm) := by show _ = _; rw [HG2.out, HON.out, HGO.out, ← hqq]; rfl
                  have HFE : Hid (qm.fuel ≤ f) := by
                    show _ ≤ _
                    have h1 := HF1.out
                    have h2 : m'.tick.fuel = m'.fuel - 1 := rfl
                    simp only at hfu
                    omega
                  have HME : Hid (fuelIn Kb W3 < m'.fuel) := by
                    rw [HM4.out.fuelIn]
                    show qm.fuel < m'.fuel
                    have h1 := HF0.out
                    have h2 : m'.tick.fuel = m'.fuel - 1 := rfl
                    simp only at hfu
                    omega
                  clear hM4 hK4 hqq hfu HONE HON HG2 HGO HVV HXX HBO HOT HST HM3 t0 t1 t8 t9
                  go_wp2
                  go_roundw
                  case rel => exact ⟨k + 1, _, _, by go_num, by have := HL9.out; omega, HM4.out, HFE.out, HGE.out, HKE.out⟩
                  case measure => rw [HFI.out]; exact HME.out
              · have HGO : Hid (Fl.go [s] m' = Fl.go s.body m'.tick) := by show _ = _; rw [HONE.out, ← HVV.out, if_neg (by omega), if_neg (by omega), if_pos hk, if_neg hv0]
                have b0 : ((v : Int) == 0) = false := by simp; exact hv0
                have HV0 : Hid (¬ v = 0) := hv0
                clear hv0
                go_wp2_with fail
                refine (HBO.out W2 m'.tick sv' HLT.out HM3.out).mono ?_
                have hfu := Fl.go_fuel s.body m'.tick
                obtain ⟨qq, hqq⟩ : ∃ qq, qq = Fl.go s.body m'.tick := ⟨_, rfl⟩
                rw [← hqq] at hfu ⊢
                obtain ⟨qb, qm⟩ := qq
                rintro e W3 ⟨rfl, sv4, hM4, hK4⟩
                have hr3 : W3.cell? ⟨sB, 0, none⟩ = some (.int .i64 5) := (World.cell?_of_block (a := ⟨sB, 0, none⟩) (hK4.blk sB HSB.out.1 hsz2 (fun hh => by have := HSBO.out sB hh; omega))).trans t0
                have HKE : Hid (RowStays base w sv W3 sv4) := HK2.out.trans hK4
                have HM4 : Hid (RunAt lo base Kb Vb nv va vc w0 W3 qm sv4) := hM4
                cases qb with
                | false =>
                  have HEND : Hid (DoEnds lo base Kb Vb nv va vc w0 w sv q (.returned (.bool false)) W3) := by
                    show DoEnds _ _ _ _ _ _ _ _ _ _ _ _ _
                    rw [HG2.out, HON.out, HGO.out, ← hqq]; exact ⟨rfl, _, hM4, HKE.out⟩
                  clear hM4 hK4 hqq hfu HONE HON HG2 HGO HVV HXX HBO HOT HST HM3 t0 t1 t8 t9
                  go_wp2_with fail
                  go_ret
                  exact HEND.out
                | true =>
                  have HGE : Hid (q = Fl.go (l.drop (k + 1)) qm) := by show _ = _; rw [HG2.out, HON.out, HGO.out, ← hqq]; rfl
                  have HFE : Hid (qm.fuel ≤ f) := by
                    show _ ≤ _
                    have h1 := HF1.out
                    have h2 : m'.tick.fuel = m'.fuel - 1 := rfl
                    simp only at hfu
                    omega
                  have HME : Hid (fuelIn Kb W3 < m'.fuel) := by
                    rw [HM4.out.fuelIn]
                    show qm.fuel < m'.fuel
                    have h1 := HF0.out
                    have h2 : m'.tick.fuel = m'.fuel - 1 := rfl
                    simp only at hfu
                    omega
                  clear hM4 hK4 hqq hfu HONE HON HG2 HGO HVV HXX HBO HOT HST HM3 t0 t1 t8 t9
                  go_wp2
                  go_roundw
                  case rel => exact ⟨k + 1, _, _, by go_num, by have := HL9.out; omega, HM4.out, HFE.out, HGE.out, HKE.out⟩
                  case measure => rw [HFI.out]; exact HME.out
            · rw [hk] at t0
              have HK6 : Hid (s.kind = 6) := hk
              by_cases hv0 : v = 0
              · have HGO : Hid (Fl.go [s] m' = Fl.go s.other m'.tick) := by show _ = _; rw [HONE.out, ← HVV.out, if_neg (by omega), if_neg (by omega), if_neg (by omega), if_pos hv0, hoth]; rfl
                have b0 : ((v : Int) == 0) = true := by simp [hv0]
                have HV0 : Hid (v = 0) := hv0
                clear hv0
                go_wp2_with fail
                refine (HOT.out W2 m'.tick sv' HLT.out HM3.out).mono ?_
                have hfu := Fl.go_fuel s.other m'.tick
                obtain ⟨qq, hqq⟩ : ∃ qq, qq = Fl.go s.other m'.tick := ⟨_, rfl⟩
                rw [← hqq] at hfu ⊢
                obtain ⟨qb, qm⟩ := qq
                rintro e W3 ⟨rfl, sv4, hM4, hK4⟩
                have hr3 : W3.cell? ⟨sB, 0, none⟩ = some (.int .i64 6) := (World.cell?_of_block (a := ⟨sB, 0, none⟩) (hK4.blk sB HSB.out.1 hsz2 (fun hh => by have := HSBO.out sB hh; omega))).trans t0
                have HKE : Hid (RowStays base w sv W3 sv4) := HK2.out.trans hK4
                have HM4 : Hid (RunAt lo base Kb Vb nv va vc w0 W3 qm sv4) := hM4
                cases qb with
                | false =>
                  have HEND : Hid (DoEnds lo base Kb Vb nv va vc w0 w sv q (.returned (.bool false)) W3) := by
                    show DoEnds _ _ _ _ _ _ _ _ _ _ _ _ _
                    rw [HG2.out, HON.out, HGO.out, ← hqq]; exact ⟨rfl, _, hM4, HKE.out⟩
                  clear hM4 hK4 hqq hfu HONE HON HG2 HGO HVV HXX HBO HOT HST HM3 t0 t1 t8 t9
                  go_wp2_with fail
                  go_ret
                  exact HEND.out
                | true =>
                  have HGE : Hid (q = Fl.go (l.drop (k + 1)) qm) := by show _ = _; rw [HG2.out, HON.out, HGO.out, ← hqq]; rfl
                  have HFE : Hid (qm.fuel ≤ f) := by
                    show _ ≤ _
                    have h1 := HF1.out
                    have h2 : m'.tick.fuel = m'.fuel - 1 := rfl
                    simp only at hfu
                    omega
                  have HME : Hid (fuelIn Kb W3 < m'.fuel) := by
                    rw [HM4.out.fuelIn]
                    show qm.fuel < m'.fuel
                    have h1 := HF0.out
                    have h2 : m'.tick.fuel = m'.fuel - 1 := rfl
                    simp only at hfu
                    omega
                  clear hM4 hK4 hqq hfu HONE HON HG2 HGO HVV HXX HBO HOT HST HM3 t0 t1 t8 t9
                  go_wp2
                  go_roundw
                  case rel => exact ⟨k + 1, _, _, by go_num, by have := HL9.out; omega, HM4.out, HFE.out, HGE.out, HKE.out⟩
                  case measure => rw [HFI.out]; exact HME.out
              · have HGO : Hid (Fl.go [s] m' = if (Fl.go s.body m'.tick).1 = true then Fl.go [s] (Fl.go s.body m'.tick).2 else Fl.go s.body m'.tick) := by show _ = _; rw [HONE.out, ← HVV.out, if_neg (by omega), if_neg (by omega), if_neg (by omega), if_neg hv0]
                have b0 : ((v : Int) == 0) = false := by simp; exact hv0
                have HV0 : Hid (¬ v = 0) := hv0
                clear hv0
                go_wp2_with fail
                refine (HBO.out W2 m'.tick sv' HLT.out HM3.out).mono ?_
                have hfu := Fl.go_fuel s.body m'.tick
                obtain ⟨qq, hqq⟩ : ∃ qq, qq = Fl.go s.body m'.tick := ⟨_, rfl⟩
                rw [← hqq] at hfu ⊢
                obtain ⟨qb, qm⟩ := qq
                rintro e W3 ⟨rfl, sv4, hM4, hK4⟩
                have hr3 : W3.cell? ⟨sB, 0, none⟩ = some (.int .i64 6) := (World.cell?_of_block (a := ⟨sB, 0, none⟩) (hK4.blk sB HSB.out.1 hsz2 (fun hh => by have := HSBO.out sB hh; omega))).trans t0
                have HKE : Hid (RowStays base w sv W3 sv4) := HK2.out.trans hK4
                have HM4 : Hid (RunAt lo base Kb Vb nv va vc w0 W3 qm sv4) := hM4
                cases qb with
                | false =>
                  have HEND : Hid (DoEnds lo base Kb Vb nv va vc w0 w sv q (.returned (.bool false)) W3) := by
                    show DoEnds _ _ _ _ _ _ _ _ _ _ _ _ _
                    rw [HG2.out, HON.out, HGO.out, ← hqq]; exact ⟨rfl, _, hM4, HKE.out⟩
                  clear hM4 hK4 hqq hfu HONE HON HG2 HGO HVV HXX HBO HOT HST HM3 t0 t1 t8 t9
                  go_wp2_with fail
                  go_ret
                  exact HEND.out
                | true =>
                  have HGE : Hid (q = Fl.go (l.drop k) qm) := by
                    show _ = _
                    rw [HG2.out, HDR.out]
                    have h1 := Fl.go_again s (l.drop (k + 1)) m' HF0.out HK6.out (by rw [← HVV.out]; exact HV0.out) (by rw [← hqq])
                    rw [h1, ← hqq]
                  have HFE : Hid (qm.fuel ≤ f) := by
                    show _ ≤ _
                    have h1 := HF1.out
                    have h2 : m'.tick.fuel = m'.fuel - 1 := rfl
                    simp only at hfu
                    omega
                  have HME : Hid (fuelIn Kb W3 < m'.fuel) := by
                    rw [HM4.out.fuelIn]
                    show qm.fuel < m'.fuel
                    have h1 := HF0.out
                    have h2 : m'.tick.fuel = m'.fuel - 1 := rfl
                    simp only at hfu
                    omega
                  clear hM4 hK4 hqq hfu HONE HON HG2 HGO HVV HXX HBO HOT HST HM3 t0 t1 t8 t9
                  go_wp2
                  go_roundw
                  case rel => exact ⟨k, _, _, by go_num, by have := HL9.out; omega, HM4.out, HFE.out, HGE.out, HKE.out⟩
                  case measure => rw [HFI.out]; exact HME.out
        · have hge : ¬ (k : Int) < (n : Int) := by omega
          have HEND : Hid (DoEnds lo base Kb Vb nv va vc w0 w sv q (.returned (.bool true)) wr) := by
            show DoEnds _ _ _ _ _ _ _ _ _ _ _ _ _
            rw [HG1.out, List.drop_of_length_le (by rw [← HN.out]; omega)]; exact ⟨rfl, _, HM1.out, HKP.out⟩
          go_wp2
          go_ret
          exact HEND.out
end
end Go.Proofs.YthfacjlghcdndaaGreatDoor

namespace Go.Proofs.YthfacjlghcdndaaGreatDoor
open Go.RowKit
section
variable {lo base Mb Vb Ob Tb nv nc : Nat} {w0 : World}
set_option maxRecDepth 100000 in
set_option maxHeartbeats 2000000 in
theorem all_step {f : Nat} (H : AllOk lo base Mb Vb Ob Tb nv nc w0 f) : AllOk lo base Mb Vb Ob Tb nv nc w0 (f + 1) := by
  intro w m sv d v l hm hw hv hl
  by_cases hnil : l = []
  · subst hnil
    obtain ⟨ao, cp, rfl⟩ : ∃ ao cp, v = .slice ao 0 cp := by
      cases d with
      | zero => exact ⟨_, _, hv.2⟩
      | succ d => obtain ⟨ao, c, h1, -⟩ := hv; exact ⟨_, _, h1⟩
    have HEND : Hid (AllEnds lo base Mb Vb Ob Tb nv w0 (Fl.go [] m) (.returned (.bool true)) w) := ⟨rfl, _, hw⟩
    clear hm hw hv hl H
    go_enter Tryz.func30, Tryz.ntmps30
    go_wp2_with fail
    go_loopw [9] (fun i wr => i = .int .i64 0 ∧ wr = w) (fun i _ => 0)
    case atStart => exact ⟨rfl, rfl⟩
    case round =>
      obtain ⟨rfl, hwr⟩ := hrel
      rw [hwr]
      clear hwr
      go_wp2
      go_ret
      exact HEND.out
  · cases d with
    | zero => exact absurd hv.1 hnil
    | succ d =>
      obtain ⟨ao, cp, rfl, h2, h3, h4, h5⟩ := hv
      obtain ⟨b, off, rfl, hb, hc⟩ := h5 hnil
      have HONE : Hid (∀ k, k < l.length → ∃ sb, w0.cell? ⟨b, off + k, none⟩ = some (.pointer (some ⟨sb, 0, none⟩)) ∧ ∀ (W : World) (m' : Fl.MS) (sv' : Value), m'.fuel ≤ f → MachAt lo base Mb Vb Ob Tb nv w0 W m' sv' →
          Calls Tryz.prog 53 #[.pointer (some ⟨Mb, 0, none⟩), .pointer (some ⟨sb, 0, none⟩)] W (AllEnds lo base Mb Vb Ob Tb nv w0 (Fl.go [l.getD k noS] m'))) := fun k hk => by
        obtain ⟨p, hp, sb, vp, fv, ev, rfl, g2, g3, g4, g5, g6⟩ := hc k hk
        obtain ⟨e1, e2, e3, e4⟩ := hl (l.getD k noS) (by rw [List.getD_eq_getElem?_getD, List.getElem?_eq_getElem hk]; exact List.getElem_mem hk)
        exact ⟨sb, hp, fun W m' sv' hm' hW => one_any H g2 g3 g4 g5 g6 e1 e2 e3 e4 W m' sv' hm' hW⟩
      have HW : Hid (MachAt lo base Mb Vb Ob Tb nv w0 w m sv) := hw
      have HM : Hid (m.fuel ≤ f) := by show m.fuel ≤ f; omega
      have HB : Hid (Firm base Mb Vb b) := hb
      obtain ⟨n, hn⟩ : ∃ n, n = l.length := ⟨_, rfl⟩
      have hn16 : (n : Int) ≤ 16 := by omega
      have hncp : (n : Int) ≤ (cp : Int) := by omega
      have HN : Hid (n = l.length) := hn
      obtain ⟨q, hq⟩ : ∃ q, q = Fl.go l m := ⟨_, rfl⟩
      have HQ : Hid (q = Fl.go l m) := hq
      rw [← hn, ← hq]
      clear hm hw hl H h5 hc hb hn hq h3 h2 h4
      go_enter Tryz.func30, Tryz.ntmps30
      go_wp2_with fail
      go_loopw [9] (fun i wr => ∃ (k : Nat) (m' : Fl.MS) (sv' : Value), i = .int .i64 k ∧ k ≤ n ∧ MachAt lo base Mb Vb Ob Tb nv w0 wr m' sv' ∧ m'.fuel ≤ f ∧ q = Fl.go (l.drop k) m') (fun i _ => n - (intOf i).toNat)
      case atStart => exact ⟨0, m, sv, rfl, Nat.zero_le _, HW.out, HM.out, by rw [HQ.out]; rfl⟩
      case round =>
        obtain ⟨k, m', sv', rfl, hk, hM, hF, hG⟩ := hrel
        have HM1 : Hid (MachAt lo base Mb Vb Ob Tb nv w0 wr m' sv') := hM
        have HF1 : Hid (m'.fuel ≤ f) := hF
        have HG1 : Hid (q = Fl.go (l.drop k) m') := hG
        clear hM hF hG
        by_cases hlt : k < n
        · have hltI : (k : Int) < (n : Int) := by omega
          obtain ⟨sb, hsb, hone⟩ := HONE.out k (by rw [← HN.out]; exact hlt)
          have cb : wr.cell? ⟨b, off + k, none⟩ = some (.pointer (some ⟨sb, 0, none⟩)) := (World.cell?_of_block (a := ⟨b, off + k, none⟩) (HM1.out.fx b HB.out.1 HB.out.2.1 HB.out.2.2)).trans hsb
          have hdr : l.drop k = l.getD k noS :: l.drop (k + 1) := by
            have hkl : k < l.length := by rw [← HN.out]; exact hlt
            rw [List.drop_eq_getElem_cons hkl, List.getD_eq_getElem?_getD, List.getElem?_eq_getElem hkl]; rfl
          have hgc := Fl.go_cons (l.getD k noS) (l.drop (k + 1)) m'
          rw [← hdr, ← HG1.out] at hgc
          have hfu := Fl.go_fuel [l.getD k noS] m'
          have hcall := hone wr m' sv' HF1.out HM1.out
          obtain ⟨qq, hqq⟩ : ∃ qq, qq = Fl.go [l.getD k noS] m' := ⟨_, rfl⟩
          rw [← hqq] at hgc hfu hcall
          have HGC : Hid (q = if qq.1 = true then Fl.go (l.drop (k + 1)) qq.2 else qq) := hgc
          have HFU : Hid (qq.2.fuel ≤ m'.fuel) := hfu
          have HC : Hid (Calls Tryz.prog 53 #[.pointer (some ⟨Mb, 0, none⟩), .pointer (some ⟨sb, 0, none⟩)] wr (AllEnds lo base Mb Vb Ob Tb nv w0 qq)) := hcall
          clear hqq hgc hfu hcall hone hsb hdr
          go_wp2_with fail
          refine Calls.mono HC.out ?_
          rintro e W2 ⟨rfl, sv2, hM2⟩
          have HM2 : Hid (MachAt lo base Mb Vb Ob Tb nv w0 W2 qq.2 sv2) := hM2
          clear hM2 HC cb
          obtain ⟨qb, qm⟩ := qq
          cases qb with
          | false =>
            have HEND : Hid (AllEnds lo base Mb Vb Ob Tb nv w0 q (.returned (.bool false)) W2) := by
              show AllEnds _ _ _ _ _ _ _ _ _ _ _
              rw [HGC.out]; exact ⟨rfl, _, HM2.out⟩
            go_wp2
            go_ret
            exact HEND.out
          | true =>
            go_wp2
            go_roundw
            case rel => exact ⟨k + 1, qm, sv2, by go_num, by omega, HM2.out, Nat.le_trans HFU.out HF1.out, by rw [HGC.out]; rfl⟩
            case measure => simp [intOf]; omega
        · have hge : ¬ (k : Int) < (n : Int) := by omega
          have HEND : Hid (AllEnds lo base Mb Vb Ob Tb nv w0 q (.returned (.bool true)) wr) := by
            show AllEnds _ _ _ _ _ _ _ _ _ _ _
            rw [HG1.out, List.drop_of_length_le (by rw [← HN.out]; omega)]; exact ⟨rfl, _, HM1.out⟩
          go_wp2
          go_ret
          exact HEND.out
theorem all_any (f : Nat) : AllOk lo base Mb Vb Ob Tb nv nc w0 f := by
  induction f with
  | zero => exact fun w m sv d v l hm => absurd hm (Nat.not_lt_zero _)
  | succ f ih => exact all_step ih
end
end Go.Proofs.YthfacjlghcdndaaGreatDoor

namespace Go.Proofs.YthfacjlghcdndaaGreatDoor
open Go.RowKit
def RdIn (n : Nat) (V : World) (q : Nat × Nat × Fl.Prog) (e : Ending) (w' : World) : Prop :=
  Below n V w' ∧ n + 8 ≤ w'.heap.size ∧ w'.heap[n + 7]? = V.heap[n + 7]? ∧ w'.heap[n + 6]? = V.heap[n + 6]? ∧
  ((q.1 = 0 ∧ e = .returned (.tuple #[]) ∧ ProgAt (fun b => (n ≤ b ∧ b ≠ n + 7) ∧ b < w'.heap.size) w' (n + 1) q.2.2 ∧ w'.cell? ⟨n + 5, 0, none⟩ = some (ptr (n + 1))) ∨ (q.1 ≠ 0 ∧ e = .panicked (stopAt q.1 q.2.1)))
theorem readProg_short (l : List UInt8) (h : ¬ 1200 < l.length) : Fl.readProg l = ((Fl.rows Fl.RS.zero 0 (Fl.cutR 10 l)).1, (Fl.rows Fl.RS.zero 0 (Fl.cutR 10 l)).2.1, (Fl.rows Fl.RS.zero 0 (Fl.cutR 10 l)).2.2.prog) := by
  unfold Fl.readProg; rw [if_neg h]
theorem readProg_long (l : List UInt8) (h : 1200 < l.length) : Fl.readProg l = (1, 0, Fl.RS.zero.prog) := by
  unfold Fl.readProg; rw [if_pos h]
theorem rd_text {w : World} {l : List UInt8} {V : World} (hV : V = (rdW w l).alloc (.cells #[.nilIface] 43)) (hl : l.length ≤ 100000) (hg : 1 < w.heap.size) (hm : MaxLenIs w) :
    Calls Tryz.prog 28 #[.pointer (some ⟨w.heap.size + 5, 0, none⟩), .string ⟨l.toArray⟩] V (RdIn w.heap.size V (Fl.readProg l)) := by
  have hz := rdW_size w l
  have hzV : V.heap.size = w.heap.size + 8 := by rw [hV]; simp [hz]
  have hb1 : Below (rdW w l).heap.size (rdW w l) V := by rw [hV]; exact (Below.refl _ _).alloc (Nat.le_refl _) _
  have hB : Below w.heap.size w V := (rdW_below w l).trans (hb1.mono (by omega))
  obtain ⟨k0, k1, k2, k3, k4, k5, k6⟩ := rdW_blocks w l
  have q : ∀ k, k < w.heap.size + 7 → V.heap[k]? = (rdW w l).heap[k]? := fun k hk => hb1.block k (by omega)
  by_cases hs : 1200 < l.length
  · rw [readProg_long l hs]
    refine (text_long _ l hs hl V).mono ?_
    rintro e w' ⟨rfl, hb⟩
    have hz' := hb.size
    exact ⟨hb.mono (by omega), by omega, hb.block _ (by omega), hb.block _ (by omega), .inr ⟨Nat.succ_ne_zero _, rfl⟩⟩
  · rw [readProg_short l hs]
    have hR : Cells V (w.heap.size + 5) 45 (rdCell (w.heap.size + 1) (w.heap.size + 2) (w.heap.size + 3) (w.heap.size + 4) 0 Fl.RS.zero mem0) :=
      ⟨fun j hj => (cell_of_row V _ j _ _ (0, 0) ((q _ (by omega)).trans k5)).trans (rdArr_at _ j hj), fun j => (World.frozen?_of_block (a := ⟨w.heap.size + 5, j, none⟩) (q (w.heap.size + 5) (by omega))).trans (by simp [World.frozen?, k5])⟩
    have hP : Cells V (w.heap.size + 1) 5 (rw_ [.pointer none, .slice none 0 0, .slice none 0 0, .int .i64 0, .slice none 0 0]) :=
      ⟨fun j hj => (cell_of_row V _ j _ _ (0, 0) ((q _ (by omega)).trans k1)).trans (by rcases (show j = 0 ∨ j = 1 ∨ j = 2 ∨ j = 3 ∨ j = 4 by omega) with rfl | rfl | rfl | rfl | rfl <;> rfl), fun j => (World.frozen?_of_block (a := ⟨w.heap.size + 1, j, none⟩) (q (w.heap.size + 1) (by omega))).trans (by simp [World.frozen?, k1])⟩
    have hm' : MaxLenIs V := by
      obtain ⟨x, hx⟩ := hm
      exact ⟨x, (hB.cell (p := ⟨1, 0, none⟩) hg).trans hx⟩
    have ht := text_any (lo := w.heap.size) (R := w.heap.size + 5) (Pb := w.heap.size + 1) (lm := w.heap.size + 2) (vm := w.heap.size + 3) (cm := w.heap.size + 4) (w := V) (by omega) (by omega) (by omega) hR hP (NameMap.fresh ((q _ (by omega)).trans k2)) (NameMap.fresh ((q _ (by omega)).trans k3)) (NameMap.fresh ((q _ (by omega)).trans k4)) hg hm' l (by omega)
    refine ht.mono ?_
    have htb := txW_below V (w.heap.size + 5)
    have htz := txW_size V (w.heap.size + 5)
    rintro e w' (⟨h0, rfl, hbg, hfr, ln, m, hp⟩ | ⟨h0, rfl, hgb, hfx⟩)
    · have hba := hp.hba
      have f : ∀ k, k = w.heap.size + 6 ∨ k = w.heap.size + 7 → w'.heap[k]? = V.heap[k]? := fun k hk => (hp.fx k (by omega) (by omega) (by omega) (by omega) (by omega) (by omega)).trans (htb.block k (by omega))
      refine ⟨(htb.mono (by omega)).trans hp.bel, by omega, f _ (by omega), f _ (by omega), .inl ⟨h0, rfl, ?_, hp.cR.c 0 (by omega)⟩⟩
      exact (hp.prog hbg hfr).kept (fun b hb => by have := hb.1; have := hb.2; omega) (fun _ _ => rfl)
    · have f : ∀ k, k = w.heap.size + 6 ∨ k = w.heap.size + 7 → w'.heap[k]? = V.heap[k]? := fun k hk => (hfx k (by omega) (by omega) (by omega) (by omega) (by omega) (by omega)).trans (htb.block k (by omega))
      exact ⟨(htb.mono (by omega)).trans hgb, by have := hgb.size; omega, f _ (by omega), f _ (by omega), .inr ⟨h0, rfl⟩⟩
set_option maxRecDepth 100000 in
theorem do_read {w : World} {l : List UInt8} {V : World} (hV : V = (rdW w l).alloc (.cells #[.nilIface] 43)) (hl : l.length ≤ 100000) (hg : 1 < w.heap.size) (hm : MaxLenIs w) :
    Calls Tryz.prog 27 #[.pointer (some ⟨w.heap.size + 6, 0, none⟩), .pointer (some ⟨w.heap.size, 0, none⟩)] V (RdIn w.heap.size V (Fl.readProg l)) := by
  have HT : Hid (Calls Tryz.prog 28 #[.pointer (some ⟨w.heap.size + 5, 0, none⟩), .string ⟨l.toArray⟩] V (RdIn w.heap.size V (Fl.readProg l))) := rd_text hV hl hg hm
  obtain ⟨k0, k1, k2, k3, k4, k5, k6⟩ := rdW_blocks w l
  have hz := rdW_size w l
  have q : ∀ k, k < w.heap.size + 7 → V.heap[k]? = (rdW w l).heap[k]? := fun k hk => by rw [hV]; exact Below.heap_alloc _ _ _ (by omega)
  have c6 : V.cell? ⟨w.heap.size + 6, 0, none⟩ = some (.pointer (some ⟨w.heap.size + 5, 0, none⟩)) := cell_of_row V _ 0 _ _ (0, 0) ((q _ (by omega)).trans k6)
  have c0 : V.cell? ⟨w.heap.size, 0, none⟩ = some (.string ⟨l.toArray⟩) := cell_of_row V _ 0 _ _ (0, 0) ((q _ (by omega)).trans k0)
  obtain ⟨res, hres⟩ : ∃ res, res = Fl.readProg l := ⟨_, rfl⟩
  rw [← hres] at HT ⊢
  clear hV k0 k1 k2 k3 k4 k5 k6 hz q hres hl hg hm
  go_enter Tryz.func27, Tryz.ntmps27
  go_wp2_with fail
  refine HT.out.mono ?_
  rintro e W ⟨h1, h2, h3, h4, ⟨h5, rfl, h6⟩ | ⟨h5, rfl⟩⟩
  · have HE : Hid (RdIn w.heap.size V res (.returned (.tuple #[])) W) := ⟨h1, h2, h3, h4, .inl ⟨h5, rfl, h6⟩⟩
    clear h1 h2 h3 h4 h5 h6 HT c0 c6
    go_wp2
    go_end0
    exact HE.out
  · exact ⟨rfl, h1, h2, h3, h4, .inr ⟨h5, rfl⟩⟩
def ReadEnds (q : Nat × Nat × Fl.Prog) (w : World) (e : Ending) (w' : World) : Prop :=
  Below w.heap.size w w' ∧
  ((q.1 = 0 ∧ ∃ Pb, e = .returned (.tuple #[.pointer (some ⟨Pb, 0, none⟩), .nilIface]) ∧ ProgAt (fun b => w.heap.size ≤ b ∧ b < w'.heap.size) w' Pb q.2.2) ∨
   (q.1 ≠ 0 ∧ ∃ a, e = .returned (.tuple #[.pointer none, .iface 72 (.pointer (some ⟨a, 0, none⟩))]) ∧ w'.cell? ⟨a, 0, none⟩ = some (.int .i64 q.1) ∧ w'.cell? ⟨a, 1, none⟩ = some (.int .i64 q.2.1)))
def RcEnds (q : Nat × Nat × Fl.Prog) (w : World) (e : Ending) (w' : World) : Prop :=
  Below w.heap.size w w' ∧
  ((q.1 = 0 ∧ e = .returned .nilIface ∧ w'.cell? ⟨w.heap.size + 6, 0, none⟩ = some (.pointer (some ⟨w.heap.size + 5, 0, none⟩)) ∧ w'.cell? ⟨w.heap.size + 5, 0, none⟩ = some (.pointer (some ⟨w.heap.size + 1, 0, none⟩)) ∧ ProgAt (fun b => w.heap.size ≤ b ∧ b < w'.heap.size) w' (w.heap.size + 1) q.2.2) ∨
   (q.1 ≠ 0 ∧ ∃ a, e = .returned (.iface 72 (.pointer (some ⟨a, 0, none⟩))) ∧ w'.cell? ⟨a, 0, none⟩ = some (.int .i64 q.1) ∧ w'.cell? ⟨a, 1, none⟩ = some (.int .i64 q.2.1)))
theorem catch_read {w : World} {l : List UInt8} (hl : l.length ≤ 100000) (hg : 1 < w.heap.size) (hm : MaxLenIs w) :
    Calls Tryz.prog 26 #[.func (.func 27) #[] #[.pointer (some ⟨w.heap.size + 6, 0, none⟩), .pointer (some ⟨w.heap.size, 0, none⟩)]] (rdW w l) (RcEnds (Fl.readProg l) w) := by
  have hd := do_read (w := w) (l := l) rfl hl hg hm
  have hz := rdW_size w l
  have hc := catch_any 27 #[.pointer (some ⟨w.heap.size + 6, 0, none⟩), .pointer (some ⟨w.heap.size, 0, none⟩)] (rdW w l) (fun w' => RdIn w.heap.size ((rdW w l).alloc (.cells #[.nilIface] 43)) (Fl.readProg l) (.returned (.tuple #[])) w') (fun n pl w' => n = ((Fl.readProg l).1 : Int) ∧ pl = ((Fl.readProg l).2.1 : Int) ∧ RdIn w.heap.size ((rdW w l).alloc (.cells #[.nilIface] 43)) (Fl.readProg l) (.panicked (stopAt n pl)) w') (fun W => by kernel_rfl)
  rw [hz] at hc
  have hlast : ((rdW w l).alloc (.cells #[.nilIface] 43)).heap[w.heap.size + 7]? = some (.cells #[.nilIface] 43) := by
    have := heap_alloc_last (rdW w l) (.cells #[.nilIface] 43)
    rw [hz] at this; exact this
  have hb1 : Below w.heap.size w ((rdW w l).alloc (.cells #[.nilIface] 43)) := (rdW_below w l).alloc (by omega) _
  obtain ⟨k0, k1, k2, k3, k4, k5, k6⟩ := rdW_blocks w l
  have k6' : ((rdW w l).alloc (.cells #[.nilIface] 43)).heap[w.heap.size + 6]? = some (.cells #[.pointer (some ⟨w.heap.size + 5, 0, none⟩)] 91) := (Below.heap_alloc _ _ _ (by omega)).trans k6
  refine (hc (hd.mono ?_)).mono ?_
  · rintro e w' ⟨h1, h2, h3, h4, h5⟩
    refine ⟨cell_of_row _ _ 0 _ _ (0, 0) (h3.trans hlast), by rw [World.frozen?, h3, hlast]; simp, ?_⟩
    rcases h5 with ⟨h5, rfl, h6⟩ | ⟨h5, rfl⟩
    · exact .inl ⟨rfl, h1, h2, h3, h4, .inl ⟨h5, rfl, h6⟩⟩
    · exact .inr ⟨_, _, rfl, rfl, rfl, h1, h2, h3, h4, .inr ⟨h5, rfl⟩⟩
  · have f : ∀ (u : World) (v : Value) (k : Nat), k ≠ w.heap.size + 7 → (u.setCell ⟨w.heap.size + 7, 0, none⟩ v).heap[k]? = u.heap[k]? := fun u v k hk => setCell_block _ _ _ _ _ hk
    rintro e wz (⟨w1, rfl, ⟨h1, h2, h3, h4, h5⟩, rfl⟩ | ⟨n, pl, w1, o, rfl, ⟨rfl, rfl, h1, h2, h3, h4, h5⟩, rfl⟩)
    · rcases h5 with ⟨h5, -, h6, h7⟩ | ⟨h5, h6⟩
      · refine ⟨(hb1.trans h1).setCell (show w.heap.size ≤ w.heap.size + 7 by omega) _, .inl ⟨h5, rfl, ?_, ?_, ?_⟩⟩
        · exact (World.cell?_of_block (a := ⟨w.heap.size + 6, 0, none⟩) ((f _ _ (w.heap.size + 6) (by omega)).trans h4)).trans (cell_of_row _ _ 0 _ _ (0, 0) k6')
        · exact (World.cell?_of_block (a := ⟨w.heap.size + 5, 0, none⟩) (f _ _ (w.heap.size + 5) (by omega))).trans h7
        · refine h6.kept (fun b hb => ?_) (fun b hb => f _ _ _ hb.1.2)
          rw [setCell_size]; exact ⟨hb.1.1, hb.2⟩
      · cases h6
    · rcases h5 with ⟨h5, h6, -⟩ | ⟨h5, -⟩
      · cases h6
      · have hq : ∀ v, (((w1.alloc o).alloc (.cells #[.int .i64 ((Fl.readProg l).1 : Int), .int .i64 ((Fl.readProg l).2.1 : Int)] 76)).setCell ⟨w.heap.size + 7, 0, none⟩ v).heap[w1.heap.size + 1]? = some (.cells #[.int .i64 ((Fl.readProg l).1 : Int), .int .i64 ((Fl.readProg l).2.1 : Int)] 76) := fun v => by
          rw [f _ _ _ (by omega)]
          have := heap_alloc_last (w1.alloc o) (.cells #[.int .i64 ((Fl.readProg l).1 : Int), .int .i64 ((Fl.readProg l).2.1 : Int)] 76)
          simpa using this
        refine ⟨(((hb1.trans h1).alloc (by omega) _).alloc (by simp; omega) _).setCell (show w.heap.size ≤ w.heap.size + 7 by omega) _, .inr ⟨h5, _, rfl, ?_, ?_⟩⟩
        · exact cell_of_row _ _ 0 _ _ (0, 0) (hq _)
        · exact cell_of_row _ _ 1 _ _ (0, 0) (hq _)
set_option maxRecDepth 100000 in
set_option maxHeartbeats 2000000 in
theorem read_prog {w : World} {l : List UInt8} (hl : l.length ≤ 100000) (hg : 1 < w.heap.size) (hm : MaxLenIs w) :
    Calls Tryz.prog 16 #[.string ⟨l.toArray⟩] w (ReadEnds (Fl.readProg l) w) := by
  have hmf : ∀ (fn : Fn) (first cap : Array Value) (w : World), (Instr.makeFunc fn first cap).run Tryz.prog w = .ok (.func fn first cap) w := fun _ _ _ _ => rfl
  have hmm := @run_makeMap Tryz.prog
  have HC : Hid (Calls Tryz.prog 26 #[.func (.func 27) #[] #[.pointer (some ⟨w.heap.size + 6, 0, none⟩), .pointer (some ⟨w.heap.size, 0, none⟩)]] (rdW w l) (RcEnds (Fl.readProg l) w)) := catch_read hl hg hm
  obtain ⟨res, hres⟩ : ∃ res, res = Fl.readProg l := ⟨_, rfl⟩
  rw [← hres] at HC ⊢
  clear hl hg hm hres
  go_enter Tryz.func16, Tryz.ntmps16
  go_wp2_with (refine wpList_build_whole rfl 100 _ rfl (rdArr w.heap.size) (by kernel_rfl) ?_)
  refine Calls.mono HC.out ?_
  clear HC
  rintro e wz ⟨hB, ⟨h0, rfl, c6, c5, hp⟩ | ⟨h0, a, rfl, a0, a1⟩⟩
  · have d6 : wz.cell? ⟨w.heap.size + 1 + 1 + 1 + 1 + 1 + 1, 0, none⟩ = some (.pointer (some ⟨w.heap.size + 1 + 1 + 1 + 1 + 1, 0, none⟩)) := c6
    have d5 : wz.cell? ⟨w.heap.size + 1 + 1 + 1 + 1 + 1, 0, none⟩ = some (.pointer (some ⟨w.heap.size + 1, 0, none⟩)) := c5
    have HE : Hid (ReadEnds res w (.returned (.tuple #[.pointer (some ⟨w.heap.size + 1, 0, none⟩), .nilIface])) wz) := ⟨hB, .inl ⟨h0, _, rfl, hp⟩⟩
    clear hB h0 c6 c5 hp
    go_wp2
    exact bodyPost_ret (v := .tuple #[.pointer (some ⟨w.heap.size + 1, 0, none⟩), .nilIface]) (by simp [results, Tryz.results16, go_sem]) rfl HE.out
  · have HE : Hid (ReadEnds res w (.returned (.tuple #[.pointer none, .iface 72 (.pointer (some ⟨a, 0, none⟩))])) wz) := ⟨hB, .inr ⟨h0, _, rfl, a0, a1⟩⟩
    clear hB h0 a0 a1
    go_wp2
    exact bodyPost_ret (v := .tuple #[.pointer none, .iface 72 (.pointer (some ⟨a, 0, none⟩))]) (by simp [results, Tryz.results16, go_sem]) rfl HE.out
end Go.Proofs.YthfacjlghcdndaaGreatDoor

namespace Go.Proofs.YthfacjlghcdndaaGreatDoor
open Go.RowKit
def wpSt (P : Program) (ops : Array Oper) (S : World → Prop) (Q : Exit → Act → World → Prop) : List Oper → Act → World → Prop
  | [], a, w => Q .normal a w
  | o :: l, a, w => wpList P ops (Exit.then (fun a1 w1 => S w1 ∧ wpSt P ops S Q l a1 w1) Q) [o] a w
section
variable {P : Program} {Q : Exit → Act → World → Prop} {S : World → Prop}
theorem st_step {ops : Array Oper} {o : Oper} {l : List Oper} {a : Act} {w : World} (h : wpList P ops (Exit.then (fun a1 w1 => S w1 ∧ wpSt P ops S Q l a1 w1) Q) [o] a w) : wpSt P ops S Q (o :: l) a w := h
theorem st_end {ops : Array Oper} {a : Act} {w : World} (h : Q .normal a w) : wpSt P ops S Q [] a w := h
theorem held_tail {ops : Array Oper} : ∀ (τ : List Nat) (tq : List Oper) (pre : List Nat) (a : Act) (w : World), τ.map (fun i => ops[i]?) = tq.map some → forcedB ops pre τ = true →
    wpSt P ops S Q tq a w → wpAnyH P .any ops Q S τ.length (doneBy ops.size pre) a w
  | [], tq, pre, a, w, hto, hB, h => by
    have : tq = [] := by cases tq with | nil => rfl | cons o tq => simp at hto
    subst this
    simp only [forcedB, decide_eq_true_eq] at hB
    exact wpAnyH_done hB h 0
  | i :: τ, tq, pre, a, w, hto, hB, h => by
    cases tq with
    | nil => simp at hto
    | cons o tq =>
      simp only [List.map_cons, List.cons.injEq] at hto
      simp only [forcedB, Bool.and_eq_true, decide_eq_true_eq] at hB
      refine wpAnyH_all hB.1 (by simp) (fun j hj => ?_)
      simp only [List.mem_singleton] at hj
      subst hj
      refine wpOp_mono (fun a' w' h' => ⟨h'.1, ?_⟩) (op_then hto.1 h)
      have := held_tail τ tq (pre ++ [j]) a' w' hto.2 hB.2 h'.2
      rwa [doneBy_snoc] at this
theorem wp_region_fork {id : Nat} {a : Act} {w : World} {l : List Oper} (S : World → Prop) (σ : List Nat) (i j : Nat) (τ τ' : List Nat) (hm : P.follows .mixedOrders = true)
    (hB : (Region.noSelect l.toArray && (headsB l.toArray [] σ && (decide (Region.ready .any l.toArray (doneBy l.toArray.size σ) = [i, j]) && (forcedB l.toArray (σ ++ [i]) τ && forcedB l.toArray (σ ++ [j]) τ')))) = true) (hlen : l.length = τ.length + 1 + σ.length) (hlen' : τ'.length = τ.length)
    (so : List Oper) (oi oj : Oper) (tq tq' : List Oper) (hso : σ.map (fun i => l.toArray[i]?) = so.map some) (hi : l.toArray[i]? = some oi) (hj : l.toArray[j]? = some oj) (hto : τ.map (fun i => l.toArray[i]?) = tq.map some) (hto' : τ'.map (fun i => l.toArray[i]?) = tq'.map some) (hQ : ∀ c a d v w, Q (.panic c) (Act.put a d v) w → Q (.panic c) a w) (hS : S w.drew)
    (h : ∀ ops : Array Oper, wpHeldG P ops S (fun a' => wpSt P ops S Q (oi :: tq) a' w.drew ∧ wpSt P ops S Q (oj :: tq') a' w.drew) so a) : (Code.region id l.toArray true).wp P Q a w := by
  simp only [Bool.and_eq_true, decide_eq_true_eq] at hB
  refine wp_region_held (S := S) hm ?_
  have key := heldG_heads (P := P) (Q := Q) (S := S) (ops := l.toArray) (f := τ.length + 1) (w := w.drew) hB.1 hQ hS σ so [] a hso hB.2.1 ?_
  · rw [← hlen] at key; simpa [doneBy] using key
  · refine heldG_mono (fun a' h' => ?_) _ _ (h l.toArray)
    have step : ∀ (x : Nat) (ox : Oper) (tx : List Nat) (tox : List Oper), l.toArray[x]? = some ox → tx.map (fun i => l.toArray[i]?) = tox.map some → forcedB l.toArray (σ ++ [x]) tx = true → tx.length = τ.length → wpSt P l.toArray S Q (ox :: tox) a' w.drew → wpOp P l.toArray Q x (fun a'' w'' => S w'' ∧ wpAnyH P .any l.toArray Q S τ.length ((doneBy l.toArray.size ([] ++ σ)).setIfInBounds x true) a'' w'') a' w.drew := by
      intro x ox tx tox hx htx hf hl hw
      refine wpOp_mono (fun a'' w'' h'' => ⟨h''.1, ?_⟩) (op_then hx hw)
      have := held_tail tx tox (σ ++ [x]) a'' w'' htx hf h''.2
      rw [doneBy_snoc, hl] at this; simpa using this
    refine wpAnyH_all (rs := [i, j]) (by simpa using hB.2.2.1) (by simp) (fun x hx => ?_)
    simp only [List.mem_cons, List.not_mem_nil, or_false] at hx
    rcases hx with rfl | rfl
    · exact step _ oi τ tq hi hto hB.2.2.2.1 rfl h'.1
    · exact step _ oj τ' tq' hj hto' hB.2.2.2.2 hlen' h'.2
end
end Go.Proofs.YthfacjlghcdndaaGreatDoor
