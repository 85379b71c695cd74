/- Texts Mcd Rna Rga Rgb. -/
import Derived.Test.YthfacjlghcdndaaGreatDoorM22
set_option linter.unusedSimpArgs false
set_option linter.unusedVariables false
namespace Go.Proofs.YthfacjlghcdndaaGreatDoor
open Go.RowKit
namespace Fl
def go (l : List Stmt) (m : MS) : Bool × MS := run (m.fuel + 1) l m
theorem go_nil (m : MS) : go [] m = (true, m) := rfl
theorem go_zero (s : Stmt) (l : List Stmt) (m : MS) (h : m.fuel = 0) : go (s :: l) m = (false, m) := by unfold go; rw [run, if_pos h]
theorem go_fuel (l : List Stmt) (m : MS) : (go l m).2.fuel ≤ m.fuel := run_fuel _ _ _
theorem go_of (l : List Stmt) (m : MS) (n : Nat) (h : m.fuel < n) : run n l m = go l m := run_same l m (m.fuel + 1) n (by omega) h
def MS.tick (m : MS) : MS := ⟨m.vars, m.sent, m.fuel - 1⟩
theorem go_one (s : Stmt) (m : MS) (h : m.fuel ≠ 0) : go [s] m =
    if s.kind = 3 then (true, ⟨m.vars.set s.x (exprV m.vars s.e), m.sent, m.fuel - 1⟩)
    else if s.kind = 4 then (true, ⟨m.vars, m.sent ++ [(s.x, exprV m.vars s.e)], m.fuel - 1⟩)
    else if s.kind = 5 then go (if exprV m.vars s.e = 0 then s.other else s.body) m.tick
    else if exprV m.vars s.e = 0 then (true, m.tick)
    else if (go s.body m.tick).1 = true then go [s] (go s.body m.tick).2 else go s.body m.tick := by
  show run (m.fuel + 1) [s] m = _
  rw [run, if_neg h]
  have g : ∀ l (m' : MS), m'.fuel < m.fuel → run m.fuel l m' = go l m' := fun l m' hm => go_of l m' _ hm
  have ht : m.tick.fuel < m.fuel := by show m.fuel - 1 < m.fuel; omega
  have gf : ∀ l, (go l m.tick).2.fuel < m.fuel := fun l => Nat.lt_of_le_of_lt (go_fuel l _) ht
  have em : (⟨m.vars, m.sent, m.fuel - 1⟩ : MS) = m.tick := rfl
  simp only [em]
  by_cases h3 : s.kind = 3
  · rw [if_pos h3, if_pos h3, g _ _ (by simp only; omega)]; rfl
  rw [if_neg h3, if_neg h3]
  by_cases h4 : s.kind = 4
  · rw [if_pos h4, if_pos h4, g _ _ (by simp only; omega)]; rfl
  rw [if_neg h4, if_neg h4]
  by_cases h5 : s.kind = 5
  · rw [if_pos h5, if_pos h5]
    generalize (if exprV m.vars s.e = 0 then s.other else s.body) = part
    rw [g part _ ht, g [] _ (gf _), go_nil]
    by_cases hq : (go part m.tick).1 = true
    · rw [if_pos hq]; exact Prod.ext hq.symm rfl
    · rw [if_neg hq]
  rw [if_neg h5, if_neg h5]
  by_cases hv : exprV m.vars s.e = 0
  · rw [if_pos hv, if_pos hv, g [] _ ht, go_nil]
  rw [if_neg hv, if_neg hv, g s.body _ ht, g [s] _ (gf _)]
theorem go_cons (s : Stmt) (rest : List Stmt) (m : MS) : go (s :: rest) m = if (go [s] m).1 = true then go rest (go [s] m).2 else go [s] m := by
  have e : go (s :: rest) m = _ := run_cons (m.fuel + 1) s rest m (by omega)
  rw [e]
  show (if (go [s] m).1 = true then run (m.fuel + 1) rest (go [s] m).2 else go [s] m) = _
  rw [go_of rest _ (m.fuel + 1) (by have := go_fuel [s] m; omega)]
end Fl
theorem Tryz.infoSentP : (Tryz.prog.info? 63).map (fun i => (i.zero, i.size, i.bytes)) = some (some (.agg #[.int .i64 0, .int .u32 0]), 2, 16) := by kernel_rfl
theorem sentV_snoc (l : List (Nat × Nat)) (c v : Nat) : sentV (l ++ [(c, v)]) = sentV l ++ [.int .i64 c, .int .u32 v] := by simp [sentV]
theorem getD_set' (l : List Nat) (x v i : Nat) (hx : x < l.length) : (l.set x v).getD i 0 = if i = x then v else l.getD i 0 := by
  rw [List.getD_eq_getElem?_getD, List.getD_eq_getElem?_getD, List.getElem?_set]
  by_cases h : x = i
  · subst h; simp [hx]
  · rw [if_neg h, if_neg (Ne.symm h)]
section
variable {lo base Mb Vb Ob Tb nv : Nat} {w0 w w' : World} {m : Fl.MS} {sv : Value}
theorem MachAt.setFuel (h : MachAt lo base Mb Vb Ob Tb nv w0 w m sv) (n : Nat) (hn : n ≤ m.fuel) : MachAt lo base Mb Vb Ob Tb nv w0 (w.setCell ⟨Mb, 2, none⟩ (.int .i64 n)) ⟨m.vars, m.sent, n⟩ sv := by
  obtain ⟨b1, b2, b3, b4⟩ := h.inn.hba
  obtain ⟨l1, l2, l3⟩ := h.inn.hlo
  obtain ⟨n1, n2, n3, n4, n5⟩ := h.inn.nd
  have hbz := h.hbz
  have q : ∀ k, k ≠ Mb → (w.setCell ⟨Mb, 2, none⟩ (.int .i64 n)).heap[k]? = w.heap[k]? := fun k hk => setCell_block _ _ _ _ _ hk
  exact { inn := h.inn, bel := h.bel.setCell (by show lo ≤ Mb; omega) _, fx := fun b f1 f2 f3 => (q b f2).trans (h.fx b f1 f2 f3), hbz := by rw [setCell_size]; exact hbz,
          cM := (h.cM.set (j := 2) (by omega) (.int .i64 n)).congr (fun j hj => by rcases (show j = 0 ∨ j = 1 ∨ j = 2 ∨ j = 3 by omega) with rfl | rfl | rfl | rfl <;> rfl),
          hv := h.hv, cV := h.cV.block (q _ (Ne.symm n1)), vb := h.vb, sl := by have := h.sl; simp only; omega, os := ownsRow_setCell_below h.os (by show Mb < base; omega) _ }
theorem MachAt.setVar (h : MachAt lo base Mb Vb Ob Tb nv w0 w m sv) (x v : Nat) (hx : x < nv) (hv : v < 4294967296) : MachAt lo base Mb Vb Ob Tb nv w0 (w.setCell ⟨Vb, x, none⟩ (.int .u32 v)) ⟨m.vars.set x v, m.sent, m.fuel⟩ sv := by
  obtain ⟨b1, b2, b3, b4⟩ := h.inn.hba
  obtain ⟨l1, l2, l3⟩ := h.inn.hlo
  obtain ⟨n1, n2, n3, n4, n5⟩ := h.inn.nd
  have hbz := h.hbz
  have q : ∀ k, k ≠ Vb → (w.setCell ⟨Vb, x, none⟩ (.int .u32 v)).heap[k]? = w.heap[k]? := fun k hk => setCell_block _ _ _ _ _ hk
  have hlen := h.hv
  refine { inn := h.inn, bel := h.bel.setCell (by show lo ≤ Vb; omega) _, fx := fun b f1 f2 f3 => (q b f3).trans (h.fx b f1 f2 f3), hbz := by rw [setCell_size]; exact hbz, cM := h.cM.block (q _ n1),
           hv := by simp [hlen], cV := ?_, vb := fun y hy => ?_, sl := h.sl, os := ownsRow_setCell_below h.os (by show Vb < base; omega) _ }
  · refine (h.cV.set (j := x) hx (.int .u32 v)).congr (fun i hi => ?_)
    simp only [getD_set' m.vars x v i (by omega)]
    split <;> rfl
  · rcases List.mem_or_eq_of_mem_set hy with h1 | h1
    · exact h.vb y h1
    · omega
theorem MachAt.addSent (h : MachAt lo base Mb Vb Ob Tb nv w0 w m sv) {W3 W4 : World} {sv' : Value} (c v : Nat) (hf : m.sent.length + 1 + m.fuel ≤ 2000) (hb3 : Below w.heap.size w W3) (ho4 : W4.ownsRow base 63 2 sv' (m.sent.length + 1) (sentV m.sent ++ [.int .i64 c, .int .u32 v])) (hg4 : W3.grownBy W4 sv.ownBlock) :
    MachAt lo base Mb Vb Ob Tb nv w0 (W4.setCell ⟨Mb, 1, none⟩ sv') ⟨m.vars, m.sent ++ [(c, v)], m.fuel⟩ sv' := by
  have hw3 := h.below hb3
  obtain ⟨b1, b2, b3, b4⟩ := h.inn.hba
  obtain ⟨l1, l2, l3⟩ := h.inn.hlo
  obtain ⟨n1, n2, n3, n4, n5⟩ := h.inn.nd
  have hbz := hw3.hbz
  have hz4 := hg4.size
  have hlt := h.os.lt
  have q4 : ∀ k, k < base → W4.heap[k]? = W3.heap[k]? := fun k hk => hg4.block k (by omega) (fun hh => by have := (hlt k hh.symm).1; omega)
  have q : ∀ k, k < base → k ≠ Mb → (W4.setCell ⟨Mb, 1, none⟩ sv').heap[k]? = W3.heap[k]? := fun k hk hne => (setCell_block _ _ _ _ _ hne).trans (q4 k hk)
  have hb4 : Below lo w0 W4 := hw3.bel.grown hg4 (by have := hw3.bel.size; omega) (fun k hk => by have := (hlt k hk).1; omega)
  exact { inn := h.inn, bel := hb4.setCell (by show lo ≤ Mb; omega) _, fx := fun b f1 f2 f3 => (q b f1 f2).trans (hw3.fx b f1 f2 f3), hbz := by rw [setCell_size]; omega,
          cM := ((hw3.cM.block (q4 _ b1)).set (j := 1) (by omega) sv').congr (fun j hj => by rcases (show j = 0 ∨ j = 1 ∨ j = 2 ∨ j = 3 by omega) with rfl | rfl | rfl | rfl <;> rfl),
          hv := h.hv, cV := hw3.cV.block (q _ b2 (Ne.symm n1)), vb := h.vb, sl := by simp; omega, os := by rw [sentV_snoc, List.length_append]; exact ownsRow_setCell_below ho4 (by show Mb < base; omega) _ }
set_option maxRecDepth 100000 in
theorem step_any (h : MachAt lo base Mb Vb Ob Tb nv w0 w m sv) : Calls Tryz.prog 73 #[.pointer (some ⟨Mb, 0, none⟩)] w fun e w' => (m.fuel = 0 ∧ e = .returned (.bool false) ∧ w' = w) ∨ (m.fuel ≠ 0 ∧ e = .returned (.bool true) ∧ MachAt lo base Mb Vb Ob Tb nv w0 w' m.tick sv) := by
  have c2 : w.cell? ⟨Mb, 2, none⟩ = some (.int .i64 m.fuel) := h.cM.c 2 (by omega)
  have z2 := h.cM.z
  have HT : Hid (MachAt lo base Mb Vb Ob Tb nv w0 (w.setCell ⟨Mb, 2, none⟩ (.int .i64 ((m.fuel - 1 : Nat) : Int))) m.tick sv) := h.setFuel (m.fuel - 1) (by omega)
  have hf := h.sl
  obtain ⟨f, hF⟩ : ∃ f, f = m.fuel := ⟨_, rfl⟩
  rw [← hF] at c2 HT hf ⊢
  have hf2 : (f : Int) ≤ 2000 := by omega
  clear h hF hf
  by_cases h0 : f = 0
  · have b0 : ((f : Int) == 0) = true := by simp [h0]
    have H0 : Hid (f = 0) := h0
    clear h0 HT
    go_enter Tryz.func73, Tryz.ntmps73
    go_wp2
    go_ret
    exact .inl ⟨H0.out, rfl, rfl⟩
  · have b0 : ((f : Int) == 0) = false := by simp; exact h0
    have e1 : ((f - 1 : Nat) : Int) = (f : Int) - 1 := by omega
    rw [e1] at HT
    have H0 : Hid (f ≠ 0) := h0
    have hf1 : (1 : Int) ≤ (f : Int) := by omega
    clear h0 e1
    go_enter Tryz.func73, Tryz.ntmps73
    go_wp2
    go_ret
    exact .inr ⟨H0.out, rfl, HT.out⟩
end
end Go.Proofs.YthfacjlghcdndaaGreatDoor

namespace Go.Proofs.YthfacjlghcdndaaGreatDoor
open Go.RowKit
def stCells (s : Fl.Stmt) (bv ov : Value) : List Value := [.int .i64 s.kind, .int .i64 s.x, .int .i64 s.line, .int .i64 s.e.op, .bool s.e.a.var, .int .i64 s.e.a.v, .bool s.e.b.var, .int .i64 s.e.b.v, bv, ov]
def RStmts : Nat → (Nat → Prop) → World → Value → List Fl.Stmt → Prop
  | 0, _, _, v, l => l = [] ∧ v = .slice none 0 0
  | d + 1, S, w, v, l => ∃ ao cap, v = .slice ao l.length cap ∧ l.length ≤ cap ∧ cap ≤ maxLen ∧ l.length ≤ 16 ∧
      (l ≠ [] → ∃ b, ao = some ⟨b, 0, none⟩ ∧ S b ∧ ∀ i, i < l.length → ∃ bv ov, (∀ j, j < 10 → w.cell? ⟨b, i * 10 + j, none⟩ = some ((stCells (l.getD i noS) bv ov).getD j undef)) ∧ RStmts d S w bv (l.getD i noS).body ∧ RStmts d S w ov (l.getD i noS).other)
theorem RStmts.kept {S S' : Nat → Prop} {w w' : World} (hS : ∀ b, S b → S' b) (hw : ∀ b, S b → w'.heap[b]? = w.heap[b]?) : ∀ (d : Nat) (v : Value) (l : List Fl.Stmt), RStmts d S w v l → RStmts d S' w' v l
  | 0, _, _, h => h
  | d + 1, v, l, h => by
    obtain ⟨ao, cap, h1, h2, h3, h4, h5⟩ := h
    refine ⟨ao, cap, h1, h2, h3, h4, fun hne => ?_⟩
    obtain ⟨b, e, hb, hc⟩ := h5 hne
    refine ⟨b, e, hS b hb, fun i hi => ?_⟩
    obtain ⟨bv, ov, g1, g2, g3⟩ := hc i hi
    exact ⟨bv, ov, fun j hj => (World.cell?_of_block (a := ⟨b, i * 10 + j, none⟩) (hw b hb)).trans (g1 j hj), RStmts.kept hS hw d bv _ g2, RStmts.kept hS hw d ov _ g3⟩
theorem RStmts.slice {d : Nat} {S : Nat → Prop} {w : World} {v : Value} {l : List Fl.Stmt} (h : RStmts d S w v l) : ∃ a n c, v = .slice a n c := by
  cases d with
  | zero => exact ⟨_, _, _, h.2⟩
  | succ d => obtain ⟨ao, c, h1, -⟩ := h; exact ⟨_, _, _, h1⟩
structure RunIn (lo base Kb Vb nv : Nat) : Prop where
  hlo : lo ≤ Kb ∧ lo ≤ Vb ∧ lo ≤ base
  hba : Kb < base ∧ Vb < base
  nd : Kb ≠ Vb
  nvm : nv ≤ 10
structure RunAt (lo base Kb Vb nv : Nat) (va : Option Addr) (vc : Nat) (w0 w : World) (m : Fl.MS) (sv : Value) : Prop where
  inn : RunIn lo base Kb Vb nv
  bel : Below lo w0 w
  fx : ∀ b, b < base → b ≠ Kb → (nv = 0 ∨ b ≠ Vb) → w.heap[b]? = w0.heap[b]?
  hbz : base ≤ w.heap.size
  ha : nv ≠ 0 → va = some ⟨Vb, 0, none⟩
  hc : nv ≤ vc ∧ vc ≤ maxLen
  cK : Cells w Kb 3 (rw_ [.slice va nv vc, sv, .int .i64 m.fuel])
  hv : m.vars.length = nv
  cV : Cells w Vb nv (fun i => .int .u32 (m.vars.getD i 0))
  vb : ∀ x ∈ m.vars, x < 4294967296
  sl : m.sent.length + m.fuel ≤ 2000
  os : w.ownsRow base 63 2 sv m.sent.length (sentV m.sent)
section
variable {lo base Kb Vb nv : Nat} {va : Option Addr} {vc : Nat} {w0 w w' : World} {m : Fl.MS} {sv : Value}
theorem RunAt.below (h : RunAt lo base Kb Vb nv va vc w0 w m sv) (hb : Below w.heap.size w w') : RunAt lo base Kb Vb nv va vc w0 w' m sv := by
  obtain ⟨b1, b2⟩ := h.inn.hba
  obtain ⟨l1, l2, l3⟩ := h.inn.hlo
  have hbz := h.hbz
  have hz := hb.size
  have q : ∀ b, b < w.heap.size → w'.heap[b]? = w.heap[b]? := fun b hlt => hb.block b hlt
  exact { inn := h.inn, bel := h.bel.trans (hb.mono (by omega)), fx := fun b f1 f2 f3 => (q b (by omega)).trans (h.fx b f1 f2 f3), hbz := by omega, ha := h.ha, hc := h.hc, cK := h.cK.block (q _ (by omega)), hv := h.hv, cV := h.cV.block (q _ (by omega)), vb := h.vb, sl := h.sl,
          os := own_same h.os (fun b hv => q b (h.os.lt b hv).2) }
theorem RunAt.drew (h : RunAt lo base Kb Vb nv va vc w0 w m sv) : RunAt lo base Kb Vb nv va vc w0 w.drew m sv := h.below (Below.refl _ _).drew
set_option maxRecDepth 100000 in
set_option maxHeartbeats 1000000 in
theorem ratom_any (h : RunAt lo base Kb Vb nv va vc w0 w m sv) (a : Fl.Atom) (ha : Fl.AtomOk nv a) :
    Calls Tryz.prog 39 #[.pointer (some ⟨Kb, 0, none⟩), .agg #[.bool a.var, .int .i64 a.v]] w fun e w' => e = .returned (.int .u32 ((Fl.atomV m.vars a : Nat) : Int)) ∧ Below w.heap.size w w' := by
  have hKz : Kb < w.heap.size := by have := h.inn.hba; have := h.hbz; omega
  have m0 : ∀ o, (w.alloc o).cell? ⟨Kb, 0, none⟩ = some (.slice va nv vc) := fun o => (((Below.refl w.heap.size w).alloc (Nat.le_refl _) o).cell (p := ⟨Kb, 0, none⟩) hKz).trans (h.cK.c 0 (by omega))
  have HB : Hid (∀ o, Below w.heap.size w (w.alloc o)) := fun o => (Below.refl _ _).alloc (Nat.le_refl _) _
  cases hv : a.var with
  | true =>
    have hlt : a.v < nv := by unfold Fl.AtomOk at ha; rw [if_pos hv] at ha; exact ha
    have hVz : Vb < w.heap.size := by have := h.inn.hba; have := h.hbz; omega
    have cv : ∀ o, (w.alloc o).cell? ⟨Vb, a.v, none⟩ = some (.int .u32 ((m.vars.getD a.v 0 : Nat) : Int)) := fun o => (((Below.refl w.heap.size w).alloc (Nat.le_refl _) o).cell (p := ⟨Vb, a.v, none⟩) hVz).trans (h.cV.c a.v hlt)
    obtain rfl := h.ha (by omega)
    have hr : Fl.atomV m.vars a = m.vars.getD a.v 0 := by unfold Fl.atomV; rw [if_pos hv]
    rw [hr]
    generalize m.vars.getD a.v 0 = x at *
    have hnv := h.inn.nvm
    have hlt2 : (a.v : Int) < (nv : Int) := by omega
    generalize a.v = k at *
    clear h ha hr hv
    go_enter Tryz.func39, Tryz.ntmps39
    go_wp2_with fail
    go_quiet (fail)
    go_wp2
    go_ret
    exact ⟨rfl, (HB.out _).trans ⟨rfl, rfl, rfl, Nat.le_refl _, fun _ _ => rfl⟩⟩
  | false =>
    have hr : Fl.atomV m.vars a = a.v % 4294967296 := by unfold Fl.atomV; rw [hv]; rfl
    rw [hr]
    generalize a.v = k at *
    clear h ha hr hv
    go_enter Tryz.func39, Tryz.ntmps39
    go_wp2
    go_ret
    exact ⟨by simp, HB.out _⟩
def exV (x : Fl.Expr) : Value := .agg #[.int .i64 x.op, .bool x.a.var, .int .i64 x.a.v, .bool x.b.var, .int .i64 x.b.v]
set_option maxRecDepth 100000 in
set_option maxHeartbeats 2000000 in
theorem rexpr_any (h : RunAt lo base Kb Vb nv va vc w0 w m sv) (x : Fl.Expr) (hx : Fl.ExprOk nv x) :
    Calls Tryz.prog 25 #[.pointer (some ⟨Kb, 0, none⟩), exV x] w fun e w' => e = .returned (.int .u32 ((Fl.exprV m.vars x : Nat) : Int)) ∧ Below w.heap.size w w' := by
  have hv1 := atomV_lt h.vb x.a
  have hv2 := atomV_lt h.vb x.b
  have HA : Hid (∀ W, Below w.heap.size w W → Calls Tryz.prog 39 #[.pointer (some ⟨Kb, 0, none⟩), .agg #[.bool x.a.var, .int .i64 x.a.v]] W fun e w' => e = .returned (.int .u32 ((Fl.atomV m.vars x.a : Nat) : Int)) ∧ Below W.heap.size W w') := fun W hW => ratom_any (h.below hW) x.a hx.2.2.1
  have HB : Hid (∀ W, Below w.heap.size w W → Calls Tryz.prog 39 #[.pointer (some ⟨Kb, 0, none⟩), .agg #[.bool x.b.var, .int .i64 x.b.v]] W fun e w' => e = .returned (.int .u32 ((Fl.atomV m.vars x.b : Nat) : Int)) ∧ Below W.heap.size W w') := fun W hW => ratom_any (h.below hW) x.b hx.2.2.2
  have hr : Fl.exprV m.vars x = if x.op = -1 then Fl.atomV m.vars x.a else Fl.opV x.op (Fl.atomV m.vars x.a) (Fl.atomV m.vars x.b) := rfl
  rw [hr]
  generalize Fl.atomV m.vars x.a = p at *
  generalize Fl.atomV m.vars x.b = q at *
  have ho1 := hx.1
  have ho2 := hx.2.1
  unfold exV
  generalize x.a.var = av at *
  generalize x.a.v = an at *
  generalize x.b.var = bv at *
  generalize x.b.v = bn at *
  generalize x.op = o at *
  have hB1 : ∀ o, Below w.heap.size w (w.alloc o) := fun o => (Below.refl _ _).alloc (Nat.le_refl _) _
  have HB1 : Hid (∀ o, Below w.heap.size w (w.alloc o)) := hB1
  have pq : (((p : Int) - (q : Int)) % 4294967296) = (((p + 4294967296 - q) % 4294967296 : Nat) : Int) := by omega
  have HPQ : Hid ((((p : Int) - (q : Int)) % 4294967296) = (((p + 4294967296 - q) % 4294967296 : Nat) : Int)) := pq
  have hcase : o = -1 ∨ o = 0 ∨ o = 1 ∨ o = 2 ∨ o = 3 ∨ o = 4 := by omega
  clear h hx hr hB1 pq ho1 ho2
  rcases hcase with rfl | rfl | rfl | rfl | rfl | rfl
  all_goals
    go_enter Tryz.func25, Tryz.ntmps25
    go_wp2_with fail
    refine (HA.out _ (HB1.out _)).mono ?_
    rintro e W ⟨rfl, hb⟩
    have hlt : w.heap.size < W.heap.size := by have := hb.size; simp at this; omega
    have f0 := (hb.cell (p := ⟨w.heap.size, 0, none⟩) (by simp)).trans (by simp; rfl)
    have f3 := (hb.cell (p := ⟨w.heap.size, 3, none⟩) (by simp)).trans (by simp; rfl)
    have f4 := (hb.cell (p := ⟨w.heap.size, 4, none⟩) (by simp)).trans (by simp; rfl)
    have HW : Hid (Below w.heap.size w W) := (HB1.out _).trans (hb.mono (by simp))
    clear hb
    go_wp2_with fail
    refine (HB.out _ HW.out).mono ?_
    rintro e W2 ⟨rfl, hb⟩
    have g0 : W2.cell? ⟨w.heap.size, 0, none⟩ = _ := (hb.cell (p := ⟨w.heap.size, 0, none⟩) hlt).trans f0
    have HW2 : Hid (Below w.heap.size w W2) := HW.out.trans (hb.mono HW.out.size)
    clear hb f0 f3 f4
    go_wp2
    all_goals
      go_ret
      refine ⟨?_, HW2.out⟩
      first
        | rfl
        | (simp [Fl.opV, Fl.u32]; done)
        | (have h9 := HPQ.out; simp [Fl.opV, Fl.u32]; omega)
        | (show _ = Ending.returned (Value.int .u32 ((if p < q then 1 else 0 : Nat) : Int)); split <;> first | rfl | (exfalso; omega))
        | (show _ = Ending.returned (Value.int .u32 ((if p = q then 1 else 0 : Nat) : Int)); split <;> first | rfl | (exfalso; omega))
        | (by_cases h3 : p < q <;> simp_all [Fl.opV]; done)
        | (by_cases h4 : p = q <;> simp_all [Fl.opV]; done)
        | (by_cases h4 : p = q <;> simp_all [Fl.opV] <;> omega)
end
end Go.Proofs.YthfacjlghcdndaaGreatDoor

namespace Go.Proofs.YthfacjlghcdndaaGreatDoor
open Go.RowKit
def hdS (s : Fl.Stmt) : Fl.Stmt := ⟨s.kind, s.x, s.line, s.e, [], []⟩
def fElse : FlS := ⟨1, noS⟩
def fEnd : FlS := ⟨2, noS⟩
def fHead (s : Fl.Stmt) : FlS := ⟨0, hdS s⟩
def FlatS (K : List FlS → List Fl.Stmt → Prop) (p : List FlS) (s : Fl.Stmt) : Prop :=
  ((s.kind = 3 ∨ s.kind = 4) ∧ s.body = [] ∧ s.other = [] ∧ p = [fHead s]) ∨
  ((s.kind = 5 ∨ s.kind = 6) ∧ ∃ f1, K f1 s.body ∧ ((s.other = [] ∧ p = fHead s :: (f1 ++ [fEnd])) ∨ ∃ f2, K f2 s.other ∧ p = fHead s :: (f1 ++ fElse :: (f2 ++ [fEnd]))))
def FlatCat (R : List FlS → Fl.Stmt → Prop) : List FlS → List Fl.Stmt → Prop
  | fl, [] => fl = []
  | fl, s :: l => ∃ p q, fl = p ++ q ∧ R p s ∧ FlatCat R q l
def FlatL : Nat → List FlS → List Fl.Stmt → Prop
  | 0, fl, l => fl = [] ∧ l = []
  | d + 1, fl, l => FlatCat (FlatS (FlatL d)) fl l
theorem FlatCat.snoc {R : List FlS → Fl.Stmt → Prop} : ∀ {l : List Fl.Stmt} {fl : List FlS}, FlatCat R fl l → ∀ {p : List FlS} {s : Fl.Stmt}, R p s → FlatCat R (fl ++ p) (l ++ [s])
  | [], fl, h, p, s, hp => by
    have h0 : fl = [] := h
    subst h0
    exact ⟨p, [], by simp, hp, rfl⟩
  | x :: l, fl, h, p, s, hp => by
    obtain ⟨a, b, rfl, h1, h2⟩ := h
    exact ⟨a, b ++ p, by simp, h1, FlatCat.snoc h2 hp⟩
theorem FlatL.nil (d : Nat) : FlatL d [] [] := by
  cases d with
  | zero => exact ⟨rfl, rfl⟩
  | succ d => exact rfl
def FlatFr (d : Nat) (p : List FlS) (f : Fl.Frame) : Prop :=
  ∃ f1, FlatL (d + 1) f1 f.first ∧ ((f.had = false ∧ p = ⟨0, ⟨f.kind, 0, f.line, f.e, [], []⟩⟩ :: f1) ∨ (f.had = true ∧ ∃ f2, FlatL (d + 1) f2 f.els ∧ p = ⟨0, ⟨f.kind, 0, f.line, f.e, [], []⟩⟩ :: (f1 ++ fElse :: f2)))
def FlatF : Nat → List FlS → List Fl.Frame → Prop
  | _, fl, [] => fl = []
  | d, fl, f :: fs => ∃ a b, fl = a ++ b ∧ FlatF (d + 1) a fs ∧ FlatFr d b f
def FlatR (fl : List FlS) (r : Fl.RS) : Prop := ∃ a b, fl = a ++ b ∧ FlatL 4 a r.top ∧ FlatF (3 - r.fr.length) b r.fr
theorem FlatFr.done {d : Nat} {p : List FlS} {f : Fl.Frame} (h : FlatFr d p f) (hk : f.kind = 5 ∨ f.kind = 6) (hn : f.had = false → f.els = []) : FlatS (FlatL (d + 1)) (p ++ [fEnd]) f.done := by
  obtain ⟨f1, h1, h2⟩ := h
  right
  refine ⟨hk, f1, h1, ?_⟩
  rcases h2 with ⟨h3, rfl⟩ | ⟨h3, f2, h4, rfl⟩
  · left; exact ⟨hn h3, rfl⟩
  · right; exact ⟨f2, h4, by simp; rfl⟩
theorem FlatFr.snoc {d : Nat} {p q : List FlS} {f : Fl.Frame} {s : Fl.Stmt} (h : FlatFr d p f) (hq : FlatS (FlatL d) q s) : FlatFr d (p ++ q) (if f.had then { f with els := f.els ++ [s] } else { f with first := f.first ++ [s] }) := by
  obtain ⟨f1, h1, h2⟩ := h
  rcases h2 with ⟨h3, rfl⟩ | ⟨h3, f2, h4, rfl⟩
  · rw [h3]
    exact ⟨f1 ++ q, FlatCat.snoc h1 hq, .inl ⟨rfl, by simp⟩⟩
  · rw [h3]
    exact ⟨f1, h1, .inr ⟨rfl, f2 ++ q, FlatCat.snoc h4 hq, by simp⟩⟩
theorem flatR_put {fl : List FlS} {r : Fl.RS} (h : FlatR fl r) {s : Fl.Stmt} (hk : s.kind = 3 ∨ s.kind = 4) (h1 : s.body = []) (h2 : s.other = []) (hl : r.fr.length ≤ 3) : FlatR (fl ++ [fHead s]) (r.put s) := by
  obtain ⟨a, b, rfl, ha, hb⟩ := h
  have hs : ∀ d, FlatS (FlatL d) [fHead s] s := fun d => .inl ⟨hk, h1, h2, rfl⟩
  unfold Fl.RS.put
  cases hf : r.fr with
  | nil =>
    rw [hf] at hb
    have h0 : b = [] := hb
    subst h0
    exact ⟨a ++ [fHead s], [], by simp, FlatCat.snoc ha (hs 3), rfl⟩
  | cons f fs =>
    rw [hf] at hb
    obtain ⟨x, y, rfl, hx, hy⟩ := hb
    exact ⟨a, x ++ (y ++ [fHead s]), by simp, ha, x, y ++ [fHead s], rfl, hx, hy.snoc (hs _)⟩
theorem flatR_opens {fl : List FlS} {r : Fl.RS} (h : FlatR fl r) (kind line : Nat) (e : Fl.Expr) (hl : r.fr.length < 3) : FlatR (fl ++ [⟨0, ⟨kind, 0, line, e, [], []⟩⟩]) (r.opens kind line e) := by
  obtain ⟨a, b, rfl, ha, hb⟩ := h
  have e1 : 3 - (r.fr.length + 1) + 1 = 3 - r.fr.length := by omega
  refine ⟨a, b ++ [⟨0, ⟨kind, 0, line, e, [], []⟩⟩], by simp, ha, b, [_], rfl, ?_, [], FlatL.nil _, .inl ⟨rfl, rfl⟩⟩
  show FlatF (3 - (r.fr.length + 1) + 1) b r.fr
  rw [e1]; exact hb
theorem flatR_elses {fl : List FlS} {r : Fl.RS} (h : FlatR fl r) {f : Fl.Frame} {fs : List Fl.Frame} (hf : r.fr = f :: fs) (hd : f.had = false) (hn : f.els = []) : FlatR (fl ++ [fElse]) r.elses := by
  obtain ⟨a, b, rfl, ha, hb⟩ := h
  rw [hf] at hb
  obtain ⟨x, y, rfl, hx, f1, h1, h2⟩ := hb
  unfold Fl.RS.elses
  rw [hf]
  rcases h2 with ⟨h3, rfl⟩ | ⟨h3, _⟩
  · exact ⟨a, x ++ (⟨0, ⟨f.kind, 0, f.line, f.e, [], []⟩⟩ :: (f1 ++ fElse :: [])), by simp, ha, x, _, rfl, hx, f1, h1, .inr ⟨rfl, [], by rw [show ({ f with had := true } : Fl.Frame).els = [] from hn]; exact FlatL.nil _, rfl⟩⟩
  · rw [hd] at h3; cases h3
theorem flatR_ends {fl : List FlS} {r : Fl.RS} (h : FlatR fl r) {f : Fl.Frame} {fs : List Fl.Frame} (hf : r.fr = f :: fs) (hk : f.kind = 5 ∨ f.kind = 6) (hn : f.had = false → f.els = []) (hl : r.fr.length ≤ 3) : FlatR (fl ++ [fEnd]) r.ends := by
  obtain ⟨a, b, rfl, ha, hb⟩ := h
  rw [hf] at hb hl
  obtain ⟨x, y, rfl, hx, hy⟩ := hb
  unfold Fl.RS.ends
  rw [hf]
  have hd := hy.done hk hn
  cases fs with
  | nil =>
    have h0 : x = [] := hx
    subst h0
    exact ⟨a ++ (y ++ [fEnd]), [], by simp, FlatCat.snoc ha hd, rfl⟩
  | cons g gs =>
    obtain ⟨u, v, rfl, hu, hv⟩ := hx
    simp only [List.length_cons] at hl hd hu hv
    have e1 : 3 - (gs.length + 1 + 1) + 1 = 3 - (gs.length + 1) := by omega
    refine ⟨a, u ++ (v ++ (y ++ [fEnd])), by simp, ha, u, v ++ (y ++ [fEnd]), rfl, ?_, ?_⟩
    · simp only [List.length_cons]; rw [← e1]; exact hu
    · simp only [List.length_cons]; rw [← e1]; exact hv.snoc hd
theorem flatR0 : FlatR [] Fl.RS.zero := ⟨[], [], rfl, FlatL.nil 4, rfl⟩
end Go.Proofs.YthfacjlghcdndaaGreatDoor

namespace Go.Proofs.YthfacjlghcdndaaGreatDoor
open Go.RowKit
def dsV (ds : List (Fl.Stmt × Value × Value)) : List Value := ds.flatMap fun x => stCells x.1 x.2.1 x.2.2
theorem stCells_len (s : Fl.Stmt) (a b : Value) : (stCells s a b).length = 10 := rfl
theorem dsV_len (ds : List (Fl.Stmt × Value × Value)) : (dsV ds).length = ds.length * 10 := by
  induction ds with
  | nil => rfl
  | cons x ds ih => unfold dsV at *; simp only [List.flatMap_cons, List.length_append, ih, stCells_len, List.length_cons]; omega
theorem dsV_get (ds : List (Fl.Stmt × Value × Value)) (i j : Nat) (hi : i < ds.length) (hj : j < 10) (x : Fl.Stmt × Value × Value) (hx : ds[i]? = some x) : (dsV ds)[i * 10 + j]? = some ((stCells x.1 x.2.1 x.2.2).getD j undef) := by
  induction ds generalizing i with
  | nil => simp at hi
  | cons y ds ih =>
    unfold dsV at *
    rw [List.flatMap_cons]
    cases i with
    | zero =>
      simp only [List.getElem?_cons_zero, Option.some.injEq] at hx
      subst hx
      rw [Nat.zero_mul, Nat.zero_add, List.getElem?_append_left (by rw [stCells_len]; exact hj), List.getD_eq_getElem?_getD, List.getElem?_eq_getElem (by rw [stCells_len]; exact hj)]; rfl
    | succ i =>
      simp only [List.getElem?_cons_succ] at hx
      rw [List.getElem?_append_right (by rw [stCells_len]; omega), stCells_len, show (i + 1) * 10 + j - 10 = i * 10 + j by omega]
      exact ih i (by simpa using hi) hx
def BdS (B : Nat) (w : World) (ov : Value) (b : Nat) : Prop := B ≤ b ∧ b < w.heap.size ∧ ov.ownBlock ≠ some b
structure BdSt (d B : Nat) (w : World) (ds : List (Fl.Stmt × Value × Value)) (ov : Value) : Prop where
  own : w.ownsRow B 87 10 ov ds.length (dsV ds)
  bd : ∀ x ∈ ds, RStmts d (BdS B w ov) w x.2.1 x.1.body ∧ RStmts d (BdS B w ov) w x.2.2 x.1.other
  hz : B ≤ w.heap.size
theorem BdSt.nil (d : Nat) (w : World) : BdSt d w.heap.size w [] (.slice none 0 0) := ⟨⟨rfl, .inl ⟨rfl, rfl⟩⟩, fun x hx => (by cases hx), Nat.le_refl _⟩
theorem BdSt.below {d B : Nat} {w w' : World} {ds : List (Fl.Stmt × Value × Value)} {ov : Value} (h : BdSt d B w ds ov) (hb : Below w.heap.size w w') : BdSt d B w' ds ov := by
  have hz := hb.size
  have hk : ∀ b, BdS B w ov b → BdS B w' ov b := fun b hb => ⟨hb.1, by have := hb.2.1; omega, hb.2.2⟩
  have hw : ∀ b, BdS B w ov b → w'.heap[b]? = w.heap[b]? := fun b hb' => hb.block b hb'.2.1
  exact ⟨own_same h.own (fun b hv => hb.block b (h.own.lt b hv).2), fun x hx => ⟨RStmts.kept hk hw _ _ _ (h.bd x hx).1, RStmts.kept hk hw _ _ _ (h.bd x hx).2⟩, by have := h.hz; omega⟩
theorem BdSt.push {d B : Nat} {w W3 W4 : World} {ds : List (Fl.Stmt × Value × Value)} {ov ov' bv o2 : Value} {s : Fl.Stmt} (h : BdSt d B w ds ov) (hb : Below w.heap.size w W3) (h1 : RStmts d (BdS B W3 ov) W3 bv s.body) (h2 : RStmts d (BdS B W3 ov) W3 o2 s.other)
    (ho : W4.ownsRow B 87 10 ov' (ds.length + 1) (dsV ds ++ stCells s bv o2)) (hg : W3.grownBy W4 ov.ownBlock) (hwh : ov'.ownBlock = ov.ownBlock ∨ ov'.ownBlock = some W3.heap.size) : BdSt d B W4 (ds ++ [(s, bv, o2)]) ov' := by
  have h3 := h.below hb
  have hz := hg.size
  have hk : ∀ b, BdS B W3 ov b → BdS B W4 ov' b := fun b hb => ⟨hb.1, by have := hb.2.1; omega, fun hh => by
    rcases hwh with e | e
    · rw [e] at hh; exact hb.2.2 hh
    · rw [e] at hh; simp only [Option.some.injEq] at hh; have := hb.2.1; omega⟩
  have hw : ∀ b, BdS B W3 ov b → W4.heap[b]? = W3.heap[b]? := fun b hb' => hg.block b hb'.2.1 (Ne.symm hb'.2.2)
  refine ⟨?_, fun x hx => ?_, by have := h3.hz; omega⟩
  · rw [List.length_append, show dsV (ds ++ [(s, bv, o2)]) = dsV ds ++ stCells s bv o2 by simp [dsV]]; exact ho
  · rcases List.mem_append.1 hx with hx | hx
    · exact ⟨RStmts.kept hk hw _ _ _ (h3.bd x hx).1, RStmts.kept hk hw _ _ _ (h3.bd x hx).2⟩
    · simp only [List.mem_singleton] at hx; subst hx
      exact ⟨RStmts.kept hk hw _ _ _ h1, RStmts.kept hk hw _ _ _ h2⟩
theorem BdSt.closed {d B : Nat} {w : World} {ds : List (Fl.Stmt × Value × Value)} {ov : Value} (h : BdSt d B w ds ov) (hl : ds.length ≤ 16) : RStmts (d + 1) (fun b => B ≤ b ∧ b < w.heap.size) w ov (ds.map (·.1)) := by
  rcases h.own.2 with ⟨h1, h2⟩ | ⟨g, cap, cur, h1, h2, h3, h4, h5, h6, h7⟩
  · have : ds = [] := List.eq_nil_of_length_eq_zero h2
    subst this
    exact ⟨none, 0, h1, by simp, by simp [maxLen], by simp, fun hh => absurd rfl hh⟩
  · have hgz : g < w.heap.size := Classical.byContradiction fun hn => by rw [Array.getElem?_eq_none (by omega)] at h3; cases h3
    refine ⟨_, cap, by rw [List.length_map]; exact h1, by rw [List.length_map]; exact h4, h5, by rw [List.length_map]; exact hl, fun hne => ⟨g, rfl, ⟨h2, hgz⟩, fun i hi => ?_⟩⟩
    rw [List.length_map] at hi
    have hx : ds[i]? = some ds[i] := List.getElem?_eq_getElem hi
    have hs : (ds.map (·.1)).getD i noS = ds[i].1 := by rw [List.getD_eq_getElem?_getD, List.getElem?_map, hx]; rfl
    rw [hs]
    have hm := h.bd ds[i] (List.getElem_mem hi)
    refine ⟨ds[i].2.1, ds[i].2.2, fun j hj => ?_, RStmts.kept (fun b hb => ⟨hb.1, hb.2.1⟩) (fun _ _ => rfl) _ _ _ hm.1, RStmts.kept (fun b hb => ⟨hb.1, hb.2.1⟩) (fun _ _ => rfl) _ _ _ hm.2⟩
    have h8 := h.own.cells (g := g) (by rw [h1]; rfl) (i * 10 + j) _ (dsV_get ds i j hi hj _ hx)
    have h9 : (⟨g, 0, none⟩ : Addr).add (i * 10 + j) = ⟨g, i * 10 + j, none⟩ := by unfold Addr.add; split <;> simp_all
    rw [h9] at h8; exact h8
def FlAt (w : World) (v : Value) (FL : List FlS) : Prop :=
  ∃ fa fc, v = .slice fa FL.length fc ∧ FL.length ≤ fc ∧ fc ≤ maxLen ∧ FL.length ≤ 100000 ∧ (FL ≠ [] → ∃ Fb, fa = some ⟨Fb, 0, none⟩ ∧ Fb < w.heap.size ∧ ∀ k, k < FL.length → ∀ j, j < 10 → w.cell? ⟨Fb, k * 10 + j, none⟩ = some ((fsCells (FL.getD k fEnd)).getD j undef))
theorem FlAt.below {w w' : World} {v : Value} {FL : List FlS} (h : FlAt w v FL) (hb : Below w.heap.size w w') : FlAt w' v FL := by
  obtain ⟨fa, fc, h1, h2, h3, h4, h5⟩ := h
  refine ⟨fa, fc, h1, h2, h3, h4, fun hne => ?_⟩
  obtain ⟨Fb, e, hz, hc⟩ := h5 hne
  exact ⟨Fb, e, Nat.lt_of_lt_of_le hz hb.size, fun k hk j hj => (hb.cell (p := ⟨Fb, k * 10 + j, none⟩) hz).trans (hc k hk j hj)⟩
def Stop (rest : List FlS) : Prop := rest = [] ∨ ∃ f r, rest = f :: r ∧ f.tag ≠ 0
def cnt (l : List FlS) : Nat := l.countP fun f => f.tag == 0
theorem cnt_append (a b : List FlS) : cnt (a ++ b) = cnt a + cnt b := by simp [cnt]
theorem FlatCat.cnt {R : List FlS → Fl.Stmt → Prop} (hR : ∀ p s, R p s → 1 ≤ cnt p) : ∀ {l : List Fl.Stmt} {fl : List FlS}, FlatCat R fl l → l.length ≤ Go.Proofs.YthfacjlghcdndaaGreatDoor.cnt fl
  | [], _, _ => Nat.zero_le _
  | s :: l, fl, h => by
    obtain ⟨p, q, rfl, h1, h2⟩ := h
    rw [cnt_append, List.length_cons]
    have := hR p s h1
    have := FlatCat.cnt hR h2
    omega
theorem FlatS.cnt {K : List FlS → List Fl.Stmt → Prop} {p : List FlS} {s : Fl.Stmt} (h : FlatS K p s) : 1 ≤ Go.Proofs.YthfacjlghcdndaaGreatDoor.cnt p := by
  have hc : ∀ l, 1 ≤ Go.Proofs.YthfacjlghcdndaaGreatDoor.cnt (fHead s :: l) := fun l => by simp [Go.Proofs.YthfacjlghcdndaaGreatDoor.cnt, fHead]
  rcases h with ⟨_, _, _, rfl⟩ | ⟨_, f1, _, ⟨_, rfl⟩ | ⟨f2, _, rfl⟩⟩
  · exact hc _
  · exact hc _
  · exact hc _
theorem FlatL.cnt {d : Nat} {fl : List FlS} {l : List Fl.Stmt} (h : FlatL d fl l) : l.length ≤ Go.Proofs.YthfacjlghcdndaaGreatDoor.cnt fl := by
  cases d with
  | zero => rw [h.2]; exact Nat.zero_le _
  | succ d => exact FlatCat.cnt (fun p s h => FlatS.cnt h) h
end Go.Proofs.YthfacjlghcdndaaGreatDoor
