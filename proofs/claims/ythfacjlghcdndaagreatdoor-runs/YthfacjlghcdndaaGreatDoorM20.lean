/- Texts SpecO Cdm Pso RefB2. -/
import Derived.Test.YthfacjlghcdndaaGreatDoorM19
import Derived.Recover
import Derived.Defers
import Derived.Stop.Asserts
set_option linter.unusedSimpArgs false
set_option linter.unusedVariables false
namespace Go.Proofs.YthfacjlghcdndaaGreatDoor
namespace Fl
theorem number_le (l : List UInt8) (h : (number l 9).2 = true) : (number l 9).1 ≤ 999999999 := by
  unfold number at h ⊢
  split at h
  · rename_i hd
    rw [if_pos hd]
    simp only [numOk, Bool.and_eq_true, decide_eq_true_eq] at h
    have hl : l.length ≤ 9 := h.2.1
    show val (l.take 9) ≤ 999999999
    rw [List.take_of_length_le hl, val_eq]
    have h1 := valF_digits l 0 hd
    have h2 : 10 ^ l.length ≤ 10 ^ 9 := Nat.pow_le_pow_right (by decide) hl
    omega
  · cases h
def RS.nv (r : RS) : Nat := r.cells.length + r.locals.length
theorem RS.atom_ok (r : RS) (s : List UInt8) {a : Atom} (h : r.atom s = some a) : AtomOk r.nv a := by
  unfold RS.atom at h
  have hc := place_cases r.cells s
  have hl := place_cases r.locals s
  unfold AtomOk RS.nv
  split at h
  · rename_i hn
    simp only [Option.some.injEq] at h; subst h
    simp only [Bool.false_eq_true, if_false]; exact number_le s hn
  · split at h
    · simp only [Option.some.injEq] at h; subst h
      simp only [if_true]; omega
    · split at h
      · simp only [Option.some.injEq] at h; subst h
        simp only [if_true]; omega
      · cases h
theorem RS.value_ok (r : RS) (ws : List (List UInt8)) {e : Expr} (h : r.value ws = some e) : ExprOk r.nv e := by
  match ws, h with
  | [a], h =>
    simp only [RS.value, Option.map_eq_some_iff] at h
    obtain ⟨x, hx, rfl⟩ := h
    exact ⟨(show (-1 : Int) ≤ -1 by decide), (show (-1 : Int) ≤ 4 by decide), r.atom_ok a hx, by unfold AtomOk no0; simp⟩
  | [a, o, b], h =>
    simp only [RS.value, Option.bind_eq_some_iff, Option.map_eq_some_iff] at h
    obtain ⟨x, hx, y, hy, rfl⟩ := h
    have ho := place_cases signs o
    have hs : signs.length = 5 := rfl
    exact ⟨by simp only; omega, by simp only; omega, r.atom_ok a hx, r.atom_ok b hy⟩
structure FrOk (nv nc d : Nat) (f : Frame) : Prop where
  kd : f.kind = 5 ∨ (f.kind = 6 ∧ f.had = false)
  no : f.had = false → f.els = []
  ex : ExprOk nv f.e
  fi : StmtsOk nv nc d f.first
  el : StmtsOk nv nc d f.els
theorem FrOk.mono {nv nv' nc d : Nat} (h : nv ≤ nv') {f : Frame} (hf : FrOk nv nc d f) : FrOk nv' nc d f := ⟨hf.kd, hf.no, hf.ex.mono h, hf.fi.mono h, hf.el.mono h⟩
def FrsOk (nv nc : Nat) : Nat → List Frame → Prop
  | _, [] => True
  | d, f :: fs => FrOk nv nc (d + 1) f ∧ FrsOk nv nc (d + 1) fs
theorem FrsOk.mono {nv nv' nc : Nat} (h : nv ≤ nv') : ∀ {d : Nat} {fs : List Frame}, FrsOk nv nc d fs → FrsOk nv' nc d fs
  | _, [], _ => trivial
  | _, _ :: _, hf => ⟨hf.1.mono h, FrsOk.mono h hf.2⟩
theorem StmtsOk.snoc {nv nc d : Nat} {l : List Stmt} {s : Stmt} (h : StmtsOk nv nc (d + 1) l) (hs : KindOk nv nc s ∧ ExprOk nv s.e ∧ StmtsOk nv nc d s.body ∧ StmtsOk nv nc d s.other) : StmtsOk nv nc (d + 1) (l ++ [s]) := fun x hx => by
  rcases List.mem_append.1 hx with h1 | h1
  · exact h x h1
  · simp only [List.mem_singleton] at h1; subst h1; exact hs
theorem StmtsOk.nil (nv nc d : Nat) : StmtsOk nv nc d [] := by
  cases d with
  | zero => rfl
  | succ d => exact fun s hs => (by cases hs)
theorem FrOk.snoc {nv nc d : Nat} {f : Frame} {s : Stmt} (h : FrOk nv nc (d + 1) f) (hs : KindOk nv nc s ∧ ExprOk nv s.e ∧ StmtsOk nv nc d s.body ∧ StmtsOk nv nc d s.other) : FrOk nv nc (d + 1) (if f.had then { f with els := f.els ++ [s] } else { f with first := f.first ++ [s] }) := by
  cases hd : f.had with
  | true =>
    simp only [if_true]
    refine ⟨?_, fun q => (by cases q), h.ex, h.fi, h.el.snoc hs⟩
    rcases h.kd with h5 | ⟨_, h6⟩
    · exact .inl h5
    · rw [hd] at h6; cases h6
  | false =>
    simp only [Bool.false_eq_true, if_false]
    refine ⟨?_, fun _ => h.no hd, h.ex, h.fi.snoc hs, h.el⟩
    rcases h.kd with h5 | ⟨h6, _⟩
    · exact .inl h5
    · exact .inr ⟨h6, rfl⟩
structure RS.Fine (r : RS) : Prop where
  ce : r.cells.length ≤ 6
  ch : r.chans.length ≤ 3
  lo : r.locals.length ≤ 4
  cl : r.cellLv.length = r.cells.length
  hl : r.chanLv.length = r.chans.length
  fr : r.fr.length ≤ 3
  head : r.begun = false → r.locals = [] ∧ r.top = [] ∧ r.fr = []
  top : StmtsOk r.nv r.chans.length 4 r.top
  frs : FrsOk r.nv r.chans.length (3 - r.fr.length) r.fr
theorem fine0 : RS.zero.Fine := ⟨by decide, by decide, by decide, rfl, rfl, by decide, fun _ => ⟨rfl, rfl, rfl⟩, StmtsOk.nil _ _ _, trivial⟩
theorem RS.Fine.headed {r r' : RS} (h : r.Fine) (hb : r.begun = false) (e1 : r'.top = r.top) (e2 : r'.fr = r.fr) (e3 : r'.locals = r.locals) (ce : r'.cells.length ≤ 6) (ch : r'.chans.length ≤ 3) (cl : r'.cellLv.length = r'.cells.length) (hl : r'.chanLv.length = r'.chans.length) : r'.Fine := by
  obtain ⟨h1, h2, h3⟩ := h.head hb
  refine ⟨ce, ch, by rw [e3]; exact h.lo, cl, hl, by rw [e2]; exact h.fr, fun _ => ⟨by rw [e3]; exact h1, by rw [e1]; exact h2, by rw [e2]; exact h3⟩, ?_, ?_⟩
  · rw [e1, h2]; exact StmtsOk.nil _ _ _
  · rw [e2, h3]; trivial
theorem RS.Fine.head_ok {r : RS} (h : r.Fine) (hb : r.begun = false) (w : List (List UInt8)) (h0 : (r.head w).1 = 0) : (r.head w).2.Fine := by
  match w, h0 with
  | [], h0 => cases h0
  | [k], h0 =>
    simp only [RS.head] at h0 ⊢
    split at h0
    · rename_i hl; rw [if_pos hl]; exact h.headed hb rfl rfl rfl h.ce h.ch h.cl h.hl
    · cases h0
  | [k, n], h0 =>
    simp only [RS.head] at h0 ⊢
    split at h0
    · cases h0
    · rename_i h1; rw [if_neg h1]
      split at h0
      · cases h0
      · rename_i h2; rw [if_neg h2]; exact h.headed hb rfl rfl rfl h.ce h.ch h.cl h.hl
  | [k, n, l], h0 =>
    simp only [RS.head] at h0 ⊢
    split at h0
    · rename_i hk; rw [if_pos hk]
      split at h0
      · cases h0
      · rename_i h1; rw [if_neg h1]; exact h.headed hb rfl rfl rfl h.ce h.ch h.cl h.hl
    · rename_i hk; rw [if_neg hk]
      split at h0
      · cases h0
      · rename_i h1; rw [if_neg h1]
        split at h0
        · rename_i hc; rw [if_pos hc]
          split at h0
          · cases h0
          · rename_i h6; rw [if_neg h6]
            exact h.headed hb rfl rfl rfl (by have := h.ce; simp; omega) h.ch (by have := h.cl; simp; omega) h.hl
        · rename_i hc; rw [if_neg hc]
          split at h0
          · cases h0
          · rename_i h3; rw [if_neg h3]
            exact h.headed hb rfl rfl rfl h.ce (by have := h.ch; simp; omega) h.cl (by have := h.hl; simp; omega)
  | _ :: _ :: _ :: _ :: _, h0 => cases h0
theorem RS.Fine.put {r : RS} (h : r.Fine) (hb : r.begun = true) {s : Stmt} (hk : KindOk r.nv r.chans.length s) (he : ExprOk r.nv s.e) (h1 : s.body = []) (h2 : s.other = []) : (r.put s).Fine := by
  unfold RS.put
  have hs : ∀ d, KindOk r.nv r.chans.length s ∧ ExprOk r.nv s.e ∧ StmtsOk r.nv r.chans.length d s.body ∧ StmtsOk r.nv r.chans.length d s.other := fun d => ⟨hk, he, by rw [h1]; exact StmtsOk.nil _ _ _, by rw [h2]; exact StmtsOk.nil _ _ _⟩
  cases hf : r.fr with
  | nil => exact ⟨h.ce, h.ch, h.lo, h.cl, h.hl, Nat.zero_le _, fun hh => (by have : r.begun = false := hh; rw [hb] at this; cases this), h.top.snoc (hs 3), trivial⟩
  | cons f fs =>
    have hh := h.frs
    rw [hf] at hh
    have hl := h.fr
    rw [hf] at hl
    exact ⟨h.ce, h.ch, h.lo, h.cl, h.hl, hl, fun hh => (by have : r.begun = false := hh; rw [hb] at this; cases this), h.top, hh.1.snoc (hs _), hh.2⟩
theorem RS.Fine.local {r : RS} (h : r.Fine) (hb : r.begun = true) (n : List UInt8) (hl : r.locals.length < 4) : ({ r with locals := r.locals ++ [n] } : RS).Fine := by
  have e : r.nv ≤ ({ r with locals := r.locals ++ [n] } : RS).nv := by simp [RS.nv]
  exact ⟨h.ce, h.ch, by simp; omega, h.cl, h.hl, h.fr, fun hh => (by have : r.begun = false := hh; rw [hb] at this; cases this), h.top.mono e, h.frs.mono e⟩
theorem RS.Fine.stmt_ok {r : RS} (h : r.Fine) (hb : r.begun = true) (at_ : Nat) (w : List (List UInt8)) (h0 : (r.stmt at_ w).1 = 0) : (r.stmt at_ w).2.Fine ∧ (r.stmt at_ w).2.begun = true := by
  have hn : ∀ x : RS, x.begun = true → ∀ P : Prop, x.begun = false → P := fun x h1 P h2 => by rw [h1] at h2; cases h2
  match w, h0 with
  | [], h0 => cases h0
  | [k], h0 =>
    simp only [RS.stmt] at h0 ⊢
    cases hf : r.fr with
    | nil => rw [hf] at h0; cases h0
    | cons f fs =>
      rw [hf] at h0
      simp only at h0 ⊢
      have hh := h.frs
      rw [hf] at hh
      have hl := h.fr
      rw [hf] at hl
      split at h0
      · rename_i hk; rw [if_pos hk]
        split at h0
        · rename_i hq; rw [if_pos hq]
          unfold RS.elses
          rw [hf]
          refine ⟨⟨h.ce, h.ch, h.lo, h.cl, h.hl, hl, hn _ hb _, h.top, ?_⟩, hb⟩
          exact ⟨⟨.inl hq.1, fun q => (by cases q), hh.1.ex, hh.1.fi, hh.1.el⟩, hh.2⟩
        · cases h0
      · rename_i hk; rw [if_neg hk]
        unfold RS.ends
        rw [hf]
        have hdone : ∀ d, StmtsOk r.nv r.chans.length d f.first → StmtsOk r.nv r.chans.length d f.els → KindOk r.nv r.chans.length f.done ∧ ExprOk r.nv f.done.e ∧ StmtsOk r.nv r.chans.length d f.done.body ∧ StmtsOk r.nv r.chans.length d f.done.other := fun d h1 h2 => by
          refine ⟨?_, hh.1.ex, h1, h2⟩
          rcases hh.1.kd with h5 | ⟨h6, h7⟩
          · exact .inr (.inr (.inl h5))
          · exact .inr (.inr (.inr ⟨h6, hh.1.no h7⟩))
        cases fs with
        | nil =>
          exact ⟨⟨h.ce, h.ch, h.lo, h.cl, h.hl, by simp, hn _ hb _, h.top.snoc (hdone 3 hh.1.fi hh.1.el), trivial⟩, hb⟩
        | cons g gs =>
          simp only [List.length_cons] at hl hh
          have e1 : 3 - (gs.length + 1 + 1) + 1 = 3 - (gs.length + 1) := by omega
          have hg := hh.2.1
          have hd := hdone _ hh.1.fi hh.1.el
          refine ⟨⟨h.ce, h.ch, h.lo, h.cl, h.hl, by simp; omega, hn _ hb _, h.top, ?_⟩, hb⟩
          simp only [List.length_cons]
          rw [← e1]
          exact ⟨hg.snoc hd, hh.2.2⟩
  | [k, a], h0 =>
    simp only [RS.stmt] at h0 ⊢
    cases hv : r.value [a] with
    | none => rw [hv] at h0; cases h0
    | some e =>
      rw [hv] at h0
      simp only at h0 ⊢
      split at h0
      · cases h0
      · rename_i hq; rw [if_neg hq]
        have e1 : 3 - (r.fr.length + 1) + 1 = 3 - r.fr.length := by omega
        refine ⟨⟨h.ce, h.ch, h.lo, h.cl, h.hl, by simp [RS.opens]; omega, hn _ hb _, h.top, ?_⟩, hb⟩
        simp only [RS.opens, List.length_cons]
        refine ⟨⟨?_, fun _ => rfl, r.value_ok _ hv, StmtsOk.nil _ _ _, StmtsOk.nil _ _ _⟩, by rw [e1]; exact h.frs⟩
        show (if (k == wIf) = true then 5 else 6) = 5 ∨ ((if (k == wIf) = true then 5 else 6) = 6 ∧ false = false)
        cases (k == wIf) <;> simp
  | k :: n :: v1 :: v, h0 =>
    simp only [RS.stmt] at h0 ⊢
    cases hv : r.value (v1 :: v) with
    | none => rw [hv] at h0; cases h0
    | some e =>
      rw [hv] at h0
      simp only at h0 ⊢
      have he := r.value_ok _ hv
      have hbp : ∀ (x : RS) (s : Stmt), x.begun = true → (x.put s).begun = true := fun x s hx => by unfold RS.put; split <;> exact hx
      split at h0
      · rename_i hk; rw [if_pos hk]
        split at h0
        · cases h0
        · rename_i hp; rw [if_neg hp]
          split at h0
          · cases h0
          · rename_i h6; rw [if_neg h6]
            have hc := place_cases r.chans n
            exact ⟨h.put hb (.inr (.inl ⟨rfl, by simp only; omega⟩)) he rfl rfl, hbp _ _ hb⟩
      · rename_i hk; rw [if_neg hk]
        split at h0
        · cases h0
        · rename_i hp; rw [if_neg hp]
          cases ht : r.target n with
          | none => rw [ht] at h0; cases h0
          | some p =>
            obtain ⟨x, r'⟩ := p
            rw [ht] at h0
            simp only at h0 ⊢
            split at h0
            · cases h0
            · rename_i h6; rw [if_neg h6]
              have hc := place_cases r.cells n
              have hlc := place_cases r.locals n
              unfold RS.target at ht
              split at ht
              · simp only [Option.some.injEq, Prod.mk.injEq] at ht
                obtain ⟨rfl, rfl⟩ := ht
                exact ⟨h.put hb (.inl ⟨rfl, by simp only [RS.nv]; omega⟩) he rfl rfl, hbp _ _ hb⟩
              · split at ht
                · simp only [Option.some.injEq, Prod.mk.injEq] at ht
                  obtain ⟨rfl, rfl⟩ := ht
                  exact ⟨h.put hb (.inl ⟨rfl, by simp only [RS.nv]; omega⟩) he rfl rfl, hbp _ _ hb⟩
                · split at ht
                  · cases ht
                  · rename_i h4
                    simp only [Option.some.injEq, Prod.mk.injEq] at ht
                    obtain ⟨rfl, rfl⟩ := ht
                    have hF := h.local hb n (by have := h.lo; omega)
                    exact ⟨hF.put hb (.inl ⟨rfl, by simp [RS.nv]⟩) (he.mono (by simp [RS.nv])) rfl rfl, hbp _ _ hb⟩
theorem RS.Fine.row_ok {r : RS} (h : r.Fine) (w : List (List UInt8)) (at_ : Nat) (h0 : (r.row w at_).1 = 0) : (r.row w at_).2.Fine := by
  unfold RS.row at h0 ⊢
  split at h0
  · cases h0
  · rename_i h1; rw [if_neg h1]
    split at h0
    · rename_i h2; rw [if_pos h2]
      refine h.head_ok ?_ w h0
      rw [h2] at h1
      cases hb : r.begun with
      | false => rfl
      | true => exact absurd hb.symm h1
    · rename_i h2; rw [if_neg h2]
      refine (h.stmt_ok ?_ at_ w h0).1
      cases hb : r.begun with
      | true => rfl
      | false => exact absurd ((by simpa using h2 : isHead (w.getD 0 []) = false).trans hb.symm) h1
theorem rows_ok : ∀ (ls : List (List UInt8)) (r : RS) (i : Nat), r.Fine → (rows r i ls).1 = 0 → (rows r i ls).2.2.Fine ∧ (rows r i ls).2.2.begun = true ∧ (rows r i ls).2.2.fr = [] ∧ (rows r i ls).2.1 = 0
  | [], r, i, h, h0 => by cases h0
  | [l], r, i, h, h0 => by
    rw [rows] at h0 ⊢
    split at h0
    · rename_i h1; rw [if_pos h1]
      split at h0
      · rename_i h2; rw [if_pos h2]; exact ⟨h, h2.1, h2.2, rfl⟩
      · cases h0
    · cases h0
  | l :: m :: ls, r, i, h, h0 => by
    rw [rows] at h0 ⊢
    split at h0
    · cases h0
    · rename_i h1; rw [if_neg h1]
      split at h0
      · rename_i h2; exact absurd h0 h2
      · rename_i h2; rw [if_neg h2]
        exact rows_ok (m :: ls) _ (i + 1) (h.row_ok _ _ (by simpa using h2)) h0
structure Prog.Ok (p : Prog) : Prop where
  ce : p.cells.length ≤ 6
  ch : p.chans.length ≤ 3
  lo : p.locals ≤ 4
  body : StmtsOk (p.cells.length + p.locals) p.chans.length 4 p.body
theorem readProg_ok (s : List UInt8) (h0 : (readProg s).1 = 0) : (readProg s).2.2.Ok ∧ (readProg s).2.1 = 0 ∧ s.length ≤ 1200 := by
  unfold readProg at h0 ⊢
  by_cases hs : 1200 < s.length
  · rw [if_pos hs] at h0; cases h0
  · rw [if_neg hs] at h0 ⊢
    obtain ⟨h1, h2, h3, h4⟩ := rows_ok _ RS.zero 0 fine0 h0
    refine ⟨⟨?_, ?_, h1.lo, ?_⟩, h4, by omega⟩
    · show (rows RS.zero 0 (cutR 10 s)).2.2.cellLv.length ≤ 6; rw [h1.cl]; exact h1.ce
    · show (rows RS.zero 0 (cutR 10 s)).2.2.chanLv.length ≤ 3; rw [h1.hl]; exact h1.ch
    · have := h1.top
      unfold RS.nv at this
      show StmtsOk ((rows RS.zero 0 (cutR 10 s)).2.2.cellLv.length + _) ((rows RS.zero 0 (cutR 10 s)).2.2.chanLv.length) 4 _
      rw [h1.cl, h1.hl]; exact this
end Fl
end Go.Proofs.YthfacjlghcdndaaGreatDoor

namespace Go.Proofs.YthfacjlghcdndaaGreatDoor
open Go.RowKit

set_option maxRecDepth 100000 in
set_option maxHeartbeats 800000 in
theorem caught_panicking (p : Addr) (n pl : Int) (v0 : Value) (older : List PanicEntry) (w : World) (hc : w.cell? p = some v0) (hz : w.frozen? p = false) (hlt : p.block < w.heap.size) :
    CallsD Tryz.prog 40 #[.pointer (some p)] (.panicking ({ v := .iface 129 (.agg #[.int .i64 n, .int .i64 pl]), recovered := false } :: older)) w fun e u' w' =>
      e = .returned (.tuple #[]) ∧ u' = .panicking ({ v := .iface 129 (.agg #[.int .i64 n, .int .i64 pl]), recovered := true } :: older) ∧ ∃ o, w' = ((w.alloc o).alloc (.cells #[.int .i64 n, .int .i64 pl] 76)).setCell p (.iface 72 (.pointer (some ⟨w.heap.size + 1, 0, none⟩))) := by
  have hc2 : ∀ o o', ((w.alloc o).alloc o').cell? p = some v0 := fun o o' => by rw [((((Below.refl w.heap.size w).alloc (Nat.le_refl _) o).alloc (by simp) o').cell hlt)]; exact hc
  have hz2 : ∀ o o', ((w.alloc o).alloc o').frozen? p = false := fun o o' => by rw [((((Below.refl w.heap.size w).alloc (Nat.le_refl _) o).alloc (by simp) o').frozen hlt)]; exact hz
  have hta : ∀ W, (Instr.typeAssert (.iface 129 (.agg #[.int .i64 n, .int .i64 pl])) 20 129 true).run Tryz.prog W = .ok (.tuple #[.agg #[.int .i64 n, .int .i64 pl], .bool true]) W := fun W => by kernel_rfl
  refine callsD_of_wpS Tryz.func40 rfl fun c₀ cs hu => ?_
  apply wpS_seq
  apply wpS_region
  simp [wpOpsS, go_sem, recoverD, hu, Tryz.ntmps40, Exit.thenS]
  have ht : (#[Value.pointer (some p)] ++ ((Array.replicate 21 undef).setIfInBounds 3 (.iface 129 (.agg #[.int .i64 n, .int .i64 pl]))).setIfInBounds 0 (.iface 129 (.agg #[.int .i64 n, .int .i64 pl])) : Array Value) = #[.pointer (some p), (.iface 129 (.agg #[.int .i64 n, .int .i64 pl])), undef, undef, (.iface 129 (.agg #[.int .i64 n, .int .i64 pl])), undef, undef, undef, undef, undef, undef, undef, undef, undef, undef, undef, undef, undef, undef, undef, undef, undef] := by kernel_rfl
  rw [ht]
  clear ht
  refine wpS_of_wp ?_
  have HU : Hid (c₀.mode = FrameMode.panicking ({ v := .iface 129 (.agg #[.int .i64 n, .int .i64 pl]), recovered := false } :: older)) := hu
  clear hu
  go_wp2_with fail
  refine ⟨by simp, _, rfl, .tuple #[], ?_, rfl, rfl, _, rfl⟩
  simp [results, Tryz.results40]

set_option maxRecDepth 100000 in
set_option maxHeartbeats 800000 in
theorem caught_idle (p : Addr) (w : World) : CallsD Tryz.prog 40 #[.pointer (some p)] .returning w fun e u' w' => e = .returned (.tuple #[]) ∧ u' = .returning ∧ w' = w := by
  refine callsD_of_wpS Tryz.func40 rfl fun c₀ cs hu => ?_
  apply wpS_seq
  apply wpS_region
  simp [wpOpsS, go_sem, recoverD, hu, Tryz.ntmps40, Exit.thenS]
  have ht : (#[Value.pointer (some p)] ++ ((Array.replicate 21 undef).setIfInBounds 3 .nilIface).setIfInBounds 0 .nilIface : Array Value) = #[.pointer (some p), .nilIface, undef, undef, .nilIface, undef, undef, undef, undef, undef, undef, undef, undef, undef, undef, undef, undef, undef, undef, undef, undef, undef] := by kernel_rfl
  rw [ht]
  clear ht
  refine wpS_of_wp ?_
  have HU : Hid (c₀.mode = .returning) := hu
  clear hu
  go_wp2_with fail
  refine ⟨by simp, .returning, ?_, .tuple #[], ?_, rfl, rfl, rfl⟩
  · have h9 := HU.out
    cases c₀; simp_all
  · simp [results, Tryz.results40]

set_option maxRecDepth 100000 in
set_option maxHeartbeats 2000000 in
theorem catch_any (f : FuncId) (cap : Array Value) (w : World) (Rr : World → Prop) (Rp : Int → Int → World → Prop) (hin : ∀ W, (callFunc f cap).run Tryz.prog W = .ok (.enter f cap) W)
    (hdo : Calls Tryz.prog f cap (w.alloc (.cells #[.nilIface] 43)) fun e w' => w'.cell? ⟨w.heap.size, 0, none⟩ = some .nilIface ∧ w'.frozen? ⟨w.heap.size, 0, none⟩ = false ∧ ((e = .returned (.tuple #[]) ∧ Rr w') ∨ ∃ n pl, e = .panicked (stopAt n pl) ∧ Rp n pl w')) :
    Calls Tryz.prog 26 #[.func (.func f) #[] cap] w fun e w' => (∃ w1, e = .returned .nilIface ∧ Rr w1 ∧ w' = w1.setCell ⟨w.heap.size, 0, none⟩ .nilIface) ∨
      ∃ n pl w1 o, e = .returned (.iface 72 (.pointer (some ⟨w1.heap.size + 1, 0, none⟩))) ∧ Rp n pl w1 ∧ w' = ((w1.alloc o).alloc (.cells #[.int .i64 n, .int .i64 pl] 76)).setCell ⟨w.heap.size, 0, none⟩ (.iface 72 (.pointer (some ⟨w1.heap.size + 1, 0, none⟩))) := by
  have hmf : ∀ (fn : Fn) (first cap : Array Value) (w : World), (Instr.makeFunc fn first cap).run Tryz.prog w = .ok (.func fn first cap) w := fun _ _ _ _ => rfl
  have HDO : Hid (Calls Tryz.prog f cap (w.alloc (.cells #[.nilIface] 43)) fun e w' => w'.cell? ⟨w.heap.size, 0, none⟩ = some .nilIface ∧ w'.frozen? ⟨w.heap.size, 0, none⟩ = false ∧ ((e = .returned (.tuple #[]) ∧ Rr w') ∨ ∃ n pl, e = .panicked (stopAt n pl) ∧ Rp n pl w')) := hdo
  clear hdo
  go_enter_defers Tryz.func26, Tryz.ntmps26
  go_wp2_with fail
  refine (HDO.out).mono ?_
  rintro e w1 ⟨hc, hz, ⟨rfl, hr⟩ | ⟨n, pl, rfl, hp⟩⟩
  · have HR : Hid (Rr w1) := hr
    clear hr
    go_wp2_with fail
    refine leaves_cons (f := 40) (args := #[.pointer (some ⟨w.heap.size, 0, none⟩)]) (by simp) (by simp [go_sem]) ?_
    refine (caught_idle ⟨w.heap.size, 0, none⟩ _).mono ?_
    rintro e u' w'' ⟨rfl, rfl, rfl⟩
    have q0 : (w1.setCell ⟨w.heap.size, 0, none⟩ .nilIface).cell? ⟨w.heap.size, 0, none⟩ = some .nilIface := World.cell?_setCell_same' _ _ _ (by simp [hc])
    refine ⟨.nilIface, by simp [results, Tryz.results26, go_sem, q0], .inl ⟨w1, rfl, HR.out, rfl⟩⟩
  · have hlt : w.heap.size < w1.heap.size := World.block_lt_of_cell? w1 _ hc
    refine leaves_cons (f := 40) (args := #[.pointer (some ⟨w.heap.size, 0, none⟩)]) (by simp) (by simp [go_sem]) ?_
    refine (caught_panicking ⟨w.heap.size, 0, none⟩ n pl .nilIface [] w1 hc hz hlt).mono ?_
    rintro e u' w'' ⟨rfl, rfl, o, rfl⟩
    have q0 : (((w1.alloc o).alloc (.cells #[.int .i64 n, .int .i64 pl] 76)).setCell ⟨w.heap.size, 0, none⟩ (.iface 72 (.pointer (some ⟨w1.heap.size + 1, 0, none⟩)))).cell? ⟨w.heap.size, 0, none⟩ = some (.iface 72 (.pointer (some ⟨w1.heap.size + 1, 0, none⟩))) := by
      refine World.cell?_setCell_same' _ _ _ ?_
      rw [World.cell?_alloc_past _ _ _ (by simp; omega), World.cell?_alloc_past _ _ _ hlt, hc]; rfl
    refine ⟨.iface 72 (.pointer (some ⟨w1.heap.size + 1, 0, none⟩)), by simp [results, Tryz.results26, go_sem, q0], .inr ⟨n, pl, w1, o, rfl, hp, rfl⟩⟩
end Go.Proofs.YthfacjlghcdndaaGreatDoor

namespace Go.Proofs.YthfacjlghcdndaaGreatDoor
open Go.RowKit Go.Maps Go.WideMaps Go.ChangeMaps Go.MapKept
def RowAt (S : Nat → Prop) (w : World) (v : Value) (l : List Nat) : Prop :=
  ∃ ao cap, v = .slice ao l.length cap ∧ l.length ≤ cap ∧ cap ≤ maxLen ∧ (l ≠ [] → ∃ b, ao = some ⟨b, 0, none⟩ ∧ S b ∧ ∀ i, i < l.length → w.cell? ⟨b, i, none⟩ = some (.int .i64 (l.getD i 0)))
theorem RowAt.kept {S S' : Nat → Prop} {w w' : World} {v : Value} {l : List Nat} (h : RowAt S w v l) (hS : ∀ b, S b → S' b) (hw : ∀ b, S b → w'.heap[b]? = w.heap[b]?) : RowAt S' w' v l := by
  obtain ⟨ao, cap, h1, h2, h3, h4⟩ := h
  refine ⟨ao, cap, h1, h2, h3, fun hne => ?_⟩
  obtain ⟨b, e, hb, hc⟩ := h4 hne
  exact ⟨b, e, hS b hb, fun i hi => (World.cell?_of_block (a := ⟨b, i, none⟩) (hw b hb)).trans (hc i hi)⟩
theorem RowAt.own {S : Nat → Prop} {base : Nat} {w : World} {v : Value} {l : List Nat} (h : w.ownsRow base 3 1 v l.length (intsV l)) (hv : ∀ b, v.ownBlock = some b → S b) : RowAt S w v l := by
  rcases h.2 with ⟨rfl, h0⟩ | ⟨g, cap, cur, rfl, hb, hg, hnc, hcm, hcs, ht⟩
  · exact ⟨none, 0, by rw [h0], by omega, by simp [maxLen], fun hne => absurd (List.eq_nil_of_length_eq_zero h0) hne⟩
  · refine ⟨_, cap, rfl, by omega, hcm, fun _ => ⟨g, rfl, hv g rfl, fun i hi => ?_⟩⟩
    have h4 := h.cells (g := g) rfl i (.int .i64 (l.getD i 0)) (by unfold intsV; simp [List.getD_eq_getElem?_getD, hi])
    have h5 : (⟨g, 0, none⟩ : Addr).add i = ⟨g, i, none⟩ := by unfold Addr.add; split <;> simp_all
    rw [h5] at h4; exact h4
def ProgAt (S : Nat → Prop) (w : World) (Pb : Nat) (p : Fl.Prog) : Prop :=
  ∃ Lb clv chv bv, S Pb ∧ S Lb ∧ Cells w Pb 5 (rw_ [ptr Lb, clv, chv, .int .i64 p.locals, bv]) ∧ LatAt w Lb p.n p.leq ∧ RowAt S w clv p.cells ∧ RowAt S w chv p.chans ∧ PStmts 4 S w bv p.body
theorem ProgAt.kept {S S' : Nat → Prop} {w w' : World} {Pb : Nat} {p : Fl.Prog} (h : ProgAt S w Pb p) (hS : ∀ b, S b → S' b) (hw : ∀ b, S b → w'.heap[b]? = w.heap[b]?) : ProgAt S' w' Pb p := by
  obtain ⟨Lb, clv, chv, bv, h1, h2, h3, h4, h5, h6, h7⟩ := h
  exact ⟨Lb, clv, chv, bv, hS _ h1, hS _ h2, h3.block (hw _ h1), h4.block (hw _ h2), h5.kept hS hw, h6.kept hS hw, PStmts.kept hS hw _ _ _ h7⟩
theorem PrAt.prog {lo base R Pb lm vm cm : Nat} {w0 w : World} {r : Fl.RS} {line : Int} {m : PMem} (h : PrAt lo base R Pb lm vm cm w0 w r line m) (hb : r.begun = true) (hf : r.fr = []) : ProgAt (fun b => (b = Pb ∨ base ≤ b) ∧ b < w.heap.size) w Pb r.prog := by
  obtain ⟨Lb, l1, l2, l3⟩ := h.re.la hb
  have hba := h.hba
  have hlo := h.hlo
  have hS : ∀ b, m.who b ≠ 5 → (b = Pb ∨ base ≤ b) ∧ b < w.heap.size := fun b hb => by have := h.re.wh b hb; omega
  have hgs : m.gs = [] := List.eq_nil_of_length_eq_zero (by rw [h.re.fa.len, hf]; rfl)
  have hpb := h.re.pb
  rw [hgs] at hpb
  refine ⟨Lb, m.clv, m.chv, m.bv, by omega, hS _ (by rw [l2]; decide), by rw [← l1]; exact h.cP, l3, RowAt.own h.re.oc (fun b hv => hS b (by rw [h.re.tc b hv]; decide)), RowAt.own h.re.oh (fun b hv => hS b (by rw [h.re.th b hv]; decide)), ?_⟩
  have hcn := h.ok.cn.1
  have hst := h.ok.st
  exact PartAt.closed (hpb.kept (S' := fun b => (b = Pb ∨ base ≤ b) ∧ b < w.heap.size) (fun b hv => hS b (by rw [hv]; decide)) (fun _ _ => rfl) (fun _ _ => rfl)) (fun b hv => hS b (by rw [h.re.tb b hv]; decide)) (by show r.top.length ≤ 16; omega)
def rdArr (n : Nat) : Array Value := #[ptr (n + 1), .int .i64 0, .bool false, .int .i64 0,
  .bool false, .bool false, .bool false, .bool false, .bool false, .bool false, .bool false, .bool false, .bool false, .bool false, .bool false, .bool false,
  .bool false, .bool false, .bool false, .bool false, .bool false, .bool false, .bool false, .bool false, .bool false, .bool false, .bool false, .bool false,
  .bool false, .bool false, .bool false, .bool false, .bool false, .bool false, .bool false, .bool false, .bool false, .bool false, .bool false, .bool false,
  .map (some (n + 2)), .map (some (n + 3)), .map (some (n + 4)), .slice none 0 0, .int .i64 0]
theorem rdArr_at (n j : Nat) (h : j < 45) : (rdArr n)[j]? = some (rdCell (n + 1) (n + 2) (n + 3) (n + 4) 0 Fl.RS.zero mem0 j) := by
  have : j = 0 ∨ j = 1 ∨ j = 2 ∨ j = 3 ∨ (4 ≤ j ∧ j < 40) ∨ j = 40 ∨ j = 41 ∨ j = 42 ∨ j = 43 ∨ j = 44 := by omega
  rcases this with rfl | rfl | rfl | rfl | h1 | rfl | rfl | rfl | rfl | rfl
  · rfl
  · rfl
  · rfl
  · rfl
  · unfold rdCell
    rw [if_neg (by omega), if_neg (by omega), if_neg (by omega), if_neg (by omega), if_neg (by omega), if_neg (by omega), if_neg (by omega), if_neg (by omega), if_neg (by omega)]
    have : j = 4 ∨ j = 5 ∨ j = 6 ∨ j = 7 ∨ j = 8 ∨ j = 9 ∨ j = 10 ∨ j = 11 ∨ j = 12 ∨ j = 13 ∨ j = 14 ∨ j = 15 ∨ j = 16 ∨ j = 17 ∨ j = 18 ∨ j = 19 ∨ j = 20 ∨ j = 21 ∨ j = 22 ∨ j = 23 ∨ j = 24 ∨ j = 25 ∨ j = 26 ∨ j = 27 ∨ j = 28 ∨ j = 29 ∨ j = 30 ∨ j = 31 ∨ j = 32 ∨ j = 33 ∨ j = 34 ∨ j = 35 ∨ j = 36 ∨ j = 37 ∨ j = 38 ∨ j = 39 := by omega
    rcases this with rfl | rfl | rfl | rfl | rfl | rfl | rfl | rfl | rfl | rfl | rfl | rfl | rfl | rfl | rfl | rfl | rfl | rfl | rfl | rfl | rfl | rfl | rfl | rfl | rfl | rfl | rfl | rfl | rfl | rfl | rfl | rfl | rfl | rfl | rfl | rfl <;> rfl
  · rfl
  · rfl
  · rfl
  · rfl
  · rfl
def rdW (w : World) (l : List UInt8) : World := ((((((w.alloc (.cells #[.string ⟨l.toArray⟩] 9)).alloc (.cells #[.pointer none, .slice none 0 0, .slice none 0 0, .int .i64 0, .slice none 0 0] 70)).alloc (.map #[] 0)).alloc (.map #[] 0)).alloc (.map #[] 0)).alloc (.cells (rdArr w.heap.size) 100)).alloc (.cells #[.pointer (some ⟨w.heap.size + 5, 0, none⟩)] 91)
theorem rdW_size (w : World) (l : List UInt8) : (rdW w l).heap.size = w.heap.size + 7 := by simp [rdW]
theorem rdW_below (w : World) (l : List UInt8) : Below w.heap.size w (rdW w l) := (((((((Below.refl _ w).alloc (Nat.le_refl _) _).alloc (by simp <;> omega) _).alloc (by simp <;> omega) _).alloc (by simp <;> omega) _).alloc (by simp <;> omega) _).alloc (by simp <;> omega) _).alloc (by simp <;> omega) _
theorem rdW_blocks (w : World) (l : List UInt8) : (rdW w l).heap[w.heap.size]? = some (.cells #[.string ⟨l.toArray⟩] 9) ∧
    (rdW w l).heap[w.heap.size + 1]? = some (.cells #[.pointer none, .slice none 0 0, .slice none 0 0, .int .i64 0, .slice none 0 0] 70) ∧
    (rdW w l).heap[w.heap.size + 2]? = some (.map #[] 0) ∧ (rdW w l).heap[w.heap.size + 3]? = some (.map #[] 0) ∧ (rdW w l).heap[w.heap.size + 4]? = some (.map #[] 0) ∧
    (rdW w l).heap[w.heap.size + 5]? = some (.cells (rdArr w.heap.size) 100) ∧ (rdW w l).heap[w.heap.size + 6]? = some (.cells #[.pointer (some ⟨w.heap.size + 5, 0, none⟩)] 91) := by
  have a : ∀ (u : World) (o : Obj) (k : Nat), k < u.heap.size → (u.alloc o).heap[k]? = u.heap[k]? := fun u o k hk => Below.heap_alloc _ _ _ hk
  have l : ∀ (u : World) (o : Obj) (k : Nat), u.heap.size = k → (u.alloc o).heap[k]? = some o := fun u o k hk => by subst hk; exact heap_alloc_last u o
  unfold rdW
  refine ⟨?_, ?_, ?_, ?_, ?_, ?_, ?_⟩
  · rw [a _ _ _ (by simp <;> omega), a _ _ _ (by simp <;> omega), a _ _ _ (by simp <;> omega), a _ _ _ (by simp <;> omega), a _ _ _ (by simp <;> omega), a _ _ _ (by simp <;> omega), l _ _ _ (by simp <;> omega)]
  · rw [a _ _ _ (by simp <;> omega), a _ _ _ (by simp <;> omega), a _ _ _ (by simp <;> omega), a _ _ _ (by simp <;> omega), a _ _ _ (by simp <;> omega), l _ _ _ (by simp <;> omega)]
  · rw [a _ _ _ (by simp <;> omega), a _ _ _ (by simp <;> omega), a _ _ _ (by simp <;> omega), a _ _ _ (by simp <;> omega), l _ _ _ (by simp <;> omega)]
  · rw [a _ _ _ (by simp <;> omega), a _ _ _ (by simp <;> omega), a _ _ _ (by simp <;> omega), l _ _ _ (by simp <;> omega)]
  · rw [a _ _ _ (by simp <;> omega), a _ _ _ (by simp <;> omega), l _ _ _ (by simp <;> omega)]
  · rw [a _ _ _ (by simp <;> omega), l _ _ _ (by simp <;> omega)]
  · rw [l _ _ _ (by simp <;> omega)]
theorem NameMap.fresh {w : World} {b : Nat} (h : w.heap[b]? = some (.map #[] 0)) : NameMap w b [] := by
  have ho : w.ownsMap (H := Unit) Tryz.prog 9 (plainElem Tryz.prog 3) b 0 (.map []) := ⟨#[], 0, h, ⟨by simp, stamped_empty 0, by simp⟩, Nat.le_refl _, rfl⟩
  exact ⟨0, .map [], ho, Nat.le_refl _, rfl, ho.tidy lawStr, ho.isMap, fun x => ⟨by simp [Maps.has, Fl.place, Fl.placeFrom], by simp [DataW.atKey, Fl.place, Fl.placeFrom]; decide⟩⟩
end Go.Proofs.YthfacjlghcdndaaGreatDoor

namespace Go.Proofs.YthfacjlghcdndaaGreatDoor
open Go.RowKit

theorem named_not (s : ByteArray) (k : Nat) (h : k < s.size) (hp : (s[k].toNat : Int) < 97 ∨ 122 < (s[k].toNat : Int)) : Fl.named s.data.toList = false := by
  unfold Fl.named; rw [all_not Fl.isLow s k h (by rw [low_iff]; omega)]; rfl
theorem named_end (s : ByteArray) (h : s.data.toList.all Fl.isLow = true) : Fl.named s.data.toList = (decide (0 < s.size) && decide ((s.size : Int) ≤ 6)) := by
  unfold Fl.named; rw [h]
  have e : s.data.toList.length = s.size := by simp
  rw [e, Bool.true_and]; congr 1; simp only [decide_eq_decide]; omega

set_option maxHeartbeats 400000 in
theorem named_any (s : ByteArray) (w : World) (hs : s.size ≤ maxLen) : Calls Tryz.prog 19 #[.string s] w fun e w' => e = .returned (.bool (Fl.named s.data.toList)) ∧ w' = w := by
  unfold maxLen at hs
  go_enter Tryz.func19, Tryz.ntmps19
  go_wp2
  go_loop [3] (fun i => ∃ k : Nat, k ≤ s.size ∧ i = .int .i64 k ∧ (s.data.toList.take k).all Fl.isLow = true) (fun i => s.size - (intOf i).toNat)
  case atStart => exact ⟨0, Nat.zero_le _, rfl, rfl⟩
  case round =>
    obtain ⟨k, hk, rfl, hall⟩ := hrel
    have HA : Hid ((s.data.toList.take k).all Fl.isLow = true) := hall
    clear hall
    by_cases hlt : k < s.size
    · go_wp2
      · go_ret; exact ⟨ret_bool (named_not s k hlt (by omega)).symm, rfl⟩
      · go_round
        case rel => exact ⟨k + 1, by omega, by go_num, all_snoc _ s k hlt HA.out (by rw [low_iff]; omega)⟩
        case measure => simp [intOf]; omega
      · go_ret; exact ⟨ret_bool (named_not s k hlt (by omega)).symm, rfl⟩
    · have HN := named_end s (by rw [← take_all s k hlt]; exact HA.out)
      have HH : Hid (Fl.named s.data.toList = (decide (0 < s.size) && decide ((s.size : Int) ≤ 6))) := HN
      clear HN
      go_wp2
      · go_ret; exact ⟨ret_bool (by rw [HH.out]; simp [*]), rfl⟩
      · go_ret; exact ⟨ret_bool (by rw [HH.out]; simp [*]), rfl⟩

theorem named_l (s : ByteArray) (w : World) (hs : s.size ≤ maxLen) : Calls Tryz.prog 19 #[.string s] w fun e w' => e = .returned (.bool (Fl.named s.toList)) ∧ w' = w := by
  rw [ByteArray.toList_eq]; exact named_any s w hs

set_option maxHeartbeats 1000000 in
theorem atom_any (s : ByteArray) (w : World) (hs : s.size ≤ maxLen) : Calls Tryz.prog 20 #[.string s] w fun e w' => e = .returned (.bool (Fl.atom s.toList)) ∧ w' = w := by
  go_enter Tryz.func20, Tryz.ntmps20
  go_wp2_with (first | (go_at_call 19; refine (named_l s _ hs).mono ?_; rintro e w' ⟨rfl, rfl⟩) | (go_at_call 35; refine (number_l s 9 _ hs (by decide)).mono ?_; rintro e w' ⟨rfl, rfl⟩))
  all_goals (go_ret; exact ⟨ret_bool (by simp_all [Fl.atom]), rfl⟩)

set_option maxHeartbeats 1000000 in
theorem signs_any (w : World) : Calls Tryz.prog 21 #[] w fun e w' => e = .returned (.slice (some ⟨w.heap.size, 0, none⟩) 5 5) ∧ w' = w.alloc (.cells #[.string ⟨#[43]⟩, .string ⟨#[45]⟩, .string ⟨#[42]⟩, .string ⟨#[60]⟩, .string ⟨#[61, 61]⟩] 9) := by
  go_enter Tryz.func21, Tryz.ntmps21
  go_wp2
  go_ret
  exact ⟨rfl, rfl⟩
end Go.Proofs.YthfacjlghcdndaaGreatDoor
