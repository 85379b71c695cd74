/- Texts Pry Prz Psa Psb. -/
import Derived.Test.YthfacjlghcdndaaGreatDoorM14
set_option linter.unusedSimpArgs false
set_option linter.unusedVariables false
namespace Go.Proofs.YthfacjlghcdndaaGreatDoor
open Go.RowKit
theorem Tryz.infoPStmt : (Tryz.prog.info? 140).map (fun i => (i.zero, i.size, i.bytes)) = some (some (.pointer none), 1, 8) := by kernel_rfl
structure GrewAt (e : TypeId) (lo base : Nat) (w0 W w' : World) (sb si : Nat) (av v' : Value) (n : Nat) (xs : List Value) (x : Value) : Prop where
  own : w'.ownsRow base e 1 v' (n + 1) (xs ++ [x])
  wh : v'.ownBlock = av.ownBlock ∨ ∃ g, v'.ownBlock = some g ∧ W.heap.size ≤ g
  hz : W.heap.size ≤ w'.heap.size
  q : ∀ b, b < W.heap.size → b ≠ sb → av.ownBlock ≠ some b → w'.heap[b]? = W.heap[b]?
  cs : ∀ nn f, Cells W sb nn f → si < nn → Cells w' sb nn (fun i => if i = si then v' else f i)
  bel : Below lo w0 w'
section
variable {lo base R Pb lm vm cm : Nat} {w0 w w' : World} {r : Fl.RS} {line : Int} {m : PMem}
theorem GrewAt.of {e : TypeId} {W W4 : World} {sb si n : Nat} {o : Obj} {av v' x : Value} {xs : List Value} (hb : Below lo w0 W) (hls : lo ≤ sb) (hlb : lo ≤ base) (hlW : lo ≤ W.heap.size) (ho : W4.ownsRow base e 1 v' (n + 1) (xs ++ [x])) (hg : (W.alloc o).grownBy W4 av.ownBlock) (hw : v'.ownBlock = av.ownBlock ∨ v'.ownBlock = some (W.alloc o).heap.size) (hav : ∀ k, av.ownBlock = some k → base ≤ k ∧ k < W.heap.size ∧ k ≠ sb) (hsb : sb < W.heap.size) :
    GrewAt e lo base w0 W (W4.setCell ⟨sb, si, none⟩ v') sb si av v' n xs x := by
  have hz0 : (W.alloc o).heap.size = W.heap.size + 1 := by simp
  have hz4 := hg.size
  have hq : ∀ b, b < W.heap.size → av.ownBlock ≠ some b → W4.heap[b]? = W.heap[b]? := fun b hb1 hne => (hg.block b (by omega) (fun hh => hne hh.symm)).trans (((Below.refl W.heap.size W).alloc (Nat.le_refl _) o).block b hb1)
  have hsq : W4.heap[sb]? = W.heap[sb]? := hq sb hsb (fun hh => (hav sb hh).2.2 rfl)
  have hvs : ∀ b, v'.ownBlock = some b → b ≠ sb := fun b hvb he => by
    rcases hw with hw | hw
    · exact (hav b (hw.symm.trans hvb)).2.2 he
    · rw [hw] at hvb; simp only [Option.some.injEq] at hvb; omega
  refine ⟨own_same ho (fun b hvb => setCell_block _ _ _ _ _ (hvs b hvb)), ?_, by rw [setCell_size]; omega, fun b hb1 hb2 hb3 => ?_, fun nn f hc hsi => (hc.block hsq).set hsi v', ?_⟩
  · rcases hw with hw | hw
    · exact .inl hw
    · exact .inr ⟨_, hw, by omega⟩
  · rw [setCell_block _ _ _ _ _ hb2]; exact hq b hb1 hb3
  · have hb4 : Below lo w0 W4 := (hb.alloc hlW o).grown hg (by omega) (fun k hk => by have := (hav k hk).1; omega)
    exact hb4.setCell hls _
theorem PrAt.other (h : PrAt lo base R Pb lm vm cm w0 w r line m) (b j : Nat) (v : Value) (hb : base ≤ b) (h5 : m.who b = 5) : PrAt lo base R Pb lm vm cm w0 (w.setCell ⟨b, j, none⟩ v) r line m := by
  obtain ⟨b1, b2, b3, b4, b5, b6⟩ := h.hba
  obtain ⟨l1, l2, l3, l4, l5⟩ := h.hlo
  have hz : (w.setCell ⟨b, j, none⟩ v).heap.size = w.heap.size := setCell_size _ _ _
  have q : ∀ k, k ≠ b → (w.setCell ⟨b, j, none⟩ v).heap[k]? = w.heap[k]? := fun k hk => setCell_block _ _ _ _ _ hk
  exact { ok := h.ok, bel := h.bel.setCell (by show lo ≤ b; omega) _, fx := fun b' f1 f2 f3 f4 f5 f6 => (q b' (by omega)).trans (h.fx b' f1 f2 f3 f4 f5 f6), hlo := h.hlo, hba := ⟨b1, b2, b3, b4, b5, by omega⟩, nd := h.nd, cR := h.cR.block (q _ (by omega)), cP := h.cP.block (q _ (by omega)), nl := h.nl.block (q _ (by omega)), nv := h.nv.block (q _ (by omega)), nc := h.nc.block (q _ (by omega)), tab := h.tab,
          re := h.re.kept (by omega) (fun k hk => q k (fun he => hk (by rw [he]; exact h5))) }
theorem PrAt.count (h : PrAt lo base R Pb lm vm cm w0 w r line m) (hb : r.begun = true) (hs : r.stmts < 16) : PrAt lo base R Pb lm vm cm w0 (w.setCell ⟨R, 44, none⟩ (.int .i64 ((r.stmts : Int) + 1))) { r with stmts := r.stmts + 1 } line m := by
  obtain ⟨b1, b2, b3, b4, b5, b6⟩ := h.hba
  obtain ⟨l1, l2, l3, l4, l5⟩ := h.hlo
  obtain ⟨n1, n2, n3, n4, n5, n6, n7, n8, n9, n10⟩ := h.nd
  have hz : (w.setCell ⟨R, 44, none⟩ (.int .i64 ((r.stmts : Int) + 1))).heap.size = w.heap.size := setCell_size _ _ _
  have q : ∀ k, k ≠ R → (w.setCell ⟨R, 44, none⟩ (.int .i64 ((r.stmts : Int) + 1))).heap[k]? = w.heap[k]? := fun k hk => setCell_block _ _ _ _ _ hk
  have hr := h.re.kept (w' := w.setCell ⟨R, 44, none⟩ (.int .i64 ((r.stmts : Int) + 1))) (by omega) (fun k hk => q k (by have := h.re.wh k hk; omega))
  exact { ok := { cn := h.ok.cn.mono (by show r.stmts ≤ r.stmts + 1; omega), lv := h.ok.lv, ce := h.ok.ce, ch := h.ok.ch, lo := h.ok.lo, st := (by show r.stmts + 1 ≤ 16; omega), fr := h.ok.fr, cl := h.ok.cl, hl := h.ok.hl, pairs := h.ok.pairs, kinds := h.ok.kinds, head := fun hh => (by rw [show ({ r with stmts := r.stmts + 1 } : Fl.RS).begun = r.begun from rfl, hb] at hh; cases hh), below := h.ok.below, clv := h.ok.clv, chv := h.ok.chv, lat := h.ok.lat },
          bel := h.bel.setCell (by show lo ≤ R; omega) _, fx := fun b f1 f2 f3 f4 f5 f6 => (q b f2).trans (h.fx b f1 f2 f3 f4 f5 f6), hlo := h.hlo, hba := ⟨b1, b2, b3, b4, b5, by omega⟩, nd := h.nd,
          cR := (h.cR.set (j := 44) (by omega) (.int .i64 ((r.stmts : Int) + 1))).congr (fun j hj => by
            by_cases h4 : j = 44
            · subst h4; rfl
            · rw [if_neg h4]
              unfold rdCell
              by_cases hs : j = 0 ∨ j = 1 ∨ j = 2 ∨ j = 3 ∨ j = 40 ∨ j = 41 ∨ j = 42 ∨ j = 43
              · rcases hs with rfl | rfl | rfl | rfl | rfl | rfl | rfl | rfl <;> rfl
              · rw [if_neg (show ¬ j = 0 by omega), if_neg (show ¬ j = 1 by omega), if_neg (show ¬ j = 2 by omega), if_neg (show ¬ j = 3 by omega), if_neg (show ¬ j = 40 by omega), if_neg (show ¬ j = 41 by omega), if_neg (show ¬ j = 42 by omega), if_neg (show ¬ j = 43 by omega), if_neg h4]
                rw [if_neg (show ¬ j = 0 by omega), if_neg (show ¬ j = 1 by omega), if_neg (show ¬ j = 2 by omega), if_neg (show ¬ j = 3 by omega), if_neg (show ¬ j = 40 by omega), if_neg (show ¬ j = 41 by omega), if_neg (show ¬ j = 42 by omega), if_neg (show ¬ j = 43 by omega), if_neg h4]),
          cP := h.cP.block (q _ (Ne.symm n1)), nl := h.nl.block (q _ (Ne.symm n2)), nv := h.nv.block (q _ (Ne.symm n3)), nc := h.nc.block (q _ (Ne.symm n4)), tab := h.tab,
          re := { wh := hr.wh, oc := hr.oc, tc := hr.tc, oh := hr.oh, th := hr.th, pb := hr.pb, tb := hr.tb, fa := hr.fa, oo := hr.oo, to := hr.to, la := hr.la } }
def actB (Pb : Nat) : List GF → Nat
  | [] => Pb
  | g :: _ => g.sb
def actI : List Fl.Frame → Nat
  | [] => 4
  | f :: _ => if f.had then 5 else 4
def actV (bv : Value) : List Fl.Frame → List GF → Value
  | f :: _, g :: _ => g.act f
  | _, _ => bv
theorem part_row {d : Nat} {S : Nat → Prop} {W : World} {v : Value} {ts : List Fl.Stmt} {tl : List Value} (h : PartAt d S base W v ts tl) : ∃ xs, W.ownsRow base 140 1 v (ts.length + tl.length) xs := by
  obtain ⟨ps, h1, h2, _⟩ := h
  exact ⟨_, by rw [← h2]; exact h1⟩
theorem row_shape {e : TypeId} {W : World} {v : Value} {n : Nat} {xs : List Value} (h : W.ownsRow base e 1 v n xs) : ∃ ao cap, v = .slice ao n cap := by
  rcases h.2 with ⟨h1, h2⟩ | ⟨g, cp, cur, h1, _⟩
  · exact ⟨none, 0, by rw [h1, h2]⟩
  · exact ⟨_, cp, h1⟩
theorem act_at (h : PrAt lo base R Pb lm vm cm w0 w r line m) : ∃ n xs ao cap, actV m.bv r.fr m.gs = .slice ao n cap ∧ n ≤ 16 ∧ w.ownsRow base 140 1 (actV m.bv r.fr m.gs) n xs ∧ w.cell? ⟨actB Pb m.gs, actI r.fr, none⟩ = some (actV m.bv r.fr m.gs) ∧ (∀ j, w.frozen? ⟨actB Pb m.gs, j, none⟩ = false) ∧ actB Pb m.gs < w.heap.size ∧ lo ≤ actB Pb m.gs ∧ (∀ k, (actV m.bv r.fr m.gs).ownBlock = some k → base ≤ k ∧ k < w.heap.size ∧ k ≠ actB Pb m.gs) ∧
    ((m.gs = [] ∧ r.fr = []) ∨ ∃ f fs g gs, r.fr = f :: fs ∧ m.gs = g :: gs ∧ w.cell? ⟨g.ob, 0, none⟩ = some (.pointer (some ⟨g.sb, 0, none⟩)) ∧ w.cell? ⟨g.ob, 1, none⟩ = some (.bool f.had)) := by
  have hl := h.re.fa.len
  have hba := h.hba
  have hlo := h.hlo
  have hst := h.ok.st
  have hcn := h.ok.cn
  cases hgs : m.gs with
  | nil =>
    have hfr : r.fr = [] := by rw [hgs] at hl; simp at hl; exact List.eq_nil_of_length_eq_zero hl.symm
    have hp := h.re.pb
    rw [hgs] at hp
    obtain ⟨xs, hx⟩ := part_row hp
    obtain ⟨ao, cap, hs⟩ := row_shape hx
    rw [hfr]
    simp only [tailOf, List.length_nil, Nat.add_zero] at hx hs
    refine ⟨_, xs, ao, cap, hs, ?_, hx, h.cP.c 4 (by omega), h.cP.z, by show Pb < _; omega, by show lo ≤ Pb; omega, fun k hk => ?_, .inl ⟨rfl, rfl⟩⟩
    · have := hcn.1; omega
    · have := hx.lt k hk; exact ⟨this.1, this.2, by show k ≠ Pb; omega⟩
  | cons g gs =>
    cases hfr : r.fr with
    | nil => rw [hgs, hfr] at hl; simp at hl
    | cons f fs =>
      have hfa := h.re.fa
      rw [hgs, hfr] at hfa
      obtain ⟨hf, _⟩ := hfa
      obtain ⟨xs, hx⟩ := part_row hf.pa
      obtain ⟨ao, cap, hs⟩ := row_shape hx
      simp only [List.length_nil, Nat.add_zero] at hx hs
      have hc2 := hcn.2
      rw [hfr] at hc2
      have hwb := h.re.wh g.sb (by rw [hf.ts]; omega)
      refine ⟨_, xs, ao, cap, hs, ?_, hx, ?_, hf.cs.z, hwb.2, by show lo ≤ g.sb; omega, fun k hk => ?_, .inr ⟨f, fs, g, gs, rfl, rfl, hf.co.c 0 (by omega), hf.co.c 1 (by omega)⟩⟩
      · have h1 := hc2.1; have h2 := hc2.2.1
        split <;> rename_i hh <;> simp [hh] at h1 h2 <;> omega
      · show w.cell? ⟨g.sb, if f.had then 5 else 4, none⟩ = some (g.act f)
        unfold GF.act
        cases hh : f.had
        · exact hf.cs.c 4 (by omega)
        · exact hf.cs.c 5 (by omega)
      · have := hx.lt k hk
        refine ⟨this.1, this.2, fun he => ?_⟩
        have h1 := hf.ta k hk
        have he' : k = g.sb := he
        rw [he', hf.ts] at h1; omega
def AddEnds (lo base R Pb lm vm cm : Nat) (w0 : World) (r : Fl.RS) (line : Int) (m : PMem) (sn : Nat) (kind x : Int) (vp : Value) (w : World) (e : Ending) (w' : World) : Prop :=
  (16 ≤ r.stmts ∧ e = .panicked (stopAt 5 line) ∧ Gone lo base R Pb lm vm cm w0 w') ∨ (r.stmts < 16 ∧ e = .returned (.tuple #[]) ∧ ∃ W2, PrAt lo base R Pb lm vm cm w0 W2 { r with stmts := r.stmts + 1 } line m ∧ W2.heap.size = w.heap.size ∧ (∀ b, b ≠ R → b ≠ sn → W2.heap[b]? = w.heap[b]?) ∧
    Cells W2 sn 6 (rw_ [.int .i64 kind, .int .i64 line, .int .i64 x, vp, .slice none 0 0, .slice none 0 0]) ∧ ∃ n xs v', W2.ownsRow base 140 1 (actV m.bv r.fr m.gs) n xs ∧ GrewAt 140 lo base w0 W2 w' (actB Pb m.gs) (actI r.fr) (actV m.bv r.fr m.gs) v' n xs (ptr sn))
set_option maxRecDepth 100000 in
set_option maxHeartbeats 2000000 in
theorem radd_any (h : PrAt lo base R Pb lm vm cm w0 w r line m) (hbg : r.begun = true) (sn : Nat) (kind x : Int) (vp : Value) (hsb : base ≤ sn) (hs5 : m.who sn = 5) (hsz : sn < w.heap.size) (hcs : Cells w sn 6 (rw_ [.int .i64 kind, .int .i64 0, .int .i64 x, vp, .slice none 0 0, .slice none 0 0])) :
    Calls Tryz.prog 82 #[.pointer (some ⟨R, 0, none⟩), .pointer (some ⟨sn, 0, none⟩)] w (AddEnds lo base R Pb lm vm cm w0 r line m sn kind x vp w) := by
  have hst := h.ok.st
  have c44 : w.cell? ⟨R, 44, none⟩ = some (.int .i64 r.stmts) := h.cR.c 44 (by omega)
  have zR := h.cR.z
  have hba := h.hba
  have hlo := h.hlo
  have HH : Hid (PrAt lo base R Pb lm vm cm w0 w r line m) := h
  have HRB : Hid (Calls Tryz.prog 46 #[.pointer (some ⟨R, 0, none⟩), .bool false, .int .i64 5] w fun e w' => e = .panicked (stopAt 5 line) ∧ Below w.heap.size w w') := rneed_bad R 5 line w (h.cR.c 1 (by omega))
  have HOK : Hid (Calls Tryz.prog 46 #[.pointer (some ⟨R, 0, none⟩), .bool true, .int .i64 5] w fun e w' => e = .returned (.tuple #[]) ∧ w' = w) := rneed_ok R 5 w
  have HCS : Hid (Cells w sn 6 (rw_ [.int .i64 kind, .int .i64 0, .int .i64 x, vp, .slice none 0 0, .slice none 0 0])) := hcs
  clear h hcs
  by_cases h16 : 16 ≤ r.stmts
  · have b16 : ¬ (r.stmts : Int) < 16 := by omega
    go_enter Tryz.func82, Tryz.ntmps82
    go_wp2_with fail
    try rw [show decide ((r.stmts : Int) < 16) = false from decide_eq_false (by omega)]
    refine HRB.out.mono ?_
    rintro e w1 ⟨rfl, hb1⟩
    exact ⟨rfl, .inl ⟨h16, rfl, HH.out.gone hb1⟩⟩
  · have b16 : (r.stmts : Int) < 16 := by omega
    have hRs : R ≠ sn := by omega
    obtain ⟨W1, hW1⟩ : ∃ W1, W1 = w.setCell ⟨R, 44, none⟩ (.int .i64 ((r.stmts : Int) + 1)) := ⟨_, rfl⟩
    obtain ⟨W2, hW2⟩ : ∃ W2, W2 = W1.setCell ⟨sn, 1, none⟩ (.int .i64 line) := ⟨_, rfl⟩
    have H1 : PrAt lo base R Pb lm vm cm w0 W1 { r with stmts := r.stmts + 1 } line m := by rw [hW1]; exact HH.out.count hbg (by omega)
    have H2 : PrAt lo base R Pb lm vm cm w0 W2 { r with stmts := r.stmts + 1 } line m := by rw [hW2]; exact H1.other sn 1 _ hsb hs5
    have HC1 : Cells W1 sn 6 (rw_ [.int .i64 kind, .int .i64 0, .int .i64 x, vp, .slice none 0 0, .slice none 0 0]) := by rw [hW1]; exact HCS.out.block (setCell_block _ _ _ _ _ (Ne.symm hRs))
    have HC2 : Hid (Cells W2 sn 6 (rw_ [.int .i64 kind, .int .i64 line, .int .i64 x, vp, .slice none 0 0, .slice none 0 0])) := by
      rw [hW2]
      refine (HC1.set (j := 1) (by omega) (.int .i64 line)).congr fun k hk => ?_
      rcases (show k = 0 ∨ k = 1 ∨ k = 2 ∨ k = 3 ∨ k = 4 ∨ k = 5 by omega) with rfl | rfl | rfl | rfl | rfl | rfl <;> rfl
    have HP2 : Hid (PrAt lo base R Pb lm vm cm w0 W2 { r with stmts := r.stmts + 1 } line m) := H2
    have HZ2 : Hid (W2.heap.size = w.heap.size) := by show _ = _; rw [hW2, setCell_size, hW1, setCell_size]
    have HQ2 : Hid (∀ b, b ≠ R → b ≠ sn → W2.heap[b]? = w.heap[b]?) := fun b h1 h2 => by rw [hW2, setCell_block _ _ _ _ _ h2, hW1, setCell_block _ _ _ _ _ h1]
    have d1 : (w.setCell ⟨R, 44, none⟩ (.int .i64 ((r.stmts : Int) + 1))).cell? ⟨R, 1, none⟩ = some (.int .i64 line) := by rw [← hW1]; exact H1.cR.c 1 (by omega)
    have s1 : (w.setCell ⟨R, 44, none⟩ (.int .i64 ((r.stmts : Int) + 1))).cell? ⟨sn, 1, none⟩ = some (.int .i64 0) := by rw [← hW1]; exact HC1.c 1 (by omega)
    have sz1 : ∀ j, w.frozen? ⟨sn, j, none⟩ = false := HCS.out.z
    have e0 : ((w.setCell ⟨R, 44, none⟩ (.int .i64 ((r.stmts : Int) + 1))).setCell ⟨sn, 1, none⟩ (.int .i64 line)).cell? ⟨R, 0, none⟩ = some (.pointer (some ⟨Pb, 0, none⟩)) := by rw [← hW1, ← hW2]; exact H2.cR.c 0 (by omega)
    have HWE : Hid (W2 = (w.setCell ⟨R, 44, none⟩ (.int .i64 ((r.stmts : Int) + 1))).setCell ⟨sn, 1, none⟩ (.int .i64 line)) := by show _ = _; rw [hW2, hW1]
    have HLO : Hid (Calls Tryz.prog 85 #[.pointer (some ⟨R, 0, none⟩)] W2 fun e w' => e = .returned (lastV m.gs) ∧ Below W2.heap.size W2 w' ∧ w'.heap = W2.heap) := lastOpened_any H2
    clear H1 H2 HC1 hW1 hW2
    go_enter Tryz.func82, Tryz.ntmps82
    go_wp2_with fail
    refine HOK.out.mono ?_
    rintro e w1 ⟨rfl, hw1⟩
    rw [hw1]
    clear hw1 w1 HOK HRB
    go_wp2_with fail
    rw [← HWE.out]
    refine HLO.out.mono ?_
    rintro e W3 ⟨rfl, hb3, hh3⟩
    have HP3 : Hid (PrAt lo base R Pb lm vm cm w0 W3 { r with stmts := r.stmts + 1 } line m) := HP2.out.below hb3
    have HC3 : Hid (Cells W3 sn 6 (rw_ [.int .i64 kind, .int .i64 line, .int .i64 x, vp, .slice none 0 0, .slice none 0 0])) := HC2.out.block (by rw [hh3])
    have HZ3 : Hid (W3.heap.size = w.heap.size) := by show _ = _; rw [hh3]; exact HZ2.out
    have HQ3 : Hid (∀ b, b ≠ R → b ≠ sn → W3.heap[b]? = w.heap[b]?) := fun b h1 h2 => by rw [hh3]; exact HQ2.out b h1 h2
    clear hb3 hh3 HP2 HC2 HZ2 HQ2 HLO HWE d1 s1 sz1 e0 c44 zR HCS
    obtain ⟨n, xs, ao, cap, hav, hn16, hown, hcell, hfz, hsbz, hlos, hblk, hcase⟩ := act_at HP3.out
    have HAV : Hid (actV m.bv r.fr m.gs = .slice ao n cap) := hav
    have HOWN : Hid (W3.ownsRow base 140 1 (.slice ao n cap) n xs) := by show World.ownsRow _ _ _ _ _ _ _; rw [← HAV.out]; exact hown
    have HBLK : Hid (∀ k, (Value.slice ao n cap).ownBlock = some k → base ≤ k ∧ k < W3.heap.size ∧ k ≠ actB Pb m.gs) := by rw [← HAV.out]; exact hblk
    have HBEL : Hid (Below lo w0 W3) := HP3.out.bel
    have hcell' : W3.cell? ⟨actB Pb m.gs, actI r.fr, none⟩ = some (.slice ao n cap) := by rw [← HAV.out]; exact hcell
    have hbase3 : base ≤ W3.heap.size := HP3.out.hba.2.2.2.2.2
    have HFIN : Hid (∀ (W4 : World) (v' : Value) (o : Obj), W4.ownsRow base 140 1 v' (n + 1) (xs ++ [ptr sn]) → (W3.alloc o).grownBy W4 (Value.slice ao n cap).ownBlock → (v'.ownBlock = (Value.slice ao n cap).ownBlock ∨ v'.ownBlock = some (W3.alloc o).heap.size) →
        AddEnds lo base R Pb lm vm cm w0 r line m sn kind x vp w (.returned (.tuple #[])) (W4.setCell ⟨actB Pb m.gs, actI r.fr, none⟩ v')) := fun W4 v' o h1 h2 h3 =>
      .inr ⟨by omega, rfl, W3, HP3.out, HZ3.out, HQ3.out, HC3.out, n, xs, v', by rw [HAV.out]; exact HOWN.out, by rw [HAV.out]; exact GrewAt.of HBEL.out hlos (by omega) (by omega) h1 h2 h3 HBLK.out hsbz⟩
    have t0 : ∀ i u, ([.pointer (some ⟨sn, 0, none⟩)] : List Value)[i]? = some u → (W3.alloc (.cells #[.pointer (some ⟨sn, 0, none⟩)] 140)).cell? ((⟨W3.heap.size, 0, none⟩ : Addr).add i) = some u := str_cell_new
    obtain ⟨i0, hi0, hz0, hzs, hzb⟩ := info_parts Tryz.infoPStmt
    clear hav hown hcell hblk hlos
    rcases hcase with ⟨hg0, hf0⟩ | ⟨f, fs, g, gs, hf1, hg1, co0, co1⟩
    · have hL : lastV m.gs = .pointer none := by rw [hg0]; rfl
      have hB0 : actB Pb m.gs = Pb := by rw [hg0]; rfl
      have hI0 : actI r.fr = 4 := by rw [hf0]; rfl
      have c4 : W3.cell? ⟨Pb, 4, none⟩ = some (.slice ao n cap) := by rw [← hB0, ← hI0]; exact hcell'
      have hfz' : ∀ j, W3.frozen? ⟨Pb, j, none⟩ = false := fun j => by rw [← hB0]; exact hfz j
      have HEND : Hid (∀ (W4 : World) (v' : Value) (o : Obj), W4.ownsRow base 140 1 v' (n + 1) (xs ++ [ptr sn]) → (W3.alloc o).grownBy W4 (Value.slice ao n cap).ownBlock → (v'.ownBlock = (Value.slice ao n cap).ownBlock ∨ v'.ownBlock = some (W3.alloc o).heap.size) →
        AddEnds lo base R Pb lm vm cm w0 r line m sn kind x vp w (.returned (.tuple #[])) (W4.setCell ⟨Pb, 4, none⟩ v')) := by
        intro W4 v' o h1 h2 h3
        have := HFIN.out W4 v' o h1 h2 h3
        rw [hB0, hI0] at this; exact this
      have hPz : Pb < W3.heap.size := by rw [← hB0]; exact hsbz
      have HBK : Hid (∀ k, (Value.slice ao n cap).ownBlock = some k → base ≤ k ∧ k < W3.heap.size ∧ k ≠ Pb) := by rw [← hB0]; exact HBLK.out
      rw [hL]
      clear hL hB0 hI0 hg0 hf0 hcell' hfz hsbz HFIN HBLK
      go_wp2_with (at_builtin; refine wpList_append_at _ rfl (.tmp 56) (.tmp 58) 68 rfl base 140 i0 (.pointer none) 1 8 Tryz.underlying68 hi0 hz0 hzs hzb rfl (by decide) _ _ _ rfl (HOWN.out.alloc _) ⟨_, 0, none⟩ 1 1 [.pointer (some ⟨sn, 0, none⟩)] rfl rfl (by decide) t0 ?c2 ?c3 ?c4 ?c5 ?_)
      case c2 => intro u hu; simp at hu; subst hu; rfl
      case c3 => unfold maxLen; omega
      case c4 => omega
      case c5 => simp; omega
      intro v' W4 hown4 hg4 hwh4
      obtain ⟨va, vcap, rfl⟩ := row_shape hown4
      have hq4 : W4.heap[Pb]? = W3.heap[Pb]? := (hg4.block Pb (by simp; omega) (fun hh => (HBK.out Pb hh.symm).2.2 rfl)).trans (((Below.refl W3.heap.size W3).alloc (Nat.le_refl _) _).block Pb hPz)
      have g4 : W4.cell? ⟨Pb, 4, none⟩ = some (.slice ao n cap) := (World.cell?_of_block (a := ⟨Pb, 4, none⟩) hq4).trans c4
      have gz : ∀ j, W4.frozen? ⟨Pb, j, none⟩ = false := fun j => (World.frozen?_of_block (a := ⟨Pb, j, none⟩) hq4).trans (hfz' j)
      have HE : Hid (AddEnds lo base R Pb lm vm cm w0 r line m sn kind x vp w (.returned (.tuple #[])) (W4.setCell ⟨Pb, 4, none⟩ (.slice va (n + 1) vcap))) := HEND.out W4 _ _ hown4 hg4 (by rw [World.size_alloc]; exact hwh4)
      clear hown4 hg4 hwh4 hq4 HEND HOWN HBK
      go_wp2
      go_end0
      exact HE.out
    · cases hhd : f.had with
      | false =>
        have hL : lastV m.gs = .pointer (some ⟨g.ob, 0, none⟩) := by rw [hg1]; rfl
        have hB0 : actB Pb m.gs = g.sb := by rw [hg1]; rfl
        have hI0 : actI r.fr = 4 := by rw [hf1]; show (if f.had then 5 else 4) = 4; rw [hhd]; rfl
        have c4 : W3.cell? ⟨g.sb, 4, none⟩ = some (.slice ao n cap) := by rw [← hB0, ← hI0]; exact hcell'
        have hfz' : ∀ j, W3.frozen? ⟨g.sb, j, none⟩ = false := fun j => by rw [← hB0]; exact hfz j
        have HBK : Hid (∀ k, (Value.slice ao n cap).ownBlock = some k → base ≤ k ∧ k < W3.heap.size ∧ k ≠ g.sb) := by rw [← hB0]; exact HBLK.out
        have HEND : Hid (∀ (W4 : World) (v' : Value) (o : Obj), W4.ownsRow base 140 1 v' (n + 1) (xs ++ [ptr sn]) → (W3.alloc o).grownBy W4 (Value.slice ao n cap).ownBlock → (v'.ownBlock = (Value.slice ao n cap).ownBlock ∨ v'.ownBlock = some (W3.alloc o).heap.size) →
        AddEnds lo base R Pb lm vm cm w0 r line m sn kind x vp w (.returned (.tuple #[])) (W4.setCell ⟨g.sb, 4, none⟩ v')) := by
          intro W4 v' o h1 h2 h3
          have := HFIN.out W4 v' o h1 h2 h3
          rw [hB0, hI0] at this; exact this
        have hPz : g.sb < W3.heap.size := by rw [← hB0]; exact hsbz
        rw [hhd] at co1
        rw [hL]
        obtain ⟨gb, hgb⟩ : ∃ gb, gb = g.sb := ⟨_, rfl⟩
        obtain ⟨go, hgo⟩ : ∃ go, go = g.ob := ⟨_, rfl⟩
        rw [← hgb] at co0 c4 hfz' HBK HEND hPz
        rw [← hgo] at co0 co1 ⊢
        clear hL hB0 hI0 hg1 hf1 hcell' hfz hsbz HFIN HBLK hhd hgb hgo
        go_wp2_with (at_builtin; refine wpList_append_at _ rfl (.tmp 56) (.tmp 58) 68 rfl base 140 i0 (.pointer none) 1 8 Tryz.underlying68 hi0 hz0 hzs hzb rfl (by decide) _ _ _ rfl (HOWN.out.alloc _) ⟨_, 0, none⟩ 1 1 [.pointer (some ⟨sn, 0, none⟩)] rfl rfl (by decide) t0 ?c2 ?c3 ?c4 ?c5 ?_)
        case c2 => intro u hu; simp at hu; subst hu; rfl
        case c3 => unfold maxLen; omega
        case c4 => omega
        case c5 => simp; omega
        intro v' W4 hown4 hg4 hwh4
        obtain ⟨va, vcap, rfl⟩ := row_shape hown4
        have hq4 : W4.heap[gb]? = W3.heap[gb]? := (hg4.block gb (by simp; omega) (fun hh => (HBK.out gb hh.symm).2.2 rfl)).trans (((Below.refl W3.heap.size W3).alloc (Nat.le_refl _) _).block gb hPz)
        have g4 : W4.cell? ⟨gb, 4, none⟩ = some (.slice ao n cap) := (World.cell?_of_block (a := ⟨gb, 4, none⟩) hq4).trans c4
        have gz : ∀ j, W4.frozen? ⟨gb, j, none⟩ = false := fun j => (World.frozen?_of_block (a := ⟨gb, j, none⟩) hq4).trans (hfz' j)
        have HE : Hid (AddEnds lo base R Pb lm vm cm w0 r line m sn kind x vp w (.returned (.tuple #[])) (W4.setCell ⟨gb, 4, none⟩ (.slice va (n + 1) vcap))) := HEND.out W4 _ _ hown4 hg4 (by rw [World.size_alloc]; exact hwh4)
        clear hown4 hg4 hwh4 hq4 HEND HOWN HBK
        go_wp2
        go_end0
        exact HE.out
      | true =>
        have hL : lastV m.gs = .pointer (some ⟨g.ob, 0, none⟩) := by rw [hg1]; rfl
        have hB0 : actB Pb m.gs = g.sb := by rw [hg1]; rfl
        have hI0 : actI r.fr = 5 := by rw [hf1]; show (if f.had then 5 else 4) = 5; rw [hhd]; rfl
        have c4 : W3.cell? ⟨g.sb, 5, none⟩ = some (.slice ao n cap) := by rw [← hB0, ← hI0]; exact hcell'
        have hfz' : ∀ j, W3.frozen? ⟨g.sb, j, none⟩ = false := fun j => by rw [← hB0]; exact hfz j
        have HBK : Hid (∀ k, (Value.slice ao n cap).ownBlock = some k → base ≤ k ∧ k < W3.heap.size ∧ k ≠ g.sb) := by rw [← hB0]; exact HBLK.out
        have HEND : Hid (∀ (W4 : World) (v' : Value) (o : Obj), W4.ownsRow base 140 1 v' (n + 1) (xs ++ [ptr sn]) → (W3.alloc o).grownBy W4 (Value.slice ao n cap).ownBlock → (v'.ownBlock = (Value.slice ao n cap).ownBlock ∨ v'.ownBlock = some (W3.alloc o).heap.size) →
        AddEnds lo base R Pb lm vm cm w0 r line m sn kind x vp w (.returned (.tuple #[])) (W4.setCell ⟨g.sb, 5, none⟩ v')) := by
          intro W4 v' o h1 h2 h3
          have := HFIN.out W4 v' o h1 h2 h3
          rw [hB0, hI0] at this; exact this
        have hPz : g.sb < W3.heap.size := by rw [← hB0]; exact hsbz
        rw [hhd] at co1
        rw [hL]
        obtain ⟨gb, hgb⟩ : ∃ gb, gb = g.sb := ⟨_, rfl⟩
        obtain ⟨go, hgo⟩ : ∃ go, go = g.ob := ⟨_, rfl⟩
        rw [← hgb] at co0 c4 hfz' HBK HEND hPz
        rw [← hgo] at co0 co1 ⊢
        clear hL hB0 hI0 hg1 hf1 hcell' hfz hsbz HFIN HBLK hhd hgb hgo
        go_wp2_with (at_builtin; refine wpList_append_at _ rfl (.tmp 56) (.tmp 58) 68 rfl base 140 i0 (.pointer none) 1 8 Tryz.underlying68 hi0 hz0 hzs hzb rfl (by decide) _ _ _ rfl (HOWN.out.alloc _) ⟨_, 0, none⟩ 1 1 [.pointer (some ⟨sn, 0, none⟩)] rfl rfl (by decide) t0 ?c2 ?c3 ?c4 ?c5 ?_)
        case c2 => intro u hu; simp at hu; subst hu; rfl
        case c3 => unfold maxLen; omega
        case c4 => omega
        case c5 => simp; omega
        intro v' W4 hown4 hg4 hwh4
        obtain ⟨va, vcap, rfl⟩ := row_shape hown4
        have hq4 : W4.heap[gb]? = W3.heap[gb]? := (hg4.block gb (by simp; omega) (fun hh => (HBK.out gb hh.symm).2.2 rfl)).trans (((Below.refl W3.heap.size W3).alloc (Nat.le_refl _) _).block gb hPz)
        have g4 : W4.cell? ⟨gb, 5, none⟩ = some (.slice ao n cap) := (World.cell?_of_block (a := ⟨gb, 5, none⟩) hq4).trans c4
        have gz : ∀ j, W4.frozen? ⟨gb, j, none⟩ = false := fun j => (World.frozen?_of_block (a := ⟨gb, j, none⟩) hq4).trans (hfz' j)
        have HE : Hid (AddEnds lo base R Pb lm vm cm w0 r line m sn kind x vp w (.returned (.tuple #[])) (W4.setCell ⟨gb, 5, none⟩ (.slice va (n + 1) vcap))) := HEND.out W4 _ _ hown4 hg4 (by rw [World.size_alloc]; exact hwh4)
        clear hown4 hg4 hwh4 hq4 HEND HOWN HBK
        go_wp2
        go_end0
        exact HE.out
end
end Go.Proofs.YthfacjlghcdndaaGreatDoor

namespace Go.Proofs.YthfacjlghcdndaaGreatDoor
open Go.RowKit
section
variable {lo base R Pb lm vm cm : Nat} {w0 w w' : World} {r : Fl.RS} {line : Int} {m : PMem}
structure LowAt (base : Nat) (w' : World) (r : Fl.RS) (m : PMem) (who' : Nat → Nat) : Prop where
  oc : w'.ownsRow base 3 1 m.clv r.cellLv.length (intsV r.cellLv) ∧ ∀ b, m.clv.ownBlock = some b → who' b = 3
  oh : w'.ownsRow base 3 1 m.chv r.chanLv.length (intsV r.chanLv) ∧ ∀ b, m.chv.ownBlock = some b → who' b = 4
  pb : PartAt 3 (fun b => who' b = 0) base w' m.bv r.top (tailOf m.gs) ∧ ∀ b, m.bv.ownBlock = some b → who' b = 1
  oo : w'.ownsRow base 178 1 m.ov r.fr.length ((m.gs.map fun g => ptr g.ob).reverse) ∧ ∀ b, m.ov.ownBlock = some b → who' b = 2
  la : r.begun = true → ∃ Lb, m.pl = ptr Lb ∧ who' Lb = 0 ∧ LatAt w' Lb r.levels.length r.tab
theorem RestAt.low (h : RestAt base w r m) (who' : Nat → Nat) (q : ∀ b, m.who b < 5 → who' b = m.who b ∧ w'.heap[b]? = w.heap[b]?) : LowAt base w' r m who' := by
  have qq : ∀ (v : Value) (T : Nat), T < 5 → (∀ b, v.ownBlock = some b → m.who b = T) → ∀ b, v.ownBlock = some b → who' b = T ∧ w'.heap[b]? = w.heap[b]? := fun v T hT hv b hb => by
    have := q b (by rw [hv b hb]; exact hT); rw [hv b hb] at this; exact this
  have q0 : ∀ b, m.who b = 0 → who' b = 0 ∧ w'.heap[b]? = w.heap[b]? := fun b hb => by have := q b (by rw [hb]; decide); rw [hb] at this; exact this
  refine { oc := ?_, oh := ?_, pb := ?_, oo := ?_, la := fun hg => ?_ }
  · have q3 := qq m.clv 3 (by decide) h.tc; exact ⟨own_same h.oc (fun b hv => (q3 b hv).2), fun b hb => (q3 b hb).1⟩
  · have q3 := qq m.chv 4 (by decide) h.th; exact ⟨own_same h.oh (fun b hv => (q3 b hv).2), fun b hb => (q3 b hb).1⟩
  · have q3 := qq m.bv 1 (by decide) h.tb
    exact ⟨h.pb.kept (fun b hb => (q0 b hb).1) (fun b hb => (q0 b hb).2) (fun b hv => (q3 b hv).2), fun b hb => (q3 b hb).1⟩
  · have q3 := qq m.ov 2 (by decide) h.to; exact ⟨own_same h.oo (fun b hv => (q3 b hv).2), fun b hb => (q3 b hb).1⟩
  · obtain ⟨Lb, l1, l2, l3⟩ := h.la hg
    exact ⟨Lb, l1, (q0 Lb l2).1, l3.block (q0 Lb l2).2⟩
theorem own_unique {W : World} {e : TypeId} {v : Value} {n n' : Nat} {xs ys : List Value} (h : W.ownsRow base e 1 v n xs) (k : W.ownsRow base e 1 v n' ys) : n = n' ∧ xs = ys := by
  have hx : xs.length = n := by simpa using h.1
  have hy : ys.length = n' := by simpa using k.1
  obtain ⟨ao, cap, hs⟩ := row_shape h
  obtain ⟨ao', cap', hs'⟩ := row_shape k
  rw [hs] at hs'
  simp only [Value.slice.injEq] at hs'
  obtain ⟨_, rfl, _⟩ := hs'
  refine ⟨rfl, ?_⟩
  rcases h.2 with ⟨h1, h2⟩ | ⟨g, cp, cur, h1, _⟩
  · rw [List.eq_nil_of_length_eq_zero (by omega : xs.length = 0), List.eq_nil_of_length_eq_zero (by omega : ys.length = 0)]
  · apply List.ext_getElem? 
    intro i
    by_cases hi : i < n
    · have a1 := h.cells (g := g) (by rw [h1]; rfl) i (xs[i]'(by omega)) (List.getElem?_eq_getElem _)
      have a2 := k.cells (g := g) (by rw [h1]; rfl) i (ys[i]'(by omega)) (List.getElem?_eq_getElem _)
      rw [a1] at a2
      rw [List.getElem?_eq_getElem (by omega), List.getElem?_eq_getElem (by omega)]
      exact a2
    · rw [List.getElem?_eq_none (by omega), List.getElem?_eq_none (by omega)]
theorem PartAt.snoc {d : Nat} {S S' : Nat → Prop} {W : World} {v v' : Value} {ts : List Fl.Stmt} {n : Nat} {xs : List Value} {s : Fl.Stmt} {p : Value} (h : PartAt d S base W v ts []) (ho : W.ownsRow base 140 1 v n xs) (ho' : w'.ownsRow base 140 1 v' (n + 1) (xs ++ [p])) (hS : ∀ b, S b → S' b) (hw : ∀ b, S b → w'.heap[b]? = W.heap[b]?) (hp : PStmt1 (PStmts d) S' w' p s) : PartAt d S' base w' v' (ts ++ [s]) [] := by
  obtain ⟨ps, h1, h2, h3⟩ := h
  simp only [List.append_nil, List.length_nil, Nat.add_zero] at h1
  obtain ⟨rfl, rfl⟩ := own_unique h1 ho
  refine ⟨ps ++ [p], by simpa using ho', by simp [h2], fun i hi => ?_⟩
  by_cases hil : i < ts.length
  · have := (h3 i hil).kept (fun v l h => PStmts.kept hS hw d v l h) hS hw
    rw [List.getD_eq_getElem?_getD, List.getElem?_append_left (by omega), List.getD_eq_getElem?_getD, List.getElem?_append_left hil]
    rw [List.getD_eq_getElem?_getD, List.getD_eq_getElem?_getD] at this
    exact this
  · have hi2 : i = ts.length := by simp at hi; omega
    subst hi2
    rw [List.getD_eq_getElem?_getD, List.getElem?_append_right (by omega), List.getD_eq_getElem?_getD, List.getElem?_append_right (by omega)]
    rw [h2]
    simpa using hp
def whoNew (who : Nat → Nat) (z1 z2 T : Nat) (v' : Value) : Nat → Nat := fun b => if z1 ≤ b ∧ b < z2 then 0 else if v'.ownBlock = some b then T else who b
theorem whoNew_old {who : Nat → Nat} {z1 z2 T : Nat} {v v' : Value} (hI : ∀ b, who b ≠ 5 → b < z1) (hT : T ≠ 5) (hv : ∀ b, v.ownBlock = some b → who b = T) (hz : z1 ≤ z2) (hw : v'.ownBlock = v.ownBlock ∨ ∃ g, v'.ownBlock = some g ∧ z2 ≤ g) (b : Nat) (h5 : who b ≠ 5) : whoNew who z1 z2 T v' b = who b := by
  have h1 := hI b h5
  unfold whoNew
  rw [if_neg (by omega)]
  by_cases hb : v'.ownBlock = some b
  · rw [if_pos hb]
    rcases hw with hw | ⟨g, hg, hzg⟩
    · exact (hv b (hw.symm.trans hb)).symm
    · rw [hg] at hb; simp only [Option.some.injEq] at hb; omega
  · rw [if_neg hb]
theorem whoNew_row {who : Nat → Nat} {z1 z2 T : Nat} {v v' : Value} (hI : ∀ b, who b ≠ 5 → b < z1) (hT : T ≠ 5) (hv : ∀ b, v.ownBlock = some b → who b = T) (hw : v'.ownBlock = v.ownBlock ∨ ∃ g, v'.ownBlock = some g ∧ z2 ≤ g) (b : Nat) (hb : v'.ownBlock = some b) : whoNew who z1 z2 T v' b = T := by
  unfold whoNew
  rw [if_neg, if_pos hb]
  rintro ⟨h1, h2⟩
  rcases hw with hw | ⟨g, hg, hzg⟩
  · have := hI b (by rw [hv b (hw.symm.trans hb)]; exact hT); omega
  · rw [hg] at hb; simp only [Option.some.injEq] at hb; omega
theorem whoNew_new (who : Nat → Nat) (z1 z2 T : Nat) (v' : Value) (b : Nat) (h1 : z1 ≤ b) (h2 : b < z2) : whoNew who z1 z2 T v' b = 0 := if_pos ⟨h1, h2⟩
theorem whoNew_wh {who : Nat → Nat} {z1 z2 z3 T : Nat} {v' : Value} (hI : ∀ b, who b ≠ 5 → base ≤ b ∧ b < z2) (hb1 : base ≤ z1) (hz : z2 ≤ z3) (hlt : ∀ b, v'.ownBlock = some b → base ≤ b ∧ b < z3) (b : Nat) (h : whoNew who z1 z2 T v' b ≠ 5) : base ≤ b ∧ b < z3 := by
  unfold whoNew at h
  by_cases h1 : z1 ≤ b ∧ b < z2
  · omega
  · rw [if_neg h1] at h
    by_cases h2 : v'.ownBlock = some b
    · exact hlt b h2
    · rw [if_neg h2] at h; have := hI b h; omega
end
end Go.Proofs.YthfacjlghcdndaaGreatDoor

namespace Go.Proofs.YthfacjlghcdndaaGreatDoor
open Go.RowKit
section
variable {lo base R Pb lm vm cm : Nat} {w0 w w' W : World} {r : Fl.RS} {line : Int} {m : PMem}
theorem grew_keeps (h : PrAt lo base R Pb lm vm cm w0 W r line m) {n : Nat} {xs : List Value} {v' x : Value} (G : GrewAt 140 lo base w0 W w' (actB Pb m.gs) (actI r.fr) (actV m.bv r.fr m.gs) v' n xs x) (ho : W.ownsRow base 140 1 (actV m.bv r.fr m.gs) n xs) : ∀ b, b < base → b ≠ actB Pb m.gs → w'.heap[b]? = W.heap[b]? := fun b hb hne =>
  G.q b (by have := h.hba; omega) hne (fun hv => by have := (ho.lt b hv).1; omega)
theorem PrAt.putS (h : PrAt lo base R Pb lm vm cm w0 W { r with stmts := r.stmts + 1 } line m) (hb : r.begun = true) {z1 sn kind x ln : Nat} {vp v' : Value} {e : Fl.Expr} {n : Nat} {xs : List Value} (hI : ∀ b, m.who b ≠ 5 → b < z1) (hz1 : base ≤ z1) (hsn : z1 ≤ sn ∧ sn < W.heap.size) (hln : line = (ln : Int)) (hst : CntOk r.stmts r.fr r.top.length)
    (hc : Cells W sn 6 (rw_ [.int .i64 kind, .int .i64 line, .int .i64 x, vp, .slice none 0 0, .slice none 0 0])) (hv : PVal (fun b => z1 ≤ b ∧ b < W.heap.size) W vp e) (ho : W.ownsRow base 140 1 (actV m.bv r.fr m.gs) n xs) (G : GrewAt 140 lo base w0 W w' (actB Pb m.gs) (actI r.fr) (actV m.bv r.fr m.gs) v' n xs (ptr sn)) :
    ∃ m', PrAt lo base R Pb lm vm cm w0 w' (r.put ⟨kind, x, ln, e, [], []⟩) line m' := by
  obtain ⟨b1, b2, b3, b4, b5, b6⟩ := h.hba
  obtain ⟨n1, n2, n3, n4, n5, n6, n7, n8, n9, n10⟩ := h.nd
  have hl := h.re.fa.len
  have hz := G.hz
  have hlow := grew_keeps (r := { r with stmts := r.stmts + 1 }) h G ho
  have hw5 : ∀ b, z1 ≤ b → m.who b = 5 := fun b hb' => Classical.byContradiction fun hne => by have := hI b hne; omega
  have hstm := h.ok.st
  -- the new statement's own blocks stand
  have hnew : ∀ b, z1 ≤ b → b < W.heap.size → b ≠ actB Pb m.gs → (∀ k, (actV m.bv r.fr m.gs).ownBlock = some k → m.who k ≠ 5) → w'.heap[b]? = W.heap[b]? := fun b h1 h2 h3 h4 => G.q b h2 h3 (fun hk => h4 b hk (hw5 b h1))
  have hps : ∀ (S' : Nat → Prop) (d : Nat), (∀ b, z1 ≤ b → b < W.heap.size → S' b ∧ w'.heap[b]? = W.heap[b]?) → PStmt1 (PStmts d) S' w' (ptr sn) ⟨kind, x, ln, e, [], []⟩ := fun S' d hS => by
    refine ⟨sn, vp, .slice none 0 0, .slice none 0 0, rfl, (hS sn hsn.1 hsn.2).1, ?_, hv.kept (fun b hb' => (hS b hb'.1 hb'.2).1) (fun b hb' => (hS b hb'.1 hb'.2).2), PStmts.nil _ _ _, PStmts.nil _ _ _⟩
    have := hc.block (w' := w') (hS sn hsn.1 hsn.2).2
    rw [hln] at this; exact this
  cases hfr : r.fr with
  | nil =>
    have hgs : m.gs = [] := by
      rw [show ({ r with stmts := r.stmts + 1 } : Fl.RS).fr = r.fr from rfl, hfr] at hl
      exact List.eq_nil_of_length_eq_zero (by simpa using hl)
    rw [hfr, hgs] at G ho hnew
    rw [hgs] at hlow
    have hput : r.put ⟨kind, x, ln, e, [], []⟩ = { r with top := r.top ++ [⟨kind, x, ln, e, [], []⟩], stmts := r.stmts + 1 } := by unfold Fl.RS.put; rw [hfr]
    rw [hput]
    have htb : ∀ b, m.bv.ownBlock = some b → m.who b = 1 := h.re.tb
    have hold := fun b => whoNew_old (z2 := W.heap.size) hI (by decide) htb (by omega) G.wh b
    have hq : ∀ b, m.who b ≠ 5 → m.who b ≠ 1 → w'.heap[b]? = W.heap[b]? := fun b h5 h1 => G.q b (h.re.wh b h5).2 (by have := h.re.wh b h5; show b ≠ Pb; omega) (fun hk => h1 (htb b hk))
    have hin : ∀ b, z1 ≤ b → b < W.heap.size → whoNew m.who z1 W.heap.size 1 v' b = 0 ∧ w'.heap[b]? = W.heap[b]? := fun b h1 h2 => ⟨whoNew_new _ _ _ _ _ _ h1 h2, hnew b h1 h2 (by show b ≠ Pb; omega) (fun k hk => by rw [htb k hk]; decide)⟩
    have hbut := h.re.but (w' := w') 1 (by decide) (whoNew m.who z1 W.heap.size 1 v') (fun b h5 h1 => ⟨hold b h5, hq b h5 h1⟩)
    refine ⟨{ m with bv := v', who := whoNew m.who z1 W.heap.size 1 v' }, ?_⟩
    refine { ok := ?ok, bel := G.bel, fx := fun b f1 f2 f3 f4 f5 f6 => (hlow b f1 f3).trans (h.fx b f1 f2 f3 f4 f5 f6), hlo := h.hlo, hba := ⟨b1, b2, b3, b4, b5, by omega⟩, nd := h.nd, cR := ?cR, cP := ?cP, nl := h.nl.block (hlow _ b3 (Ne.symm n5)), nv := h.nv.block (hlow _ b4 (Ne.symm n6)), nc := h.nc.block (hlow _ b5 (Ne.symm n7)), tab := h.tab, re := ?re }
    case ok =>
      exact { cn := ⟨by have := hst.1; simp [hfr] at this ⊢; omega, by rw [show ({ r with top := r.top ++ [⟨kind, x, ln, e, [], []⟩], stmts := r.stmts + 1 } : Fl.RS).fr = r.fr from rfl, hfr]; trivial⟩, lv := h.ok.lv, ce := h.ok.ce, ch := h.ok.ch, lo := h.ok.lo, st := h.ok.st, fr := h.ok.fr, cl := h.ok.cl, hl := h.ok.hl, pairs := h.ok.pairs, kinds := h.ok.kinds, head := fun hh => (by rw [show ({ r with top := r.top ++ [⟨kind, x, ln, e, [], []⟩], stmts := r.stmts + 1 } : Fl.RS).begun = r.begun from rfl, hb] at hh; cases hh), below := h.ok.below, clv := h.ok.clv, chv := h.ok.chv, lat := h.ok.lat }
    case cR =>
      refine (h.cR.block (hlow R b1 n1)).congr fun j hj => ?_
      exact (rd_same Pb lm vm cm line { r with stmts := r.stmts + 1 } { r with top := r.top ++ [⟨kind, x, ln, e, [], []⟩], stmts := r.stmts + 1 } m { m with bv := v', who := whoNew m.who z1 W.heap.size 1 v' } j rfl rfl rfl rfl hj (fun _ _ _ _ _ => rfl)).symm
    case cP =>
      refine (G.cs 5 _ h.cP (by decide)).congr fun k hk => ?_
      rcases (show k = 0 ∨ k = 1 ∨ k = 2 ∨ k = 3 ∨ k = 4 by omega) with rfl | rfl | rfl | rfl | rfl <;> rfl
    case re =>
      have hpb := h.re.pb
      rw [hgs] at hpb
      exact { wh := fun b hb' => whoNew_wh (fun b hb => h.re.wh b hb) hz1 hz (fun b hv => ⟨(G.own.lt b hv).1, (G.own.lt b hv).2⟩) b hb',
              oc := (hbut.oc (by decide)).1, tc := (hbut.oc (by decide)).2, oh := (hbut.oh (by decide)).1, th := (hbut.oh (by decide)).2,
              pb := (by
                show PartAt 3 _ base w' v' (r.top ++ [_]) (tailOf m.gs)
                rw [hgs]
                exact PartAt.snoc hpb ho G.own (fun b hb' => (hold b (by rw [hb']; decide)).trans hb') (fun b hb' => hq b (by rw [hb']; decide) (by rw [hb']; decide)) (hps _ 3 hin)),
              tb := fun b hb' => whoNew_row hI (by decide) htb G.wh b hb', fa := hbut.fa (.inl (by decide)), oo := (hbut.oo (by decide)).1, to := (hbut.oo (by decide)).2, la := hbut.la }
  | cons f fs =>
    cases hgs : m.gs with
    | nil => rw [show ({ r with stmts := r.stmts + 1 } : Fl.RS).fr = r.fr from rfl, hfr, hgs] at hl; simp at hl
    | cons g gs =>
      rw [hfr, hgs] at G ho hnew
      rw [hgs] at hlow
      have hfa := h.re.fa
      rw [show ({ r with stmts := r.stmts + 1 } : Fl.RS).fr = r.fr from rfl, hfr, hgs] at hfa
      obtain ⟨hf, hft⟩ := hfa
      obtain ⟨f', hf'⟩ : ∃ f' : Fl.Frame, f' = if f.had then { f with els := f.els ++ [⟨kind, x, ln, e, [], []⟩] } else { f with first := f.first ++ [⟨kind, x, ln, e, [], []⟩] } := ⟨_, rfl⟩
      obtain ⟨g', hg'⟩ : ∃ g' : GF, g' = if f.had then { g with ev := v' } else { g with fv := v' } := ⟨_, rfl⟩
      have hput : r.put ⟨kind, x, ln, e, [], []⟩ = { r with fr := f' :: fs, stmts := r.stmts + 1 } := by unfold Fl.RS.put; rw [hfr, hf']
      rw [hput]
      have hsb : g'.sb = g.sb := by rw [hg']; split <;> rfl
      have hob : g'.ob = g.ob := by rw [hg']; split <;> rfl
      have hvp : g'.vp = g.vp := by rw [hg']; split <;> rfl
      have hkd : f'.kind = f.kind ∧ f'.line = f.line ∧ f'.e = f.e ∧ f'.had = f.had := by rw [hf']; split <;> exact ⟨rfl, rfl, rfl, rfl⟩
      have hact : g'.act f' = v' := by
        unfold GF.act; rw [hkd.2.2.2, hg']
        cases f.had <;> rfl
      have hta : ∀ b, (actV m.bv (f :: fs) (g :: gs)).ownBlock = some b → m.who b = 12 + 3 * fs.length := hf.ta
      have hold := fun b => whoNew_old (T := 12 + 3 * fs.length) (z2 := W.heap.size) hI (by omega) hta (by omega) G.wh b
      have hq : ∀ b, m.who b ≠ 5 → m.who b ≠ 12 + 3 * fs.length → m.who b ≠ 10 + 3 * fs.length → w'.heap[b]? = W.heap[b]? := fun b h5 h1 h10 => G.q b (h.re.wh b h5).2 (fun he => h10 (by rw [show b = g.sb from he]; exact hf.ts)) (fun hk => h1 (hta b hk))
      have hin : ∀ b, z1 ≤ b → b < W.heap.size → whoNew m.who z1 W.heap.size (12 + 3 * fs.length) v' b = 0 ∧ w'.heap[b]? = W.heap[b]? := fun b h1 h2 => ⟨whoNew_new _ _ _ _ _ _ h1 h2, hnew b h1 h2 (fun he => by have := hw5 b h1; rw [show b = g.sb from he, hf.ts] at this; omega) (fun k hk => by rw [hta k hk]; omega)⟩
      have hlw := h.re.low (w' := w') (whoNew m.who z1 W.heap.size (12 + 3 * fs.length) v') (fun b hb' => ⟨hold b (by omega), hq b (by omega) (by omega) (by omega)⟩)
      have h0 : ∀ b, m.who b = 0 → whoNew m.who z1 W.heap.size (12 + 3 * fs.length) v' b = 0 := fun b hb' => by rw [hold b (by rw [hb']; decide)]; exact hb'
      have h0h : ∀ b, m.who b = 0 → w'.heap[b]? = W.heap[b]? := fun b hb' => hq b (by omega) (by omega) (by omega)
      have htl : tailOf (g' :: gs) = tailOf (g :: gs) := by simp only [tailOf, hsb]
      have hobs : ((g' :: gs).map fun g => ptr g.ob) = ((g :: gs).map fun g => ptr g.ob) := by simp only [List.map_cons, hob]
      refine ⟨{ m with gs := g' :: gs, who := whoNew m.who z1 W.heap.size (12 + 3 * fs.length) v' }, ?_⟩
      have hsbb := h.re.wh g.sb (by rw [hf.ts]; omega)
      refine { ok := ?ok, bel := G.bel, fx := fun b f1 f2 f3 f4 f5 f6 => (hlow b f1 (by show b ≠ g.sb; omega)).trans (h.fx b f1 f2 f3 f4 f5 f6), hlo := h.hlo, hba := ⟨b1, b2, b3, b4, b5, by omega⟩, nd := h.nd, cR := ?cR, cP := h.cP.block (hlow _ b2 (by show Pb ≠ g.sb; omega)), nl := h.nl.block (hlow _ b3 (by show lm ≠ g.sb; omega)), nv := h.nv.block (hlow _ b4 (by show vm ≠ g.sb; omega)), nc := h.nc.block (hlow _ b5 (by show cm ≠ g.sb; omega)), tab := h.tab, re := ?re }
      case ok =>
        have hst2 := hst.2
        rw [hfr] at hst2
        exact { cn := ⟨by have := hst.1; simp [hfr] at this ⊢; omega, (by
                  show cntFr (r.stmts + 1) 0 (f' :: fs)
                  obtain ⟨c1, c2, c3⟩ := hst2
                  rw [hf']
                  cases hh : f.had with
                  | true => rw [hh] at c1 c2; simp at c1 c2; refine ⟨?_, ?_, cntFr.mono (by omega) (Nat.le_refl _) c3⟩ <;> simp [hh] <;> omega
                  | false => rw [hh] at c1 c2; simp at c1 c2; refine ⟨?_, ?_, cntFr.mono (by omega) (Nat.le_refl _) c3⟩ <;> simp [hh] <;> omega)⟩,
                lv := h.ok.lv, ce := h.ok.ce, ch := h.ok.ch, lo := h.ok.lo, st := h.ok.st, fr := (by have := h.ok.fr; rw [show ({ r with stmts := r.stmts + 1 } : Fl.RS).fr = r.fr from rfl, hfr] at this; simpa using this), cl := h.ok.cl, hl := h.ok.hl, pairs := h.ok.pairs,
                kinds := (by
                  intro k hk
                  have hkk := h.ok.kinds
                  rw [show ({ r with stmts := r.stmts + 1 } : Fl.RS).fr = r.fr from rfl, hfr] at hkk
                  rcases List.mem_cons.1 hk with rfl | hk
                  · rw [hkd.1]; exact hkk f (by simp)
                  · exact hkk k (by simp [hk])),
                head := fun hh => (by rw [show ({ r with fr := f' :: fs, stmts := r.stmts + 1 } : Fl.RS).begun = r.begun from rfl, hb] at hh; cases hh), below := h.ok.below, clv := h.ok.clv, chv := h.ok.chv, lat := h.ok.lat }
      case cR =>
        refine (h.cR.block (hlow R b1 (by show R ≠ g.sb; omega))).congr fun j hj => ?_
        exact (rd_same Pb lm vm cm line { r with stmts := r.stmts + 1 } { r with fr := f' :: fs, stmts := r.stmts + 1 } m { m with gs := g' :: gs, who := whoNew m.who z1 W.heap.size (12 + 3 * fs.length) v' } j rfl rfl rfl rfl hj (fun _ _ _ _ _ => rfl)).symm
      case re =>
        have hpbl := hlw.pb
        have hool := hlw.oo
        rw [hgs] at hpbl hool
        refine { wh := fun b hb' => whoNew_wh (fun b hb => h.re.wh b hb) hz1 hz (fun b hv => ⟨(G.own.lt b hv).1, (G.own.lt b hv).2⟩) b hb', oc := hlw.oc.1, tc := hlw.oc.2, oh := hlw.oh.1, th := hlw.oh.2, pb := ?pb, tb := hpbl.2, fa := ?fa, oo := ?oo, to := hool.2, la := hlw.la }
        case pb => show PartAt 3 _ base w' m.bv r.top (tailOf (g' :: gs)); rw [htl]; exact hpbl.1
        case oo =>
          show w'.ownsRow base _ 1 m.ov (f' :: fs).length (((g' :: gs).map fun g => ptr g.ob).reverse)
          rw [hobs]
          have := hool.1
          rw [show ({ r with stmts := r.stmts + 1 } : Fl.RS).fr = r.fr from rfl, hfr] at this
          exact this
        case fa =>
          show FramesAt _ base w' (3 - (f' :: fs).length) [] (f' :: fs) (g' :: gs)
          refine ⟨?_, ?_⟩
          · refine { ts := by rw [hsb]; exact (hold g.sb (by rw [hf.ts]; omega)).trans hf.ts, to := by rw [hob]; exact (hold g.ob (by rw [hf.to]; omega)).trans hf.to, ta := fun b hb' => whoNew_row hI (by omega) hta G.wh b (by rw [← hact]; exact hb'), co := ?co, cs := ?cs, hv := by rw [hvp, hkd.2.2.1]; exact hf.hv.kept h0 h0h, pa := ?pa, pf := ?pf, pe := ?pe }
            case co => rw [hob, hsb, hkd.2.2.2]; exact hf.co.block (hq g.ob (by rw [hf.to]; omega) (by rw [hf.to]; omega) (by rw [hf.to]; omega))
            case cs =>
              rw [hsb, hkd.1, hkd.2.1, hvp]
              refine (G.cs 6 _ hf.cs (by show (if f.had then 5 else 4) < 6; split <;> omega)).congr fun k hk => ?_
              rw [hg']
              show (if k = (if f.had then 5 else 4) then v' else _) = _
              cases f.had <;> rcases (show k = 0 ∨ k = 1 ∨ k = 2 ∨ k = 3 ∨ k = 4 ∨ k = 5 by omega) with rfl | rfl | rfl | rfl | rfl | rfl <;> rfl
            case pa =>
              rw [hact, hkd.2.2.2]
              have := PartAt.snoc (w' := w') hf.pa ho G.own h0 h0h (hps _ _ hin)
              rw [hf']
              cases hh : f.had <;> rw [hh] at this <;> exact this
            case pf =>
              intro hh
              rw [hkd.2.2.2] at hh
              have := PStmts.kept h0 h0h _ _ _ (hf.pf hh)
              rw [hg', hf', hh]; exact this
            case pe =>
              intro hh
              rw [hkd.2.2.2] at hh
              rw [hg', hf', hh]; exact hf.pe hh
          · rw [hsb]
            exact hft.kept (fun b hb' => by
              rcases hb' with hb' | hb'
              · exact ⟨hold b (by omega), h0h b hb'⟩
              · exact ⟨hold b (by omega), hq b (by omega) (by omega) (by omega)⟩)
end
end Go.Proofs.YthfacjlghcdndaaGreatDoor

namespace Go.Proofs.YthfacjlghcdndaaGreatDoor
open Go.RowKit
section
variable {lo base R Pb lm vm cm : Nat} {w0 w : World} {r : Fl.RS} {line : Int} {m : PMem}
theorem value_any (h : PrAt lo base R Pb lm vm cm w0 w r line m) (b off n cap : Nat) (vs : List (List UInt8)) (hn : n = vs.length) (hcap : n ≤ cap) (hl : ∀ x ∈ vs, x.length ≤ 100000) (hsh : Fl.fitAll [97] vs = true ∨ Fl.fitAll [97, 111, 97] vs = true) (hc : ∀ i, i < vs.length → w.cell? ⟨b, off + i, none⟩ = some (.string ⟨(vs.getD i []).toArray⟩)) :
    Calls Tryz.prog 81 #[.pointer (some ⟨R, 0, none⟩), .slice (some ⟨b, off, none⟩) n cap] w (PvEnds (r.value vs) line w) := by
  rcases hsh with hs | hs
  · have hlen := Fl.fitAll_len _ _ hs
    match vs, hlen with
    | [x], _ =>
      subst hn
      exact value1_any h b off cap x (hl x (by simp)) (by simpa using hcap) (hc 0 (by simp))
  · have hlen := Fl.fitAll_len _ _ hs
    match vs, hlen with
    | [x, o, y], _ =>
      subst hn
      refine value3_any h b off cap x o y (hl x (by simp)) (hl o (by simp)) (hl y (by simp)) ?_ (by simpa using hcap) (hc 0 (by simp)) (hc 1 (by simp)) (hc 2 (by simp))
      simp [Fl.fitAll, Fl.fit1] at hs
      exact hs.2.1
theorem put_tail {W : World} (h : PrAt lo base R Pb lm vm cm w0 W r line m) (hbg : r.begun = true) (z1 kind x ln pb : Nat) (e : Fl.Expr) (hI : ∀ b, m.who b ≠ 5 → b < z1) (hz1 : base ≤ z1 ∧ z1 ≤ W.heap.size) (hln : line = (ln : Int)) (hv : PVal (fun b => z1 ≤ b ∧ b < W.heap.size) W (ptr pb) e) :
    Calls Tryz.prog 82 #[.pointer (some ⟨R, 0, none⟩), .pointer (some ⟨W.heap.size, 0, none⟩)] (W.alloc (.cells #[.int .i64 kind, .int .i64 0, .int .i64 x, .pointer (some ⟨pb, 0, none⟩), .slice none 0 0, .slice none 0 0] 169)) fun e' w' =>
      (16 ≤ r.stmts ∧ e' = .panicked (stopAt 5 line) ∧ Gone lo base R Pb lm vm cm w0 w') ∨ (r.stmts < 16 ∧ e' = .returned (.tuple #[]) ∧ ∃ m', PrAt lo base R Pb lm vm cm w0 w' (r.put ⟨kind, x, ln, e, [], []⟩) line m') := by
  have hba := h.hba
  have hA : PrAt lo base R Pb lm vm cm w0 (W.alloc (.cells #[.int .i64 kind, .int .i64 0, .int .i64 x, .pointer (some ⟨pb, 0, none⟩), .slice none 0 0, .slice none 0 0] 169)) r line m := h.below ((Below.refl _ _).alloc (Nat.le_refl _) _)
  have hsz : (W.alloc (.cells #[.int .i64 kind, .int .i64 0, .int .i64 x, .pointer (some ⟨pb, 0, none⟩), .slice none 0 0, .slice none 0 0] 169)).heap.size = W.heap.size + 1 := by simp
  refine (radd_any hA hbg W.heap.size kind x (ptr pb) (by omega) (Classical.byContradiction fun hne => by have := hI _ hne; omega) (by omega) (Cells.new W [.int .i64 kind, .int .i64 0, .int .i64 x, .pointer (some ⟨pb, 0, none⟩), .slice none 0 0, .slice none 0 0] _)).mono ?_
  rintro e' w' (⟨h16, rfl, hb⟩ | ⟨h16, rfl, W2, hP, hzz, hq, hc, n, xs, v', ho, G⟩)
  · exact .inl ⟨h16, rfl, hb⟩
  · refine .inr ⟨h16, rfl, ?_⟩
    exact hP.putS (r := r) hbg (z1 := z1) (sn := W.heap.size) hI hz1.1 ⟨hz1.2, by omega⟩ hln h.ok.cn hc
      (hv.kept (fun b hb => ⟨hb.1, by have := hb.2; omega⟩) (fun b hb => by
        have h1 := hb.1; have h2 := hb.2
        rw [hq b (by omega) (by omega)]
        exact ((Below.refl W.heap.size W).alloc (Nat.le_refl _) _).block b h2)) ho G
theorem Fl.RS.target_same {r r' : Fl.RS} {n : List UInt8} {x : Nat} (h : r.target n = some (x, r')) : r'.stmts = r.stmts ∧ r'.begun = r.begun := by
  rw [Fl.RS.target_map] at h
  split at h
  · simp only [Option.some.injEq, Prod.mk.injEq] at h; rw [← h.2]; exact ⟨rfl, rfl⟩
  · split at h
    · cases h
    · simp only [Option.some.injEq, Prod.mk.injEq] at h; rw [← h.2]; exact ⟨rfl, rfl⟩
set_option maxRecDepth 100000 in
set_option maxHeartbeats 2000000 in
theorem set_any (h : PrAt lo base R Pb lm vm cm w0 w r line m) (hbg : r.begun = true) (B : Nat) (v : Value) (k n : List UInt8) (vs : List (List UInt8)) (ln : Nat) (hln : line = (ln : Int)) (hB : B ≤ w.heap.size) (hw : WordsAt B w v (n :: vs)) (hfr : ∀ b, v.ownBlock = some b → base ≤ b ∧ m.who b = 5) (hko : (k == Fl.wOut) = false) (hsh : Fl.fitAll [97] vs = true ∨ Fl.fitAll [97, 111, 97] vs = true) :
    Calls Tryz.prog 64 #[.pointer (some ⟨R, 0, none⟩), v] w (MEnds lo base R Pb lm vm cm w0 line (r.stmt ln (k :: n :: vs))) := by
  obtain ⟨b, off, cap, rfl, hcap, hcm, hbB, hxs, hcell⟩ := hw.one (by simp)
  have hn : n.length ≤ 100000 := hxs n (by simp)
  have hvl : 1 ≤ vs.length := by rcases hsh with hs | hs <;> have := Fl.fitAll_len _ _ hs <;> simp at this <;> omega
  have hc0 : w.cell? ⟨b, off, none⟩ = some (.string ⟨n.toArray⟩) := hcell 0 (by simp)
  obtain ⟨hbb, hb5⟩ := hfr b rfl
  obtain ⟨res, hres⟩ : ∃ res, res = r.stmt ln (k :: n :: vs) := ⟨_, rfl⟩
  rw [← hres]
  have HRES : Hid (res = match r.value vs with
    | none => (4, r)
    | some e => if 0 ≤ Fl.place r.chans n then (4, r) else match r.target n with
        | none => (5, r)
        | some (x, r') => if 16 ≤ r.stmts then (5, r) else (0, r'.put ⟨3, x, ln, e, [], []⟩)) := by
    show _ = _
    rw [hres]
    have hko' : ¬ (k == Fl.wOut) = true := by rw [hko]; decide
    match vs, hvl with
    | a :: vs', _ =>
      simp only [Fl.RS.stmt]
      cases r.value (a :: vs') with
      | none => rfl
      | some e =>
        simp only [hko', if_false]
        first | done | rfl | (split <;> first | rfl | (cases r.target n <;> rfl))
  have c42 : w.cell? ⟨R, 42, none⟩ = some (.map (some cm)) := h.cR.c 42 (by omega)
  obtain ⟨mx, tb, hlk, htb, -⟩ := h.drew.nc.look2 n hn
  have HTB : Hid (tb = decide (0 ≤ Fl.place r.chans n)) := htb
  have HH : Hid (PrAt lo base R Pb lm vm cm w0 w r line m) := h
  have HVL : Hid (∀ W, PrAt lo base R Pb lm vm cm w0 W r line m → Below w.heap.size w W → Calls Tryz.prog 81 #[.pointer (some ⟨R, 0, none⟩), .slice (some ⟨b, off + 1, none⟩) vs.length (cap - 1)] W (PvEnds (r.value vs) line W)) := fun W hW hbW =>
    value_any hW b (off + 1) vs.length (cap - 1) vs rfl (by simp at hcap; omega) (fun x hx => hxs x (by simp [hx])) hsh (fun i hi => by
      rw [hbW.cell (p := ⟨b, off + 1 + i, none⟩) (by show b < _; omega)]
      have := hcell (i + 1) (by simp; omega)
      rw [show off + 1 + i = off + (i + 1) by omega, this]; rfl)
  have hbz : b < w.heap.size := by omega
  simp only [List.length_cons] at hcap ⊢
  have hcI : (2 : Int) ≤ (cap : Int) := by omega
  have hlI : (1 : Int) ≤ (vs.length : Int) := by omega
  have hlJ : (vs.length : Int) + 1 ≤ (cap : Int) := by omega
  have hcne : cap ≠ 1 := by omega
  unfold maxLen at hcm
  have HLN : Hid (line = (ln : Int)) := hln
  clear h hw hxs hcell hres htb hfr hsh hko hln
  go_enter Tryz.func64, Tryz.ntmps64
  go_wp2_with fail
  refine wp_region_still_lit (by kernel_rfl) (by kernel_rfl) ?_
  iterate 7 still_step
  refine still_value rfl (.tuple #[.int .i64 mx, .bool tb]) (exec_lookup _ _ 92 rfl (.map (some cm)) (.string ⟨n.toArray⟩) _ rfl rfl hlk) ?_
  iterate 5 still_step
  refine wpStill_nil ?_
  change Exit.then _ _ _ _ w.drew
  have HW : Hid (PrAt lo base R Pb lm vm cm w0 w.drew r line m) := HH.out.drew
  have HBW : Hid (Below w.heap.size w w.drew) := (Below.refl _ _).drew
  have d0 : w.drew.cell? ⟨b, off, none⟩ = some (.string ⟨n.toArray⟩) := hc0
  have hdz : w.drew.heap.size = w.heap.size := rfl
  have HDZ : Hid (w.drew.heap.size = w.heap.size) := hdz
  clear hlk hc0 c42 hdz
  generalize w.drew = W at *
  have hba := HW.out.hba
  have hlo := HW.out.hlo
  have hzz := HBW.out.size
  have HRB : Hid (Calls Tryz.prog 46 #[.pointer (some ⟨R, 0, none⟩), .bool false, .int .i64 4] W fun e w' => e = .panicked (stopAt 4 line) ∧ Below W.heap.size W w') := rneed_bad R 4 line W (HW.out.cR.c 1 (by omega))
  have HOK : Hid (Calls Tryz.prog 46 #[.pointer (some ⟨R, 0, none⟩), .bool true, .int .i64 4] W fun e w' => e = .returned (.tuple #[]) ∧ w' = W) := rneed_ok R 4 W
  cases tb with
  | true =>
    have h0 : 0 ≤ Fl.place r.chans n := by have := HTB.out; simpa using this
    have HR : Hid (res = (4, r)) := by
      show _ = _; rw [HRES.out]
      cases r.value vs with
      | none => rfl
      | some e => simp only [h0, if_true]
    go_wp2_with fail
    refine HRB.out.mono ?_
    rintro e w1 ⟨rfl, hb1⟩
    exact ⟨rfl, MEnds.bad HR.out (by decide) rfl (HW.out.gone hb1)⟩
  | false =>
    have h0 : ¬ 0 ≤ Fl.place r.chans n := by have := HTB.out; simpa using this
    go_wp2_with fail
    refine HOK.out.mono ?_
    rintro e w1 ⟨rfl, hw1⟩
    rw [hw1]
    clear hw1 w1 HOK HRB
    have HVW := HVL.out W HW.out HBW.out
    have HVH : Hid (Calls Tryz.prog 81 #[.pointer (some ⟨R, 0, none⟩), .slice (some ⟨b, off + 1, none⟩) vs.length (cap - 1)] W (PvEnds (r.value vs) line W)) := HVW
    clear HVW HVL
    go_wp2_with fail
    refine HVH.out.mono ?_
    rintro e W2 ⟨hb2, hok, hbad⟩
    have HP2 : Hid (PrAt lo base R Pb lm vm cm w0 W2 r line m) := HW.out.below hb2
    have HB2 : Hid (Below W.heap.size W W2) := hb2
    have hz2 := hb2.size
    have e0 : W2.cell? ⟨b, off, none⟩ = some (.string ⟨n.toArray⟩) := (hb2.cell (p := ⟨b, off, none⟩) (by show b < _; omega)).trans d0
    clear HVH hb2 d0
    cases hval : r.value vs with
    | none =>
      obtain rfl := hbad hval
      have HR : res = (4, r) := by rw [HRES.out, hval]
      exact ⟨rfl, MEnds.bad HR (by decide) rfl (HW.out.gone HB2.out)⟩
    | some ex =>
      obtain ⟨pb, rfl, hpv⟩ := hok ex hval
      have HPV : Hid (PVal (NewB W W2) W2 (ptr pb) ex) := hpv
      have HR1 : Hid (res = match r.target n with
        | none => (5, r)
        | some (x, r') => if 16 ≤ r.stmts then (5, r) else (0, r'.put ⟨3, x, ln, ex, [], []⟩)) := by show _ = _; rw [HRES.out, hval]; exact if_neg (by have := h0; omega)
      have HVR : Hid (Calls Tryz.prog 83 #[.pointer (some ⟨R, 0, none⟩), .string ⟨n.toArray⟩] W2 (VrEnds lo base R Pb lm vm cm w0 r line m n W2)) := variable_any HP2.out hbg n hn
      clear hpv hok hbad HRES hval
      go_wp2_with fail
      refine HVR.out.mono ?_
      clear HVR e0
      rintro e W3 (⟨x, r', htg, rfl, hP3, hz3, hq3⟩ | ⟨htg, rfl, hb3⟩)
      · have HR2 : Hid (res = if 16 ≤ r.stmts then (5, r) else (0, r'.put ⟨3, x, ln, ex, [], []⟩)) := by show _ = _; rw [HR1.out, htg]
        obtain ⟨hs1, hs2⟩ := Fl.RS.target_same htg
        have HTL : Hid (Calls Tryz.prog 82 #[.pointer (some ⟨R, 0, none⟩), .pointer (some ⟨W3.heap.size, 0, none⟩)] (W3.alloc (.cells #[.int .i64 3, .int .i64 0, .int .i64 x, .pointer (some ⟨pb, 0, none⟩), .slice none 0 0, .slice none 0 0] 169)) fun e' w' =>
            (16 ≤ r'.stmts ∧ e' = .panicked (stopAt 5 line) ∧ Gone lo base R Pb lm vm cm w0 w') ∨ (r'.stmts < 16 ∧ e' = .returned (.tuple #[]) ∧ ∃ m', PrAt lo base R Pb lm vm cm w0 w' (r'.put ⟨3, x, ln, ex, [], []⟩) line m')) :=
          put_tail hP3 (hs2.trans hbg) W.heap.size 3 x ln pb ex (fun b hb => (HW.out.re.wh b hb).2) ⟨by omega, by omega⟩ HLN.out
            (HPV.out.kept (fun b hb => ⟨hb.1, by have := hb.2; omega⟩) (fun b hb => hq3 b hb.2 (by have := hb.1; omega) (by have := hb.1; omega)))
        have HS1 : Hid (r'.stmts = r.stmts) := hs1
        clear hP3 hq3 htg hs1 hs2 HR1 HPV
        go_wp2_with fail
        refine HTL.out.mono ?_
        rintro e W4 (⟨h16, rfl, hb4⟩ | ⟨h16, rfl, m', hP4⟩)
        · rw [HS1.out] at h16
          have HR : res = (5, r) := by rw [HR2.out, if_pos h16]
          exact ⟨rfl, MEnds.bad HR (by decide) rfl hb4⟩
        · rw [HS1.out] at h16
          have HR : res = (0, r'.put ⟨3, x, ln, ex, [], []⟩) := by rw [HR2.out, if_neg (by omega)]
          have HF : Hid (MEnds lo base R Pb lm vm cm w0 line res (.returned (.tuple #[])) W4) := MEnds.good HR rfl hP4
          clear HR hP4 HTL
          go_wp2
          go_end0
          exact HF.out
      · have HR : res = (5, r) := by rw [HR1.out, htg]
        exact ⟨rfl, MEnds.bad HR (by decide) rfl hb3⟩
end
end Go.Proofs.YthfacjlghcdndaaGreatDoor
