/- Texts Prk Prl CeLate Prm. -/
import Derived.Test.YthfacjlghcdndaaGreatDoorM10
set_option linter.unusedSimpArgs false
set_option linter.unusedVariables false
namespace Go.Proofs.YthfacjlghcdndaaGreatDoor
open Go.RowKit
section
variable {lo base R Pb lm vm cm : Nat} {w0 w w' : World} {r : Fl.RS} {line : Int} {m : PMem}
structure ButAt (T base : Nat) (w' : World) (r : Fl.RS) (m : PMem) (who' : Nat → Nat) : Prop where
  oc : T ≠ 3 → w'.ownsRow base 3 1 m.clv r.cellLv.length (intsV r.cellLv) ∧ ∀ b, m.clv.ownBlock = some b → who' b = 3
  oh : T ≠ 4 → w'.ownsRow base 3 1 m.chv r.chanLv.length (intsV r.chanLv) ∧ ∀ b, m.chv.ownBlock = some b → who' b = 4
  pb : T ≠ 1 → PartAt 3 (fun b => who' b = 0) base w' m.bv r.top (tailOf m.gs) ∧ ∀ b, m.bv.ownBlock = some b → who' b = 1
  fa : (T < 10 ∨ 10 + 3 * r.fr.length ≤ T) → FramesAt who' base w' (3 - r.fr.length) [] r.fr m.gs
  oo : T ≠ 2 → w'.ownsRow base 178 1 m.ov r.fr.length ((m.gs.map fun g => ptr g.ob).reverse) ∧ ∀ b, m.ov.ownBlock = some b → who' b = 2
  la : r.begun = true → ∃ Lb, m.pl = ptr Lb ∧ who' Lb = 0 ∧ LatAt w' Lb r.levels.length r.tab
theorem RestAt.but (h : RestAt base w r m) (T : Nat) (hT : T ≠ 0 ∧ T ≠ 5) (who' : Nat → Nat) (q : ∀ b, m.who b ≠ 5 → m.who b ≠ T → who' b = m.who b ∧ w'.heap[b]? = w.heap[b]?) : ButAt T base w' r m who' := by
  have q0 : ∀ b, m.who b = 0 → who' b = 0 ∧ w'.heap[b]? = w.heap[b]? := fun b hb => by
    have := q b (by rw [hb]; decide) (by rw [hb]; exact Ne.symm hT.1); rw [hb] at this; exact this
  refine { oc := fun hne => ?_, oh := fun hne => ?_, pb := fun hne => ?_, fa := fun hne => ?_, oo := fun hne => ?_, la := fun hg => ?_ }
  · have q3 : ∀ b, m.clv.ownBlock = some b → who' b = 3 ∧ w'.heap[b]? = w.heap[b]? := fun b hb => by
      have := q b (by rw [h.tc b hb]; decide) (by rw [h.tc b hb]; exact Ne.symm hne); rw [h.tc b hb] at this; exact this
    exact ⟨own_same h.oc (fun b hv => (q3 b hv).2), fun b hb => (q3 b hb).1⟩
  · have q3 : ∀ b, m.chv.ownBlock = some b → who' b = 4 ∧ w'.heap[b]? = w.heap[b]? := fun b hb => by
      have := q b (by rw [h.th b hb]; decide) (by rw [h.th b hb]; exact Ne.symm hne); rw [h.th b hb] at this; exact this
    exact ⟨own_same h.oh (fun b hv => (q3 b hv).2), fun b hb => (q3 b hb).1⟩
  · have q3 : ∀ b, m.bv.ownBlock = some b → who' b = 1 ∧ w'.heap[b]? = w.heap[b]? := fun b hb => by
      have := q b (by rw [h.tb b hb]; decide) (by rw [h.tb b hb]; exact Ne.symm hne); rw [h.tb b hb] at this; exact this
    exact ⟨h.pb.kept (fun b hb => (q0 b hb).1) (fun b hb => (q0 b hb).2) (fun b hv => (q3 b hv).2), fun b hb => (q3 b hb).1⟩
  · exact h.fa.kept (fun b hb => by
      rcases hb with hb | hb
      · have := q0 b hb; rw [hb]; exact this
      · exact q b (by omega) (by omega))
  · have q3 : ∀ b, m.ov.ownBlock = some b → who' b = 2 ∧ w'.heap[b]? = w.heap[b]? := fun b hb => by
      have := q b (by rw [h.to b hb]; decide) (by rw [h.to b hb]; exact Ne.symm hne); rw [h.to b hb] at this; exact this
    exact ⟨own_same h.oo (fun b hv => (q3 b hv).2), fun b hb => (q3 b hb).1⟩
  · obtain ⟨Lb, l1, l2, l3⟩ := h.la hg
    exact ⟨Lb, l1, (q0 Lb l2).1, l3.block (q0 Lb l2).2⟩
theorem retag {who : Nat → Nat} {T : Nat} {v v' : Value} {z z' : Nat} {base : Nat} (hwh : ∀ b, who b ≠ 5 → base ≤ b ∧ b < z) (hv : ∀ b, v.ownBlock = some b → who b = T) (hT : T ≠ 5) (hw : v'.ownBlock = v.ownBlock ∨ ∃ g, v'.ownBlock = some g ∧ z ≤ g) (hlt : ∀ b, v'.ownBlock = some b → base ≤ b ∧ b < z') (hz : z ≤ z') :
    (∀ b, (if v'.ownBlock = some b then T else who b) ≠ 5 → base ≤ b ∧ b < z') ∧ (∀ b, who b ≠ 5 → who b ≠ T → (if v'.ownBlock = some b then T else who b) = who b) := by
  refine ⟨fun b hb => ?_, fun b h5 hbT => ?_⟩
  · by_cases hv' : v'.ownBlock = some b
    · exact hlt b hv'
    · rw [if_neg hv'] at hb; have := hwh b hb; omega
  · rw [if_neg]
    intro hv'
    rcases hw with hw | ⟨g, hg, hzg⟩
    · exact hbT (hv b (hw.symm.trans hv'))
    · rw [hg] at hv'; simp only [Option.some.injEq] at hv'
      have := hwh b h5; omega
theorem PrAt.cell (h : PrAt lo base R Pb lm vm cm w0 w r line m) (hb : r.begun = false) (x : List UInt8) (lv : Nat) (hlv : lv < r.levels.length) (hce : r.cells.length < 6) {v' : Value}
    (hz : w.heap.size ≤ w'.heap.size) (hq : ∀ b, b < w.heap.size → b ≠ vm → b ≠ Pb → m.clv.ownBlock ≠ some b → w'.heap[b]? = w.heap[b]?) (hbel : Below lo w0 w') (hcP : Cells w' Pb 5 (rw_ [m.pl, v', m.chv, .int .i64 r.locals.length, m.bv]))
    (hnv : NameMap w' vm ((r.cells ++ [x]) ++ r.locals)) (hown : w'.ownsRow base 3 1 v' (r.cellLv.length + 1) (intsV (r.cellLv ++ [lv]))) (hw : v'.ownBlock = m.clv.ownBlock ∨ ∃ g, v'.ownBlock = some g ∧ w.heap.size ≤ g) :
    ∃ m', PrAt lo base R Pb lm vm cm w0 w' { r with cells := r.cells ++ [x], cellLv := r.cellLv ++ [lv] } line m' := by
  obtain ⟨b1, b2, b3, b4, b5, b6⟩ := h.hba
  obtain ⟨n1, n2, n3, n4, n5, n6, n7, n8, n9, n10⟩ := h.nd
  obtain ⟨hh1, hh2, hh3, hh4⟩ := h.ok.head hb
  have hlow : ∀ b, b < base → m.clv.ownBlock ≠ some b := fun b hlt hv => by have := (h.re.oc.lt b hv).1; omega
  have ht := retag (z' := w'.heap.size) h.re.wh h.re.tc (by decide) hw (fun b hv => ⟨(hown.lt b hv).1, (hown.lt b hv).2⟩) hz
  have hbut := h.re.but (w' := w') 3 (by decide) (fun b => if v'.ownBlock = some b then 3 else m.who b) (fun b h5 h3 => ⟨ht.2 b h5 h3, hq b (h.re.wh b h5).2 (by have := h.re.wh b h5; omega) (by have := h.re.wh b h5; omega) (fun hv => h3 (h.re.tc b hv))⟩)
  refine ⟨{ m with clv := v', who := fun b => if v'.ownBlock = some b then 3 else m.who b }, ?_⟩
  refine { ok := ?ok, bel := hbel, fx := fun b f1 f2 f3 f4 f5 f6 => (hq b (by omega) f5 f3 (hlow b f1)).trans (h.fx b f1 f2 f3 f4 f5 f6), hlo := h.hlo, hba := ⟨b1, b2, b3, b4, b5, by omega⟩, nd := h.nd, cR := ?cR, cP := hcP, nl := h.nl.block (hq _ (by omega) n8 (Ne.symm n5) (hlow _ b3)), nv := hnv, nc := h.nc.block (hq _ (by omega) (Ne.symm n10) (Ne.symm n7) (hlow _ b5)), tab := h.tab, re := ?re }
  case ok =>
    exact { cn := h.ok.cn, lv := h.ok.lv, ce := by simp; omega, ch := h.ok.ch, lo := h.ok.lo, st := h.ok.st, fr := h.ok.fr, cl := by simp [h.ok.cl], hl := h.ok.hl, pairs := h.ok.pairs, kinds := h.ok.kinds, head := h.ok.head, below := h.ok.below,
            clv := fun y hy => by
              simp only [List.mem_append, List.mem_singleton] at hy
              rcases hy with hy | rfl
              · exact h.ok.clv y hy
              · exact hlv
            chv := h.ok.chv, lat := fun hh => by rw [show ({ r with cells := r.cells ++ [x], cellLv := r.cellLv ++ [lv] } : Fl.RS).begun = r.begun from rfl, hb] at hh; cases hh }
  case cR =>
    refine (h.cR.block (hq _ (by omega) n3 n1 (hlow _ b1))).congr fun k hk => ?_
    exact (rd_same Pb lm vm cm line r { r with cells := r.cells ++ [x], cellLv := r.cellLv ++ [lv] } m { m with clv := v', who := fun b => if v'.ownBlock = some b then 3 else m.who b } k rfl rfl rfl rfl hk (fun a b ha hb he => rfl)).symm
  case re =>
    exact { wh := ht.1, oc := by simpa using hown, tc := fun b hv => if_pos hv, oh := (hbut.oh (by decide)).1, th := (hbut.oh (by decide)).2, pb := (hbut.pb (by decide)).1, tb := (hbut.pb (by decide)).2, fa := hbut.fa (.inl (by decide)), oo := (hbut.oo (by decide)).1, to := (hbut.oo (by decide)).2, la := fun hh => by rw [show ({ r with cells := r.cells ++ [x], cellLv := r.cellLv ++ [lv] } : Fl.RS).begun = r.begun from rfl, hb] at hh; cases hh }
theorem PrAt.channel (h : PrAt lo base R Pb lm vm cm w0 w r line m) (hb : r.begun = false) (x : List UInt8) (lv : Nat) (hlv : lv < r.levels.length) (hce : r.chans.length < 3) {v' : Value}
    (hz : w.heap.size ≤ w'.heap.size) (hq : ∀ b, b < w.heap.size → b ≠ cm → b ≠ Pb → m.chv.ownBlock ≠ some b → w'.heap[b]? = w.heap[b]?) (hbel : Below lo w0 w') (hcP : Cells w' Pb 5 (rw_ [m.pl, m.clv, v', .int .i64 r.locals.length, m.bv]))
    (hnc : NameMap w' cm (r.chans ++ [x])) (hown : w'.ownsRow base 3 1 v' (r.chanLv.length + 1) (intsV (r.chanLv ++ [lv]))) (hw : v'.ownBlock = m.chv.ownBlock ∨ ∃ g, v'.ownBlock = some g ∧ w.heap.size ≤ g) :
    ∃ m', PrAt lo base R Pb lm vm cm w0 w' { r with chans := r.chans ++ [x], chanLv := r.chanLv ++ [lv] } line m' := by
  obtain ⟨b1, b2, b3, b4, b5, b6⟩ := h.hba
  obtain ⟨n1, n2, n3, n4, n5, n6, n7, n8, n9, n10⟩ := h.nd
  have hlow : ∀ b, b < base → m.chv.ownBlock ≠ some b := fun b hlt hv => by have := (h.re.oh.lt b hv).1; omega
  have ht := retag (z' := w'.heap.size) h.re.wh h.re.th (by decide) hw (fun b hv => ⟨(hown.lt b hv).1, (hown.lt b hv).2⟩) hz
  have hbut := h.re.but (w' := w') 4 (by decide) (fun b => if v'.ownBlock = some b then 4 else m.who b) (fun b h5 h3 => ⟨ht.2 b h5 h3, hq b (h.re.wh b h5).2 (by have := h.re.wh b h5; omega) (by have := h.re.wh b h5; omega) (fun hv => h3 (h.re.th b hv))⟩)
  refine ⟨{ m with chv := v', who := fun b => if v'.ownBlock = some b then 4 else m.who b }, ?_⟩
  refine { ok := ?ok, bel := hbel, fx := fun b f1 f2 f3 f4 f5 f6 => (hq b (by omega) f6 f3 (hlow b f1)).trans (h.fx b f1 f2 f3 f4 f5 f6), hlo := h.hlo, hba := ⟨b1, b2, b3, b4, b5, by omega⟩, nd := h.nd, cR := ?cR, cP := hcP, nl := h.nl.block (hq _ (by omega) n9 (Ne.symm n5) (hlow _ b3)), nv := h.nv.block (hq _ (by omega) n10 (Ne.symm n6) (hlow _ b4)), nc := hnc, tab := h.tab, re := ?re }
  case ok =>
    exact { cn := h.ok.cn, lv := h.ok.lv, ce := h.ok.ce, ch := by simp; omega, lo := h.ok.lo, st := h.ok.st, fr := h.ok.fr, cl := h.ok.cl, hl := by simp [h.ok.hl], pairs := h.ok.pairs, kinds := h.ok.kinds, head := h.ok.head, below := h.ok.below,
            chv := fun y hy => by
              simp only [List.mem_append, List.mem_singleton] at hy
              rcases hy with hy | rfl
              · exact h.ok.chv y hy
              · exact hlv
            clv := h.ok.clv, lat := fun hh => by rw [show ({ r with chans := r.chans ++ [x], chanLv := r.chanLv ++ [lv] } : Fl.RS).begun = r.begun from rfl, hb] at hh; cases hh }
  case cR =>
    refine (h.cR.block (hq _ (by omega) n4 n1 (hlow _ b1))).congr fun k hk => ?_
    exact (rd_same Pb lm vm cm line r { r with chans := r.chans ++ [x], chanLv := r.chanLv ++ [lv] } m { m with chv := v', who := fun b => if v'.ownBlock = some b then 4 else m.who b } k rfl rfl rfl rfl hk (fun a b ha hb he => rfl)).symm
  case re =>
    exact { wh := ht.1, oc := (hbut.oc (by decide)).1, tc := (hbut.oc (by decide)).2, oh := by simpa using hown, th := fun b hv => if_pos hv, pb := (hbut.pb (by decide)).1, tb := (hbut.pb (by decide)).2, fa := hbut.fa (.inl (by decide)), oo := (hbut.oo (by decide)).1, to := (hbut.oo (by decide)).2, la := fun hh => by rw [show ({ r with chans := r.chans ++ [x], chanLv := r.chanLv ++ [lv] } : Fl.RS).begun = r.begun from rfl, hb] at hh; cases hh }
end
end Go.Proofs.YthfacjlghcdndaaGreatDoor

namespace Go.Proofs.YthfacjlghcdndaaGreatDoor
open Go.RowKit
section
variable {lo base R Pb lm vm cm : Nat} {w0 w : World} {r : Fl.RS} {line : Int} {m : PMem}
def NpEnds (r : Fl.RS) (n l : List UInt8) (line : Int) (w : World) (e : Ending) (w' : World) : Prop :=
  Below w.heap.size w w' ∧ ((0 ≤ Fl.place r.levels l ∧ Fl.place r.cells n < 0 ∧ Fl.place r.chans n < 0) → e = .returned (.int .i64 (Fl.place r.levels l))) ∧ ((Fl.place r.levels l < 0 ∨ 0 ≤ Fl.place r.cells n ∨ 0 ≤ Fl.place r.chans n) → e = .panicked (stopAt 4 line))
set_option maxRecDepth 100000 in
set_option maxHeartbeats 1000000 in
theorem newPlace_any (h : PrAt lo base R Pb lm vm cm w0 w r line m) (hbg : r.begun = false) (b off cap : Nat) (n l : List UInt8) (hn : n.length ≤ 100000) (hl : l.length ≤ 100000) (hcap : 2 ≤ cap) (hc0 : w.cell? ⟨b, off, none⟩ = some (.string ⟨n.toArray⟩)) (hc1 : w.cell? ⟨b, off + 1, none⟩ = some (.string ⟨l.toArray⟩)) :
    Calls Tryz.prog 79 #[.pointer (some ⟨R, 0, none⟩), .slice (some ⟨b, off, none⟩) 2 cap] w (NpEnds r n l line w) := by
  have c41 : w.cell? ⟨R, 41, none⟩ = some (.map (some vm)) := h.cR.c 41 (by omega)
  have c42 : w.cell? ⟨R, 42, none⟩ = some (.map (some cm)) := h.cR.c 42 (by omega)
  obtain ⟨mx, tb, hlk, htb, -⟩ := h.drew.nv.look2 n hn
  obtain ⟨mx2, tb2, hlk2, htb2, -⟩ := h.drew.drew.nc.look2 n hn
  rw [(h.ok.head hbg).1, List.append_nil] at htb
  have HH : Hid (PrAt lo base R Pb lm vm cm w0 w r line m) := h
  have HTB : Hid (tb = decide (0 ≤ Fl.place r.cells n)) := htb
  have HTB2 : Hid (tb2 = decide (0 ≤ Fl.place r.chans n)) := htb2
  clear h htb htb2
  go_enter Tryz.func79, Tryz.ntmps79
  go_wp2_with fail
  refine wp_region_still_lit (by kernel_rfl) (by kernel_rfl) ?_
  iterate 7 still_step
  refine still_value rfl (.tuple #[.int .i64 mx, .bool tb]) (exec_lookup _ _ 92 rfl (.map (some vm)) (.string ⟨n.toArray⟩) _ rfl rfl hlk) ?_
  iterate 5 still_step
  refine wpStill_nil ?_
  change Exit.then _ _ _ _ w.drew
  have hd0 : w.drew.cell? ⟨b, off, none⟩ = some (.string ⟨n.toArray⟩) := hc0
  have hd1 : w.drew.cell? ⟨b, off + 1, none⟩ = some (.string ⟨l.toArray⟩) := hc1
  have d42 : w.drew.cell? ⟨R, 42, none⟩ = some (.map (some cm)) := c42
  have HW : Hid (PrAt lo base R Pb lm vm cm w0 w.drew r line m) := HH.out.drew
  have HB1 : Hid (Below w.heap.size w w.drew) := (Below.refl _ _).drew
  clear hlk hc0 hc1 c41 c42 HH
  generalize w.drew = W at *
  go_wp2_with fail
  refine wp_region_still_lit (by kernel_rfl) (by kernel_rfl) ?_
  iterate 7 still_step
  refine still_value rfl (.tuple #[.int .i64 mx2, .bool tb2]) (exec_lookup _ _ 92 rfl (.map (some cm)) (.string ⟨n.toArray⟩) _ rfl rfl hlk2) ?_
  iterate 5 still_step
  refine wpStill_nil ?_
  change Exit.then _ _ _ _ W.drew
  have e1 : W.drew.cell? ⟨b, off + 1, none⟩ = some (.string ⟨l.toArray⟩) := hd1
  have HW2 : Hid (PrAt lo base R Pb lm vm cm w0 W.drew r line m) := HW.out.drew
  have HB2 : Hid (Below w.heap.size w W.drew) := HB1.out.drew
  clear hlk2 hd0 hd1 d42 HW HB1
  generalize W.drew = W2 at *
  have hz2 := HB2.out.size
  have HLN : Hid (Calls Tryz.prog 78 #[.pointer (some ⟨R, 0, none⟩), .string ⟨l.toArray⟩] W2 (LvEnds r.levels l line W2)) := levelNamed_any R lm line r.levels l W2 hl HW2.out.nl (HW2.out.cR.c 40 (by omega)) (HW2.out.cR.c 1 (by omega))
  have HRB : Hid (Calls Tryz.prog 46 #[.pointer (some ⟨R, 0, none⟩), .bool false, .int .i64 4] W2 fun e w' => e = .panicked (stopAt 4 line) ∧ Below W2.heap.size W2 w') := rneed_bad R 4 line W2 (HW2.out.cR.c 1 (by omega))
  have HOK : Hid (Calls Tryz.prog 46 #[.pointer (some ⟨R, 0, none⟩), .bool true, .int .i64 4] W2 fun e w' => e = .returned (.tuple #[]) ∧ w' = W2) := rneed_ok R 4 W2
  cases tb with
  | true =>
    have h1 : 0 ≤ Fl.place r.cells n := by have := HTB.out; simpa using this
    cases tb2
    all_goals
      go_wp2_with fail
      refine HRB.out.mono ?_
      rintro e w' ⟨rfl, hb'⟩
      exact ⟨rfl, HB2.out.trans (hb'.mono (by omega)), fun h => by omega, fun _ => rfl⟩
  | false =>
    have h1 : ¬ 0 ≤ Fl.place r.cells n := by have := HTB.out; simpa using this
    cases tb2 with
    | true =>
      have h2 : 0 ≤ Fl.place r.chans n := by have := HTB2.out; simpa using this
      go_wp2_with fail
      refine HRB.out.mono ?_
      rintro e w' ⟨rfl, hb'⟩
      exact ⟨rfl, HB2.out.trans (hb'.mono (by omega)), fun h => by omega, fun _ => rfl⟩
    | false =>
      have h2 : ¬ 0 ≤ Fl.place r.chans n := by have := HTB2.out; simpa using this
      go_wp2_with fail
      refine HOK.out.mono ?_
      rintro e w' ⟨rfl, hw'⟩
      rw [hw']
      clear hw' HOK HRB
      go_wp2_with fail
      refine HLN.out.mono ?_
      rintro e W3 ⟨hb3, hok, hbad⟩
      have HB3 : Hid (Below w.heap.size w W3) := HB2.out.trans (hb3.mono (by omega))
      clear hb3
      obtain ⟨j, hj⟩ : ∃ j, j = Fl.place r.levels l := ⟨_, rfl⟩
      rw [← hj] at hok hbad
      have HJ : Hid (j = Fl.place r.levels l) := hj
      clear hj
      by_cases hj0 : 0 ≤ j
      · obtain rfl := hok hj0
        clear hok hbad
        go_wp2
        go_ret
        exact ⟨HB3.out, fun _ => by rw [← HJ.out]; rfl, fun h => by rw [← HJ.out] at h; omega⟩
      · obtain rfl := hbad (by omega)
        exact ⟨rfl, HB3.out, fun h => by rw [← HJ.out] at h; omega, fun _ => rfl⟩
end
end Go.Proofs.YthfacjlghcdndaaGreatDoor

namespace Go.Proofs.YthfacjlghcdndaaGreatDoor
open Go.RowKit

def waitsFor (ops : Array Oper) (k i : Nat) : Bool := match ops[k]? with
  | some o => o.after.any fun e => Region.binds .any e && decide (e.on = i)
  | none => true
def wpAnyL (P : Program) (ops : Array Oper) (Q : Exit → Act → World → Prop) (S : World → Prop) (late : List Nat) : Nat → Array Bool → Act → World → Prop
  | 0, listed, a, w => Region.ready .any ops listed = [] ∧ Q .normal a w
  | fuel + 1, listed, a, w =>
    (Region.ready .any ops listed = [] → Q .normal a w) ∧
    ∀ i ∈ Region.ready .any ops listed, wpOp P ops Q i (fun a' w' => (i ∉ late → S w') ∧ wpAnyL P ops Q S late fuel (listed.setIfInBounds i true) a' w') a w
section
variable {P : Program} {ops : Array Oper} {Q : Exit → Act → World → Prop} {S : World → Prop} {late : List Nat}
theorem wpAny_of_late : ∀ (fuel : Nat) (listed : Array Bool) (a : Act) (w : World), wpAnyL P ops Q S late fuel listed a w → wpAny P .any ops Q fuel listed a w
  | 0, _, _, _, h => h
  | fuel + 1, _, _, _, h => ⟨h.1, fun i hi => wpOp_mono (fun a' w' h' => wpAny_of_late fuel _ a' w' h'.2) (h.2 i hi)⟩
theorem wpAnyL_first {i : Nat} {oi : Oper} {v : Value} (hi : ops[i]? = some oi) (hsel : ∀ (j : Nat) (o : Oper) cs b, ops[j]? = some o → o.op ≠ .select cs b)
    (hQ : ∀ c a w, Q (.panic c) (a.put oi.dst v) w → Q (.panic c) a w) (hlate : ∀ k ∈ late, waitsFor ops k i = true) :
    ∀ (fuel : Nat) (listed : Array Bool) (a : Act) (w : World),
      (∀ j oj, ops[j]? = some oj → j ≠ i → listed.getD j true = false → (∀ e ∈ oj.after, Region.binds .any e = true → e.on ≠ i) → oi.apart ops oj = true) →
      i ∈ Region.ready .any ops listed → YieldsIf P ops S oi v a → S w →
      wpAnyL P ops Q S late fuel (listed.setIfInBounds i true) (a.put oi.dst v) w → wpAnyL P ops Q S late (fuel + 1) listed a w := by
  intro fuel
  induction fuel with
  | zero =>
    intro listed a w _ hr hy hS H
    refine ⟨fun h => (by rw [h] at hr; cases hr), fun j hj => ?_⟩
    by_cases hji : j = i
    · subst hji; exact hy.wpOp hi hS ⟨fun _ => hS, H⟩
    · have := ready_mono hj hji
      rw [H.1] at this
      cases this
  | succ fuel ih =>
    intro listed a w hfree hr hy hS H
    refine ⟨fun h => (by rw [h] at hr; cases hr), fun j hj => ?_⟩
    by_cases hji : j = i
    · subst hji; exact hy.wpOp hi hS ⟨fun _ => hS, H⟩
    · have h1 := H.2 j (ready_mono hj hji)
      obtain ⟨hjun, oj, hoj, hall⟩ := mem_ready.1 hj
      have hnot : ∀ e ∈ oj.after, Region.binds .any e = true → e.on ≠ i := fun e he hb heq => by
        have h1 := hall e he hb
        have h0 := (mem_ready.1 hr).1
        rw [heq] at h1
        rcases Nat.lt_or_ge i listed.size with h' | h'
        · simp [h'] at h0 h1; rw [h0] at h1; cases h1
        · simp [Array.getElem?_eq_none h'] at h1
      have hnl : j ∉ late := fun hl => by
        have hw := hlate j hl
        simp only [waitsFor, hoj, Array.any_eq_true'] at hw
        obtain ⟨e, he, hb⟩ := hw
        simp only [Bool.and_eq_true, decide_eq_true_eq] at hb
        exact hnot e he hb.1 hb.2
      have h2 := wpOp_putIf hoj (hfree j oj hoj hji hjun hnot) (fun cs b => hsel i oi cs b hi) (fun cs b => hsel j oj cs b hoj) hQ hy h1
      have hfree' : ∀ k ok, ops[k]? = some ok → k ≠ i → (listed.setIfInBounds j true).getD k true = false →
          (∀ e ∈ ok.after, Region.binds .any e = true → e.on ≠ i) → oi.apart ops ok = true := fun k ok hk hki hun hno => by
        refine hfree k ok hk hki ?_ hno
        by_cases hjk : j = k
        · subst hjk; exact hjun
        · rw [getD_set_ne true hjk] at hun; exact hun
      refine wpOp_mono (fun a' w' h3 => ⟨fun _ => h3.2.1 hnl, ih (listed.setIfInBounds j true) a' w' hfree' (ready_mono hr (Ne.symm hji)) h3.1 (h3.2.1 hnl) ?_⟩) h2
      rw [Array.setIfInBounds_comm _ _ hji]
      exact h3.2.2
def wpLate (P : Program) (ops : Array Oper) (S : World → Prop) (Q : Exit → Act → World → Prop) : List (Nat × Oper) → Act → World → Prop
  | [], a, w => Q .normal a w
  | (0, o) :: l, a, w => ∃ v, YieldsIf P ops S o v a ∧ wpLate P ops S Q l (a.put o.dst v) w
  | (1, o) :: l, a, w => wpList P ops (Exit.then (fun a1 w1 => S w1 ∧ wpLate P ops S Q l a1 w1) Q) [o] a w
  | (_ + 2, o) :: l, a, w => wpList P ops (Exit.then (fun a1 w1 => wpLate P ops S Q l a1 w1) Q) [o] a w
def lateB (ops : Array Oper) (late : List Nat) : List Nat → List (Nat × Nat) → Bool
  | pre, [] => decide (Region.ready .any ops (doneBy ops.size pre) = [])
  | pre, (0, i) :: l => Region.free .any ops (doneBy ops.size pre) i && ((Region.ready .any ops (doneBy ops.size pre)).contains i && (late.all (fun k => waitsFor ops k i) && (decide (∀ k ∈ late, k ∉ pre) && lateB ops late (pre ++ [i]) l)))
  | pre, (1, i) :: l => decide (Region.ready .any ops (doneBy ops.size pre) = [i]) && lateB ops late (pre ++ [i]) l
  | pre, (_ + 2, i) :: l => decide (Region.ready .any ops (doneBy ops.size pre) = [i]) && (late.contains i && (l.all (fun p => decide (2 ≤ p.1)) && lateB ops late (pre ++ [i]) l))
theorem late_read {o : Oper} {l : List (Nat × Oper)} {a : Act} {w : World} (hg : o.guard = none)
    (h : ∀ K : Act → Prop, (∀ a', wpLate P ops S Q l a' w → K a') → ∃ v, (∀ w, S w → (execOp a.eval o).run P w = .ok (.value v) w) ∧ K (a.put o.dst v)) : wpLate P ops S Q ((0, o) :: l) a w := by
  obtain ⟨v, h1, h2⟩ := h (fun a' => wpLate P ops S Q l a' w) (fun _ h => h)
  exact ⟨v, .inl ⟨by simp [Region.wanted, hg], h1⟩, h2⟩
theorem late_go {o : Oper} {l : List (Nat × Oper)} {a : Act} {w : World} {j : Nat} {b : Bool} (hg : o.guard = some (j, b)) (hy : yielded ops a.tmps j = some b)
    (h : ∀ K : Act → Prop, (∀ a', wpLate P ops S Q l a' w → K a') → ∃ v, (∀ w, S w → (execOp a.eval o).run P w = .ok (.value v) w) ∧ K (a.put o.dst v)) : wpLate P ops S Q ((0, o) :: l) a w := by
  obtain ⟨v, h1, h2⟩ := h (fun a' => wpLate P ops S Q l a' w) (fun _ h => h)
  exact ⟨v, .inl ⟨by simp [Region.wanted, hg, hy], h1⟩, h2⟩
theorem late_skip {o : Oper} {l : List (Nat × Oper)} {a : Act} {w : World} {j : Nat} {b c : Bool} (hg : o.guard = some (j, b)) (hy : yielded ops a.tmps j = some c) (hne : (some c == some b) = false)
    (h : wpLate P ops S Q l (a.put o.dst undef) w) : wpLate P ops S Q ((0, o) :: l) a w := ⟨undef, .inr ⟨by simpa [Region.wanted, hg, hy] using hne, rfl⟩, h⟩
theorem late_do {o : Oper} {l : List (Nat × Oper)} {a : Act} {w : World} (h : wpList P ops (Exit.then (fun a1 w1 => S w1 ∧ wpLate P ops S Q l a1 w1) Q) [o] a w) : wpLate P ops S Q ((1, o) :: l) a w := h
theorem late_late {o : Oper} {l : List (Nat × Oper)} {a : Act} {w : World} (h : wpList P ops (Exit.then (fun a1 w1 => wpLate P ops S Q l a1 w1) Q) [o] a w) : wpLate P ops S Q ((2, o) :: l) a w := h
theorem late_end {a : Act} {w : World} (h : Q .normal a w) : wpLate P ops S Q [] a w := h
theorem late_any (hs : Region.noSelect ops = true) (hQ : ∀ c a d v w, Q (.panic c) (Act.put a d v) w → Q (.panic c) a w) :
    ∀ (st : List (Nat × Nat)) (so : List (Nat × Oper)) (pre : List Nat) (a : Act) (w : World), ((∃ p ∈ st, p.1 < 2) → S w) → st.map (fun p => (p.1, ops[p.2]?)) = so.map (fun p => (p.1, some p.2)) → lateB ops late pre st = true →
    wpLate P ops S Q so a w → wpAnyL P ops Q S late st.length (doneBy ops.size pre) a w
  | [], so, pre, a, w, hS, hso, hB, h => by
    have : so = [] := by cases so with | nil => rfl | cons o so => simp at hso
    subst this
    simp only [lateB, decide_eq_true_eq] at hB
    exact ⟨hB, h⟩
  | (0, i) :: st, so, pre, a, w, hS, hso, hB, h => by
    cases so with
    | nil => simp at hso
    | cons p so =>
      obtain ⟨c, o⟩ := p
      simp only [List.map_cons, List.cons.injEq, Prod.mk.injEq] at hso
      obtain ⟨⟨rfl, ho⟩, hso⟩ := hso
      simp only [lateB, Bool.and_eq_true, List.all_eq_true] at hB
      obtain ⟨v, h1, h2⟩ := h
      have hSw : S w := hS ⟨(0, i), by simp, by simp⟩
      have ih := late_any hs hQ st so (pre ++ [i]) (a.put o.dst v) w (fun _ => hSw) hso hB.2.2.2.2 h2
      rw [doneBy_snoc] at ih
      exact wpAnyL_first ho (Region.noSelect_spec hs) (fun c a w h => hQ c a _ _ w h) hB.2.2.1 st.length _ a w (Region.free_spec ho hB.1) (by simpa using hB.2.1) h1 hSw ih
  | (1, i) :: st, so, pre, a, w, hS, hso, hB, h => by
    cases so with
    | nil => simp at hso
    | cons p so =>
      obtain ⟨c, o⟩ := p
      simp only [List.map_cons, List.cons.injEq, Prod.mk.injEq] at hso
      obtain ⟨⟨rfl, ho⟩, hso⟩ := hso
      simp only [lateB, Bool.and_eq_true, decide_eq_true_eq] at hB
      refine ⟨fun h0 => (by rw [hB.1] at h0; cases h0), fun x hx => ?_⟩
      rw [hB.1] at hx
      simp only [List.mem_singleton] at hx
      subst hx
      refine wpOp_mono (fun a1 w1 hk => ⟨fun _ => hk.1, ?_⟩) (op_then ho h)
      have ih := late_any hs hQ st so (pre ++ [x]) a1 w1 (fun _ => hk.1) hso hB.2 hk.2
      rwa [doneBy_snoc] at ih
  | (k + 2, i) :: st, so, pre, a, w, hS, hso, hB, h => by
    cases so with
    | nil => simp at hso
    | cons p so =>
      obtain ⟨c, o⟩ := p
      simp only [List.map_cons, List.cons.injEq, Prod.mk.injEq] at hso
      obtain ⟨⟨rfl, ho⟩, hso⟩ := hso
      simp only [lateB, Bool.and_eq_true, decide_eq_true_eq, List.all_eq_true] at hB
      refine ⟨fun h0 => (by rw [hB.1] at h0; cases h0), fun x hx => ?_⟩
      rw [hB.1] at hx
      simp only [List.mem_singleton] at hx
      subst hx
      refine wpOp_mono (fun a1 w1 hk => ⟨fun hnl => absurd (by simpa using hB.2.1) hnl, ?_⟩) (op_then ho h)
      have ih := late_any hs hQ st so (pre ++ [x]) a1 w1 (fun ⟨p, hp, hp2⟩ => by have := hB.2.2.1 p hp; omega) hso hB.2.2.2 hk
      rwa [doneBy_snoc] at ih
theorem wp_region_late {id : Nat} {a : Act} {w : World} {l : List Oper} (S : World → Prop) (late : List Nat) (st : List (Nat × Nat)) (G : List (Nat × Nat)) (hm : P.follows .mixedOrders = true)
    (hB : (Region.noSelect l.toArray && (lateB l.toArray late [] st && G.all (fun p => decide (((l.toArray[p.1]?).bind fun x => x.dst) = some p.2)))) = true) (hlen : l.length = st.length) (so : List (Nat × Oper)) (hso : st.map (fun p => (p.1, l.toArray[p.2]?)) = so.map (fun p => (p.1, some p.2)))
    (hQ : ∀ c a d v w, Q (.panic c) (Act.put a d v) w → Q (.panic c) a w) (hS : S w.drew) (h : ∀ ops : Array Oper, (∀ p ∈ G, ((ops[p.1]?).bind fun x => x.dst) = some p.2) → wpLate P ops S Q so a w.drew) : (Code.region id l.toArray true).wp P Q a w := by
  simp only [Bool.and_eq_true, List.all_eq_true, decide_eq_true_eq] at hB
  have key := late_any (P := P) (Q := Q) (S := S) (late := late) hB.1 hQ st so [] a w.drew (fun _ => hS) hso hB.2.1 (h l.toArray hB.2.2)
  have e : l.toArray.size = st.length := by simp [hlen]
  refine wp_region_any hm (wpAny_of_late (S := S) (late := late) _ _ _ _ ?_)
  rw [← e] at key
  simpa [doneBy] using key
end
end Go.Proofs.YthfacjlghcdndaaGreatDoor

namespace Go.Proofs.YthfacjlghcdndaaGreatDoor
open Go.RowKit
section
variable {lo base R Pb lm vm cm : Nat} {w0 w : World} {r : Fl.RS} {line : Int} {m : PMem}
theorem Tryz.infoIntP : (Tryz.prog.info? 3).map (fun i => (i.zero, i.size, i.bytes)) = some (some (.int .i64 0), 1, 8) := by kernel_rfl
set_option maxRecDepth 100000 in
set_option maxHeartbeats 1000000 in
theorem cell_any (h : PrAt lo base R Pb lm vm cm w0 w r line m) (hbg : r.begun = false) (B : Nat) (v : Value) (n l : List UInt8) (hB : B ≤ w.heap.size) (hw : WordsAt B w v [n, l]) (hfr : ∀ b, v.ownBlock = some b → base ≤ b ∧ m.who b = 5) :
    Calls Tryz.prog 61 #[.pointer (some ⟨R, 0, none⟩), v] w (MEnds lo base R Pb lm vm cm w0 line (r.head [Fl.wCell, n, l])) := by
  obtain ⟨b, off, cap, rfl, hcap, hcm, hbB, hxs, hcell⟩ := hw.one (by simp)
  obtain ⟨hbb, hb5⟩ := hfr b rfl
  have hn : n.length ≤ 100000 := hxs n (by simp)
  have hl : l.length ≤ 100000 := hxs l (by simp)
  have hc0 : w.cell? ⟨b, off, none⟩ = some (.string ⟨n.toArray⟩) := hcell 0 (by simp)
  have hc1 : w.cell? ⟨b, off + 1, none⟩ = some (.string ⟨l.toArray⟩) := hcell 1 (by simp)
  obtain ⟨res, hres⟩ : ∃ res, res = r.head [Fl.wCell, n, l] := ⟨_, rfl⟩
  rw [← hres]
  have HRES : Hid (res = if Fl.place r.levels l < 0 ∨ 0 ≤ Fl.place r.cells n ∨ 0 ≤ Fl.place r.chans n then (4, r) else if r.cells.length = 6 then (5, r) else (0, { r with cells := r.cells ++ [n], cellLv := r.cellLv ++ [(Fl.place r.levels l).toNat] })) := by
    show _ = _; rw [hres]; simp [Fl.RS.head, Fl.wCell, Fl.wBelow]
  have HH : Hid (PrAt lo base R Pb lm vm cm w0 w r line m) := h
  simp only [List.length_cons, List.length_nil, Nat.zero_add] at hcap ⊢
  have HNP : Hid (Calls Tryz.prog 79 #[.pointer (some ⟨R, 0, none⟩), .slice (some ⟨b, off, none⟩) 2 cap] w (NpEnds r n l line w)) := newPlace_any h hbg b off cap n l hn hl (by omega) hc0 hc1
  clear h hw hxs hcell hres hfr
  go_enter Tryz.func61, Tryz.ntmps61
  go_wp2_with fail
  refine HNP.out.mono ?_
  rintro e W ⟨hb1, hok, hbad⟩
  have HW : Hid (PrAt lo base R Pb lm vm cm w0 W r line m) := HH.out.below hb1
  have hbz : b < w.heap.size := World.block_lt_of_cell? w _ hc0
  have d0 : W.cell? ⟨b, off, none⟩ = some (.string ⟨n.toArray⟩) := (hb1.cell (p := ⟨b, off, none⟩) hbz).trans hc0
  clear hc0 hc1 hb1 HH HNP
  obtain ⟨j, hj⟩ : ∃ j, j = Fl.place r.levels l := ⟨_, rfl⟩
  have HJ : Hid (j = Fl.place r.levels l) := hj
  rw [← hj] at hok hbad
  clear hj
  by_cases hbd : j < 0 ∨ 0 ≤ Fl.place r.cells n ∨ 0 ≤ Fl.place r.chans n
  · obtain rfl := hbad hbd
    have HR : res = (4, r) := by rw [HRES.out, ← HJ.out, if_pos hbd]
    exact ⟨rfl, MEnds.bad HR (by decide) rfl ⟨HW.out.bel, HW.out.fx⟩⟩
  obtain rfl := hok (by omega)
  have HR1 : Hid (res = if r.cells.length = 6 then (5, r) else (0, { r with cells := r.cells ++ [n], cellLv := r.cellLv ++ [j.toNat] })) := by show _ = _; rw [HRES.out, ← HJ.out, if_neg hbd]
  have hj0 : 0 ≤ j := by omega
  have hjl : j < r.levels.length := by
    have := HJ.out
    rcases Fl.place_cases r.levels l with h | h <;> omega
  have HNO : Hid (Fl.place (r.cells ++ r.locals) n < 0) := by
    show _ < _
    rw [(HW.out.ok.head hbg).1, List.append_nil]; omega
  clear hok hbad hbd
  have hcl := HW.out.ok.cl
  have HCL : Hid (r.cellLv.length = r.cells.length) := hcl
  have hce := HW.out.ok.ce
  have hlv := HW.out.ok.lv
  obtain ⟨ca, ccap, hcv⟩ : ∃ ca ccap, m.clv = .slice ca r.cellLv.length ccap := by
    rcases HW.out.re.oc.2 with ⟨h1, h2⟩ | ⟨g, cp, cur, h1, _⟩
    · exact ⟨none, 0, by rw [h1, h2]⟩
    · exact ⟨_, cp, h1⟩
  have HCV : Hid (m.clv = .slice ca r.cellLv.length ccap) := hcv
  have c0 : W.cell? ⟨R, 0, none⟩ = some (.pointer (some ⟨Pb, 0, none⟩)) := HW.out.cR.c 0 (by omega)
  have p1 : W.cell? ⟨Pb, 1, none⟩ = some (.slice ca r.cellLv.length ccap) := by rw [← hcv]; exact HW.out.cP.c 1 (by omega)
  have HRB : Hid (Calls Tryz.prog 46 #[.pointer (some ⟨R, 0, none⟩), .bool false, .int .i64 5] W fun e w' => e = .panicked (stopAt 5 line) ∧ Below W.heap.size W w') := rneed_bad R 5 line W (HW.out.cR.c 1 (by omega))
  have HOK : Hid (Calls Tryz.prog 46 #[.pointer (some ⟨R, 0, none⟩), .bool true, .int .i64 5] W fun e w' => e = .returned (.tuple #[]) ∧ w' = W) := rneed_ok R 5 W
  have hba := HW.out.hba
  have hlo := HW.out.hlo
  clear hcv
  by_cases h6 : r.cells.length = 6
  · have b6 : ¬ (r.cellLv.length : Int) < 6 := by omega
    have HR2 : Hid (res = (5, r)) := by show _ = _; rw [HR1.out, if_pos h6]
    clear hcl
    go_wp2_with fail
    rw [show decide ((r.cellLv.length : Int) < 6) = false from decide_eq_false (by omega)]
    refine HRB.out.mono ?_
    rintro e w' ⟨rfl, hb'⟩
    exact ⟨rfl, MEnds.bad HR2.out (by decide) rfl (HW.out.gone hb')⟩
  · have b6 : (r.cellLv.length : Int) < 6 := by omega
    have HR2 : Hid (res = (0, { r with cells := r.cells ++ [n], cellLv := r.cellLv ++ [j.toNat] })) := by show _ = _; rw [HR1.out, if_neg h6]
    clear hcl
    go_wp2_with fail
    refine HOK.out.mono ?_
    rintro e w' ⟨rfl, hw'⟩
    rw [hw']
    clear hw' HOK HRB
    have c41 : W.cell? ⟨R, 41, none⟩ = some (.map (some vm)) := HW.out.cR.c 41 (by omega)
    obtain ⟨W2, hput, hnm, hgr⟩ := HW.out.drew.nv.put n hn HNO.out (by have := HW.out.ok.lo; simp; omega)
    rw [show (r.cells ++ r.locals).length = r.cellLv.length by rw [(HW.out.ok.head hbg).1, List.append_nil, HCL.out]] at hput
    rw [show (r.cells ++ r.locals) ++ [n] = (r.cells ++ [n]) ++ r.locals by rw [(HW.out.ok.head hbg).1]; simp] at hnm
    obtain ⟨n1, n2, n3, n4, n5, n6, n7, n8, n9, n10⟩ := HW.out.nd
    have hz2 : W.heap.size ≤ W2.heap.size := hgr.size
    have q2 : ∀ k, k < W.heap.size → k ≠ vm → W2.heap[k]? = W.heap[k]? := fun k hk hne => hgr.block k hk (by simpa using hne)
    have d0' : W2.cell? ⟨R, 0, none⟩ = some (.pointer (some ⟨Pb, 0, none⟩)) := (World.cell?_of_block (a := ⟨R, 0, none⟩) (q2 R (by omega) n3)).trans c0
    have d1' : W2.cell? ⟨Pb, 1, none⟩ = some (.slice ca r.cellLv.length ccap) := (World.cell?_of_block (a := ⟨Pb, 1, none⟩) (q2 Pb (by omega) n6)).trans p1
    have HQ2 : Hid (∀ k, k < W.heap.size → k ≠ vm → W2.heap[k]? = W.heap[k]?) := q2
    have HNM : Hid (NameMap W2 vm ((r.cells ++ [n]) ++ r.locals)) := hnm
    have HOC : Hid (W2.ownsRow base 3 1 (.slice ca r.cellLv.length ccap) r.cellLv.length (intsV r.cellLv)) := by
      show World.ownsRow _ _ _ _ _ _ _
      rw [← HCV.out]
      refine own_same HW.out.re.oc (fun b' hb' => q2 b' (HW.out.re.oc.lt b' hb').2 ?_)
      have := (HW.out.re.oc.lt b' hb').1; omega
    have fP : ∀ j, W2.frozen? ⟨Pb, j, none⟩ = false := fun j => (World.frozen?_of_block (a := ⟨Pb, j, none⟩) (q2 Pb (by omega) n6)).trans (HW.out.cP.z j)
    have HB2 : Hid (Below lo w0 W2) := HW.out.bel.drew.grown hgr (by have := HW.out.bel.size; simp; omega) (fun k hk => by simp only [Option.some.injEq] at hk; omega)
    clear hgr hnm q2
    go_wp2_with fail
    go_still_tail 15, (by kernel_rfl)
    clear p1 c0 d0 c41
    go_wp2_with fail
    refine wp_region_late (fun W => W.cell? ⟨R, 0, none⟩ = some (.pointer (some ⟨Pb, 0, none⟩)) ∧ W.cell? ⟨Pb, 1, none⟩ = some (.slice ca r.cellLv.length ccap)) [16] [(0, 0), (0, 1), (0, 2), (0, 3), (0, 4), (0, 5), (0, 6), (0, 7), (0, 8), (0, 9), (0, 10), (0, 11), (1, 12), (1, 13), (1, 14), (1, 15), (2, 16)] [] (by kernel_rfl) (by kernel_rfl) rfl [(_, _), (_, _), (_, _), (_, _), (_, _), (_, _), (_, _), (_, _), (_, _), (_, _), (_, _), (_, _), (_, _), (_, _), (_, _), (_, _), (_, _)] rfl (fun c a d v w h => by cases d <;> exact h) ⟨d0', d1'⟩ (fun ops hG => ?_)
    clear hG
    simp only [List.getElem_toArray, List.getElem_cons_succ, List.getElem_cons_zero]
    iterate 12
      refine late_read rfl (fun K hK => ?_)
      apply Exists.intro
      refine ⟨fun w' hw' => ?_, ?_⟩
      · obtain ⟨k0, k1⟩ := hw'
        go_simp
        try with_reducible rfl
      go_simp
      refine hK _ ?_
      clear hK K
    refine late_do ?_
    go_wp2_with fail
    obtain ⟨W3, hW3⟩ : ∃ W3, W3 = (W2.alloc (.cells #[.int .i64 j] 3)).drew := ⟨_, rfl⟩
    obtain ⟨tb, htb⟩ : ∃ tb, tb = W2.heap.size := ⟨_, rfl⟩
    have hB3 : Below W2.heap.size W2 W3 := by rw [hW3]; exact ((Below.refl _ _).alloc (Nat.le_refl _) _).drew
    have hz3 : W2.heap.size + 1 = W3.heap.size := by rw [hW3]; simp
    have t0 : ∀ i u, ([.int .i64 j] : List Value)[i]? = some u → W3.cell? ((⟨tb, 0, none⟩ : Addr).add i) = some u := by rw [hW3, htb]; exact str_cell_new
    have e0 : W3.cell? ⟨R, 0, none⟩ = some (.pointer (some ⟨Pb, 0, none⟩)) := (hB3.cell (p := ⟨R, 0, none⟩) (by show R < _; omega)).trans d0'
    have e1 : W3.cell? ⟨Pb, 1, none⟩ = some (.slice ca r.cellLv.length ccap) := (hB3.cell (p := ⟨Pb, 1, none⟩) (by show Pb < _; omega)).trans d1'
    have HO3 : Hid (W3.ownsRow base 3 1 (.slice ca r.cellLv.length ccap) r.cellLv.length (intsV r.cellLv)) := own_same HOC.out (fun b hb => hB3.block b (HOC.out.lt b hb).2)
    have HB3 : Hid (Below W2.heap.size W2 W3) := hB3
    rw [← hW3, ← htb]
    clear hW3 htb hB3 d0' d1' HOC
    refine ⟨⟨e0, e1⟩, ?_⟩
    refine late_do ?_
    obtain ⟨i0, hi0, hz0, hzs, hzb⟩ := info_parts Tryz.infoIntP
    go_wp2_with (at_builtin; refine wpList_append_at _ rfl (.tmp 44) (.tmp 46) 22 rfl base 3 i0 (.int .i64 0) 1 8 Tryz.underlying22 hi0 hz0 hzs hzb rfl (by decide) _ _ _ rfl HO3.out ⟨tb, 0, none⟩ 1 1 [.int .i64 j] rfl rfl (by decide) t0 ?c2 ?c3 ?c4 ?c5 ?_)
    case c2 => intro u hu; simp at hu; subst hu; rfl
    case c3 => unfold maxLen; omega
    case c4 => omega
    case c5 => omega
    intro v' W4 hown4 hg4 hwh4
    obtain ⟨va, vcap, rfl⟩ : ∃ va vcap, v' = .slice va (r.cellLv.length + 1) vcap := by
      rcases hown4.2 with ⟨h1, h2⟩ | ⟨g, cp, cur, h1, _⟩
      · omega
      · exact ⟨_, cp, h1⟩
    have hlt3 : ∀ k, (Value.slice ca r.cellLv.length ccap).ownBlock = some k → base ≤ k ∧ k < W2.heap.size + 1 := fun k hk => by have := HO3.out.lt k hk; omega
    have hq4 : ∀ k, k < base → W4.heap[k]? = W3.heap[k]? := fun k hk => hg4.block k (by omega) (fun hh => by have := (hlt3 k hh.symm).1; omega)
    have g0 : W4.cell? ⟨R, 0, none⟩ = some (.pointer (some ⟨Pb, 0, none⟩)) := (World.cell?_of_block (a := ⟨R, 0, none⟩) (hq4 R (by omega))).trans e0
    have g1 : W4.cell? ⟨Pb, 1, none⟩ = some (.slice ca r.cellLv.length ccap) := (World.cell?_of_block (a := ⟨Pb, 1, none⟩) (hq4 Pb (by omega))).trans e1
    have gz : ∀ j, W4.frozen? ⟨Pb, j, none⟩ = false := fun j => (World.frozen?_of_block (a := ⟨Pb, j, none⟩) (hq4 Pb (by omega))).trans ((HB3.out.frozen (p := ⟨Pb, j, none⟩) (by show Pb < _; omega)).trans (fP j))
    have HFIN : Hid (∃ m', PrAt lo base R Pb lm vm cm w0 (W4.setCell ⟨Pb, 1, none⟩ (.slice va (r.cellLv.length + 1) vcap)) { r with cells := r.cells ++ [n], cellLv := r.cellLv ++ [j.toNat] } line m') := by
      have hzf : (W4.setCell ⟨Pb, 1, none⟩ (.slice va (r.cellLv.length + 1) vcap)).heap.size = W4.heap.size := setCell_size _ _ _
      have hz4 := hg4.size
      have hall : ∀ k, k < W.heap.size → k ≠ vm → (Value.slice ca r.cellLv.length ccap).ownBlock ≠ some k → W4.heap[k]? = W.heap[k]? := fun k hk hv hne =>
        (hg4.block k (by omega) (fun hh => hne hh.symm)).trans ((HB3.out.block k (by omega)).trans (HQ2.out k hk hv))
      refine HW.out.cell (v' := .slice va (r.cellLv.length + 1) vcap) hbg n j.toNat (by omega) (by omega) (by omega) (fun k hk hv hp hc => ?_) ?_ ?_ ?_ ?_ ?_
      · rw [setCell_block _ _ _ _ _ hp]
        exact hall k hk hv (by rw [← HCV.out]; exact hc)
      · have hb4 : Below lo w0 W4 := (HB2.out.trans (HB3.out.mono (by omega))).grown hg4 (by have := HW.out.bel.size; omega) (fun k hk => by have := (hlt3 k hk).1; omega)
        exact hb4.setCell (by show lo ≤ Pb; omega) _
      · have hcp := (HW.out.cP.block (w' := W4) (hall Pb (by omega) n6 (fun hh => by have := (hlt3 Pb hh).1; omega))).set (j := 1) (by omega) (.slice va (r.cellLv.length + 1) vcap)
        refine hcp.congr fun k hk => ?_
        rcases (show k = 0 ∨ k = 1 ∨ k = 2 ∨ k = 3 ∨ k = 4 by omega) with rfl | rfl | rfl | rfl | rfl <;> rfl
      · refine (HNM.out.block (w' := W4) ((hq4 vm (by omega)).trans (HB3.out.block vm (by omega)))).block (setCell_block _ _ _ _ _ (Ne.symm n6))
      · have e1 : intsV (r.cellLv ++ [j.toNat]) = intsV r.cellLv ++ [.int .i64 j] := by simp [intsV]; omega
        rw [e1]
        exact ownsRow_setCell_below hown4 (by show Pb < base; omega) _
      · rw [HCV.out]
        rcases hwh4 with hh | hh
        · exact .inl hh
        · exact .inr ⟨_, hh, by omega⟩
    clear hown4 hg4 hwh4 hq4 e0 e1 t0 HO3 HB3 HNM HQ2 hlt3 fP
    go_wp2_with fail
    refine ⟨⟨g0, g1⟩, ?_⟩
    refine late_do ?_
    go_wp2_with fail
    refine ⟨⟨g0, g1⟩, ?_⟩
    refine late_do ?_
    go_wp2_with fail
    refine ⟨⟨g0, g1⟩, ?_⟩
    refine late_late ?_
    go_wp2_with fail
    refine late_end ?_
    go_end0
    obtain ⟨m', hm'⟩ := HFIN.out
    exact MEnds.good HR2.out rfl hm'
end
end Go.Proofs.YthfacjlghcdndaaGreatDoor
