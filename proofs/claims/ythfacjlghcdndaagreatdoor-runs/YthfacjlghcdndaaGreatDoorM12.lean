/- Texts Prn CeScope Pro Prp. -/
import Derived.Test.YthfacjlghcdndaaGreatDoorM11
import Derived.WalkKit
set_option linter.unusedSimpArgs false
set_option linter.unusedVariables false
namespace Go.Proofs.YthfacjlghcdndaaGreatDoor
open Go.RowKit
section
variable {lo base R Pb lm vm cm : Nat} {w0 w : World} {r : Fl.RS} {line : Int} {m : PMem}
set_option maxRecDepth 100000 in
set_option maxHeartbeats 1000000 in
theorem channel_any (h : PrAt lo base R Pb lm vm cm w0 w r line m) (hbg : r.begun = false) (B : Nat) (v : Value) (n l : List UInt8) (hB : B ≤ w.heap.size) (hw : WordsAt B w v [n, l]) (hfr : ∀ b, v.ownBlock = some b → base ≤ b ∧ m.who b = 5) :
    Calls Tryz.prog 62 #[.pointer (some ⟨R, 0, none⟩), v] w (MEnds lo base R Pb lm vm cm w0 line (r.head [Fl.wChannel, n, l])) := by
  obtain ⟨b, off, cap, rfl, hcap, hcm, hbB, hxs, hcell⟩ := hw.one (by simp)
  obtain ⟨hbb, hb5⟩ := hfr b rfl
  have hn : n.length ≤ 100000 := hxs n (by simp)
  have hl : l.length ≤ 100000 := hxs l (by simp)
  have hc0 : w.cell? ⟨b, off, none⟩ = some (.string ⟨n.toArray⟩) := hcell 0 (by simp)
  have hc1 : w.cell? ⟨b, off + 1, none⟩ = some (.string ⟨l.toArray⟩) := hcell 1 (by simp)
  obtain ⟨res, hres⟩ : ∃ res, res = r.head [Fl.wChannel, n, l] := ⟨_, rfl⟩
  rw [← hres]
  have HRES : Hid (res = if Fl.place r.levels l < 0 ∨ 0 ≤ Fl.place r.cells n ∨ 0 ≤ Fl.place r.chans n then (4, r) else if r.chans.length = 3 then (5, r) else (0, { r with chans := r.chans ++ [n], chanLv := r.chanLv ++ [(Fl.place r.levels l).toNat] })) := by
    show _ = _; rw [hres]; simp [Fl.RS.head, Fl.wChannel, Fl.wBelow, Fl.wCell]
  have HH : Hid (PrAt lo base R Pb lm vm cm w0 w r line m) := h
  simp only [List.length_cons, List.length_nil, Nat.zero_add] at hcap ⊢
  have HNP : Hid (Calls Tryz.prog 79 #[.pointer (some ⟨R, 0, none⟩), .slice (some ⟨b, off, none⟩) 2 cap] w (NpEnds r n l line w)) := newPlace_any h hbg b off cap n l hn hl (by omega) hc0 hc1
  clear h hw hxs hcell hres hfr
  go_enter Tryz.func62, Tryz.ntmps62
  go_wp2_with fail
  refine HNP.out.mono ?_
  rintro e W ⟨hb1, hok, hbad⟩
  have HW : Hid (PrAt lo base R Pb lm vm cm w0 W r line m) := HH.out.below hb1
  have hbz : b < w.heap.size := World.block_lt_of_cell? w _ hc0
  have d0 : W.cell? ⟨b, off, none⟩ = some (.string ⟨n.toArray⟩) := (hb1.cell (p := ⟨b, off, none⟩) hbz).trans hc0
  clear hc0 hc1 hb1 HH HNP
  obtain ⟨j, hj⟩ : ∃ j, j = Fl.place r.levels l := ⟨_, rfl⟩
  have HJ : Hid (j = Fl.place r.levels l) := hj
  rw [← hj] at hok hbad
  clear hj
  by_cases hbd : j < 0 ∨ 0 ≤ Fl.place r.cells n ∨ 0 ≤ Fl.place r.chans n
  · obtain rfl := hbad hbd
    have HR : res = (4, r) := by rw [HRES.out, ← HJ.out, if_pos hbd]
    exact ⟨rfl, MEnds.bad HR (by decide) rfl ⟨HW.out.bel, HW.out.fx⟩⟩
  obtain rfl := hok (by omega)
  have HR1 : Hid (res = if r.chans.length = 3 then (5, r) else (0, { r with chans := r.chans ++ [n], chanLv := r.chanLv ++ [j.toNat] })) := by show _ = _; rw [HRES.out, ← HJ.out, if_neg hbd]
  have hj0 : 0 ≤ j := by omega
  have hjl : j < r.levels.length := by
    have := HJ.out
    rcases Fl.place_cases r.levels l with h | h <;> omega
  have HNO : Hid (Fl.place r.chans n < 0) := by
    show _ < _
    omega
  clear hok hbad hbd
  have hcl := HW.out.ok.hl
  have HCL : Hid (r.chanLv.length = r.chans.length) := hcl
  have hce := HW.out.ok.ch
  have hlv := HW.out.ok.lv
  obtain ⟨ca, ccap, hcv⟩ : ∃ ca ccap, m.chv = .slice ca r.chanLv.length ccap := by
    rcases HW.out.re.oh.2 with ⟨h1, h2⟩ | ⟨g, cp, cur, h1, _⟩
    · exact ⟨none, 0, by rw [h1, h2]⟩
    · exact ⟨_, cp, h1⟩
  have HCV : Hid (m.chv = .slice ca r.chanLv.length ccap) := hcv
  have c0 : W.cell? ⟨R, 0, none⟩ = some (.pointer (some ⟨Pb, 0, none⟩)) := HW.out.cR.c 0 (by omega)
  have p1 : W.cell? ⟨Pb, 2, none⟩ = some (.slice ca r.chanLv.length ccap) := by rw [← hcv]; exact HW.out.cP.c 2 (by omega)
  have HRB : Hid (Calls Tryz.prog 46 #[.pointer (some ⟨R, 0, none⟩), .bool false, .int .i64 5] W fun e w' => e = .panicked (stopAt 5 line) ∧ Below W.heap.size W w') := rneed_bad R 5 line W (HW.out.cR.c 1 (by omega))
  have HOK : Hid (Calls Tryz.prog 46 #[.pointer (some ⟨R, 0, none⟩), .bool true, .int .i64 5] W fun e w' => e = .returned (.tuple #[]) ∧ w' = W) := rneed_ok R 5 W
  have hba := HW.out.hba
  have hlo := HW.out.hlo
  clear hcv
  by_cases h6 : r.chans.length = 3
  · have b6 : ¬ (r.chanLv.length : Int) < 3 := by omega
    have HR2 : Hid (res = (5, r)) := by show _ = _; rw [HR1.out, if_pos h6]
    clear hcl
    go_wp2_with fail
    rw [show decide ((r.chanLv.length : Int) < 3) = false from decide_eq_false (by omega)]
    refine HRB.out.mono ?_
    rintro e w' ⟨rfl, hb'⟩
    exact ⟨rfl, MEnds.bad HR2.out (by decide) rfl (HW.out.gone hb')⟩
  · have b6 : (r.chanLv.length : Int) < 3 := by omega
    have HR2 : Hid (res = (0, { r with chans := r.chans ++ [n], chanLv := r.chanLv ++ [j.toNat] })) := by show _ = _; rw [HR1.out, if_neg h6]
    clear hcl
    go_wp2_with fail
    refine HOK.out.mono ?_
    rintro e w' ⟨rfl, hw'⟩
    rw [hw']
    clear hw' HOK HRB
    have c41 : W.cell? ⟨R, 42, none⟩ = some (.map (some cm)) := HW.out.cR.c 42 (by omega)
    obtain ⟨W2, hput, hnm, hgr⟩ := HW.out.drew.nc.put n hn HNO.out (by omega)
    rw [← HCL.out] at hput
    obtain ⟨n1, n2, n3, n4, n5, n6, n7, n8, n9, n10⟩ := HW.out.nd
    have hz2 : W.heap.size ≤ W2.heap.size := hgr.size
    have q2 : ∀ k, k < W.heap.size → k ≠ cm → W2.heap[k]? = W.heap[k]? := fun k hk hne => hgr.block k hk (by simpa using hne)
    have d0' : W2.cell? ⟨R, 0, none⟩ = some (.pointer (some ⟨Pb, 0, none⟩)) := (World.cell?_of_block (a := ⟨R, 0, none⟩) (q2 R (by omega) n4)).trans c0
    have d1' : W2.cell? ⟨Pb, 2, none⟩ = some (.slice ca r.chanLv.length ccap) := (World.cell?_of_block (a := ⟨Pb, 2, none⟩) (q2 Pb (by omega) n7)).trans p1
    have HQ2 : Hid (∀ k, k < W.heap.size → k ≠ cm → W2.heap[k]? = W.heap[k]?) := q2
    have HNM : Hid (NameMap W2 cm (r.chans ++ [n])) := hnm
    have HOC : Hid (W2.ownsRow base 3 1 (.slice ca r.chanLv.length ccap) r.chanLv.length (intsV r.chanLv)) := by
      show World.ownsRow _ _ _ _ _ _ _
      rw [← HCV.out]
      refine own_same HW.out.re.oh (fun b' hb' => q2 b' (HW.out.re.oh.lt b' hb').2 ?_)
      have := (HW.out.re.oh.lt b' hb').1; omega
    have fP : ∀ j, W2.frozen? ⟨Pb, j, none⟩ = false := fun j => (World.frozen?_of_block (a := ⟨Pb, j, none⟩) (q2 Pb (by omega) n7)).trans (HW.out.cP.z j)
    have HB2 : Hid (Below lo w0 W2) := HW.out.bel.drew.grown hgr (by have := HW.out.bel.size; simp; omega) (fun k hk => by simp only [Option.some.injEq] at hk; omega)
    clear hgr hnm q2
    go_wp2_with fail
    go_still_tail 15, (by kernel_rfl)
    clear p1 c0 d0 c41
    go_wp2_with fail
    refine wp_region_late (fun W => W.cell? ⟨R, 0, none⟩ = some (.pointer (some ⟨Pb, 0, none⟩)) ∧ W.cell? ⟨Pb, 2, none⟩ = some (.slice ca r.chanLv.length ccap)) [16] [(0, 0), (0, 1), (0, 2), (0, 3), (0, 4), (0, 5), (0, 6), (0, 7), (0, 8), (0, 9), (0, 10), (0, 11), (1, 12), (1, 13), (1, 14), (1, 15), (2, 16)] [] (by kernel_rfl) (by kernel_rfl) rfl [(_, _), (_, _), (_, _), (_, _), (_, _), (_, _), (_, _), (_, _), (_, _), (_, _), (_, _), (_, _), (_, _), (_, _), (_, _), (_, _), (_, _)] rfl (fun c a d v w h => by cases d <;> exact h) ⟨d0', d1'⟩ (fun ops hG => ?_)
    clear hG
    simp only [List.getElem_toArray, List.getElem_cons_succ, List.getElem_cons_zero]
    iterate 12
      refine late_read rfl (fun K hK => ?_)
      apply Exists.intro
      refine ⟨fun w' hw' => ?_, ?_⟩
      · obtain ⟨k0, k1⟩ := hw'
        go_simp
        try with_reducible rfl
      go_simp
      refine hK _ ?_
      clear hK K
    refine late_do ?_
    go_wp2_with fail
    obtain ⟨W3, hW3⟩ : ∃ W3, W3 = (W2.alloc (.cells #[.int .i64 j] 3)).drew := ⟨_, rfl⟩
    obtain ⟨tb, htb⟩ : ∃ tb, tb = W2.heap.size := ⟨_, rfl⟩
    have hB3 : Below W2.heap.size W2 W3 := by rw [hW3]; exact ((Below.refl _ _).alloc (Nat.le_refl _) _).drew
    have hz3 : W2.heap.size + 1 = W3.heap.size := by rw [hW3]; simp
    have t0 : ∀ i u, ([.int .i64 j] : List Value)[i]? = some u → W3.cell? ((⟨tb, 0, none⟩ : Addr).add i) = some u := by rw [hW3, htb]; exact str_cell_new
    have e0 : W3.cell? ⟨R, 0, none⟩ = some (.pointer (some ⟨Pb, 0, none⟩)) := (hB3.cell (p := ⟨R, 0, none⟩) (by show R < _; omega)).trans d0'
    have e1 : W3.cell? ⟨Pb, 2, none⟩ = some (.slice ca r.chanLv.length ccap) := (hB3.cell (p := ⟨Pb, 2, none⟩) (by show Pb < _; omega)).trans d1'
    have HO3 : Hid (W3.ownsRow base 3 1 (.slice ca r.chanLv.length ccap) r.chanLv.length (intsV r.chanLv)) := own_same HOC.out (fun b hb => hB3.block b (HOC.out.lt b hb).2)
    have HB3 : Hid (Below W2.heap.size W2 W3) := hB3
    rw [← hW3, ← htb]
    clear hW3 htb hB3 d0' d1' HOC
    refine ⟨⟨e0, e1⟩, ?_⟩
    refine late_do ?_
    obtain ⟨i0, hi0, hz0, hzs, hzb⟩ := info_parts Tryz.infoIntP
    go_wp2_with (at_builtin; refine wpList_append_at _ rfl (.tmp 44) (.tmp 46) 22 rfl base 3 i0 (.int .i64 0) 1 8 Tryz.underlying22 hi0 hz0 hzs hzb rfl (by decide) _ _ _ rfl HO3.out ⟨tb, 0, none⟩ 1 1 [.int .i64 j] rfl rfl (by decide) t0 ?c2 ?c3 ?c4 ?c5 ?_)
    case c2 => intro u hu; simp at hu; subst hu; rfl
    case c3 => unfold maxLen; omega
    case c4 => omega
    case c5 => omega
    intro v' W4 hown4 hg4 hwh4
    obtain ⟨va, vcap, rfl⟩ : ∃ va vcap, v' = .slice va (r.chanLv.length + 1) vcap := by
      rcases hown4.2 with ⟨h1, h2⟩ | ⟨g, cp, cur, h1, _⟩
      · omega
      · exact ⟨_, cp, h1⟩
    have hlt3 : ∀ k, (Value.slice ca r.chanLv.length ccap).ownBlock = some k → base ≤ k ∧ k < W2.heap.size + 1 := fun k hk => by have := HO3.out.lt k hk; omega
    have hq4 : ∀ k, k < base → W4.heap[k]? = W3.heap[k]? := fun k hk => hg4.block k (by omega) (fun hh => by have := (hlt3 k hh.symm).1; omega)
    have g0 : W4.cell? ⟨R, 0, none⟩ = some (.pointer (some ⟨Pb, 0, none⟩)) := (World.cell?_of_block (a := ⟨R, 0, none⟩) (hq4 R (by omega))).trans e0
    have g1 : W4.cell? ⟨Pb, 2, none⟩ = some (.slice ca r.chanLv.length ccap) := (World.cell?_of_block (a := ⟨Pb, 2, none⟩) (hq4 Pb (by omega))).trans e1
    have gz : ∀ j, W4.frozen? ⟨Pb, j, none⟩ = false := fun j => (World.frozen?_of_block (a := ⟨Pb, j, none⟩) (hq4 Pb (by omega))).trans ((HB3.out.frozen (p := ⟨Pb, j, none⟩) (by show Pb < _; omega)).trans (fP j))
    have HFIN : Hid (∃ m', PrAt lo base R Pb lm vm cm w0 (W4.setCell ⟨Pb, 2, none⟩ (.slice va (r.chanLv.length + 1) vcap)) { r with chans := r.chans ++ [n], chanLv := r.chanLv ++ [j.toNat] } line m') := by
      have hzf : (W4.setCell ⟨Pb, 2, none⟩ (.slice va (r.chanLv.length + 1) vcap)).heap.size = W4.heap.size := setCell_size _ _ _
      have hz4 := hg4.size
      have hall : ∀ k, k < W.heap.size → k ≠ cm → (Value.slice ca r.chanLv.length ccap).ownBlock ≠ some k → W4.heap[k]? = W.heap[k]? := fun k hk hv hne =>
        (hg4.block k (by omega) (fun hh => hne hh.symm)).trans ((HB3.out.block k (by omega)).trans (HQ2.out k hk hv))
      refine HW.out.channel (v' := .slice va (r.chanLv.length + 1) vcap) hbg n j.toNat (by omega) (by omega) (by omega) (fun k hk hv hp hc => ?_) ?_ ?_ ?_ ?_ ?_
      · rw [setCell_block _ _ _ _ _ hp]
        exact hall k hk hv (by rw [← HCV.out]; exact hc)
      · have hb4 : Below lo w0 W4 := (HB2.out.trans (HB3.out.mono (by omega))).grown hg4 (by have := HW.out.bel.size; omega) (fun k hk => by have := (hlt3 k hk).1; omega)
        exact hb4.setCell (by show lo ≤ Pb; omega) _
      · have hcp := (HW.out.cP.block (w' := W4) (hall Pb (by omega) n7 (fun hh => by have := (hlt3 Pb hh).1; omega))).set (j := 2) (by omega) (.slice va (r.chanLv.length + 1) vcap)
        refine hcp.congr fun k hk => ?_
        rcases (show k = 0 ∨ k = 1 ∨ k = 2 ∨ k = 3 ∨ k = 4 by omega) with rfl | rfl | rfl | rfl | rfl <;> rfl
      · refine (HNM.out.block (w' := W4) ((hq4 cm (by omega)).trans (HB3.out.block cm (by omega)))).block (setCell_block _ _ _ _ _ (Ne.symm n7))
      · have e1 : intsV (r.chanLv ++ [j.toNat]) = intsV r.chanLv ++ [.int .i64 j] := by simp [intsV]; omega
        rw [e1]
        exact ownsRow_setCell_below hown4 (by show Pb < base; omega) _
      · rw [HCV.out]
        rcases hwh4 with hh | hh
        · exact .inl hh
        · exact .inr ⟨_, hh, by omega⟩
    clear hown4 hg4 hwh4 hq4 e0 e1 t0 HO3 HB3 HNM HQ2 hlt3 fP
    go_wp2_with fail
    refine ⟨⟨g0, g1⟩, ?_⟩
    refine late_do ?_
    go_wp2_with fail
    refine ⟨⟨g0, g1⟩, ?_⟩
    refine late_do ?_
    go_wp2_with fail
    refine ⟨⟨g0, g1⟩, ?_⟩
    refine late_late ?_
    go_wp2_with fail
    refine late_end ?_
    go_end0
    obtain ⟨m', hm'⟩ := HFIN.out
    exact MEnds.good HR2.out rfl hm'
end
end Go.Proofs.YthfacjlghcdndaaGreatDoor

namespace Go.Proofs.YthfacjlghcdndaaGreatDoor
open Go.RowKit

theorem wp_scope_again {P : Program} {Q : Exit → Act → World → Prop} {a : Act} {w : World} {c' : Code} (l : Nat) (J : Act → World → Prop) (μ : Act → World → Nat) (hJ : J a w)
    (pass : ∀ a w, J a w → c'.wp P (Exit.jump l (fun a' w' => J a' w' ∧ μ a' w' < μ a w) Q) a w) : (Code.scope ((Code.label l).seq c')).wp P Q a w := by
  refine wp_scope_jumps l J μ (rest := .seq .skip c') (by simp [findLabel]) ?_ (fun a w h => ?_)
  · apply wp_seq
    apply wp_label
    refine wp_mono (pass a w hJ) (fun e a w h => ?_)
    cases e <;> first | exact h | exact ⟨h.1, h.2.1⟩
  · apply wp_seq
    apply wp_skip
    exact pass a w h
end Go.Proofs.YthfacjlghcdndaaGreatDoor

namespace Go.Proofs.YthfacjlghcdndaaGreatDoor
open Go.RowKit

def TabIn (w : World) (b o : Nat) (t : Fl.Tab) : Prop := ∀ i j, i < 6 → j < 6 → w.cell? ⟨b, o + i * 6 + j, none⟩ = some (.bool (t i j))
structure SameBut (w w' : World) (b o n : Nat) : Prop where
  g : w.grownBy w' (some b)
  s : w'.heap.size = w.heap.size
  c : ∀ j, j < o ∨ o + n ≤ j → w'.cell? ⟨b, j, none⟩ = w.cell? ⟨b, j, none⟩
  z : ∀ j, w'.frozen? ⟨b, j, none⟩ = w.frozen? ⟨b, j, none⟩
theorem SameBut.refl (w : World) (b o n : Nat) : SameBut w w b o n := ⟨World.grownBy.refl _ _, rfl, fun _ _ => rfl, fun _ => rfl⟩
theorem SameBut.trans {w w1 w2 : World} {b o n : Nat} (h : SameBut w w1 b o n) (k : SameBut w1 w2 b o n) : SameBut w w2 b o n :=
  ⟨⟨k.g.os.trans h.g.os, k.g.tape.trans h.g.tape, k.g.output.trans h.g.output, Nat.le_trans h.g.size k.g.size, fun i hi hne => (k.g.block i (Nat.lt_of_lt_of_le hi h.g.size) hne).trans (h.g.block i hi hne)⟩, k.s.trans h.s, fun j hj => (k.c j hj).trans (h.c j hj), fun j => (k.z j).trans (h.z j)⟩
theorem SameBut.set (w : World) (b o n j : Nat) (v : Value) (hj : o ≤ j ∧ j < o + n) : SameBut w (w.setCell ⟨b, j, none⟩ v) b o n :=
  ⟨⟨rfl, rfl, rfl, by rw [setCell_size]; exact Nat.le_refl _, fun i hi hne => setCell_block _ _ _ _ _ (by simpa using hne)⟩, setCell_size _ _ _, fun k hk => World.cell?_setCell_other _ _ _ _ (by intro hh; injection hh with _ h2; omega), fun k => World.frozen?_setCell _ _ _ _⟩
theorem TabIn.set {w : World} {b o : Nat} {t : Fl.Tab} (h : TabIn w b o t) (x y : Nat) (hx : x < 6) (hy : y < 6) (v : Bool) : TabIn (w.setCell ⟨b, o + x * 6 + y, none⟩ (.bool v)) b o (fun i j => if i = x ∧ j = y then v else t i j) := by
  intro i j hi hj
  show _ = some (Value.bool (if i = x ∧ j = y then v else t i j))
  by_cases hij : i = x ∧ j = y
  · obtain ⟨rfl, rfl⟩ := hij
    rw [if_pos ⟨rfl, rfl⟩]
    exact World.cell?_setCell_same' _ _ _ (by simp [h i j hi hj])
  · rw [if_neg hij]
    refine (World.cell?_setCell_other _ _ _ _ ?_).trans (h i j hi hj)
    intro hh; injection hh with _ h2
    apply hij; omega
namespace Fl
def lacks (n : Nat) (t : Tab) : Nat := ((List.range n).map fun i => ((List.range n).map fun j => if t i j then 0 else 1).sum).sum
theorem sum_map_le (l : List Nat) (f g : Nat → Nat) (h : ∀ x ∈ l, f x ≤ g x) : (l.map f).sum ≤ (l.map g).sum := by
  induction l with
  | nil => simp
  | cons x r ih => simp only [List.map_cons, List.sum_cons]; have := h x (by simp); have := ih (fun y hy => h y (by simp [hy])); omega
theorem sum_map_lt (l : List Nat) (f g : Nat → Nat) (h : ∀ x ∈ l, f x ≤ g x) (z : Nat) (hz : z ∈ l) (hlt : f z < g z) : (l.map f).sum < (l.map g).sum := by
  induction l with
  | nil => cases hz
  | cons x r ih =>
    simp only [List.map_cons, List.sum_cons]
    have h1 := h x (by simp)
    rcases List.mem_cons.1 hz with rfl | hz
    · have := sum_map_le r f g (fun y hy => h y (by simp [hy])); omega
    · have := ih (fun y hy => h y (by simp [hy])) hz; omega
theorem lacks_set (n : Nat) (t : Tab) (x y : Nat) (hx : x < n) (hy : y < n) (h : t x y = false) : lacks n (fun i j => if i = x ∧ j = y then true else t i j) < lacks n t := by
  unfold lacks
  refine sum_map_lt _ _ _ (fun i _ => sum_map_le _ _ _ (fun j _ => ?_)) x (by simpa using hx) (sum_map_lt _ _ _ (fun j _ => ?_) y (by simpa using hy) ?_)
  · by_cases hij : i = x ∧ j = y
    · simp [hij]
    · simp [hij]
  · by_cases hij : j = y
    · simp [hij]
    · simp [hij]
  · simp [h]
end Fl
def isYes : Option Value → Bool
  | some (.bool b) => b
  | _ => false
theorem lacks_tab {w : World} {b o n : Nat} {t : Fl.Tab} (h : TabIn w b o t) (hn : n ≤ 6) : Fl.lacks n (fun i j => isYes (w.cell? ⟨b, o + i * 6 + j, none⟩)) = Fl.lacks n t := by
  unfold Fl.lacks
  congr 1
  apply List.map_congr_left
  intro i hi
  congr 1
  apply List.map_congr_left
  intro j hj
  simp only [h i j (by simp at hi; omega) (by simp at hj; omega), isYes]

set_option maxRecDepth 100000 in
set_option maxHeartbeats 4000000 in
theorem complete_any (b o n : Nat) (t : Fl.Tab) (w : World) (hn : n ≤ 6) (ht : TabIn w b o t) (hz : ∀ j, w.frozen? ⟨b, j, none⟩ = false) :
    Calls Tryz.prog 91 #[.pointer (some ⟨b, o, none⟩), .int .i64 n] w fun e w' => e = .returned (.tuple #[]) ∧ SameBut w w' b o 36 ∧ ∃ t', TabIn w' b o t' ∧ (∀ i j, i < n → j < n → t' i j = Fl.fw n t i j) := by
  have HT : Hid (TabIn w b o t) := ht
  have HZ : Hid (∀ j, w.frozen? ⟨b, j, none⟩ = false) := hz
  clear ht hz
  go_enter Tryz.func91, Tryz.ntmps91
  obtain ⟨J, hJ⟩ : ∃ J : Act → World → Prop, J = fun a' w' => ∃ (t' : Fl.Tab), (∃ (u2 u3 u4 u5 u6 u7 u8 u9 u10 u11 u12 u13 u14 u15 u16 u17 u18 u19 u20 u21 u22 u23 u24 u25 u26 u27 u28 u29 u30 u31 u32 u33 u34 u35 u36 u37 u38 u39 u40 u41 u42 u43 u44 u45 u46 u47 u48 u49 u50 u51 u52 u53 : Value), a' = { tmps := #[.pointer (some ⟨b, o, none⟩), .int .i64 n, u2, u3, u4, u5, u6, u7, u8, u9, u10, u11, u12, u13, u14, u15, u16, u17, u18, u19, u20, u21, u22, u23, u24, u25, u26, u27, u28, u29, u30, u31, u32, u33, u34, u35, u36, u37, u38, u39, u40, u41, u42, u43, u44, u45, u46, u47, u48, u49, u50, u51, u52, u53], defers := [] }) ∧ SameBut w w' b o 36 ∧ TabIn w' b o t' ∧ (∀ i j, t i j = true → t' i j = true) ∧ (∀ i j, i < n → j < n → t' i j = true → Fl.fw n t i j = true) := ⟨_, rfl⟩
  obtain ⟨μ, hμ⟩ : ∃ μ : Act → World → Nat, μ = fun a' w' => Fl.lacks n (fun i j => isYes (w'.cell? ⟨b, o + i * 6 + j, none⟩)) := ⟨_, rfl⟩
  have HJ : Hid (J = _) := hJ
  have HMU : Hid (μ = _) := hμ
  refine wp_scope_again 0 J μ ?_ ?_
  · rw [hJ]; exact ⟨t, ⟨_, _, _, _, _, _, _, _, _, _, _, _, _, _, _, _, _, _, _, _, _, _, _, _, _, _, _, _, _, _, _, _, _, _, _, _, _, _, _, _, _, _, _, _, _, _, _, _, _, _, _, _, rfl⟩, SameBut.refl _ _ _ _, HT.out, fun _ _ h => h, fun i j _ _ h => Fl.fw_le _ _ _ _ h⟩
  intro a' W hJW
  rw [hJ] at hJW
  obtain ⟨t', ⟨u2, u3, u4, u5, u6, u7, u8, u9, u10, u11, u12, u13, u14, u15, u16, u17, u18, u19, u20, u21, u22, u23, u24, u25, u26, u27, u28, u29, u30, u31, u32, u33, u34, u35, u36, u37, u38, u39, u40, u41, u42, u43, u44, u45, u46, u47, u48, u49, u50, u51, u52, u53, rfl⟩, hs, hT', hsub, hsup⟩ := hJW
  have HS : Hid (SameBut w W b o 36) := hs
  have HT2 : Hid (TabIn W b o t') := hT'
  have HSUB : Hid (∀ i j, t i j = true → t' i j = true) := hsub
  have HSUP : Hid (∀ i j, i < n → j < n → t' i j = true → Fl.fw n t i j = true) := hsup
  have hnI : (n : Int) ≤ 6 := by omega
  clear hs hT' hsub hsup hJ hμ
  go_wp2_with fail
  go_loopw [8] (fun i wr => wr = W ∧ ∃ k : Nat, k ≤ n ∧ i = .int .i64 k ∧ ∀ x y z, x < k → y < n → z < n → t' x y = true → t' y z = true → t' x z = true) (fun i _ => n - (intOf i).toNat)
  case atStart => exact ⟨rfl, 0, by omega, rfl, fun x y z hx => by omega⟩
  case round =>
    obtain ⟨hwr, k1, hk1, rfl, hc1⟩ := hrel
    have HC1 : Hid (∀ x y z, x < k1 → y < n → z < n → t' x y = true → t' y z = true → t' x z = true) := hc1
    rw [hwr]
    clear hc1 hwr wr
    by_cases hlt1 : k1 < n
    · have h1I : (k1 : Int) < (n : Int) := by omega
      go_wp2_with fail
      go_loopw [12] (fun i wr2 => wr2 = W ∧ ∃ k : Nat, k ≤ n ∧ i = .int .i64 k ∧ ∀ y z, y < k → z < n → t' k1 y = true → t' y z = true → t' k1 z = true) (fun i _ => n - (intOf i).toNat)
      case atStart => exact ⟨rfl, 0, by omega, rfl, fun y z hy => by omega⟩
      case round =>
        obtain ⟨hwr, k2, hk2, rfl, hc2⟩ := hrel
        have HC2 : Hid (∀ y z, y < k2 → z < n → t' k1 y = true → t' y z = true → t' k1 z = true) := hc2
        rw [hwr]
        clear hc2 hwr wr
        by_cases hlt2 : k2 < n
        · have h2I : (k2 : Int) < (n : Int) := by omega
          go_wp2_with fail
          go_loopw [16] (fun i wr3 => wr3 = W ∧ ∃ k : Nat, k ≤ n ∧ i = .int .i64 k ∧ ∀ z, z < k → t' k1 k2 = true → t' k2 z = true → t' k1 z = true) (fun i _ => n - (intOf i).toNat)
          case atStart => exact ⟨rfl, 0, by omega, rfl, fun z hz => by omega⟩
          case round =>
            obtain ⟨hwr, k3, hk3, rfl, hc3⟩ := hrel
            have HC3 : Hid (∀ z, z < k3 → t' k1 k2 = true → t' k2 z = true → t' k1 z = true) := hc3
            rw [hwr]
            clear hc3 hwr wr
            by_cases hlt3 : k3 < n
            · have h3I : (k3 : Int) < (n : Int) := by omega
              have q12 := HT2.out k1 k2 (by omega) (by omega)
              have q23 := HT2.out k2 k3 (by omega) (by omega)
              have q13 := HT2.out k1 k3 (by omega) (by omega)
              have qz : ∀ j, W.frozen? ⟨b, j, none⟩ = false := fun j => (HS.out.z j).trans (HZ.out j)
              obtain ⟨x12, hx12⟩ : ∃ x, x = t' k1 k2 := ⟨_, rfl⟩
              obtain ⟨x23, hx23⟩ : ∃ x, x = t' k2 k3 := ⟨_, rfl⟩
              obtain ⟨x13, hx13⟩ : ∃ x, x = t' k1 k3 := ⟨_, rfl⟩
              rw [← hx12] at q12
              rw [← hx23] at q23
              rw [← hx13] at q13
              have H12 : Hid (x12 = t' k1 k2) := hx12
              have H23 : Hid (x23 = t' k2 k3) := hx23
              have H13 : Hid (x13 = t' k1 k3) := hx13
              have HN3 : Hid ((x12 = true → x23 = true → x13 = true) → ∀ z, z < k3 + 1 → t' k1 k2 = true → t' k2 z = true → t' k1 z = true) := fun h z hz h1 h2 => by
                by_cases hzk : z = k3
                · subst hzk; rw [← hx13]; exact h (by rw [hx12]; exact h1) (by rw [hx23]; exact h2)
                · exact HC3.out z (by omega) h1 h2
              clear hx12 hx23 hx13
              cases x12 <;> cases x23 <;> cases x13
              case true.true.false =>
                have HJN : Hid (∀ a', (∃ (u2 u3 u4 u5 u6 u7 u8 u9 u10 u11 u12 u13 u14 u15 u16 u17 u18 u19 u20 u21 u22 u23 u24 u25 u26 u27 u28 u29 u30 u31 u32 u33 u34 u35 u36 u37 u38 u39 u40 u41 u42 u43 u44 u45 u46 u47 u48 u49 u50 u51 u52 u53 : Value), a' = { tmps := #[.pointer (some ⟨b, o, none⟩), .int .i64 n, u2, u3, u4, u5, u6, u7, u8, u9, u10, u11, u12, u13, u14, u15, u16, u17, u18, u19, u20, u21, u22, u23, u24, u25, u26, u27, u28, u29, u30, u31, u32, u33, u34, u35, u36, u37, u38, u39, u40, u41, u42, u43, u44, u45, u46, u47, u48, u49, u50, u51, u52, u53], defers := [] }) → ∀ a0, J a' (W.setCell ⟨b, o + k1 * 6 + k3, none⟩ (.bool true)) ∧ μ a' (W.setCell ⟨b, o + k1 * 6 + k3, none⟩ (.bool true)) < μ a0 W) := fun a' ha' a0 => by
                  have hts := HT2.out.set k1 k3 (by omega) (by omega) true
                  refine ⟨?_, ?_⟩
                  · rw [HJ.out]
                    refine ⟨_, ha', HS.out.trans (SameBut.set _ _ _ _ _ _ (by omega)), hts, fun i j h => ?_, fun i j hi hj h => ?_⟩
                    · show (if i = k1 ∧ j = k3 then true else t' i j) = true
                      split
                      · rfl
                      · exact HSUB.out i j h
                    · have h' : (if i = k1 ∧ j = k3 then true else t' i j) = true := h
                      by_cases hij : i = k1 ∧ j = k3
                      · rw [hij.1, hij.2]
                        exact Fl.fw_trans _ _ k2 _ _ hlt2 (HSUP.out _ _ hlt1 hlt2 H12.out.symm) (HSUP.out _ _ hlt2 hlt3 H23.out.symm)
                      · rw [if_neg hij] at h'; exact HSUP.out i j hi hj h'
                  · rw [HMU.out]
                    show Fl.lacks n _ < Fl.lacks n _
                    rw [lacks_tab hts hn, lacks_tab HT2.out hn]
                    exact Fl.lacks_set n t' k1 k3 hlt1 hlt3 H13.out.symm
                go_wp2_with fail
                go_step3
                exact ⟨rfl, HJN.out _ ⟨_, _, _, _, _, _, _, _, _, _, _, _, _, _, _, _, _, _, _, _, _, _, _, _, _, _, _, _, _, _, _, _, _, _, _, _, _, _, _, _, _, _, _, _, _, _, _, _, _, _, _, _, rfl⟩ _⟩
              all_goals
                have HN4 : Hid (∀ z, z < k3 + 1 → t' k1 k2 = true → t' k2 z = true → t' k1 z = true) := HN3.out (by decide)
                go_wp2
                go_roundw
                case rel => exact ⟨by first | rfl | trivial, k3 + 1, by omega, by go_num, HN4.out⟩
                case measure => simp [intOf]; omega
            · have h3I : ¬ (k3 : Int) < (n : Int) := by omega
              go_wp2
              go_roundw
              case rel =>
                refine ⟨by first | rfl | trivial, k2 + 1, by omega, by go_num, fun y z hy hz h1 h2 => ?_⟩
                by_cases hyk : y = k2
                · subst hyk; exact HC3.out z (by omega) h1 h2
                · exact HC2.out y z (by omega) hz h1 h2
              case measure => simp [intOf]; omega
        · have h2I : ¬ (k2 : Int) < (n : Int) := by omega
          go_wp2
          go_roundw
          case rel =>
            refine ⟨by first | rfl | trivial, k1 + 1, by omega, by go_num, fun x y z hx hy hz h1 h2 => ?_⟩
            by_cases hxk : x = k1
            · subst hxk; exact HC2.out y z (by omega) hz h1 h2
            · exact HC1.out x y z (by omega) hy hz h1 h2
          case measure => simp [intOf]; omega
    · have h1I : ¬ (k1 : Int) < (n : Int) := by omega
      have HFIN : Hid (∀ i j, i < n → j < n → t' i j = Fl.fw n t i j) := Fl.fw_unique n t t' (fun a b c ha hb hc h1 h2 => HC1.out a b c (by omega) hb hc h1 h2) (fun i j _ _ h => HSUB.out i j h) HSUP.out
      go_wp2_with fail
      simp only [Exit.jump]
      go_end0
      exact ⟨rfl, HS.out, t', HT2.out, HFIN.out⟩
end Go.Proofs.YthfacjlghcdndaaGreatDoor

namespace Go.Proofs.YthfacjlghcdndaaGreatDoor
open Go.RowKit

theorem isJoin_no1 {n : Nat} {t : Fl.Tab} {a b k : Nat} (h : t a k = false) : Fl.isJoin n t a b k = false := by simp [Fl.isJoin, h]
theorem isJoin_no2 {n : Nat} {t : Fl.Tab} {a b k : Nat} (h : t b k = false) : Fl.isJoin n t a b k = false := by simp [Fl.isJoin, h]
theorem isJoin_no3 {n : Nat} {t : Fl.Tab} {a b k j : Nat} (hj : j < n) (h1 : t a j = true) (h2 : t b j = true) (h3 : t k j = false) : Fl.isJoin n t a b k = false := by
  rw [Bool.eq_false_iff]; intro h
  have := ((Fl.isJoin_iff n t a b k).1 h).2.2 j hj h1 h2
  rw [h3] at this; cases this

set_option maxRecDepth 100000 in
set_option maxHeartbeats 4000000 in
theorem bound_any (n a b : Nat) (t : Fl.Tab) (f : FuncId) (cap : Array Value) (w : World) (hn : n ≤ 6) (ha : a < n) (hb : b < n) (hin : ∀ args W, (callFunc f args).run Tryz.prog W = .ok (.enter f args) W)
    (hf : ∀ x y : Nat, x < n → y < n → Calls Tryz.prog f (#[.int .i64 x, .int .i64 y] ++ cap) w fun e w' => e = .returned (.bool (t x y)) ∧ w' = w) :
    Calls Tryz.prog 102 #[.int .i64 n, .int .i64 a, .int .i64 b, .func (.func f) #[] cap] w fun e w' => e = .returned (.int .i64 (Fl.join n t a b)) ∧ w' = w := by
  have HF : Hid _ := hf
  have hnI : (n : Int) ≤ 6 := by omega
  clear hf
  go_enter Tryz.func102, Tryz.ntmps102
  go_wp2_with fail
  go_step3
  go_wp2_with fail
  go_step3
  go_wp2_with fail
  go_loopw [12] (fun i wr => wr = w ∧ ∃ k : Nat, k ≤ n ∧ i = .int .i64 k ∧ ∀ j, j < k → Fl.isJoin n t a b j = false) (fun i _ => n - (intOf i).toNat)
  case atStart => exact ⟨rfl, 0, by omega, rfl, fun j hj => by omega⟩
  case round =>
    obtain ⟨hwr, k, hk, rfl, hc⟩ := hrel
    have HC : Hid (∀ j, j < k → Fl.isJoin n t a b j = false) := hc
    rw [hwr]
    clear hc hwr wr
    by_cases hlt : k < n
    · have hI : (k : Int) < (n : Int) := by omega
      have HNK : Hid (Fl.isJoin n t a b k = false → ∀ j, j < k + 1 → Fl.isJoin n t a b j = false) := fun h j hj => by
        by_cases hjk : j = k
        · subst hjk; exact h
        · exact HC.out j (by omega)
      obtain ⟨xa, hxa⟩ : ∃ x, x = t a k := ⟨_, rfl⟩
      obtain ⟨xb, hxb⟩ : ∃ x, x = t b k := ⟨_, rfl⟩
      have HXA : Hid (xa = t a k) := hxa
      have HXB : Hid (xb = t b k) := hxb
      have HCA := HF.out a k ha hlt
      have HCB := HF.out b k hb hlt
      rw [← hxa] at HCA
      rw [← hxb] at HCB
      have HCA' : Hid _ := HCA
      have HCB' : Hid _ := HCB
      clear hxa hxb HCA HCB
      go_wp2_with fail
      refine Calls.mono HCA'.out ?_
      rintro e w1 ⟨rfl, hw1⟩
      rw [hw1]
      clear hw1 HCA'
      cases xa with
      | false =>
        have HN : Hid (∀ j, j < k + 1 → Fl.isJoin n t a b j = false) := HNK.out (isJoin_no1 HXA.out.symm)
        go_wp2
        go_roundw
        case rel => exact ⟨by first | rfl | trivial, k + 1, by omega, by go_num, HN.out⟩
        case measure => simp [intOf]; omega
      | true =>
        go_wp2_with fail
        refine Calls.mono HCB'.out ?_
        rintro e w1 ⟨rfl, hw1⟩
        rw [hw1]
        clear hw1 HCB'
        cases xb with
        | false =>
          have HN : Hid (∀ j, j < k + 1 → Fl.isJoin n t a b j = false) := HNK.out (isJoin_no2 HXB.out.symm)
          go_wp2
          go_roundw
          case rel => exact ⟨by first | rfl | trivial, k + 1, by omega, by go_num, HN.out⟩
          case measure => simp [intOf]; omega
        | true =>
          go_wp2_with fail
          go_loopw [28] (fun i wr => wr = w ∧ ∃ d : Nat, d ≤ n ∧ i = .int .i64 d ∧ ∀ j, j < d → t a j = true → t b j = true → t k j = true) (fun i _ => n - (intOf i).toNat)
          case atStart => exact ⟨rfl, 0, by omega, rfl, fun j hj => by omega⟩
          case round =>
            obtain ⟨hwr, d, hd, rfl, hcd⟩ := hrel
            have HCD : Hid (∀ j, j < d → t a j = true → t b j = true → t k j = true) := hcd
            rw [hwr]
            clear hcd hwr wr
            by_cases hdl : d < n
            · have hdI : (d : Int) < (n : Int) := by omega
              obtain ⟨ya, hya⟩ : ∃ x, x = t a d := ⟨_, rfl⟩
              obtain ⟨yb, hyb⟩ : ∃ x, x = t b d := ⟨_, rfl⟩
              obtain ⟨yc, hyc⟩ : ∃ x, x = t k d := ⟨_, rfl⟩
              have C1 := HF.out a d ha hdl
              have C2 := HF.out b d hb hdl
              have C3 := HF.out k d hlt hdl
              rw [← hya] at C1
              rw [← hyb] at C2
              rw [← hyc] at C3
              have HC1 : Hid _ := C1
              have HC2 : Hid _ := C2
              have HC3 : Hid _ := C3
              have HYA : Hid (ya = t a d) := hya
              have HYB : Hid (yb = t b d) := hyb
              have HYC : Hid (yc = t k d) := hyc
              have HND : Hid ((ya = true → yb = true → yc = true) → ∀ j, j < d + 1 → t a j = true → t b j = true → t k j = true) := fun h j hj h1 h2 => by
                by_cases hjd : j = d
                · subst hjd; rw [← hyc]; exact h (by rw [hya]; exact h1) (by rw [hyb]; exact h2)
                · exact HCD.out j (by omega) h1 h2
              clear C1 C2 C3 hya hyb hyc
              go_wp2_with fail
              refine Calls.mono HC1.out ?_
              rintro e w1 ⟨rfl, hw1⟩
              rw [hw1]
              clear hw1 HC1
              cases ya with
              | false =>
                have HN : Hid (∀ j, j < d + 1 → t a j = true → t b j = true → t k j = true) := HND.out (by simp)
                go_wp2
                go_roundw
                case rel => exact ⟨by first | rfl | trivial, d + 1, by omega, by go_num, HN.out⟩
                case measure => simp [intOf]; omega
              | true =>
                go_wp2_with fail
                refine Calls.mono HC2.out ?_
                rintro e w1 ⟨rfl, hw1⟩
                rw [hw1]
                clear hw1 HC2
                cases yb with
                | false =>
                  have HN : Hid (∀ j, j < d + 1 → t a j = true → t b j = true → t k j = true) := HND.out (by simp)
                  go_wp2
                  go_roundw
                  case rel => exact ⟨by first | rfl | trivial, d + 1, by omega, by go_num, HN.out⟩
                  case measure => simp [intOf]; omega
                | true =>
                  go_wp2_with fail
                  refine Calls.mono HC3.out ?_
                  rintro e w1 ⟨rfl, hw1⟩
                  rw [hw1]
                  clear hw1 HC3
                  cases yc with
                  | true =>
                    have HN : Hid (∀ j, j < d + 1 → t a j = true → t b j = true → t k j = true) := HND.out (by simp)
                    go_wp2
                    go_roundw
                    case rel => exact ⟨by first | rfl | trivial, d + 1, by omega, by go_num, HN.out⟩
                    case measure => simp [intOf]; omega
                  | false =>
                    have HN : Hid (∀ j, j < k + 1 → Fl.isJoin n t a b j = false) := HNK.out (isJoin_no3 hdl HYA.out.symm HYB.out.symm HYC.out.symm)
                    go_wp2
                    exact ⟨⟨by first | rfl | trivial, k + 1, by omega, by go_num, HN.out⟩, by simp [intOf]; omega⟩
            · have hdI : ¬ (d : Int) < (n : Int) := by omega
              have HJ : Hid (Fl.join n t a b = (k : Int)) := Fl.firstK_hit hlt ((Fl.isJoin_iff n t a b k).2 ⟨HXA.out.symm, HXB.out.symm, fun j hj h1 h2 => HCD.out j (by omega) h1 h2⟩) HC.out
              go_wp2_with fail
              go_ret
              exact ⟨by rw [HJ.out]; rfl, rfl⟩
    · have hI : ¬ (k : Int) < (n : Int) := by omega
      have HJ : Hid (Fl.join n t a b = -1) := Fl.firstK_miss (fun j hj => HC.out j (by omega))
      go_wp2_with fail
      go_ret
      exact ⟨by rw [HJ.out]; rfl, rfl⟩
end Go.Proofs.YthfacjlghcdndaaGreatDoor
