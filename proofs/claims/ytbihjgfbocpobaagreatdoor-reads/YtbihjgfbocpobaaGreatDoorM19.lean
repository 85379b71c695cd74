/- Texts CdShape Cdk CdPl Lnj. -/
import Derived.Test.YtbihjgfbocpobaaGreatDoorM18
/- Nodes that were read: what is known of them. -/
set_option linter.unusedSimpArgs false
set_option linter.unusedVariables false
namespace Go.Proofs.YtbihjgfbocpobaaGreatDoor
open Go.RowKit
namespace Fl

/-- A node that may stand at k, but for those ahead of it. -/
def good (k : Nat) (nd : Node) : Prop := sound nd = true ∧ (prem nd).any (fun p => decide ((k : Int) ≤ p)) = false
theorem inR_of {x : Int} (h : 0 ≤ x ∧ x < 2147483648) : inR x = true := by simp [inR, h.1, h.2]
theorem getD_inR {l : List Int} (h : ∀ x ∈ l, 0 ≤ x ∧ x < 2147483648) (i : Nat) : inR (l.getD i 0) = true := by
  rw [List.getD_eq_getElem?_getD]
  cases he : l[i]? with
  | none => rfl
  | some x => exact inR_of (h x (List.mem_of_getElem? he))
theorem getD_out {l : List Int} {i : Nat} (h : l.length ≤ i) : l.getD i 0 = 0 := by
  rw [List.getD_eq_getElem?_getD, List.getElem?_eq_none h]; rfl
theorem okV_get {l : List Int} (h : ∀ x ∈ l, 0 ≤ x ∧ x < 2147483648) {f : Nat} (hl : l.length = f) (i : Nat) : okV (f : Int) (i : Int) (l.getD i 0) = true := by
  unfold okV; rw [getD_inR h i, Bool.true_and, Bool.or_eq_true, decide_eq_true_eq, decide_eq_true_eq]
  by_cases hi : i < f
  · left; omega
  · right; exact getD_out (by omega)
theorem oneFin_good' {p k : Nat} {nd : Node} {e : Int} (h : ¬ (oneFin p k nd e).2.1 < 0) (hs : sound nd = true) : good k (oneFin p k nd e).1 := by
  unfold oneFin at *
  split at h
  · exact absurd (show (-1 : Int) < 0 by decide) h
  · rename_i hn
    rw [if_neg hn]; exact ⟨hs, by simpa using hn⟩
theorem one_good' (s : List UInt8) (p k : Nat) (hp : p ≤ s.length) (h : ¬ (one s p k).2.1 < 0) : good k (one s p k).1 := by
  unfold one at *
  by_cases h0 : p = s.length
  · rw [if_pos h0] at h; exact absurd (show (-1 : Int) < 0 by decide) h
  rw [if_neg h0] at h ⊢
  simp only at h ⊢
  have hx : (s.getD p 0).toNat < 256 := (s.getD p 0).toNat_lt
  generalize (s.getD p 0).toNat = x at *
  by_cases h1 : fields (x : Int) = -2
  · rw [if_pos h1] at h; exact absurd (show (-1 : Int) < 0 by decide) h
  rw [if_neg h1] at h ⊢
  by_cases h2 : (num s (p + 1)).2.1 < 0
  · rw [if_pos h2] at h; exact absurd (show (-1 : Int) < 0 by decide) h
  rw [if_neg h2] at h ⊢
  obtain ⟨v, q, hn, _, hq, hv⟩ := num_split s (p + 1) (by omega) h2
  rw [hn] at h ⊢
  simp only [Int.toNat_natCast] at h ⊢
  have hvR : inR (v : Int) = true := inR_of ⟨by omega, by omega⟩
  by_cases h3 : fields (x : Int) = -1
  · rw [if_pos h3] at h ⊢
    by_cases h4 : (num s q).2.1 < 0
    · rw [if_pos h4] at h; exact absurd (show (-1 : Int) < 0 by decide) h
    rw [if_neg h4] at h ⊢
    by_cases h5 : 16 < (num s q).1
    · rw [if_pos h5] at h; exact absurd (show (-1 : Int) < 0 by decide) h
    rw [if_neg h5] at h ⊢
    obtain ⟨m, q2, hm, _, hq2, _⟩ := num_split s q hq h4
    rw [hm] at h h5 ⊢
    simp only [Int.toNat_natCast] at h h5 ⊢
    by_cases h6 : (nums s q2 m).2.1 < 0
    · rw [if_pos h6] at h; exact absurd (show (-1 : Int) < 0 by decide) h
    rw [if_neg h6] at h ⊢
    refine oneFin_good' h ?_
    rcases nums_ok s q2 m hq2 with h7 | ⟨_, _, h8, h9⟩
    · omega
    · simp only [sound, h3, hvR, h8, okV, Bool.and_eq_true, decide_eq_true_eq, Bool.or_eq_true]
      refine ⟨by omega, by first | trivial | rfl, by omega, ⟨by first | rfl | trivial, .inr (by first | rfl | trivial)⟩, ⟨by first | rfl | trivial, .inr (by first | rfl | trivial)⟩, ⟨by first | rfl | trivial, .inr (by first | rfl | trivial)⟩, ?_, .inl (by first | trivial | rfl)⟩
      rw [List.all_eq_true]; intro y hy; exact inR_of (h9 y hy)
  · rw [if_neg h3] at h ⊢
    have hf0 := fields_lt (x : Int)
    obtain ⟨f, hf⟩ : ∃ f : Nat, fields (x : Int) = (f : Int) := ⟨(fields (x : Int)).toNat, by omega⟩
    rw [hf] at h ⊢
    simp only [Int.toNat_natCast] at h ⊢
    by_cases h6 : (nums s q f).2.1 < 0
    · rw [if_pos h6] at h; exact absurd (show (-1 : Int) < 0 by decide) h
    rw [if_neg h6] at h ⊢
    refine oneFin_good' h ?_
    rcases nums_ok s q f hq with h7 | ⟨_, _, h8, h9⟩
    · omega
    · have g0 := okV_get h9 h8 0
      have g1 := okV_get h9 h8 1
      have g2 := okV_get h9 h8 2
      simp only [sound, hf, hvR, Bool.and_eq_true, decide_eq_true_eq, Bool.or_eq_true]
      refine ⟨by omega, by first | trivial | rfl, by simp, ?_, ?_, ?_, by simp, .inr (by first | rfl | trivial)⟩
      · simpa using g0
      · simpa using g1
      · simpa using g2
theorem sound_fits {nd : Node} (h : sound nd = true) : fits nd ∧ 0 ≤ nd.kind ∧ nd.kind < 8 := by
  simp only [sound, Bool.and_eq_true, decide_eq_true_eq, okV] at h
  obtain ⟨h1, h2, h3, ⟨h4, _⟩, ⟨h5, _⟩, ⟨h6, _⟩, h7, _⟩ := h
  have hk : 0 ≤ nd.kind ∧ nd.kind < 8 := by unfold fields at h1; (repeat' split at h1) <;> omega
  exact ⟨⟨inR_of ⟨hk.1, by omega⟩, h2, h4, h5, h6, h3, h7⟩, hk⟩
theorem prem_inR {nd : Node} (h : sound nd = true) : ∀ p ∈ prem nd, 0 ≤ p := by
  obtain ⟨⟨_, _, ha, hb, hc, _, hl⟩, _⟩ := sound_fits h
  have q : ∀ {x : Int}, inR x = true → 0 ≤ x := fun h => by simp only [inR, Bool.and_eq_true, decide_eq_true_eq] at h; exact h.1
  intro p hp
  unfold prem at hp
  repeat' split at hp
  all_goals try simp only [List.mem_cons, List.not_mem_nil, or_false] at hp
  all_goals first | (rcases hp with rfl | rfl | rfl <;> first | exact q ha | exact q hb | exact q hc) | (rcases hp with rfl | rfl <;> first | exact q ha | exact q hb | exact q hc) | (subst hp; first | exact q ha | exact q hb | exact q hc) | exact q (List.all_eq_true.1 hl p hp) | exact hp.elim
/-- Nodes, each of which may stand where it stands, but for those that are the same, and those that none is by. -/
def allGood (ns : List Node) : Prop := ∀ i, i < ns.length → good i (nth ns i)
theorem allGood_snoc {ns : List Node} {nd : Node} (h : allGood ns) (hg : good ns.length nd) : allGood (ns ++ [nd]) := by
  intro i hi
  simp only [List.length_append, List.length_cons, List.length_nil] at hi
  by_cases h1 : i < ns.length
  · have : nth (ns ++ [nd]) i = nth ns i := by simp [nth, List.getD_eq_getElem?_getD, List.getElem?_append_left h1]
    rw [this]; exact h i h1
  · have hi' : i = ns.length := by omega
    subst hi'
    have : nth (ns ++ [nd]) ns.length = nd := by simp [nth, List.getD_eq_getElem?_getD]
    rw [this]; exact hg
theorem good_lt {k : Nat} {nd : Node} (h : good k nd) {p : Int} (hp : p ∈ prem nd) : 0 ≤ p ∧ p < k := by
  refine ⟨prem_inR h.1 p hp, ?_⟩
  have := h.2
  rw [List.any_eq_false] at this
  have := this p hp
  simp only [decide_eq_true_eq] at this; omega
theorem shaped_good {ns : List Node} (h : allGood ns) : shaped ns = if 0 ≤ firstDup ns then firstDup ns else firstUn ns := by
  have hb : ∀ k, k < ns.length → bad ns k = dupAt ns k := fun k hk => by
    have := h k hk
    unfold bad dupAt; rw [this.1, this.2]; rfl
  have hu : ∀ k, used ns k = usedBy ns ns.length k := fun k => by
    unfold used usedBy
    rw [Bool.eq_iff_iff, List.any_eq_true, List.any_eq_true]
    constructor
    · rintro ⟨j, hj, hh⟩; exact ⟨j, hj, (Bool.and_eq_true_iff.1 hh).2⟩
    · rintro ⟨j, hj, hh⟩
      refine ⟨j, hj, ?_⟩
      rw [Bool.and_eq_true]; refine ⟨?_, hh⟩
      rw [List.any_eq_true] at hh
      obtain ⟨p, hp, he⟩ := hh
      have := good_lt (h j (by simpa using hj)) hp
      rw [beq_iff_eq] at he
      rw [decide_eq_true_eq]; omega
  have hfind : (List.range ns.length).find? (bad ns) = (List.range ns.length).find? (dupAt ns) := by
    have : ∀ (l : List Nat), (∀ k ∈ l, k < ns.length) → l.find? (bad ns) = l.find? (dupAt ns) := by
      intro l
      induction l with
      | nil => intro _; rfl
      | cons x l ih => intro hl; simp only [List.find?_cons, hb x (hl x (by simp)), ih (fun k hk => hl k (by simp [hk]))]
    exact this _ (fun k hk => by simpa using hk)
  unfold shaped firstDup firstUn
  rw [hfind]
  cases hd : (List.range ns.length).find? (dupAt ns) with
  | some k => simp only; rw [if_pos (by omega)]
  | none =>
    simp only
    rw [if_neg (by decide)]
    have : (fun k => !used ns k) = (fun k => !usedBy ns ns.length k) := by funext k; rw [hu]
    rw [this]
    cases (List.range (ns.length - 1)).find? (fun k => !usedBy ns ns.length k) <;> rfl
end Fl
end Go.Proofs.YtbihjgfbocpobaaGreatDoor

/- The program: what can be asked only of all nodes. -/
set_option linter.unusedSimpArgs false
set_option linter.unusedVariables false
namespace Go.Proofs.YtbihjgfbocpobaaGreatDoor
open Go.RowKit

theorem firstDup_lt (ns : List Fl.Node) : Fl.firstDup ns < (ns.length : Int) := by
  unfold Fl.firstDup
  cases hf : (List.range ns.length).find? (Fl.dupAt ns) with
  | some k => have := List.mem_of_find?_eq_some hf; simp at this; simp only; omega
  | none => simp only; omega
theorem firstUn_lt (ns : List Fl.Node) : Fl.firstUn ns < (ns.length : Int) := by
  unfold Fl.firstUn
  cases hf : (List.range (ns.length - 1)).find? (fun k => !Fl.usedBy ns ns.length k) with
  | some k => have := List.mem_of_find?_eq_some hf; simp at this; simp only; omega
  | none => simp only; omega
/-- How needAll ends. -/
def AllEnds (ns : List Fl.Node) (st : List Int) (w : World) (e : Ending) (w' : World) : Prop :=
  Below w.heap.size w w' ∧ (0 ≤ Fl.shaped ns → e = .panicked (stopAt 8 (st.getD (Fl.shaped ns).toNat 0))) ∧ (¬ 0 ≤ Fl.shaped ns → e = .returned (.tuple #[]))

set_option maxRecDepth 100000 in
set_option maxHeartbeats 4000000 in
theorem needAll_any (ns : List Fl.Node) (st : List Int) (nv sv : Value) (b : Nat) (w : World) (hn : NodesAt w.heap.size w nv ns) (hs : IntsAt w.heap.size w sv st) (hl : st.length = ns.length) (hlen : ns.length ≤ 1000) (hg : Fl.allGood ns) (hc : w.cell? ⟨b, 34, none⟩ = some sv) :
    Calls Tryz.prog 72 #[.pointer (some ⟨b, 0, none⟩), nv] w (AllEnds ns st w) := by
  have hlb : b < w.heap.size := World.block_lt_of_cell? w _ hc
  have hfit : ∀ i, i < ns.length → Fl.fits (Fl.nth ns i) := fun i hi => (Fl.sound_fits (hg i hi).1).1
  have HS1 : Hid (Calls Tryz.prog 90 #[nv] w fun e w' => e = .returned (.int .i64 (Fl.firstDup ns)) ∧ Below w.heap.size w w') := firstSame_any ns nv w hn hfit hlen
  have HU1 : Hid (∀ w1, Below w.heap.size w w1 → Calls Tryz.prog 58 #[nv] w1 fun e w' => e = .returned (.int .i64 (Fl.firstUn ns)) ∧ Below w1.heap.size w1 w') := fun w1 h1 =>
    firstUnused_any ns nv w1 ((hn.below h1).mono h1.size) hlen (fun i hi => (Fl.sound_fits (hg i hi).1).2) (fun i hi p hp => by have := Fl.good_lt (hg i hi) hp; omega)
  have HSH : Hid (Fl.shaped ns = if 0 ≤ Fl.firstDup ns then Fl.firstDup ns else Fl.firstUn ns) := Fl.shaped_good hg
  have hd1 := firstDup_lt ns
  have hu1 := firstUn_lt ns
  obtain ⟨sao, scap, rfl, _, hsm, hsx⟩ := hs
  have HSX : Hid (st ≠ [] → ∃ b off, sao = some ⟨b, off, none⟩ ∧ b < w.heap.size ∧ ∀ i, i < st.length → w.cell? ⟨b, off + i, none⟩ = some (.int .i64 (st.getD i 0))) := hsx
  have HC : Hid (w.cell? ⟨b, 34, none⟩ = some (.slice sao st.length scap)) := hc
  unfold maxLen at hsm
  clear hsx hc hn hg hfit
  by_cases hd : 0 ≤ Fl.firstDup ns
  · obtain ⟨k, hk⟩ : ∃ k : Nat, Fl.firstDup ns = (k : Int) := ⟨(Fl.firstDup ns).toNat, by omega⟩
    have hkl : k < st.length := by omega
    obtain ⟨sb, so, rfl, hsb, hsc⟩ := HSX.out (by intro h; rw [h] at hkl; simp at hkl)
    have HSH2 : Hid (Fl.shaped ns = (k : Int)) := by show _ = _; rw [HSH.out, if_pos hd, hk]
    rw [hk] at HS1 hd1
    have hsck := hsc k hkl
    have hki : (k : Int) < (st.length : Int) := by omega
    clear hd hk hsc
    go_enter Tryz.func72, Tryz.ntmps72
    go_wp2_with fail
    refine (HS1.out).mono ?_
    rintro e w1 ⟨rfl, hb1⟩
    have c34 : w1.cell? ⟨b, 34, none⟩ = some (.slice (some ⟨sb, so, none⟩) st.length scap) := (hb1.cell (p := ⟨b, 34, none⟩) hlb).trans HC.out
    have ck : w1.cell? ⟨sb, so + k, none⟩ = some (.int .i64 (st.getD k 0)) := (hb1.cell (p := ⟨sb, so + k, none⟩) hsb).trans hsck
    have HB1 : Hid (Below w.heap.size w w1) := hb1
    clear hb1 hsck
    generalize hx : st.getD k 0 = x at *
    have HX : Hid (st.getD k 0 = x) := hx
    clear hx
    go_wp2_with fail
    refine (need_bad _ _ _).mono ?_
    rintro e w2 ⟨rfl, hb2⟩
    refine ⟨rfl, HB1.out.trans (hb2.mono HB1.out.size), fun _ => ?_, fun h => absurd (by rw [HSH2.out]; omega) h⟩
    rw [HSH2.out, Int.toNat_natCast, HX.out]
  · obtain ⟨d, hdd⟩ : ∃ d, d = Fl.firstDup ns := ⟨_, rfl⟩
    rw [← hdd] at HS1 hd hd1
    have HSH2 : Hid (Fl.shaped ns = Fl.firstUn ns) := by show _ = _; rw [HSH.out, ← hdd, if_neg hd]
    clear hdd HSH
    by_cases hu : 0 ≤ Fl.firstUn ns
    · obtain ⟨k, hk⟩ : ∃ k : Nat, Fl.firstUn ns = (k : Int) := ⟨(Fl.firstUn ns).toNat, by omega⟩
      have hkl : k < st.length := by omega
      obtain ⟨sb, so, rfl, hsb, hsc⟩ := HSX.out (by intro h; rw [h] at hkl; simp at hkl)
      rw [hk] at HU1 hu1 HSH2
      have hsck := hsc k hkl
      have hki : (k : Int) < (st.length : Int) := by omega
      clear hu hk hsc
      go_enter Tryz.func72, Tryz.ntmps72
      go_wp2_with fail
      refine (HS1.out).mono ?_
      rintro e w1 ⟨rfl, hb1⟩
      have HB1 : Hid (Below w.heap.size w w1) := hb1
      clear hb1
      go_wp2_with fail
      refine (HU1.out w1 HB1.out).mono ?_
      rintro e w2 ⟨rfl, hb2⟩
      have hb2' : Below w.heap.size w w2 := HB1.out.trans (hb2.mono HB1.out.size)
      have c34 : w2.cell? ⟨b, 34, none⟩ = some (.slice (some ⟨sb, so, none⟩) st.length scap) := (hb2'.cell (p := ⟨b, 34, none⟩) hlb).trans HC.out
      have ck : w2.cell? ⟨sb, so + k, none⟩ = some (.int .i64 (st.getD k 0)) := (hb2'.cell (p := ⟨sb, so + k, none⟩) hsb).trans hsck
      have HB2 : Hid (Below w.heap.size w w2) := hb2'
      clear hb2 hsck hb2'
      generalize hx : st.getD k 0 = x at *
      have HX : Hid (st.getD k 0 = x) := hx
      clear hx
      go_wp2_with fail
      refine (need_bad _ _ _).mono ?_
      rintro e w3 ⟨rfl, hb3⟩
      refine ⟨rfl, HB2.out.trans (hb3.mono HB2.out.size), fun _ => ?_, fun h => absurd (by rw [HSH2.out]; omega) h⟩
      rw [HSH2.out, Int.toNat_natCast, HX.out]
    · obtain ⟨u, huu⟩ : ∃ u, u = Fl.firstUn ns := ⟨_, rfl⟩
      rw [← huu] at HU1 hu hu1 HSH2
      clear huu
      go_enter Tryz.func72, Tryz.ntmps72
      go_wp2_with fail
      refine (HS1.out).mono ?_
      rintro e w1 ⟨rfl, hb1⟩
      have HB1 : Hid (Below w.heap.size w w1) := hb1
      clear hb1
      go_wp2_with fail
      refine (HU1.out w1 HB1.out).mono ?_
      rintro e w2 ⟨rfl, hb2⟩
      have HB2 : Hid (Below w.heap.size w w2) := HB1.out.trans (hb2.mono HB1.out.size)
      clear hb2
      go_wp2
      go_end0
      exact ⟨HB2.out, fun h => absurd h (by rw [HSH2.out]; omega), fun _ => rfl⟩
end Go.Proofs.YtbihjgfbocpobaaGreatDoor

/- The reading of a proof: what its loop holds in memory. -/
set_option linter.unusedSimpArgs false
set_option linter.unusedVariables false
namespace Go.Proofs.YtbihjgfbocpobaaGreatDoor
open Go.RowKit

/-- Of what was there nothing has turned but cells 1 and 34 of block b. -/
structure Fr (w w' : World) (b : Nat) : Prop where
  g : w.grownBy w' (some b)
  o : ∀ j, j ≠ 1 → j ≠ 34 → w'.cell? ⟨b, j, none⟩ = w.cell? ⟨b, j, none⟩
  f : ∀ j, w'.frozen? ⟨b, j, none⟩ = w.frozen? ⟨b, j, none⟩
theorem Mv.fr {w w' : World} {b : Nat} (h : Mv w w' b) : Fr w w' b := ⟨h.g, fun j h1 _ => h.o j h1, h.f⟩
theorem Fr.trans {w w1 w2 : World} {b : Nat} (h : Fr w w1 b) (k : Fr w1 w2 b) : Fr w w2 b :=
  ⟨⟨k.g.os.trans h.g.os, k.g.tape.trans h.g.tape, k.g.output.trans h.g.output, Nat.le_trans h.g.size k.g.size, fun i hi hne => (k.g.block i (Nat.lt_of_lt_of_le hi h.g.size) hne).trans (h.g.block i hi hne)⟩,
   fun j hj hj' => (k.o j hj hj').trans (h.o j hj hj'), fun j => (k.f j).trans (h.f j)⟩
theorem Fr.andGrown {w w1 w2 : World} {b : Nat} {row : Option Nat} (h : Fr w w1 b) (g : w1.grownBy w2 row) (hb : b < w.heap.size) (hall : ∀ k, row = some k → w.heap.size ≤ k) : Fr w w2 b := by
  have hne : ∀ k, k < w.heap.size → some k ≠ row := fun k hk e => by have := hall k e.symm; omega
  have hz := h.g.size
  refine ⟨⟨g.os.trans h.g.os, g.tape.trans h.g.tape, g.output.trans h.g.output, Nat.le_trans h.g.size g.size, fun k hk hkb => (g.block k (by omega) (hne k hk)).trans (h.g.block k hk hkb)⟩, fun j hj hj' => ?_, fun j => ?_⟩
  · exact (World.cell?_of_block (w := w1) (a := ⟨b, j, none⟩) (g.block b (by omega) (hne b hb))).trans (h.o j hj hj')
  · exact (World.frozen?_of_block (w := w1) (a := ⟨b, j, none⟩) (g.block b (by omega) (hne b hb))).trans (h.f j)
theorem Fr.set34 (w : World) (b : Nat) (u : Value) : Fr w (w.setCell ⟨b, 34, none⟩ u) b :=
  ⟨grown_set w b 34 u, fun j _ hj => nd_off (fun e => hj e.symm), fun j => World.frozen?_setCell _ _ _ _⟩

/-- What lies from a block on stays. -/
structure Stay (base : Nat) (w w' : World) : Prop where
  size : w.heap.size ≤ w'.heap.size
  block : ∀ k, base ≤ k → k < w.heap.size → w'.heap[k]? = w.heap[k]?
theorem Stay.alloc (base : Nat) (w : World) (o : Obj) : Stay base w (w.alloc o) := ⟨by simp, fun k _ hk => Below.heap_alloc _ _ _ hk⟩
theorem Stay.grown {base : Nat} {w w' : World} {row : Option Nat} (g : w.grownBy w' row) (h : ∀ k, row = some k → k < base) : Stay base w w' := ⟨g.size, fun k hb hk => g.block k hk (fun e => by have := h k e.symm; omega)⟩
theorem Stay.below {base : Nat} {w w' : World} (h : Below w.heap.size w w') : Stay base w w' := ⟨h.size, fun k _ hk => h.block k hk⟩
theorem Stay.trans {base : Nat} {w w1 w2 : World} (h : Stay base w w1) (k : Stay base w1 w2) : Stay base w w2 := ⟨Nat.le_trans h.size k.size, fun i hb hi => (k.block i hb (Nat.lt_of_lt_of_le hi h.size)).trans (h.block i hb hi)⟩
theorem own_stay {base : Nat} {w w' : World} {e : TypeId} {size : Nat} {v : Value} {n : Nat} {xs : List Value} (h : w.ownsRow base e size v n xs) (s : Stay base w w') : w'.ownsRow base e size v n xs := by
  refine ⟨h.1, ?_⟩
  rcases h.2 with hn | ⟨g, cap, cur, hv, hb, hg, rest⟩
  · exact .inl hn
  · exact .inr ⟨g, cap, cur, hv, hb, (s.block g hb (Array.getElem?_eq_some_iff.1 hg).1).trans hg, rest⟩
theorem ints_stay {base : Nat} {w w' : World} {lv : Value} {xs : List Int} (h : IntsAt w.heap.size w lv xs) (hb : xs ≠ [] → ∀ b, lv.ownBlock = some b → base ≤ b) (s : Stay base w w') : IntsAt w'.heap.size w' lv xs := by
  obtain ⟨ao, cap, rfl, hc, hl, hx⟩ := h
  refine ⟨ao, cap, rfl, hc, hl, fun hne => ?_⟩
  obtain ⟨b, off, rfl, hlt, hcell⟩ := hx hne
  have hbb := hb hne b rfl
  exact ⟨b, off, rfl, Nat.lt_of_lt_of_le hlt s.size, fun i hi => (World.cell?_of_block (w := w) (a := ⟨b, off + i, none⟩) (s.block b hbb hlt)).trans (hcell i hi)⟩

/-- Two lists that are appended to, and lists that stay; all from a block on. -/
structure Li (base : Nat) (w : World) (fam : List (Value × List Int)) (sv nv : Value) (n1 n2 : Nat) (xs ys : List Value) : Prop where
  hs : w.ownsRow base 3 1 sv n1 xs
  hn : w.ownsRow base 53 6 nv n2 ys
  hall : ∀ p, p ∈ fam → Kept w p.1 p.2 sv nv ∧ (p.2 ≠ [] → ∀ b, p.1.ownBlock = some b → base ≤ b)
section
variable {base : Nat} {w w' : World} {fam : List (Value × List Int)} {sv nv : Value} {n1 n2 : Nat} {xs ys : List Value}
theorem Li.stay (h : Li base w fam sv nv n1 n2 xs ys) (s : Stay base w w') : Li base w' fam sv nv n1 n2 xs ys :=
  ⟨own_stay h.hs s, own_stay h.hn s, fun p hp => ⟨⟨ints_stay (h.hall p hp).1.1 (h.hall p hp).2 s, (h.hall p hp).1.2⟩, (h.hall p hp).2⟩⟩
theorem Li.first (h : Li base w fam sv nv n1 n2 xs ys) {sv' : Value} {n1' : Nat} {xs' : List Value} (ho : w'.ownsRow base 3 1 sv' n1' xs') (hg : w.grownBy w' sv.ownBlock) (hw : sv'.ownBlock = sv.ownBlock ∨ sv'.ownBlock = some w.heap.size) : Li base w' fam sv' nv n1' n2 xs' ys :=
  ⟨ho, h.hn.kept hg (own_types h.hn h.hs (by decide)), fun p hp => ⟨(h.hall p hp).1.first hg hw, (h.hall p hp).2⟩⟩
theorem Li.second (h : Li base w fam sv nv n1 n2 xs ys) {nv' : Value} {n2' : Nat} {ys' : List Value} (ho : w'.ownsRow base 53 6 nv' n2' ys') (hg : w.grownBy w' nv.ownBlock) (hw : nv'.ownBlock = nv.ownBlock ∨ nv'.ownBlock = some w.heap.size) : Li base w' fam sv nv' n1 n2' xs ys' :=
  ⟨h.hs.kept hg (own_types h.hs h.hn (by decide)), ho, fun p hp => ⟨(h.hall p hp).1.second hg hw, (h.hall p hp).2⟩⟩
theorem Li.add (h : Li base w fam sv nv n1 n2 xs ys) {lvn : Value} {l : List Int} {N : Nat} (hi : IntsAt w.heap.size w lvn l) (hf : ∀ b, lvn.ownBlock = some b → N ≤ b) (hsN : ∀ b, sv.ownBlock = some b → b < N) (hnN : ∀ b, nv.ownBlock = some b → b < N) (hN : base ≤ N) : Li base w (fam ++ [(lvn, l)]) sv nv n1 n2 xs ys := by
  refine ⟨h.hs, h.hn, fun p hp => ?_⟩
  simp only [List.mem_append, List.mem_singleton] at hp
  rcases hp with hp | rfl
  · exact h.hall p hp
  · refine ⟨⟨hi, fun hx => ?_⟩, fun _ b hb => by have := hf b hb; omega⟩
    obtain ⟨b, hb, hlt⟩ := ints_lt hi hx
    have := hf b hb
    exact ⟨fun hh => by have := hsN b (hh.symm.trans hb); omega, fun hh => by have := hnN b (hh.symm.trans hb); omega⟩
end

/-- What the loop over nodes holds: k are read, the next one is at byte q. R: the result's block, P0: the proof's, b: the reader's. -/
structure PL (s : List UInt8) (M q0 : Nat) (w : World) (b P0 : Nat) (lv : Value) (ls : List Int) (wr : World) (k q : Nat) (sv nv : Value) (st : List Int) (acc : List Fl.Node) (lvs : List Value) : Prop where
  hk : k ≤ M
  hq : q ≤ s.length
  hst : st.length = k
  hacc : acc.length = k
  hlvs : lvs.length = k
  hrun : Fl.nodesA s M 0 q0 [] [] = Fl.nodesA s (M - k) k q st acc
  hgood : Fl.allGood acc
  hl : Li (P0 + 1) wr ((lv, ls) :: famOf acc lvs) sv nv k k (st.map (Value.int .i64)) (flat acc lvs)
  c0 : wr.cell? ⟨P0, 0, none⟩ = some lv
  c1 : wr.cell? ⟨P0, 1, none⟩ = some nv
  d0 : wr.cell? ⟨w.heap.size, 0, none⟩ = some (.slice none 0 0)
  d1 : wr.cell? ⟨w.heap.size, 1, none⟩ = some (.slice none 0 0)
  f0 : ∀ j, wr.frozen? ⟨w.heap.size, j, none⟩ = false
  f1 : ∀ j, wr.frozen? ⟨P0, j, none⟩ = false
  fb : ∀ j, wr.frozen? ⟨b, j, none⟩ = false
  fr : Fr w wr b
  a1 : wr.cell? ⟨b, 1, none⟩ = some (.int .i64 (q : Int))
  a34 : wr.cell? ⟨b, 34, none⟩ = some sv
  hR : w.heap.size < P0
  hP : P0 < wr.heap.size
  hb : b < w.heap.size
theorem PL.nodes {s : List UInt8} {M q0 : Nat} {w : World} {b P0 : Nat} {lv : Value} {ls : List Int} {wr : World} {k q : Nat} {sv nv : Value} {st : List Int} {acc : List Fl.Node} {lvs : List Value} (h : PL s M q0 w b P0 lv ls wr k q sv nv st acc lvs) : NodesAt wr.heap.size wr nv acc :=
  nodes_of_own (by rw [h.hacc]; exact h.hl.hn) (by rw [h.hacc, h.hlvs]) (fun i hi => (h.hl.hall _ (by simp only [List.mem_cons]; right; exact famOf_mem acc lvs i (by rw [h.hacc, h.hlvs]) hi)).1.1)
theorem PL.locals {s : List UInt8} {M q0 : Nat} {w : World} {b P0 : Nat} {lv : Value} {ls : List Int} {wr : World} {k q : Nat} {sv nv : Value} {st : List Int} {acc : List Fl.Node} {lvs : List Value} (h : PL s M q0 w b P0 lv ls wr k q sv nv st acc lvs) : IntsAt wr.heap.size wr lv ls := (h.hl.hall (lv, ls) (by simp)).1.1
theorem PL.starts {s : List UInt8} {M q0 : Nat} {w : World} {b P0 : Nat} {lv : Value} {ls : List Int} {wr : World} {k q : Nat} {sv nv : Value} {st : List Int} {acc : List Fl.Node} {lvs : List Value} (h : PL s M q0 w b P0 lv ls wr k q sv nv st acc lvs) : IntsAt wr.heap.size wr sv st := IntsAt.of_own h.hl.hs
end Go.Proofs.YtbihjgfbocpobaaGreatDoor

/- The program's Read: what it holds from line to line. -/
set_option linter.unusedSimpArgs false
set_option linter.unusedVariables false
namespace Go.Proofs.YtbihjgfbocpobaaGreatDoor
open Go.RowKit

structure RdRel (s : List UInt8) (P B : Nat) (W0 W : World) (i : Nat) (rest : List UInt8) (ls : List Int) (lv nv : Value) (acc : List Fl.Node) (lvs : List Value) : Prop where
  hg : Grow ls W0 W P P lv nv acc lvs
  ha : acc.length = i - 1
  hr : Fl.readText s = Fl.readL ls acc i (Fl.cutR 10 rest)
  h0 : i = 0 → ls = [] ∧ nv = .slice none 0 0
  hm : Mid P B W0 W
  hnb : ∀ b, nv.ownBlock = some b → B ≤ b
  hlb : ∀ p, p ∈ (lv, ls) :: famOf acc lvs → p.2 ≠ [] → ∀ b, p.1.ownBlock = some b → B ≤ b
  hz : B ≤ W.heap.size
  hl : rest.length + i ≤ s.length
section
variable {s rest : List UInt8} {P B i : Nat} {W0 W w1 w2 : World} {ls vs : List Int} {lv nv nv' v lvn : Value} {acc : List Fl.Node} {lvs : List Value} {nd : Fl.Node}
theorem RdRel.below (h : RdRel s P B W0 W i rest ls lv nv acc lvs) (hb : Below W.heap.size W w1) : RdRel s P B W0 w1 i rest ls lv nv acc lvs :=
  ⟨h.hg.below hb, h.ha, h.hr, h.h0, h.hm.below h.hz hb, h.hnb, h.hlb, Nat.le_trans h.hz hb.size, h.hl⟩
theorem RdRel.first (h : RdRel s P B W0 W 0 rest ls lv nv acc lvs) (hb : Below W.heap.size W w2) (ho : w2.ownsRow W.heap.size 3 1 v vs.length (vs.map (Value.int .i64))) (hc : (Lib.cut rest [10]).2.2 = true) (hl : Fl.localsOf (Fl.cutR 32 (Lib.cut rest [10]).1) = some vs) :
    RdRel s P B W0 (w2.setCell ⟨P, 0, none⟩ v) 1 (Lib.cut rest [10]).2.1 vs v nv acc lvs := by
  obtain ⟨hls, hnv⟩ := h.h0 rfl
  have hacc : acc = [] := List.eq_nil_of_length_eq_zero (by have := h.ha; omega)
  subst hls hnv hacc
  have hlvs : lvs = [] := List.eq_nil_of_length_eq_zero (by have := h.hg.hl; simpa using this)
  subst hlvs
  have hz := h.hg.hz
  have hz3 := h.hz
  have s2 := hb.size
  have hs : (w2.setCell ⟨P, 0, none⟩ v).heap.size = w2.heap.size := by simp [World.setCell]
  have c0 : w2.cell? ⟨P, 0, none⟩ = some lv := (hb.cell (p := ⟨P, 0, none⟩) hz).trans h.hg.c0
  have c1 : w2.cell? ⟨P, 1, none⟩ = some (.slice none 0 0) := (hb.cell (p := ⟨P, 1, none⟩) hz).trans h.hg.c1
  have fq : ∀ j, w2.frozen? ⟨P, j, none⟩ = false := fun j => (hb.frozen (p := ⟨P, j, none⟩) hz).trans (h.hg.fq j)
  have hov : ∀ b, v.ownBlock = some b → W.heap.size ≤ b := fun b hb => (ho.lt b hb).1
  have hcf := Fl.cut_found 10 rest hc
  refine ⟨Grow.new ?_ (by omega) (ints_set (IntsAt.of_own ho) (fun _ hh => ?_)) (Nat.le_refl _) (fun _ b hb => ?_) (cell_self c0) ((cell_off (by decide)).trans c1) (fun j => by rw [World.frozen?_setCell]; exact fq j), rfl, ?_, fun hh => by omega, ?_, fun b hb => by simp [Value.ownBlock] at hb, ?_, by omega, ?_⟩
  · exact (h.hg.hb.trans (hb.mono (by omega))).setCell (Nat.le_refl _) _
  · have h9 : W.heap.size ≤ P := hov _ hh
    omega
  · have := hov b hb; omega
  · rw [h.hr, hcf.1, Fl.readL_first _ _ _ _ (Fl.cutR_ne _ _), hl]
  · exact (h.hm.below hz3 hb).set 0 v
  · intro p hp _ b hpb
    simp only [famOf, List.mem_singleton] at hp
    subst hp
    have := hov b hpb; omega
  · have := h.hl; have := hcf.2; omega
theorem RdRel.bad0 (h : RdRel s P B W0 W 0 rest ls lv nv acc lvs) (hc : (Lib.cut rest [10]).2.2 = true) (hl : Fl.localsOf (Fl.cutR 32 (Lib.cut rest [10]).1) = none) : (Fl.readText s).2 = 1 := by
  rw [h.hr, (Fl.cut_found 10 rest hc).1, Fl.readL_first _ _ _ _ (Fl.cutR_ne _ _), hl]
theorem RdRel.next (h : RdRel s P B W0 W (i + 1) rest ls lv nv acc lvs) (hb : Below W.heap.size W w1) (hi : IntsAt w1.heap.size w1 lvn nd.list) (hf : ∀ b, lvn.ownBlock = some b → W.heap.size ≤ b)
    (ho : w2.ownsRow (P + 1) 53 6 nv' (acc.length + 1) (flat acc lvs ++ nodeCells nd lvn)) (hg : w1.grownBy w2 nv.ownBlock) (hw : nv'.ownBlock = nv.ownBlock ∨ nv'.ownBlock = some w1.heap.size) (hc : (Lib.cut rest [10]).2.2 = true) (hn : Fl.nodeOf i (Fl.cutR 32 (Lib.cut rest [10]).1) = some nd) :
    RdRel s P B W0 (w2.setCell ⟨P, 1, none⟩ nv') (i + 2) (Lib.cut rest [10]).2.1 ls lv nv' (acc ++ [nd]) (lvs ++ [lvn]) := by
  have s1 := hb.size
  have s2 := hg.size
  have hz3 := h.hz
  have hs : (w2.setCell ⟨P, 1, none⟩ nv').heap.size = w2.heap.size := by simp [World.setCell]
  have hcf := Fl.cut_found 10 rest hc
  refine ⟨h.hg.push hb hi hf ho hg hw, by have := h.ha; simp; omega, ?_, fun hh => by omega, ?_, fun b hb' => ?_, ?_, by omega, ?_⟩
  · rw [h.hr, hcf.1, Fl.readL_next _ _ _ _ _ (Fl.cutR_ne _ _), hn]
  · exact ((h.hm.below hz3 hb).grown (by omega) hg h.hnb).set 1 nv'
  · rcases hw with hw | hw
    · exact h.hnb b (hw ▸ hb')
    · rw [hw] at hb'; simp at hb'; omega
  · intro p hp hne b hpb
    rw [famOf_snoc _ _ _ _ h.hg.hl] at hp
    simp only [List.mem_cons, List.mem_append, List.not_mem_nil, or_false] at hp
    rcases hp with hp | hp | hp
    · exact h.hlb p (by rw [hp]; simp) hne b hpb
    · exact h.hlb p (by simp [hp]) hne b hpb
    · subst hp; have := hf b hpb; omega
  · have := h.hl; have := hcf.2; omega
theorem RdRel.bad (h : RdRel s P B W0 W (i + 1) rest ls lv nv acc lvs) (hc : (Lib.cut rest [10]).2.2 = true) (hn : Fl.nodeOf i (Fl.cutR 32 (Lib.cut rest [10]).1) = none) : (Fl.readText s).2 = i + 2 := by
  rw [h.hr, (Fl.cut_found 10 rest hc).1, Fl.readL_next _ _ _ _ _ (Fl.cutR_ne _ _), hn]
theorem RdRel.open (h : RdRel s P B W0 W i rest ls lv nv acc lvs) (hs : i = 0 ∨ rest ≠ []) (hc : (Lib.cut rest [10]).2.2 = false) : (Fl.readText s).2 = i + 1 := by
  rw [h.hr, Fl.readL_open _ _ _ _ hs hc]
theorem RdRel.ends (h : RdRel s P B W0 W i [] ls lv nv acc lvs) (hi : 0 < i) : Fl.readText s = ((ls, acc), 0) := by
  rw [h.hr, Fl.readL_end _ _ _ hi]
theorem own_base {b b' : Nat} {w : World} {e : TypeId} {k : Nat} {v : Value} {n : Nat} {xs : List Value} (h : w.ownsRow b e k v n xs) (hb : ∀ g, v.ownBlock = some g → b' ≤ g) : w.ownsRow b' e k v n xs := by
  refine ⟨h.1, ?_⟩
  rcases h.2 with hn | ⟨g, cap, cur, hv, hbb, hg, rest⟩
  · exact .inl hn
  · exact .inr ⟨g, cap, cur, hv, hb g (by rw [hv]; rfl), hg, rest⟩
/-- The lists stay, whatever is stored below block B. -/
theorem RdRel.stay (h : RdRel s P B W0 W i rest ls lv nv acc lvs) (hs : Stay B W w2) : IntsAt w2.heap.size w2 lv ls ∧ NodesAt w2.heap.size w2 nv acc := by
  have hk : ∀ p, p ∈ (lv, ls) :: famOf acc lvs → IntsAt w2.heap.size w2 p.1 p.2 := fun p hp => ints_stay (h.hg.hall p hp).1.1 (h.hlb p hp) hs
  exact ⟨hk (lv, ls) (by simp), nodes_of_own (own_stay (own_base h.hg.hn h.hnb) hs) h.hg.hl (fun i hi => hk _ (by simp only [List.mem_cons]; right; exact famOf_mem acc lvs i h.hg.hl hi))⟩
end
end Go.Proofs.YtbihjgfbocpobaaGreatDoor
