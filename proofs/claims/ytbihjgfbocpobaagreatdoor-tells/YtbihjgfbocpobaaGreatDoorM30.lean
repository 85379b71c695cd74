/- Texts RtX RtX2 Lns Lnt. -/
import Derived.Test.YtbihjgfbocpobaaGreatDoorM29
import Derived.Lib.ConvBytes
/- A proof's text, written and read again. -/
set_option linter.unusedSimpArgs false
set_option linter.unusedVariables false
namespace Go.Proofs.YtbihjgfbocpobaaGreatDoor
open Go.RowKit
namespace Fl

theorem cutR_free (c : UInt8) : ∀ (a : List UInt8), (∀ b ∈ a, b ≠ c) → cutR c a = [a]
  | [], _ => rfl
  | x :: r, h => by
    rw [cutR, if_neg (by have := h x List.mem_cons_self; simpa using this), cutR_free c r (fun b hb => h b (List.mem_cons_of_mem _ hb))]; rfl
theorem cutR_line (c : UInt8) (r : List UInt8) : ∀ (a : List UInt8), (∀ b ∈ a, b ≠ c) → cutR c (a ++ c :: r) = a :: cutR c r
  | [], _ => by rw [List.nil_append, cutR, if_pos (by simp)]
  | x :: a, h => by
    rw [List.cons_append, cutR, if_neg (by have := h x List.mem_cons_self; simpa using this), cutR_line c r a (fun b hb => h b (List.mem_cons_of_mem _ hb))]; rfl
/-- A numeral's digits. -/
theorem digits_dig (n : Nat) : (Lib.decDigits n).all isDig = true := by
  induction n using Nat.strongRecOn with
  | _ n ih =>
    have hd : ∀ k, k < 10 → isDig (UInt8.ofNat (48 + k)) = true := fun k hk => by
      rcases (show k = 0 ∨ k = 1 ∨ k = 2 ∨ k = 3 ∨ k = 4 ∨ k = 5 ∨ k = 6 ∨ k = 7 ∨ k = 8 ∨ k = 9 by omega) with rfl | rfl | rfl | rfl | rfl | rfl | rfl | rfl | rfl | rfl <;> decide
    rw [Lib.decDigits]
    by_cases h : n < 10
    · rw [dif_pos h, List.all_cons, hd n h]; rfl
    · rw [dif_neg h, List.all_append, ih (n / 10) (by omega), List.all_cons, hd (n % 10) (by omega)]; rfl
theorem digits_free (n : Nat) (c : UInt8) (hc : isDig c = false) : ∀ b ∈ Lib.decDigits n, b ≠ c := fun b hb h => by
  have := List.all_eq_true.1 (digits_dig n) b hb
  rw [h, hc] at this; cases this
theorem toNat_dig (k : Nat) (hk : k < 10) : (UInt8.ofNat (48 + k)).toNat - 48 = k := by
  rcases (show k = 0 ∨ k = 1 ∨ k = 2 ∨ k = 3 ∨ k = 4 ∨ k = 5 ∨ k = 6 ∨ k = 7 ∨ k = 8 ∨ k = 9 by omega) with rfl | rfl | rfl | rfl | rfl | rfl | rfl | rfl | rfl | rfl <;> decide
theorem digits_val (n : Nat) : val (Lib.decDigits n) = n := by
  induction n using Nat.strongRecOn with
  | _ n ih =>
    rw [Lib.decDigits]
    by_cases h : n < 10
    · rw [dif_pos h]; unfold val; simp only [List.foldl_cons, List.foldl_nil, toNat_dig n h]; omega
    · rw [dif_neg h]
      have := ih (n / 10) (by omega)
      unfold val at this ⊢
      rw [List.foldl_append, this]; simp only [List.foldl_cons, List.foldl_nil, toNat_dig (n % 10) (by omega)]; omega
theorem digits_head (n : Nat) (h0 : n ≠ 0) : (Lib.decDigits n).headD 0 ≠ 48 := by
  induction n using Nat.strongRecOn with
  | _ n ih =>
    rw [Lib.decDigits]
    by_cases h : n < 10
    · rw [dif_pos h]
      rcases (show n = 1 ∨ n = 2 ∨ n = 3 ∨ n = 4 ∨ n = 5 ∨ n = 6 ∨ n = 7 ∨ n = 8 ∨ n = 9 by omega) with rfl | rfl | rfl | rfl | rfl | rfl | rfl | rfl | rfl <;> decide
    · rw [dif_neg h]
      have := ih (n / 10) (by omega) (by omega)
      cases hd : Lib.decDigits (n / 10) with
      | nil => have h5 := Lib.decDigits_length (n / 10); rw [hd] at h5; unfold Lib.nDigits at h5; split at h5 <;> simp at h5
      | cons a r => rw [hd] at this; simpa using this
theorem digits_pos (n : Nat) : 0 < (Lib.decDigits n).length := by
  rw [Lib.decDigits_length]; unfold Lib.nDigits; split <;> omega
theorem number_digits (n : Nat) (h : n < 10000000000) : number (Lib.decDigits n) 10 = (n, true) := by
  have hl : (Lib.decDigits n).length ≤ 10 := by
    rw [← decF_digits 9 n (by simpa using h)]; exact decF_len 9 n
  unfold number
  rw [if_pos (digits_dig n), List.take_of_length_le hl, digits_val]
  unfold numOk
  rw [decide_eq_true (digits_pos n), decide_eq_true hl]
  by_cases h0 : n = 0
  · subst h0; rw [Lib.decDigits_one (by decide)]; decide
  · rw [bne_iff_ne.2 (digits_head n h0)]; rfl
theorem intsOf_digits : ∀ (xs : List Int), (∀ x ∈ xs, 0 ≤ x ∧ x < 2147483648) → intsOf (xs.map fun x => Lib.decDigits x.toNat) = some xs
  | [], _ => rfl
  | x :: r, h => by
    obtain ⟨h0, h1⟩ := h x List.mem_cons_self
    rw [List.map_cons, intsOf, number_digits x.toNat (by omega), if_pos ⟨rfl, by omega⟩, intsOf_digits r (fun y hy => h y (List.mem_cons_of_mem _ hy))]
    simp; omega
/-- A line's words. -/
theorem cutR_blanks : ∀ (xs : List Int) (a : List UInt8), (∀ b ∈ a, b ≠ 32) → cutR 32 (a ++ blanks xs) = a :: xs.map fun x => Lib.decDigits x.toNat
  | [], a, h => by simp only [blanks, List.flatMap_nil, List.append_nil, List.map_nil]; exact cutR_free 32 a h
  | x :: r, a, h => by
    have e : blanks (x :: r) = 32 :: (Lib.decDigits x.toNat ++ blanks r) := by simp [blanks]
    rw [e, cutR_line 32 _ a h, cutR_blanks r _ (digits_free _ 32 (by decide)), List.map_cons]
theorem blanks_free : ∀ (xs : List Int), ∀ b ∈ blanks xs, b ≠ 10
  | [], b, h => by simp [blanks] at h
  | x :: r, b, h => by
    have e : blanks (x :: r) = 32 :: (Lib.decDigits x.toNat ++ blanks r) := by simp [blanks]
    rw [e] at h
    rcases List.mem_cons.1 h with rfl | h
    · decide
    · rcases List.mem_append.1 h with h | h
      · exact digits_free _ 10 (by decide) b h
      · exact blanks_free r b h
end Fl
end Go.Proofs.YtbihjgfbocpobaaGreatDoor

/- A proof's text, written and read again: nodes, the whole. -/
set_option linter.unusedSimpArgs false
set_option linter.unusedVariables false
namespace Go.Proofs.YtbihjgfbocpobaaGreatDoor
open Go.RowKit
namespace Fl

theorem inR_iff (x : Int) : inR x = true ↔ 0 ≤ x ∧ x < 2147483648 := by simp [inR]
theorem sound_kinds {k : Int} (h : fields k ≠ -2) : 0 ≤ k ∧ k < 8 := by
  unfold fields at h
  repeat' split at h
  all_goals omega
/-- A sound node can be told. -/
theorem sound_tellable (n : Node) (h : sound n = true) : Tellable n := by
  simp only [sound, okV, Bool.and_eq_true, Bool.or_eq_true, decide_eq_true_eq, inR_iff, List.all_eq_true] at h
  obtain ⟨h1, h2, h3, h4, h5, h6, h7, h8⟩ := h
  exact ⟨(sound_kinds h1).1, (sound_kinds h1).2, h2, h4.1, h5.1, h6.1, h3, fun x hx => h7 x hx⟩
theorem place_kindWords (k : Nat) (hk : k < 8) : place kindWords (kindWords.getD k []) = (k : Int) := by
  rcases (show k = 0 ∨ k = 1 ∨ k = 2 ∨ k = 3 ∨ k = 4 ∨ k = 5 ∨ k = 6 ∨ k = 7 by omega) with rfl | rfl | rfl | rfl | rfl | rfl | rfl | rfl <;> decide
theorem kindWords_free (k : Nat) (hk : k < 8) : ∀ b ∈ kindWords.getD k [], b ≠ 32 ∧ b ≠ 10 := by
  rcases (show k = 0 ∨ k = 1 ∨ k = 2 ∨ k = 3 ∨ k = 4 ∨ k = 5 ∨ k = 6 ∨ k = 7 by omega) with rfl | rfl | rfl | rfl | rfl | rfl | rfl | rfl <;> decide
theorem lineNums_ok (n : Node) (h : Tellable n) : 1 ≤ (lineNums n).length ∧ ∀ x ∈ lineNums n, 0 ≤ x ∧ x < 2147483648 := by
  obtain ⟨k1, k2, k3, k4, k5, k6, k7, k8⟩ := h
  refine ⟨?_, fun x hx => ?_⟩
  · unfold lineNums; split
    · simp; omega
    · simp
  · unfold lineNums at hx; split at hx
    · have := List.mem_of_mem_take hx
      simp only [List.mem_cons, List.not_mem_nil, or_false] at this
      rcases this with rfl | rfl | rfl | rfl <;> assumption
    · rcases List.mem_cons.1 hx with rfl | hx
      · exact k3
      · exact k8 x hx
/-- A node's line, without its end. -/
def nodeRow (k : Nat) (n : Node) : List UInt8 := Lib.decDigits k ++ (32 :: (kindWords.getD n.kind.toNat [] ++ blanks (lineNums n)))
theorem nodeLine_row (k : Nat) (n : Node) (r : List UInt8) : nodeLine k n ++ r = nodeRow k n ++ 10 :: r := by simp [nodeLine, nodeRow, spaced]
theorem nodeRow_free (k : Nat) (n : Node) (h : Tellable n) : ∀ b ∈ nodeRow k n, b ≠ 10 := by
  obtain ⟨k1, k2, _⟩ := h
  intro b hb
  unfold nodeRow at hb
  rcases List.mem_append.1 hb with hb | hb
  · exact digits_free k 10 (by decide) b hb
  · rcases List.mem_cons.1 hb with rfl | hb
    · decide
    · rcases List.mem_append.1 hb with hb | hb
      · exact (kindWords_free n.kind.toNat (by omega) b hb).2
      · exact blanks_free _ b hb
theorem nodeRow_words (k : Nat) (n : Node) (h : Tellable n) : cutR 32 (nodeRow k n) = Lib.decDigits k :: kindWords.getD n.kind.toNat [] :: (lineNums n).map fun x => Lib.decDigits x.toNat := by
  obtain ⟨k1, k2, _⟩ := h
  unfold nodeRow
  rw [cutR_line 32 _ _ (digits_free k 32 (by decide)), cutR_blanks _ _ (fun b hb => (kindWords_free n.kind.toNat (by omega) b hb).1)]
theorem nodeOf_row (k : Nat) (n : Node) (h : sound n = true) : nodeOf k (cutR 32 (nodeRow k n)) = some n := by
  have ht := sound_tellable n h
  obtain ⟨hl, hr⟩ := lineNums_ok n ht
  have hk1 := ht.1
  have hk2 := ht.2.1
  rw [nodeRow_words k n ht]
  unfold nodeOf
  rw [if_neg (by rintro (hh | hh); simp only [List.length_cons, List.length_map] at hh; omega; exact hh rfl)]
  simp only [List.getD_cons_succ, List.getD_cons_zero, List.drop_succ_cons, List.drop_zero]
  rw [place_kindWords n.kind.toNat (by omega), if_neg (by omega), intsOf_digits _ hr, show ((n.kind.toNat : Nat) : Int) = n.kind by omega]
  simp only [sound, okV, Bool.and_eq_true, Bool.or_eq_true, decide_eq_true_eq, inR_iff, List.all_eq_true] at h
  obtain ⟨h1, h2, h3, h4, h5, h6, h7, h8⟩ := h
  obtain ⟨kd, lv, a, b, c, l⟩ := n
  simp only at *
  have hf := fields_lt kd
  by_cases hneg : fields kd < 0
  · have hf1 : fields kd = -1 := by omega
    rw [if_pos hneg]
    unfold lineNums
    simp only [hf1]
    rw [if_neg (by decide)]
    rw [hf1] at h4 h5 h6
    simp only [List.getD_cons_zero, List.drop_succ_cons, List.drop_zero, Option.some.injEq, Node.mk.injEq, true_and, and_true]
    omega
  · rw [if_neg hneg]
    have hlist : l = [] := by rcases h8 with h8 | h8; omega; exact h8
    subst hlist
    have h0 : fields kd ≠ 0 := by unfold fields; repeat' split <;> omega
    unfold lineNums
    simp only
    rcases (show fields kd = 1 ∨ fields kd = 2 ∨ fields kd = 3 by omega) with hf1 | hf1 | hf1 <;> rw [hf1] at h4 h5 h6 ⊢ <;> simp <;> omega
theorem take_nth (ns : List Node) (i : Nat) (h : i < ns.length) : ns.take (i + 1) = ns.take i ++ [nth ns i] := by
  rw [List.take_add_one, List.getElem?_eq_getElem h]; simp [nth, List.getD_eq_getElem?_getD, h]
theorem readL_nodes (ls : List Int) (ns : List Node) (h : ∀ i, i < ns.length → sound (nth ns i) = true) : ∀ (m i : Nat), i + m = ns.length → readL ls (ns.take i) (i + 1) (cutR 10 ((List.range' i m).flatMap fun j => nodeLine j (nth ns j))) = ((ls, ns), 0)
  | 0, i, hi => by
    rw [List.range'_zero, List.flatMap_nil, cutR, readL_last, if_pos ⟨rfl, by omega⟩, List.take_of_length_le (by omega)]
  | m + 1, i, hi => by
    have hs := h i (by omega)
    rw [List.range'_succ, List.flatMap_cons, nodeLine_row, cutR_line 10 _ _ (nodeRow_free i _ (sound_tellable _ hs)), readL_next _ _ _ _ _ (cutR_ne _ _), nodeOf_row i _ hs]
    have := readL_nodes ls ns h m (i + 1) (by omega)
    rw [take_nth ns i (by omega)] at this
    exact this
/-- A proof's text says it. -/
theorem readText_text (ls : List Int) (ns : List Node) (hl : ∀ x ∈ ls, 0 ≤ x ∧ x < 2147483648) (h : ∀ i, i < ns.length → sound (nth ns i) = true) : readText (text ls ns) = ((ls, ns), 0) := by
  have e : text ls ns = (wLocals ++ blanks ls) ++ 10 :: ((List.range' 0 ns.length).flatMap fun j => nodeLine j (nth ns j)) := by
    simp [text, textTo, spaced, List.range_eq_range']
  have hf : ∀ b ∈ wLocals ++ blanks ls, b ≠ 10 := fun b hb => by
    rcases List.mem_append.1 hb with hb | hb
    · exact (show ∀ b ∈ wLocals, b ≠ 10 by decide) b hb
    · exact blanks_free ls b hb
  unfold readText
  rw [e, cutR_line 10 _ _ hf, readL_first _ _ _ _ (cutR_ne _ _)]
  have hw : localsOf (cutR 32 (wLocals ++ blanks ls)) = some ls := by
    rw [cutR_blanks ls wLocals (by decide)]
    unfold localsOf
    rw [if_neg (by simp)]
    simp only [List.drop_succ_cons, List.drop_zero]
    exact intsOf_digits ls hl
  rw [hw]
  exact readL_nodes ls ns h ns.length 0 (by omega)
end Fl
end Go.Proofs.YtbihjgfbocpobaaGreatDoor

/- The program: flows.Text and plain.Text. -/
set_option linter.unusedSimpArgs false
set_option linter.unusedVariables false
namespace Go.Proofs.YtbihjgfbocpobaaGreatDoor
open Go.RowKit

/-- What a proof that was read is. -/
theorem decode_sound {l : List UInt8} (h : (Fl.decode l).2.1 = true) : (Fl.decode l).1.1.length ≤ 4 ∧ (∀ x ∈ (Fl.decode l).1.1, 0 ≤ x ∧ x < 2147483648) ∧ (Fl.decode l).1.2.length ≤ 200 ∧ ∀ k, k < (Fl.decode l).1.2.length → Fl.sound (Fl.nth (Fl.decode l).1.2 k) = true := by
  have he := Fl.decode_encode h
  unfold Fl.encode at he
  by_cases h1 : 4 < (Fl.decode l).1.1.length ∨ (Fl.decode l).1.2.length = 0 ∨ 200 < (Fl.decode l).1.2.length
  · rw [if_pos h1] at he; simp at he
  rw [if_neg h1] at he
  by_cases h2 : (Fl.decode l).1.1.all Fl.inR = false
  · rw [if_pos h2] at he; simp at he
  rw [if_neg h2] at he
  by_cases h3 : 0 ≤ Fl.shaped (Fl.decode l).1.2
  · rw [if_pos h3] at he; simp at he
  refine ⟨by omega, fun x hx => ?_, by omega, fun k hk => Fl.sound_of_shaped (by omega) k hk⟩
  have h4 : (Fl.decode l).1.1.all Fl.inR = true := by simpa using h2
  exact (Fl.inR_iff x).1 (List.all_eq_true.1 h4 x hx)
theorem sound_list {n : Fl.Node} (h : Fl.sound n = true) (k : Nat) (hk : n.kind = (k : Int)) (h7 : k ≠ 7) : n.list = [] := by
  simp only [Fl.sound, Bool.and_eq_true, Bool.or_eq_true, decide_eq_true_eq] at h
  obtain ⟨h1, _, _, _, _, _, _, h8⟩ := h
  rcases h8 with h8 | h8
  · rw [hk] at h8 h1
    have hr := Fl.sound_kinds h1
    rcases (show k = 0 ∨ k = 1 ∨ k = 2 ∨ k = 3 ∨ k = 4 ∨ k = 5 ∨ k = 6 by omega) with rfl | rfl | rfl | rfl | rfl | rfl | rfl <;> exact absurd h8 (by decide)
  · exact h8

/-- How flows.Text ends. -/
def FlowsText (r : (List Int × List Fl.Node) × Bool × Int) (w : World) (e : Ending) (w' : World) : Prop :=
  Below w.heap.size w w' ∧
  (r.2.1 = false → ∃ q, e = .returned (.tuple #[.string ⟨#[]⟩, .iface 71 (.pointer (some ⟨q, 0, none⟩))]) ∧ w'.cell? ⟨q, 0, none⟩ = some (.int .i64 8) ∧ w'.cell? ⟨q, 1, none⟩ = some (.int .i64 r.2.2)) ∧
  (r.2.1 = true → e = .returned (.tuple #[.string ⟨(Fl.text r.1.1 r.1.2).toArray⟩, .nilIface]))

set_option maxRecDepth 100000 in
set_option maxHeartbeats 2000000 in
theorem flows_text {ao : Option Addr} {cap : Nat} {s : List UInt8} {w : World} (hp : Pows w) (hs : s.length ≤ 1099511627776) (hb : s ≠ [] → ∃ bb bo, ao = some ⟨bb, bo, none⟩ ∧ bb < w.heap.size ∧ ∀ i, i < s.length → w.cell? ⟨bb, bo + i, none⟩ = some (.int .u8 (s.getD i 0).toNat)) :
    Calls Tryz.prog 13 #[.slice ao s.length cap] w (FlowsText (Fl.decode s) w) := by
  have HC : Hid (Calls Tryz.prog 29 #[.slice ao s.length cap] w (DecodeEnds (Fl.decode s) w)) := decode_prog hs hb
  have HP : Hid (Pows w) := hp
  clear hs hb hp
  go_enter Tryz.func13, Tryz.ntmps13
  go_wp2_with fail
  refine HC.out.mono ?_
  rintro e wz ⟨hB, hbad, hgood⟩
  have HB : Hid (Below w.heap.size w wz) := hB
  clear hB HC
  cases hr : (Fl.decode s).2.1 with
  | true =>
    obtain ⟨la, n, lc, na, n', nc, rfl, hst⟩ := hgood hr
    obtain ⟨hd1, hd2, hd3, hd4⟩ := decode_sound hr
    have HRR : Hid ((Fl.decode s).2.1 = true) := hr
    have HTX : Hid (∀ o, Calls Tryz.prog 30 #[.agg #[.slice la n lc, .slice na n' nc]] (wz.alloc o) fun e w' => e = .returned (.string ⟨(Fl.text (Fl.decode s).1.1 (Fl.decode s).1.2).toArray⟩) ∧ Below (wz.alloc o).heap.size (wz.alloc o) w') := fun o => by
      obtain ⟨h1, h2⟩ := hst (wz.alloc o) (Stay.alloc _ _ _)
      exact text_prog _ _ _ _ _ h1 h2 hd1 hd2 hd3 (fun i hi => Fl.sound_tellable _ (hd4 i hi)) (fun i hi k hk h7 => sound_list (hd4 i hi) k hk h7) (HP.out.below (Nat.le_refl _) (HB.out.alloc HB.out.size _))
    obtain ⟨tx, htx⟩ : ∃ tx, tx = Fl.text (Fl.decode s).1.1 (Fl.decode s).1.2 := ⟨_, rfl⟩
    rw [← htx] at HTX
    have HTE : Hid (tx = Fl.text (Fl.decode s).1.1 (Fl.decode s).1.2) := htx
    clear hbad hgood hr hst hd1 hd2 hd3 hd4 htx
    go_wp2_with fail
    refine (HTX.out _).mono ?_
    rintro e w2 ⟨rfl, hb2⟩
    have HB2 : Hid (Below w.heap.size w w2) := (HB.out.alloc HB.out.size _).trans (hb2.mono (HB.out.alloc HB.out.size _).size)
    clear hb2 HTX
    go_wp2
    go_ret2
    exact ⟨HB2.out, fun h => (by rw [HRR.out] at h; cases h), fun _ => by rw [← HTE.out]; rfl⟩
  | false =>
    obtain ⟨q, rfl, q0, q1⟩ := hbad hr
    have HRR : Hid ((Fl.decode s).2.1 = false) := hr
    have HQ : Hid (∀ o, (wz.alloc o).cell? ⟨q, 0, none⟩ = some (.int .i64 8) ∧ (wz.alloc o).cell? ⟨q, 1, none⟩ = some (.int .i64 (Fl.decode s).2.2)) := fun o => ⟨(World.cell?_alloc_lt _ _ _ (World.block_lt_of_cell? wz _ q0)).trans q0, (World.cell?_alloc_lt _ _ _ (World.block_lt_of_cell? wz _ q1)).trans q1⟩
    clear hbad hgood hr q0 q1
    go_wp2
    go_ret2
    exact ⟨HB.out.alloc HB.out.size _, fun _ => ⟨q, rfl, HQ.out _⟩, fun h => by rw [HRR.out] at h; cases h⟩

/-- How plain.Text ends. -/
def PlainText (r : (List Int × List Fl.Node) × Bool × Int) (w : World) (e : Ending) (w' : World) : Prop :=
  Below w.heap.size w w' ∧
  (r.2.1 = false → e = .returned (.tuple #[.string ⟨#[]⟩, .int .i64 8, .int .i64 r.2.2])) ∧
  (r.2.1 = true → e = .returned (.tuple #[.string ⟨(Fl.text r.1.1 r.1.2).toArray⟩, .int .i64 0, .int .i64 (-1)]))

set_option maxRecDepth 100000 in
set_option maxHeartbeats 2000000 in
theorem plain_text {ao : Option Addr} {cap : Nat} {s : List UInt8} {w : World} (hE : ErrType w) (hp : Pows w) (hs : s.length ≤ 1099511627776) (hb : s ≠ [] → ∃ bb bo, ao = some ⟨bb, bo, none⟩ ∧ bb < w.heap.size ∧ ∀ i, i < s.length → w.cell? ⟨bb, bo + i, none⟩ = some (.int .u8 (s.getD i 0).toNat)) :
    Calls Tryz.prog 7 #[.slice ao s.length cap] w (PlainText (Fl.decode s) w) := by
  have HC : Hid (Calls Tryz.prog 13 #[.slice ao s.length cap] w (FlowsText (Fl.decode s) w)) := flows_text hp hs hb
  have HEB : Hid (∀ o, Below w.heap.size w o → ErrType o) := fun o ho => (ho.cell (p := ⟨0, 0, none⟩) (World.block_lt_of_cell? w _ hE)).trans hE
  clear hs hb hp hE
  go_enter Tryz.func7, Tryz.ntmps7
  go_wp2_with fail
  refine HC.out.mono ?_
  rintro e wz ⟨hB, hbad, hgood⟩
  have HB : Hid (Below w.heap.size w wz) := hB
  have hsz := hB.size
  clear hB HC
  cases hr : (Fl.decode s).2.1 with
  | true =>
    obtain rfl := hgood hr
    have HRR : Hid ((Fl.decode s).2.1 = true) := hr
    obtain ⟨tx, htx⟩ : ∃ tx, tx = Fl.text (Fl.decode s).1.1 (Fl.decode s).1.2 := ⟨_, rfl⟩
    rw [← htx]
    have HTE : Hid (tx = Fl.text (Fl.decode s).1.1 (Fl.decode s).1.2) := htx
    clear hbad hgood hr htx
    go_wp2_with fail
    refine (tell_nil _).mono ?_
    rintro e w2 ⟨rfl, hB2⟩
    have HB2 : Hid (Below w.heap.size w w2) := HB.out.trans (hB2.mono (by omega))
    clear hB2
    go_wp2
    go_ret3
    exact ⟨HB2.out, fun h => (by rw [HRR.out] at h; cases h), fun _ => by rw [← HTE.out]; rfl⟩
  | false =>
    obtain ⟨q, rfl, q0, q1⟩ := hbad hr
    have HRR : Hid ((Fl.decode s).2.1 = false) := hr
    clear hbad hgood hr
    go_wp2_with fail
    refine (tell_at q 0 8 (Fl.decode s).2.2 _ (HEB.out _ HB.out) q0 q1).mono ?_
    rintro e w2 ⟨rfl, hB2⟩
    have HB2 : Hid (Below w.heap.size w w2) := HB.out.trans (hB2.mono (by omega))
    clear hB2 q0 q1
    go_wp2
    go_ret3
    exact ⟨HB2.out, fun _ => rfl, fun h => by rw [HRR.out] at h; cases h⟩
end Go.Proofs.YtbihjgfbocpobaaGreatDoor

/- The statement Tells: the walk. -/
set_option linter.unusedSimpArgs false
set_option linter.unusedVariables false
namespace Go.Proofs.YtbihjgfbocpobaaGreatDoor
open Go.RowKit

theorem toList_of' (l : List UInt8) : (⟨l.toArray⟩ : ByteArray).toList = l := by rw [ByteArray.toList_eq]

set_option maxRecDepth 100000 in
set_option maxHeartbeats 4000000 in
theorem told_any (l : List UInt8) (w : World) (hs : l.length ≤ 40000) (hE : ErrType w) (hpw : Pows w) (hmx : MaxLenIs w) :
    Calls Tryz.prog 5 #[.string ⟨l.toArray⟩] w fun e w' => e = .returned (.bool true) ∧ Below w.heap.size w w' := by
  obtain ⟨s, hsl⟩ : ∃ s : ByteArray, s = ⟨l.toArray⟩ := ⟨_, rfl⟩
  rw [← hsl]
  have hsz : s.size = l.length := by rw [hsl]; rfl
  have hld : s.data.toList = l := by rw [hsl]
  have hcv : ∀ W : World, (convert 9 23 (.string s)).run Tryz.prog W = .ok (.slice (some ⟨W.heap.size, 0, none⟩) l.length (grownCap W l.length 0 5)) (Lib.bytesWorld W 5 s) := fun W => by rw [← hsz]; exact Lib.run_convert_string_bytes W 9 23 5 s Tryz.underlying9 Tryz.underlying23 Tryz.underlying5
  have HE : Hid (∀ o, Below w.heap.size w o → ErrType o) := fun o ho => (ho.cell (p := ⟨0, 0, none⟩) (World.block_lt_of_cell? w _ hE)).trans hE
  have HPW : Hid (∀ o, Below w.heap.size w o → Pows o ∧ MaxLenIs o) := fun o ho => ⟨hpw.below (Nat.le_refl _) ho, hmx.below (Nat.le_refl _) ho⟩
  have HSZ : Hid (s.size = l.length) := hsz
  have HLD : Hid (s.data.toList = l) := hld
  have HSL : Hid (s = ⟨l.toArray⟩) := hsl
  clear hE hsz hld hsl hpw hmx
  go_enter Tryz.func5, Tryz.ntmps5
  go_wp2_with fail
  clear hcv
  obtain ⟨cap, hcap⟩ : ∃ cap, cap = grownCap w l.length 0 5 := ⟨_, rfl⟩
  obtain ⟨WB, hWB⟩ : ∃ WB, WB = Lib.bytesWorld w 5 s := ⟨_, rfl⟩
  rw [← hcap, ← hWB]
  have hzB : WB.heap.size = w.heap.size + 1 := by rw [hWB, Lib.bytesWorld_size]
  have hbB : Below w.heap.size w WB := by
    rw [hWB]
    exact ⟨rfl, rfl, rfl, by rw [Lib.bytesWorld_size]; omega, fun k hk => Lib.bytesWorld_at_old _ _ _ k hk⟩
  have hcell : ∀ j, j < l.length → WB.cell? ⟨w.heap.size, j, none⟩ = some (.int .u8 (l.getD j 0).toNat) := fun j hj => by
    have := Lib.bytesWorld_cell w 5 s j (by rw [HSZ.out]; exact hj)
    rw [hWB, this, HLD.out]
  have HCELL : Hid (∀ j, j < l.length → WB.cell? ⟨w.heap.size, j, none⟩ = some (.int .u8 (l.getD j 0).toNat)) := hcell
  have HBB : Hid (Below w.heap.size w WB) := hbB
  have HPT : Hid (Calls Tryz.prog 7 #[.slice (some ⟨w.heap.size, 0, none⟩) l.length cap] WB (PlainText (Fl.decode l) WB)) :=
    plain_text (HE.out _ hbB) (HPW.out _ hbB).1 (by omega) (fun _ => ⟨w.heap.size, 0, rfl, by omega, fun i hi => by rw [Nat.zero_add]; exact hcell i hi⟩)
  clear hcap hWB hbB hcell
  refine (HPT.out).mono ?_
  rintro e w2 ⟨hb2, hbad, hgood⟩
  have HB2 : Hid (Below w.heap.size w w2) := HBB.out.trans (hb2.mono (by omega))
  have hz2 : w.heap.size + 1 ≤ w2.heap.size := by have := hb2.size; omega
  have hcv2 : (convert 23 9 (.slice (some ⟨w.heap.size, 0, none⟩) l.length cap)).run Tryz.prog w2 = .ok (.string s) w2 := by
    rw [HSL.out]
    refine run_convert_bytes_back _ 23 9 5 ⟨w.heap.size, 0, none⟩ cap l Tryz.underlying23 Tryz.underlying5 Tryz.underlying9 (fun j hj => ?_)
    have h2 : (⟨w.heap.size, 0, none⟩ : Addr).add j = ⟨w.heap.size, j, none⟩ := by unfold Addr.add; split <;> simp_all
    rw [h2, hb2.cell (p := ⟨w.heap.size, j, none⟩) (by simp only; omega), HCELL.out j hj]
    simp [List.getD_eq_getElem?_getD, hj]
  have HRD : Hid (∀ W, Calls Tryz.prog 8 #[.string s] W fun e w' => DecEnds (Fl.decode l) W e w') := fun W => by
    have := decode_walk s W (by rw [HSZ.out]; omega)
    rw [show s.toList = l from by rw [HSL.out]; exact toList_of' l] at this
    exact this
  clear hb2 HPT
  cases hr : (Fl.decode l).2.1 with
  | false =>
    obtain rfl := hbad hr
    have HRR : Hid ((Fl.decode l).2.1 = false) := hr
    obtain ⟨pl, hpl⟩ : ∃ pl, pl = (Fl.decode l).2.2 := ⟨_, rfl⟩
    rw [← hpl]
    have HPL : Hid (pl = (Fl.decode l).2.2) := hpl
    clear hbad hgood hr hpl
    go_wp2_with fail
    refine (HRD.out _).mono ?_
    rintro e w3 ⟨hb3, qa, qn, qc, ra, rn, rc, rfl, -⟩
    have HB3 : Hid (∀ o, Below w.heap.size w (w3.alloc o)) := fun o => (HB2.out.trans (hb3.mono HB2.out.size)).alloc (by have := HB2.out.size; have := hb3.size; omega) _
    rw [HRR.out, ← HPL.out]
    clear hb3 hcv2 HRD
    go_wp2
    go_ret
    exact ⟨rfl, HB3.out _⟩
  | true =>
    obtain rfl := hgood hr
    have HRR : Hid ((Fl.decode l).2.1 = true) := hr
    obtain ⟨hd1, hd2, hd3, hd4⟩ := decode_sound hr
    have htx := Fl.readText_text _ _ hd2 hd4
    have hen := Fl.decode_encode hr
    have htl : (Fl.text (Fl.decode l).1.1 (Fl.decode l).1.2).length ≤ 40000 := by
      have := textTo_len (ls := (Fl.decode l).1.1) (ns := (Fl.decode l).1.2) hd1 hd2 (Fl.decode l).1.2.length hd3 (fun i hi => Fl.sound_tellable _ (hd4 i hi))
      show (Fl.textTo _ _ _).length ≤ _
      omega
    obtain ⟨ls, hls⟩ : ∃ ls, ls = (Fl.decode l).1.1 := ⟨_, rfl⟩
    obtain ⟨ns, hns⟩ : ∃ ns, ns = (Fl.decode l).1.2 := ⟨_, rfl⟩
    rw [← hls, ← hns] at htx hen htl ⊢
    rw [← hls] at hd1 hd2
    rw [← hns] at hd3 hd4
    obtain ⟨tx, htxe⟩ : ∃ tx, tx = Fl.text ls ns := ⟨_, rfl⟩
    rw [← htxe] at htx htl ⊢
    have HLN : Hid (ls = (Fl.decode l).1.1 ∧ ns = (Fl.decode l).1.2) := ⟨hls, hns⟩
    have HTE : Hid (tx = Fl.text ls ns) := htxe
    have HTX : Hid (Fl.readText tx = ((ls, ns), 0)) := htx
    have HEN : Hid (Fl.encode ls ns = (l, true, -1)) := hen
    have HD : Hid (ls.length ≤ 4 ∧ (∀ x ∈ ls, 0 ≤ x ∧ x < 2147483648) ∧ ns.length ≤ 200 ∧ ∀ k, k < ns.length → Fl.sound (Fl.nth ns k) = true) := ⟨hd1, hd2, hd3, hd4⟩
    have HTL : Hid (tx.length ≤ 40000) := htl
    clear hbad hgood hr hls hns htxe htx hen hd1 hd2 hd3 hd4 htl
    go_wp2_with fail
    refine (HRD.out _).mono ?_
    rintro e w3 ⟨hb3, qa, qn, qc, ra, rn, rc, rfl, hq⟩
    obtain ⟨hq1, hq2⟩ := hq HRR.out
    rw [← HLN.out.1] at hq1
    rw [← HLN.out.2] at hq2
    have hz3 : w2.heap.size ≤ w3.heap.size := hb3.size
    have HB3 : Hid (∀ o, Below w.heap.size w (w3.alloc o)) := fun o => (HB2.out.trans (hb3.mono HB2.out.size)).alloc (by omega) _
    have HTA : Hid (∀ o, Calls Tryz.prog 9 #[.agg #[.slice qa qn qc, .slice ra rn rc]] (w3.alloc o) fun e w' => e = .returned (.string ⟨tx.toArray⟩) ∧ Below (w3.alloc o).heap.size (w3.alloc o) w') := fun o => by
      have hb9 : Below w3.heap.size w3 (w3.alloc o) := (Below.refl _ _).alloc (Nat.le_refl _) _
      have := text_any ls ns (.slice qa qn qc) (.slice ra rn rc) _ (w3.alloc o) (by simp) (hq1.below hb9) (hq2.below hb9) HD.out.1 HD.out.2.1 HD.out.2.2.1 (fun i hi => Fl.sound_tellable _ (HD.out.2.2.2 i hi))
      rw [← HTE.out] at this; exact this
    rw [HRR.out]
    clear hb3 hcv2 HRD hq1 hq2 hq
    go_wp2_with fail
    refine (HTA.out _).mono ?_
    rintro e w4 ⟨rfl, hb4⟩
    have HB4 : Hid (Below w.heap.size w w4) := (HB3.out _).trans (hb4.mono (by simp; omega))
    have HPB : Hid (Calls Tryz.prog 10 #[.string ⟨tx.toArray⟩] w4 (PlainBytes tx w4)) := plain_bytes (HE.out _ HB4.out) HTL.out (HPW.out _ HB4.out).1 (HPW.out _ HB4.out).2
    have hz4 : w.heap.size ≤ w4.heap.size := HB4.out.size
    clear hb4 HTA
    go_wp2_with fail
    refine HPB.out.mono ?_
    rintro e w5 ⟨hb5, -, hgood5⟩
    obtain ⟨-, -, hg5⟩ := hgood5 (by rw [HTX.out])
    rw [HTX.out, HEN.out] at hg5
    obtain ⟨va, n, c, rfl, ho⟩ := hg5 rfl
    have HNE : Hid (l ≠ []) := by
      intro h9
      have h8 := HRR.out
      rw [h9] at h8
      rw [show Fl.decode [] = (([], []), false, 0) from by simp [Fl.decode, Fl.headAt, Fl.headOk]] at h8; cases h8
    obtain ⟨g, hva, hn⟩ : ∃ g, va = some ⟨g, 0, none⟩ ∧ n = l.length := by
      rcases ho.2 with ⟨h0, h0'⟩ | ⟨g, cap, cur, hv, _⟩
      · exact absurd (List.eq_nil_of_length_eq_zero h0') HNE.out
      · simp only [Value.slice.injEq] at hv; exact ⟨g, hv.1, hv.2.1⟩
    subst hva hn
    have HB5 : Hid (Below w.heap.size w w5) := HB4.out.trans (hb5.mono (by omega))
    have hcv5 : (convert 23 9 (.slice (some ⟨g, 0, none⟩) l.length c)).run Tryz.prog w5 = .ok (.string s) w5 := by
      rw [HSL.out]
      exact run_convert_bytes_back w5 23 9 5 ⟨g, 0, none⟩ c l Tryz.underlying23 Tryz.underlying5 Tryz.underlying9 (fun j hj => by
        have := ho.cells (g := g) rfl j (bval l[j]) (by simp [hj])
        exact this)
    clear hb5 hgood5 hg5 ho HPB
    go_wp2
    go_ret
    exact ⟨rfl, HB5.out⟩

set_option maxRecDepth 100000 in
set_option maxHeartbeats 1000000 in
theorem tells_any (l : List UInt8) (w : World) (hs : l.length ≤ 9223372036854775807) (hE : ErrType w) (hpw : Pows w) (hmx : MaxLenIs w) :
    Calls Tryz.prog 3 #[.string ⟨l.toArray⟩] w fun e w' => e = .returned (.bool true) ∧ Below w.heap.size w w' := by
  have hsz : (⟨l.toArray⟩ : ByteArray).size = l.length := by show l.toArray.size = _; simp
  by_cases hbig : 32768 < l.length
  · have hbi : (32768 : Int) < (l.length : Int) := by omega
    clear hE hpw hmx
    go_enter Tryz.func3, Tryz.ntmps3
    go_wp2
    go_ret
    exact ⟨rfl, Below.refl _ _⟩
  · have hbi : ¬ (32768 : Int) < (l.length : Int) := by omega
    have HD : Hid (Calls Tryz.prog 5 #[.string ⟨l.toArray⟩] w fun e w' => e = .returned (.bool true) ∧ Below w.heap.size w w') := told_any l w (by omega) hE hpw hmx
    clear hE hpw hmx
    go_enter Tryz.func3, Tryz.ntmps3
    go_wp2_with fail
    refine HD.out.mono ?_
    rintro e w1 ⟨rfl, hb1⟩
    have HB1 : Hid (Below w.heap.size w w1) := hb1
    clear HD hb1
    go_wp2
    go_ret
    exact ⟨rfl, HB1.out⟩
end Go.Proofs.YtbihjgfbocpobaaGreatDoor
