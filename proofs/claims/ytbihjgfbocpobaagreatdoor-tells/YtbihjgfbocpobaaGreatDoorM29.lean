/- Texts Rt3 Lnq Lnr0 Lnr. -/
import Derived.Test.YtbihjgfbocpobaaGreatDoorM28
import Derived.Laws.IdiomStrings
/- Bytes there and back: a proof. -/
set_option linter.unusedSimpArgs false
set_option linter.unusedVariables false
namespace Go.Proofs.YtbihjgfbocpobaaGreatDoor
open Go.RowKit
namespace Fl

theorem head_back {s : List UInt8} (h : ¬ headAt s < 3) : s = [70, 80, 49] ++ s.drop 3 ∧ 3 ≤ s.length := by
  unfold headAt at h
  cases h0 : headOk s 0 with
  | false => rw [if_pos h0] at h; omega
  | true =>
    cases h1 : headOk s 1 with
    | false => rw [if_neg (by rw [h0]; simp), if_pos h1] at h; omega
    | true =>
      cases h2 : headOk s 2 with
      | false => rw [if_neg (by rw [h0]; simp), if_neg (by rw [h1]; simp), if_pos h2] at h; omega
      | true =>
        simp only [headOk, Bool.and_eq_true, decide_eq_true_eq, beq_iff_eq] at h0 h1 h2
        match s, h2.1 with
        | a :: b :: c :: t, _ =>
          have e0 := h0.2; have e1 := h1.2; have e2 := h2.2
          simp at e0 e1 e2
          subst e0 e1 e2
          exact ⟨rfl, by simp⟩
theorem head_coded (t : List UInt8) : headAt ([70, 80, 49] ++ t) = 3 := by
  simp [headAt, headOk]

/-- Bytes that are a proof are its bytes. -/
theorem decode_encode {s : List UInt8} (h : (decode s).2.1 = true) : encode (decode s).1.1 (decode s).1.2 = (s, true, -1) := by
  unfold decode at h ⊢
  by_cases h0 : headAt s < 3
  · rw [if_pos h0] at h; simp at h
  rw [if_neg h0] at h ⊢
  obtain ⟨hs, h3⟩ := head_back h0
  simp only at h ⊢
  have hno := num_ok s 3 h3
  by_cases h1 : (num s 3).2.1 < 0
  · rw [if_pos h1] at h; simp at h
  rw [if_neg h1] at h ⊢
  obtain ⟨v, a1, a2, a3, a4⟩ := num_back h3 (show 0 ≤ (num s 3).2.1 by omega)
  rw [a3] at hno
  rw [a1, a3] at h ⊢
  by_cases h2 : (4 : Int) < (v : Int)
  · rw [if_pos h2] at h; simp at h
  rw [if_neg h2] at h ⊢
  simp only [Int.toNat_natCast] at h ⊢
  by_cases h4 : (nums s (3 + (coded v).length) v).2.1 < 0
  · rw [if_pos h4] at h; simp at h
  rw [if_neg h4] at h ⊢
  have hlo := nums_ok s (3 + (coded v).length) v (by omega)
  obtain ⟨ls, b1, b2, b3, b4, b5⟩ := nums_back (s := s) (p := 3 + (coded v).length) (n := v) (by omega) (by omega)
  rw [b4] at hlo
  rw [b1, b4] at h ⊢
  simp only [Int.toNat_natCast] at h ⊢
  have hmo := num_ok s (3 + (coded v).length + (codedAll ls).length) (by omega)
  by_cases h5 : (num s (3 + (coded v).length + (codedAll ls).length)).2.1 < 0
  · rw [if_pos h5] at h; simp at h
  rw [if_neg h5] at h ⊢
  obtain ⟨m, c1, c2, c3, c4⟩ := num_back (s := s) (p := 3 + (coded v).length + (codedAll ls).length) (by omega) (by omega)
  rw [c3] at hmo
  rw [c1, c3] at h ⊢
  by_cases h6 : (m : Int) < 1 ∨ 200 < (m : Int)
  · rw [if_pos h6] at h; simp at h
  rw [if_neg h6] at h ⊢
  simp only [Int.toNat_natCast] at h ⊢
  generalize hr : nodesA s m 0 (3 + (coded v).length + (codedAll ls).length + (coded m).length) [] [] = r at h ⊢
  by_cases h7 : 0 ≤ r.2.2.2
  · rw [if_pos h7] at h; simp at h
  rw [if_neg h7] at h ⊢
  obtain ⟨ns, d1, d2, d3, d4⟩ := nodesA_back s m 0 (3 + (coded v).length + (codedAll ls).length + (coded m).length) [] [] (by omega) (by rw [hr]; omega)
  rw [hr] at d1 d3
  rw [List.nil_append] at d1
  rw [d1, d3] at h ⊢
  by_cases h8 : ((3 + (coded v).length + (codedAll ls).length + (coded m).length + (allBytes ns).length : Nat) : Int) < (s.length : Int)
  · rw [if_pos h8] at h; simp at h
  rw [if_neg h8] at h ⊢
  by_cases h9 : 0 ≤ shaped ns
  · rw [if_pos h9] at h; simp at h
  rw [if_neg h9]
  simp only
  unfold encode
  rw [if_neg (by omega), if_neg (by rw [b3]; simp), if_neg h9]
  have hrest : s.drop (3 + (coded v).length + (codedAll ls).length + (coded m).length + (allBytes ns).length) = [] := List.drop_eq_nil_of_le (by omega)
  have : headBytes ls ns ++ allBytes ns = s := by
    conv => rhs; rw [hs, a4, b5, c4, d4, hrest]
    unfold headBytes; rw [b2, d2]; simp [List.append_assoc]
  rw [this]

/-- A proof's bytes are that proof. -/
theorem encode_decode {ls : List Int} {ns : List Node} (h : (encode ls ns).2.1 = true) : decode (encode ls ns).1 = ((ls, ns), true, 0) ∧ (encode ls ns).2.2 = -1 := by
  unfold encode at h ⊢
  by_cases h1 : 4 < ls.length ∨ ns.length = 0 ∨ 200 < ns.length
  · rw [if_pos h1] at h; simp at h
  rw [if_neg h1] at h ⊢
  by_cases h2 : ls.all inR = false
  · rw [if_pos h2] at h; simp at h
  rw [if_neg h2] at h ⊢
  by_cases h3 : 0 ≤ shaped ns
  · rw [if_pos h3] at h; simp at h
  rw [if_neg h3]
  simp only [and_true]
  have hall : ls.all inR = true := by simpa using h2
  obtain ⟨s, hs⟩ : ∃ s, s = headBytes ls ns ++ allBytes ns := ⟨_, rfl⟩
  rw [← hs]
  have hs' : s = [70, 80, 49] ++ (coded ls.length ++ (codedAll ls ++ (coded ns.length ++ allBytes ns))) := by rw [hs]; unfold headBytes; simp [List.append_assoc]
  have e3 : s.drop 3 = coded ls.length ++ (codedAll ls ++ (coded ns.length ++ allBytes ns)) := by rw [hs']; rfl
  have n3 := num_coded e3 (by omega)
  have e4 := drop_then e3
  have n4 := nums_coded e4 hall
  have e5 := drop_then e4
  have n5 := num_coded e5 (by omega)
  have e6 := drop_then e5
  have hgood : ∀ i, i < ns.length → sound (nth ns i) = true ∧ (prem (nth ns i)).any (fun x => decide (((0 + i : Nat) : Int) ≤ x)) = false := by
    intro i hi
    have h4 : shaped ns < 0 := by omega
    refine ⟨sound_of_shaped h4 i hi, ?_⟩
    unfold shaped at h4
    cases hf : (List.range ns.length).find? (bad ns) with
    | some j => rw [hf] at h4; simp only at h4; omega
    | none =>
      rw [List.find?_eq_none] at hf
      have := hf i (by simpa using hi)
      simp only [bad, Bool.or_eq_true, not_or, Bool.not_eq_true] at this
      rw [Nat.zero_add]; exact this.2.1
  obtain ⟨st', hn⟩ := nodesA_coded s [] ns 0 _ [] [] (by rw [List.append_nil]; exact e6) hgood
  have hend : s.length = 3 + (coded ls.length).length + (codedAll ls).length + (coded ns.length).length + (allBytes ns).length := by rw [hs']; simp; omega
  unfold decode
  rw [if_neg (by rw [hs', head_coded]; omega)]
  simp only [n3]
  rw [if_neg (by omega), if_neg (by omega)]
  simp only [Int.toNat_natCast, n4]
  rw [if_neg (by omega)]
  simp only [n5]
  rw [if_neg (by omega), if_neg (by omega)]
  simp only [Int.toNat_natCast, hn]
  rw [if_neg (by omega), if_neg (by rw [hend]; omega)]
  simp only [List.nil_append]
  rw [if_neg h3]
end Fl
end Go.Proofs.YtbihjgfbocpobaaGreatDoor

/- The statement Reads: the walk. -/
set_option linter.unusedSimpArgs false
set_option linter.unusedVariables false
namespace Go.Proofs.YtbihjgfbocpobaaGreatDoor
open Go.RowKit

set_option maxRecDepth 100000 in
set_option maxHeartbeats 4000000 in
theorem lread_any (s : List UInt8) (w : World) (hs : s.length ≤ 40000) (hE : ErrType w) (hpw : Pows w) (hmx : MaxLenIs w) :
    Calls Tryz.prog 6 #[.string ⟨s.toArray⟩] w fun e w' => (∃ va n c, e = .returned (.tuple #[.slice va n c, .bool true])) ∧ Below w.heap.size w w' := by
  have HC : Hid (Calls Tryz.prog 10 #[.string ⟨s.toArray⟩] w (PlainBytes s w)) := plain_bytes hE hs hpw hmx
  have HRB : Hid (∀ W, Calls Tryz.prog 11 #[.string ⟨s.toArray⟩] W (BytEnds (Fl.readText s) W)) := fun W => rbytes_walk s W hs
  clear hE hs hpw hmx
  go_enter Tryz.func6, Tryz.ntmps6
  go_wp2_with fail
  refine HC.out.mono ?_
  rintro e w1 ⟨hb1, hbad, hgood⟩
  have HB1 : Hid (Below w.heap.size w w1) := hb1
  have hz1 := hb1.size
  clear hb1 HC
  by_cases hr : (Fl.readText s).2 = 0
  · obtain ⟨-, hbad2, hgood2⟩ := hgood hr
    obtain ⟨ls, hls⟩ : ∃ ls, ls = (Fl.readText s).1.1 := ⟨_, rfl⟩
    obtain ⟨ns, hns⟩ : ∃ ns, ns = (Fl.readText s).1.2 := ⟨_, rfl⟩
    rw [← hls, ← hns] at hbad2 hgood2
    have HRR : Hid ((Fl.readText s).2 = 0) := hr
    have HR2 := HRB.out w1
    have HRW : Hid (Calls Tryz.prog 11 #[.string ⟨s.toArray⟩] w1 fun e w' => Below w1.heap.size w1 w' ∧ ∃ la lc na nc, e = .returned (.tuple #[.agg #[.slice la ls.length lc, .slice na ns.length nc], .int .i64 0]) ∧ IntsAt w'.heap.size w' (.slice la ls.length lc) ls ∧ NodesAt w'.heap.size w' (.slice na ns.length nc) ns) := by
      refine HR2.mono ?_
      rintro e w' ⟨hb, la, n, lc, na, n', nc, rfl, hk⟩
      obtain ⟨h1, h2⟩ := hk hr
      rw [← hls] at h1
      rw [← hns] at h2
      obtain ⟨_, _, e1, _⟩ := id h1
      obtain ⟨_, _, e2, _⟩ := id h2
      simp only [Value.slice.injEq] at e1 e2
      obtain ⟨-, rfl, -⟩ := e1
      obtain ⟨-, rfl, -⟩ := e2
      exact ⟨hb, la, lc, na, nc, by rw [hr]; rfl, h1, h2⟩
    clear hbad hgood hr hls hns HR2 HRB
    cases hr2 : (Fl.encode ls ns).2.1 with
    | false =>
      obtain rfl := hbad2 hr2
      have HR3 : Hid ((Fl.encode ls ns).2.1 = false) := hr2
      obtain ⟨pl, hpl⟩ : ∃ pl, pl = (Fl.encode ls ns).2.2 := ⟨_, rfl⟩
      rw [← hpl]
      have HPL : Hid (pl = (Fl.encode ls ns).2.2) := hpl
      clear hbad2 hgood2 hr2 hpl
      go_wp2_with fail
      refine HRW.out.mono ?_
      rintro e w2 ⟨hb2, la, lc, na, nc, rfl, hli, hni⟩
      have HEN : Hid (∀ o, Calls Tryz.prog 12 #[.agg #[.slice la ls.length lc, .slice na ns.length nc]] (w2.alloc o) fun e w' => e = .returned (.tuple #[.string ⟨(Fl.encode ls ns).1.toArray⟩, .bool false, .int .i64 pl]) ∧ Below (w2.alloc o).heap.size (w2.alloc o) w') := fun o => by
        have := encode_any ls ns (.slice la ls.length lc) (.slice na ns.length nc) w2.heap.size (w2.alloc o) (by simp) (hli.below ((Below.refl _ _).alloc (Nat.le_refl _) _)) (hni.below ((Below.refl _ _).alloc (Nat.le_refl _) _))
        rw [HR3.out, ← HPL.out] at this; exact this
      have HB2 : Hid (∀ o, Below w.heap.size w (w2.alloc o)) := fun o => (HB1.out.trans (hb2.mono hz1)).alloc (by have := hb2.size; omega) _
      clear hb2 hli hni HRW
      go_wp2_with fail
      refine (HEN.out _).mono ?_
      rintro e w3 ⟨rfl, hb3⟩
      have HB3 : Hid (Below w.heap.size w w3) := (HB2.out _).trans (hb3.mono (HB2.out _).size)
      clear hb3 HEN
      go_wp2
      go_ret2
      exact ⟨⟨_, _, _, rfl⟩, HB3.out⟩
    | true =>
      obtain ⟨va, n, c, rfl, ho⟩ := hgood2 hr2
      have HR3 : Hid ((Fl.encode ls ns).2.1 = true) := hr2
      obtain ⟨bl, hbl⟩ : ∃ bl, bl = (Fl.encode ls ns).1 := ⟨_, rfl⟩
      rw [← hbl] at ho
      have HBL : Hid (bl = (Fl.encode ls ns).1) := hbl
      have HNE : Hid (bl ≠ []) := by
        show bl ≠ []
        rw [hbl]
        have h9 := Fl.encode_decode hr2
        intro h
        rw [h] at h9
        have : Fl.decode [] = (([], []), false, 0) := by simp [Fl.decode, Fl.headAt, Fl.headOk]
        rw [this] at h9; simp at h9
      obtain ⟨g, hva, hn⟩ : ∃ g, va = some ⟨g, 0, none⟩ ∧ n = bl.length := by
        rcases ho.2 with ⟨h0, h0'⟩ | ⟨g, cap, cur, hv, _⟩
        · exact absurd (List.eq_nil_of_length_eq_zero h0') HNE.out
        · simp only [Value.slice.injEq] at hv; exact ⟨g, hv.1, hv.2.1⟩
      subst hva hn
      have HO : Hid (w1.ownsRow w.heap.size 5 1 (.slice (some ⟨g, 0, none⟩) bl.length c) bl.length (bl.map bval)) := ho
      clear hbad2 hgood2 hr2 hbl ho
      go_wp2_with fail
      refine HRW.out.mono ?_
      rintro e w2 ⟨hb2, la, lc, na, nc, rfl, hli, hni⟩
      have HEN : Hid (∀ o, Calls Tryz.prog 12 #[.agg #[.slice la ls.length lc, .slice na ns.length nc]] (w2.alloc o) fun e w' => e = .returned (.tuple #[.string ⟨bl.toArray⟩, .bool true, .int .i64 (Fl.encode ls ns).2.2]) ∧ Below (w2.alloc o).heap.size (w2.alloc o) w') := fun o => by
        have := encode_any ls ns (.slice la ls.length lc) (.slice na ns.length nc) w2.heap.size (w2.alloc o) (by simp) (hli.below ((Below.refl _ _).alloc (Nat.le_refl _) _)) (hni.below ((Below.refl _ _).alloc (Nat.le_refl _) _))
        rw [HR3.out, ← HBL.out] at this; exact this
      have HB2 : Hid (∀ o, Below w.heap.size w (w2.alloc o)) := fun o => (HB1.out.trans (hb2.mono hz1)).alloc (by have := hb2.size; omega) _
      have HB12 : Hid (∀ o, Below w1.heap.size w1 (w2.alloc o)) := fun o => hb2.alloc hb2.size _
      clear hb2 hli hni HRW
      go_wp2_with fail
      refine (HEN.out _).mono ?_
      rintro e w3 ⟨rfl, hb3⟩
      have HB3 : Hid (Below w.heap.size w w3) := (HB2.out _).trans (hb3.mono (HB2.out _).size)
      have HO3 : Hid (w3.ownsRow w.heap.size 5 1 (.slice (some ⟨g, 0, none⟩) bl.length c) bl.length (bl.map bval)) := by
        have hbb : Below w1.heap.size w1 w3 := (HB12.out _).trans (hb3.mono (HB12.out _).size)
        exact HO.out.kept (row := none) ⟨hbb.os, hbb.tape, hbb.output, hbb.size, fun k hk _ => hbb.block k hk⟩ (by simp [Value.ownBlock])
      have hcv : (convert 23 9  (.slice (some ⟨g, 0, none⟩) bl.length c)).run Tryz.prog w3.drew = .ok (.string ⟨bl.toArray⟩) w3.drew :=
        run_convert_bytes_back w3.drew 23 9 5 ⟨g, 0, none⟩ c bl Tryz.underlying23 Tryz.underlying5 Tryz.underlying9 (fun j hj => by
          have := HO3.out.cells (g := g) rfl j (bval bl[j]) (by simp [hj])
          exact this)
      clear hb3 HEN
      go_wp2_with fail
      refine still_gen 3 _ 3 _ (by kernel_rfl) (by kernel_rfl) rfl rfl (fun ops hY hY2 => ?_)
      iterate 11 still_step
      refine wpStill_nil ?_
      go_wp2
      go_ret2
      exact ⟨⟨_, _, _, rfl⟩, HB3.out.drew⟩
  · obtain rfl := hbad hr
    obtain ⟨ln, hln⟩ : ∃ ln : Nat, ln = (Fl.readText s).2 := ⟨_, rfl⟩
    rw [← hln]
    have hpos : 0 < (ln : Int) := by rw [hln]; omega
    have HRW : Hid (Calls Tryz.prog 11 #[.string ⟨s.toArray⟩] w1 fun e w' => Below w1.heap.size w1 w' ∧ ∃ la n lc na n' nc, e = .returned (.tuple #[.agg #[.slice la n lc, .slice na n' nc], .int .i64 (ln : Int)])) := by
      refine (HRB.out w1).mono ?_
      rintro e w' ⟨hb, la, n, lc, na, n', nc, rfl, hk⟩
      exact ⟨hb, la, n, lc, na, n', nc, by rw [hln]⟩
    clear hbad hgood hr hln HRB
    go_wp2_with fail
    refine HRW.out.mono ?_
    rintro e w2 ⟨hb2, la, n, lc, na, n', nc, rfl⟩
    have HB2 : Hid (∀ o, Below w.heap.size w (w2.alloc o)) := fun o => (HB1.out.trans (hb2.mono hz1)).alloc (by have := hb2.size; omega) _
    clear hb2 HRW
    go_wp2
    go_ret2
    exact ⟨⟨_, _, _, rfl⟩, HB2.out _⟩

set_option maxRecDepth 100000 in
set_option maxHeartbeats 1000000 in
theorem reads_any (l : List UInt8) (w : World) (hs : l.length ≤ 9223372036854775807) (hE : ErrType w) (hpw : Pows w) (hmx : MaxLenIs w) :
    Calls Tryz.prog 4 #[.string ⟨l.toArray⟩] w fun e w' => e = .returned (.bool true) ∧ Below w.heap.size w w' := by
  have hsz : (⟨l.toArray⟩ : ByteArray).size = l.length := by show l.toArray.size = _; simp
  by_cases hbig : 32768 < l.length
  · have hbi : (32768 : Int) < (l.length : Int) := by omega
    clear hE hpw hmx
    go_enter Tryz.func4, Tryz.ntmps4
    go_wp2
    go_ret
    exact ⟨rfl, Below.refl _ _⟩
  · have hbi : ¬ (32768 : Int) < (l.length : Int) := by omega
    have HD : Hid (Calls Tryz.prog 6 #[.string ⟨l.toArray⟩] w fun e w' => (∃ va n c, e = .returned (.tuple #[.slice va n c, .bool true])) ∧ Below w.heap.size w w') := lread_any l w (by omega) hE hpw hmx
    clear hE hpw hmx
    go_enter Tryz.func4, Tryz.ntmps4
    go_wp2_with fail
    refine HD.out.mono ?_
    rintro e w1 ⟨⟨va, n, c, rfl⟩, hb1⟩
    have HB1 : Hid (Below w.heap.size w w1) := hb1
    clear HD hb1
    go_wp2
    go_ret
    exact ⟨rfl, HB1.out⟩
end Go.Proofs.YtbihjgfbocpobaaGreatDoor

/- A proof's text, written: how long it is; what stays. -/
set_option linter.unusedSimpArgs false
set_option linter.unusedVariables false
namespace Go.Proofs.YtbihjgfbocpobaaGreatDoor
open Go.RowKit

theorem own_wr {b base : Nat} {w W : World} {v : Value} {n : Nat} {xs : List Value} (h : w.ownsRow base 3 1 v n xs) (hb : v.ownBlock ≠ some b) (hw : Wr b w W) : W.ownsRow base 3 1 v n xs := by
  refine ⟨h.1, ?_⟩
  rcases h.2 with hn | ⟨g, cap, cur, hv, hbb, hg, rest⟩
  · exact .inl hn
  · refine .inr ⟨g, cap, cur, hv, hbb, hw.row hg (fun e => hb (by rw [hv, e]; rfl)) (by decide), rest⟩
theorem digits10 (v : Nat) (h : v < 2147483648) : (Lib.decDigits v).length ≤ 10 := by
  rw [← Fl.decF_digits 9 v (Nat.lt_of_lt_of_le h (by decide))]; exact decF_len 9 v
theorem digits3 (v : Nat) (h : v < 1000) : (Lib.decDigits v).length ≤ 3 := by
  rw [← Fl.decF_digits 2 v (Nat.lt_of_lt_of_le h (by decide))]; exact decF_len 2 v
theorem blanks11 : ∀ (xs : List Int), (∀ x ∈ xs, 0 ≤ x ∧ x < 2147483648) → (Fl.blanks xs).length ≤ 11 * xs.length
  | [], _ => by simp [Fl.blanks]
  | x :: r, h => by
    have h1 := blanks11 r (fun y hy => h y (by simp [hy]))
    have h2 := digits10 x.toNat (by have := h x (by simp); omega)
    have e : Fl.blanks (x :: r) = (32 :: Lib.decDigits x.toNat) ++ Fl.blanks r := by simp [Fl.blanks]
    rw [e, List.length_append, List.length_cons, List.length_cons]; omega
theorem lineNums_ok {n : Fl.Node} (h : Fl.Tellable n) : (Fl.lineNums n).length ≤ 17 ∧ ∀ x ∈ Fl.lineNums n, 0 ≤ x ∧ x < 2147483648 := by
  obtain ⟨h1, h2, h3, h4, h5, h6, h7, h8⟩ := h
  unfold Fl.lineNums
  split
  · refine ⟨by rw [List.length_take]; simp; omega, fun x hx => ?_⟩
    have := List.mem_of_mem_take hx
    simp only [List.mem_cons, List.not_mem_nil, or_false] at this
    rcases this with rfl | rfl | rfl | rfl <;> assumption
  · refine ⟨by simp; omega, fun x hx => ?_⟩
    rcases List.mem_cons.1 hx with rfl | hx
    · exact h3
    · exact h8 x hx
theorem kindWord_len (k : Nat) (h : k < 8) : (Fl.kindWords.getD k []).length ≤ 5 := by
  rcases (show k = 0 ∨ k = 1 ∨ k = 2 ∨ k = 3 ∨ k = 4 ∨ k = 5 ∨ k = 6 ∨ k = 7 by omega) with rfl | rfl | rfl | rfl | rfl | rfl | rfl | rfl <;> decide
theorem nodeLine_len {k : Nat} {n : Fl.Node} (hk : k < 1000) (h : Fl.Tellable n) : (Fl.nodeLine k n).length ≤ 197 := by
  obtain ⟨h1, h2⟩ := lineNums_ok h
  have h3 := blanks11 _ h2
  have h4 := digits3 k hk
  have h5 := kindWord_len n.kind.toNat (by have := h.1; have := h.2.1; omega)
  unfold Fl.nodeLine Fl.spaced
  simp only [List.length_append, List.length_cons, List.length_nil]; omega
theorem textTo_len {ls : List Int} {ns : List Fl.Node} (hl : ls.length ≤ 4) (hr : ∀ x ∈ ls, 0 ≤ x ∧ x < 2147483648) : ∀ k, k ≤ 200 → (∀ i, i < k → Fl.Tellable (Fl.nth ns i)) → (Fl.textTo ls ns k).length ≤ 51 + 197 * k
  | 0, _, _ => by
    have := blanks11 ls hr
    unfold Fl.textTo Fl.spaced
    simp [Fl.wLocals]; omega
  | k + 1, hk, h => by
    have h1 := textTo_len hl hr k (by omega) (fun i hi => h i (by omega))
    have h2 := nodeLine_len (k := k) (by omega) (h k (by omega))
    rw [Fl.textTo_succ, List.length_append]; omega

/-- The numbers of a node's line, as the program lays them: its level, its numbers, its list. -/
theorem lineNums_prog {n : Fl.Node} {k : Nat} (hk : n.kind = (k : Int)) (h8 : k < 8) (hl : k ≠ 7 → n.list = []) : Fl.lineNums n = n.level :: ([n.a, n.b, n.c].take (numF k) ++ n.list) := by
  unfold Fl.lineNums
  rw [hk]
  by_cases h7 : k = 7
  · subst h7; rfl
  · rw [hl h7]
    rcases (show k = 0 ∨ k = 1 ∨ k = 2 ∨ k = 3 ∨ k = 4 ∨ k = 5 ∨ k = 6 by omega) with rfl | rfl | rfl | rfl | rfl | rfl | rfl <;> rfl
/-- The table's word of a kind. -/
theorem rule_word {w : World} {T : Nat} (hT : w.heap[T]? = some (.cells rulesArr 88 (0, 0))) (k : Nat) (hk : k < 8) : w.cell? ⟨T, k * 4, none⟩ = some (.string ⟨(Fl.kindWords.getD k []).toArray⟩) := by
  rcases (show k = 0 ∨ k = 1 ∨ k = 2 ∨ k = 3 ∨ k = 4 ∨ k = 5 ∨ k = 6 ∨ k = 7 by omega) with rfl | rfl | rfl | rfl | rfl | rfl | rfl | rfl <;> exact (cell_of_row _ _ _ _ _ _ hT).trans rfl
end Go.Proofs.YtbihjgfbocpobaaGreatDoor

/- The program's Text. -/
set_option linter.unusedSimpArgs false
set_option linter.unusedVariables false
namespace Go.Proofs.YtbihjgfbocpobaaGreatDoor
open Go.RowKit

theorem cat_words (a b : List UInt8) : ((⟨a.toArray⟩ : ByteArray) ++ ⟨#[32]⟩) ++ ⟨b.toArray⟩ = ⟨(a ++ (32 :: b)).toArray⟩ := by
  have h1 : (⟨a.toArray⟩ : ByteArray) ++ ⟨#[32]⟩ = ⟨(a ++ [32]).toArray⟩ := ByteArray.mk_append_mk a [32]
  rw [h1, ByteArray.mk_append_mk]; simp
theorem four_text (w : World) (o0 o1 o2 o3 : Obj) : ((((w.alloc o0).alloc o1).alloc o2).alloc o3).heap[w.heap.size]? = some o0 ∧ ((((w.alloc o0).alloc o1).alloc o2).alloc o3).heap[w.heap.size + 1]? = some o1 ∧ ((((w.alloc o0).alloc o1).alloc o2).alloc o3).heap[w.heap.size + 3]? = some o3 ∧ ((((w.alloc o0).alloc o1).alloc o2).alloc o3).heap.size = w.heap.size + 4 ∧ Below w.heap.size w ((((w.alloc o0).alloc o1).alloc o2).alloc o3) := by
  have a : ∀ (u : World) (o : Obj) (k : Nat), k < u.heap.size → (u.alloc o).heap[k]? = u.heap[k]? := fun u o k hk => Below.heap_alloc _ _ _ hk
  have l : ∀ (u : World) (o : Obj) (k : Nat), u.heap.size = k → (u.alloc o).heap[k]? = some o := fun u o k hk => by subst hk; exact heap_alloc_last u o
  refine ⟨?_, ?_, ?_, by simp, ((((Below.refl _ w).alloc (Nat.le_refl _) _).alloc (by simp <;> omega) _).alloc (by simp <;> omega) _).alloc (by simp <;> omega) _⟩
  · rw [a _ _ _ (by simp <;> omega), a _ _ _ (by simp <;> omega), a _ _ _ (by simp <;> omega), l _ _ _ rfl]
  · rw [a _ _ _ (by simp <;> omega), a _ _ _ (by simp <;> omega), l _ _ _ (by simp <;> omega)]
  · rw [l _ _ _ (by simp <;> omega)]

/-- The loop that gathers a node's numbers: j of them behind its level. -/
structure TxL (W3 wq : World) (NB : Nat) (v : Value) (nd : Fl.Node) (j : Nat) : Prop where
  g : W3.grownBy wq (some (NB + 1))
  ho : wq.ownsRow (NB + 1) 3 1 v (nd.level :: [nd.a, nd.b, nd.c].take j).length ((nd.level :: [nd.a, nd.b, nd.c].take j).map (Value.int .i64))
  hv : ∀ g, v.ownBlock = some g → g = NB + 1 ∨ W3.heap.size ≤ g
theorem TxL.zero {W3 : World} {NB : Nat} {nd : Fl.Node} (h : W3.ownsRow (NB + 1) 3 1 (.slice (some ⟨NB + 1, 0, none⟩) 1 1) 1 ([nd.level].map (Value.int .i64))) : TxL W3 W3 NB (.slice (some ⟨NB + 1, 0, none⟩) 1 1) nd 0 :=
  ⟨World.grownBy.refl _ _, h, fun g hg => .inl (by simp [Value.ownBlock] at hg; exact hg.symm)⟩
theorem take_three (a b c : Int) (j : Nat) (h : j < 3) : [a, b, c].take (j + 1) = [a, b, c].take j ++ [[a, b, c].getD j 0] := by
  rcases (show j = 0 ∨ j = 1 ∨ j = 2 by omega) with rfl | rfl | rfl <;> rfl
theorem TxL.next {W3 wq w2 : World} {NB : Nat} {v v' : Value} {nd : Fl.Node} {j : Nat} {o : Obj} (h : TxL W3 wq NB v nd j) (h3 : j < 3) (ho : w2.ownsRow (NB + 1) 3 1 v' ((nd.level :: [nd.a, nd.b, nd.c].take j).length + 1) ((nd.level :: [nd.a, nd.b, nd.c].take j).map (Value.int .i64) ++ [.int .i64 ([nd.a, nd.b, nd.c].getD j 0)]))
    (hg : (wq.alloc o).grownBy w2 v.ownBlock) (hw : v'.ownBlock = v.ownBlock ∨ v'.ownBlock = some (wq.alloc o).heap.size) : TxL W3 w2 NB v' nd (j + 1) := by
  have g1 := h.g
  have hs := hg.size
  have hs1 := g1.size
  simp only [World.size_alloc] at hs
  refine ⟨⟨hg.os.trans g1.os, hg.tape.trans g1.tape, hg.output.trans g1.output, by omega, fun k hk hne => ?_⟩, ?_, fun g hgv => ?_⟩
  · have h1 : some k ≠ v.ownBlock := fun e => by
      rcases h.hv k e.symm with e2 | e2
      · exact hne (by rw [e2])
      · omega
    rw [hg.block k (by simp; omega) h1, Below.heap_alloc _ _ _ (by omega), g1.block k hk hne]
  · have e : nd.level :: [nd.a, nd.b, nd.c].take (j + 1) = (nd.level :: [nd.a, nd.b, nd.c].take j) ++ [[nd.a, nd.b, nd.c].getD j 0] := by rw [take_three _ _ _ _ h3]; rfl
    rw [e, List.length_append, List.map_append]; exact ho
  · rcases hw with hw | hw
    · exact h.hv g (hw ▸ hgv)
    · right; rw [hw] at hgv; simp at hgv; omega

set_option maxRecDepth 100000 in
set_option maxHeartbeats 8000000 in
theorem text_prog (ls : List Int) (ns : List Fl.Node) (lv nv : Value) (w : World) (hl : IntsAt w.heap.size w lv ls) (hn : NodesAt w.heap.size w nv ns) (hll : ls.length ≤ 4) (hlr : ∀ x ∈ ls, 0 ≤ x ∧ x < 2147483648) (hnl : ns.length ≤ 200)
    (hT : ∀ i, i < ns.length → Fl.Tellable (Fl.nth ns i)) (hS : ∀ i, i < ns.length → ∀ k : Nat, (Fl.nth ns i).kind = (k : Int) → k ≠ 7 → (Fl.nth ns i).list = []) (hp : Pows w) :
    Calls Tryz.prog 30 #[.agg #[lv, nv]] w fun e w' => e = .returned (.string ⟨(Fl.text ls ns).toArray⟩) ∧ Below w.heap.size w w' := by
  obtain ⟨la, lcap, rfl, _, _, _⟩ := id hl
  obtain ⟨na, ncap, rfl, _, _, _⟩ := id hn
  have HL : Hid (IntsAt w.heap.size w (Value.slice la ls.length lcap) ls) := hl
  have HN : Hid (NodesAt w.heap.size w (Value.slice na ns.length ncap) ns) := hn
  have HT : Hid (∀ i, i < ns.length → Fl.Tellable (Fl.nth ns i)) := hT
  have HS : Hid (∀ i, i < ns.length → ∀ k : Nat, (Fl.nth ns i).kind = (k : Int) → k ≠ 7 → (Fl.nth ns i).list = []) := hS
  have HLR : Hid (∀ x ∈ ls, 0 ≤ x ∧ x < 2147483648) := hlr
  have HP : Hid (Pows w) := hp
  have hpl := hp.lt
  clear hl hn hT hS hlr hp
  go_enter Tryz.func30, Tryz.ntmps30
  go_wp2_with (first | (go_at_call 38; refine (rules_any _).mono ?_; rintro e w1 ⟨rfl, rfl⟩) | (refine wpList_store_newN rfl _ _ 88 rfl _ _ _ rulesArr rfl (by simp) rfl Tryz.infoRules rulesSize rulesOne ?_))
  obtain ⟨r0, r1, r3, hz0, hB0⟩ := four_text w (.cells #[.slice la ls.length lcap, .slice na ns.length ncap] 32) (.cells #[.pointer none, .slice none 0 0] 96) (.cells rulesArr 88) (.cells rulesArr 88)
  obtain ⟨W0, hW0⟩ : ∃ W0, W0 = (((w.alloc (.cells #[.slice la ls.length lcap, .slice na ns.length ncap] 32)).alloc (.cells #[.pointer none, .slice none 0 0] 96)).alloc (.cells rulesArr 88)).alloc (.cells rulesArr 88) := ⟨_, rfl⟩
  rw [← hW0] at r0 r1 r3 hz0 hB0 ⊢
  have hbld : Lib.IsBuilderF 96 5 (w.heap.size + 1) (w.heap.size + 1) (Lib.byteCells []) W0 := .inl ⟨Nat.le_refl _, .slice none 0 0, r1, World.ownsRowF_nil _ _ _ _, by simp [Value.ownBlock]⟩
  have HR3 : Hid (W0.heap[w.heap.size + 3]? = some (.cells rulesArr 88 (0, 0))) := r3
  have HB0 : Hid (Below w.heap.size w W0) := hB0
  have HR0 : Hid (W0.heap[w.heap.size]? = some (.cells #[.slice la ls.length lcap, .slice na ns.length ncap] 32 (0, 0))) := r0
  have hwl := writeLine_any (w.heap.size + 1) [] Fl.wLocals (.slice la ls.length lcap) ls W0 hbld (by omega) (fun W hW => (HL.out.below (hB0.trans (hW.bl.mono (by omega)))).mono (hB0.trans (hW.bl.mono (by omega))).size) HLR.out (HP.out.below (Nat.le_refl _) hB0) (by omega) (by simp) (by decide) (by omega)
  have HWL : Hid (Calls Tryz.prog 42 #[.pointer (some ⟨w.heap.size + 1, 0, none⟩), .string ⟨#[108, 111, 99, 97, 108, 115]⟩, .slice la ls.length lcap] W0 fun e w' => e = .returned (.tuple #[]) ∧ Lib.BuilderAtF 96 5 (w.heap.size + 1) (w.heap.size + 1) (.pointer (some ⟨w.heap.size + 1, 0, none⟩)) (Lib.byteCells (Fl.textTo ls ns 0)) w' ∧ Wr (w.heap.size + 1) W0 w') := by
    refine hwl.mono ?_
    rintro e w' ⟨he, h1, h2⟩
    exact ⟨he, by rw [show Fl.textTo ls ns 0 = [] ++ Fl.wLocals ++ Fl.spaced ls from by simp [Fl.textTo]]; exact h1, h2⟩
  clear hW0 r0 r1 r3 hB0 hbld hwl
  refine HWL.out.mono ?_
  rintro e w1 ⟨rfl, hb1, hw1⟩
  have HB1 : Hid _ := hb1
  have HW1 : Hid (Wr (w.heap.size + 1) W0 w1) := hw1
  have p1 : w1.cell? ⟨w.heap.size, 1, none⟩ = some (.slice na ns.length ncap) := (hw1.bl.cell (p := ⟨w.heap.size, 1, none⟩) (by show w.heap.size < _; omega)).trans ((cell_of_row _ _ _ _ _ _ HR0.out).trans rfl)
  clear hb1 hw1 HWL
  go_wp2_with fail
  go_loopw [18] (fun i wr => ∃ k : Nat, k ≤ ns.length ∧ i = .int .i64 k ∧ Lib.BuilderAtF 96 5 (w.heap.size + 1) (w.heap.size + 1) (.pointer (some ⟨w.heap.size + 1, 0, none⟩)) (Lib.byteCells (Fl.textTo ls ns k)) wr ∧ Wr (w.heap.size + 1) W0 wr) (fun i _ => ns.length - (intOf i).toNat)
  case atStart => exact ⟨0, by omega, rfl, HB1.out, HW1.out⟩
  case round =>
    clear HB1 HW1 p1
    obtain ⟨k, hk, rfl, hbk, hwr⟩ := hrel
    have HBK : Hid (Lib.BuilderAtF 96 5 (w.heap.size + 1) (w.heap.size + 1) (.pointer (some ⟨w.heap.size + 1, 0, none⟩)) (Lib.byteCells (Fl.textTo ls ns k)) wr) := hbk
    have HWR : Hid (Wr (w.heap.size + 1) W0 wr) := hwr
    have HBW : Hid (Below w.heap.size w wr) := HB0.out.trans (hwr.bl.mono (by omega))
    have hzr : w.heap.size + 4 ≤ wr.heap.size := by have := hwr.bl.size; omega
    clear hbk hwr
    by_cases hlt : k < ns.length
    · obtain ⟨nd, hnd⟩ : ∃ nd, nd = Fl.nth ns k := ⟨_, rfl⟩
      obtain ⟨b, off, rfl⟩ : ∃ b off, na = some ⟨b, off, none⟩ := by
        obtain ⟨ao', cap', hv', _, _, hx'⟩ := HN.out
        obtain ⟨b, off, ha, _⟩ := hx' (by intro h; rw [h] at hlt; simp at hlt)
        simp only [Value.slice.injEq] at hv'
        exact ⟨b, off, hv'.1.trans ha⟩
      obtain ⟨hbB, xv, hxi, c0, c1, c2, c3, c4, c5⟩ := (HN.out.below HBW.out).at hlt
      obtain ⟨xao, xcap, rfl, _⟩ := id hxi
      rw [← hnd] at hxi c0 c1 c2 c3 c4 c5
      have HND : Hid (nd = Fl.nth ns k) := hnd
      have HXI : Hid (IntsAt w.heap.size wr (.slice xao nd.list.length xcap) nd.list) := hxi
      have HTL : Hid (Fl.Tellable nd) := by show Fl.Tellable nd; rw [hnd]; exact HT.out k hlt
      have hk0 := HTL.out.1
      have hk8 := HTL.out.2.1
      obtain ⟨kn, hkn⟩ : ∃ kn : Nat, nd.kind = (kn : Int) := ⟨nd.kind.toNat, by omega⟩
      have hkn8 : kn < 8 := by omega
      have HKN : Hid (nd.kind = (kn : Int)) := hkn
      have HLN : Hid (Fl.lineNums nd = nd.level :: ([nd.a, nd.b, nd.c].take (numF kn) ++ nd.list)) := lineNums_prog hkn hkn8 (fun h7 => by rw [hnd]; exact HS.out k hlt kn (by rw [← hnd]; exact hkn) h7)
      rw [hkn] at c0
      have HTR : Hid (wr.heap[w.heap.size + 3]? = some (.cells rulesArr 88 (0, 0))) := HWR.out.row HR3.out (by omega) (by decide)
      have hkI : (k : Int) < (ns.length : Int) := by omega
      have hknI : (kn : Int) < 8 := by omega
      clear hnd hxi hkn hk0 hk8
      go_wp2_with fail
      obtain ⟨NB, hNB⟩ : ∃ NB, NB = wr.heap.size := ⟨_, rfl⟩
      obtain ⟨W2, hW2⟩ : ∃ W2, W2 = (wr.alloc (.cells #[.int .i64 (kn : Int), .int .i64 nd.level, .int .i64 nd.a, .int .i64 nd.b, .int .i64 nd.c, .slice xao nd.list.length xcap] 53)).alloc (.cells #[.int .i64 nd.level] 3) := ⟨_, rfl⟩
      rw [← hW2, ← hNB]
      have hz2 : W2.heap.size = NB + 2 := by rw [hW2, hNB]; simp
      have HB2 : Hid (Below wr.heap.size wr W2) := by rw [hW2]; exact ((Below.refl _ _).alloc (Nat.le_refl _) _).alloc (by simp) _
      have HNB : Hid (NB = wr.heap.size) := hNB
      have hnd2 : Nd W2 NB (kn : Int) nd.level nd.a nd.b nd.c (.slice xao nd.list.length xcap) := by
        rw [hW2, hNB]; exact (Nd.new wr (kn : Int) nd.level nd.a nd.b nd.c (.slice xao nd.list.length xcap) 53).grown (World.grownBy_alloc _ _ none) (by simp)
      have ho2 : W2.ownsRow (NB + 1) 3 1 (.slice (some ⟨NB + 1, 0, none⟩) 1 1) 1 ([nd.level].map (Value.int .i64)) := by
        refine ⟨rfl, .inr ⟨NB + 1, 1, #[.int .i64 nd.level], rfl, Nat.le_refl _, ?_, by simp, by simp [maxLen], rfl, rfl⟩⟩
        rw [hW2, hNB]
        have h := heap_alloc_new (wr.alloc (.cells #[.int .i64 (kn : Int), .int .i64 nd.level, .int .i64 nd.a, .int .i64 nd.b, .int .i64 nd.c, .slice xao nd.list.length xcap] 53)) (.cells #[.int .i64 nd.level] 3)
        simpa using h
      have hT2 : W2.heap[w.heap.size + 3]? = some (.cells rulesArr 88 (0, 0)) := (HB2.out.block _ (by omega)).trans HTR.out
      have hr2 : W2.heap[NB]? = some (.cells #[.int .i64 (kn : Int), .int .i64 nd.level, .int .i64 nd.a, .int .i64 nd.b, .int .i64 nd.c, .slice xao nd.list.length xcap] 53 (0, 0)) := by
        rw [hW2, hNB, Below.heap_alloc _ _ _ (by simp)]; exact heap_alloc_new _ _
      have HT2 : Hid (W2.heap[w.heap.size + 3]? = some (.cells rulesArr 88 (0, 0))) := hT2
      have hq := (rule_cells hT2 kn hkn8).1
      refine (places_any (w.heap.size + 1 + 1 + 1) (kn * 4) NB (numF kn) W2 (numF_le kn) (by omega) hq).mono ?_
      rintro e W3 ⟨rfl, hW3⟩
      have g3 : W2.grownBy W3 none := by rw [hW3]; exact ⟨rfl, rfl, rfl, by simp, fun k hk _ => Below.heap_alloc _ _ _ hk⟩
      have HB3 : Hid (Below wr.heap.size wr W3) := by rw [hW3]; exact (HB2.out.alloc (by omega) _).drew
      have HN3 : Hid (Nd W3 NB (kn : Int) nd.level nd.a nd.b nd.c (.slice xao nd.list.length xcap)) := hnd2.grown g3 (by simp)
      have HO3 : Hid (W3.ownsRow (NB + 1) 3 1 (.slice (some ⟨NB + 1, 0, none⟩) 1 1) 1 ([nd.level].map (Value.int .i64))) := ho2.kept g3 (by simp [Value.ownBlock])
      have HT3 : Hid (W3.heap[w.heap.size + 3]? = some (.cells rulesArr 88 (0, 0))) := (g3.block _ (by omega) (by simp)).trans hT2
      have hz3 : W3.heap.size = NB + 3 := by rw [hW3]; simp; omega
      have HRN : Hid (W3.heap[NB]? = some (.cells #[.int .i64 (kn : Int), .int .i64 nd.level, .int .i64 nd.a, .int .i64 nd.b, .int .i64 nd.c, .slice xao nd.list.length xcap] 53 (0, 0))) := (g3.block _ (by omega) (by simp)).trans hr2
      have HP3 : Hid (∀ j, j < 3 → W3.cell? ⟨NB + 2, j, none⟩ = some (.pointer (some ⟨NB, 2 + j, none⟩))) := by
        intro j hj
        have h := World.cell?_alloc_new W2 #[.pointer (some ⟨NB, 2, none⟩), .pointer (some ⟨NB, 3, none⟩), .pointer (some ⟨NB, 4, none⟩)] 102 j
        rw [hz2] at h
        rw [hW3]
        refine h.trans ?_
        rcases (show j = 0 ∨ j = 1 ∨ j = 2 by omega) with rfl | rfl | rfl <;> rfl
      have hf3 := numF_le kn
      obtain ⟨f, hf⟩ : ∃ f, f = numF kn := ⟨_, rfl⟩
      rw [← hf] at HLN hf3 ⊢
      rw [hz2]
      have hNBr : w.heap.size + 4 ≤ NB := by omega
      clear hW2 hNB hW3 g3 hnd2 ho2 hT2 hr2 hq hz2 c0 c1 c2 c3 c4 c5 hf HT2 HB2
      obtain ⟨wo, hwo⟩ : ∃ wo, wo = wr := ⟨_, rfl⟩
      subst hwo
      obtain ⟨i0, hi0, hz0', hzs, hzb⟩ := info_parts Tryz.infoInt
      go_wp2_with fail
      go_loopw [8, 32] (fun v i wq => ∃ j : Nat, j ≤ f ∧ i = .int .i64 j ∧ TxL W3 wq NB v nd j) (fun _ i _ => f - (intOf i).toNat)
      case atStart => exact ⟨0, by omega, rfl, TxL.zero HO3.out⟩
      case round =>
        obtain ⟨j, hj, rfl, htl⟩ := hrel
        have hv1 := htl.ho.1
        obtain ⟨vao, vcap, rfl⟩ := own_shape6 htl.ho
        have HTX : Hid (TxL W3 wr NB (.slice vao (nd.level :: [nd.a, nd.b, nd.c].take j).length vcap) nd j) := htl
        have hln : (nd.level :: [nd.a, nd.b, nd.c].take j).length ≤ 4 := by simp; omega
        obtain ⟨ys, hys⟩ : ∃ ys, ys = nd.level :: [nd.a, nd.b, nd.c].take j := ⟨_, rfl⟩
        have HYS : Hid (ys = nd.level :: [nd.a, nd.b, nd.c].take j) := hys
        have HOY : Hid (wr.ownsRow (NB + 1) 3 1 (.slice vao ys.length vcap) ys.length (ys.map (Value.int .i64))) := by
          have h := htl.ho; rw [← hys] at h; exact h
        rw [← hys] at hln ⊢
        have hzw : NB + 3 ≤ wr.heap.size := by have := htl.g.size; omega
        clear htl hv1 hys
        by_cases hjf : j < f
        · have hpj : wr.cell? ⟨NB + 2, j, none⟩ = some (.pointer (some ⟨NB, 2 + j, none⟩)) := HTX.out.g.cell (HP3.out j (by omega)) (by simp)
          have hn3 := HN3.out.grown HTX.out.g (by simp)
          obtain ⟨xj, hxj⟩ : ∃ xj, xj = [nd.a, nd.b, nd.c].getD j 0 := ⟨_, rfl⟩
          have kj : wr.cell? ⟨NB, 2 + j, none⟩ = some (.int .i64 xj) := by
            rw [hxj]
            rcases (show j = 0 ∨ j = 1 ∨ j = 2 by omega) with rfl | rfl | rfl
            · exact hn3.c2
            · exact hn3.c3
            · exact hn3.c4
          have HXJ : Hid (xj = [nd.a, nd.b, nd.c].getD j 0) := hxj
          clear hxj hn3
          go_wp2_with (at_builtin; refine wpList_append_at _ rfl (.tmp 36) (.tmp 40) 29 rfl (NB + 1) 3 i0 (.int .i64 0) 1 8 Tryz.underlying29 hi0 hz0' hzs hzb rfl (by decide) _ _ _ rfl (HOY.out.alloc _) ⟨_, 0, none⟩ 1 1 [.int .i64 xj] rfl rfl (by decide) one_cell_new ?c2 ?c3 ?c4 ?c5 ?_)
          case c2 => intro u hu; simp at hu; subst hu; rfl
          case c3 => unfold maxLen; omega
          case c4 => omega
          case c5 => simp; omega
          intro v' w2 ho2 hg2 hw2
          have HNX : Hid (TxL W3 w2 NB v' nd (j + 1)) := HTX.out.next (o := .cells #[.int .i64 xj] 3) (by omega) (by rw [← HXJ.out, ← HYS.out]; exact ho2) (by rw [← HYS.out]; exact hg2) (by rw [← HYS.out, World.size_alloc]; exact hw2)
          clear ho2 hg2 hw2 hpj kj
          go_wp2
          go_roundw
          case rel => exact ⟨j + 1, by omega, by go_num, HNX.out⟩
          case measure => simp [intOf]; omega
        · have hjf' : j = f := by omega
          have hn4 := HN3.out.grown HTX.out.g (by simp)
          have k5 := hn4.c5
          have hB4 : Below wo.heap.size wo wr := HB3.out.grown HTX.out.g (by have := HNB.out; omega) (fun g hg => by injection hg with hg; have := HNB.out; omega)
          have hT4 : wr.heap[w.heap.size + 1 + 1 + 1]? = some (.cells rulesArr 88 (0, 0)) := (HTX.out.g.block _ (by omega) (by simp; omega)).trans HT3.out
          have hkw := rule_word hT4 kn hkn8
          obtain ⟨kw, hkw'⟩ : ∃ kw, kw = Fl.kindWords.getD kn [] := ⟨_, rfl⟩
          rw [← hkw'] at hkw
          have hkwl : kw.length ≤ 5 := by rw [hkw']; exact kindWord_len kn hkn8
          have HKW : Hid (kw = Fl.kindWords.getD kn []) := hkw'
          obtain ⟨dk, hdk⟩ : ∃ dk, dk = Lib.decDigits k := ⟨_, rfl⟩
          have hdl : dk.length ≤ 3 := by rw [hdk]; exact digits3 k (by omega)
          have HDK : Hid (dk = Lib.decDigits k) := hdk
          have hkws : ((⟨kw.toArray⟩ : ByteArray).size : Int) ≤ 5 := by show ((kw.toArray.size : Nat) : Int) ≤ 5; simp; omega
          have hds : ((⟨dk.toArray⟩ : ByteArray).size : Int) ≤ 3 := by show ((dk.toArray.size : Nat) : Int) ≤ 3; simp; omega
          have hds2 : ((⟨#[32]⟩ : ByteArray).size : Int) = 1 := rfl
          have HWR4 : Hid (Wr (w.heap.size + 1) W0 wr) := HWR.out.below hB4 (by omega)
          have HBK4 : Hid (Lib.BuilderAtF 96 5 (w.heap.size + 1) (w.heap.size + 1) (.pointer (some ⟨w.heap.size + 1, 0, none⟩)) (Lib.byteCells (Fl.textTo ls ns k)) wr) := builder_below HBK.out hB4
          have HXI4 : Hid (IntsAt w.heap.size wr (.slice xao nd.list.length xcap) nd.list) := HXI.out.below (hB4.mono (by omega))
          have HIT : Hid (Calls Tryz.prog 44 #[.int .i64 (k : Int)] wr.drew fun e w' => e = .returned (.string ⟨dk.toArray⟩) ∧ Below wr.drew.heap.size wr.drew w') := by
            show Calls _ _ _ _ _
            rw [hdk]
            exact itoa_any k wr.drew (by omega) ((HP.out.below (Nat.le_refl _) HBW.out).wr (b := wo.heap.size) (by omega) hB4.drew)
          have HYF : Hid (ys = nd.level :: [nd.a, nd.b, nd.c].take f) := by show _ = _; rw [← hjf']; exact HYS.out
          have HT4 : Hid (wr.heap[w.heap.size + 1 + 1 + 1]? = some (.cells rulesArr 88 (0, 0))) := hT4
          have HN4 : Hid (Nd wr NB (kn : Int) nd.level nd.a nd.b nd.c (.slice xao nd.list.length xcap)) := hn4
          have HB4 : Hid (Below wo.heap.size wo wr) := hB4
          have HR4 : Hid (wr.heap[NB]? = some (.cells #[.int .i64 (kn : Int), .int .i64 nd.level, .int .i64 nd.a, .int .i64 nd.b, .int .i64 nd.c, .slice xao nd.list.length xcap] 53 (0, 0))) := (HTX.out.g.block _ (by omega) (by simp)).trans HRN.out
          have hli := HTL.out.2.2.2.2.2.2.1
          have hvg : ∀ g, (Value.slice vao ys.length vcap).ownBlock = some g → NB + 1 ≤ g := fun g hg => (HOY.out.lt g hg).1
          clear hjf' hn4 hB4 hT4 hkw' hdk HTX HYS
          go_wp2_with fail
          refine wp_region_steps (fun W => W.cell? ⟨w.heap.size + 1 + 1 + 1, kn * 4, none⟩ = some (.string ⟨kw.toArray⟩) ∧ W.cell? ⟨NB, 5, none⟩ = some (.slice xao nd.list.length xcap)) [(true, 0), (true, 3), (true, 4), (true, 5), (true, 6), (true, 8), (true, 9), (true, 10), (false, 1), (true, 2), (true, 7), (false, 11), (false, 12)] (by kernel_rfl) (by kernel_rfl) rfl [(true, _), (true, _), (true, _), (true, _), (true, _), (true, _), (true, _), (true, _), (false, _), (true, _), (true, _), (false, _), (false, _)] rfl (fun c a d v w h => by cases d <;> exact h) ⟨hkw, k5⟩ (fun ops => ?_)
          iterate 8
            refine steps_read rfl (fun K hK => ?_)
            apply Exists.intro
            refine ⟨fun w' hw' => ?_, ?_⟩
            · have s1 := hw'.1
              have s2 := hw'.2
              go_simp
              try with_reducible rfl
            go_simp
            refine hK _ ?_
            clear hK K
          refine steps_do ?_
          go_wp2_with fail
          refine HIT.out.mono ?_
          rintro e w5 ⟨rfl, hb5⟩
          have hB5 : Below wr.heap.size wr w5 := (Below.refl wr.heap.size wr).drew.trans hb5
          have t1 : w5.cell? ⟨w.heap.size + 1 + 1 + 1, kn * 4, none⟩ = some (.string ⟨kw.toArray⟩) := (hB5.cell (p := ⟨w.heap.size + 1 + 1 + 1, kn * 4, none⟩) (by show w.heap.size + 1 + 1 + 1 < _; omega)).trans hkw
          have t2 : w5.cell? ⟨NB, 5, none⟩ = some (.slice xao nd.list.length xcap) := (hB5.cell (p := ⟨NB, 5, none⟩) (by show NB < _; omega)).trans k5
          have HO5 : Hid (w5.ownsRow (NB + 1) 3 1 (.slice vao ys.length vcap) ys.length (ys.map (Value.int .i64))) := own_low HOY.out hB5
          have HX5 : Hid (IntsAt w.heap.size w5 (.slice xao nd.list.length xcap) nd.list) := HXI4.out.below (hB5.mono (by omega))
          have HB5 : Hid (Below wo.heap.size wo w5) := HB4.out.trans (hB5.mono (by have := HNB.out; omega))
          have HT5 : Hid (w5.heap[w.heap.size + 1 + 1 + 1]? = some (.cells rulesArr 88 (0, 0))) := (hB5.block _ (by omega)).trans HT4.out
          have HR5 : Hid (w5.heap[NB]? = some (.cells #[.int .i64 (kn : Int), .int .i64 nd.level, .int .i64 nd.a, .int .i64 nd.b, .int .i64 nd.c, .slice xao nd.list.length xcap] 53 (0, 0))) := (hB5.block _ (by omega)).trans HR4.out
          have hz5 : NB + 3 ≤ w5.heap.size := by have := hB5.size; omega
          clear HIT hb5 hB5 hkw k5
          go_wp2_with fail
          refine ⟨⟨t1, t2⟩, ?_⟩
          have hc1 : ¬ 9223372036854775807 < dk.length + 1 := by omega
          have hc2 : ¬ 9223372036854775807 < dk.length + 1 + kw.length := by omega
          iterate 2
            refine steps_read rfl (fun K hK => ?_)
            apply Exists.intro
            refine ⟨fun w' hw' => ?_, ?_⟩
            · have s1 := hw'.1
              have s2 := hw'.2
              go_simp
              try with_reducible rfl
            go_simp
            refine hK _ ?_
            clear hK K
          refine steps_do ?_
          refine wpList_append_rest rfl (.tmp 51) (.tmp 53) rfl (NB + 1) _ ys rfl HO5.out _ rfl w.heap.size nd.list HX5.out (by omega) (by omega) (by omega) ?_
          intro v' w6 ho6 hg6
          have hne6 : ∀ q, q < NB + 1 → some q ≠ (Value.slice vao ys.length vcap).ownBlock := fun q hq e => by have := hvg q e.symm; omega
          have hT6 : w6.heap[w.heap.size + 1 + 1 + 1]? = some (.cells rulesArr 88 (0, 0)) := (hg6.block _ (by omega) (hne6 _ (by omega))).trans HT5.out
          have hR6 : w6.heap[NB]? = some (.cells #[.int .i64 (kn : Int), .int .i64 nd.level, .int .i64 nd.a, .int .i64 nd.b, .int .i64 nd.c, .slice xao nd.list.length xcap] 53 (0, 0)) := (hg6.block _ (by omega) (hne6 _ (by omega))).trans HR5.out
          have t3 : w6.cell? ⟨w.heap.size + 1 + 1 + 1, kn * 4, none⟩ = some (.string ⟨kw.toArray⟩) := hg6.cell t1 (hne6 (w.heap.size + 1 + 1 + 1) (by omega))
          have t4 : w6.cell? ⟨NB, 5, none⟩ = some (.slice xao nd.list.length xcap) := hg6.cell t2 (hne6 NB (by omega))
          have hB6 : Below wo.heap.size wo w6 := HB5.out.grown hg6 (by have := HNB.out; omega) (fun g hg => by have := hvg g hg; have := HNB.out; omega)
          have hLN6 : ys ++ nd.list = Fl.lineNums nd := by rw [HLN.out, HYF.out]; rfl
          rw [hLN6] at ho6
          obtain ⟨oao, ocap, rfl⟩ := own_shape6 ho6
          have hz6 : NB + 3 ≤ w6.heap.size := by have := hg6.size; omega
          have hob : (Value.slice oao (Fl.lineNums nd).length ocap).ownBlock ≠ some (w.heap.size + 1) := fun e => by have := (ho6.lt _ e).1; omega
          have htl := textTo_len (ns := ns) hll HLR.out k (by omega) (fun i hi => HT.out i (by omega))
          obtain ⟨hll2, hlr2⟩ := lineNums_ok HTL.out
          have hwl := writeLine_any (w.heap.size + 1) (Fl.textTo ls ns k) (dk ++ (32 :: kw)) (.slice oao (Fl.lineNums nd).length ocap) (Fl.lineNums nd) w6 (.inr (builder_below HBK.out hB6)) (by omega) (fun W hW => IntsAt.of_own (own_wr ho6 hob hW)) hlr2 ((HP.out.below (Nat.le_refl _) HBW.out).wr (b := wo.heap.size) (by omega) hB6) (by omega) (by omega) (by simp; omega) (by omega)
          have HWL : Hid (Calls Tryz.prog 42 #[.pointer (some ⟨w.heap.size + 1, 0, none⟩), .string (((⟨dk.toArray⟩ : ByteArray) ++ ⟨#[32]⟩) ++ ⟨kw.toArray⟩), .slice oao (Fl.lineNums nd).length ocap] w6 fun e w' => e = .returned (.tuple #[]) ∧ Lib.BuilderAtF 96 5 (w.heap.size + 1) (w.heap.size + 1) (.pointer (some ⟨w.heap.size + 1, 0, none⟩)) (Lib.byteCells (Fl.textTo ls ns (k + 1))) w' ∧ Wr (w.heap.size + 1) w6 w') := by
            show Calls _ _ _ _ _
            rw [cat_words]
            refine hwl.mono ?_
            rintro e w' ⟨he, h1, h2⟩
            refine ⟨he, ?_, h2⟩
            have e1 : Fl.textTo ls ns k ++ (dk ++ 32 :: kw) ++ Fl.spaced (Fl.lineNums nd) = Fl.textTo ls ns (k + 1) := by
              rw [Fl.textTo_succ, ← HND.out]
              unfold Fl.nodeLine
              rw [HDK.out, HKW.out, HKN.out]; simp
            rw [e1] at h1; exact h1
          have HW6 : Hid (Wr (w.heap.size + 1) W0 w6) := HWR.out.below hB6 (by omega)
          have HT6 : Hid _ := hT6
          have HR6 : Hid _ := hR6
          clear ho6 hg6 hT6 hR6 hB6 hLN6 hwl t1 t2 htl hob
          go_wp2_with fail
          refine ⟨⟨t3, t4⟩, ?_⟩
          refine steps_do ?_
          go_wp2_with fail
          refine HWL.out.mono ?_
          rintro e w7 ⟨rfl, hb7, hw7⟩
          have HB7 : Hid (Lib.BuilderAtF 96 5 (w.heap.size + 1) (w.heap.size + 1) (.pointer (some ⟨w.heap.size + 1, 0, none⟩)) (Lib.byteCells (Fl.textTo ls ns (k + 1))) w7) := hb7
          have HW7 : Hid (Wr (w.heap.size + 1) W0 w7) := HW6.out.trans hw7
          have u1 : w7.cell? ⟨w.heap.size + 1 + 1 + 1, kn * 4, none⟩ = some (.string ⟨kw.toArray⟩) := (World.cell?_of_block (w := w6) ((hw7.row HT6.out (by omega) (by decide)).trans HT6.out.symm)).trans t3
          have u2 : w7.cell? ⟨NB, 5, none⟩ = some (.slice xao nd.list.length xcap) := (World.cell?_of_block (w := w6) ((hw7.row HR6.out (by omega) (by decide)).trans HR6.out.symm)).trans t4
          clear hb7 hw7 HWL t3 t4
          go_wp2_with fail
          refine ⟨⟨u1, u2⟩, ?_⟩
          refine steps_end ?_
          clear u1 u2
          go_wp2
          go_roundw
          case rel => exact ⟨k + 1, by omega, by go_num, HB7.out, HW7.out⟩
          case measure => simp [intOf]; omega
    · have hkn : k = ns.length := by omega
      have HST := Tryz.Builder_String_any_k (w.heap.size + 1) (w.heap.size + 1) (Fl.textTo ls ns k) wr (.inr HBK.out) (by omega)
      have HTX : Hid (Fl.text ls ns = Fl.textTo ls ns k) := by show _ = _; rw [hkn]; rfl
      have hkI : ¬ (k : Int) < (ns.length : Int) := by omega
      clear hkn
      go_wp2_with fail
      refine HST.mono ?_
      rintro e w2 ⟨rfl, _, hb2, _⟩
      have HB2 : Hid (Below w.heap.size w w2) := HBW.out.trans (hb2.mono (by omega))
      clear HST hb2
      go_wp2
      go_ret
      exact ⟨by rw [HTX.out]; rfl, HB2.out⟩
end Go.Proofs.YtbihjgfbocpobaaGreatDoor
