/- Texts Rt3 Lnq RdRow. -/
import Derived.Test.YtbihjgfbocpobaaGreatDoorM27
import Derived.Laws.IdiomStrings
import Derived.Test.YtbihjgfbocpobaaGreatDoorTie
import Derived.Test.YtbihjgfbocpobaaGreatDoorCards
import Derived.SevenTiedAt
/- Bytes there and back: a proof. -/
set_option linter.unusedSimpArgs false
set_option linter.unusedVariables false
namespace Go.Proofs.YtbihjgfbocpobaaGreatDoor
open Go.RowKit
namespace Fl

theorem head_back {s : List UInt8} (h : ¬ headAt s < 3) : s = [70, 80, 49] ++ s.drop 3 ∧ 3 ≤ s.length := by
  unfold headAt at h
  cases h0 : headOk s 0 with
  | false => rw [if_pos h0] at h; omega
  | true =>
    cases h1 : headOk s 1 with
    | false => rw [if_neg (by rw [h0]; simp), if_pos h1] at h; omega
    | true =>
      cases h2 : headOk s 2 with
      | false => rw [if_neg (by rw [h0]; simp), if_neg (by rw [h1]; simp), if_pos h2] at h; omega
      | true =>
        simp only [headOk, Bool.and_eq_true, decide_eq_true_eq, beq_iff_eq] at h0 h1 h2
        match s, h2.1 with
        | a :: b :: c :: t, _ =>
          have e0 := h0.2; have e1 := h1.2; have e2 := h2.2
          simp at e0 e1 e2
          subst e0 e1 e2
          exact ⟨rfl, by simp⟩
theorem head_coded (t : List UInt8) : headAt ([70, 80, 49] ++ t) = 3 := by
  simp [headAt, headOk]

/-- Bytes that are a proof are its bytes. -/
theorem decode_encode {s : List UInt8} (h : (decode s).2.1 = true) : encode (decode s).1.1 (decode s).1.2 = (s, true, -1) := by
  unfold decode at h ⊢
  by_cases h0 : headAt s < 3
  · rw [if_pos h0] at h; simp at h
  rw [if_neg h0] at h ⊢
  obtain ⟨hs, h3⟩ := head_back h0
  simp only at h ⊢
  have hno := num_ok s 3 h3
  by_cases h1 : (num s 3).2.1 < 0
  · rw [if_pos h1] at h; simp at h
  rw [if_neg h1] at h ⊢
  obtain ⟨v, a1, a2, a3, a4⟩ := num_back h3 (show 0 ≤ (num s 3).2.1 by omega)
  rw [a3] at hno
  rw [a1, a3] at h ⊢
  by_cases h2 : (4 : Int) < (v : Int)
  · rw [if_pos h2] at h; simp at h
  rw [if_neg h2] at h ⊢
  simp only [Int.toNat_natCast] at h ⊢
  by_cases h4 : (nums s (3 + (coded v).length) v).2.1 < 0
  · rw [if_pos h4] at h; simp at h
  rw [if_neg h4] at h ⊢
  have hlo := nums_ok s (3 + (coded v).length) v (by omega)
  obtain ⟨ls, b1, b2, b3, b4, b5⟩ := nums_back (s := s) (p := 3 + (coded v).length) (n := v) (by omega) (by omega)
  rw [b4] at hlo
  rw [b1, b4] at h ⊢
  simp only [Int.toNat_natCast] at h ⊢
  have hmo := num_ok s (3 + (coded v).length + (codedAll ls).length) (by omega)
  by_cases h5 : (num s (3 + (coded v).length + (codedAll ls).length)).2.1 < 0
  · rw [if_pos h5] at h; simp at h
  rw [if_neg h5] at h ⊢
  obtain ⟨m, c1, c2, c3, c4⟩ := num_back (s := s) (p := 3 + (coded v).length + (codedAll ls).length) (by omega) (by omega)
  rw [c3] at hmo
  rw [c1, c3] at h ⊢
  by_cases h6 : (m : Int) < 1 ∨ 200 < (m : Int)
  · rw [if_pos h6] at h; simp at h
  rw [if_neg h6] at h ⊢
  simp only [Int.toNat_natCast] at h ⊢
  generalize hr : nodesA s m 0 (3 + (coded v).length + (codedAll ls).length + (coded m).length) [] [] = r at h ⊢
  by_cases h7 : 0 ≤ r.2.2.2
  · rw [if_pos h7] at h; simp at h
  rw [if_neg h7] at h ⊢
  obtain ⟨ns, d1, d2, d3, d4⟩ := nodesA_back s m 0 (3 + (coded v).length + (codedAll ls).length + (coded m).length) [] [] (by omega) (by rw [hr]; omega)
  rw [hr] at d1 d3
  rw [List.nil_append] at d1
  rw [d1, d3] at h ⊢
  by_cases h8 : ((3 + (coded v).length + (codedAll ls).length + (coded m).length + (allBytes ns).length : Nat) : Int) < (s.length : Int)
  · rw [if_pos h8] at h; simp at h
  rw [if_neg h8] at h ⊢
  by_cases h9 : 0 ≤ shaped ns
  · rw [if_pos h9] at h; simp at h
  rw [if_neg h9]
  simp only
  unfold encode
  rw [if_neg (by omega), if_neg (by rw [b3]; simp), if_neg h9]
  have hrest : s.drop (3 + (coded v).length + (codedAll ls).length + (coded m).length + (allBytes ns).length) = [] := List.drop_eq_nil_of_le (by omega)
  have : headBytes ls ns ++ allBytes ns = s := by
    conv => rhs; rw [hs, a4, b5, c4, d4, hrest]
    unfold headBytes; rw [b2, d2]; simp [List.append_assoc]
  rw [this]

/-- A proof's bytes are that proof. -/
theorem encode_decode {ls : List Int} {ns : List Node} (h : (encode ls ns).2.1 = true) : decode (encode ls ns).1 = ((ls, ns), true, 0) ∧ (encode ls ns).2.2 = -1 := by
  unfold encode at h ⊢
  by_cases h1 : 4 < ls.length ∨ ns.length = 0 ∨ 200 < ns.length
  · rw [if_pos h1] at h; simp at h
  rw [if_neg h1] at h ⊢
  by_cases h2 : ls.all inR = false
  · rw [if_pos h2] at h; simp at h
  rw [if_neg h2] at h ⊢
  by_cases h3 : 0 ≤ shaped ns
  · rw [if_pos h3] at h; simp at h
  rw [if_neg h3]
  simp only [and_true]
  have hall : ls.all inR = true := by simpa using h2
  obtain ⟨s, hs⟩ : ∃ s, s = headBytes ls ns ++ allBytes ns := ⟨_, rfl⟩
  rw [← hs]
  have hs' : s = [70, 80, 49] ++ (coded ls.length ++ (codedAll ls ++ (coded ns.length ++ allBytes ns))) := by rw [hs]; unfold headBytes; simp [List.append_assoc]
  have e3 : s.drop 3 = coded ls.length ++ (codedAll ls ++ (coded ns.length ++ allBytes ns)) := by rw [hs']; rfl
  have n3 := num_coded e3 (by omega)
  have e4 := drop_then e3
  have n4 := nums_coded e4 hall
  have e5 := drop_then e4
  have n5 := num_coded e5 (by omega)
  have e6 := drop_then e5
  have hgood : ∀ i, i < ns.length → sound (nth ns i) = true ∧ (prem (nth ns i)).any (fun x => decide (((0 + i : Nat) : Int) ≤ x)) = false := by
    intro i hi
    have h4 : shaped ns < 0 := by omega
    refine ⟨sound_of_shaped h4 i hi, ?_⟩
    unfold shaped at h4
    cases hf : (List.range ns.length).find? (bad ns) with
    | some j => rw [hf] at h4; simp only at h4; omega
    | none =>
      rw [List.find?_eq_none] at hf
      have := hf i (by simpa using hi)
      simp only [bad, Bool.or_eq_true, not_or, Bool.not_eq_true] at this
      rw [Nat.zero_add]; exact this.2.1
  obtain ⟨st', hn⟩ := nodesA_coded s [] ns 0 _ [] [] (by rw [List.append_nil]; exact e6) hgood
  have hend : s.length = 3 + (coded ls.length).length + (codedAll ls).length + (coded ns.length).length + (allBytes ns).length := by rw [hs']; simp; omega
  unfold decode
  rw [if_neg (by rw [hs', head_coded]; omega)]
  simp only [n3]
  rw [if_neg (by omega), if_neg (by omega)]
  simp only [Int.toNat_natCast, n4]
  rw [if_neg (by omega)]
  simp only [n5]
  rw [if_neg (by omega), if_neg (by omega)]
  simp only [Int.toNat_natCast, hn]
  rw [if_neg (by omega), if_neg (by rw [hend]; omega)]
  simp only [List.nil_append]
  rw [if_neg h3]
end Fl
end Go.Proofs.YtbihjgfbocpobaaGreatDoor

/- The statement Reads: the walk. -/
set_option linter.unusedSimpArgs false
set_option linter.unusedVariables false
namespace Go.Proofs.YtbihjgfbocpobaaGreatDoor
open Go.RowKit

set_option maxRecDepth 100000 in
set_option maxHeartbeats 4000000 in
theorem lread_any (s : List UInt8) (w : World) (hs : s.length ≤ 40000) (hE : ErrType w) (hpw : Pows w) (hmx : MaxLenIs w) :
    Calls Tryz.prog 6 #[.string ⟨s.toArray⟩] w fun e w' => (∃ va n c, e = .returned (.tuple #[.slice va n c, .bool true])) ∧ Below w.heap.size w w' := by
  have HC : Hid (Calls Tryz.prog 10 #[.string ⟨s.toArray⟩] w (PlainBytes s w)) := plain_bytes hE hs hpw hmx
  have HRB : Hid (∀ W, Calls Tryz.prog 11 #[.string ⟨s.toArray⟩] W (BytEnds (Fl.readText s) W)) := fun W => rbytes_walk s W hs
  clear hE hs hpw hmx
  go_enter Tryz.func6, Tryz.ntmps6
  go_wp2_with fail
  refine HC.out.mono ?_
  rintro e w1 ⟨hb1, hbad, hgood⟩
  have HB1 : Hid (Below w.heap.size w w1) := hb1
  have hz1 := hb1.size
  clear hb1 HC
  by_cases hr : (Fl.readText s).2 = 0
  · obtain ⟨-, hbad2, hgood2⟩ := hgood hr
    obtain ⟨ls, hls⟩ : ∃ ls, ls = (Fl.readText s).1.1 := ⟨_, rfl⟩
    obtain ⟨ns, hns⟩ : ∃ ns, ns = (Fl.readText s).1.2 := ⟨_, rfl⟩
    rw [← hls, ← hns] at hbad2 hgood2
    have HRR : Hid ((Fl.readText s).2 = 0) := hr
    have HR2 := HRB.out w1
    have HRW : Hid (Calls Tryz.prog 11 #[.string ⟨s.toArray⟩] w1 fun e w' => Below w1.heap.size w1 w' ∧ ∃ la lc na nc, e = .returned (.tuple #[.agg #[.slice la ls.length lc, .slice na ns.length nc], .int .i64 0]) ∧ IntsAt w'.heap.size w' (.slice la ls.length lc) ls ∧ NodesAt w'.heap.size w' (.slice na ns.length nc) ns) := by
      refine HR2.mono ?_
      rintro e w' ⟨hb, la, n, lc, na, n', nc, rfl, hk⟩
      obtain ⟨h1, h2⟩ := hk hr
      rw [← hls] at h1
      rw [← hns] at h2
      obtain ⟨_, _, e1, _⟩ := id h1
      obtain ⟨_, _, e2, _⟩ := id h2
      simp only [Value.slice.injEq] at e1 e2
      obtain ⟨-, rfl, -⟩ := e1
      obtain ⟨-, rfl, -⟩ := e2
      exact ⟨hb, la, lc, na, nc, by rw [hr]; rfl, h1, h2⟩
    clear hbad hgood hr hls hns HR2 HRB
    cases hr2 : (Fl.encode ls ns).2.1 with
    | false =>
      obtain rfl := hbad2 hr2
      have HR3 : Hid ((Fl.encode ls ns).2.1 = false) := hr2
      obtain ⟨pl, hpl⟩ : ∃ pl, pl = (Fl.encode ls ns).2.2 := ⟨_, rfl⟩
      rw [← hpl]
      have HPL : Hid (pl = (Fl.encode ls ns).2.2) := hpl
      clear hbad2 hgood2 hr2 hpl
      go_wp2_with fail
      refine HRW.out.mono ?_
      rintro e w2 ⟨hb2, la, lc, na, nc, rfl, hli, hni⟩
      have HEN : Hid (∀ o, Calls Tryz.prog 12 #[.agg #[.slice la ls.length lc, .slice na ns.length nc]] (w2.alloc o) fun e w' => e = .returned (.tuple #[.string ⟨(Fl.encode ls ns).1.toArray⟩, .bool false, .int .i64 pl]) ∧ Below (w2.alloc o).heap.size (w2.alloc o) w') := fun o => by
        have := encode_any ls ns (.slice la ls.length lc) (.slice na ns.length nc) w2.heap.size (w2.alloc o) (by simp) (hli.below ((Below.refl _ _).alloc (Nat.le_refl _) _)) (hni.below ((Below.refl _ _).alloc (Nat.le_refl _) _))
        rw [HR3.out, ← HPL.out] at this; exact this
      have HB2 : Hid (∀ o, Below w.heap.size w (w2.alloc o)) := fun o => (HB1.out.trans (hb2.mono hz1)).alloc (by have := hb2.size; omega) _
      clear hb2 hli hni HRW
      go_wp2_with fail
      refine (HEN.out _).mono ?_
      rintro e w3 ⟨rfl, hb3⟩
      have HB3 : Hid (Below w.heap.size w w3) := (HB2.out _).trans (hb3.mono (HB2.out _).size)
      clear hb3 HEN
      go_wp2
      go_ret2
      exact ⟨⟨_, _, _, rfl⟩, HB3.out⟩
    | true =>
      obtain ⟨va, n, c, rfl, ho⟩ := hgood2 hr2
      have HR3 : Hid ((Fl.encode ls ns).2.1 = true) := hr2
      obtain ⟨bl, hbl⟩ : ∃ bl, bl = (Fl.encode ls ns).1 := ⟨_, rfl⟩
      rw [← hbl] at ho
      have HBL : Hid (bl = (Fl.encode ls ns).1) := hbl
      have HNE : Hid (bl ≠ []) := by
        show bl ≠ []
        rw [hbl]
        have h9 := Fl.encode_decode hr2
        intro h
        rw [h] at h9
        have : Fl.decode [] = (([], []), false, 0) := by simp [Fl.decode, Fl.headAt, Fl.headOk]
        rw [this] at h9; simp at h9
      obtain ⟨g, hva, hn⟩ : ∃ g, va = some ⟨g, 0, none⟩ ∧ n = bl.length := by
        rcases ho.2 with ⟨h0, h0'⟩ | ⟨g, cap, cur, hv, _⟩
        · exact absurd (List.eq_nil_of_length_eq_zero h0') HNE.out
        · simp only [Value.slice.injEq] at hv; exact ⟨g, hv.1, hv.2.1⟩
      subst hva hn
      have HO : Hid (w1.ownsRow w.heap.size 5 1 (.slice (some ⟨g, 0, none⟩) bl.length c) bl.length (bl.map bval)) := ho
      clear hbad2 hgood2 hr2 hbl ho
      go_wp2_with fail
      refine HRW.out.mono ?_
      rintro e w2 ⟨hb2, la, lc, na, nc, rfl, hli, hni⟩
      have HEN : Hid (∀ o, Calls Tryz.prog 12 #[.agg #[.slice la ls.length lc, .slice na ns.length nc]] (w2.alloc o) fun e w' => e = .returned (.tuple #[.string ⟨bl.toArray⟩, .bool true, .int .i64 (Fl.encode ls ns).2.2]) ∧ Below (w2.alloc o).heap.size (w2.alloc o) w') := fun o => by
        have := encode_any ls ns (.slice la ls.length lc) (.slice na ns.length nc) w2.heap.size (w2.alloc o) (by simp) (hli.below ((Below.refl _ _).alloc (Nat.le_refl _) _)) (hni.below ((Below.refl _ _).alloc (Nat.le_refl _) _))
        rw [HR3.out, ← HBL.out] at this; exact this
      have HB2 : Hid (∀ o, Below w.heap.size w (w2.alloc o)) := fun o => (HB1.out.trans (hb2.mono hz1)).alloc (by have := hb2.size; omega) _
      have HB12 : Hid (∀ o, Below w1.heap.size w1 (w2.alloc o)) := fun o => hb2.alloc hb2.size _
      clear hb2 hli hni HRW
      go_wp2_with fail
      refine (HEN.out _).mono ?_
      rintro e w3 ⟨rfl, hb3⟩
      have HB3 : Hid (Below w.heap.size w w3) := (HB2.out _).trans (hb3.mono (HB2.out _).size)
      have HO3 : Hid (w3.ownsRow w.heap.size 5 1 (.slice (some ⟨g, 0, none⟩) bl.length c) bl.length (bl.map bval)) := by
        have hbb : Below w1.heap.size w1 w3 := (HB12.out _).trans (hb3.mono (HB12.out _).size)
        exact HO.out.kept (row := none) ⟨hbb.os, hbb.tape, hbb.output, hbb.size, fun k hk _ => hbb.block k hk⟩ (by simp [Value.ownBlock])
      have hcv : (convert 23 9  (.slice (some ⟨g, 0, none⟩) bl.length c)).run Tryz.prog w3.drew = .ok (.string ⟨bl.toArray⟩) w3.drew :=
        run_convert_bytes_back w3.drew 23 9 5 ⟨g, 0, none⟩ c bl Tryz.underlying23 Tryz.underlying5 Tryz.underlying9 (fun j hj => by
          have := HO3.out.cells (g := g) rfl j (bval bl[j]) (by simp [hj])
          exact this)
      clear hb3 HEN
      go_wp2_with fail
      refine still_gen 3 _ 3 _ (by kernel_rfl) (by kernel_rfl) rfl rfl (fun ops hY hY2 => ?_)
      iterate 11 still_step
      refine wpStill_nil ?_
      go_wp2
      go_ret2
      exact ⟨⟨_, _, _, rfl⟩, HB3.out.drew⟩
  · obtain rfl := hbad hr
    obtain ⟨ln, hln⟩ : ∃ ln : Nat, ln = (Fl.readText s).2 := ⟨_, rfl⟩
    rw [← hln]
    have hpos : 0 < (ln : Int) := by rw [hln]; omega
    have HRW : Hid (Calls Tryz.prog 11 #[.string ⟨s.toArray⟩] w1 fun e w' => Below w1.heap.size w1 w' ∧ ∃ la n lc na n' nc, e = .returned (.tuple #[.agg #[.slice la n lc, .slice na n' nc], .int .i64 (ln : Int)])) := by
      refine (HRB.out w1).mono ?_
      rintro e w' ⟨hb, la, n, lc, na, n', nc, rfl, hk⟩
      exact ⟨hb, la, n, lc, na, n', nc, by rw [hln]⟩
    clear hbad hgood hr hln HRB
    go_wp2_with fail
    refine HRW.out.mono ?_
    rintro e w2 ⟨hb2, la, n, lc, na, n', nc, rfl⟩
    have HB2 : Hid (∀ o, Below w.heap.size w (w2.alloc o)) := fun o => (HB1.out.trans (hb2.mono hz1)).alloc (by have := hb2.size; omega) _
    clear hb2 HRW
    go_wp2
    go_ret2
    exact ⟨⟨_, _, _, rfl⟩, HB2.out _⟩

set_option maxRecDepth 100000 in
set_option maxHeartbeats 1000000 in
theorem reads_any (l : List UInt8) (w : World) (hs : l.length ≤ 9223372036854775807) (hE : ErrType w) (hpw : Pows w) (hmx : MaxLenIs w) :
    Calls Tryz.prog 4 #[.string ⟨l.toArray⟩] w fun e w' => e = .returned (.bool true) ∧ Below w.heap.size w w' := by
  have hsz : (⟨l.toArray⟩ : ByteArray).size = l.length := by show l.toArray.size = _; simp
  by_cases hbig : 32768 < l.length
  · have hbi : (32768 : Int) < (l.length : Int) := by omega
    clear hE hpw hmx
    go_enter Tryz.func4, Tryz.ntmps4
    go_wp2
    go_ret
    exact ⟨rfl, Below.refl _ _⟩
  · have hbi : ¬ (32768 : Int) < (l.length : Int) := by omega
    have HD : Hid (Calls Tryz.prog 6 #[.string ⟨l.toArray⟩] w fun e w' => (∃ va n c, e = .returned (.tuple #[.slice va n c, .bool true])) ∧ Below w.heap.size w w') := lread_any l w (by omega) hE hpw hmx
    clear hE hpw hmx
    go_enter Tryz.func4, Tryz.ntmps4
    go_wp2_with fail
    refine HD.out.mono ?_
    rintro e w1 ⟨⟨va, n, c, rfl⟩, hb1⟩
    have HB1 : Hid (Below w.heap.size w w1) := hb1
    clear HD hb1
    go_wp2
    go_ret
    exact ⟨rfl, HB1.out⟩
end Go.Proofs.YtbihjgfbocpobaaGreatDoor

/- The statement Reads: the row, the card. -/
set_option linter.unusedSimpArgs false
set_option linter.unusedVariables false
namespace Go.Proofs.YtbihjgfbocpobaaGreatDoor
open Go.ChangeShapes Go.WideShapes Go.RowKit Go.ChangeMaps

set_option maxRecDepth 100000 in
theorem reads_lifted (os : Os) (started : os.Started) (H : Type) (enc : TypeId × Value → H) :
    ReturnsInHanded {} Tryz.checked os 4 .any (fun w args => (Rows.readsSpec.pre enc Tryz.prog Tryz.f4 [] false w args ∧ laidMetH Tryz.prog laidL w) ∧ sizedMet enc Tryz.prog Tryz.f4 (OpenSpec.ofChange Rows.readsSpec) false w args)
      (Rows.readsSpec.post enc Tryz.prog Tryz.f4 false true false false) := by
  refine returnsIn_shaped_and (C := Tryz.checked) (X := fun w _ => laidMetH Tryz.prog laidL w) (fun _ _ _ hh h => h.of_heap hh) Tryz.own started (by kernel_rfl) Tryz.func4
    (ChangeSpec.witness_shaped (enc := enc) (C := Tryz.checked) (os := os) (X := fun w _ => laidMetH Tryz.prog laidL w) false ({ World.doorLaid Tryz.prog 41 os with heap := (World.doorLaid Tryz.prog 41 os).heap.modify 5 fun
      | .cells _ t frozen => .cells (Go.Pinned.utf8FirstZ.map fun (z : Nat) => Value.int .u8 (z : Int)).toArray t frozen
      | o => o } : World) #[.string ⟨#[]⟩] 8 rfl (World.shaped_of_RefB (by kernel_rfl) (by kernel_rfl)) (by kernel_rfl) (by kernel_rfl) (by kernel_rfl) (doorWorld_met os _)) ?_
  intro W base args ds gs before hval0 hW hL hsh
  have hval : ∀ (j : Nat) t v, Tryz.f4.params[j]? = some t → args[j]? = some v → Value.okWide Tryz.prog W .any base t v := hval0
  have hW' := hW
  obtain ⟨p, q, hA0, hV0, rfl, hfz, hnd⟩ := hW
  have hA : DataW.TrodAll enc Tryz.prog W 0 (fun _ => true) true Tryz.f4.params.toList args.toList ds p := hA0
  have hV : DataW.TrodVars enc Tryz.prog W (fun _ => true) [] gs q := hV0
  rw [Tryz.params4] at hA hval
  obtain ⟨v0, d0, rfl, rfl, h0⟩ := trodAll_one hA
  obtain ⟨s, rfl, rfl, rfl, hsz⟩ := open_string Tryz.underlying9 (hval 0 9 v0 rfl rfl) h0
  obtain ⟨hp, hg⟩ := pows_of_laid hL
  obtain ⟨rfl, rfl⟩ : gs = [] ∧ q = [] := by
    cases gs with
    | nil => exact ⟨rfl, hV⟩
    | cons g r => exact absurd hV (by intro h; cases h)
  have e1 : Rows.readsSpec.fn H ([.lit (.string s.data.toList)] ++ []) = { results := [.lit (.bool true)], args := [.lit (.string s.data.toList)] } := by simp [Rows.readsSpec]
  have hs2 : (⟨s.data.toList.toArray⟩ : ByteArray) = s := by simp
  have hwalk := reads_any s.data.toList W (by unfold maxLen at hsz; have hq : s.data.toList.length = s.size := (by simp); omega) hg hp (maxLen_of_shape hsh)
  rw [hs2] at hwalk
  refine hwalk.mono fun e W' ⟨he, hw⟩ => ?_
  subst he
  refine ⟨_, rfl, _, _, _, [], [], [], hW', ?_, ?_, ?_, hw.frame _, fun h => by cases h⟩
  · rw [e1]; exact trodAll_mk1 (shut_bool Tryz.underlying4 true)
  · rw [e1]; exact trodAll_mk1 (shut_string Tryz.underlying9 hsz)
  · rw [e1]; rfl

theorem reads_said : Rows.ReadsSaid :=
  OpenClaim.holds_of_wide 4 Tryz.f4 rfl rfl rfl rfl rfl rfl rfl ⟨rfl, rfl, rfl, rfl, rfl⟩ rfl rfl rfl rfl rfl (by kernel_rfl) Tryz.func4 (by kernel_rfl)
    (of_decide_eq_true (by kernel_rfl)) (by unfold Func.isWrapper; rw [if_neg (of_decide_eq_false (by kernel_rfl))]; exact ⟨rfl, rfl⟩)
    (fun os started H enc _ => reads_lifted os started H enc)

theorem reads_card : Rows.ReadsCardSaid :=
  Claim7.holds_tied_plain_at .later [] [.data, .data, .data, .data, .handle, .pinned] true Rows.readsCard.stood.harness true
    reads_said (fun _ h => by cases h) (by kernel_rfl) (fun _ h => by cases h) reads_row_tie rfl ⟨rfl, rfl⟩ (by kernel_rfl) rfl
    (fun f fn hf hfn => by
      obtain rfl : f = 4 := Option.some.inj ((show Tryz.prog.funcNamed Rows.readsRow.func = some 4 by kernel_rfl).symm.trans hf) |>.symm
      obtain rfl : fn = Tryz.f4 := (Option.some.inj (Tryz.func4.symm.trans hfn)).symm
      exact ⟨by kernel_rfl, fun j t ht => by
        rw [Tryz.params4] at ht
        have h3 : t = 9 := by
          rcases j with _ | j
          · simpa using ht.symm
          · simp at ht
        subst h3
        exact (show Tryz.prog.wantsStandIn 9 = false by kernel_rfl)⟩)
    (by kernel_rfl)
end Go.Proofs.YtbihjgfbocpobaaGreatDoor
