/- Texts SpecX RefV Lnb Lnc. -/
import Derived.Test.YtbihjgfbocpobaaGreatDoorM05
/- A proof's text, read. -/
set_option linter.unusedSimpArgs false
set_option linter.unusedVariables false
namespace Go.Proofs.YtbihjgfbocpobaaGreatDoor
open Go.RowKit
namespace Fl

def wLocals : List UInt8 := [108, 111, 99, 97, 108, 115]
/-- The names of the kinds. -/
def kindWords : List (List UInt8) := [[110, 117, 109], [118, 97, 114], [111, 112], [115, 101, 116], [111, 117, 116], [105, 102], [119, 104, 105, 108, 101], [98, 108, 111, 99, 107]]
/-- Words that are numbers below 2^31. -/
def intsOf : List (List UInt8) → Option (List Int)
  | [] => some []
  | w :: r => if (number w 10).2 = true ∧ (number w 10).1 < 2147483648 then (intsOf r).map (fun l => ((number w 10).1 : Int) :: l) else none
theorem intsOf_len : ∀ (ws : List (List UInt8)) (l : List Int), intsOf ws = some l → l.length = ws.length
  | [], l, h => by simp [intsOf] at h; subst h; rfl
  | w :: r, l, h => by
    unfold intsOf at h
    split at h
    · cases hr : intsOf r with
      | none => rw [hr] at h; cases h
      | some l' => rw [hr] at h; simp at h; subst h; simp [intsOf_len r l' hr]
    · cases h
theorem intsOf_range : ∀ (ws : List (List UInt8)) (l : List Int), intsOf ws = some l → l.all inR = true
  | [], l, h => by simp [intsOf] at h; subst h; rfl
  | w :: r, l, h => by
    unfold intsOf at h
    split at h
    · rename_i hc
      cases hr : intsOf r with
      | none => rw [hr] at h; cases h
      | some l' =>
        rw [hr] at h; simp at h; subst h
        simp only [List.all_cons, intsOf_range r l' hr, Bool.and_true, inR, Bool.and_eq_true, decide_eq_true_eq]; omega
    · cases h
theorem intsOf_snoc_ok (ws : List (List UInt8)) (w : List UInt8) (l : List Int) (v : Nat) (h : intsOf ws = some l) (hw : lnum 2147483647 w = some v) : intsOf (ws ++ [w]) = some (l ++ [(v : Int)]) := by
  rw [lnum_number] at hw
  split at hw
  · rename_i hc
    simp only [Option.some.injEq] at hw
    induction ws generalizing l with
    | nil => simp [intsOf] at h; subst h; subst hw; simp only [List.nil_append, intsOf]; rw [if_pos hc]; rfl
    | cons a r ih =>
      unfold intsOf at h
      rw [List.cons_append, intsOf]
      split at h
      · rename_i ha
        rw [if_pos ha]
        cases hr : intsOf r with
        | none => rw [hr] at h; cases h
        | some l' => rw [hr] at h; simp at h; subst h; rw [ih l' hr]; rfl
      · cases h
  · cases hw
theorem intsOf_bad : ∀ (ws : List (List UInt8)) (k : Nat), k < ws.length → lnum 2147483647 (ws.getD k []) = none → intsOf ws = none
  | [], k, h, _ => by simp at h
  | w :: r, 0, _, hw => by
    simp only [List.getD_cons_zero] at hw
    rw [lnum_number] at hw
    unfold intsOf
    split at hw
    · cases hw
    · rename_i hc; rw [if_neg hc]
  | w :: r, k + 1, h, hw => by
    simp only [List.getD_cons_succ] at hw
    have := intsOf_bad r k (by simpa using h) hw
    unfold intsOf
    rw [this]; split <;> rfl
/-- The node in a line's words, where it is to be node k. -/
def nodeOf (k : Nat) (w : List (List UInt8)) : Option Node :=
  if w.length < 3 ∨ w.getD 0 [] ≠ Lib.decDigits k then none else
  if place kindWords (w.getD 1 []) < 0 then none else
  match intsOf (w.drop 2) with
  | none => none
  | some v =>
    if fields (place kindWords (w.getD 1 [])) < 0 then some ⟨place kindWords (w.getD 1 []), v.getD 0 0, 0, 0, 0, v.drop 1⟩
    else if (v.length : Int) ≠ 1 + fields (place kindWords (w.getD 1 [])) then none
    else some ⟨place kindWords (w.getD 1 []), v.getD 0 0, v.getD 1 0, v.getD 2 0, v.getD 3 0, []⟩
/-- The levels in the first line's words. -/
def localsOf (w : List (List UInt8)) : Option (List Int) := if w.getD 0 [] ≠ wLocals then none else intsOf (w.drop 1)
/-- Lines that are left, the next being line i (from 0): 0, or the line (from 1) that is none. -/
def readL (ls : List Int) (acc : List Node) : Nat → List (List UInt8) → (List Int × List Node) × Nat
  | i, [] => ((ls, acc), i + 1)
  | i, [x] => if x = [] ∧ 0 < i then ((ls, acc), 0) else ((ls, acc), i + 1)
  | 0, x :: y :: r => match localsOf (cutR 32 x) with
    | none => ((ls, acc), 1)
    | some l => readL l acc 1 (y :: r)
  | i + 1, x :: y :: r => match nodeOf i (cutR 32 x) with
    | none => ((ls, acc), i + 2)
    | some nd => readL ls (acc ++ [nd]) (i + 2) (y :: r)
/-- A proof's text: what it says, and 0; or the line at which it is none. -/
def readText (s : List UInt8) : (List Int × List Node) × Nat := readL [] [] 0 (cutR 10 s)

theorem readL_first (ls : List Int) (acc : List Node) (x : List UInt8) (t : List (List UInt8)) (ht : t ≠ []) : readL ls acc 0 (x :: t) = match localsOf (cutR 32 x) with | none => ((ls, acc), 1) | some l => readL l acc 1 t := by
  cases t with
  | nil => exact absurd rfl ht
  | cons y r => rw [readL]
theorem readL_next (ls : List Int) (acc : List Node) (i : Nat) (x : List UInt8) (t : List (List UInt8)) (ht : t ≠ []) : readL ls acc (i + 1) (x :: t) = match nodeOf i (cutR 32 x) with | none => ((ls, acc), i + 2) | some nd => readL ls (acc ++ [nd]) (i + 2) t := by
  cases t with
  | nil => exact absurd rfl ht
  | cons y r => rw [readL]
theorem readL_last (ls : List Int) (acc : List Node) (i : Nat) (x : List UInt8) : readL ls acc i [x] = if x = [] ∧ 0 < i then ((ls, acc), 0) else ((ls, acc), i + 1) := by
  cases i <;> rw [readL]
/-- One line of a text that is left, the program's way: there is nothing more; a line that is not ended; a line. -/
theorem readL_end (ls : List Int) (acc : List Node) (i : Nat) (hi : 0 < i) : readL ls acc i (cutR 10 []) = ((ls, acc), 0) := by
  rw [cutR, readL_last, if_pos ⟨rfl, hi⟩]
theorem readL_open (ls : List Int) (acc : List Node) (i : Nat) (s : List UInt8) (hs : i = 0 ∨ s ≠ []) (h : (Lib.cut s [10]).2.2 = false) : readL ls acc i (cutR 10 s) = ((ls, acc), i + 1) := by
  rw [(cut_missed 10 s h).1, readL_last, if_neg (by rintro ⟨h1, h2⟩; rcases hs with h3 | h3; omega; exact h3 h1)]
theorem readL_line0 (ls : List Int) (acc : List Node) (s : List UInt8) (h : (Lib.cut s [10]).2.2 = true) : readL ls acc 0 (cutR 10 s) = match localsOf (Lib.split (Lib.cut s [10]).1 [32]) with | none => ((ls, acc), 1) | some l => readL l acc 1 (cutR 10 (Lib.cut s [10]).2.1) := by
  rw [(cut_found 10 s h).1, readL_first _ _ _ _ (cutR_ne _ _), split_cutR]
theorem readL_line (ls : List Int) (acc : List Node) (i : Nat) (s : List UInt8) (h : (Lib.cut s [10]).2.2 = true) : readL ls acc (i + 1) (cutR 10 s) = match nodeOf i (Lib.split (Lib.cut s [10]).1 [32]) with | none => ((ls, acc), i + 2) | some nd => readL ls (acc ++ [nd]) (i + 2) (cutR 10 (Lib.cut s [10]).2.1) := by
  rw [(cut_found 10 s h).1, readL_next _ _ _ _ _ (cutR_ne _ _), split_cutR]
end Fl
end Go.Proofs.YtbihjgfbocpobaaGreatDoor

/- The reference's decimal, words, ints of words. -/
set_option linter.unusedSimpArgs false
set_option linter.unusedVariables false
namespace Go.Proofs.YtbihjgfbocpobaaGreatDoor
open Go.RowKit

theorem digit_at (k : Nat) (h : k < 10) : (⟨#[48, 49, 50, 51, 52, 53, 54, 55, 56, 57]⟩ : ByteArray).extract k (k + 1) = ⟨#[UInt8.ofNat (48 + k)]⟩ := by
  have : k = 0 ∨ k = 1 ∨ k = 2 ∨ k = 3 ∨ k = 4 ∨ k = 5 ∨ k = 6 ∨ k = 7 ∨ k = 8 ∨ k = 9 := by omega
  rcases this with rfl | rfl | rfl | rfl | rfl | rfl | rfl | rfl | rfl | rfl <;> rfl

set_option maxRecDepth 100000 in
set_option maxHeartbeats 1000000 in
theorem dec_low (v : Nat) (w : World) (hv : v < 10) :
    Calls Tryz.prog 22 #[.int .i64 v] w fun e w' => e = .returned (.string ⟨[UInt8.ofNat (48 + v)].toArray⟩) ∧ w' = w := by
  have h10 : (v : Int) < 10 := by omega
  go_enter Tryz.func22, Tryz.ntmps22
  go_wp2
  go_ret
  exact ⟨ret_string (by rw [Nat.mod_eq_of_lt hv]; exact digit_at v hv), rfl⟩

theorem dec_bytes (v : Nat) (t : List UInt8) : (⟨t.toArray⟩ : ByteArray) ++ (⟨#[48, 49, 50, 51, 52, 53, 54, 55, 56, 57]⟩ : ByteArray).extract (v % 10) (v % 10 + 1) = ⟨(t ++ [UInt8.ofNat (48 + v % 10)]).toArray⟩ := by
  rw [digit_at (v % 10) (by omega)]
  exact ByteArray.mk_append_mk t [UInt8.ofNat (48 + v % 10)]

set_option maxRecDepth 100000 in
set_option maxHeartbeats 1000000 in
theorem dec_high (v : Nat) (t : List UInt8) (w : World) (hv : v < 1000000000000000000) (h10 : ¬ v < 10) (ht : t.length ≤ 100)
    (H : Hid (Calls Tryz.prog 22 #[.int .i64 ((v : Int) / 10)] w fun e w' => e = .returned (.string ⟨t.toArray⟩) ∧ w' = w)) :
    Calls Tryz.prog 22 #[.int .i64 v] w fun e w' => e = .returned (.string ⟨(t ++ [UInt8.ofNat (48 + v % 10)]).toArray⟩) ∧ w' = w := by
  have HB : Hid ((⟨t.toArray⟩ : ByteArray) ++ (⟨#[48, 49, 50, 51, 52, 53, 54, 55, 56, 57]⟩ : ByteArray).extract (v % 10) (v % 10 + 1) = ⟨(t ++ [UInt8.ofNat (48 + v % 10)]).toArray⟩) := dec_bytes v t
  go_enter Tryz.func22, Tryz.ntmps22
  go_wp2_with fail
  refine H.out.mono ?_
  rintro e w1 ⟨rfl, rfl⟩
  have hs1 : ((⟨t.toArray⟩ : ByteArray).size : Int) ≤ 100 := by show ((t.toArray.size : Nat) : Int) ≤ 100; simp; omega
  go_wp2
  go_ret
  exact ⟨ret_string HB.out, rfl⟩

theorem decF_len (f : Nat) : ∀ v, (Fl.decF f v).length ≤ f + 1 := by
  induction f with
  | zero => intro v; simp [Fl.decF]
  | succ f ih => intro v; unfold Fl.decF; split; simp; have := ih (v / 10); simp; omega
theorem dec_walk (f : Nat) (hf : f ≤ 20) : ∀ (v : Nat) (w : World), v < 10 ^ (f + 1) → v < 1000000000000000000 → Calls Tryz.prog 22 #[.int .i64 v] w fun e w' => e = .returned (.string ⟨(Fl.decF f v).toArray⟩) ∧ w' = w := by
  induction f with
  | zero => intro v w hv _; have := dec_low v w (by simpa using hv); rw [Fl.decF, Nat.mod_eq_of_lt (by simpa using hv)]; exact this
  | succ f ih =>
    intro v w hv hm
    by_cases hlt : v < 10
    · have := dec_low v w hlt
      simp only [Fl.decF, if_pos hlt]; exact this
    · simp only [Fl.decF, if_neg hlt]
      have hd : ((v : Int) / 10) = ((v / 10 : Nat) : Int) := by omega
      refine dec_high v _ w hm hlt (by have := decF_len f (v / 10); omega) ?_
      show Calls _ _ _ _ _
      rw [hd]
      exact ih (by omega) (v / 10) w (by rw [Nat.pow_succ] at hv; omega) (by omega)
/-- decimal, of every number of at most 18 digits. -/
theorem decimal_any (v : Nat) (w : World) (hm : v < 1000000000000000000) : Calls Tryz.prog 22 #[.int .i64 v] w fun e w' => e = .returned (strV (Lib.decDigits v)) ∧ w' = w := by
  have := dec_walk 17 (by decide) v w (Nat.lt_of_lt_of_le hm (by decide)) hm
  rw [Fl.decF_digits 17 v (Nat.lt_of_lt_of_le hm (by decide))] at this; exact this
theorem decDigits_len (v : Nat) (hm : v < 1000000000000000000) : (Lib.decDigits v).length ≤ 18 := by
  rw [← Fl.decF_digits 17 v (Nat.lt_of_lt_of_le hm (by decide))]; exact decF_len 17 v

def kindStrs : Array Value := (Fl.kindWords.map strV).toArray
set_option maxHeartbeats 1000000 in
theorem words_any (w : World) : Calls Tryz.prog 20 #[] w fun e w' => e = .returned (.slice (some ⟨w.heap.size, 0, none⟩) 8 8) ∧ w' = w.alloc (.cells kindStrs 9) := by
  go_enter Tryz.func20, Tryz.ntmps20
  go_wp2
  go_ret
  exact ⟨rfl, rfl⟩

theorem intsOf_take_len (ws : List (List UInt8)) (k : Nat) (xs : List Int) (h : Fl.intsOf (ws.take k) = some xs) (hk : k ≤ ws.length) : xs.length = k := by
  rw [Fl.intsOf_len _ _ h, List.length_take]; omega
theorem intsOf_take_bad (ws : List (List UInt8)) (k : Nat) (hk : k < ws.length) (h : Fl.lnum 2147483647 (ws.getD k []) = none) : Fl.intsOf ws = none := Fl.intsOf_bad ws k hk h
theorem intsOf_take_ok (ws : List (List UInt8)) (k : Nat) (xs : List Int) (v : Nat) (hk : k < ws.length) (h : Fl.intsOf (ws.take k) = some xs) (hv : Fl.lnum 2147483647 (ws.getD k []) = some v) : Fl.intsOf (ws.take (k + 1)) = some (xs ++ [(v : Int)]) := by
  have e : ws.take (k + 1) = ws.take k ++ [ws.getD k []] := by
    rw [List.take_add_one, List.getElem?_eq_getElem hk]; simp [List.getD_eq_getElem?_getD, hk]
  rw [e]; exact Fl.intsOf_snoc_ok _ _ _ _ h hv
theorem number_w (l : List UInt8) (w : World) (hl : l.length ≤ 100000) : Calls Tryz.prog 37 #[strV l, .int .i64 10] w fun e w' => e = .returned (.tuple #[.int .i64 (Fl.number l 10).1, .bool (Fl.number l 10).2]) ∧ w' = w :=
  number_any ⟨l.toArray⟩ 10 w (by show l.toArray.size ≤ _; simp [maxLen]; omega) (by decide)

set_option maxRecDepth 100000 in
set_option maxHeartbeats 4000000 in
theorem rints_walk (B : Nat) (sv : Value) (ws : List (List UInt8)) (w : World) (hv : WordsAt B w sv ws) (hB : B ≤ w.heap.size) :
    Calls Tryz.prog 25 #[sv] w fun e w' => ∃ v, e = .returned (.tuple #[v, .bool (Fl.intsOf ws).isSome]) ∧ w'.ownsRow w.heap.size 3 1 v ((Fl.intsOf ws).getD []).length (((Fl.intsOf ws).getD []).map (Value.int .i64)) ∧ Below w.heap.size w w' := by
  obtain ⟨i0, hi, hz0, hz1, hz2⟩ := info_parts Tryz.infoInt
  obtain ⟨ao, cap, rfl, hl, hcap, hn, hss, hc⟩ := hv
  unfold maxLen at hcap
  go_enter Tryz.func25, Tryz.ntmps25
  go_wp2
  go_loopw [4, 5] (fun v i wr => ∃ (k : Nat) (xs : List Int), k ≤ ws.length ∧ Fl.intsOf (ws.take k) = some xs ∧ i = .int .i64 k ∧ wr.ownsRow w.heap.size 3 1 v xs.length (xs.map (Value.int .i64)) ∧ Below w.heap.size w wr) (fun _ i _ => ws.length - (intOf i).toNat)
  case atStart => exact ⟨0, [], by omega, rfl, rfl, World.ownsRow_nil _ _ _ _, Below.refl _ _⟩
  case round =>
    obtain ⟨k, xs, hk, hxs, rfl, hown, hbel⟩ := hrel
    have hxl : xs.length = k := intsOf_take_len ws k xs hxs hk
    have HX : Hid (Fl.intsOf (ws.take k) = some xs) := hxs
    have HL : Hid (xs.length = k) := hxl
    have hxl' : xs.length ≤ 100000 := by omega
    have hbs := hbel.size
    clear hxs hxl
    by_cases hlt : k < ws.length
    · obtain ⟨b, off, rfl, hbB, hcell⟩ := hc (by intro h; rw [h] at hlt; simp at hlt)
      obtain ⟨x, hx⟩ : ∃ x, x = ws.getD k [] := ⟨_, rfl⟩
      have hck : wr.cell? ⟨b, off + k, none⟩ = some (strV x) := by rw [hbel.cell (p := ⟨b, off + k, none⟩) (by show b < _; omega), hx]; exact hcell k hlt
      have hxlen : x.length ≤ 100000 := hss x (by rw [hx, List.getD_eq_getElem?_getD, List.getElem?_eq_getElem hlt]; simp)
      have HE : Hid (x = ws.getD k []) := hx
      have HLN := Fl.lnum_number x
      obtain ⟨nv, nb, hnum⟩ : ∃ nv nb, Fl.number x 10 = (nv, nb) := ⟨_, _, rfl⟩
      have HCH : Hid (Calls Tryz.prog 37 #[strV x, .int .i64 10] wr fun e w' => e = .returned (.tuple #[.int .i64 nv, .bool nb]) ∧ w' = wr) := by
        have := number_w x wr hxlen; rw [hnum] at this; exact this
      rw [hnum] at HLN
      have HLH : Hid (Fl.lnum 2147483647 x = if nb = true ∧ nv < 2147483648 then some nv else none) := HLN
      clear hx hcell hc hss hnum HLN
      by_cases hnb : nb = true ∧ nv < 2147483648
      · obtain ⟨rfl, hnv⟩ := hnb
        have HS : Hid (Fl.intsOf (ws.take (k + 1)) = some (xs ++ [(nv : Int)])) := intsOf_take_ok ws k xs nv hlt HX.out (by rw [← HE.out, HLH.out, if_pos ⟨rfl, hnv⟩])
        have hnI : (nv : Int) < 2147483648 := by omega
        clear hnv
        generalize (nv : Int) = z at HCH HS hnI
        go_wp2_with (first | (go_at_call 37; refine (HCH.out).mono ?_; rintro e w' ⟨rfl, rfl⟩) | (at_builtin; refine wpList_append_own _ rfl _ _ 29 rfl w.heap.size 3 i0 (.int .i64 0) 1 8 Tryz.underlying29 hi hz0 hz1 hz2 rfl (by decide) _ _ _ rfl (hown.alloc _) ⟨_, 0, none⟩ 1 1 [.int .i64 z] rfl rfl one_cell_new ?c2 ?c3 ?c4 ?c5 ?_))
        case c2 => intro u hu; simp at hu; subst hu; rfl
        case c3 => unfold maxLen; omega
        case c4 => omega
        case c5 => simp; omega
        · intro v' w1 hown' hgrow _
          have hb1 : Below w.heap.size w w1 := (hbel.alloc hbs _).grown hgrow (by simp; omega) (fun g hg => (hown.lt g hg).1)
          have ho1 : w1.ownsRow w.heap.size 3 1 v' (xs ++ [z]).length ((xs ++ [z]).map (Value.int .i64)) := by simpa using hown'
          clear hown' hgrow hown HCH
          go_wp2
          go_roundw
          case rel => exact ⟨k + 1, xs ++ [z], by omega, HS.out, by go_num, ho1, hb1⟩
          case measure => simp [intOf]; omega
      · have HF : Hid (Fl.intsOf ws = none) := intsOf_take_bad ws k hlt (by rw [← HE.out, HLH.out, if_neg hnb])
        by_cases hb' : nb = true
        · subst hb'
          have hnv : ¬ nv < 2147483648 := fun h => hnb ⟨rfl, h⟩
          have hnI : 2147483648 ≤ (nv : Int) := by omega
          clear hnb hnv
          go_wp2_with (go_at_call 37; refine (HCH.out).mono ?_; rintro e w' ⟨rfl, rfl⟩)
          go_ret2
          exact ⟨_, by rw [HF.out]; rfl, by rw [HF.out]; exact World.ownsRow_nil _ _ _ _, hbel⟩
        · obtain rfl : nb = false := by simpa using hb'
          clear hnb hb'
          go_wp2_with (go_at_call 37; refine (HCH.out).mono ?_; rintro e w' ⟨rfl, rfl⟩)
          go_ret2
          exact ⟨_, by rw [HF.out]; rfl, by rw [HF.out]; exact World.ownsRow_nil _ _ _ _, hbel⟩
    · have hkn' : k = ws.length := by omega
      have HF : Hid (Fl.intsOf ws = some xs) := by have := HX.out; rw [hkn', List.take_length] at this; exact this
      clear hkn' hc hss
      go_wp2
      go_ret2
      exact ⟨_, by rw [HF.out]; rfl, by rw [HF.out]; exact hown, hbel⟩
end Go.Proofs.YtbihjgfbocpobaaGreatDoor

/- The program's readNumbers. -/
set_option linter.unusedSimpArgs false
set_option linter.unusedVariables false
namespace Go.Proofs.YtbihjgfbocpobaaGreatDoor
open Go.RowKit

theorem own_low {w w' : World} {base : Nat} {e : TypeId} {k : Nat} {v : Value} {n : Nat} {xs : List Value} (h : w.ownsRow base e k v n xs) (hb : Below w.heap.size w w') : w'.ownsRow base e k v n xs := by
  have og : w.grownBy w' none := ⟨hb.os, hb.tape, hb.output, hb.size, fun k hk _ => hb.block k hk⟩
  exact h.kept og (by cases v.ownBlock <;> simp)
theorem intsOf_lt (ws : List (List UInt8)) (k : Nat) (v : Nat) (h : Fl.lnum 2147483647 (ws.getD k []) = some v) : (v : Int) < 2147483648 := by
  rw [Fl.lnum_number] at h
  split at h
  · rename_i hc; simp only [Option.some.injEq] at h; omega
  · cases h

set_option maxRecDepth 100000 in
set_option maxHeartbeats 4000000 in
theorem readNumbers_any (B : Nat) (sv : Value) (ws : List (List UInt8)) (w : World) (hv : WordsAt B w sv ws) (hB : B ≤ w.heap.size) :
    Calls Tryz.prog 80 #[sv] w fun e w' => ∃ v, e = .returned (.tuple #[v, .bool (Fl.intsOf ws).isSome]) ∧ w'.ownsRow w.heap.size 3 1 v ((Fl.intsOf ws).getD []).length (((Fl.intsOf ws).getD []).map (Value.int .i64)) ∧ Below w.heap.size w w' := by
  obtain ⟨i0, hi, hz0, hz1, hz2⟩ := info_parts Tryz.infoInt
  obtain ⟨ao, cap, rfl, hl, hcap, hn, hss, hc⟩ := hv
  unfold maxLen at hcap
  go_enter Tryz.func80, Tryz.ntmps80
  go_wp2
  go_loopw [4, 11] (fun v i wr => ∃ (k : Nat) (xs : List Int), k ≤ ws.length ∧ Fl.intsOf (ws.take k) = some xs ∧ i = .int .i64 k ∧ wr.ownsRow w.heap.size 3 1 v xs.length (xs.map (Value.int .i64)) ∧ Below w.heap.size w wr) (fun _ i _ => ws.length - (intOf i).toNat)
  case atStart => exact ⟨0, [], by omega, rfl, rfl, World.ownsRow_nil _ _ _ _, Below.refl _ _⟩
  case round =>
    obtain ⟨k, xs, hk, hxs, rfl, hown, hbel⟩ := hrel
    have hxl : xs.length = k := intsOf_take_len ws k xs hxs hk
    have HX : Hid (Fl.intsOf (ws.take k) = some xs) := hxs
    have hxl' : xs.length ≤ 100000 := by omega
    have hbs := hbel.size
    clear hxs hxl
    by_cases hlt : k < ws.length
    · obtain ⟨b, off, rfl, hbB, hcell⟩ := hc (by intro h; rw [h] at hlt; simp at hlt)
      obtain ⟨x, hx⟩ : ∃ x, x = ws.getD k [] := ⟨_, rfl⟩
      have hck : wr.cell? ⟨b, off + k, none⟩ = some (.string ⟨x.toArray⟩) := by rw [hbel.cell (p := ⟨b, off + k, none⟩) (by show b < _; omega), hx]; exact hcell k hlt
      have hxlen : x.length ≤ 100000 := hss x (by rw [hx, List.getD_eq_getElem?_getD, List.getElem?_eq_getElem hlt]; simp)
      have HE : Hid (x = ws.getD k []) := hx
      have hN := lnumber_any x 2147483647 wr hxlen (by decide) (by decide)
      have HOWN : Hid _ := hown
      clear hx hcell hc hss hown
      cases hln : Fl.lnum 2147483647 x with
      | some nv =>
        have HS : Hid (Fl.intsOf (ws.take (k + 1)) = some (xs ++ [(nv : Int)])) := intsOf_take_ok ws k xs nv hlt HX.out (by rw [← HE.out]; exact hln)
        rw [hln] at hN
        have HCH : Hid (Calls Tryz.prog 95 #[.string ⟨x.toArray⟩, .int .i64 2147483647] wr fun e w' => e = .returned (.tuple #[.int .i64 (nv : Int), .bool true]) ∧ Below wr.heap.size wr w') := hN
        generalize (nv : Int) = z at HCH HS
        clear hN hln
        go_wp2_with fail
        refine (HCH.out).mono ?_
        rintro e w1 ⟨rfl, hb1⟩
        have ho1 := own_low HOWN.out hb1
        have hbel1 : Below w.heap.size w w1 := hbel.trans (hb1.mono hbs)
        have hbs1 := hbel1.size
        clear hb1 hbel
        go_wp2_with (at_builtin; refine wpList_append_own _ rfl _ _ 29 rfl w.heap.size 3 i0 (.int .i64 0) 1 8 Tryz.underlying29 hi hz0 hz1 hz2 rfl (by decide) _ _ _ rfl (ho1.alloc _) ⟨_, 0, none⟩ 1 1 [.int .i64 z] rfl rfl one_cell_new ?c2 ?c3 ?c4 ?c5 ?_)
        case c2 => intro u hu; simp at hu; subst hu; rfl
        case c3 => unfold maxLen; omega
        case c4 => omega
        case c5 => simp; omega
        intro v' w2 hown' hgrow _
        have hb2 : Below w.heap.size w w2 := (hbel1.alloc hbs1 _).grown hgrow (by simp; omega) (fun g hg => (ho1.lt g hg).1)
        have ho2 : w2.ownsRow w.heap.size 3 1 v' (xs ++ [z]).length ((xs ++ [z]).map (Value.int .i64)) := by simpa using hown'
        clear hown' hgrow ho1 HCH
        go_wp2
        go_roundw
        case rel => exact ⟨k + 1, xs ++ [z], by omega, HS.out, by go_num, ho2, hb2⟩
        case measure => simp [intOf]; omega
      | none =>
        have HF : Hid (Fl.intsOf ws = none) := intsOf_take_bad ws k hlt (by rw [← HE.out]; exact hln)
        rw [hln] at hN
        have HCH : Hid (Calls Tryz.prog 95 #[.string ⟨x.toArray⟩, .int .i64 2147483647] wr fun e w' => e = .returned (.tuple #[.int .i64 0, .bool false]) ∧ Below wr.heap.size wr w') := hN
        clear hN hln
        go_wp2_with fail
        refine (HCH.out).mono ?_
        rintro e w1 ⟨rfl, hb1⟩
        have hbel1 : Below w.heap.size w w1 := hbel.trans (hb1.mono hbs)
        clear hb1 hbel
        go_wp2
        go_ret2
        exact ⟨_, by rw [HF.out]; rfl, by rw [HF.out]; exact World.ownsRow_nil _ _ _ _, hbel1⟩
    · have hkn' : k = ws.length := by omega
      have HF : Hid (Fl.intsOf ws = some xs) := by have := HX.out; rw [hkn', List.take_length] at this; exact this
      clear hkn' hc hss
      go_wp2
      go_ret2
      exact ⟨_, by rw [HF.out]; rfl, by rw [HF.out]; exact hown, hbel⟩
end Go.Proofs.YtbihjgfbocpobaaGreatDoor

/- The program's readLocals. -/
set_option linter.unusedSimpArgs false
set_option linter.unusedVariables false
namespace Go.Proofs.YtbihjgfbocpobaaGreatDoor
open Go.RowKit

/-- What a call that reads numbers ends with. -/
def WordNums (o : Option (List Int)) (w : World) (e : Ending) (w' : World) : Prop := ∃ v, e = .returned (.tuple #[v, .bool o.isSome]) ∧ w'.ownsRow w.heap.size 3 1 v (o.getD []).length ((o.getD []).map (Value.int .i64)) ∧ Below w.heap.size w w'
theorem ret_nums {v : Value} {b : Bool} {o : Option (List Int)} {w w' : World} (hb : b = o.isSome) (h : w'.ownsRow w.heap.size 3 1 v (o.getD []).length ((o.getD []).map (Value.int .i64))) (hbl : Below w.heap.size w w') : WordNums o w (.returned (.tuple #[v, .bool b])) w' := ⟨v, by rw [hb], h, hbl⟩

set_option maxRecDepth 100000 in
set_option maxHeartbeats 4000000 in
theorem readLocals_any (B : Nat) (b cap : Nat) (ws : List (List UInt8)) (w : World) (hv : WordsAt B w (.slice (some ⟨b, 0, none⟩) ws.length cap) ws) (hB : B ≤ w.heap.size) (hne : 0 < ws.length) :
    Calls Tryz.prog 53 #[.slice (some ⟨b, 0, none⟩) ws.length cap] w (WordNums (Fl.localsOf ws) w) := by
  obtain ⟨ao, cap', he, hl, hcap, hn, hss, hc⟩ := id hv
  simp only [Value.slice.injEq] at he
  obtain ⟨rfl, -, rfl⟩ := he
  obtain ⟨b', off', e, hbB, hcell⟩ := hc (by intro h; rw [h] at hne; simp at hne)
  simp only [Option.some.injEq, Addr.mk.injEq, and_true] at e
  obtain ⟨rfl, rfl⟩ := e
  have c0 := hcell 0 hne
  obtain ⟨x0, hx0⟩ : ∃ x0, x0 = ws.getD 0 [] := ⟨_, rfl⟩
  rw [← hx0] at c0
  unfold strV at c0
  simp only [Nat.add_zero] at c0
  unfold maxLen at hcap
  have HX0 : Hid (x0 = ws.getD 0 []) := hx0
  obtain ⟨ov, hov⟩ : ∃ ov, ov = Fl.intsOf (ws.drop 1) := ⟨_, rfl⟩
  have HIN : Hid (∀ sv, sv = .slice (some ⟨b, 1, none⟩) (ws.length - 1) (cap - 1) ∨ (sv = .slice (some ⟨b, 0, none⟩) (ws.length - 1) 0 ∧ ws.length ≤ 1) → Calls Tryz.prog 80 #[sv] w (WordNums ov w)) := by
    intro sv hsv
    rw [hov]
    refine readNumbers_any B sv _ w ?_ hB
    rcases hsv with rfl | ⟨rfl, h1⟩
    · have := hv.drop 1 (by omega); simpa using this
    · have hl : ws.length - 1 = 0 := by omega
      rw [List.drop_of_length_le h1, hl]
      exact ⟨_, _, rfl, by simp, by simp [maxLen], by simp, by simp, fun h => absurd rfl h⟩
  have HOV : Hid (ov = Fl.intsOf (ws.drop 1)) := hov
  clear hv hc hcell hss hx0 hov
  by_cases hxl : x0 = Fl.wLocals
  · have HE : Hid (Fl.localsOf ws = ov) := by
      show _ = _
      unfold Fl.localsOf; rw [if_neg (by rw [← HX0.out, hxl]; exact fun h => h rfl), HOV.out]
    have b3 : (x0 == [108, 111, 99, 97, 108, 115]) = true := by rw [hxl]; decide
    clear hxl
    go_enter Tryz.func53, Tryz.ntmps53
    go_wp2_with fail
    all_goals
      refine (HIN.out _ (by first | exact .inl rfl | exact .inr ⟨rfl, by omega⟩)).mono ?_
      rintro e w1 ⟨v, rfl, ho, hb⟩
      go_wp2
      go_ret2
      rw [HE.out]
      exact ⟨_, rfl, ho, hb⟩
  · have HE : Hid (Fl.localsOf ws = none) := by
      show _ = _
      unfold Fl.localsOf; rw [if_pos (by rw [← HX0.out]; exact hxl)]
    have b3 : (x0 == [108, 111, 99, 97, 108, 115]) = false := by rw [beq_eq_false_iff_ne]; exact hxl
    clear hxl
    go_enter Tryz.func53, Tryz.ntmps53
    go_wp2
    go_ret2
    rw [HE.out]
    exact ⟨_, rfl, World.ownsRow_nil _ _ _ _, Below.refl _ _⟩
end Go.Proofs.YtbihjgfbocpobaaGreatDoor
