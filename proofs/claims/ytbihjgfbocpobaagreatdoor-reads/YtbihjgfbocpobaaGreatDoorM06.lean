/- Texts RefV Lnb Lnc Own. -/
import Derived.Test.YtbihjgfbocpobaaGreatDoorM05
/- The reference's decimal, words, ints of words. -/
set_option linter.unusedSimpArgs false
set_option linter.unusedVariables false
namespace Go.Proofs.YtbihjgfbocpobaaGreatDoor
open Go.RowKit

theorem digit_at (k : Nat) (h : k < 10) : (⟨#[48, 49, 50, 51, 52, 53, 54, 55, 56, 57]⟩ : ByteArray).extract k (k + 1) = ⟨#[UInt8.ofNat (48 + k)]⟩ := by
  have : k = 0 ∨ k = 1 ∨ k = 2 ∨ k = 3 ∨ k = 4 ∨ k = 5 ∨ k = 6 ∨ k = 7 ∨ k = 8 ∨ k = 9 := by omega
  rcases this with rfl | rfl | rfl | rfl | rfl | rfl | rfl | rfl | rfl | rfl <;> rfl

set_option maxRecDepth 100000 in
set_option maxHeartbeats 1000000 in
theorem dec_low (v : Nat) (w : World) (hv : v < 10) :
    Calls Tryz.prog 22 #[.int .i64 v] w fun e w' => e = .returned (.string ⟨[UInt8.ofNat (48 + v)].toArray⟩) ∧ w' = w := by
  have h10 : (v : Int) < 10 := by omega
  go_enter Tryz.func22, Tryz.ntmps22
  go_wp2
  go_ret
  exact ⟨ret_string (by rw [Nat.mod_eq_of_lt hv]; exact digit_at v hv), rfl⟩

theorem dec_bytes (v : Nat) (t : List UInt8) : (⟨t.toArray⟩ : ByteArray) ++ (⟨#[48, 49, 50, 51, 52, 53, 54, 55, 56, 57]⟩ : ByteArray).extract (v % 10) (v % 10 + 1) = ⟨(t ++ [UInt8.ofNat (48 + v % 10)]).toArray⟩ := by
  rw [digit_at (v % 10) (by omega)]
  exact ByteArray.mk_append_mk t [UInt8.ofNat (48 + v % 10)]

set_option maxRecDepth 100000 in
set_option maxHeartbeats 1000000 in
theorem dec_high (v : Nat) (t : List UInt8) (w : World) (hv : v < 1000000000000000000) (h10 : ¬ v < 10) (ht : t.length ≤ 100)
    (H : Hid (Calls Tryz.prog 22 #[.int .i64 ((v : Int) / 10)] w fun e w' => e = .returned (.string ⟨t.toArray⟩) ∧ w' = w)) :
    Calls Tryz.prog 22 #[.int .i64 v] w fun e w' => e = .returned (.string ⟨(t ++ [UInt8.ofNat (48 + v % 10)]).toArray⟩) ∧ w' = w := by
  have HB : Hid ((⟨t.toArray⟩ : ByteArray) ++ (⟨#[48, 49, 50, 51, 52, 53, 54, 55, 56, 57]⟩ : ByteArray).extract (v % 10) (v % 10 + 1) = ⟨(t ++ [UInt8.ofNat (48 + v % 10)]).toArray⟩) := dec_bytes v t
  go_enter Tryz.func22, Tryz.ntmps22
  go_wp2_with fail
  refine H.out.mono ?_
  rintro e w1 ⟨rfl, rfl⟩
  have hs1 : ((⟨t.toArray⟩ : ByteArray).size : Int) ≤ 100 := by show ((t.toArray.size : Nat) : Int) ≤ 100; simp; omega
  go_wp2
  go_ret
  exact ⟨ret_string HB.out, rfl⟩

theorem decF_len (f : Nat) : ∀ v, (Fl.decF f v).length ≤ f + 1 := by
  induction f with
  | zero => intro v; simp [Fl.decF]
  | succ f ih => intro v; unfold Fl.decF; split; simp; have := ih (v / 10); simp; omega
theorem dec_walk (f : Nat) (hf : f ≤ 20) : ∀ (v : Nat) (w : World), v < 10 ^ (f + 1) → v < 1000000000000000000 → Calls Tryz.prog 22 #[.int .i64 v] w fun e w' => e = .returned (.string ⟨(Fl.decF f v).toArray⟩) ∧ w' = w := by
  induction f with
  | zero => intro v w hv _; have := dec_low v w (by simpa using hv); rw [Fl.decF, Nat.mod_eq_of_lt (by simpa using hv)]; exact this
  | succ f ih =>
    intro v w hv hm
    by_cases hlt : v < 10
    · have := dec_low v w hlt
      simp only [Fl.decF, if_pos hlt]; exact this
    · simp only [Fl.decF, if_neg hlt]
      have hd : ((v : Int) / 10) = ((v / 10 : Nat) : Int) := by omega
      refine dec_high v _ w hm hlt (by have := decF_len f (v / 10); omega) ?_
      show Calls _ _ _ _ _
      rw [hd]
      exact ih (by omega) (v / 10) w (by rw [Nat.pow_succ] at hv; omega) (by omega)
/-- decimal, of every number of at most 18 digits. -/
theorem decimal_any (v : Nat) (w : World) (hm : v < 1000000000000000000) : Calls Tryz.prog 22 #[.int .i64 v] w fun e w' => e = .returned (strV (Lib.decDigits v)) ∧ w' = w := by
  have := dec_walk 17 (by decide) v w (Nat.lt_of_lt_of_le hm (by decide)) hm
  rw [Fl.decF_digits 17 v (Nat.lt_of_lt_of_le hm (by decide))] at this; exact this
theorem decDigits_len (v : Nat) (hm : v < 1000000000000000000) : (Lib.decDigits v).length ≤ 18 := by
  rw [← Fl.decF_digits 17 v (Nat.lt_of_lt_of_le hm (by decide))]; exact decF_len 17 v

def kindStrs : Array Value := (Fl.kindWords.map strV).toArray
set_option maxHeartbeats 1000000 in
theorem words_any (w : World) : Calls Tryz.prog 20 #[] w fun e w' => e = .returned (.slice (some ⟨w.heap.size, 0, none⟩) 8 8) ∧ w' = w.alloc (.cells kindStrs 9) := by
  go_enter Tryz.func20, Tryz.ntmps20
  go_wp2
  go_ret
  exact ⟨rfl, rfl⟩

/-- A list of words, read where it lies, below a block. -/
def WordsAt (B : Nat) (w : World) (v : Value) (ws : List (List UInt8)) : Prop :=
  ∃ ao cap, v = .slice ao ws.length cap ∧ ws.length ≤ cap ∧ cap ≤ maxLen ∧ ws.length ≤ 100000 ∧ (∀ x ∈ ws, x.length ≤ 100000) ∧
    (ws ≠ [] → ∃ b off, ao = some ⟨b, off, none⟩ ∧ b < B ∧ ∀ i, i < ws.length → w.cell? ⟨b, off + i, none⟩ = some (strV (ws.getD i [])))
theorem WordsAt.below {B : Nat} {w w' : World} {v : Value} {ws : List (List UInt8)} (h : WordsAt B w v ws) (hb : Below B w w') : WordsAt B w' v ws := by
  obtain ⟨ao, cap, h1, h2, h3, h4, h5, h6⟩ := h
  refine ⟨ao, cap, h1, h2, h3, h4, h5, fun hne => ?_⟩
  obtain ⟨b, off, e, hb', hc⟩ := h6 hne
  exact ⟨b, off, e, hb', fun i hi => (hb.cell (p := ⟨b, off + i, none⟩) hb').trans (hc i hi)⟩
theorem WordsAt.mono {B B' : Nat} {w : World} {v : Value} {ws : List (List UInt8)} (h : WordsAt B w v ws) (hB : B ≤ B') : WordsAt B' w v ws := by
  obtain ⟨ao, cap, h1, h2, h3, h4, h5, h6⟩ := h
  refine ⟨ao, cap, h1, h2, h3, h4, h5, fun hne => ?_⟩
  obtain ⟨b, off, e, hb', hc⟩ := h6 hne
  exact ⟨b, off, e, by omega, hc⟩
theorem WordsAt.drop {B : Nat} {w : World} {b off n cap : Nat} {ws : List (List UInt8)} (h : WordsAt B w (.slice (some ⟨b, off, none⟩) n cap) ws) (k : Nat) (hk : k ≤ n) : WordsAt B w (.slice (some ⟨b, off + k, none⟩) (n - k) (cap - k)) (ws.drop k) := by
  obtain ⟨ao, cap', h1, h2, h3, h4, h5, h6⟩ := h
  simp only [Value.slice.injEq] at h1
  obtain ⟨rfl, rfl, rfl⟩ := h1
  refine ⟨_, _, by rw [List.length_drop], by rw [List.length_drop]; omega, by omega, by rw [List.length_drop]; omega, fun x hx => h5 x (List.mem_of_mem_drop hx), fun hne => ?_⟩
  have hn : ws ≠ [] := by rintro rfl; simp at hne
  obtain ⟨b', off', e, hb', hc⟩ := h6 hn
  simp only [Option.some.injEq, Addr.mk.injEq, and_true] at e
  obtain ⟨rfl, rfl⟩ := e
  refine ⟨_, _, rfl, hb', fun i hi => ?_⟩
  rw [List.length_drop] at hi
  rw [Nat.add_assoc, hc (k + i) (by omega)]; simp [List.getD_eq_getElem?_getD]
theorem WordsAt.of_own {base : Nat} {w : World} {e : TypeId} {v : Value} {n : Nat} {ws : List (List UInt8)} (h : w.ownsRow base e 1 v n (ws.map strV)) (hl : ws.length ≤ 100000) (h5 : ∀ x ∈ ws, x.length ≤ 100000) : WordsAt w.heap.size w v ws := by
  have hl : ws.length = n := by have := h.1; simpa using this
  rcases h.2 with ⟨rfl, h0⟩ | ⟨g, cap, cur, rfl, hb, hg, hnc, hcm, hcs, ht⟩
  · have : ws = [] := List.eq_nil_of_length_eq_zero (by omega)
    subst this; exact ⟨none, 0, rfl, by simp, by simp [maxLen], by simp, by simp, fun h => absurd rfl h⟩
  · refine ⟨_, cap, by rw [hl], by omega, hcm, by omega, h5, fun hne => ⟨g, 0, rfl, (Array.getElem?_eq_some_iff.1 hg).1, fun i hi => ?_⟩⟩
    have h1 := h.cells (g := g) rfl i (strV (ws.getD i [])) (by simp [List.getD_eq_getElem?_getD, hi])
    have h2 : (⟨g, 0, none⟩ : Addr).add i = ⟨g, 0 + i, none⟩ := by unfold Addr.add; split <;> simp_all
    rw [h2] at h1; exact h1

theorem intsOf_take_len (ws : List (List UInt8)) (k : Nat) (xs : List Int) (h : Fl.intsOf (ws.take k) = some xs) (hk : k ≤ ws.length) : xs.length = k := by
  rw [Fl.intsOf_len _ _ h, List.length_take]; omega
theorem intsOf_take_bad (ws : List (List UInt8)) (k : Nat) (hk : k < ws.length) (h : Fl.lnum 2147483647 (ws.getD k []) = none) : Fl.intsOf ws = none := Fl.intsOf_bad ws k hk h
theorem intsOf_take_ok (ws : List (List UInt8)) (k : Nat) (xs : List Int) (v : Nat) (hk : k < ws.length) (h : Fl.intsOf (ws.take k) = some xs) (hv : Fl.lnum 2147483647 (ws.getD k []) = some v) : Fl.intsOf (ws.take (k + 1)) = some (xs ++ [(v : Int)]) := by
  have e : ws.take (k + 1) = ws.take k ++ [ws.getD k []] := by
    rw [List.take_add_one, List.getElem?_eq_getElem hk]; simp [List.getD_eq_getElem?_getD, hk]
  rw [e]; exact Fl.intsOf_snoc_ok _ _ _ _ h hv
theorem number_w (l : List UInt8) (w : World) (hl : l.length ≤ 100000) : Calls Tryz.prog 37 #[strV l, .int .i64 10] w fun e w' => e = .returned (.tuple #[.int .i64 (Fl.number l 10).1, .bool (Fl.number l 10).2]) ∧ w' = w :=
  number_any ⟨l.toArray⟩ 10 w (by show l.toArray.size ≤ _; simp [maxLen]; omega) (by decide)

set_option maxRecDepth 100000 in
set_option maxHeartbeats 4000000 in
theorem rints_walk (B : Nat) (sv : Value) (ws : List (List UInt8)) (w : World) (hv : WordsAt B w sv ws) (hB : B ≤ w.heap.size) :
    Calls Tryz.prog 25 #[sv] w fun e w' => ∃ v, e = .returned (.tuple #[v, .bool (Fl.intsOf ws).isSome]) ∧ w'.ownsRow w.heap.size 3 1 v ((Fl.intsOf ws).getD []).length (((Fl.intsOf ws).getD []).map (Value.int .i64)) ∧ Below w.heap.size w w' := by
  obtain ⟨i0, hi, hz0, hz1, hz2⟩ := info_parts Tryz.infoInt
  obtain ⟨ao, cap, rfl, hl, hcap, hn, hss, hc⟩ := hv
  unfold maxLen at hcap
  go_enter Tryz.func25, Tryz.ntmps25
  go_wp2
  go_loopw [4, 5] (fun v i wr => ∃ (k : Nat) (xs : List Int), k ≤ ws.length ∧ Fl.intsOf (ws.take k) = some xs ∧ i = .int .i64 k ∧ wr.ownsRow w.heap.size 3 1 v xs.length (xs.map (Value.int .i64)) ∧ Below w.heap.size w wr) (fun _ i _ => ws.length - (intOf i).toNat)
  case atStart => exact ⟨0, [], by omega, rfl, rfl, World.ownsRow_nil _ _ _ _, Below.refl _ _⟩
  case round =>
    obtain ⟨k, xs, hk, hxs, rfl, hown, hbel⟩ := hrel
    have hxl : xs.length = k := intsOf_take_len ws k xs hxs hk
    have HX : Hid (Fl.intsOf (ws.take k) = some xs) := hxs
    have HL : Hid (xs.length = k) := hxl
    have hxl' : xs.length ≤ 100000 := by omega
    have hbs := hbel.size
    clear hxs hxl
    by_cases hlt : k < ws.length
    · obtain ⟨b, off, rfl, hbB, hcell⟩ := hc (by intro h; rw [h] at hlt; simp at hlt)
      obtain ⟨x, hx⟩ : ∃ x, x = ws.getD k [] := ⟨_, rfl⟩
      have hck : wr.cell? ⟨b, off + k, none⟩ = some (strV x) := by rw [hbel.cell (p := ⟨b, off + k, none⟩) (by show b < _; omega), hx]; exact hcell k hlt
      have hxlen : x.length ≤ 100000 := hss x (by rw [hx, List.getD_eq_getElem?_getD, List.getElem?_eq_getElem hlt]; simp)
      have HE : Hid (x = ws.getD k []) := hx
      have HLN := Fl.lnum_number x
      obtain ⟨nv, nb, hnum⟩ : ∃ nv nb, Fl.number x 10 = (nv, nb) := ⟨_, _, rfl⟩
      have HCH : Hid (Calls Tryz.prog 37 #[strV x, .int .i64 10] wr fun e w' => e = .returned (.tuple #[.int .i64 nv, .bool nb]) ∧ w' = wr) := by
        have := number_w x wr hxlen; rw [hnum] at this; exact this
      rw [hnum] at HLN
      have HLH : Hid (Fl.lnum 2147483647 x = if nb = true ∧ nv < 2147483648 then some nv else none) := HLN
      clear hx hcell hc hss hnum HLN
      by_cases hnb : nb = true ∧ nv < 2147483648
      · obtain ⟨rfl, hnv⟩ := hnb
        have HS : Hid (Fl.intsOf (ws.take (k + 1)) = some (xs ++ [(nv : Int)])) := intsOf_take_ok ws k xs nv hlt HX.out (by rw [← HE.out, HLH.out, if_pos ⟨rfl, hnv⟩])
        have hnI : (nv : Int) < 2147483648 := by omega
        clear hnv
        generalize (nv : Int) = z at HCH HS hnI
        go_wp2_with (first | (go_at_call 37; refine (HCH.out).mono ?_; rintro e w' ⟨rfl, rfl⟩) | (at_builtin; refine wpList_append_own _ rfl _ _ 29 rfl w.heap.size 3 i0 (.int .i64 0) 1 8 Tryz.underlying29 hi hz0 hz1 hz2 rfl (by decide) _ _ _ rfl (hown.alloc _) ⟨_, 0, none⟩ 1 1 [.int .i64 z] rfl rfl one_cell_new ?c2 ?c3 ?c4 ?c5 ?_))
        case c2 => intro u hu; simp at hu; subst hu; rfl
        case c3 => unfold maxLen; omega
        case c4 => omega
        case c5 => simp; omega
        · intro v' w1 hown' hgrow _
          have hb1 : Below w.heap.size w w1 := (hbel.alloc hbs _).grown hgrow (by simp; omega) (fun g hg => (hown.lt g hg).1)
          have ho1 : w1.ownsRow w.heap.size 3 1 v' (xs ++ [z]).length ((xs ++ [z]).map (Value.int .i64)) := by simpa using hown'
          clear hown' hgrow hown HCH
          go_wp2
          go_roundw
          case rel => exact ⟨k + 1, xs ++ [z], by omega, HS.out, by go_num, ho1, hb1⟩
          case measure => simp [intOf]; omega
      · have HF : Hid (Fl.intsOf ws = none) := intsOf_take_bad ws k hlt (by rw [← HE.out, HLH.out, if_neg hnb])
        by_cases hb' : nb = true
        · subst hb'
          have hnv : ¬ nv < 2147483648 := fun h => hnb ⟨rfl, h⟩
          have hnI : 2147483648 ≤ (nv : Int) := by omega
          clear hnb hnv
          go_wp2_with (go_at_call 37; refine (HCH.out).mono ?_; rintro e w' ⟨rfl, rfl⟩)
          go_ret2
          exact ⟨_, by rw [HF.out]; rfl, by rw [HF.out]; exact World.ownsRow_nil _ _ _ _, hbel⟩
        · obtain rfl : nb = false := by simpa using hb'
          clear hnb hb'
          go_wp2_with (go_at_call 37; refine (HCH.out).mono ?_; rintro e w' ⟨rfl, rfl⟩)
          go_ret2
          exact ⟨_, by rw [HF.out]; rfl, by rw [HF.out]; exact World.ownsRow_nil _ _ _ _, hbel⟩
    · have hkn' : k = ws.length := by omega
      have HF : Hid (Fl.intsOf ws = some xs) := by have := HX.out; rw [hkn', List.take_length] at this; exact this
      clear hkn' hc hss
      go_wp2
      go_ret2
      exact ⟨_, by rw [HF.out]; rfl, by rw [HF.out]; exact hown, hbel⟩
end Go.Proofs.YtbihjgfbocpobaaGreatDoor

/- The program's readNumbers. -/
set_option linter.unusedSimpArgs false
set_option linter.unusedVariables false
namespace Go.Proofs.YtbihjgfbocpobaaGreatDoor
open Go.RowKit

theorem own_low {w w' : World} {base : Nat} {e : TypeId} {k : Nat} {v : Value} {n : Nat} {xs : List Value} (h : w.ownsRow base e k v n xs) (hb : Below w.heap.size w w') : w'.ownsRow base e k v n xs := by
  have og : w.grownBy w' none := ⟨hb.os, hb.tape, hb.output, hb.size, fun k hk _ => hb.block k hk⟩
  exact h.kept og (by cases v.ownBlock <;> simp)
theorem intsOf_lt (ws : List (List UInt8)) (k : Nat) (v : Nat) (h : Fl.lnum 2147483647 (ws.getD k []) = some v) : (v : Int) < 2147483648 := by
  rw [Fl.lnum_number] at h
  split at h
  · rename_i hc; simp only [Option.some.injEq] at h; omega
  · cases h

set_option maxRecDepth 100000 in
set_option maxHeartbeats 4000000 in
theorem readNumbers_any (B : Nat) (sv : Value) (ws : List (List UInt8)) (w : World) (hv : WordsAt B w sv ws) (hB : B ≤ w.heap.size) :
    Calls Tryz.prog 80 #[sv] w fun e w' => ∃ v, e = .returned (.tuple #[v, .bool (Fl.intsOf ws).isSome]) ∧ w'.ownsRow w.heap.size 3 1 v ((Fl.intsOf ws).getD []).length (((Fl.intsOf ws).getD []).map (Value.int .i64)) ∧ Below w.heap.size w w' := by
  obtain ⟨i0, hi, hz0, hz1, hz2⟩ := info_parts Tryz.infoInt
  obtain ⟨ao, cap, rfl, hl, hcap, hn, hss, hc⟩ := hv
  unfold maxLen at hcap
  go_enter Tryz.func80, Tryz.ntmps80
  go_wp2
  go_loopw [4, 11] (fun v i wr => ∃ (k : Nat) (xs : List Int), k ≤ ws.length ∧ Fl.intsOf (ws.take k) = some xs ∧ i = .int .i64 k ∧ wr.ownsRow w.heap.size 3 1 v xs.length (xs.map (Value.int .i64)) ∧ Below w.heap.size w wr) (fun _ i _ => ws.length - (intOf i).toNat)
  case atStart => exact ⟨0, [], by omega, rfl, rfl, World.ownsRow_nil _ _ _ _, Below.refl _ _⟩
  case round =>
    obtain ⟨k, xs, hk, hxs, rfl, hown, hbel⟩ := hrel
    have hxl : xs.length = k := intsOf_take_len ws k xs hxs hk
    have HX : Hid (Fl.intsOf (ws.take k) = some xs) := hxs
    have hxl' : xs.length ≤ 100000 := by omega
    have hbs := hbel.size
    clear hxs hxl
    by_cases hlt : k < ws.length
    · obtain ⟨b, off, rfl, hbB, hcell⟩ := hc (by intro h; rw [h] at hlt; simp at hlt)
      obtain ⟨x, hx⟩ : ∃ x, x = ws.getD k [] := ⟨_, rfl⟩
      have hck : wr.cell? ⟨b, off + k, none⟩ = some (.string ⟨x.toArray⟩) := by rw [hbel.cell (p := ⟨b, off + k, none⟩) (by show b < _; omega), hx]; exact hcell k hlt
      have hxlen : x.length ≤ 100000 := hss x (by rw [hx, List.getD_eq_getElem?_getD, List.getElem?_eq_getElem hlt]; simp)
      have HE : Hid (x = ws.getD k []) := hx
      have hN := lnumber_any x 2147483647 wr hxlen (by decide) (by decide)
      have HOWN : Hid _ := hown
      clear hx hcell hc hss hown
      cases hln : Fl.lnum 2147483647 x with
      | some nv =>
        have HS : Hid (Fl.intsOf (ws.take (k + 1)) = some (xs ++ [(nv : Int)])) := intsOf_take_ok ws k xs nv hlt HX.out (by rw [← HE.out]; exact hln)
        rw [hln] at hN
        have HCH : Hid (Calls Tryz.prog 95 #[.string ⟨x.toArray⟩, .int .i64 2147483647] wr fun e w' => e = .returned (.tuple #[.int .i64 (nv : Int), .bool true]) ∧ Below wr.heap.size wr w') := hN
        generalize (nv : Int) = z at HCH HS
        clear hN hln
        go_wp2_with fail
        refine (HCH.out).mono ?_
        rintro e w1 ⟨rfl, hb1⟩
        have ho1 := own_low HOWN.out hb1
        have hbel1 : Below w.heap.size w w1 := hbel.trans (hb1.mono hbs)
        have hbs1 := hbel1.size
        clear hb1 hbel
        go_wp2_with (at_builtin; refine wpList_append_own _ rfl _ _ 29 rfl w.heap.size 3 i0 (.int .i64 0) 1 8 Tryz.underlying29 hi hz0 hz1 hz2 rfl (by decide) _ _ _ rfl (ho1.alloc _) ⟨_, 0, none⟩ 1 1 [.int .i64 z] rfl rfl one_cell_new ?c2 ?c3 ?c4 ?c5 ?_)
        case c2 => intro u hu; simp at hu; subst hu; rfl
        case c3 => unfold maxLen; omega
        case c4 => omega
        case c5 => simp; omega
        intro v' w2 hown' hgrow _
        have hb2 : Below w.heap.size w w2 := (hbel1.alloc hbs1 _).grown hgrow (by simp; omega) (fun g hg => (ho1.lt g hg).1)
        have ho2 : w2.ownsRow w.heap.size 3 1 v' (xs ++ [z]).length ((xs ++ [z]).map (Value.int .i64)) := by simpa using hown'
        clear hown' hgrow ho1 HCH
        go_wp2
        go_roundw
        case rel => exact ⟨k + 1, xs ++ [z], by omega, HS.out, by go_num, ho2, hb2⟩
        case measure => simp [intOf]; omega
      | none =>
        have HF : Hid (Fl.intsOf ws = none) := intsOf_take_bad ws k hlt (by rw [← HE.out]; exact hln)
        rw [hln] at hN
        have HCH : Hid (Calls Tryz.prog 95 #[.string ⟨x.toArray⟩, .int .i64 2147483647] wr fun e w' => e = .returned (.tuple #[.int .i64 0, .bool false]) ∧ Below wr.heap.size wr w') := hN
        clear hN hln
        go_wp2_with fail
        refine (HCH.out).mono ?_
        rintro e w1 ⟨rfl, hb1⟩
        have hbel1 : Below w.heap.size w w1 := hbel.trans (hb1.mono hbs)
        clear hb1 hbel
        go_wp2
        go_ret2
        exact ⟨_, by rw [HF.out]; rfl, by rw [HF.out]; exact World.ownsRow_nil _ _ _ _, hbel1⟩
    · have hkn' : k = ws.length := by omega
      have HF : Hid (Fl.intsOf ws = some xs) := by have := HX.out; rw [hkn', List.take_length] at this; exact this
      clear hkn' hc hss
      go_wp2
      go_ret2
      exact ⟨_, by rw [HF.out]; rfl, by rw [HF.out]; exact hown, hbel⟩
end Go.Proofs.YtbihjgfbocpobaaGreatDoor

/- The program's readLocals. -/
set_option linter.unusedSimpArgs false
set_option linter.unusedVariables false
namespace Go.Proofs.YtbihjgfbocpobaaGreatDoor
open Go.RowKit

/-- What a call that reads numbers ends with. -/
def WordNums (o : Option (List Int)) (w : World) (e : Ending) (w' : World) : Prop := ∃ v, e = .returned (.tuple #[v, .bool o.isSome]) ∧ w'.ownsRow w.heap.size 3 1 v (o.getD []).length ((o.getD []).map (Value.int .i64)) ∧ Below w.heap.size w w'
theorem ret_nums {v : Value} {b : Bool} {o : Option (List Int)} {w w' : World} (hb : b = o.isSome) (h : w'.ownsRow w.heap.size 3 1 v (o.getD []).length ((o.getD []).map (Value.int .i64))) (hbl : Below w.heap.size w w') : WordNums o w (.returned (.tuple #[v, .bool b])) w' := ⟨v, by rw [hb], h, hbl⟩

set_option maxRecDepth 100000 in
set_option maxHeartbeats 4000000 in
theorem readLocals_any (B : Nat) (b cap : Nat) (ws : List (List UInt8)) (w : World) (hv : WordsAt B w (.slice (some ⟨b, 0, none⟩) ws.length cap) ws) (hB : B ≤ w.heap.size) (hne : 0 < ws.length) :
    Calls Tryz.prog 53 #[.slice (some ⟨b, 0, none⟩) ws.length cap] w (WordNums (Fl.localsOf ws) w) := by
  obtain ⟨ao, cap', he, hl, hcap, hn, hss, hc⟩ := id hv
  simp only [Value.slice.injEq] at he
  obtain ⟨rfl, -, rfl⟩ := he
  obtain ⟨b', off', e, hbB, hcell⟩ := hc (by intro h; rw [h] at hne; simp at hne)
  simp only [Option.some.injEq, Addr.mk.injEq, and_true] at e
  obtain ⟨rfl, rfl⟩ := e
  have c0 := hcell 0 hne
  obtain ⟨x0, hx0⟩ : ∃ x0, x0 = ws.getD 0 [] := ⟨_, rfl⟩
  rw [← hx0] at c0
  unfold strV at c0
  simp only [Nat.add_zero] at c0
  unfold maxLen at hcap
  have HX0 : Hid (x0 = ws.getD 0 []) := hx0
  obtain ⟨ov, hov⟩ : ∃ ov, ov = Fl.intsOf (ws.drop 1) := ⟨_, rfl⟩
  have HIN : Hid (∀ sv, sv = .slice (some ⟨b, 1, none⟩) (ws.length - 1) (cap - 1) ∨ (sv = .slice (some ⟨b, 0, none⟩) (ws.length - 1) 0 ∧ ws.length ≤ 1) → Calls Tryz.prog 80 #[sv] w (WordNums ov w)) := by
    intro sv hsv
    rw [hov]
    refine readNumbers_any B sv _ w ?_ hB
    rcases hsv with rfl | ⟨rfl, h1⟩
    · have := hv.drop 1 (by omega); simpa using this
    · have hl : ws.length - 1 = 0 := by omega
      rw [List.drop_of_length_le h1, hl]
      exact ⟨_, _, rfl, by simp, by simp [maxLen], by simp, by simp, fun h => absurd rfl h⟩
  have HOV : Hid (ov = Fl.intsOf (ws.drop 1)) := hov
  clear hv hc hcell hss hx0 hov
  by_cases hxl : x0 = Fl.wLocals
  · have HE : Hid (Fl.localsOf ws = ov) := by
      show _ = _
      unfold Fl.localsOf; rw [if_neg (by rw [← HX0.out, hxl]; exact fun h => h rfl), HOV.out]
    have b3 : (x0 == [108, 111, 99, 97, 108, 115]) = true := by rw [hxl]; decide
    clear hxl
    go_enter Tryz.func53, Tryz.ntmps53
    go_wp2_with fail
    all_goals
      refine (HIN.out _ (by first | exact .inl rfl | exact .inr ⟨rfl, by omega⟩)).mono ?_
      rintro e w1 ⟨v, rfl, ho, hb⟩
      go_wp2
      go_ret2
      rw [HE.out]
      exact ⟨_, rfl, ho, hb⟩
  · have HE : Hid (Fl.localsOf ws = none) := by
      show _ = _
      unfold Fl.localsOf; rw [if_pos (by rw [← HX0.out]; exact hxl)]
    have b3 : (x0 == [108, 111, 99, 97, 108, 115]) = false := by rw [beq_eq_false_iff_ne]; exact hxl
    clear hxl
    go_enter Tryz.func53, Tryz.ntmps53
    go_wp2
    go_ret2
    rw [HE.out]
    exact ⟨_, rfl, World.ownsRow_nil _ _ _ _, Below.refl _ _⟩
end Go.Proofs.YtbihjgfbocpobaaGreatDoor

/- Where an appended list lies; lists that lie apart. -/
set_option linter.unusedSimpArgs false
set_option linter.unusedVariables false
namespace Go.Proofs.YtbihjgfbocpobaaGreatDoor
open Go.RowKit

section
variable {P : Program} (w : World)
/-- An appended list lies where it lay, or in the newest block. -/
theorem append_where (base : Nat) (t ty e : TypeId) (i : TypeInfo) (z : Value) (size bytes : Nat) (ht : P.underlying t = some (.slice e)) (hi : P.info? e = some i) (hz : i.zero = some z)
    (hsize : i.size = size) (hby : i.bytes = bytes) (hzs : z.cells.size = size) (hsz : 0 < size)
    (v : Value) (n : Nat) (xs : List Value) (hown : w.ownsRow base e size v n xs)
    (a : Addr) (m c : Nat) (news : List Value) (hl : news.length = m * size) (hnews : ∀ j u, news[j]? = some u → w.cell? (a.add j) = some u) (h1 : ∀ u ∈ news, u.oneCell' = true)
    (h63 : n + m ≤ maxLen) (hbytes : (n + m) * bytes ≤ 140737488355328) (hbase : base ≤ w.heap.size) (hm : 0 < m) :
    ∃ v' w', (Builtin.append_ #[t, t] ty #[v, .slice (some a) m c]).run P w = .ok v' w' ∧ w'.ownsRow base e size v' (n + m) (xs ++ news) ∧ w.grownBy w' v.ownBlock ∧ (v'.ownBlock = v.ownBlock ∨ v'.ownBlock = some w.heap.size) := by
  obtain ⟨v', w', hr, ho, hg, _⟩ := run_append_own (P := P) w base t ty e i z size bytes ht hi hz hsize hby hzs hsz v n xs hown a m c news hl hnews h1 h63 hbytes hbase
  refine ⟨v', w', hr, ho, hg, ?_⟩
  rcases hown.2 with ⟨rfl, h0⟩ | ⟨g, cap, cur, rfl, hbg, hgg, hnc, hcm, hcs, htake⟩
  · subst h0
    have hr2 := run_append_nil (P := P) w t ty e i z ht hi hz a m c news (by rw [hsize]; exact hl) hnews hm (by unfold maxLen at h63; omega) (by rw [hby]; simp only [Nat.zero_add] at hbytes; omega)
    rw [hr2] at hr
    injection hr with hv _
    right; rw [← hv]; rfl
  · by_cases hroom : n + m ≤ cap
    · have hfit : n * i.size + news.length ≤ cur.size := by
        rw [hcs, hl, hsize, ← Nat.add_mul]; exact Nat.mul_le_mul_right _ hroom
      have hr2 := run_append_room (P := P) w t ty e i ht hi g n cap cur hgg a m c news (by rw [hsize]; exact hl) hnews h1 hroom hfit
      rw [hr2] at hr
      injection hr with hv _
      left; rw [← hv]; rfl
    · have h63' : ((n + m : Nat) : Int) ≤ 9223372036854775807 := by unfold maxLen at h63; omega
      have hr2 := run_append_grow (P := P) w t ty e i z ht hi hz ⟨g, 0, none⟩ n cap xs (by rw [hsize]; exact hown.1) (hown.cells rfl) a m c news (by rw [hsize]; exact hl) hnews (by omega) h63' (growslice_fits (by omega) (by rw [hby]; exact hbytes))
      rw [hr2] at hr
      injection hr with hv _
      right; rw [← hv]; rfl

/-- The same, met in a walk. -/
theorem wpList_append_at {ops : Array Oper} {rest : List Oper} {o : Oper} {a : Act} {Q : Exit → Act → World → Prop} (hgd : o.guard = none) (s x : Operand) (t : TypeId)
    (ho : o.op = .call { callee := .builtin .append, args := #[s, x], argTypes := #[t, t] })
    (base : Nat) (e : TypeId) (i : TypeInfo) (z : Value) (size bytes : Nat) (ht : P.underlying t = some (.slice e)) (hi : P.info? e = some i) (hz : i.zero = some z)
    (hsize : i.size = size) (hby : i.bytes = bytes) (hzs : z.cells.size = size) (hsz : 0 < size)
    (v : Value) (n : Nat) (xs : List Value) (hs : a.eval s = v) (hown : w.ownsRow base e size v n xs)
    (ad : Addr) (m c : Nat) (news : List Value) (hx : a.eval x = .slice (some ad) m c) (hl : news.length = m * size) (hm : 0 < m) (hnews : ∀ j u, news[j]? = some u → w.cell? (ad.add j) = some u) (h1 : ∀ u ∈ news, u.oneCell' = true)
    (h63 : n + m ≤ maxLen) (hbytes : (n + m) * bytes ≤ 140737488355328) (hbase : base ≤ w.heap.size)
    (h : ∀ v' w', w'.ownsRow base e size v' (n + m) (xs ++ news) → w.grownBy w' v.ownBlock → (v'.ownBlock = v.ownBlock ∨ v'.ownBlock = some w.heap.size) → wpList P ops Q rest (a.put o.dst v') w') : wpList P ops Q (o :: rest) a w :=
  wpList_plain hgd fun _ hK => by
    obtain ⟨v', w', hr, h2, h3, h4⟩ := append_where (P := P) w base t o.type e i z size bytes ht hi hz hsize hby hzs hsz v n xs hown ad m c news hl hnews h1 h63 hbytes hbase hm
    have hgo := hK _ _ (h v' w' h2 h3 h4)
    unfold Oper.wp execOp
    simp only [ho, resolve, invoke, builtin, Sem.run_bind, Sem.run_pure, Result.andThen_ok, List.map_toArray, List.map_cons, List.map_nil, hs, hx, hr]
    exact hgo
end

/-- A list of nodes, laid out cell by cell. -/
def nodeCells (n : Fl.Node) (lv : Value) : List Value := [.int .i64 n.kind, .int .i64 n.level, .int .i64 n.a, .int .i64 n.b, .int .i64 n.c, lv]
def flat : List Fl.Node → List Value → List Value
  | n :: ns, lv :: lvs => nodeCells n lv ++ flat ns lvs
  | _, _ => []
theorem flat_len : ∀ (ns : List Fl.Node) (lvs : List Value), lvs.length = ns.length → (flat ns lvs).length = ns.length * 6
  | [], [], _ => rfl
  | n :: ns, lv :: lvs, h => by
    have := flat_len ns lvs (by simpa using h)
    simp only [flat, nodeCells, List.length_append, List.length_cons, List.length_nil, this]; omega
theorem flat_snoc : ∀ (ns : List Fl.Node) (lvs : List Value) (n : Fl.Node) (lv : Value), lvs.length = ns.length → flat (ns ++ [n]) (lvs ++ [lv]) = flat ns lvs ++ nodeCells n lv
  | [], [], n, lv, _ => by simp [flat]
  | m :: ns, l :: lvs, n, lv, h => by
    simp only [List.cons_append, flat, flat_snoc ns lvs n lv (by simpa using h), List.append_assoc]
theorem flat_at : ∀ (ns : List Fl.Node) (lvs : List Value) (i j : Nat), lvs.length = ns.length → i < ns.length → j < 6 → (flat ns lvs)[i * 6 + j]? = (nodeCells (Fl.nth ns i) (lvs.getD i (.slice none 0 0)))[j]?
  | n :: ns, lv :: lvs, 0, j, _, _, hj => by
    simp only [flat, Nat.zero_mul, Nat.zero_add]
    rw [List.getElem?_append_left (by simp [nodeCells]; omega)]; rfl
  | n :: ns, lv :: lvs, i + 1, j, h, hi, hj => by
    have := flat_at ns lvs i j (by simpa using h) (by simpa using hi) hj
    simp only [flat]
    rw [List.getElem?_append_right (by simp [nodeCells]; omega)]
    rw [show (i + 1) * 6 + j - (nodeCells n lv).length = i * 6 + j from by simp [nodeCells]; omega, this]
    rfl
/-- Nodes that the call itself has built are nodes in memory. -/
theorem nodes_of_own {base : Nat} {w : World} {e : TypeId} {v : Value} {ns : List Fl.Node} {lvs : List Value} (h : w.ownsRow base e 6 v ns.length (flat ns lvs)) (hl : lvs.length = ns.length) (hi : ∀ i, i < ns.length → IntsAt w.heap.size w (lvs.getD i (.slice none 0 0)) (Fl.nth ns i).list) : NodesAt w.heap.size w v ns := by
  rcases h.2 with ⟨rfl, h0⟩ | ⟨g, cap, cur, rfl, hb, hg, hnc, hcm, hcs, ht⟩
  · have : ns = [] := List.eq_nil_of_length_eq_zero h0
    subst this; exact NodesAt.nil _ _
  · refine ⟨_, cap, rfl, hnc, by omega, fun _ => ⟨g, 0, rfl, (Array.getElem?_eq_some_iff.1 hg).1, fun i hil => ⟨lvs.getD i (.slice none 0 0), hi i hil, ?_⟩⟩⟩
    have q : ∀ j u, j < 6 → (nodeCells (Fl.nth ns i) (lvs.getD i (.slice none 0 0)))[j]? = some u → w.cell? ⟨g, i * 6 + j, none⟩ = some u := fun j u hj hu => by
      have h1 := h.cells (g := g) rfl (i * 6 + j) u (by rw [flat_at ns lvs i j hl hil hj]; exact hu)
      have h2 : (⟨g, 0, none⟩ : Addr).add (i * 6 + j) = ⟨g, i * 6 + j, none⟩ := by unfold Addr.add; split <;> simp_all
      rw [h2] at h1; exact h1
    simp only [Nat.zero_add]
    exact ⟨q 0 _ (by omega) rfl, q 1 _ (by omega) rfl, q 2 _ (by omega) rfl, q 3 _ (by omega) rfl, q 4 _ (by omega) rfl, q 5 _ (by omega) rfl⟩
end Go.Proofs.YtbihjgfbocpobaaGreatDoor
