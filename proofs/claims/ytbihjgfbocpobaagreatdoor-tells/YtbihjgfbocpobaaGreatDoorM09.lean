/- Texts Cdd Lnd Lne RefW. -/
import Derived.Test.YtbihjgfbocpobaaGreatDoorM08
import Derived.Laws.EntriesVeiled
import Derived.Test.YtbihjgfbocpobaaGreatDoorShelf
import Derived.WalkSmall
/- The program: what each kind has. -/
set_option linter.unusedSimpArgs false
set_option linter.unusedVariables false
namespace Go.Proofs.YtbihjgfbocpobaaGreatDoor
open Go.RowKit

/-- What each kind has, cell by cell. -/
def rulesArr : Array Value := #[
  .string ⟨#[110, 117, 109]⟩, .int .i64 1, .bool false, .func (.func 60) #[] #[],
  .string ⟨#[118, 97, 114]⟩, .int .i64 1, .bool false, .func (.func 60) #[] #[],
  .string ⟨#[111, 112]⟩, .int .i64 3, .bool false, .func (.func 62) #[] #[],
  .string ⟨#[115, 101, 116]⟩, .int .i64 2, .bool false, .func (.func 61) #[] #[],
  .string ⟨#[111, 117, 116]⟩, .int .i64 2, .bool false, .func (.func 61) #[] #[],
  .string ⟨#[105, 102]⟩, .int .i64 3, .bool false, .func (.func 63) #[] #[],
  .string ⟨#[119, 104, 105, 108, 101]⟩, .int .i64 2, .bool false, .func (.func 64) #[] #[],
  .string ⟨#[98, 108, 111, 99, 107]⟩, .int .i64 0, .bool true, .func (.func 65) #[] #[]]
theorem Tryz.infoRules : (Tryz.prog.info? 88).map (·.size) = some rulesArr.size := by kernel_rfl
theorem rulesOne : rulesArr.all (·.oneCell') = true := by kernel_rfl
theorem rulesSize : (32 : Nat) = rulesArr.size := by kernel_rfl

set_option maxRecDepth 100000 in
set_option maxHeartbeats 4000000 in
theorem rules_any (w : World) : Calls Tryz.prog 38 #[] w fun e w' => e = .returned (.agg rulesArr) ∧ w' = w.alloc (.cells rulesArr 88) := by
  go_enter Tryz.func38, Tryz.ntmps38
  go_wp2_with (first | (refine wpList_build_whole rfl 88 _ rfl rulesArr (by kernel_rfl) ?_) | (refine wpList_store_new rfl _ _ 88 rfl _ _ rulesArr rfl rfl Tryz.infoRules rulesSize rulesOne ?_))
  refine bodyPost_ret (v := .agg rulesArr) ?_ rfl ⟨rfl, rfl⟩
  exact results_cell1 (p := 0) (ty := 88) Tryz.results38 _ _ ⟨w.heap.size, 0, none⟩ _ rfl (run_loadVar_new w 88 rulesArr 8 87 Tryz.underlying88 Tryz.infoRules)

set_option maxRecDepth 100000 in
set_option maxHeartbeats 4000000 in
theorem places_any (rb ro nb n : Nat) (w : World) (hn : n ≤ 3) (hrb : rb < w.heap.size) (h : w.cell? ⟨rb, ro + 1, none⟩ = some (.int .i64 n)) : Calls Tryz.prog 43 #[.pointer (some ⟨rb, ro, none⟩), .pointer (some ⟨nb, 0, none⟩)] w fun e w' => e = .returned (.slice (some ⟨w.heap.size, 0, none⟩) n 3) ∧ w' = (w.alloc (.cells #[.pointer (some ⟨nb, 2, none⟩), .pointer (some ⟨nb, 3, none⟩), .pointer (some ⟨nb, 4, none⟩)] 102)).drew := by
  have h2 : ∀ o, (w.alloc o).cell? ⟨rb, ro + 1, none⟩ = some (.int .i64 n) := fun o => by rw [World.cell?_alloc_past _ _ _ hrb]; exact h
  go_enter Tryz.func43, Tryz.ntmps43
  go_wp2_with fail
  go_region
  go_wp2
  go_ret
  exact ⟨rfl, rfl⟩
end Go.Proofs.YtbihjgfbocpobaaGreatDoor

/- The program's kindNamed. -/
set_option linter.unusedSimpArgs false
set_option linter.unusedVariables false
namespace Go.Proofs.YtbihjgfbocpobaaGreatDoor
open Go.RowKit

set_option maxRecDepth 100000 in
set_option maxHeartbeats 4000000 in
theorem kindNamed_any (T : Nat) (x : List UInt8) (w : World) (hT : w.heap[T]? = some (.cells rulesArr 88 (0, 0))) :
    Calls Tryz.prog 81 #[.pointer (some ⟨T, 0, none⟩), .string ⟨x.toArray⟩] w fun e w' => e = .returned (.int .i64 (Fl.place Fl.kindWords x)) ∧ Below w.heap.size w w' := by
  have HT : Hid (w.heap[T]? = some (.cells rulesArr 88 (0, 0))) := hT
  have hTl : T < w.heap.size := (Array.getElem?_eq_some_iff.1 hT).1
  clear hT
  go_enter Tryz.func81, Tryz.ntmps81
  go_wp2
  go_loopw [9] (fun i wr => ∃ k : Nat, k ≤ 8 ∧ i = .int .i64 k ∧ (∀ j, j < k → (Fl.kindWords.getD j [] == x) = false) ∧ Below w.heap.size w wr) (fun i _ => 8 - (intOf i).toNat)
  case atStart => exact ⟨0, by omega, rfl, fun j hj => by omega, Below.refl _ _⟩
  case round =>
    obtain ⟨k, hk, rfl, hno, hbel⟩ := hrel
    have HN : Hid (∀ j, j < k → (Fl.kindWords.getD j [] == x) = false) := hno
    have hbs := hbel.size
    clear hno
    by_cases hlt : k < 8
    · have hrow : wr.heap[T]? = some (.cells rulesArr 88 (0, 0)) := (hbel.block T hTl).trans HT.out
      obtain ⟨nm, nn, lb, fv, hn, c0, c1, c2, c3⟩ : ∃ nm nn lb fv, nm = Fl.kindWords.getD k [] ∧ wr.cell? ⟨T, k * 4, none⟩ = some (.string ⟨nm.toArray⟩) ∧ wr.cell? ⟨T, k * 4 + 1, none⟩ = some (.int .i64 nn) ∧ wr.cell? ⟨T, k * 4 + 2, none⟩ = some (.bool lb) ∧ wr.cell? ⟨T, k * 4 + 3, none⟩ = some (.func (.func fv) #[] #[]) := by
        rcases (show k = 0 ∨ k = 1 ∨ k = 2 ∨ k = 3 ∨ k = 4 ∨ k = 5 ∨ k = 6 ∨ k = 7 by omega) with rfl | rfl | rfl | rfl | rfl | rfl | rfl | rfl <;> exact ⟨_, _, _, _, rfl, (cell_of_row _ _ _ _ _ _ hrow).trans rfl, (cell_of_row _ _ _ _ _ _ hrow).trans rfl, (cell_of_row _ _ _ _ _ _ hrow).trans rfl, (cell_of_row _ _ _ _ _ _ hrow).trans rfl⟩
      have HM : Hid (nm = Fl.kindWords.getD k []) := hn
      have hkI : (k : Int) < 8 := by omega
      clear hrow hn
      have hTr : T < wr.heap.size := by omega
      go_wp2_with fail
      go_region
      have HB2 : Hid (Below w.heap.size w (wr.alloc (.cells #[.string ⟨nm.toArray⟩, .int .i64 nn, .bool lb, .func (.func fv) #[] #[]] 87)).drew) := (hbel.alloc hbs _).drew
      by_cases hx : nm = x
      · have b1 : (nm == x) = true := by rw [hx]; simp
        have HP : Hid (Fl.place Fl.kindWords x = (k : Int)) := Fl.place_hit _ _ k HN.out hlt (by rw [← HM.out, hx]; simp)
        clear hx c0 c1 c2 c3
        go_wp2
        go_ret
        exact ⟨ret_int HP.out.symm, HB2.out⟩
      · have b1 : (nm == x) = false := by rw [beq_eq_false_iff_ne]; exact hx
        clear hx c0 c1 c2 c3
        go_wp2
        go_roundw
        case rel => exact ⟨k + 1, by omega, by go_num, fun j hj => by
          by_cases hjk : j < k
          · exact HN.out j hjk
          · have : j = k := by omega
            rw [this, ← HM.out]; exact b1, HB2.out⟩
        case measure => simp [intOf]; omega
    · go_wp2
      go_ret
      exact ⟨ret_int (Fl.place_miss _ _ (fun j hj => HN.out j (by have : j < 8 := hj; omega))).symm, hbel⟩
end Go.Proofs.YtbihjgfbocpobaaGreatDoor

/- The library's calls: numbers as texts; a text cut. Over the shelf, as it is laid at the seat (see NOTES.md, 5). -/
set_option linter.unusedSimpArgs false
set_option linter.unusedVariables false
namespace Go.Proofs.YtbihjgfbocpobaaGreatDoor
open Go.RowKit

/-- The table of powers of ten, as it is laid. -/
def Pows (w : World) : Prop := ∃ ty fz, w.heap[1]? = some (.cells (Lib.pow10Tab.map fun z => Value.int .u64 z).toArray ty fz)
theorem Pows.below {B : Nat} {w w' : World} (h : Pows w) (hB : w.heap.size ≤ B) (hb : Below B w w') : Pows w' := by
  obtain ⟨ty, fz, h⟩ := h
  have hl := (Array.getElem?_eq_some_iff.1 h).1
  exact ⟨ty, fz, (hb.block _ (by omega)).trans h⟩
theorem below_grow (w : World) (k : Nat) (os : Array Obj) : Below w.heap.size w (Go.Sort.grow (w.drewN k) os) := by
  refine Below.trans (below_drewN (Below.refl _ _) k) ⟨rfl, rfl, rfl, by simp [Go.Sort.grow], fun i hi => ?_⟩
  have hi' : i < (w.drewN k).heap.size := hi
  show ((w.drewN k).heap ++ os)[i]? = _
  rw [Array.getElem?_append_left hi']
theorem itoa_any (n : Nat) (w : World) (hn : n < 9223372036854775807) (h : Pows w) : Calls Tryz.prog 44 #[.int .i64 n] w fun e w' => e = .returned (.string ⟨(Lib.decDigits n).toArray⟩) ∧ Below w.heap.size w w' := by
  obtain ⟨ty, fz, h⟩ := h
  refine (Tryz.strconv_Itoa (n : Int) (by omega) (by omega) w ?_).mono ?_
  · show World.var? _ _ _ = _
    unfold World.var?
    rw [show Tryz.prog.globalNamed _ = some 1 from by kernel_rfl]
    simp only [Option.bind_some, h]
  · rintro e w' ⟨rfl, k, os, rfl⟩
    refine ⟨?_, below_grow w k os⟩
    unfold Lib.itoa; rw [if_neg (by omega)]; simp
end Go.Proofs.YtbihjgfbocpobaaGreatDoor

/- The reference's spaced, Text. -/
set_option linter.unusedSimpArgs false
set_option linter.unusedVariables false
namespace Go.Proofs.YtbihjgfbocpobaaGreatDoor
open Go.RowKit
namespace Fl
/-- Numbers, each behind a blank. -/
def blanks (xs : List Int) : List UInt8 := xs.flatMap (fun x => 32 :: Lib.decDigits x.toNat)
def spaced (xs : List Int) : List UInt8 := blanks xs ++ [10]
theorem blanks_snoc (xs : List Int) (x : Int) : blanks (xs ++ [x]) = blanks xs ++ (32 :: Lib.decDigits x.toNat) := by simp [blanks]
theorem blanks_take (xs : List Int) (k : Nat) (h : k < xs.length) : blanks (xs.take (k + 1)) = blanks (xs.take k) ++ (32 :: Lib.decDigits (xs.getD k 0).toNat) := by
  have e : xs.take (k + 1) = xs.take k ++ [xs.getD k 0] := by
    rw [List.take_add_one, List.getElem?_eq_getElem h]; simp [List.getD_eq_getElem?_getD, h]
  rw [e, blanks_snoc]
end Fl
theorem blanks_len : ∀ (xs : List Int), (∀ x ∈ xs, x < 1000000000000000000) → (Fl.blanks xs).length ≤ 19 * xs.length
  | [], _ => by simp [Fl.blanks]
  | x :: r, h => by
    have h1 := blanks_len r (fun y hy => h y (List.mem_cons_of_mem _ hy))
    have h2 := decDigits_len x.toNat (by have := h x List.mem_cons_self; omega)
    simp only [Fl.blanks, List.flatMap_cons, List.length_append, List.length_cons] at h1 ⊢
    omega
theorem cat3 (a b : List UInt8) : Value.string ((⟨a.toArray⟩ : ByteArray) ++ ⟨#[32]⟩ ++ ⟨b.toArray⟩) = strV (a ++ 32 :: b) := by
  unfold strV
  have h1 : (⟨a.toArray⟩ : ByteArray) ++ ⟨#[32]⟩ = ⟨(a ++ [32]).toArray⟩ := ByteArray.mk_append_mk a [32]
  rw [h1, ByteArray.mk_append_mk]; simp
theorem cat_nl (a : List UInt8) : Value.string ((⟨a.toArray⟩ : ByteArray) ++ ⟨#[10]⟩) = strV (a ++ [10]) := by
  unfold strV
  rw [show (⟨#[10]⟩ : ByteArray) = ⟨[10].toArray⟩ from rfl, ByteArray.mk_append_mk]

set_option maxRecDepth 100000 in
set_option maxHeartbeats 4000000 in
theorem spaced_any (B : Nat) (lv : Value) (xs : List Int) (w : World) (hv : IntsAt B w lv xs) (hn : xs.length ≤ 1000) (hr : ∀ x ∈ xs, 0 ≤ x ∧ x < 2147483648) :
    Calls Tryz.prog 19 #[lv] w fun e w' => e = .returned (strV (Fl.spaced xs)) ∧ w' = w := by
  obtain ⟨ao, cap, rfl, hl, hcap, hc⟩ := hv
  clear hcap
  go_enter Tryz.func19, Tryz.ntmps19
  go_wp2
  go_loop [3, 4] (fun s i => ∃ (k : Nat) (t : List UInt8), k ≤ xs.length ∧ i = .int .i64 k ∧ s = .string ⟨t.toArray⟩ ∧ t = Fl.blanks (xs.take k)) (fun _ i => xs.length - (intOf i).toNat)
  case atStart => exact ⟨0, [], by omega, rfl, rfl, rfl⟩
  case round =>
    obtain ⟨k, t, hk, rfl, rfl, ht⟩ := hrel
    have htl : t.length ≤ 19000 := by
      have := blanks_len (xs.take k) (fun x hx => by have := hr x (List.mem_of_mem_take hx); omega)
      rw [ht]; rw [List.length_take] at this; omega
    have HT : Hid (t = Fl.blanks (xs.take k)) := ht
    have hts : ((⟨t.toArray⟩ : ByteArray).size : Int) ≤ 19000 := by show ((t.toArray.size : Nat) : Int) ≤ 19000; simp; omega
    clear ht
    by_cases hlt : k < xs.length
    · obtain ⟨b, off, rfl, hbB, hcell⟩ := hc (by intro h; rw [h] at hlt; simp at hlt)
      have hck := hcell k hlt
      have hxr := hr (xs.getD k 0) (by rw [List.getD_eq_getElem?_getD, List.getElem?_eq_getElem hlt]; simp)
      obtain ⟨v, hv⟩ : ∃ v : Nat, xs.getD k 0 = (v : Int) := ⟨(xs.getD k 0).toNat, by omega⟩
      have hvn : v < 1000000000000000000 := by omega
      have HS : Hid (Fl.blanks (xs.take (k + 1)) = t ++ 32 :: Lib.decDigits v) := by
        show _ = _
        rw [Fl.blanks_take xs k hlt, HT.out, hv]; rfl
      rw [hv] at hck
      have HC : Hid (Calls Tryz.prog 22 #[.int .i64 v] w fun e w' => e = .returned (strV (Lib.decDigits v)) ∧ w' = w) := decimal_any v w hvn
      have hdl := decDigits_len v hvn
      generalize Lib.decDigits v = d at HS HC hdl
      have hds : ((⟨d.toArray⟩ : ByteArray).size : Int) ≤ 18 := by show ((d.toArray.size : Nat) : Int) ≤ 18; simp; omega
      have hds2 : ((⟨#[32]⟩ : ByteArray).size : Int) = 1 := rfl
      clear hcell hc hr hxr hv hvn
      go_wp2_with (go_at_call 22; refine (HC.out).mono ?_; rintro e w' ⟨rfl, rfl⟩; unfold strV)
      go_round
      case rel => exact ⟨k + 1, _, by omega, by go_num, cat3 t d, by rw [HS.out]⟩
      case measure => simp [intOf]; omega
    · have HF : Hid (Fl.spaced xs = t ++ [10]) := by
        show _ = _
        rw [Fl.spaced, HT.out, List.take_of_length_le (by omega)]
      clear hc hr
      go_wp2
      go_ret
      exact ⟨by rw [HF.out]; exact congrArg Ending.returned (cat_nl t), rfl⟩
end Go.Proofs.YtbihjgfbocpobaaGreatDoor
