/- Texts Lnl Lnm CdDec CdPc. -/
import Derived.Test.YtbihjgfbocpobaaGreatDoorM20
import Derived.Lib.OthersKept
import Derived.Lib.AppendStr
import Derived.Lib.UnsafeStr
import Derived.Laws.Externs
/- strings.Builder at the seat: WriteString. -/
set_option linter.unusedSimpArgs false
set_option linter.unusedVariables false
namespace Go.Proofs.YtbihjgfbocpobaaGreatDoor
open Go.RowKit

theorem Tryz.infoU8 : (Tryz.prog.info? 5).map (fun i => (i.zero, i.size, i.bytes)) = some (some (.int .u8 0), 1, 1) := by kernel_rfl
theorem Tryz.sizeBld : (Tryz.prog.info? 96).map (·.size) = some 2 := by kernel_rfl
theorem Tryz.liesBld : liesAt Tryz.prog Tryz.prog.depth 96 (2 / Tryz.prog.cellsOf 96) 0 96 1 = true := by kernel_rfl

set_option maxHeartbeats 1000000 in
set_option maxRecDepth 100000 in
theorem copyCheck_used (b : Nat) (w : World) (h0 : w.cell? ⟨b, 0, none⟩ = some (.pointer (some ⟨b, 0, none⟩))) :
    Calls Tryz.prog 91 #[.pointer (some ⟨b, 0, none⟩)] w fun e w' => e = .returned (.tuple #[]) ∧ w' = w := by
  obtain ⟨j, hj, _⟩ := Option.map_eq_some_iff.1 Tryz.sizeBld
  go_enter Tryz.func91, Tryz.ntmps91
  go_wp2
  rw [Lib.run_neq_ptr_same w _ Tryz.underlying94 hj]
  go_wp2
  go_end0
  exact ⟨rfl, rfl⟩

set_option maxHeartbeats 1000000 in
set_option maxRecDepth 100000 in
theorem copyCheck_fresh (b : Nat) (w : World) (h0 : w.cell? ⟨b, 0, none⟩ = some (.pointer none)) (hsh : w.shape? b = some (96, 2)) (hfz : w.frozen? ⟨b, 0, none⟩ = false) :
    Calls Tryz.prog 91 #[.pointer (some ⟨b, 0, none⟩)] w fun e w' => e = .returned (.tuple #[]) ∧ w' = w.setCell ⟨b, 0, none⟩ (.pointer (some ⟨b, 0, none⟩)) := by
  obtain ⟨j, hj, hjs⟩ := Option.map_eq_some_iff.1 Tryz.sizeBld
  go_enter Tryz.func91, Tryz.ntmps91
  go_wp2
  rw [Lib.run_to_unsafe w ⟨b, 0, none⟩ Tryz.underlying94 Tryz.underlying104 hj (by rw [hjs]; decide) hsh (Nat.zero_lt_succ 1)]
  simp only [Result.andThen]
  rw [Oper.upon_value]
  go_wp2
  rw [run_callFunc_extern Tryz.func100 (by kernel_rfl) (by kernel_rfl) (by kernel_rfl) (e := Extern.AbiNoEscape.same) (by kernel_rfl)]
  rw [Lib.run_noEscape]
  simp only [Result.andThen]
  rw [Oper.upon_value]
  go_wp2
  rw [Lib.run_from_unsafe w ⟨b, 0, none⟩ Tryz.underlying104 Tryz.underlying94 hj hsh Tryz.liesBld]
  simp only [Result.andThen]
  rw [Oper.upon_value]
  go_wp2
  go_end0
  exact ⟨rfl, rfl⟩
/-- copyCheck, of a builder that is fresh or used. -/
theorem copyCheck_any (B b : Nat) (bs : List Value) (w : World) (h : Lib.IsBuilderF 96 5 B b bs w) :
    Calls Tryz.prog 91 #[.pointer (some ⟨b, 0, none⟩)] w fun e w' => e = .returned (.tuple #[]) ∧ (Lib.BuilderAtF 96 5 B b (.pointer (some ⟨b, 0, none⟩)) bs w' ∧ Below B w w' ∧ Lib.OthersKept 5 (some b) w w') := by
  rcases h with h | h
  · refine (copyCheck_fresh b w h.cell0 h.shape h.frozen0).mono ?_
    rintro e w' ⟨rfl, rfl⟩
    exact ⟨rfl, h.used _, (Below.refl B w).setCell (p := ⟨b, 0, none⟩) h.1 _, (Lib.OthersKept.refl _ _ w).setCell ⟨b, 0, none⟩ rfl _⟩
  · refine (copyCheck_used b w h.cell0).mono ?_
    rintro e w' ⟨rfl, rfl⟩
    exact ⟨rfl, h, Below.refl B _, Lib.OthersKept.refl _ _ _⟩

set_option maxHeartbeats 2000000 in
set_option maxRecDepth 100000 in
theorem writeString_any (B b : Nat) (bs : List Value) (s : ByteArray) (w : World) (h : Lib.IsBuilderF 96 5 B b bs w) (hlen : bs.length + s.size ≤ 140737488355328) (hBw : B ≤ w.heap.size) :
    Calls Tryz.prog 73 #[.pointer (some ⟨b, 0, none⟩), .string s] w fun e w' => e = .returned (.tuple #[.int .i64 s.size, .nilIface]) ∧ (Lib.BuilderAtF 96 5 B b (.pointer (some ⟨b, 0, none⟩)) (bs ++ Lib.strCells s) w' ∧ Below B w w' ∧ Lib.OthersKept 5 (some b) w w') := by
  obtain ⟨i0, hi, hz0, hz1, hz2⟩ := info_parts Tryz.infoU8
  go_enter Tryz.func73, Tryz.ntmps73
  go_wp2_with fail
  refine (copyCheck_any B b bs _ h).mono ?_
  rintro e w1 ⟨rfl, h1, hb1, hk1⟩
  obtain ⟨hB, v, hbk, hown, hne⟩ := h1
  have c0 : w1.cell? ⟨b, 0, none⟩ = some (.pointer (some ⟨b, 0, none⟩)) := by rw [Lib.cell_of_heap hbk]; rfl
  have c1 : w1.cell? ⟨b, 1, none⟩ = some v := by rw [Lib.cell_of_heap hbk]; rfl
  go_wp2_with (at_builtin; refine Lib.wpList_append_own_stringF _ rfl _ _ 23 9 rfl B 5 i0 Tryz.underlying23 Tryz.underlying9 hi hz0 hz1 hz2 _ _ _ rfl hown s rfl ?c3 ?c4 ?c5 ?_)
  case c3 => unfold maxLen; omega
  case c4 => omega
  case c5 => have := hb1.size; omega
  intro v' w2 hown' hgrow _
  have hlt : b < w1.heap.size := by
    rcases Nat.lt_or_ge b w1.heap.size with h' | h'
    · exact h'
    · simp [Array.getElem?_eq_none h'] at hbk
  have hb2 : w2.heap[b]? = some (.cells #[.pointer (some ⟨b, 0, none⟩), v] 96 (0, 0)) := by
    rw [hgrow.block b hlt (fun e => hne e.symm)]
    exact hbk
  have d0 : w2.cell? ⟨b, 0, none⟩ = some (.pointer (some ⟨b, 0, none⟩)) := by rw [Lib.cell_of_heap hb2]; rfl
  have d1 : w2.cell? ⟨b, 1, none⟩ = some v := by rw [Lib.cell_of_heap hb2]; rfl
  have f1 : w2.frozen? ⟨b, 1, none⟩ = false := Lib.frozen_of_heap hb2 1
  obtain ⟨ao, n', cap, rfl⟩ : ∃ ao n' cap, v' = .slice ao n' cap := by
    rcases hown'.2 with ⟨hv, _⟩ | ⟨g, cap, cur, fz, hv, _⟩
    · exact ⟨_, _, _, hv⟩
    · exact ⟨_, _, _, hv⟩
  go_wp2
  go_ret2
  refine ⟨rfl, ?_, ?_, (hk1.grown hgrow (Lib.ownsRowF_kind hown)).setCell ⟨b, 1, none⟩ rfl _⟩
  · exact Lib.BuilderAtF.put (T := 96) (e := 5) hB hb2 (bs' := bs ++ Lib.strCells s) (by simpa [Lib.strCells_length] using hown') (by decide)
  · exact (hb1.grown hgrow (by have := hb1.size; omega) (fun k hk => (hown.lt k hk).1)).setCell (p := ⟨b, 1, none⟩) hB _
end Go.Proofs.YtbihjgfbocpobaaGreatDoor

/- The program's writeLine. -/
set_option linter.unusedSimpArgs false
set_option linter.unusedVariables false
namespace Go.Proofs.YtbihjgfbocpobaaGreatDoor
open Go.RowKit

/-- What writing into the builder in block b leaves as it was. -/
structure Wr (b : Nat) (w w' : World) : Prop where
  bl : Below b w w'
  ok : Lib.OthersKept 5 (some b) w w'
theorem Wr.refl (b : Nat) (w : World) : Wr b w w := ⟨Below.refl _ _, Lib.OthersKept.refl _ _ _⟩
theorem Wr.trans {b : Nat} {w w1 w2 : World} (h : Wr b w w1) (k : Wr b w1 w2) : Wr b w w2 := ⟨h.bl.trans k.bl, h.ok.trans k.ok⟩
theorem Wr.below {b : Nat} {w w1 w2 : World} (h : Wr b w w1) (k : Below w1.heap.size w1 w2) (hb : b ≤ w1.heap.size) : Wr b w w2 :=
  ⟨h.bl.trans (k.mono hb), fun i o hi hb' ho => by
    have h1 := h.ok i o hi hb' ho
    exact (k.block i (Array.getElem?_eq_some_iff.1 h1).1).trans h1⟩
theorem Wr.row {b : Nat} {w w1 : World} (h : Wr b w w1) {k : Nat} {c : Array Value} {t : TypeId} {fz : Nat × Nat} (hk : w.heap[k]? = some (.cells c t fz)) (hkb : k ≠ b) (ht : t ≠ 5) : w1.heap[k]? = some (.cells c t fz) :=
  h.ok k _ hk (fun e => hkb (Option.some.inj e)) (fun _ _ e => by injection e with _ e2; exact ht e2)
theorem Pows.lt {w : World} (h : Pows w) : 1 < w.heap.size := by
  obtain ⟨_, _, h⟩ := h; exact (Array.getElem?_eq_some_iff.1 h).1
theorem Pows.wr {b : Nat} {w w' : World} (h : Pows w) (hg : 1 < b) (hb : Below b w w') : Pows w' := by
  obtain ⟨ty, fz, h⟩ := h; exact ⟨ty, fz, (hb.block _ hg).trans h⟩
theorem builder_below {B b : Nat} {bs : List Value} {p : Value} {w w' : World} (h : Lib.BuilderAtF 96 5 B b p bs w) (hb : Below w.heap.size w w') : Lib.BuilderAtF 96 5 B b p bs w' := by
  obtain ⟨hB, v, hbk, hown, hne⟩ := h
  refine ⟨hB, v, (hb.block b (Array.getElem?_eq_some_iff.1 hbk).1).trans hbk, ⟨hown.1, ?_⟩, hne⟩
  rcases hown.2 with hn | ⟨g, cap, cur, fz, hv, hbg, hg, rest⟩
  · exact .inl hn
  · exact .inr ⟨g, cap, cur, fz, hv, hbg, (hb.block g (Array.getElem?_eq_some_iff.1 hg).1).trans hg, rest⟩
/-- WriteString, of bytes. -/
theorem write_bytes (b : Nat) (bs s : List UInt8) (w : World) (h : Lib.IsBuilderF 96 5 b b (Lib.byteCells bs) w) (hb : b ≤ w.heap.size) (hlen : bs.length ≤ 100000000) (hl : s.length ≤ 100000000) :
    Calls Tryz.prog 73 #[.pointer (some ⟨b, 0, none⟩), .string ⟨s.toArray⟩] w fun e w' => (∃ v, e = .returned v) ∧ Lib.BuilderAtF 96 5 b b (.pointer (some ⟨b, 0, none⟩)) (Lib.byteCells (bs ++ s)) w' ∧ Wr b w w' := by
  have hsz : (⟨s.toArray⟩ : ByteArray).size = s.length := by show s.toArray.size = _; simp
  refine (writeString_any b b _ ⟨s.toArray⟩ w h (by rw [Lib.byteCells_length, hsz]; omega) hb).mono ?_
  rintro e w' ⟨rfl, h1, h2, h3⟩
  rw [Lib.byteCells_append]
  exact ⟨⟨_, rfl⟩, h1, h2, h3⟩

set_option maxRecDepth 100000 in
set_option maxHeartbeats 4000000 in
theorem writeLine_any (b : Nat) (bs ws : List UInt8) (nv : Value) (xs : List Int) (w : World) (h : Lib.IsBuilderF 96 5 b b (Lib.byteCells bs) w) (hb : b ≤ w.heap.size)
    (hI : ∀ W, Wr b w W → IntsAt W.heap.size W nv xs) (hx : ∀ x ∈ xs, 0 ≤ x ∧ x < 2147483648) (hp : Pows w) (hpb : 1 < b) (hbs : bs.length ≤ 10000000) (hws : ws.length ≤ 1000) (hn : xs.length ≤ 1000) :
    Calls Tryz.prog 42 #[.pointer (some ⟨b, 0, none⟩), .string ⟨ws.toArray⟩, nv] w fun e w' => e = .returned (.tuple #[]) ∧ Lib.BuilderAtF 96 5 b b (.pointer (some ⟨b, 0, none⟩)) (Lib.byteCells (bs ++ ws ++ Fl.spaced xs)) w' ∧ Wr b w w' := by
  obtain ⟨ao, cap, rfl, hl, hcap, -⟩ := id (hI w (Wr.refl _ _))
  have HI : Hid _ := hI
  have HP : Hid (Pows w) := hp
  have HW := write_bytes b bs ws w h hb (by omega) (by omega)
  have HX : Hid _ := hx
  clear hI hp h hx
  go_enter Tryz.func42, Tryz.ntmps42
  go_wp2_with fail
  refine HW.mono ?_
  rintro e w1 ⟨⟨v1, rfl⟩, hb1, hw1⟩
  clear HW
  have HB1 : Hid _ := hb1
  have HW1 : Hid (Wr b w w1) := hw1
  clear hb1 hw1
  go_wp2_with fail
  go_loopw [13] (fun i wr => ∃ k : Nat, k ≤ xs.length ∧ i = .int .i64 k ∧ Lib.BuilderAtF 96 5 b b (.pointer (some ⟨b, 0, none⟩)) (Lib.byteCells (bs ++ ws ++ Fl.blanks (xs.take k))) wr ∧ Wr b w wr) (fun i _ => xs.length - (intOf i).toNat)
  case atStart => exact ⟨0, by omega, rfl, by rw [show bs ++ ws ++ Fl.blanks (xs.take 0) = bs ++ ws from by simp [Fl.blanks]]; exact HB1.out, HW1.out⟩
  case round =>
    clear HB1 HW1
    obtain ⟨k, hk, rfl, hbk, hwr⟩ := hrel
    have hbl : (Fl.blanks (xs.take k)).length ≤ 19000 := by
      have := blanks_len (xs.take k) (fun x hx => by have := HX.out x (List.mem_of_mem_take hx); omega)
      rw [List.length_take] at this; omega
    have hbz : b ≤ wr.heap.size := Nat.le_trans hb hwr.bl.size
    have HWR : Hid (Wr b w wr) := hwr
    by_cases hlt : k < xs.length
    · obtain ⟨ao', cap', heq, _, _, hc⟩ := HI.out wr hwr
      simp only [Value.slice.injEq] at heq
      obtain ⟨rfl, -, rfl⟩ := heq
      obtain ⟨g, off, rfl, _, hcell⟩ := hc (by intro h; rw [h] at hlt; simp at hlt)
      have hck := hcell k hlt
      have hxr := HX.out (xs.getD k 0) (by rw [List.getD_eq_getElem?_getD, List.getElem?_eq_getElem hlt]; simp)
      obtain ⟨v, hv⟩ : ∃ v : Nat, xs.getD k 0 = (v : Int) := ⟨(xs.getD k 0).toNat, by omega⟩
      have hvn : v < 2147483648 := by omega
      have HS : Hid (bs ++ ws ++ Fl.blanks (xs.take (k + 1)) = (bs ++ ws ++ Fl.blanks (xs.take k) ++ [32]) ++ Lib.decDigits v) := by
        show _ = _
        rw [Fl.blanks_take xs k hlt, hv]; simp
      rw [hv] at hck
      have HW2 := write_bytes b (bs ++ ws ++ Fl.blanks (xs.take k)) [32] wr (.inr hbk) hbz (by simp only [List.length_append]; omega) (by simp)
      have HPW : Hid (Pows wr) := HP.out.wr hpb hwr.bl
      clear hcell hc hv hxr hbk hwr
      go_wp2_with fail
      refine HW2.mono ?_
      rintro e w2 ⟨⟨v2, rfl⟩, hb2, hw2⟩
      have HB2 : Hid _ := hb2
      have HWR2 : Hid (Wr b w w2) := HWR.out.trans hw2
      have hbz2 : b ≤ w2.heap.size := Nat.le_trans hbz hw2.bl.size
      have HIT := itoa_any v w2 (by omega) (HPW.out.wr hpb hw2.bl)
      clear HW2 hb2 hw2 hck
      go_wp2_with fail
      refine HIT.mono ?_
      rintro e w3 ⟨rfl, hb3⟩
      have hdl := decDigits_len v (by omega)
      have HW3 := write_bytes b (bs ++ ws ++ Fl.blanks (xs.take k) ++ [32]) (Lib.decDigits v) w3 (.inr (builder_below HB2.out hb3)) (Nat.le_trans hbz2 hb3.size) (by simp only [List.length_append, List.length_singleton]; omega) (by omega)
      have HWR3 : Hid (Wr b w w3) := HWR2.out.below hb3 hbz2
      clear HIT hb3 hbz2 hbz
      go_wp2_with fail
      refine HW3.mono ?_
      rintro e w4 ⟨⟨v4, rfl⟩, hb4, hw4⟩
      have HB4 : Hid _ := hb4
      have HWR4 : Hid (Wr b w w4) := HWR3.out.trans hw4
      clear HW3 hb4 hw4 hdl
      go_wp2
      go_roundw
      case rel => exact ⟨k + 1, by omega, by go_num, by rw [HS.out]; exact HB4.out, HWR4.out⟩
      case measure => simp [intOf]; omega
    · have HW2 := write_bytes b (bs ++ ws ++ Fl.blanks (xs.take k)) [10] wr (.inr hbk) hbz (by simp only [List.length_append]; omega) (by simp)
      have HS : Hid (bs ++ ws ++ Fl.blanks (xs.take k) ++ [10] = bs ++ ws ++ Fl.spaced xs) := by
        show _ = _
        rw [Fl.spaced, List.take_of_length_le (by omega)]; simp
      clear hbk hwr
      go_wp2_with fail
      refine HW2.mono ?_
      rintro e w2 ⟨⟨v2, rfl⟩, hb2, hw2⟩
      have HB2 : Hid _ := hb2
      have HWR2 : Hid (Wr b w w2) := HWR.out.trans hw2
      clear HW2 hb2 hw2
      go_wp2
      go_end0
      exact ⟨rfl, by rw [← HS.out]; exact HB2.out, HWR2.out⟩
end Go.Proofs.YtbihjgfbocpobaaGreatDoor

/- A proof's bytes, read in the order in which the program reads them. -/
set_option linter.unusedSimpArgs false
set_option linter.unusedVariables false
namespace Go.Proofs.YtbihjgfbocpobaaGreatDoor
open Go.RowKit
section
variable {s : List UInt8} {n q1 q2 M q0 : Nat} {ls : List Int} {z : Int}
theorem decode_n_bad (hh : Fl.headAt s = 3) (h3 : 3 ≤ s.length) (hb : (Fl.numB s 3 0 4).2.1 < 0) : Fl.decode s = (([], []), false, (Fl.numB s 3 0 4).2.2) := by
  have hok := Fl.num_ok s 3 h3
  unfold Fl.decode; rw [hh, if_neg (by decide)]
  simp only
  unfold Fl.numB at *
  by_cases h1 : (Fl.num s 3).2.1 < 0
  · rw [if_pos h1, if_pos h1]
  · rw [if_neg h1] at hb
    rw [if_neg h1, if_neg h1]
    by_cases h2 : (Fl.num s 3).1 < 0 ∨ 4 < (Fl.num s 3).1
    · rw [if_pos h2, if_pos (by omega)]; rfl
    · rw [if_neg h2] at hb; exact absurd hb h1
theorem decode_open (hh : Fl.headAt s = 3) (hn : Fl.num s 3 = ((n : Int), (q1 : Int), 0)) (hn4 : n ≤ 4) :
    Fl.decode s = (let l := Fl.nums s q1 n
      if l.2.1 < 0 then (([], []), false, l.2.2) else
      let m := Fl.num s l.2.1.toNat
      if m.2.1 < 0 then (([], []), false, m.2.2) else
      if m.1 < 1 ∨ 200 < m.1 then (([], []), false, l.2.1) else
      let r := Fl.nodesA s m.1.toNat 0 m.2.1.toNat [] []
      if 0 ≤ r.2.2.2 then (([], []), false, r.2.2.2) else
      if r.2.2.1 < s.length then (([], []), false, r.2.2.1) else
      if 0 ≤ Fl.shaped r.1 then (([], []), false, r.2.1.getD (Fl.shaped r.1).toNat 0) else ((l.1, r.1), true, 0)) := by
  unfold Fl.decode; rw [hh, if_neg (by decide)]
  simp only [hn]
  rw [if_neg (by omega), if_neg (by omega)]
  rfl
theorem decode_l_bad (hh : Fl.headAt s = 3) (hn : Fl.num s 3 = ((n : Int), (q1 : Int), 0)) (hn4 : n ≤ 4) (hl : (Fl.nums s q1 n).2.1 < 0) : Fl.decode s = (([], []), false, (Fl.nums s q1 n).2.2) := by
  rw [decode_open hh hn hn4]; simp only; rw [if_pos hl]
theorem decode_m_bad (hh : Fl.headAt s = 3) (hn : Fl.num s 3 = ((n : Int), (q1 : Int), 0)) (hn4 : n ≤ 4) (hl : Fl.nums s q1 n = (ls, (q2 : Int), z)) (hq2 : q2 ≤ s.length) (hm : (Fl.numB s q2 1 200).2.1 < 0) : Fl.decode s = (([], []), false, (Fl.numB s q2 1 200).2.2) := by
  rw [decode_open hh hn hn4]; simp only [hl, Int.toNat_natCast]; rw [if_neg (by omega)]
  unfold Fl.numB at *
  by_cases h1 : (Fl.num s q2).2.1 < 0
  · rw [if_pos h1, if_pos h1]
  · rw [if_neg h1] at hm
    rw [if_neg h1, if_neg h1]
    by_cases h2 : (Fl.num s q2).1 < 1 ∨ 200 < (Fl.num s q2).1
    · rw [if_pos h2, if_pos h2]
    · rw [if_neg h2] at hm; exact absurd hm h1
/-- Behind the head. -/
def decRest (s : List UInt8) (ls : List Int) (M q0 : Nat) : (List Int × List Fl.Node) × Bool × Int :=
  let r := Fl.nodesA s M 0 q0 [] []
  if 0 ≤ r.2.2.2 then (([], []), false, r.2.2.2) else
  if r.2.2.1 < s.length then (([], []), false, r.2.2.1) else
  if 0 ≤ Fl.shaped r.1 then (([], []), false, r.2.1.getD (Fl.shaped r.1).toNat 0) else ((ls, r.1), true, 0)
theorem decode_rest (hh : Fl.headAt s = 3) (hn : Fl.num s 3 = ((n : Int), (q1 : Int), 0)) (hn4 : n ≤ 4) (hl : Fl.nums s q1 n = (ls, (q2 : Int), z)) (hm : Fl.num s q2 = ((M : Int), (q0 : Int), 0)) (h1 : 1 ≤ M) (h2 : M ≤ 200) : Fl.decode s = decRest s ls M q0 := by
  rw [decode_open hh hn hn4]; simp only [hl, Int.toNat_natCast, hm]; rw [if_neg (by omega), if_neg (by omega), if_neg (by omega)]
  rfl
end
section
variable {s : List UInt8} {M q0 : Nat} {w : World} {b P0 : Nat} {lv : Value} {ls : List Int} {wr : World} {k q : Nat} {sv nv : Value} {st : List Int} {acc : List Fl.Node} {lvs : List Value}
theorem PL.fails (h : PL s M q0 w b P0 lv ls wr k q sv nv st acc lvs) (hk : k < M) (hb : (Fl.one s q k).2.1 < 0) : decRest s ls M q0 = (([], []), false, (Fl.one s q k).2.2) := by
  have hok := Fl.one_ok s q k h.hq
  have hr : Fl.nodesA s M 0 q0 [] [] = (acc, st, (q : Int), (Fl.one s q k).2.2) := by
    rw [h.hrun, show M - k = (M - (k + 1)) + 1 from by omega]; simp only [Fl.nodesA]; rw [if_pos hb]
  unfold decRest; simp only [hr]; rw [if_pos (by omega)]
theorem PL.ends (h : PL s M q0 w b P0 lv ls wr k q sv nv st acc lvs) (hk : ¬ k < M) : decRest s ls M q0 = if q < s.length then (([], []), false, (q : Int)) else if 0 ≤ Fl.shaped acc then (([], []), false, st.getD (Fl.shaped acc).toNat 0) else ((ls, acc), true, 0) := by
  have hkM : k = M := by have := h.hk; omega
  have hr : Fl.nodesA s M 0 q0 [] [] = (acc, st, (q : Int), -1) := by
    rw [h.hrun, hkM, Nat.sub_self]; rfl
  unfold decRest; simp only [hr]; rw [if_neg (by decide)]
  by_cases h1 : q < s.length
  · rw [if_pos (by omega), if_pos h1]
  · rw [if_neg (by omega), if_neg h1]
end
end Go.Proofs.YtbihjgfbocpobaaGreatDoor

/- The reading of a proof: its loop's memory, step by step. -/
set_option linter.unusedSimpArgs false
set_option linter.unusedVariables false
namespace Go.Proofs.YtbihjgfbocpobaaGreatDoor
open Go.RowKit

structure PC (w : World) (b P0 : Nat) (lv : Value) (wr : World) (q : Nat) (s34 nc1 : Value) (fam : List (Value × List Int)) (sv nv : Value) (n1 n2 : Nat) (xs ys : List Value) : Prop where
  hl : Li (P0 + 1) wr fam sv nv n1 n2 xs ys
  c0 : wr.cell? ⟨P0, 0, none⟩ = some lv
  c1 : wr.cell? ⟨P0, 1, none⟩ = some nc1
  d0 : wr.cell? ⟨w.heap.size, 0, none⟩ = some (.slice none 0 0)
  d1 : wr.cell? ⟨w.heap.size, 1, none⟩ = some (.slice none 0 0)
  f0 : ∀ j, wr.frozen? ⟨w.heap.size, j, none⟩ = false
  f1 : ∀ j, wr.frozen? ⟨P0, j, none⟩ = false
  fb : ∀ j, wr.frozen? ⟨b, j, none⟩ = false
  fr : Fr w wr b
  a1 : wr.cell? ⟨b, 1, none⟩ = some (.int .i64 (q : Int))
  a34 : wr.cell? ⟨b, 34, none⟩ = some s34
  hR : w.heap.size < P0
  hP : P0 < wr.heap.size
  hb : b < w.heap.size
section
variable {w : World} {b P0 : Nat} {lv : Value} {wr w' : World} {q : Nat} {s34 nc1 : Value} {fam : List (Value × List Int)} {sv nv : Value} {n1 n2 : Nat} {xs ys : List Value}
/-- A step that turns no old block but one of the call's own from P0 on. -/
theorem PC.own (h : PC w b P0 lv wr q s34 nc1 fam sv nv n1 n2 xs ys) {row : Option Nat} (g : wr.grownBy w' row) (hrow : ∀ k, row = some k → P0 + 1 ≤ k) {sv' nv' : Value} {n1' n2' : Nat} {xs' ys' : List Value} {fam' : List (Value × List Int)} (hl : Li (P0 + 1) w' fam' sv' nv' n1' n2' xs' ys') : PC w b P0 lv w' q s34 nc1 fam' sv' nv' n1' n2' xs' ys' := by
  have hR := h.hR
  have hb := h.hb
  have hP := h.hP
  have ne : ∀ k, k ≤ P0 → some k ≠ row := fun k hk e => by have := hrow k e.symm; omega
  have fz : ∀ (N j : Nat), N < wr.heap.size → N ≤ P0 → w'.frozen? ⟨N, j, none⟩ = wr.frozen? ⟨N, j, none⟩ := fun N j hN hk => World.frozen?_of_block (w := wr) (a := ⟨N, j, none⟩) (g.block N hN (ne N hk))
  exact ⟨hl, g.cell h.c0 (ne _ (Nat.le_refl _)), g.cell h.c1 (ne _ (Nat.le_refl _)), g.cell h.d0 (ne _ (by show w.heap.size ≤ P0; omega)), g.cell h.d1 (ne _ (by show w.heap.size ≤ P0; omega)), fun j => (fz _ j (by omega) (by omega)).trans (h.f0 j), fun j => (fz _ j hP (by omega)).trans (h.f1 j), fun j => (fz _ j (by omega) (by omega)).trans (h.fb j), h.fr.andGrown g hb (fun k e => by have := hrow k e; omega), g.cell h.a1 (ne _ (by show b ≤ P0; omega)), g.cell h.a34 (ne _ (by show b ≤ P0; omega)), hR, Nat.lt_of_lt_of_le hP g.size, hb⟩
theorem PC.alloc (h : PC w b P0 lv wr q s34 nc1 fam sv nv n1 n2 xs ys) (o : Obj) : PC w b P0 lv (wr.alloc o) q s34 nc1 fam sv nv n1 n2 xs ys :=
  h.own (World.grownBy_alloc wr o none) (fun k e => by cases e) (h.hl.stay (Stay.alloc _ _ _))
theorem PC.drew (h : PC w b P0 lv wr q s34 nc1 fam sv nv n1 n2 xs ys) : PC w b P0 lv wr.drew q s34 nc1 fam sv nv n1 n2 xs ys :=
  h.own (w' := wr.drew) (row := none) ⟨rfl, rfl, rfl, Nat.le_refl _, fun _ _ _ => rfl⟩ (fun k e => by cases e) (h.hl.stay (w' := wr.drew) ⟨Nat.le_refl _, fun _ _ _ => rfl⟩)
theorem PC.below (h : PC w b P0 lv wr q s34 nc1 fam sv nv n1 n2 xs ys) (hb : Below wr.heap.size wr w') : PC w b P0 lv w' q s34 nc1 fam sv nv n1 n2 xs ys :=
  h.own (row := none) ⟨hb.os, hb.tape, hb.output, hb.size, fun k hk _ => hb.block k hk⟩ (fun k e => by cases e) (h.hl.stay (Stay.below hb))
theorem PC.first (h : PC w b P0 lv wr q s34 nc1 fam sv nv n1 n2 xs ys) {sv' : Value} {n1' : Nat} {xs' : List Value} (ho : w'.ownsRow (P0 + 1) 3 1 sv' n1' xs') (hg : wr.grownBy w' sv.ownBlock) (hw : sv'.ownBlock = sv.ownBlock ∨ sv'.ownBlock = some wr.heap.size) : PC w b P0 lv w' q s34 nc1 fam sv' nv n1' n2 xs' ys :=
  h.own hg (fun k e => (h.hl.hs.lt k e).1) (h.hl.first ho hg hw)
theorem PC.second (h : PC w b P0 lv wr q s34 nc1 fam sv nv n1 n2 xs ys) {nv' : Value} {n2' : Nat} {ys' : List Value} (ho : w'.ownsRow (P0 + 1) 53 6 nv' n2' ys') (hg : wr.grownBy w' nv.ownBlock) (hw : nv'.ownBlock = nv.ownBlock ∨ nv'.ownBlock = some wr.heap.size) : PC w b P0 lv w' q s34 nc1 fam sv nv' n1 n2' xs ys' :=
  h.own hg (fun k e => (h.hl.hn.lt k e).1) (h.hl.second ho hg hw)
theorem PC.add (h : PC w b P0 lv wr q s34 nc1 fam sv nv n1 n2 xs ys) {lvn : Value} {l : List Int} {N : Nat} (hi : IntsAt wr.heap.size wr lvn l) (hf : ∀ b, lvn.ownBlock = some b → N ≤ b) (hsN : ∀ b, sv.ownBlock = some b → b < N) (hnN : ∀ b, nv.ownBlock = some b → b < N) (hN : P0 + 1 ≤ N) : PC w b P0 lv wr q s34 nc1 (fam ++ [(lvn, l)]) sv nv n1 n2 xs ys :=
  ⟨h.hl.add hi hf hsN hnN hN, h.c0, h.c1, h.d0, h.d1, h.f0, h.f1, h.fb, h.fr, h.a1, h.a34, h.hR, h.hP, h.hb⟩
theorem PC.move (h : PC w b P0 lv wr q s34 nc1 fam sv nv n1 n2 xs ys) (m : Mv wr w' b) {q' : Nat} (c : w'.cell? ⟨b, 1, none⟩ = some (.int .i64 (q' : Int))) : PC w b P0 lv w' q' s34 nc1 fam sv nv n1 n2 xs ys := by
  have hR := h.hR
  have hb := h.hb
  have hP := h.hP
  have n1 : some P0 ≠ some b := by simp; omega
  have n2 : some w.heap.size ≠ some b := by simp; omega
  have fz : ∀ (N j : Nat), N < wr.heap.size → some N ≠ some b → w'.frozen? ⟨N, j, none⟩ = wr.frozen? ⟨N, j, none⟩ := fun N j hN hne => World.frozen?_of_block (w := wr) (a := ⟨N, j, none⟩) (m.g.block N hN hne)
  exact ⟨h.hl.stay (Stay.grown m.g (fun k e => by injection e with e; omega)), m.g.cell h.c0 n1, m.g.cell h.c1 n1, m.g.cell h.d0 n2, m.g.cell h.d1 n2, fun j => (fz _ j (by omega) n2).trans (h.f0 j), fun j => (fz _ j hP n1).trans (h.f1 j), fun j => (m.f j).trans (h.fb j), h.fr.trans m.fr, c, (m.o 34 (by decide)).trans h.a34, hR, Nat.lt_of_lt_of_le hP m.g.size, hb⟩
theorem PC.set34 (h : PC w b P0 lv wr q s34 nc1 fam sv nv n1 n2 xs ys) (u : Value) : PC w b P0 lv (wr.setCell ⟨b, 34, none⟩ u) q u nc1 fam sv nv n1 n2 xs ys := by
  have hR := h.hR
  have hb := h.hb
  have g := grown_set wr b 34 u
  have n1 : some P0 ≠ some b := by simp; omega
  have n2 : some w.heap.size ≠ some b := by simp; omega
  exact ⟨h.hl.stay (Stay.grown g (fun k e => by injection e with e; omega)), g.cell h.c0 n1, g.cell h.c1 n1, g.cell h.d0 n2, g.cell h.d1 n2, fun j => (World.frozen?_setCell _ _ _ _).trans (h.f0 j), fun j => (World.frozen?_setCell _ _ _ _).trans (h.f1 j), fun j => (World.frozen?_setCell _ _ _ _).trans (h.fb j), h.fr.trans (Fr.set34 _ _ _), (nd_off (by decide)).trans h.a1, nd_same h.a34, hR, by simpa [World.setCell] using h.hP, hb⟩
theorem PC.setc1 (h : PC w b P0 lv wr q s34 nc1 fam sv nv n1 n2 xs ys) (u : Value) : PC w b P0 lv (wr.setCell ⟨P0, 1, none⟩ u) q s34 u fam sv nv n1 n2 xs ys := by
  have hR := h.hR
  have hb := h.hb
  have g := grown_set wr P0 1 u
  have n1 : some b ≠ some P0 := by simp; omega
  have n2 : some w.heap.size ≠ some P0 := by simp; omega
  exact ⟨h.hl.stay (Stay.grown g (fun k e => by injection e with e; omega)), (nd_off (by decide)).trans h.c0, nd_same h.c1, g.cell h.d0 n2, g.cell h.d1 n2, fun j => (World.frozen?_setCell _ _ _ _).trans (h.f0 j), fun j => (World.frozen?_setCell _ _ _ _).trans (h.f1 j), fun j => (World.frozen?_setCell _ _ _ _).trans (h.fb j), h.fr.andGrown g hb (fun k e => by injection e with e; omega), g.cell h.a1 n1, g.cell h.a34 n1, hR, by simpa [World.setCell] using h.hP, hb⟩
end
section
variable {s : List UInt8} {M q0 : Nat} {w : World} {b P0 : Nat} {lv : Value} {ls : List Int} {wr w' : World} {k q : Nat} {sv nv sv' nv' : Value} {st : List Int} {acc : List Fl.Node} {lvs : List Value}
theorem PL.pc (h : PL s M q0 w b P0 lv ls wr k q sv nv st acc lvs) : PC w b P0 lv wr q sv nv ((lv, ls) :: famOf acc lvs) sv nv k k (st.map (Value.int .i64)) (flat acc lvs) :=
  ⟨h.hl, h.c0, h.c1, h.d0, h.d1, h.f0, h.f1, h.fb, h.fr, h.a1, h.a34, h.hR, h.hP, h.hb⟩
/-- One node more. -/
theorem PL.step (h : PL s M q0 w b P0 lv ls wr k q sv nv st acc lvs) (hkM : k < M) {nd : Fl.Node} {af : Nat} {z : Int} (ho : Fl.one s q k = (nd, (af : Int), z)) (haf : af ≤ s.length) {lvn : Value}
    (hc : PC w b P0 lv w' af sv' nv' (((lv, ls) :: famOf acc lvs) ++ [(lvn, nd.list)]) sv' nv' (k + 1) (k + 1) (st.map (Value.int .i64) ++ [.int .i64 (q : Int)]) (flat acc lvs ++ nodeCells nd lvn)) :
    PL s M q0 w b P0 lv ls w' (k + 1) af sv' nv' (st ++ [(q : Int)]) (acc ++ [nd]) (lvs ++ [lvn]) := by
  have hlen : lvs.length = acc.length := by rw [h.hacc, h.hlvs]
  have hgood : Fl.good k nd := by
    have := Fl.one_good' s q k h.hq (by rw [ho]; simp only; omega)
    rw [ho] at this; exact this
  refine ⟨by omega, haf, by simp [h.hst], by simp [h.hacc], by simp [h.hlvs], ?_, Fl.allGood_snoc h.hgood (by rw [h.hacc]; exact hgood), ?_, hc.c0, hc.c1, hc.d0, hc.d1, hc.f0, hc.f1, hc.fb, hc.fr, hc.a1, hc.a34, hc.hR, hc.hP, hc.hb⟩
  · rw [h.hrun, show M - k = (M - (k + 1)) + 1 from by omega]; simp only [Fl.nodesA, ho, Int.toNat_natCast]; rw [if_neg (by omega)]
  · rw [famOf_snoc _ _ _ _ hlen, flat_snoc _ _ _ _ hlen, List.map_append]
    exact hc.hl
end
end Go.Proofs.YtbihjgfbocpobaaGreatDoor
