/- Texts Spec5 Spec6 SpecT Lna. -/
import Derived.Test.YthfacjlghcdndaaGreatDoorM02
import Derived.Laws.RangeAny
set_option linter.unusedSimpArgs false
set_option linter.unusedVariables false
namespace Go.Proofs.YthfacjlghcdndaaGreatDoor
open Go.RowKit
namespace Fl

def allBytes (ns : List Node) : List UInt8 := ns.flatMap nodeBytes
def headBytes (ls : List Int) (ns : List Node) : List UInt8 := [70, 80, 49] ++ (coded ls.length ++ (codedAll ls ++ coded ns.length))
def encode (ls : List Int) (ns : List Node) : List UInt8 × Bool × Int :=
  if 4 < ls.length ∨ ns.length = 0 ∨ 200 < ns.length then ([], false, -1)
  else if ls.all inR = false then ([], false, -1)
  else if 0 ≤ shaped ns then ([], false, shaped ns)
  else (headBytes ls ns ++ allBytes ns, true, -1)

theorem allBytes_snoc (l : List Node) (x : Node) : allBytes (l ++ [x]) = allBytes l ++ nodeBytes x := by simp [allBytes]
theorem take_snocN (l : List Node) (j : Nat) (h : j < l.length) : l.take (j + 1) = l.take j ++ [nth l j] := by
  rw [List.take_succ_eq_append_getElem h, nth, List.getD_eq_getElem?_getD, List.getElem?_eq_getElem h]; rfl
theorem sound_of_shaped {ns : List Node} (h : shaped ns < 0) (k : Nat) (hk : k < ns.length) : sound (nth ns k) = true := by
  unfold shaped at h
  cases hf : (List.range ns.length).find? (bad ns) with
  | some j => rw [hf] at h; simp only at h; omega
  | none =>
    rw [List.find?_eq_none] at hf
    have := hf k (by simpa using hk)
    simp [bad] at this; exact this.1
theorem nodeBytes_len {n : Node} (h : sound n = true) : (nodeBytes n).length ≤ 200 := by
  simp only [sound, Bool.and_eq_true, decide_eq_true_eq] at h
  have h1 := coded_len n.level.toNat
  have h2 := coded_len n.list.length
  have h3 := codedAll_len (nodeNums n)
  have h4 : (nodeNums n).length ≤ 16 := by
    unfold nodeNums; split
    · exact h.2.2.1
    · simp; omega
  unfold nodeBytes; simp only [List.length_cons, List.length_append]; split <;> simp <;> omega
theorem allBytes_len (l : List Node) (h : ∀ x ∈ l, sound x = true) : (allBytes l).length ≤ 200 * l.length := by
  induction l with
  | nil => simp [allBytes]
  | cons x r ih =>
    have h1 := nodeBytes_len (h x (by simp))
    have h2 := ih (fun y hy => h y (by simp [hy]))
    simp only [allBytes, List.flatMap_cons, List.length_append, List.length_cons] at h2 ⊢; omega
theorem nth_mem {l : List Node} {j : Nat} (h : j < l.length) : nth l j ∈ l := by
  rw [nth, List.getD_eq_getElem?_getD, List.getElem?_eq_getElem h]; exact List.getElem_mem h
theorem mem_nth {l : List Node} {x : Node} (h : x ∈ l) : ∃ j, j < l.length ∧ x = nth l j := by
  obtain ⟨i, hi, rfl⟩ := List.getElem_of_mem h
  exact ⟨i, hi, by rw [nth, List.getD_eq_getElem?_getD, List.getElem?_eq_getElem hi]; rfl⟩
end Fl
end Go.Proofs.YthfacjlghcdndaaGreatDoor

namespace Go.Proofs.YthfacjlghcdndaaGreatDoor
open Go.RowKit
namespace Fl

def nodesA (s : List UInt8) : Nat → Nat → Nat → List Int → List Node → List Node × List Int × Int × Int
  | 0, _, p, st, acc => (acc, st, (p : Int), -1)
  | m + 1, k, p, st, acc =>
    if (one s p k).2.1 < 0 then (acc, st, (p : Int), (one s p k).2.2)
    else nodesA s m (k + 1) (one s p k).2.1.toNat (st ++ [(p : Int)]) (acc ++ [(one s p k).1])
def headOk (s : List UInt8) (i : Nat) : Bool := decide (i < s.length) && (s.getD i 0 == ([70, 80, 49] : List UInt8).getD i 0)
def headAt (s : List UInt8) : Nat := if headOk s 0 = false then 0 else if headOk s 1 = false then 1 else if headOk s 2 = false then 2 else 3
def decode (s : List UInt8) : (List Int × List Node) × Bool × Int :=
  if headAt s < 3 then (([], []), false, (headAt s : Int)) else
  let n := num s 3
  if n.2.1 < 0 then (([], []), false, n.2.2) else
  if 4 < n.1 then (([], []), false, 3) else
  let l := nums s n.2.1.toNat n.1.toNat
  if l.2.1 < 0 then (([], []), false, l.2.2) else
  let m := num s l.2.1.toNat
  if m.2.1 < 0 then (([], []), false, m.2.2) else
  if m.1 < 1 ∨ 200 < m.1 then (([], []), false, l.2.1) else
  let r := nodesA s m.1.toNat 0 m.2.1.toNat [] []
  if 0 ≤ r.2.2.2 then (([], []), false, r.2.2.2) else
  if r.2.2.1 < s.length then (([], []), false, r.2.2.1) else
  if 0 ≤ shaped r.1 then (([], []), false, r.2.1.getD (shaped r.1).toNat 0) else ((l.1, r.1), true, 0)

theorem oneFin_ok (s : List UInt8) (p k : Nat) (n : Node) (e : Int) (hp : (p : Int) < e) (he : e ≤ s.length) :
    ((oneFin p k n e).2.1 = -1 ∧ 0 ≤ (oneFin p k n e).2.2 ∧ (oneFin p k n e).2.2 ≤ s.length) ∨ ((p : Int) < (oneFin p k n e).2.1 ∧ (oneFin p k n e).2.1 ≤ s.length) := by
  unfold oneFin; split
  · left; exact ⟨rfl, by simp only; omega, by simp only; omega⟩
  · right; exact ⟨by simp only; omega, by simp only; omega⟩
theorem one_ok (s : List UInt8) (p k : Nat) (h : p ≤ s.length) :
    ((one s p k).2.1 = -1 ∧ 0 ≤ (one s p k).2.2 ∧ (one s p k).2.2 ≤ s.length) ∨ ((p : Int) < (one s p k).2.1 ∧ (one s p k).2.1 ≤ s.length) := by
  unfold one
  by_cases h0 : p = s.length
  · rw [if_pos h0]; left; exact ⟨rfl, by simp only; omega, by simp only; omega⟩
  rw [if_neg h0]
  simp only
  by_cases h1 : fields ((s.getD p 0).toNat : Int) = -2
  · rw [if_pos h1]; left; exact ⟨rfl, by simp only; omega, by simp only; omega⟩
  rw [if_neg h1]
  have hn := num_ok s (p + 1) (by omega)
  by_cases h2 : (num s (p + 1)).2.1 < 0
  · rw [if_pos h2]; left; exact ⟨rfl, by simp only; omega, by simp only; omega⟩
  rw [if_neg h2]
  by_cases h3 : fields ((s.getD p 0).toNat : Int) = -1
  · rw [if_pos h3]
    have hm := num_ok s (num s (p + 1)).2.1.toNat (by omega)
    by_cases h4 : (num s (num s (p + 1)).2.1.toNat).2.1 < 0
    · rw [if_pos h4]; left; exact ⟨rfl, by simp only; omega, by simp only; omega⟩
    rw [if_neg h4]
    by_cases h5 : 16 < (num s (num s (p + 1)).2.1.toNat).1
    · rw [if_pos h5]; left; exact ⟨rfl, by simp only; omega, by simp only; omega⟩
    rw [if_neg h5]
    have hl := nums_ok s (num s (num s (p + 1)).2.1.toNat).2.1.toNat (num s (num s (p + 1)).2.1.toNat).1.toNat (by omega)
    split
    · left; exact ⟨rfl, by simp only; omega, by simp only; omega⟩
    · exact oneFin_ok s p k _ _ (by omega) (by omega)
  · rw [if_neg h3]
    have hl := nums_ok s (num s (p + 1)).2.1.toNat (fields ((s.getD p 0).toNat : Int)).toNat (by omega)
    split
    · left; exact ⟨rfl, by simp only; omega, by simp only; omega⟩
    · exact oneFin_ok s p k _ _ (by omega) (by omega)
theorem shaped_lt (l : List Node) : shaped l < (l.length : Int) := by
  unfold shaped
  cases hf : (List.range l.length).find? (bad l) with
  | some k => have := List.mem_of_find?_eq_some hf; simp at this; simp only; omega
  | none =>
    simp only
    cases hg : (List.range (l.length - 1)).find? (fun k => !used l k) with
    | some k => have := List.mem_of_find?_eq_some hg; simp at this; simp only; omega
    | none => simp only; omega
end Fl
end Go.Proofs.YthfacjlghcdndaaGreatDoor

namespace Go.Proofs.YthfacjlghcdndaaGreatDoor
open Go.RowKit
namespace Fl

def lnumF (most : Nat) : Nat → List UInt8 → Option Nat
  | n, [] => some n
  | n, c :: r => if isDig c = false then none else if (most - (c.toNat - 48)) / 10 < n then none else lnumF most (10 * n + (c.toNat - 48)) r
def lnum (most : Nat) (l : List UInt8) : Option Nat := if l = [] then none else if l.headD 0 = 48 ∧ l.length ≠ 1 then none else lnumF most 0 l

theorem isDig_nat (c : UInt8) : isDig c = true ↔ 48 ≤ c.toNat ∧ c.toNat ≤ 57 := by
  unfold isDig
  rw [Bool.and_eq_true, decide_eq_true_eq, decide_eq_true_eq, UInt8.le_iff_toNat_le, UInt8.le_iff_toNat_le]
  rfl
def valF (n : Nat) (l : List UInt8) : Nat := l.foldl (fun v c => 10 * v + (c.toNat - 48)) n
theorem valF_ge (l : List UInt8) : ∀ n, n ≤ valF n l := by
  induction l with
  | nil => intro n; exact Nat.le_refl _
  | cons c r ih => intro n; have := ih (10 * n + (c.toNat - 48)); simp only [valF, List.foldl_cons] at this ⊢; omega
theorem lnumF_eq (most : Nat) (hm : 9 ≤ most) (l : List UInt8) : ∀ n, n ≤ most → lnumF most n l = if l.all isDig = true ∧ valF n l ≤ most then some (valF n l) else none := by
  induction l with
  | nil => intro n hn; simp [lnumF, valF, hn]
  | cons c r ih =>
    intro n hn
    cases hd : isDig c with
    | false => simp [lnumF, hd]
    | true =>
      have hc := (isDig_nat c).1 hd
      have hv : valF n (c :: r) = valF (10 * n + (c.toNat - 48)) r := rfl
      simp only [lnumF, hd, List.all_cons, Bool.true_and]
      rw [if_neg (by simp), hv]
      by_cases hb : (most - (c.toNat - 48)) / 10 < n
      · rw [if_pos hb]
        have := valF_ge r (10 * n + (c.toNat - 48))
        rw [if_neg (by rintro ⟨_, h⟩; omega)]
      · rw [if_neg hb, ih _ (by omega)]

theorem val_eq (l : List UInt8) : val l = valF 0 l := rfl
theorem valF_digits (l : List UInt8) : ∀ n, l.all isDig = true → valF n l < (n + 1) * 10 ^ l.length := by
  induction l with
  | nil => intro n _; simp [valF]
  | cons c r ih =>
    intro n h
    simp only [List.all_cons, Bool.and_eq_true] at h
    have hc := (isDig_nat c).1 h.1
    have := ih (10 * n + (c.toNat - 48)) h.2
    have e : valF n (c :: r) = valF (10 * n + (c.toNat - 48)) r := rfl
    rw [e, List.length_cons, Nat.pow_succ]
    refine Nat.lt_of_lt_of_le this ?_
    rw [Nat.mul_comm (10 ^ r.length) 10, ← Nat.mul_assoc]
    exact Nat.mul_le_mul_right _ (by omega)
theorem valF_lower (l : List UInt8) : ∀ n, n * 10 ^ l.length ≤ valF n l := by
  induction l with
  | nil => intro n; simp [valF]
  | cons c r ih =>
    intro n
    have := ih (10 * n + (c.toNat - 48))
    have e : valF n (c :: r) = valF (10 * n + (c.toNat - 48)) r := rfl
    rw [e, List.length_cons, Nat.pow_succ]
    refine Nat.le_trans ?_ this
    rw [Nat.mul_comm (10 ^ r.length) 10, ← Nat.mul_assoc]
    exact Nat.mul_le_mul_right _ (by omega)
theorem lnum_number (l : List UInt8) : lnum 2147483647 l = if (number l 10).2 = true ∧ (number l 10).1 < 2147483648 then some (number l 10).1 else none := by
  unfold lnum
  by_cases h0 : l = []
  · subst h0; simp [number, numOk]
  rw [if_neg h0]
  have hpos : 0 < l.length := List.length_pos_iff.2 h0
  by_cases h1 : l.headD 0 = 48 ∧ l.length ≠ 1
  · rw [if_pos h1]
    have : (number l 10).2 = false := by
      unfold number
      split
      · simp only [numOk]
        have e1 : (l.headD 0 != 48) = false := by rw [h1.1]; rfl
        have e2 : decide (l.length = 1) = false := by simp [h1.2]
        rw [e1, e2]; simp
      · rfl
    rw [this]; simp
  · rw [if_neg h1, lnumF_eq _ (by omega) _ _ (by omega)]
    cases had : l.all isDig with
    | false => simp [number, had]
    | true =>
      have hok : (l.headD 0 != 48 || decide (l.length = 1)) = true := by
        by_cases h2 : l.headD 0 = 48
        · have : l.length = 1 := by
            rcases Nat.lt_or_ge 1 l.length with h | h
            · exact absurd ⟨h2, by omega⟩ h1
            · omega
          simp [this]
        · rw [show (l.headD 0 != 48) = true from bne_iff_ne.2 h2]; rfl
      simp only [number, had, if_true, numOk, hok, Bool.and_true]
      by_cases h10 : l.length ≤ 10
      · rw [List.take_of_length_le h10]
        simp only [hpos, h10, decide_true, Bool.and_true, true_and, val_eq]
        by_cases hv : valF 0 l ≤ 2147483647
        · rw [if_pos hv, if_pos (by omega)]
        · rw [if_neg hv, if_neg (by omega)]
      · have hbig : 2147483647 < valF 0 l := by
          match l, h10, had, h1, h0 with
          | c :: r, h10, had, h1, _ =>
            simp only [List.all_cons, Bool.and_eq_true] at had
            have hc := (isDig_nat c).1 had.1
            have hlen : 10 ≤ r.length := by simp only [List.length_cons] at h10; omega
            have hc1 : 1 ≤ c.toNat - 48 := by
              rcases Nat.lt_or_ge 48 c.toNat with h | h
              · omega
              · exfalso; apply h1
                refine ⟨?_, by simp only [List.length_cons]; omega⟩
                have : c.toNat = 48 := by omega
                show c = 48
                exact UInt8.toNat_inj.1 this
            have e : valF 0 (c :: r) = valF (10 * 0 + (c.toNat - 48)) r := rfl
            rw [e]
            have h5 := valF_lower r (10 * 0 + (c.toNat - 48))
            have h6 : 10 ^ 10 ≤ 10 ^ r.length := Nat.pow_le_pow_right (by omega) hlen
            have h7 : 1 * 10 ^ 10 ≤ (10 * 0 + (c.toNat - 48)) * 10 ^ r.length := Nat.mul_le_mul (by omega) h6
            omega
        rw [if_neg (by omega)]
        simp [h10]
end Fl
end Go.Proofs.YthfacjlghcdndaaGreatDoor

namespace Go.Proofs.YthfacjlghcdndaaGreatDoor
open Go.RowKit

theorem lnumF_drop (m v pos : Nat) (l : List UInt8) (h : pos < l.length) : Fl.lnumF m v (l.drop pos) = if Fl.isDig (l.getD pos 0) = false then none else if (m - ((l.getD pos 0).toNat - 48)) / 10 < v then none else Fl.lnumF m (10 * v + ((l.getD pos 0).toNat - 48)) (l.drop (pos + 1)) := by
  rw [List.drop_eq_getElem_cons h, Fl.lnumF]; simp [List.getD_eq_getElem?_getD, h]
theorem below_iter (w : World) (s : ByteArray) (pos : Nat) : Below w.heap.size w (w.iter s pos) := (Below.refl _ _).alloc (Nat.le_refl _) _

set_option maxRecDepth 100000 in
set_option maxHeartbeats 4000000 in
theorem lnumber_any (l : List UInt8) (m : Nat) (w : World) (hl : l.length ≤ 100000) (hm9 : 9 ≤ m) (hm : m ≤ 4000000000) :
    Calls Tryz.prog 99 #[.string ⟨l.toArray⟩, .int .i64 m] w fun e w' => e = .returned (.tuple #[.int .i64 ((Fl.lnum m l).getD 0), .bool (Fl.lnum m l).isSome]) ∧ Below w.heap.size w w' := by
  by_cases h0 : l = []
  · subst h0
    go_enter Tryz.func99, Tryz.ntmps99
    go_wp2
    go_ret2
    exact ⟨rfl, Below.refl _ _⟩
  · have hs0 : 0 < l.length := List.length_pos_iff.2 h0
    have hsz : (⟨l.toArray⟩ : ByteArray).size = l.length := rfl
    have hh : l.headD 0 = (⟨l.toArray⟩ : ByteArray)[0] := by
      cases l with
      | nil => simp at hs0
      | cons a r => rfl
    have b0 : l.isEmpty = false := by simpa using h0
    by_cases h48 : l.headD 0 = 48 ∧ l.length ≠ 1
    · have HF : Hid (Fl.lnum m l = none) := by
        show _ = _
        unfold Fl.lnum; rw [if_neg h0, if_pos h48]
      have b1 : ((((⟨l.toArray⟩ : ByteArray)[0]).toNat : Int) == 48) = true := by rw [← hh, h48.1]; rfl
      have b2 : (l == [48]) = false := by
        rw [beq_eq_false_iff_ne]; rintro rfl; exact h48.2 rfl
      clear hh h48 h0
      go_enter Tryz.func99, Tryz.ntmps99
      go_wp2
      go_ret2
      exact ⟨by rw [HF.out]; rfl, Below.refl _ _⟩
    · have HF : Hid (Fl.lnum m l = Fl.lnumF m 0 l) := by
        show _ = _
        unfold Fl.lnum; rw [if_neg h0, if_neg h48]
      have hA : ((((⟨l.toArray⟩ : ByteArray)[0]).toNat : Int) == 48) = false ∨ ((((⟨l.toArray⟩ : ByteArray)[0]).toNat : Int) == 48) = true ∧ (l == [48]) = true := by
        by_cases h1 : l.headD 0 = 48
        · right
          refine ⟨by rw [← hh, h1]; rfl, ?_⟩
          have h2 : l.length = 1 := Classical.byContradiction fun h => h48 ⟨h1, h⟩
          match l, h2, h1 with
          | [a], _, h1 => simp at h1; subst h1; rfl
        · left
          rw [beq_eq_false_iff_ne]; intro h2; apply h1; rw [hh]; exact UInt8.toNat_inj.1 (by show _ = 48; omega)
      have HGET : Hid (∀ pos (h : pos < l.length), ((⟨l.toArray⟩ : ByteArray)[pos]'h) = l.getD pos 0) := by
        intro pos h
        show l.toArray[pos] = _
        simp [List.getD_eq_getElem?_getD, h]
      have hmI : (9 : Int) ≤ (m : Int) := by omega
      have hmJ : (m : Int) ≤ 4000000000 := by omega
      clear hh h48 h0 hsz
      rcases hA with b1 | ⟨b1, b2⟩
      all_goals
        go_enter Tryz.func99, Tryz.ntmps99
        go_wp2_with fail
        go_loopw [6] (fun n wr => ∃ (pos v : Nat), wr = w.iter ⟨l.toArray⟩ pos ∧ n = .int .i64 v ∧ pos ≤ l.length ∧ v ≤ m ∧ Fl.lnumF m 0 l = Fl.lnumF m v (l.drop pos)) (fun _ wr => l.length - wr.iterPos w.heap.size)
        case atStart => exact ⟨0, 0, rfl, rfl, by omega, by omega, rfl⟩
        case round =>
          obtain ⟨pos, v, rfl, rfl, hpl, hvm, hr⟩ := hrel
          have HR : Hid (Fl.lnumF m 0 l = Fl.lnumF m v (l.drop pos)) := hr
          clear hr
          by_cases hp : pos < l.length
          · obtain ⟨c, hc⟩ : ∃ c, c = l.getD pos 0 := ⟨_, rfl⟩
            have hst := lnumF_drop m v pos l hp
            rw [← hc] at hst
            have HST : Hid (Fl.lnumF m v (l.drop pos) = if Fl.isDig c = false then none else if (m - (c.toNat - 48)) / 10 < v then none else Fl.lnumF m (10 * v + (c.toNat - 48)) (l.drop (pos + 1))) := hst
            have hgc : (⟨l.toArray⟩ : ByteArray)[pos]'hp = c := by rw [HGET.out pos hp, hc]
            clear hst hc
            by_cases ha : c.toNat < 128
            · have hnx : ∀ ty, (Instr.next (.pointer (some ⟨w.heap.size, 0, none⟩)) true ty).run Tryz.prog (w.iter ⟨l.toArray⟩ pos) = .ok (.tuple #[.bool true, .int .i64 pos, .int .i32 (c.toNat : Int)]) (w.iter ⟨l.toArray⟩ (pos + 1)) := fun ty => by
                have := run_next_ascii (P := Tryz.prog) w ⟨l.toArray⟩ pos ty hp (by rw [hgc]; exact ha)
                rw [hgc] at this; exact this
              have hdg : Fl.isDig c = true ↔ 48 ≤ c.toNat ∧ c.toNat ≤ 57 := Fl.isDig_nat c
              have HDG : Hid (Fl.isDig c = true ↔ 48 ≤ c.toNat ∧ c.toNat ≤ 57) := hdg
              clear hgc hdg
              generalize hcn : c.toNat = cn at *
              by_cases hd : 48 ≤ cn ∧ cn ≤ 57
              · have hd1 : (48 : Int) ≤ (cn : Int) := by omega
                have hd2 : (cn : Int) ≤ 57 := by omega
                have hdT : Fl.isDig c = true := HDG.out.2 hd
                have hvI : (v : Int) ≤ 4000000000 := by omega
                by_cases hq : (m - (cn - 48)) / 10 < v
                · have hqI : ((m : Int) - ((cn : Int) - 48)) / 10 < (v : Int) := by omega
                  have HE : Hid (Fl.lnum m l = none) := by
                    show _ = _
                    rw [HF.out, HR.out, HST.out, if_neg (by rw [hdT]; decide), if_pos hq]
                  clear hcn hd hq hdT
                  go_wp2
                  go_ret2
                  exact ⟨by rw [HE.out]; rfl, below_iter _ _ _⟩
                · have hqI : (v : Int) ≤ ((m : Int) - ((cn : Int) - 48)) / 10 := by omega
                  have HE : Hid (Fl.lnumF m 0 l = Fl.lnumF m (10 * v + (cn - 48)) (l.drop (pos + 1))) := by
                    show _ = _
                    rw [HR.out, HST.out, if_neg (by rw [hdT]; decide), if_neg hq]
                  have hle : 10 * v + (cn - 48) ≤ m := by omega
                  clear hcn hd hq hdT
                  go_wp2
                  go_roundw
                  case rel => exact ⟨pos + 1, 10 * v + (cn - 48), rfl, by go_num, by omega, hle, HE.out⟩
                  case measure => simp; omega
              · have HE : Hid (Fl.lnum m l = none) := by
                  show _ = _
                  rw [HF.out, HR.out, HST.out, if_pos]
                  cases hh : Fl.isDig c with
                  | false => rfl
                  | true => exact absurd (HDG.out.1 hh) hd
                clear hcn
                have hdI : (cn : Int) - 48 < 0 ∨ 9 < (cn : Int) - 48 := by omega
                have hcI : (cn : Int) < 128 := by omega
                rcases hdI with hdI | hdI
                all_goals
                  go_wp2
                  go_ret2
                  exact ⟨by rw [HE.out]; rfl, below_iter _ _ _⟩
            · obtain ⟨h1, h2⟩ := decode_high (⟨l.toArray⟩ : ByteArray) pos hp (by rw [hgc]; omega)
              have h3 := decode_le (⟨l.toArray⟩ : ByteArray) pos
              have hnx : ∀ ty, (Instr.next (.pointer (some ⟨w.heap.size, 0, none⟩)) true ty).run Tryz.prog (w.iter ⟨l.toArray⟩ pos) = _ := fun ty => run_next_any w ⟨l.toArray⟩ pos ty hp
              have HE : Hid (Fl.lnum m l = none) := by
                show _ = _
                rw [HF.out, HR.out, HST.out, if_pos]
                cases hh : Fl.isDig c with
                | false => rfl
                | true => have := (Fl.isDig_nat c).1 hh; omega
              generalize (Utf8.decode (⟨l.toArray⟩ : ByteArray) pos).1 = r at *
              generalize (Utf8.decode (⟨l.toArray⟩ : ByteArray) pos).2 = rw at *
              have h1I : (128 : Int) ≤ (r : Int) := by omega
              have h3I : (r : Int) ≤ 2147483647 := by omega
              clear h1 h3 hgc
              go_wp2
              go_ret2
              exact ⟨by rw [HE.out]; rfl, below_iter _ _ _⟩
          · have HE : Hid (Fl.lnum m l = some v) := by
              show _ = _
              rw [HF.out, HR.out, List.drop_of_length_le (by omega)]; rfl
            have hnx : ∀ ty, (Instr.next (.pointer (some ⟨w.heap.size, 0, none⟩)) true ty).run Tryz.prog (w.iter ⟨l.toArray⟩ pos) = _ := fun ty => run_next_end w ⟨l.toArray⟩ pos ty hp
            go_wp2
            go_ret2
            exact ⟨by rw [HE.out]; rfl, below_iter _ _ _⟩
end Go.Proofs.YthfacjlghcdndaaGreatDoor
