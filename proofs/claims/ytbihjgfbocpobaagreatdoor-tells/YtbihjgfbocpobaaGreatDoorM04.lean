/- Texts RefB SpecP RefU RefV0. -/
import Derived.Test.YtbihjgfbocpobaaGreatDoorM03
import Derived.RegionTactic
import Derived.Lib.Strings
/- Slices of strings in memory; the reference's place. -/
namespace Go.Proofs.YtbihjgfbocpobaaGreatDoor
open Go.RowKit

/-- A slice of strings, read where it lies. -/
def StrsAt (w : World) (v : Value) (ss : List ByteArray) : Prop :=
  ∃ ao cap, v = .slice ao ss.length cap ∧ ss.length ≤ maxLen ∧ (∀ s ∈ ss, s.size ≤ maxLen) ∧
    (ss ≠ [] → ∃ b off, ao = some ⟨b, off, none⟩ ∧ ∀ i, i < ss.length → w.cell? ⟨b, off + i, none⟩ = some (.string (ss.getD i ByteArray.empty)))

def bl (ss : List ByteArray) : List (List UInt8) := ss.map ByteArray.toList
theorem bl_getD (ss : List ByteArray) (k : Nat) (h : k < ss.length) : (bl ss).getD k [] = (ss.getD k ByteArray.empty).toList := by
  simp [bl, List.getD_eq_getElem?_getD, h]
theorem bl_length (ss : List ByteArray) : (bl ss).length = ss.length := by simp [bl]

theorem number_l (s : ByteArray) (m : Nat) (w : World) (hs : s.size ≤ maxLen) (hm : m ≤ 10) : Calls Tryz.prog 37 #[.string s, .int .i64 m] w fun e w' => e = .returned (.tuple #[.int .i64 (Fl.number s.toList m).1, .bool (Fl.number s.toList m).2]) ∧ w' = w := by
  rw [ByteArray.toList_eq]; exact number_any s m w hs hm

set_option maxHeartbeats 1000000 in
theorem place_any (v : Value) (ss : List ByteArray) (s : ByteArray) (w : World) (hv : StrsAt w v ss) : Calls Tryz.prog 26 #[v, .string s] w fun e w' => e = .returned (.int .i64 (Fl.place (bl ss) s.toList)) ∧ w' = w := by
  obtain ⟨ao, cap, rfl, hl, _, hc⟩ := hv
  unfold maxLen at hl
  go_enter Tryz.func26, Tryz.ntmps26
  go_wp2
  go_loop [5] (fun i => ∃ k : Nat, k ≤ ss.length ∧ i = .int .i64 k ∧ ∀ j, j < k → ((bl ss).getD j [] == s.toList) = false) (fun i => ss.length - (intOf i).toNat)
  case atStart => exact ⟨0, Nat.zero_le _, rfl, fun j hj => by omega⟩
  case round =>
    obtain ⟨k, hk, rfl, hno⟩ := hrel
    have HN : Hid (∀ j, j < k → ((bl ss).getD j [] == s.toList) = false) := hno
    clear hno
    by_cases hlt : k < ss.length
    · obtain ⟨b, off, rfl, hcell⟩ := hc (by intro h; rw [h] at hlt; simp at hlt)
      have hck := hcell k hlt
      obtain ⟨x, hx⟩ : ∃ x, x = ss.getD k ByteArray.empty := ⟨_, rfl⟩
      rw [← hx] at hck
      have HX : Hid (x = ss.getD k ByteArray.empty) := hx
      clear hx hcell hc
      go_wp2
      · have hE : (x.toList == s.toList) = true := by assumption
        go_ret
        exact ⟨ret_int (Fl.place_hit _ _ k HN.out (by rw [bl_length]; exact hlt) (by rw [bl_getD _ _ hlt, ← HX.out]; exact hE)).symm, rfl⟩
      · have hE : (x.toList == s.toList) = false := by assumption
        go_round
        case rel => exact ⟨k + 1, by omega, by go_num, fun j hj => by
          by_cases hjk : j < k
          · exact HN.out j hjk
          · have : j = k := by omega
            rw [this, bl_getD _ _ hlt, ← HX.out]; exact hE⟩
        case measure => simp [intOf]; omega
    · go_wp2
      go_ret
      exact ⟨ret_int (Fl.place_miss _ _ (fun j hj => HN.out j (by rw [bl_length] at hj; omega))).symm, rfl⟩

end Go.Proofs.YtbihjgfbocpobaaGreatDoor

/- A text, cut at a byte. -/
namespace Go.Proofs.YtbihjgfbocpobaaGreatDoor
namespace Fl
def cutStep (c : UInt8) (st : List (List UInt8) × List UInt8) (x : UInt8) : List (List UInt8) × List UInt8 := if x == c then (st.1 ++ [st.2], []) else (st.1, st.2 ++ [x])
def cutTo (c : UInt8) (l : List UInt8) : List (List UInt8) × List UInt8 := l.foldl (cutStep c) ([], [])
/-- A text, cut at a byte. -/
def cut (c : UInt8) (l : List UInt8) : List (List UInt8) := (cutTo c l).1 ++ [(cutTo c l).2]
theorem cutTo_snoc (c : UInt8) (l : List UInt8) (x : UInt8) : cutTo c (l ++ [x]) = cutStep c (cutTo c l) x := by simp [cutTo, List.foldl_append]
theorem cutTo_len (c : UInt8) (l : List UInt8) : ∀ st : List (List UInt8) × List UInt8, (l.foldl (cutStep c) st).1.length ≤ st.1.length + l.length ∧ (l.foldl (cutStep c) st).2.length ≤ st.2.length + l.length := by
  induction l with
  | nil => intro st; simp
  | cons x r ih =>
    intro st
    simp only [List.foldl_cons, List.length_cons]
    have h := ih (cutStep c st x)
    by_cases hx : (x == c) = true
    · have h1 : (cutStep c st x).1.length = st.1.length + 1 := by simp [cutStep, hx]
      have h2 : (cutStep c st x).2.length = 0 := by simp [cutStep, hx]
      omega
    · have h1 : (cutStep c st x).1.length = st.1.length := by simp [cutStep, hx]
      have h2 : (cutStep c st x).2.length = st.2.length + 1 := by simp [cutStep, hx]
      omega
theorem cutTo_le (c : UInt8) (l : List UInt8) : (cutTo c l).1.length ≤ l.length ∧ (cutTo c l).2.length ≤ l.length := by
  have := cutTo_len c l ([], []); simpa [cutTo] using this
end Fl
end Go.Proofs.YtbihjgfbocpobaaGreatDoor

/- The reference's cut. -/
set_option linter.unusedSimpArgs false
set_option linter.unusedVariables false
namespace Go.Proofs.YtbihjgfbocpobaaGreatDoor
open Go.RowKit

theorem Tryz.infoStr : (Tryz.prog.info? 9).map (fun i => (i.zero, i.size, i.bytes)) = some (some (.string ⟨#[]⟩), 1, 16) := by kernel_rfl
/-- Bytes as a string's value. -/
def strV (l : List UInt8) : Value := .string ⟨l.toArray⟩
theorem own_strs {w : World} {base : Nat} {e : TypeId} {v : Value} {n : Nat} {xs : List Value} (h : w.ownsRow base e 1 v n xs) (hn : 0 < n) : ∃ g cap, v = .slice (some ⟨g, 0, none⟩) n cap ∧ base ≤ g ∧ g < w.heap.size := by
  rcases h.2 with ⟨rfl, h0⟩ | ⟨g, cap, cur, rfl, hb, hg, _⟩
  · omega
  · exact ⟨g, cap, rfl, hb, (Array.getElem?_eq_some_iff.1 hg).1⟩
theorem ext_one (s : ByteArray) (k : Nat) (h : k < s.size) (cu : List UInt8) : Value.string (⟨cu.toArray⟩ ++ s.extract k (k + 1)) = strV (cu ++ [s[k]]) := by
  have e : s.extract k (k + 1) = ⟨[s[k]].toArray⟩ := by
    have h1 : (s.extract k (k + 1)).data.toList = [s[k]] := by
      rw [Lib.extract_data, List.drop_eq_getElem_cons (by simpa using h)]; simp; rfl
    have h2 := Lib.mk_data (s.extract k (k + 1))
    rw [h1] at h2; exact h2.symm
  rw [e]; unfold strV; rw [ByteArray.mk_append_mk]
theorem set_last (dn : List (List UInt8)) (cu cu' : List UInt8) : ((dn ++ [cu]).map strV).set dn.length (strV cu') = (dn ++ [cu']).map strV := by
  simp [List.set_append]
theorem str_cell_new {w : World} {e : TypeId} {x : Value} : ∀ j u, [x][j]? = some u → (w.alloc (.cells #[x] e)).cell? ((⟨w.heap.size, 0, none⟩ : Addr).add j) = some u := by
  intro j u hj
  match j, hj with
  | 0, hj => simp at hj; subst hj; simp [Addr.add]

set_option maxRecDepth 100000 in
set_option maxHeartbeats 4000000 in
theorem cut_walk (s : ByteArray) (c : UInt8) (w : World) (hs : s.size ≤ 100000) :
    Calls Tryz.prog 24 #[.string s, .int .u8 c.toNat] w fun e w' => ∃ v, e = .returned v ∧ w'.ownsRow w.heap.size 9 1 v (Fl.cut c s.data.toList).length ((Fl.cut c s.data.toList).map strV) ∧ Below w.heap.size w w' := by
  obtain ⟨i0, hi, hz0, hz1, hz2⟩ := info_parts Tryz.infoStr
  go_enter Tryz.func24, Tryz.ntmps24
  go_wp2
  go_loopw [5, 6] (fun v i wr => ∃ (k : Nat) (dn : List (List UInt8)) (cu : List UInt8), k ≤ s.size ∧ i = .int .i64 k ∧ Fl.cutTo c (s.data.toList.take k) = (dn, cu) ∧ wr.ownsRow w.heap.size 9 1 v (dn.length + 1) ((dn ++ [cu]).map strV) ∧ Below w.heap.size w wr) (fun _ i _ => s.size - (intOf i).toNat)
  case atStart =>
    refine ⟨0, [], [], by omega, rfl, rfl, ⟨rfl, .inr ⟨w.heap.size, 1, #[.string ⟨#[]⟩], rfl, Nat.le_refl _, heap_alloc_new w _, by simp, by simp [maxLen], rfl, rfl⟩⟩, (Below.refl _ _).alloc (Nat.le_refl _) _⟩
  case round =>
    obtain ⟨k, dn, cu, hk, rfl, hct, hown, hbel⟩ := hrel
    have HC : Hid (Fl.cutTo c (s.data.toList.take k) = (dn, cu)) := hct
    have hle := Fl.cutTo_le c (s.data.toList.take k)
    rw [hct] at hle
    simp only [List.length_take] at hle
    have hdn : dn.length ≤ k := by omega
    have hcu : cu.length ≤ k := by omega
    have hbs := hbel.size
    obtain ⟨g, cap, rfl, hgb, hgl⟩ := own_strs hown (by omega)
    clear hct hle
    by_cases hlt : k < s.size
    · by_cases hx : s[k] = c
      · have b1 : ((s[k].toNat : Int) == (c.toNat : Int)) = true := by rw [hx]; simp
        have HX : Hid (s[k] = c) := hx
        clear hx
        go_wp2_with (at_builtin; refine wpList_append_own _ rfl _ _ 58 rfl w.heap.size 9 i0 (.string ⟨#[]⟩) 1 16 Tryz.underlying58 hi hz0 hz1 hz2 rfl (by decide) _ _ _ rfl (hown.alloc _) ⟨_, 0, none⟩ 1 1 [.string ⟨#[]⟩] rfl rfl str_cell_new ?c2 ?c3 ?c4 ?c5 ?_)
        case c2 => first | rfl | (intro u hu; simp at hu; subst hu; rfl)
        case c3 => unfold maxLen; omega
        case c4 => omega
        case c5 => first | omega | (simp; omega)
        intro v' w1 hown' hgrow _
        have R1 : w1.ownsRow w.heap.size 9 1 v' ((dn ++ [cu]).length + 1) ((dn ++ [cu] ++ [[]]).map strV) := by
          have e1 : (dn ++ [cu] ++ [[]]).map strV = dn.map strV ++ [strV cu, .string ⟨#[]⟩] := by simp [strV]
          rw [e1, List.length_append, List.length_singleton]; exact hown'
        have R2 : Below w.heap.size w w1 := (hbel.alloc hbs _).grown hgrow (by simp; omega) (fun g hg => (hown.lt g hg).1)
        have HR1 : Hid (w1.ownsRow w.heap.size 9 1 v' ((dn ++ [cu]).length + 1) ((dn ++ [cu] ++ [[]]).map strV)) := R1
        clear hown' hgrow hown R1
        go_wp2
        go_roundw
        case rel => exact ⟨k + 1, dn ++ [cu], [], by omega, by go_num, by rw [take_snoc s k hlt, Fl.cutTo_snoc, HC.out]; simp [Fl.cutStep, HX.out], HR1.out, R2⟩
        case measure => simp [intOf]; omega
      · have b1 : ((s[k].toNat : Int) == (c.toNat : Int)) = false := by rw [beq_eq_false_iff_ne]; intro hh; exact hx (UInt8.toNat_inj.1 (by omega))
        have HX : Hid (¬ s[k] = c) := hx
        clear hx
        have hcell : wr.cell? ⟨g, dn.length, none⟩ = some (.string ⟨cu.toArray⟩) := by
          rw [hown.cellAt dn.length (by omega)]; simp [strV]
        have hfz : wr.frozen? ⟨g, dn.length, none⟩ = false := hown.frozenAt _
        have hst := hown.stored dn.length (.string (⟨cu.toArray⟩ ++ s.extract k (k + 1)))
        have HST : Hid ((wr.setCell ⟨g, dn.length, none⟩ (.string (⟨cu.toArray⟩ ++ s.extract k (k + 1)))).ownsRow w.heap.size 9 1 (.slice (some ⟨g, 0, none⟩) (dn.length + 1) cap) (dn.length + 1) (((dn ++ [cu]).map strV).set dn.length (.string (⟨cu.toArray⟩ ++ s.extract k (k + 1))))) := hst.1
        have HB : Hid (Below w.heap.size w (wr.setCell ⟨g, dn.length, none⟩ (.string (⟨cu.toArray⟩ ++ s.extract k (k + 1))))) := hbel.setCell hgb _
        clear hst hown hbel
        have hkI : (k : Int) < (s.size : Int) := by omega
        have hcs : ((⟨cu.toArray⟩ : ByteArray).size : Int) ≤ 100000 := by show ((cu.toArray.size : Nat) : Int) ≤ 100000; simp; omega
        go_wp2_with fail
        go_region
        all_goals
          go_wp2
          go_roundw
          case rel => exact ⟨k + 1, dn, cu ++ [s[k]], by omega, by go_num, by rw [take_snoc s k hlt, Fl.cutTo_snoc, HC.out]; simp [Fl.cutStep, HX.out], by rw [← set_last dn cu, ← ext_one s k hlt]; exact HST.out, HB.out.drew⟩
          case measure => simp [intOf]; omega
    · have hfin : Fl.cut c s.data.toList = dn ++ [cu] := by
        unfold Fl.cut; rw [← take_all s k hlt, HC.out]
      have HF : Hid (Fl.cut c s.data.toList = dn ++ [cu]) := hfin
      clear hfin
      go_wp2
      go_ret
      exact ⟨_, rfl, by rw [HF.out, List.length_append, List.length_singleton]; exact hown, hbel⟩
end Go.Proofs.YtbihjgfbocpobaaGreatDoor

/- A list of words, read where it lies. -/
set_option linter.unusedSimpArgs false
set_option linter.unusedVariables false
namespace Go.Proofs.YtbihjgfbocpobaaGreatDoor
open Go.RowKit

/-- A list of words, read where it lies, below a block. -/
def WordsAt (B : Nat) (w : World) (v : Value) (ws : List (List UInt8)) : Prop :=
  ∃ ao cap, v = .slice ao ws.length cap ∧ ws.length ≤ cap ∧ cap ≤ maxLen ∧ ws.length ≤ 100000 ∧ (∀ x ∈ ws, x.length ≤ 100000) ∧
    (ws ≠ [] → ∃ b off, ao = some ⟨b, off, none⟩ ∧ b < B ∧ ∀ i, i < ws.length → w.cell? ⟨b, off + i, none⟩ = some (strV (ws.getD i [])))
theorem WordsAt.below {B : Nat} {w w' : World} {v : Value} {ws : List (List UInt8)} (h : WordsAt B w v ws) (hb : Below B w w') : WordsAt B w' v ws := by
  obtain ⟨ao, cap, h1, h2, h3, h4, h5, h6⟩ := h
  refine ⟨ao, cap, h1, h2, h3, h4, h5, fun hne => ?_⟩
  obtain ⟨b, off, e, hb', hc⟩ := h6 hne
  exact ⟨b, off, e, hb', fun i hi => (hb.cell (p := ⟨b, off + i, none⟩) hb').trans (hc i hi)⟩
theorem WordsAt.mono {B B' : Nat} {w : World} {v : Value} {ws : List (List UInt8)} (h : WordsAt B w v ws) (hB : B ≤ B') : WordsAt B' w v ws := by
  obtain ⟨ao, cap, h1, h2, h3, h4, h5, h6⟩ := h
  refine ⟨ao, cap, h1, h2, h3, h4, h5, fun hne => ?_⟩
  obtain ⟨b, off, e, hb', hc⟩ := h6 hne
  exact ⟨b, off, e, by omega, hc⟩
theorem WordsAt.drop {B : Nat} {w : World} {b off n cap : Nat} {ws : List (List UInt8)} (h : WordsAt B w (.slice (some ⟨b, off, none⟩) n cap) ws) (k : Nat) (hk : k ≤ n) : WordsAt B w (.slice (some ⟨b, off + k, none⟩) (n - k) (cap - k)) (ws.drop k) := by
  obtain ⟨ao, cap', h1, h2, h3, h4, h5, h6⟩ := h
  simp only [Value.slice.injEq] at h1
  obtain ⟨rfl, rfl, rfl⟩ := h1
  refine ⟨_, _, by rw [List.length_drop], by rw [List.length_drop]; omega, by omega, by rw [List.length_drop]; omega, fun x hx => h5 x (List.mem_of_mem_drop hx), fun hne => ?_⟩
  have hn : ws ≠ [] := by rintro rfl; simp at hne
  obtain ⟨b', off', e, hb', hc⟩ := h6 hn
  simp only [Option.some.injEq, Addr.mk.injEq, and_true] at e
  obtain ⟨rfl, rfl⟩ := e
  refine ⟨_, _, rfl, hb', fun i hi => ?_⟩
  rw [List.length_drop] at hi
  rw [Nat.add_assoc, hc (k + i) (by omega)]; simp [List.getD_eq_getElem?_getD]
theorem WordsAt.of_own {base : Nat} {w : World} {e : TypeId} {v : Value} {n : Nat} {ws : List (List UInt8)} (h : w.ownsRow base e 1 v n (ws.map strV)) (hl : ws.length ≤ 100000) (h5 : ∀ x ∈ ws, x.length ≤ 100000) : WordsAt w.heap.size w v ws := by
  have hl : ws.length = n := by have := h.1; simpa using this
  rcases h.2 with ⟨rfl, h0⟩ | ⟨g, cap, cur, rfl, hb, hg, hnc, hcm, hcs, ht⟩
  · have : ws = [] := List.eq_nil_of_length_eq_zero (by omega)
    subst this; exact ⟨none, 0, rfl, by simp, by simp [maxLen], by simp, by simp, fun h => absurd rfl h⟩
  · refine ⟨_, cap, by rw [hl], by omega, hcm, by omega, h5, fun hne => ⟨g, 0, rfl, (Array.getElem?_eq_some_iff.1 hg).1, fun i hi => ?_⟩⟩
    have h1 := h.cells (g := g) rfl i (strV (ws.getD i [])) (by simp [List.getD_eq_getElem?_getD, hi])
    have h2 : (⟨g, 0, none⟩ : Addr).add i = ⟨g, 0 + i, none⟩ := by unfold Addr.add; split <;> simp_all
    rw [h2] at h1; exact h1
end Go.Proofs.YtbihjgfbocpobaaGreatDoor
