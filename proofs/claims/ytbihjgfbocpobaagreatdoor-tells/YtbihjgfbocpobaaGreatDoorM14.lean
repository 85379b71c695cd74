/- Texts RefT Grow RefY0 Lnf. -/
import Derived.Test.YtbihjgfbocpobaaGreatDoorM13
import Derived.Deep.Heap
import Derived.Lib.SplitLaws
/- The reference's Decode: what it opens with. -/
set_option linter.unusedSimpArgs false
set_option linter.unusedVariables false
namespace Go.Proofs.YtbihjgfbocpobaaGreatDoor
open Go.RowKit

/-- What Decode answers. -/
def DecEnds (r : (List Int × List Fl.Node) × Bool × Int) (w : World) (e : Ending) (w' : World) : Prop :=
  Below w.heap.size w w' ∧ ∃ la n lc na n' nc, e = .returned (.tuple #[.agg #[.slice la n lc, .slice na n' nc], .bool r.2.1, .int .i64 r.2.2]) ∧ (r.2.1 = true → IntsAt w'.heap.size w' (.slice la n lc) r.1.1 ∧ NodesAt w'.heap.size w' (.slice na n' nc) r.1.2)
theorem dec_bad {w w' : World} {la na : Option Addr} {n lc n' nc : Nat} {b : Int} {r : (List Int × List Fl.Node) × Bool × Int} {e : Ending} (hr : r = (([], []), false, b)) (he : e = .returned (.tuple #[.agg #[.slice la n lc, .slice na n' nc], .bool false, .int .i64 b])) (hb : Below w.heap.size w w') : DecEnds r w e w' := by
  subst hr; exact ⟨hb, la, n, lc, na, n', nc, he, fun h => by simp at h⟩

theorem head_fact (s : ByteArray) (i : Nat) (hi : i < 3) (h : ∀ j, j < i → Fl.headOk s.toList j = true) (hb : Fl.headOk s.toList i = false) : Fl.headAt s.toList = i := by
  unfold Fl.headAt
  rcases (show i = 0 ∨ i = 1 ∨ i = 2 from by omega) with rfl | rfl | rfl
  · rw [if_pos hb]
  · rw [if_neg (by rw [h 0 (by omega)]; simp), if_pos hb]
  · rw [if_neg (by rw [h 0 (by omega)]; simp), if_neg (by rw [h 1 (by omega)]; simp), if_pos hb]
theorem head_three (s : ByteArray) (h : ∀ j, j < 3 → Fl.headOk s.toList j = true) : Fl.headAt s.toList = 3 ∧ 3 ≤ s.size := by
  have h2 := h 2 (by omega)
  constructor
  · unfold Fl.headAt; rw [if_neg (by rw [h 0 (by omega)]; simp), if_neg (by rw [h 1 (by omega)]; simp), if_neg (by rw [h2]; simp)]
  · unfold Fl.headOk at h2; rw [Bool.and_eq_true, decide_eq_true_eq] at h2; have := size_toList s; omega
theorem headOk_long (s : ByteArray) (i : Nat) (h : ¬ i < s.size) : Fl.headOk s.toList i = false := by
  unfold Fl.headOk; rw [decide_eq_false (by rw [size_toList]; exact h)]; rfl
theorem headOk_at (s : ByteArray) (i : Nat) (h : i < s.size) : Fl.headOk s.toList i = (s[i] == ([70, 80, 49] : List UInt8).getD i 0) := by
  unfold Fl.headOk; rw [decide_eq_true (by rw [size_toList]; exact h), getD_toList s i h]; rfl

theorem head_ne {x c : UInt8} (h : ((x.toNat : Int) != (c.toNat : Int)) = true) : (x == c) = false := by
  rw [bne_iff_ne] at h; rw [beq_eq_false_iff_ne]; intro hh; exact h (by rw [hh])
theorem head_eq {x c : UInt8} (h : ((x.toNat : Int) != (c.toNat : Int)) = false) : (x == c) = true := by
  rw [beq_iff_eq]; apply UInt8.toNat_inj.1; have : (x.toNat : Int) = (c.toNat : Int) := by simpa using h
  omega

theorem drewN_size (w : World) (m : Nat) : (w.drewN m).heap.size = w.heap.size := by
  induction m with
  | zero => rfl
  | succ m ih => exact ih
theorem drewN_cell (w : World) (m : Nat) (a : Addr) : (w.drewN m).cell? a = w.cell? a := by
  induction m with
  | zero => rfl
  | succ m ih => exact ih
theorem drewN_frozen (w : World) (m : Nat) (a : Addr) : (w.drewN m).frozen? a = w.frozen? a := by
  induction m with
  | zero => rfl
  | succ m ih => exact ih
theorem two_same {w1 : World} {B : Nat} (v0 v1 : Value) {o0 o1 : Value} (h0 : w1.cell? ⟨B, 0, none⟩ = some o0) (h1 : w1.cell? ⟨B, 1, none⟩ = some o1) :
    (w1.setCell ⟨B, 0, none⟩ v0).cell? ⟨B, 0, none⟩ = some v0 ∧ ((w1.setCell ⟨B, 0, none⟩ v0).setCell ⟨B, 1, none⟩ v1).cell? ⟨B, 1, none⟩ = some v1 :=
  ⟨cell_self h0, cell_self (o := o1) ((cell_off (by decide)).trans h1)⟩
theorem two_below {B : Nat} {w w1 : World} {v0 v1 : Value} (h : Below B w w1) : Below B w ((w1.setCell ⟨B, 0, none⟩ v0).setCell ⟨B, 1, none⟩ v1) := (h.setCell (Nat.le_refl _) _).setCell (Nat.le_refl _) _

theorem one_cell_new2 {w : World} {o : Obj} {e : TypeId} {x : Value} : ∀ j u, [x][j]? = some u → ((w.alloc o).alloc (.cells #[x] e)).cell? ((⟨w.heap.size + 1, 0, none⟩ : Addr).add j) = some u := by
  intro j u hj
  have := one_cell_new (w := w.alloc o) (e := e) j u hj
  rwa [World.size_alloc] at this
theorem Tryz.infoNode : (Tryz.prog.info? 53).map (fun i => (i.zero, i.size, i.bytes)) = some (some (.agg #[.int .i64 0, .int .i64 0, .int .i64 0, .int .i64 0, .int .i64 0, .slice none 0 0]), 6, 64) := by kernel_rfl

set_option maxRecDepth 100000 in
set_option maxHeartbeats 16000000 in
theorem decode_walk (s : ByteArray) (w : World) (hs : s.size ≤ 4611686018427387904) :
    Calls Tryz.prog 8 #[.string s] w fun e w' => DecEnds (Fl.decode s.toList) w e w' := by
  obtain ⟨i0, hi, hz0, hzs, hzb⟩ := info_parts Tryz.infoInt
  obtain ⟨i1, hi1, hy0, hy1, hyb⟩ := info_parts Tryz.infoNode
  go_enter Tryz.func8, Tryz.ntmps8
  go_wp2
  go_loopw [7] (fun i wr => ∃ j m : Nat, j ≤ 3 ∧ i = .int .i64 j ∧ (∀ t, t < j → Fl.headOk s.toList t = true) ∧ wr = ((w.alloc (.cells #[.slice none 0 0, .slice none 0 0] 32)).alloc (.cells #[.slice none 0 0, .slice none 0 0] 32)).drewN m) (fun i _ => 3 - (intOf i).toNat)
  case atStart => exact ⟨0, 0, by omega, rfl, fun t ht => by omega, rfl⟩
  case round =>
    obtain ⟨j, m, hj, rfl, hall, rfl⟩ := hrel
    have HA : Hid (∀ t, t < j → Fl.headOk s.toList t = true) := hall
    clear hall
    by_cases hj3 : j < 3
    · by_cases hjs : j < s.size
      · have hg1 : decide ((s.size : Int) ≤ (j : Int)) = false := by simp; omega
        have hjI : (j : Int) < (s.size : Int) := by omega
        rcases (show j = 0 ∨ j = 1 ∨ j = 2 from by omega) with rfl | rfl | rfl
        · have hg2 : decide ((s.size : Int) ≤ 0) = false := decide_eq_false (by omega)
          have hg3 : decide (s.size = 0) = false := decide_eq_false (by omega)
          have hg5 : decide (s.size ≤ 0) = false := decide_eq_false (by omega)
          have hg4 : ¬ s.size = 0 := by omega
          have hg6 : 0 < s.size := by omega
          have hj2 : (0 : Int) < (s.size : Int) := by omega
          have hok := headOk_at s 0 hjs
          have HOK : Hid (Fl.headOk s.toList 0 = (s[0] == ([70, 80, 49] : List UInt8).getD 0 0)) := hok
          clear hok hg1 hjI
          go_wp2_with fail
          go_quiet (fail)
          go_wp2
          · have hne : ((s[0].toNat : Int) != (((⟨#[70, 80, 49]⟩ : ByteArray)[0]'(by decide)).toNat : Int)) = true := by assumption
            have hhd : Fl.decode s.toList = (([], []), false, ((0 : Nat) : Int)) := by
              have := head_fact s 0 hj3 HA.out (HOK.out.trans (head_ne hne))
              unfold Fl.decode; rw [if_pos (by omega), this]
            exact bodyPost_ret (v := .tuple #[.agg #[.slice none 0 0, .slice none 0 0], .bool false, .int .i64 ((0 : Nat) : Int)]) (by simp [results, Tryz.results8, go_sem]) rfl (dec_bad hhd rfl (by repeat (first | exact ((Below.refl _ _).alloc (Nat.le_refl _) _).alloc (by simp) _ | apply Below.drewN_of | (refine Below.setCell ?_ (by simp) _))))
          · have hne : ((s[0].toNat : Int) != (((⟨#[70, 80, 49]⟩ : ByteArray)[0]'(by decide)).toNat : Int)) = false := by assumption
            go_roundw
            case rel => exact ⟨1, _, by omega, rfl, fun t ht => by
              by_cases h : t < 0
              · exact HA.out t h
              · have : t = 0 := by omega
                subst this; exact HOK.out.trans (head_eq hne), rfl⟩
            case measure => simp [intOf]
        · have hg2 : decide ((s.size : Int) ≤ 1) = false := decide_eq_false (by omega)
          have hj2 : (1 : Int) < (s.size : Int) := by omega
          have hok := headOk_at s 1 hjs
          have HOK : Hid (Fl.headOk s.toList 1 = (s[1] == ([70, 80, 49] : List UInt8).getD 1 0)) := hok
          clear hok hg1 hjI
          go_wp2_with fail
          go_quiet (fail)
          go_wp2
          · have hne : ((s[1].toNat : Int) != (((⟨#[70, 80, 49]⟩ : ByteArray)[1]'(by decide)).toNat : Int)) = true := by assumption
            have hhd : Fl.decode s.toList = (([], []), false, ((1 : Nat) : Int)) := by
              have := head_fact s 1 hj3 HA.out (HOK.out.trans (head_ne hne))
              unfold Fl.decode; rw [if_pos (by omega), this]
            exact bodyPost_ret (v := .tuple #[.agg #[.slice none 0 0, .slice none 0 0], .bool false, .int .i64 ((1 : Nat) : Int)]) (by simp [results, Tryz.results8, go_sem]) rfl (dec_bad hhd rfl (by repeat (first | exact ((Below.refl _ _).alloc (Nat.le_refl _) _).alloc (by simp) _ | apply Below.drewN_of | (refine Below.setCell ?_ (by simp) _))))
          · have hne : ((s[1].toNat : Int) != (((⟨#[70, 80, 49]⟩ : ByteArray)[1]'(by decide)).toNat : Int)) = false := by assumption
            go_roundw
            case rel => exact ⟨2, _, by omega, rfl, fun t ht => by
              by_cases h : t < 1
              · exact HA.out t h
              · have : t = 1 := by omega
                subst this; exact HOK.out.trans (head_eq hne), rfl⟩
            case measure => simp [intOf]
        · have hg2 : decide ((s.size : Int) ≤ 2) = false := decide_eq_false (by omega)
          have hj2 : (2 : Int) < (s.size : Int) := by omega
          have hok := headOk_at s 2 hjs
          have HOK : Hid (Fl.headOk s.toList 2 = (s[2] == ([70, 80, 49] : List UInt8).getD 2 0)) := hok
          clear hok hg1 hjI
          go_wp2_with fail
          go_quiet (fail)
          go_wp2
          · have hne : ((s[2].toNat : Int) != (((⟨#[70, 80, 49]⟩ : ByteArray)[2]'(by decide)).toNat : Int)) = true := by assumption
            have hhd : Fl.decode s.toList = (([], []), false, ((2 : Nat) : Int)) := by
              have := head_fact s 2 hj3 HA.out (HOK.out.trans (head_ne hne))
              unfold Fl.decode; rw [if_pos (by omega), this]
            exact bodyPost_ret (v := .tuple #[.agg #[.slice none 0 0, .slice none 0 0], .bool false, .int .i64 ((2 : Nat) : Int)]) (by simp [results, Tryz.results8, go_sem]) rfl (dec_bad hhd rfl (by repeat (first | exact ((Below.refl _ _).alloc (Nat.le_refl _) _).alloc (by simp) _ | apply Below.drewN_of | (refine Below.setCell ?_ (by simp) _))))
          · have hne : ((s[2].toNat : Int) != (((⟨#[70, 80, 49]⟩ : ByteArray)[2]'(by decide)).toNat : Int)) = false := by assumption
            go_roundw
            case rel => exact ⟨3, _, by omega, rfl, fun t ht => by
              by_cases h : t < 2
              · exact HA.out t h
              · have : t = 2 := by omega
                subst this; exact HOK.out.trans (head_eq hne), rfl⟩
            case measure => simp [intOf]
      · have hg1 : decide ((s.size : Int) ≤ (j : Int)) = true := by simp; omega
        have hhd : Fl.decode s.toList = (([], []), false, (j : Int)) := by
          have := head_fact s j hj3 HA.out (headOk_long s j hjs)
          unfold Fl.decode; rw [if_pos (by omega), this]
        have HD : Hid (Fl.decode s.toList = (([], []), false, (j : Int))) := hhd
        clear hhd
        go_wp2_with fail
        go_quiet (fail)
        go_wp2
        exact bodyPost_ret (v := .tuple #[.agg #[.slice none 0 0, .slice none 0 0], .bool false, .int .i64 j]) (by simp [results, Tryz.results8, go_sem]) rfl (dec_bad HD.out rfl (by repeat (first | exact ((Below.refl _ _).alloc (Nat.le_refl _) _).alloc (by simp) _ | apply Below.drewN_of | (refine Below.setCell ?_ (by simp) _))))
    · obtain ⟨hh3, hs3⟩ := head_three s (fun t ht => HA.out t (by omega))
      have hlen := size_toList s
      obtain ⟨n, t3, b, hv⟩ : ∃ v m b, Fl.num s.toList 3 = (v, m, b) := ⟨_, _, _, rfl⟩
      have hok := Fl.num_ok s.toList 3 (by omega)
      rw [hv, hlen] at hok
      simp only at hok
      have HOK : Hid ((t3 = -1 ∧ n = 0 ∧ 0 ≤ b ∧ b ≤ (s.size : Int)) ∨ ((3 : Nat) : Int) < t3 ∧ t3 ≤ (s.size : Int) ∧ 0 ≤ n ∧ n < 2147483648 ∧ b = 0) := hok
      have H1 : Hid (∀ w, Calls Tryz.prog 15 #[.string s, .int .i64 3] w fun e w' => e = .returned (.tuple #[.int .i64 n, .int .i64 t3, .int .i64 b]) ∧ w' = w) := fun w => num_i s 3 w hs (by omega) (by omega) n t3 b (by simpa using hv)
      have HV : Hid (Fl.num s.toList 3 = (n, t3, b)) := hv
      have HH3 : Hid (Fl.headAt s.toList = 3) := hh3
      have HLEN : Hid (s.toList.length = s.size) := hlen
      clear hv hok hh3 hlen HA
      by_cases h1 : t3 < 0
      · have HD : Hid (Fl.decode s.toList = (([], []), false, b)) := by unfold Fl.decode; rw [if_neg (by have := HH3.out; omega)]; simp only [HV.out]; rw [if_pos h1]; rfl
        go_wp2_with (go_at_call 15; refine (H1.out _).mono ?_; rintro e w' ⟨rfl, rfl⟩)
        exact bodyPost_ret (v := .tuple #[.agg #[.slice none 0 0, .slice none 0 0], .bool false, .int .i64 b]) (by simp [results, Tryz.results8, go_sem]) rfl (dec_bad HD.out rfl (by repeat (first | exact ((Below.refl _ _).alloc (Nat.le_refl _) _).alloc (by simp) _ | apply Below.drewN_of | (refine Below.setCell ?_ (by simp) _))))
      have ht3 : ((3 : Nat) : Int) < t3 ∧ t3 ≤ (s.size : Int) ∧ 0 ≤ n := by have := HOK.out; omega
      obtain ⟨ht3a, ht3b, hn0⟩ := ht3
      by_cases h2 : 4 < n
      · have HD : Hid (Fl.decode s.toList = (([], []), false, 3)) := by unfold Fl.decode; rw [if_neg (by have := HH3.out; omega)]; simp only [HV.out]; rw [if_neg h1, if_pos h2]; rfl
        go_wp2_with (go_at_call 15; refine (H1.out _).mono ?_; rintro e w' ⟨rfl, rfl⟩)
        exact bodyPost_ret (v := .tuple #[.agg #[.slice none 0 0, .slice none 0 0], .bool false, .int .i64 3]) (by simp [results, Tryz.results8, go_sem]) rfl (dec_bad HD.out rfl (by repeat (first | exact ((Below.refl _ _).alloc (Nat.le_refl _) _).alloc (by simp) _ | apply Below.drewN_of | (refine Below.setCell ?_ (by simp) _))))
      obtain ⟨l, t4, b4, hv4⟩ : ∃ l m b, Fl.nums s.toList t3.toNat n.toNat = (l, m, b) := ⟨_, _, _, rfl⟩
      have hok4 := Fl.nums_ok s.toList t3.toNat n.toNat (by have := HLEN.out; omega)
      rw [hv4, HLEN.out] at hok4
      simp only at hok4
      have HOK4 : Hid ((t4 = -1 ∧ l = [] ∧ 0 ≤ b4 ∧ b4 ≤ (s.size : Int)) ∨ (t3.toNat : Int) ≤ t4 ∧ t4 ≤ (s.size : Int) ∧ l.length = n.toNat ∧ (∀ x ∈ l, 0 ≤ x ∧ x < 2147483648)) := hok4
      have H2 : Hid (∀ w, Calls Tryz.prog 16 #[.string s, .int .i64 t3, .int .i64 n] w fun e w' => ∃ v, e = .returned (.tuple #[v, .int .i64 t4, .int .i64 b4]) ∧ w'.ownsRow w.heap.size 3 1 v l.length (l.map (Value.int .i64)) ∧ Below w.heap.size w w') := fun w => nums_i s t3 n w hs (by omega) ht3b hn0 (by omega) l t4 b4 hv4
      have HV4 : Hid (Fl.nums s.toList t3.toNat n.toNat = (l, t4, b4)) := hv4
      clear hv4 hok4
      go_wp2_with (go_at_call 15; refine (H1.out _).mono ?_; rintro e w' ⟨rfl, rfl⟩)
      refine (H2.out _).mono ?_; rintro e w1 ⟨lv, rfl, hown, hb1⟩
      have hzz : (((w.alloc (.cells #[.slice none 0 0, .slice none 0 0] 32)).alloc (.cells #[.slice none 0 0, .slice none 0 0] 32)).drewN m).heap.size = w.heap.size + 2 := by rw [drewN_size]; simp
      rw [hzz] at hown hb1
      have hz1 : w.heap.size + 1 < w1.heap.size := by have := hb1.size; rw [hzz] at this; omega
      have hcB : ∀ b o, b < w.heap.size + 2 → w1.cell? ⟨b, o, none⟩ = ((w.alloc (.cells #[.slice none 0 0, .slice none 0 0] 32)).alloc (.cells #[.slice none 0 0, .slice none 0 0] 32)).cell? ⟨b, o, none⟩ := fun b o h => (hb1.cell (p := ⟨b, o, none⟩) h).trans (drewN_cell _ _ _)
      have hfB : ∀ b o, b < w.heap.size + 2 → w1.frozen? ⟨b, o, none⟩ = ((w.alloc (.cells #[.slice none 0 0, .slice none 0 0] 32)).alloc (.cells #[.slice none 0 0, .slice none 0 0] 32)).frozen? ⟨b, o, none⟩ := fun b o h => (hb1.frozen (p := ⟨b, o, none⟩) h).trans (drewN_frozen _ _ _)
      have hbw1 : Below w.heap.size w w1 := (Below.drewN_of (((Below.refl _ _).alloc (Nat.le_refl _) _).alloc (by simp) _) m).trans (hb1.mono (by omega))
      have c0 : w1.cell? ⟨w.heap.size + 1, 0, none⟩ = some (.slice none 0 0) := by rw [hcB _ _ (by omega)]; simp
      have c1 : w1.cell? ⟨w.heap.size + 1, 1, none⟩ = some (.slice none 0 0) := by rw [hcB _ _ (by omega)]; simp
      have d0 : w1.cell? ⟨w.heap.size, 0, none⟩ = some (.slice none 0 0) := by rw [hcB _ _ (by omega)]; simp
      have d1 : w1.cell? ⟨w.heap.size, 1, none⟩ = some (.slice none 0 0) := by rw [hcB _ _ (by omega)]; simp
      have f0 : ∀ j, w1.frozen? ⟨w.heap.size, j, none⟩ = false := fun j => by rw [hfB _ _ (by omega)]; simp
      have f1 : ∀ j, w1.frozen? ⟨w.heap.size + 1, j, none⟩ = false := fun j => by rw [hfB _ _ (by omega)]; simp
      clear hcB hfB hb1 hzz H1 H2
      by_cases h4 : t4 < 0
      · have HD : Hid (Fl.decode s.toList = (([], []), false, b4)) := by unfold Fl.decode; rw [if_neg (by have := HH3.out; omega)]; simp only [HV.out]; rw [if_neg (by omega), if_neg (by omega)]; simp only [HV4.out]; rw [if_pos h4]; rfl
        obtain ⟨q0, q1⟩ := two_same (w1 := w1) (B := w.heap.size) (.slice none 0 0) (.slice none 0 0) d0 d1
        go_wp2
        exact bodyPost_ret (v := .tuple #[.agg #[.slice none 0 0, .slice none 0 0], .bool false, .int .i64 b4]) (by simp [results, Tryz.results8, go_sem, q0, q1]) rfl (dec_bad HD.out rfl (two_below hbw1))
      have ht4 : t3 ≤ t4 ∧ t4 ≤ (s.size : Int) ∧ l.length ≤ 4 := by have := HOK4.out; omega
      obtain ⟨ht4a, ht4b, hl4⟩ := ht4
      obtain ⟨M, t5, b5, hv5⟩ : ∃ v m b, Fl.num s.toList t4.toNat = (v, m, b) := ⟨_, _, _, rfl⟩
      have hok5 := Fl.num_ok s.toList t4.toNat (by have := HLEN.out; omega)
      rw [hv5, HLEN.out] at hok5
      simp only at hok5
      have HOK5 : Hid ((t5 = -1 ∧ M = 0 ∧ 0 ≤ b5 ∧ b5 ≤ (s.size : Int)) ∨ (t4.toNat : Int) < t5 ∧ t5 ≤ (s.size : Int) ∧ 0 ≤ M ∧ M < 2147483648 ∧ b5 = 0) := hok5
      have H3 : Hid (∀ w, Calls Tryz.prog 15 #[.string s, .int .i64 t4] w fun e w' => e = .returned (.tuple #[.int .i64 M, .int .i64 t5, .int .i64 b5]) ∧ w' = w) := fun w => num_i s t4 w hs (by omega) ht4b M t5 b5 hv5
      have HV5 : Hid (Fl.num s.toList t4.toNat = (M, t5, b5)) := hv5
      clear hv5 hok5
      obtain ⟨lao, lcap, rfl⟩ := own_shape hown
      have hF : Fam w (w1.setCell ⟨w.heap.size + 1, 0, none⟩ (.slice lao l.length lcap)) (.slice lao l.length lcap) (.slice none 0 0) [(.slice lao l.length lcap, l)] (.slice none 0 0) (.slice none 0 0) 0 0 [] [] := by
        have hs1 : (w1.setCell ⟨w.heap.size + 1, 0, none⟩ (.slice lao l.length lcap)).heap.size = w1.heap.size := by simp [World.setCell]
        refine ⟨World.ownsRow_nil _ _ _ _, World.ownsRow_nil _ _ _ _, fun p hp => ?_, cell_self c0, (cell_off (by decide)).trans c1, ?_, ?_, fun j => by rw [World.frozen?_setCell]; exact f0 j, fun j => by rw [World.frozen?_setCell]; exact f1 j, hbw1.setCell (by simp) _, by omega⟩
        · simp only [List.mem_singleton] at hp; subst hp
          have hlo : ∀ b, (Value.slice lao l.length lcap).ownBlock = some b → w.heap.size + 2 ≤ b := fun b hb => (hown.lt b hb).1
          refine ⟨⟨ints_set (IntsAt.of_own hown) (fun _ hh => by have h9 : w.heap.size + 2 ≤ w.heap.size + 1 := hlo _ hh; omega), fun hx => ?_⟩, fun _ => hlo⟩
          obtain ⟨b, hb, _⟩ := ints_lt (IntsAt.of_own hown) hx
          rw [hb]; simp [Value.ownBlock]
        · have h9 : (w1.setCell ⟨w.heap.size + 1, 0, none⟩ (.slice lao l.length lcap)).cell? ⟨w.heap.size, 0, none⟩ = w1.cell? ⟨w.heap.size, 0, none⟩ := by apply World.cell?_setCell_other; intro hh; injection hh with h2; omega
          rw [h9]; exact d0
        · have h9 : (w1.setCell ⟨w.heap.size + 1, 0, none⟩ (.slice lao l.length lcap)).cell? ⟨w.heap.size, 1, none⟩ = w1.cell? ⟨w.heap.size, 1, none⟩ := by apply World.cell?_setCell_other; intro hh; injection hh with h2; omega
          rw [h9]; exact d1
      have HF : Hid (Fam w (w1.setCell ⟨w.heap.size + 1, 0, none⟩ (.slice lao l.length lcap)) (.slice lao l.length lcap) (.slice none 0 0) [(.slice lao l.length lcap, l)] (.slice none 0 0) (.slice none 0 0) 0 0 [] []) := hF
      have e0 := hF.c0
      have e1 := hF.c1
      have g0 := hF.f0
      obtain ⟨q0, q1⟩ := two_same (w1 := (w1.setCell ⟨w.heap.size + 1, 0, none⟩ (.slice lao l.length lcap))) (B := w.heap.size) (.slice lao l.length lcap) (.slice none 0 0) hF.d0 hF.d1
      have HBW : Hid (Below w.heap.size w (w1.setCell ⟨w.heap.size + 1, 0, none⟩ (.slice lao l.length lcap))) := hF.hb
      clear hF hown hbw1
      by_cases h5 : t5 < 0
      · have HD : Hid (Fl.decode s.toList = (([], []), false, b5)) := by unfold Fl.decode; rw [if_neg (by have := HH3.out; omega)]; simp only [HV.out]; rw [if_neg (by omega), if_neg (by omega)]; simp only [HV4.out]; rw [if_neg (by omega)]; simp only [HV5.out]; rw [if_pos h5]; rfl
        go_wp2_with (go_at_call 15; refine (H3.out _).mono ?_; rintro e w' ⟨rfl, rfl⟩)
        exact bodyPost_ret (v := .tuple #[.agg #[.slice lao l.length lcap, .slice none 0 0], .bool false, .int .i64 b5]) (by simp [results, Tryz.results8, go_sem, q0, q1]) rfl (dec_bad HD.out rfl (two_below HBW.out))
      have ht5 : t4 < t5 ∧ t5 ≤ (s.size : Int) ∧ 0 ≤ M := by have := HOK5.out; omega
      obtain ⟨ht5a, ht5b, hM0⟩ := ht5
      by_cases h6 : M < 1 ∨ 200 < M
      · have HD : Hid (Fl.decode s.toList = (([], []), false, t4)) := by unfold Fl.decode; rw [if_neg (by have := HH3.out; omega)]; simp only [HV.out]; rw [if_neg (by omega), if_neg (by omega)]; simp only [HV4.out]; rw [if_neg (by omega)]; simp only [HV5.out]; rw [if_neg (by omega), if_pos h6]; rfl
        by_cases h7 : M < 1
        · clear h6
          go_wp2_with (go_at_call 15; refine (H3.out _).mono ?_; rintro e w' ⟨rfl, rfl⟩)
          exact bodyPost_ret (v := .tuple #[.agg #[.slice lao l.length lcap, .slice none 0 0], .bool false, .int .i64 t4]) (by simp [results, Tryz.results8, go_sem, q0, q1]) rfl (dec_bad HD.out rfl (two_below HBW.out))
        · have h8 : 200 < M := by omega
          clear h6
          go_wp2_with (go_at_call 15; refine (H3.out _).mono ?_; rintro e w' ⟨rfl, rfl⟩)
          exact bodyPost_ret (v := .tuple #[.agg #[.slice lao l.length lcap, .slice none 0 0], .bool false, .int .i64 t4]) (by simp [results, Tryz.results8, go_sem, q0, q1]) rfl (dec_bad HD.out rfl (two_below HBW.out))
      have h7 : ¬ M < 1 := by omega
      have h8 : ¬ 200 < M := by omega
      obtain ⟨Mn, rfl⟩ := Int.eq_ofNat_of_zero_le hM0
      obtain ⟨p0, rfl⟩ := Int.eq_ofNat_of_zero_le (show 0 ≤ t5 from by omega)
      have HDX : Hid (Fl.decode s.toList = (if 0 ≤ (Fl.nodesA s.toList Mn 0 p0 [] []).2.2.2 then (([], []), false, (Fl.nodesA s.toList Mn 0 p0 [] []).2.2.2) else
          if (Fl.nodesA s.toList Mn 0 p0 [] []).2.2.1 < s.size then (([], []), false, (Fl.nodesA s.toList Mn 0 p0 [] []).2.2.1) else
          if 0 ≤ Fl.shaped (Fl.nodesA s.toList Mn 0 p0 [] []).1 then (([], []), false, (Fl.nodesA s.toList Mn 0 p0 [] []).2.1.getD (Fl.shaped (Fl.nodesA s.toList Mn 0 p0 [] []).1).toNat 0) else ((l, (Fl.nodesA s.toList Mn 0 p0 [] []).1), true, 0))) := by
        unfold Fl.decode; rw [if_neg (by have := HH3.out; omega)]; simp only [HV.out]; rw [if_neg (by omega), if_neg (by omega)]; simp only [HV4.out]; rw [if_neg (by omega)]; simp only [HV5.out]; rw [if_neg (by omega), if_neg (by omega)]
        rw [HLEN.out]; rfl
      clear h6 HOK HOK4 HOK5
      go_wp2_with (go_at_call 15; refine (H3.out _).mono ?_; rintro e w' ⟨rfl, rfl⟩)
      go_loopw [12, 13, 14] (fun nx sv kk wr => ∃ (k q : Nat) (nv : Value) (st : List Int) (acc : List Fl.Node) (lvs : List Value), DecRel s.toList Mn p0 w (.slice lao l.length lcap) l wr k q sv nv st acc lvs ∧ nx = .int .i64 q ∧ kk = .int .i64 k) (fun _ _ kk _ => Mn - (intOf kk).toNat)
      case atStart => exact ⟨0, p0, .slice none 0 0, [], [], [], ⟨by omega, by have := HLEN.out; omega, rfl, rfl, rfl, by simp, HF.out⟩, rfl, rfl⟩
      case round =>
        clear e0 e1 g0 q0 q1 c0 c1 d0 d1 f0 f1 HF HBW
        obtain ⟨k, q, nv, st, acc, lvs, hR, rfl, rfl⟩ := hrel
        have HR : Hid (DecRel s.toList Mn p0 w (.slice lao l.length lcap) l wr k q u13 nv st acc lvs) := hR
        have hkn := hR.hk
        have hqs : q ≤ s.size := by have := hR.hq; have := HLEN.out; omega
        have hrz := hR.hf.hz
        obtain ⟨nao, ncap, rfl⟩ := own_shape6 hR.hf.hn
        obtain ⟨sao, scap, rfl⟩ := own_shape6 hR.hf.hs
        clear hR
        by_cases hkM : k < Mn
        · obtain ⟨nd, af, fb, ho⟩ : ∃ n a b, Fl.one s.toList q k = (n, a, b) := ⟨_, _, _, rfl⟩
          have HO : Hid (Calls Tryz.prog 17 #[.string s, .int .i64 q, .int .i64 k] wr fun e w' => OneEnds (nd, af, fb) wr e w') := by have := one_any s q k wr hs hqs; rw [ho] at this; exact this
          have hok1 := Fl.one_ok s.toList q k HR.out.hq
          rw [ho, HLEN.out] at hok1
          simp only at hok1
          have HO1 : Hid (Fl.one s.toList q k = (nd, af, fb)) := ho
          have HOK1 : Hid ((af = -1 ∧ 0 ≤ fb ∧ fb ≤ (s.size : Int)) ∨ (q : Int) < af ∧ af ≤ (s.size : Int)) := hok1
          have hkI : (k : Int) < (Mn : Int) := by omega
          clear ho hok1
          go_wp2_with fail
          refine (HO.out).mono ?_; rintro e w2 ⟨hb2, xv, rfl, ⟨nd', xao, xn, xcap, hxv⟩, hgood⟩
          have hz2 : w.heap.size + 1 < w2.heap.size := by have := hb2.size; omega
          have hz2' : w.heap.size < w2.heap.size := by omega
          simp only at hgood ⊢
          by_cases haf : af < 0
          · have HD : Hid (Fl.decode s.toList = (([], []), false, fb)) := by
              have hrr : Fl.nodesA s.toList Mn 0 p0 [] [] = (acc, st, (q : Int), fb) := by
                rw [HR.out.hrun, show Mn - k = (Mn - (k + 1)) + 1 from by omega]; simp only [Fl.nodesA, HO1.out]; rw [if_pos haf]
              rw [HDX.out, hrr]; simp only; rw [if_pos (by have := HOK1.out; omega)]; rfl
            rw [hxv]
            unfold nodeV
            have F2 := HR.out.hf.below hb2
            have e0 := F2.c0
            have e1 := F2.c1
            have g0 := F2.f0
            have d0 := F2.d0
            have d1 := F2.d1
            obtain ⟨q0, q1⟩ := two_same (w1 := w2) (B := w.heap.size) (.slice lao l.length lcap) (.slice nao k ncap) F2.d0 F2.d1
            have HB2 : Hid (Below w.heap.size w w2) := F2.hb
            have r0 : ∀ o, (((w2.setCell ⟨w.heap.size, 0, none⟩ (.slice lao l.length lcap)).setCell ⟨w.heap.size, 1, none⟩ (.slice nao k ncap)).alloc o).cell? ⟨w.heap.size, 0, none⟩ = some (.slice lao l.length lcap) := fun o => by rw [World.cell?_alloc_lt _ _ _ (by simp [World.setCell]; omega), cell_off (by decide)]; exact q0
            have r1 : ∀ o, (((w2.setCell ⟨w.heap.size, 0, none⟩ (.slice lao l.length lcap)).setCell ⟨w.heap.size, 1, none⟩ (.slice nao k ncap)).alloc o).cell? ⟨w.heap.size, 1, none⟩ = some (.slice nao k ncap) := fun o => by rw [World.cell?_alloc_lt _ _ _ (by simp [World.setCell]; omega)]; exact q1
            clear F2 hb2 hgood hxv
            go_wp2
            exact bodyPost_ret (v := .tuple #[.agg #[(.slice lao l.length lcap), .slice nao k ncap], .bool false, .int .i64 fb]) (by simp [results, Tryz.results8, go_sem, q0, q1, r0, r1]) rfl (dec_bad HD.out rfl (by repeat (first | exact two_below HB2.out | refine Below.alloc ?_ (by simp [World.setCell]; omega) _)))
          · obtain ⟨lvn, hxe, hli, hlf⟩ := hgood (by omega)
            have hli2 := hli
            obtain ⟨vao, vcap, hvn, _⟩ := hli2
            subst hvn
            rw [hxe]
            unfold nodeV
            clear hxv hxe hgood
            have F2 := (HR.out.hf.below hb2).add (N := wr.heap.size) hli hlf (fun b hb => (HR.out.hf.hs.lt b hb).2) (fun b hb => (HR.out.hf.hn.lt b hb).2) (by omega)
            have HF2 : Hid _ := F2
            have hs2 := hb2.size
            have hst := HR.out.hst
            have HSNE : Hid (some w2.heap.size ≠ (Value.slice sao k scap).ownBlock) := fun hh => by have := (HR.out.hf.hs.lt _ hh.symm).2; omega
            clear F2
            go_wp2_with (at_builtin; refine wpList_append_at _ rfl (.tmp 103) (.tmp 105) 29 rfl (w.heap.size + 2) 3 i0 (.int .i64 0) 1 8 Tryz.underlying29 hi hz0 hzs hzb rfl (by decide) _ _ _ rfl ((HF2.out.alloc _).alloc _).hs ⟨_, 0, none⟩ 1 1 [.int .i64 q] rfl rfl (by decide) one_cell_new2 ?c2 ?c3 ?c4 ?c5 ?_)
            case c2 => first | rfl | (intro u hu; simp at hu; subst hu; rfl)
            case c3 => unfold maxLen; omega
            case c4 => omega
            case c5 => first | omega | (simp; omega)
            intro sv' w3 hown3 hg3 hw3
            have F3 := ((HF2.out.alloc _).alloc _).first hown3 hg3 (by simp only [World.size_alloc]; exact hw3)
            have x0 : w3.cell? ⟨w2.heap.size, 0, none⟩ = some (.int .i64 nd.kind) := hg3.cell (by rw [World.cell?_alloc_lt _ _ _ (by simp), World.cell?_alloc_new]; rfl) HSNE.out
            have x1 : w3.cell? ⟨w2.heap.size, 1, none⟩ = some (.int .i64 nd.level) := hg3.cell (by rw [World.cell?_alloc_lt _ _ _ (by simp), World.cell?_alloc_new]; rfl) HSNE.out
            have x2 : w3.cell? ⟨w2.heap.size, 2, none⟩ = some (.int .i64 nd.a) := hg3.cell (by rw [World.cell?_alloc_lt _ _ _ (by simp), World.cell?_alloc_new]; rfl) HSNE.out
            have x3 : w3.cell? ⟨w2.heap.size, 3, none⟩ = some (.int .i64 nd.b) := hg3.cell (by rw [World.cell?_alloc_lt _ _ _ (by simp), World.cell?_alloc_new]; rfl) HSNE.out
            have x4 : w3.cell? ⟨w2.heap.size, 4, none⟩ = some (.int .i64 nd.c) := hg3.cell (by rw [World.cell?_alloc_lt _ _ _ (by simp), World.cell?_alloc_new]; rfl) HSNE.out
            have x5 : w3.cell? ⟨w2.heap.size, 5, none⟩ = some (.slice vao nd.list.length vcap) := hg3.cell (by rw [World.cell?_alloc_lt _ _ _ (by simp), World.cell?_alloc_new]; rfl) HSNE.out
            have hz3 : w2.heap.size + 1 < w3.heap.size := by have := hg3.size; simp at this; omega
            have hz3' : w2.heap.size < w3.heap.size := by omega
            have hz3b : w.heap.size + 1 < w3.heap.size := by omega
            have e1 := F3.c1
            obtain ⟨sao', scap', rfl⟩ := own_shape6 F3.hs
            have HF3 : Hid _ := F3
            clear F3 hown3 hg3 hw3 HSNE
            go_wp2_with (at_builtin; refine wpList_append_at _ rfl (.tmp 108) (.tmp 110) 30 rfl (w.heap.size + 2) 53 i1 (.agg #[.int .i64 0, .int .i64 0, .int .i64 0, .int .i64 0, .int .i64 0, .slice none 0 0]) 6 64 Tryz.underlying30 hi1 hy0 hy1 hyb rfl (by decide) _ _ _ rfl (HF3.out.alloc _).hn ⟨_, 0, none⟩ 1 1 (nodeCells nd (.slice vao nd.list.length vcap)) rfl rfl (by decide) (row_new (nodeCells nd (.slice vao nd.list.length vcap))) ?n2 ?n3 ?n4 ?n5 ?_)
            case n2 => intro u hu; simp [nodeCells] at hu; rcases hu with rfl | rfl | rfl | rfl | rfl | rfl <;> rfl
            case n3 => unfold maxLen; omega
            case n4 => omega
            case n5 => first | omega | (simp; omega)
            intro nv' w4 hown4 hg4 hw4
            have F4 := (HF3.out.alloc _).second hown4 hg4 (by simp only [World.size_alloc]; exact hw4)
            obtain ⟨nao', ncap', rfl⟩ := own_shape6 F4.hn
            have e2 := F4.c1
            have g2 := F4.f1
            have HF4 : Hid _ := F4
            clear F4 hown4 hg4 hw4 x0 x1 x2 x3 x4 x5 e1
            have hafq : (q : Int) < af ∧ af ≤ (s.size : Int) := by have := HOK1.out; omega
            obtain ⟨hafa, hafb⟩ := hafq
            go_wp2
            go_roundw
            case rel => exact ⟨k + 1, af.toNat, _, _, _, _, HR.out.step hkM HO1.out (by omega) (by rw [HLEN.out]; exact hafb) (HF4.out.store _), by rw [Int.toNat_of_nonneg (by omega)], by go_num⟩
            case measure => simp [intOf]; omega
        · have hrr : Fl.nodesA s.toList Mn 0 p0 [] [] = (acc, st, (q : Int), -1) := by
            rw [HR.out.hrun, show Mn - k = 0 from by omega]; rfl
          have hdd := HDX.out
          rw [hrr] at hdd
          simp only at hdd
          rw [if_neg (by omega)] at hdd
          have HDD : Hid (Fl.decode s.toList = if (q : Int) < (s.size : Int) then (([], []), false, (q : Int)) else if 0 ≤ Fl.shaped acc then (([], []), false, st.getD (Fl.shaped acc).toNat 0) else ((l, acc), true, 0)) := hdd
          have e0 := HR.out.hf.c0
          have e1 := HR.out.hf.c1
          have g0 := HR.out.hf.f0
          have d0 := HR.out.hf.d0
          have d1 := HR.out.hf.d1
          have hkI : ¬ (k : Int) < (Mn : Int) := by omega
          clear hrr hdd HDX
          by_cases hqe : q < s.size
          · have HD : Hid (Fl.decode s.toList = (([], []), false, (q : Int))) := by rw [HDD.out, if_pos (by omega)]; rfl
            obtain ⟨q0, q1⟩ := two_same (w1 := wr) (B := w.heap.size) (.slice lao l.length lcap) (.slice nao k ncap) d0 d1
            have HB2 : Hid (Below w.heap.size w wr) := HR.out.hf.hb
            have hqI : (q : Int) < (s.size : Int) := by omega
            go_wp2
            exact bodyPost_ret (v := .tuple #[.agg #[(.slice lao l.length lcap), .slice nao k ncap], .bool false, .int .i64 q]) (by simp [results, Tryz.results8, go_sem, q0, q1]) rfl (dec_bad HD.out rfl (two_below HB2.out))
          · have hqI : ¬ (q : Int) < (s.size : Int) := by omega
            have HSH : Hid (Calls Tryz.prog 18 #[.slice nao k ncap] wr fun e w' => e = .returned (.int .i64 (Fl.shaped acc)) ∧ Below wr.heap.size wr w') := shaped_walk acc _ _ _ (Nat.le_refl _) HR.out.nodes
            obtain ⟨sh, hsh⟩ : ∃ sh, Fl.shaped acc = sh := ⟨_, rfl⟩
            rw [hsh] at HSH
            have hshb := Fl.shaped_lt acc
            rw [hsh, HR.out.hacc] at hshb
            have HD1 : Hid (Fl.decode s.toList = if 0 ≤ sh then (([], []), false, st.getD sh.toNat 0) else ((l, acc), true, 0)) := by rw [HDD.out, if_neg hqI, hsh]; rfl
            clear hsh HDD
            go_wp2_with fail
            refine (HSH.out).mono ?_; rintro e w5 ⟨rfl, hb5⟩
            have F5 := HR.out.hf.below hb5
            have e0' := F5.c0
            have e1' := F5.c1
            have g0' := F5.f0
            have d0' := F5.d0
            have d1' := F5.d1
            obtain ⟨q0, q1⟩ := two_same (w1 := w5) (B := w.heap.size) (.slice lao l.length lcap) (.slice nao k ncap) F5.d0 F5.d1
            have HB5 : Hid (Below w.heap.size w w5) := F5.hb
            have HS5 := F5.hs
            have HBB : Hid (Below wr.heap.size wr w5) := hb5
            clear F5 hb5 HSH e0 e1 g0 d0 d1
            by_cases hs0 : 0 ≤ sh
            · obtain ⟨sn, rfl⟩ := Int.eq_ofNat_of_zero_le hs0
              have hsnk : sn < k := by omega
              obtain ⟨g, gcap, hge, hgb, hgl, hgc⟩ := own_some HS5 (by omega)
              simp only [Value.slice.injEq] at hge
              obtain ⟨rfl, _, _⟩ := hge
              have hcs := hgc sn (.int .i64 (st.getD sn 0)) (by simp [List.getD_eq_getElem?_getD, HR.out.hst, hsnk])
              have HD2 : Hid (Fl.decode s.toList = (([], []), false, st.getD sn 0)) := by rw [HD1.out, if_pos (by omega)]; simp [Hid]
              obtain ⟨xs, hxs⟩ : ∃ x, x = st.getD sn 0 := ⟨_, rfl⟩
              rw [← hxs] at hcs HD2
              have hgI : (sn : Int) < (k : Int) := by omega
              clear hgc hxs HS5 HD1
              have hgne : ∀ (W : World) (o : Nat) (u : Value) (j : Nat), (W.setCell ⟨w.heap.size, o, none⟩ u).cell? ⟨g, j, none⟩ = W.cell? ⟨g, j, none⟩ := fun W o u j => by apply World.cell?_setCell_other; intro hh; injection hh with h2; omega
              go_wp2_with fail
              go_region
              all_goals
                go_wp2
                exact bodyPost_ret (v := .tuple #[.agg #[(.slice lao l.length lcap), .slice nao k ncap], .bool false, .int .i64 xs]) (by simp [results, Tryz.results8, go_sem, q0, q1]) rfl (dec_bad HD2.out rfl (by repeat (first | exact two_below HB5.out | apply Below.drew)))
            · have HD2 : Hid (Fl.decode s.toList = ((l, acc), true, 0)) := by rw [HD1.out, if_neg hs0]; rfl
              clear HS5 HD1
              go_wp2
              exact bodyPost_ret (v := .tuple #[.agg #[(.slice lao l.length lcap), .slice nao k ncap], .bool true, .int .i64 0]) (by simp [results, Tryz.results8, go_sem, q0, q1]) rfl ⟨two_below HB5.out, _, _, _, _, _, _, by rw [HD2.out], fun _ => by rw [HD2.out]; exact HR.out.ends HBB.out _ _⟩
end Go.Proofs.YtbihjgfbocpobaaGreatDoor

/- A proof that is being built in memory: its two cells in block Q, its nodes' row behind Q, its lists each in a block of its own. -/
set_option linter.unusedSimpArgs false
set_option linter.unusedVariables false
namespace Go.Proofs.YtbihjgfbocpobaaGreatDoor
open Go.RowKit

structure Grow (ls : List Int) (WQ wr : World) (L Q : Nat) (lv nv : Value) (acc : List Fl.Node) (lvs : List Value) : Prop where
  hl : lvs.length = acc.length
  hn : wr.ownsRow (Q + 1) 53 6 nv acc.length (flat acc lvs)
  hall : ∀ p, p ∈ (lv, ls) :: famOf acc lvs → Kept wr p.1 p.2 (.slice none 0 0) nv ∧ (p.2 ≠ [] → ∀ b, p.1.ownBlock = some b → L ≤ b ∧ b ≠ Q)
  c0 : wr.cell? ⟨Q, 0, none⟩ = some lv
  c1 : wr.cell? ⟨Q, 1, none⟩ = some nv
  fq : ∀ j, wr.frozen? ⟨Q, j, none⟩ = false
  hb : Below Q WQ wr
  hz : Q < wr.heap.size
  hL : L ≤ Q

section
variable {ls : List Int} {WQ wr W1 W2 : World} {L Q : Nat} {lv nv nv' lvn : Value} {acc : List Fl.Node} {lvs : List Value} {nd : Fl.Node}
theorem Grow.below (h : Grow ls WQ wr L Q lv nv acc lvs) (hb : Below wr.heap.size wr W1) : Grow ls WQ W1 L Q lv nv acc lvs := by
  have q : ∀ o, W1.cell? ⟨Q, o, none⟩ = wr.cell? ⟨Q, o, none⟩ := fun o => hb.cell (p := ⟨Q, o, none⟩) h.hz
  have og : wr.grownBy W1 none := ⟨hb.os, hb.tape, hb.output, hb.size, fun k hk _ => hb.block k hk⟩
  exact ⟨h.hl, h.hn.kept og (by cases nv.ownBlock <;> simp), fun p hp => ⟨(h.hall p hp).1.below hb, (h.hall p hp).2⟩, (q _).trans h.c0, (q _).trans h.c1, fun j => (hb.frozen (p := ⟨Q, j, none⟩) h.hz).trans (h.fq j), h.hb.trans (hb.mono (Nat.le_of_lt h.hz)), Nat.lt_of_lt_of_le h.hz hb.size, h.hL⟩
theorem Grow.locals (h : Grow ls WQ wr L Q lv nv acc lvs) : IntsAt wr.heap.size wr lv ls := (h.hall (lv, ls) (by simp)).1.1
theorem Grow.nodes (h : Grow ls WQ wr L Q lv nv acc lvs) : NodesAt wr.heap.size wr nv acc :=
  nodes_of_own h.hn h.hl (fun i hi => (h.hall _ (by simp only [List.mem_cons]; right; exact famOf_mem acc lvs i h.hl hi)).1.1)
/-- One node more. -/
theorem Grow.push (h : Grow ls WQ wr L Q lv nv acc lvs) (hb : Below wr.heap.size wr W1) (hi : IntsAt W1.heap.size W1 lvn nd.list) (hf : ∀ b, lvn.ownBlock = some b → wr.heap.size ≤ b)
    (ho : W2.ownsRow (Q + 1) 53 6 nv' (acc.length + 1) (flat acc lvs ++ nodeCells nd lvn)) (hg : W1.grownBy W2 nv.ownBlock) (hw : nv'.ownBlock = nv.ownBlock ∨ nv'.ownBlock = some W1.heap.size) :
    Grow ls WQ (W2.setCell ⟨Q, 1, none⟩ nv') L Q lv nv' (acc ++ [nd]) (lvs ++ [lvn]) := by
  have h1 := h.below hb
  have hz := h.hz
  have hsz := hb.size
  have hsg := hg.size
  have hs : (W2.setCell ⟨Q, 1, none⟩ nv').heap.size = W2.heap.size := by simp [World.setCell]
  have hne : some Q ≠ nv.ownBlock := fun hh => by have := (h.hn.lt Q hh.symm).1; omega
  have c0 : W2.cell? ⟨Q, 0, none⟩ = some lv := hg.cell h1.c0 hne
  have c1 : W2.cell? ⟨Q, 1, none⟩ = some nv := hg.cell h1.c1 hne
  have fq : ∀ j, W2.frozen? ⟨Q, j, none⟩ = false := fun j => (World.frozen?_of_block (w := W1) (hg.block Q (by omega) hne)).trans (h1.fq j)
  have hk : ∀ p, p ∈ (lv, ls) :: famOf (acc ++ [nd]) (lvs ++ [lvn]) → Kept W2 p.1 p.2 (.slice none 0 0) nv' ∧ (p.2 ≠ [] → ∀ b, p.1.ownBlock = some b → L ≤ b ∧ b ≠ Q) := by
    intro p hp
    rw [famOf_snoc _ _ _ _ h.hl] at hp
    simp only [List.mem_cons, List.mem_append, List.not_mem_nil, or_false] at hp
    have old : p ∈ (lv, ls) :: famOf acc lvs → Kept W2 p.1 p.2 (.slice none 0 0) nv' ∧ (p.2 ≠ [] → ∀ b, p.1.ownBlock = some b → L ≤ b ∧ b ≠ Q) := fun hp => ⟨(h1.hall p hp).1.second hg hw, (h1.hall p hp).2⟩
    rcases hp with hp | hp | hp
    · exact old (by rw [hp]; simp)
    · exact old (by simp [hp])
    · subst hp
      have hkn : Kept W1 lvn nd.list (.slice none 0 0) nv := Kept.new (w := wr) hi hf (fun b hb => by simp [Value.ownBlock] at hb) (fun b hb => (h.hn.lt b hb).2)
      exact ⟨hkn.second hg hw, fun _ b hh => by have := hf b hh; have := h.hL; omega⟩
  refine ⟨by simp [h.hl], ?_, fun p hp => ⟨(hk p hp).1.set (fun hx hh => ((hk p hp).2 hx Q hh).2 rfl), (hk p hp).2⟩, (cell_off (by decide)).trans c0, cell_self c1, fun j => by rw [World.frozen?_setCell]; exact fq j, ?_, by omega, h.hL⟩
  · rw [flat_snoc _ _ _ _ h.hl, List.length_append]; exact ownsRow_setCell_below ho (by simp) nv'
  · exact (h1.hb.grown hg (by omega) (fun k hk => by have := (h.hn.lt k hk).1; omega)).setCell (by simp) _
/-- Where it begins. -/
theorem Grow.new (hb : Below Q WQ wr) (hz : Q < wr.heap.size) (hi : IntsAt wr.heap.size wr lv ls) (hL : L ≤ Q) (hne : ls ≠ [] → ∀ b, lv.ownBlock = some b → L ≤ b ∧ b ≠ Q) (c0 : wr.cell? ⟨Q, 0, none⟩ = some lv) (c1 : wr.cell? ⟨Q, 1, none⟩ = some (.slice none 0 0)) (fq : ∀ j, wr.frozen? ⟨Q, j, none⟩ = false) :
    Grow ls WQ wr L Q lv (.slice none 0 0) [] [] := by
  refine ⟨rfl, World.ownsRow_nil _ _ _ _, fun p hp => ?_, c0, c1, fq, hb, hz, hL⟩
  simp only [famOf, List.mem_singleton] at hp
  subst hp
  refine ⟨⟨hi, fun hx => ?_⟩, hne⟩
  obtain ⟨b, hbb, _⟩ := ints_lt hi hx
  rw [hbb]; simp [Value.ownBlock]
/-- Where it is handed back: the result's two cells lie ahead of all. -/
theorem Grow.ret (h : Grow ls WQ wr L Q lv nv acc lvs) {R : Nat} (hR : R < L) (u u' : Value) :
    IntsAt ((wr.setCell ⟨R, 0, none⟩ u).setCell ⟨R, 1, none⟩ u').heap.size ((wr.setCell ⟨R, 0, none⟩ u).setCell ⟨R, 1, none⟩ u') lv ls ∧ NodesAt ((wr.setCell ⟨R, 0, none⟩ u).setCell ⟨R, 1, none⟩ u').heap.size ((wr.setCell ⟨R, 0, none⟩ u).setCell ⟨R, 1, none⟩ u') nv acc := by
  have hL := h.hL
  have hk : ∀ p, p ∈ (lv, ls) :: famOf acc lvs → IntsAt ((wr.setCell ⟨R, 0, none⟩ u).setCell ⟨R, 1, none⟩ u').heap.size ((wr.setCell ⟨R, 0, none⟩ u).setCell ⟨R, 1, none⟩ u') p.1 p.2 := fun p hp => by
    have hne : p.2 ≠ [] → p.1.ownBlock ≠ some R := fun hx hh => by have := ((h.hall p hp).2 hx R hh).1; omega
    exact ints_set (ints_set (h.hall p hp).1.1 hne) hne
  refine ⟨hk (lv, ls) (by simp), nodes_of_own (ownsRow_setCell_below (ownsRow_setCell_below h.hn (by simp only; omega) u) (by simp only; omega) u') h.hl (fun i hi => hk _ (by simp only [List.mem_cons]; right; exact famOf_mem acc lvs i h.hl hi))⟩
end
end Go.Proofs.YtbihjgfbocpobaaGreatDoor

/- The reference's Bytes: what its loop holds. -/
set_option linter.unusedSimpArgs false
set_option linter.unusedVariables false
namespace Go.Proofs.YtbihjgfbocpobaaGreatDoor
open Go.RowKit

theorem drop_last_of {l : List (List UInt8)} {j : Nat} (h : j + 1 = l.length) : l.drop j = [l.getD j []] := by
  rw [List.drop_eq_getElem_cons (by omega), List.drop_of_length_le (by omega)]; simp [List.getD_eq_getElem?_getD, show j < l.length by omega]
theorem drop_line {l : List (List UInt8)} {j : Nat} (h : j + 1 < l.length) : l.drop j = l.getD j [] :: l.drop (j + 1) ∧ l.drop (j + 1) ≠ [] := by
  refine ⟨by rw [List.drop_eq_getElem_cons (by omega)]; simp [List.getD_eq_getElem?_getD, show j < l.length by omega], fun hh => ?_⟩
  have := congrArg List.length hh; simp at this; omega
/-- How Bytes ends. -/
def BytEnds (r : (List Int × List Fl.Node) × Nat) (w : World) (e : Ending) (w' : World) : Prop :=
  Below w.heap.size w w' ∧ ∃ la n lc na n' nc, e = .returned (.tuple #[.agg #[.slice la n lc, .slice na n' nc], .int .i64 (r.2 : Int)]) ∧ (r.2 = 0 → IntsAt w'.heap.size w' (.slice la n lc) r.1.1 ∧ NodesAt w'.heap.size w' (.slice na n' nc) r.1.2)
/-- The blocks between stay. -/
def Mid (Q B : Nat) (W wr : World) : Prop := ∀ g, Q < g → g < B → wr.heap[g]? = W.heap[g]?
theorem Mid.refl (Q B : Nat) (W : World) : Mid Q B W W := fun _ _ _ => rfl
theorem Mid.below {Q B : Nat} {W wr W1 : World} (h : Mid Q B W wr) (hB : B ≤ wr.heap.size) (hb : Below wr.heap.size wr W1) : Mid Q B W W1 := fun g h1 h2 => (hb.block g (by omega)).trans (h g h1 h2)
theorem Mid.grown {Q B : Nat} {W wr W1 : World} {row : Option Nat} (h : Mid Q B W wr) (hB : B ≤ wr.heap.size) (hg : wr.grownBy W1 row) (hr : ∀ b, row = some b → B ≤ b) : Mid Q B W W1 := fun g h1 h2 => (hg.block g (by omega) (fun hh => by have := hr g hh.symm; omega)).trans (h g h1 h2)
theorem Mid.set {Q B : Nat} {W wr : World} (h : Mid Q B W wr) (o : Nat) (u : Value) : Mid Q B W (wr.setCell ⟨Q, o, none⟩ u) := fun g h1 h2 => by
  rw [← h g h1 h2]; exact Deep.blk_setCell_other _ _ _ _ (by show g ≠ Q; omega)
theorem Mid.cell {Q B : Nat} {W wr : World} (h : Mid Q B W wr) {g o : Nat} (h1 : Q < g) (h2 : g < B) : wr.cell? ⟨g, o, none⟩ = W.cell? ⟨g, o, none⟩ := World.cell?_of_block (w := W) (h g h1 h2)

theorem cut_w (c : UInt8) (s : List UInt8) (W : World) (hs : s.length ≤ 40000) : Calls Tryz.prog 24 #[.string ⟨s.toArray⟩, .int .u8 c.toNat] W fun e w' => ∃ g cap, e = .returned (.slice (some ⟨g, 0, none⟩) (Fl.cutR c s).length cap) ∧ W.heap.size ≤ g ∧ w'.ownsRow W.heap.size 9 1 (.slice (some ⟨g, 0, none⟩) (Fl.cutR c s).length cap) (Fl.cutR c s).length ((Fl.cutR c s).map strV) ∧ Below W.heap.size W w' := by
  have := cut_walk ⟨s.toArray⟩ c W (by show s.toArray.size ≤ _; simp; omega)
  refine this.mono ?_
  rintro e w' ⟨v, rfl, ho, hb⟩
  rw [show (⟨s.toArray⟩ : ByteArray).data.toList = s from by simp, Fl.cut_cutR] at ho
  obtain ⟨g, cap, rfl, hg, _⟩ := own_strs ho (List.length_pos_iff.2 (Fl.cutR_ne c s))
  exact ⟨g, cap, rfl, hg, ho, hb⟩
theorem cutR_len (c : UInt8) (s : List UInt8) : (Fl.cutR c s).length ≤ s.length + 1 ∧ ∀ x ∈ Fl.cutR c s, x.length ≤ s.length := by
  induction s with
  | nil => simp [Fl.cutR]
  | cons a r ih =>
    unfold Fl.cutR
    split
    · refine ⟨by simp; omega, fun x hx => ?_⟩
      rcases List.mem_cons.1 hx with rfl | hx
      · simp
      · have := ih.2 x hx; simp; omega
    · cases hc : Fl.cutR c r with
      | nil => exact absurd hc (Fl.cutR_ne c r)
      | cons y t =>
        rw [hc] at ih
        simp only [Fl.onHead, List.length_cons] at ih ⊢
        refine ⟨by omega, fun x hx => ?_⟩
        rcases List.mem_cons.1 hx with rfl | hx
        · have := ih.2 y (by simp); simp; omega
        · have := ih.2 x (by simp [hx]); omega

theorem BytEnds.bad {r : (List Int × List Fl.Node) × Nat} {w w' : World} {la na : Option Addr} {n lc n' nc : Nat} {k : Int} (hr : (r.2 : Int) = k) (hk : 0 < k) (hb : Below w.heap.size w w') : BytEnds r w (.returned (.tuple #[.agg #[.slice la n lc, .slice na n' nc], .int .i64 k])) w' := by
  refine ⟨hb, la, n, lc, na, n', nc, by rw [hr], fun h => ?_⟩
  rw [h] at hr; simp at hr; omega

theorem placeFrom_lt (w : List UInt8) : ∀ (l : List (List UInt8)) (i : Nat), Fl.placeFrom i w l < ((i + l.length : Nat) : Int)
  | [], i => by simp [Fl.placeFrom]; omega
  | x :: r, i => by
    unfold Fl.placeFrom
    split
    · simp only [List.length_cons]; omega
    · have := placeFrom_lt w r (i + 1); simp only [List.length_cons]; omega
theorem place_lt (x : List UInt8) : Fl.place Fl.kindWords x < 8 := placeFrom_lt x Fl.kindWords 0
theorem bl_kinds : bl (Fl.kindWords.map (fun l => (⟨l.toArray⟩ : ByteArray))) = Fl.kindWords := by
  unfold bl; rw [List.map_map]; refine (List.map_congr_left (g := id) (fun l _ => ?_)).trans (List.map_id _)
  show ByteArray.toList _ = _; rw [ByteArray.toList_eq]; rfl
theorem place_kinds (b : Nat) (x : List UInt8) (W : World) (h : ∀ j, j < 8 → W.cell? ⟨b, j, none⟩ = some (strV (Fl.kindWords.getD j []))) :
    Calls Tryz.prog 26 #[.slice (some ⟨b, 0, none⟩) 8 8, .string ⟨x.toArray⟩] W fun e w' => e = .returned (.int .i64 (Fl.place Fl.kindWords x)) ∧ w' = W := by
  have := place_any (.slice (some ⟨b, 0, none⟩) 8 8) (Fl.kindWords.map (fun l => (⟨l.toArray⟩ : ByteArray))) ⟨x.toArray⟩ W ?_
  · rw [bl_kinds, ByteArray.toList_eq] at this; exact this
  · refine ⟨_, _, rfl, by simp [Fl.kindWords, maxLen], ?_, fun _ => ⟨b, 0, rfl, fun i hi => ?_⟩⟩
    · intro s hs
      simp only [Fl.kindWords, List.map_cons, List.map_nil, List.mem_cons, List.not_mem_nil, or_false] at hs
      rcases hs with rfl | rfl | rfl | rfl | rfl | rfl | rfl | rfl <;> decide
    · have hi8 : i < 8 := hi
      rw [Nat.zero_add, h i hi8]
      rcases (show i = 0 ∨ i = 1 ∨ i = 2 ∨ i = 3 ∨ i = 4 ∨ i = 5 ∨ i = 6 ∨ i = 7 by omega) with rfl | rfl | rfl | rfl | rfl | rfl | rfl | rfl <;> rfl

/-- What the loop of Bytes holds at line j. -/
structure BytRel (lines : List (List UInt8)) (W3 wr : World) (Q : Nat) (j : Nat) (ls : List Int) (lv nv : Value) (acc : List Fl.Node) (lvs : List Value) : Prop where
  hj : j < lines.length
  hg : Grow ls W3 wr Q Q lv nv acc lvs
  ha : acc.length = j - 1
  hr : Fl.readL [] [] 0 lines = Fl.readL ls acc j (lines.drop j)
  h0 : j = 0 → ls = [] ∧ nv = .slice none 0 0
  hm : Mid Q W3.heap.size W3 wr
  hnb : ∀ b, nv.ownBlock = some b → W3.heap.size ≤ b
  hz : W3.heap.size ≤ wr.heap.size

section
variable {lines : List (List UInt8)} {W3 wr w1 w2 : World} {Q i : Nat} {ls vs : List Int} {lv nv nv' v lvn : Value} {acc : List Fl.Node} {lvs : List Value} {nd : Fl.Node}
theorem BytRel.first (h : BytRel lines W3 wr Q 0 ls lv nv acc lvs) (hb1 : Below wr.heap.size wr w1) (hb2 : Below w1.heap.size w1 w2) (ho : w2.ownsRow w1.heap.size 3 1 v vs.length (vs.map (Value.int .i64))) (h1 : 1 < lines.length) (hl : Fl.localsOf (Fl.cutR 32 (lines.getD 0 [])) = some vs) :
    BytRel lines W3 (w2.setCell ⟨Q, 0, none⟩ v) Q 1 vs v nv acc lvs := by
  obtain ⟨hls, hnv⟩ := h.h0 rfl
  have hacc : acc = [] := List.eq_nil_of_length_eq_zero (by have := h.ha; omega)
  subst hls hnv hacc
  have hlvs : lvs = [] := List.eq_nil_of_length_eq_zero (by have := h.hg.hl; simpa using this)
  subst hlvs
  have hz := h.hg.hz
  have hz3 := h.hz
  have s1 := hb1.size
  have s2 := hb2.size
  have hs : (w2.setCell ⟨Q, 0, none⟩ v).heap.size = w2.heap.size := by simp [World.setCell]
  have hQ2 : Below wr.heap.size wr w2 := hb1.trans (hb2.mono s1)
  have c0 : w2.cell? ⟨Q, 0, none⟩ = some lv := (hQ2.cell (p := ⟨Q, 0, none⟩) hz).trans h.hg.c0
  have c1 : w2.cell? ⟨Q, 1, none⟩ = some (.slice none 0 0) := (hQ2.cell (p := ⟨Q, 1, none⟩) hz).trans h.hg.c1
  have fq : ∀ j, w2.frozen? ⟨Q, j, none⟩ = false := fun j => (hQ2.frozen (p := ⟨Q, j, none⟩) hz).trans (h.hg.fq j)
  have hov : ∀ b, v.ownBlock = some b → w1.heap.size ≤ b := fun b hb => (ho.lt b hb).1
  refine ⟨h1, Grow.new ?_ (by omega) (ints_set (IntsAt.of_own ho) (fun _ hh => ?_)) (Nat.le_refl _) (fun _ b hb => ?_) (cell_self c0) ((cell_off (by decide)).trans c1) (fun j => by rw [World.frozen?_setCell]; exact fq j), rfl, ?_, fun hh => by omega, ?_, fun b hb => by simp [Value.ownBlock] at hb, by omega⟩
  · exact (h.hg.hb.trans (hQ2.mono (by omega))).setCell (Nat.le_refl _) _
  · have h9 : w1.heap.size ≤ Q := hov _ hh
    omega
  · have := hov b hb; omega
  · obtain ⟨hd, hne⟩ := drop_line (l := lines) (j := 0) (by omega)
    have e : lines = lines.getD 0 [] :: lines.drop 1 := by simpa using hd
    conv => lhs; rw [e]
    rw [Fl.readL_first _ _ _ _ hne, hl]
  · exact (h.hm.below hz3 hQ2).set 0 v
theorem BytRel.bad0 (h : BytRel lines W3 wr Q 0 ls lv nv acc lvs) (h1 : 1 < lines.length) (hl : Fl.localsOf (Fl.cutR 32 (lines.getD 0 [])) = none) : (Fl.readL [] [] 0 lines).2 = 1 := by
  obtain ⟨hd, hne⟩ := drop_line (l := lines) (j := 0) (by omega)
  have e : lines = lines.getD 0 [] :: lines.drop 1 := by simpa using hd
  rw [e, Fl.readL_first _ _ _ _ hne, hl]
theorem BytRel.next (h : BytRel lines W3 wr Q (i + 1) ls lv nv acc lvs) (hb : Below wr.heap.size wr w1) (hi : IntsAt w1.heap.size w1 lvn nd.list) (hf : ∀ b, lvn.ownBlock = some b → wr.heap.size ≤ b)
    (ho : w2.ownsRow (Q + 1) 53 6 nv' (acc.length + 1) (flat acc lvs ++ nodeCells nd lvn)) (hg : w1.grownBy w2 nv.ownBlock) (hw : nv'.ownBlock = nv.ownBlock ∨ nv'.ownBlock = some w1.heap.size) (h1 : i + 2 < lines.length) (hn : Fl.nodeOf i (Fl.cutR 32 (lines.getD (i + 1) [])) = some nd) :
    BytRel lines W3 (w2.setCell ⟨Q, 1, none⟩ nv') Q (i + 2) ls lv nv' (acc ++ [nd]) (lvs ++ [lvn]) := by
  have s1 := hb.size
  have s2 := hg.size
  have hz3 := h.hz
  have hs : (w2.setCell ⟨Q, 1, none⟩ nv').heap.size = w2.heap.size := by simp [World.setCell]
  refine ⟨h1, h.hg.push hb hi hf ho hg hw, by have := h.ha; simp; omega, ?_, fun hh => by omega, ?_, fun b hb' => ?_, by omega⟩
  · obtain ⟨hd, hne⟩ := drop_line (l := lines) (j := i + 1) (by omega)
    rw [h.hr, hd, Fl.readL_next _ _ _ _ _ hne, hn]
  · exact ((h.hm.below hz3 hb).grown (by omega) hg h.hnb).set 1 nv'
  · rcases hw with hw | hw
    · exact h.hnb b (hw ▸ hb')
    · rw [hw] at hb'; simp at hb'; omega
theorem BytRel.bad (h : BytRel lines W3 wr Q (i + 1) ls lv nv acc lvs) (h1 : i + 2 < lines.length) (hn : Fl.nodeOf i (Fl.cutR 32 (lines.getD (i + 1) [])) = none) : (Fl.readL [] [] 0 lines).2 = i + 2 := by
  obtain ⟨hd, hne⟩ := drop_line (l := lines) (j := i + 1) (by omega)
  rw [h.hr, hd, Fl.readL_next _ _ _ _ _ hne, hn]
theorem BytRel.nextJ {j : Nat} {ws : List (List UInt8)} {x : List UInt8} (h : BytRel lines W3 wr Q j ls lv nv acc lvs) (hj : 0 < j) (hb : Below wr.heap.size wr w1) (hi : IntsAt w1.heap.size w1 lvn nd.list) (hf : ∀ b, lvn.ownBlock = some b → wr.heap.size ≤ b)
    (ho : w2.ownsRow (Q + 1) 53 6 nv' (acc.length + 1) (flat acc lvs ++ nodeCells nd lvn)) (hg : w1.grownBy w2 nv.ownBlock) (hw : nv'.ownBlock = nv.ownBlock ∨ nv'.ownBlock = some w1.heap.size) (h1 : j + 1 < lines.length) (hx : x = lines.getD j []) (hws : ws = Fl.cutR 32 x) (hn : Fl.nodeOf (j - 1) ws = some nd) :
    BytRel lines W3 (w2.setCell ⟨Q, 1, none⟩ nv') Q (j + 1) ls lv nv' (acc ++ [nd]) (lvs ++ [lvn]) := by
  obtain ⟨i, rfl⟩ : ∃ i, j = i + 1 := ⟨j - 1, by omega⟩
  exact h.next hb hi hf ho hg hw h1 (by rw [← hx, ← hws]; exact hn)
theorem BytRel.still {j : Nat} (h : BytRel lines W3 wr Q j ls lv nv acc lvs) (hb : Below wr.heap.size wr w1) (hg : w1.grownBy w2 nv.ownBlock) : w2.cell? ⟨Q, 1, none⟩ = some nv ∧ ∀ o, w2.frozen? ⟨Q, o, none⟩ = false := by
  have G := h.hg.below hb
  have hne : some Q ≠ nv.ownBlock := fun hh => by have := (h.hg.hn.lt Q hh.symm).1; omega
  exact ⟨hg.cell G.c1 hne, fun j => (World.frozen?_of_block (w := w1) (hg.block Q G.hz hne)).trans (G.fq j)⟩
end
/-- append(nodes, n). -/
theorem wpList_append_node {w : World} {ops : Array Oper} {rest : List Oper} {o : Oper} {a : Act} {Q : Exit → Act → World → Prop} (hgd : o.guard = none) (s x : Operand)
    (ho : o.op = .call { callee := .builtin .append, args := #[s, x], argTypes := #[30, 30] }) (base : Nat) (nv : Value) (acc : List Fl.Node) (lvs : List Value) (hs : a.eval s = nv) (hown : w.ownsRow base 53 6 nv acc.length (flat acc lvs))
    (B : Nat) (nd : Fl.Node) (la : Option Addr) (ln lc : Nat) (hx : a.eval x = .slice (some ⟨B, 0, none⟩) 1 1) (hrow : ∀ j u, (nodeCells nd (.slice la ln lc))[j]? = some u → w.cell? ⟨B, j, none⟩ = some u) (hn : acc.length ≤ 1000000) (hbase : base ≤ w.heap.size)
    (h : ∀ v' w', w'.ownsRow base 53 6 v' (acc.length + 1) (flat acc lvs ++ nodeCells nd (.slice la ln lc)) → w.grownBy w' nv.ownBlock → (v'.ownBlock = nv.ownBlock ∨ v'.ownBlock = some w.heap.size) → wpList Tryz.prog ops Q rest (a.put o.dst v') w') : wpList Tryz.prog ops Q (o :: rest) a w := by
  obtain ⟨i1, hi1, hy0, hy1, hyb⟩ := info_parts Tryz.infoNode
  refine wpList_append_at _ hgd s x 30 ho base 53 i1 (.agg #[.int .i64 0, .int .i64 0, .int .i64 0, .int .i64 0, .int .i64 0, .slice none 0 0]) 6 64 Tryz.underlying30 hi1 hy0 hy1 hyb rfl (by decide) _ _ _ hs hown ⟨B, 0, none⟩ 1 1 (nodeCells nd (.slice la ln lc)) hx rfl (by decide) ?_ ?_ (by unfold maxLen; omega) (by omega) hbase h
  · intro j u hj
    have h2 : (⟨B, 0, none⟩ : Addr).add j = ⟨B, j, none⟩ := by unfold Addr.add; split <;> simp_all
    rw [h2]; exact hrow j u hj
  · intro u hu; simp only [nodeCells, List.mem_cons, List.not_mem_nil, or_false] at hu; rcases hu with rfl | rfl | rfl | rfl | rfl | rfl <;> rfl
theorem ints_tail {w W : World} {g cap : Nat} {vs : List Int} (hc : ∀ i, i < vs.length → w.cell? ⟨g, i, none⟩ = some (.int .i64 (vs.getD i 0))) (hb : Below w.heap.size w W) (hg : g < w.heap.size) (h1 : 1 ≤ vs.length) (h2 : vs.length ≤ cap) (h3 : vs.length ≤ 1000000) : IntsAt W.heap.size W (.slice (some ⟨g, 1, none⟩) (vs.length - 1) (cap - 1)) (vs.drop 1) := by
  refine ⟨_, _, by rw [List.length_drop], by rw [List.length_drop]; omega, by rw [List.length_drop]; unfold maxLen; omega, fun _ => ⟨g, 1, rfl, by have := hb.size; omega, fun i hi => ?_⟩⟩
  rw [List.length_drop] at hi
  rw [hb.cell (p := ⟨g, 1 + i, none⟩) hg, hc (1 + i) (by omega), Nat.add_comm 1 i]; simp [List.getD_eq_getElem?_getD]
theorem ints_none0 {W : World} {g : Nat} {vs : List Int} (h1 : vs.length = 1) : IntsAt W.heap.size W (.slice (some ⟨g, 0, none⟩) 0 0) (vs.drop 1) := by
  rw [List.drop_of_length_le (by omega)]
  exact ⟨_, _, rfl, by simp, by simp [maxLen], fun h => absurd rfl h⟩
theorem ints_none {W : World} {g : Nat} {vs : List Int} (h1 : vs.length = 1) : IntsAt W.heap.size W (.slice (some ⟨g, 0, none⟩) (vs.length - 1) 0) (vs.drop 1) := by
  rw [h1, List.drop_of_length_le (by omega)]
  exact ⟨_, _, rfl, by simp, by simp [maxLen], fun h => absurd rfl h⟩
end Go.Proofs.YtbihjgfbocpobaaGreatDoor

/- The library's calls: a text cut at a line's end, a line cut into its words. -/
set_option linter.unusedSimpArgs false
set_option linter.unusedVariables false
namespace Go.Proofs.YtbihjgfbocpobaaGreatDoor
open Go.RowKit

/-- The library's variable that its entries read: some number. -/
def MaxLenIs (w : World) : Prop := ∃ m, w.cell? ⟨2, 0, none⟩ = some (.int .i64 m)
theorem MaxLenIs.below {B : Nat} {w w' : World} (h : MaxLenIs w) (hB : w.heap.size ≤ B) (hb : Below B w w') : MaxLenIs w' := by
  obtain ⟨m, h⟩ := h
  have hl := World.block_lt_of_cell? w _ h
  exact ⟨m, (hb.cell (p := ⟨2, 0, none⟩) (by omega)).trans h⟩
theorem lcut_any (l : List UInt8) (w : World) (hl : l.length ≤ 100000) (h : MaxLenIs w) : Calls Tryz.prog 78 #[.string ⟨l.toArray⟩, .string ⟨#[10]⟩] w fun e w' => e = .returned (.tuple #[.string ⟨(Lib.cut l [10]).1.toArray⟩, .string ⟨(Lib.cut l [10]).2.1.toArray⟩, .bool (Lib.cut l [10]).2.2]) ∧ Below w.heap.size w w' := by
  obtain ⟨m, h⟩ := h
  refine (Tryz.strings_Cut ⟨l.toArray⟩ ⟨#[10]⟩ m w (by show l.toArray.size < _; simp; omega) h).mono ?_
  rintro e w' ⟨rfl, n, rfl⟩
  exact ⟨rfl, below_drewN (Below.refl _ _) n⟩
theorem map_strV (l : List ByteArray) : l.map Value.string = (l.map (·.data.toList)).map strV := by
  rw [List.map_map]; refine List.map_congr_left (fun b _ => ?_)
  show Value.string b = Value.string ⟨b.data.toList.toArray⟩
  simp
theorem lsplit_any (l : List UInt8) (w : World) (hl : l.length ≤ 40000) (h : MaxLenIs w) : Calls Tryz.prog 79 #[.string ⟨l.toArray⟩, .string ⟨#[32]⟩] w fun e w' => e = .returned (.slice (some ⟨w.heap.size, 0, none⟩) (Fl.cutR 32 l).length (Fl.cutR 32 l).length) ∧ WordsAt w'.heap.size w' (.slice (some ⟨w.heap.size, 0, none⟩) (Fl.cutR 32 l).length (Fl.cutR 32 l).length) (Fl.cutR 32 l) ∧ Below w.heap.size w w' := by
  obtain ⟨m, h⟩ := h
  refine (Tryz.strings_Split ⟨l.toArray⟩ ⟨#[32]⟩ m w (by show l.toArray.size < _; simp; omega) h (by decide)).mono ?_
  have hd : (Lib.splitB ⟨#[32]⟩ 0 (Lib.countB ⟨l.toArray⟩ ⟨#[32]⟩) ⟨l.toArray⟩).map (·.data.toList) = Fl.cutR 32 l := by
    rw [Lib.splitB_data, ← Fl.split_cutR]; rfl
  have hn : Lib.countB ⟨l.toArray⟩ ⟨#[32]⟩ + 1 = (Fl.cutR 32 l).length := by
    rw [← hd, List.length_map, Lib.splitB_all ⟨#[32]⟩ (by decide) 0 _ _ rfl]
  obtain ⟨hc1, hc2⟩ := cutR_len 32 l
  rintro e w' ⟨rfl, rfl⟩
  rw [map_strV, hd, hn]
  refine ⟨rfl, ⟨_, _, rfl, Nat.le_refl _, by unfold maxLen; omega, by omega, fun x hx => by have := hc2 x hx; omega, fun _ => ⟨_, 0, rfl, by simp, fun i hi => ?_⟩⟩, (Below.refl _ _).alloc (Nat.le_refl _) _⟩
  rw [Nat.zero_add, World.cell?_alloc_new]; simp [List.getD_eq_getElem?_getD, hi]
end Go.Proofs.YtbihjgfbocpobaaGreatDoor
