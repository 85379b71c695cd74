/- Texts CeStep Cee Cef Ceg. -/
import Derived.Test.YtbihjgfbocpobaaGreatDoorM23
/- A row that grows: what else stays. -/
set_option linter.unusedSimpArgs false
set_option linter.unusedVariables false
namespace Go.Proofs.YtbihjgfbocpobaaGreatDoor
open Go.RowKit

/-- From w, where the row is v's, to w', where it is v': no other block has changed. -/
def Step (w : World) (v : Value) (w' : World) (v' : Value) : Prop := w.grownBy w' v.ownBlock ∧ (v'.ownBlock = v.ownBlock ∨ ∃ b, v'.ownBlock = some b ∧ w.heap.size ≤ b)
theorem Step.refl (w : World) (v : Value) : Step w v w v := ⟨⟨rfl, rfl, rfl, Nat.le_refl _, fun _ _ _ => rfl⟩, .inl rfl⟩
theorem Step.trans {w w1 w2 : World} {v v1 v2 : Value} (h : Step w v w1 v1) (k : Step w1 v1 w2 v2) : Step w v w2 v2 := by
  refine ⟨⟨k.1.os.trans h.1.os, k.1.tape.trans h.1.tape, k.1.output.trans h.1.output, Nat.le_trans h.1.size k.1.size, fun g hg hne => ?_⟩, ?_⟩
  · refine (k.1.block g (Nat.lt_of_lt_of_le hg h.1.size) (fun hh => ?_)).trans (h.1.block g hg hne)
    rcases h.2 with h2 | ⟨b, hb, hlt⟩
    · rw [h2] at hh; exact hne hh
    · rw [hb] at hh; simp only [Option.some.injEq] at hh; omega
  · rcases k.2 with k2 | ⟨b, hb, hlt⟩
    · rcases h.2 with h2 | ⟨b, hb, hlt⟩
      · exact .inl (k2.trans h2)
      · exact .inr ⟨b, k2.trans hb, hlt⟩
    · exact .inr ⟨b, hb, Nat.le_trans h.1.size hlt⟩
theorem Step.below {w w1 w2 : World} {v v1 : Value} (h : Step w v w1 v1) (hb : Below w1.heap.size w1 w2) : Step w v w2 v1 :=
  h.trans ⟨⟨hb.os, hb.tape, hb.output, hb.size, fun k hk _ => hb.block k hk⟩, .inl rfl⟩
theorem Step.alloc {w w1 : World} {v v1 : Value} (h : Step w v w1 v1) (o : Obj) : Step w v (w1.alloc o) v1 := h.below ((Below.refl _ _).alloc (Nat.le_refl _) _)
theorem Step.append {w w1 w2 : World} {v v1 v2 : Value} (h : Step w v w1 v1) (hg : w1.grownBy w2 v1.ownBlock) (hw : v2.ownBlock = v1.ownBlock ∨ v2.ownBlock = some w1.heap.size) : Step w v w2 v2 :=
  h.trans ⟨hg, hw.imp id (fun hh => ⟨_, hh, Nat.le_refl _⟩)⟩
theorem Step.cell {w w' : World} {v v' : Value} (h : Step w v w' v') {b o : Nat} (hlt : b < w.heap.size) (hne : some b ≠ v.ownBlock) : w'.cell? ⟨b, o, none⟩ = w.cell? ⟨b, o, none⟩ := World.cell?_of_block (w := w) (h.1.block b hlt hne)

/-- A row of bytes that is the call's own; or one that is full (a literal's: the place behind it is marked). -/
def Holds (w : World) (base : Nat) (v : Value) (n : Nat) (xs : List Value) : Prop :=
  w.ownsRow base 5 1 v n xs ∨ ∃ g, base ≤ g ∧ g < w.heap.size ∧ v = .slice (some ⟨g, 0, none⟩) n n ∧ xs.length = n ∧ ∀ j u, xs[j]? = some u → w.cell? ((⟨g, 0, none⟩ : Addr).add j) = some u
theorem Holds.lt {w : World} {base : Nat} {v : Value} {n : Nat} {xs : List Value} (h : Holds w base v n xs) : ∀ k, v.ownBlock = some k → base ≤ k ∧ k < w.heap.size := by
  rcases h with h | ⟨g, h1, h2, rfl, _⟩
  · exact h.lt
  · intro k hk; simp only [Value.ownBlock, Option.some.injEq] at hk; subst hk; exact ⟨h1, h2⟩
theorem Holds.below {w w' : World} {base : Nat} {v : Value} {n : Nat} {xs : List Value} (h : Holds w base v n xs) (hb : Below w.heap.size w w') : Holds w' base v n xs := by
  rcases h with h | ⟨g, h1, h2, h3, h4, h5⟩
  · exact .inl (h.kept (row := none) ⟨hb.os, hb.tape, hb.output, hb.size, fun k hk _ => hb.block k hk⟩ (by cases v.ownBlock <;> simp))
  · refine .inr ⟨g, h1, Nat.lt_of_lt_of_le h2 hb.size, h3, h4, fun j u hj => ?_⟩
    have := h5 j u hj
    have h6 : ((⟨g, 0, none⟩ : Addr).add j).block = g := by unfold Addr.add; split <;> rfl
    rw [hb.cell (by rw [h6]; exact h2)]; exact this
theorem Holds.alloc {w : World} {base : Nat} {v : Value} {n : Nat} {xs : List Value} (h : Holds w base v n xs) (o : Obj) : Holds (w.alloc o) base v n xs := h.below ((Below.refl _ _).alloc (Nat.le_refl _) _)
section
variable {P : Program} (w : World)
theorem append_holds (base : Nat) (t ty : TypeId) (i : TypeInfo) (z : Value) (ht : P.underlying t = some (.slice 5)) (hi : P.info? 5 = some i) (hz : i.zero = some z)
    (hsize : i.size = 1) (hby : i.bytes = 1) (hzs : z.cells.size = 1)
    (v : Value) (n : Nat) (xs : List Value) (hown : Holds w base v n xs)
    (a : Addr) (m c : Nat) (news : List Value) (hl : news.length = m * 1) (hnews : ∀ j u, news[j]? = some u → w.cell? (a.add j) = some u) (h1 : ∀ u ∈ news, u.oneCell' = true)
    (h63 : n + m ≤ maxLen) (hbytes : (n + m) * 1 ≤ 140737488355328) (hbase : base ≤ w.heap.size) (hm : 0 < m) :
    ∃ v' w', (Builtin.append_ #[t, t] ty #[v, .slice (some a) m c]).run P w = .ok v' w' ∧ w'.ownsRow base 5 1 v' (n + m) (xs ++ news) ∧ w.grownBy w' v.ownBlock ∧ (v'.ownBlock = v.ownBlock ∨ v'.ownBlock = some w.heap.size) := by
  rcases hown with hown | ⟨g, hg1, hg2, rfl, hxl, hcells⟩
  · exact append_where (P := P) w base t ty 5 i z 1 1 ht hi hz hsize hby hzs (by decide) v n xs hown a m c news hl hnews h1 h63 hbytes hbase hm
  · have h63' : ((n + m : Nat) : Int) ≤ 9223372036854775807 := by unfold maxLen at h63; omega
    have hr := run_append_grow (P := P) w t ty 5 i z ht hi hz ⟨g, 0, none⟩ n n xs (by rw [hsize, hxl]; omega) hcells a m c news (by rw [hsize]; exact hl) hnews (by omega) h63' (growslice_fits (by omega) (by rw [hby]; exact hbytes))
    have hge := grownCap_ge w (n + m) n 5
    have hcm2 : grownCap w (n + m) n 5 ≤ maxLen := grownCap_le_maxLen w (n + m) n 5 h63
    have hlen : (xs ++ news).length = (n + m) * 1 := by rw [List.length_append, hxl, hl]; omega
    refine ⟨_, _, hr, ⟨hlen, .inr ⟨w.heap.size, _, _, rfl, hbase, heap_alloc_new w.drew _, hge, hcm2, ?_, ?_⟩⟩, ⟨rfl, rfl, rfl, by simp, fun k hk _ => heap_alloc_old w.drew _ (by exact hk)⟩, .inr rfl⟩
    · simp only [Array.size_append, List.size_toArray, size_zeroCells, hzs, hxl, hl]; omega
    · simp only [Array.toList_append, List.append_assoc]
      rw [← List.append_assoc, ← hlen]
      exact List.take_left
theorem wpList_append_holds {ops : Array Oper} {rest : List Oper} {o : Oper} {a : Act} {Q : Exit → Act → World → Prop} (hgd : o.guard = none) (s x : Operand) (t : TypeId)
    (ho : o.op = .call { callee := .builtin .append, args := #[s, x], argTypes := #[t, t] })
    (base : Nat) (i : TypeInfo) (z : Value) (ht : P.underlying t = some (.slice 5)) (hi : P.info? 5 = some i) (hz : i.zero = some z)
    (hsize : i.size = 1) (hby : i.bytes = 1) (hzs : z.cells.size = 1)
    (v : Value) (n : Nat) (xs : List Value) (hs : a.eval s = v) (hown : Holds w base v n xs)
    (ad : Addr) (m c : Nat) (news : List Value) (hx : a.eval x = .slice (some ad) m c) (hl : news.length = m * 1) (hm : 0 < m) (hnews : ∀ j u, news[j]? = some u → w.cell? (ad.add j) = some u) (h1 : ∀ u ∈ news, u.oneCell' = true)
    (h63 : n + m ≤ maxLen) (hbytes : (n + m) * 1 ≤ 140737488355328) (hbase : base ≤ w.heap.size)
    (h : ∀ v' w', w'.ownsRow base 5 1 v' (n + m) (xs ++ news) → w.grownBy w' v.ownBlock → (v'.ownBlock = v.ownBlock ∨ v'.ownBlock = some w.heap.size) → wpList P ops Q rest (a.put o.dst v') w') : wpList P ops Q (o :: rest) a w :=
  wpList_plain hgd fun _ hK => by
    obtain ⟨v', w', hr, h2, h3, h4⟩ := append_holds (P := P) w base t o.type i z ht hi hz hsize hby hzs v n xs hown ad m c news hl hnews h1 h63 hbytes hbase hm
    have hgo := hK _ _ (h v' w' h2 h3 h4)
    unfold Oper.wp execOp
    simp only [ho, resolve, invoke, builtin, Sem.run_bind, Sem.run_pure, Result.andThen_ok, List.map_toArray, List.map_cons, List.map_nil, hs, hx, hr]
    exact hgo
end
end Go.Proofs.YtbihjgfbocpobaaGreatDoor

/- The program: a number's bytes. -/
set_option linter.unusedSimpArgs false
set_option linter.unusedVariables false
namespace Go.Proofs.YtbihjgfbocpobaaGreatDoor
open Go.RowKit

theorem Tryz.infoByte : (Tryz.prog.info? 5).map (fun i => (i.zero, i.size, i.bytes)) = some (some (.int .u8 0), 1, 1) := by kernel_rfl
def bval (u : UInt8) : Value := .int .u8 (u.toNat : Int)
set_option maxRecDepth 100000 in
theorem or128 : ∀ x, x < 256 → x ||| 128 = x % 128 + 128 := by decide
theorem byte_or128 (x : Nat) (hx : x < 256) : bits .or .u8 (x : Int) 128 = ((x % 128 + 128 : Nat) : Int) := by
  have := u8_or_nat x 128 hx (by omega)
  rw [or128 x hx] at this; simpa using this

set_option maxRecDepth 100000 in
set_option maxHeartbeats 1000000 in
theorem appendNumber_any (n : Nat) (hn : n < 2147483648) (base : Nat) (bs : List UInt8) (v : Value) (w : World) (hown : Holds w base v bs.length (bs.map bval)) (hlen : bs.length ≤ 1000000) (hbase : base ≤ w.heap.size) :
    Calls Tryz.prog 89 #[v, .int .i64 n] w fun e w' => ∃ v', e = .returned v' ∧ w'.ownsRow base 5 1 v' (bs ++ Fl.coded n).length ((bs ++ Fl.coded n).map bval) ∧ Below base w w' ∧ Step w v w' v' := by
  obtain ⟨i0, hi, hz0, hz1, hz2⟩ := info_parts Tryz.infoByte
  have HO0 : Hid (Holds w base v bs.length (bs.map bval)) := hown
  clear hown
  go_enter Tryz.func89, Tryz.ntmps89
  go_wp2_with fail
  go_loopw [0, 1] (fun vv i wr => ∃ (f k : Nat) (xs : List UInt8), f ≤ 9 ∧ k < 128 ^ f ∧ k < 2147483648 ∧ i = .int .i64 k ∧ bs ++ Fl.coded n = xs ++ Fl.codedF f k ∧ xs.length + f ≤ bs.length + 9 ∧ Holds wr base vv xs.length (xs.map bval) ∧ Below base w wr ∧ Step w v wr vv) (fun _ i _ => (intOf i).toNat)
  case atStart => exact ⟨9, n, bs, by omega, by omega, hn, rfl, rfl, by omega, HO0.out, Below.refl _ _, Step.refl _ _⟩
  case round =>
    obtain ⟨f, k, xs, hf, hkf, hk, rfl, hspec, hxl, hown, hbel, hstp⟩ := hrel
    have HST : Hid (Step w v wr u0) := hstp
    have HSP : Hid (bs ++ Fl.coded n = xs ++ Fl.codedF f k) := hspec
    have HB : Hid (Below base w wr) := hbel
    have HKF : Hid (k < 128 ^ f) := hkf
    have HO : Hid (Holds wr base u0 xs.length (xs.map bval)) := hown
    clear hspec hbel hkf hown hstp
    by_cases hge : 128 ≤ k
    · have hge' : (128 : Int) ≤ (k : Int) := by omega
      have hor := byte_or128 (k % 256) (by omega)
      go_wp2_with (at_builtin; refine wpList_append_holds _ rfl _ _ 23 rfl base i0 (.int .u8 0) Tryz.underlying23 hi hz0 hz1 hz2 rfl _ _ _ rfl (HO.out.alloc _) ⟨_, 0, none⟩ 1 1 [.int .u8 (bits .or .u8 ((k : Int) % 256) 128)] rfl rfl (by decide) one_cell_new ?c2 ?c3 ?c4 ?c5 ?_)
      case c2 => intro u hu; simp at hu; subst hu; rfl
      case c3 => unfold maxLen; omega
      case c4 => omega
      case c5 => have := HB.out.size; simp; omega
      · intro v' w2 hown' hgrow hwhere
        have HS2 : Hid (Step w v w2 v') := (HST.out.alloc _).append hgrow (by simp only [World.size_alloc] at hwhere ⊢; exact hwhere)
        have hb2 : Below base w w2 := HB.out.trans ⟨hgrow.os, hgrow.tape, hgrow.output, Nat.le_trans (by simp) hgrow.size, fun g hg => by
          have hsz := HB.out.size
          refine (hgrow.block g (by simp; omega) (fun hh => ?_)).trans (Below.heap_alloc _ _ _ (by omega))
          have := (HO.out.lt g hh.symm).1; omega⟩
        have HB2 : Hid (Below base w w2) := hb2
        obtain ⟨f', rfl⟩ : ∃ f', f = f' + 1 := ⟨f - 1, by
          cases f with
          | zero => have := HKF.out; simp at this; omega
          | succ g => omega⟩
        have hbv : (.int .u8 (bits .or .u8 ((k : Int) % 256) 128) : Value) = bval (UInt8.ofNat (k % 128 + 128)) := by
          have h1 : ((k : Int) % 256) = ((k % 256 : Nat) : Int) := by omega
          rw [h1, hor]
          have h2 : (UInt8.ofNat (k % 128 + 128)).toNat = k % 128 + 128 := by simp; omega
          unfold bval; rw [h2]
          congr 1; omega
        have ho1 : w2.ownsRow base 5 1 v' (xs ++ [UInt8.ofNat (k % 128 + 128)]).length ((xs ++ [UInt8.ofNat (k % 128 + 128)]).map bval) := by rw [hbv] at hown'; simpa using hown'
        have HO1 : Hid (w2.ownsRow base 5 1 v' (xs ++ [UInt8.ofNat (k % 128 + 128)]).length ((xs ++ [UInt8.ofNat (k % 128 + 128)]).map bval)) := ho1
        have HSP2 : Hid (bs ++ Fl.coded n = (xs ++ [UInt8.ofNat (k % 128 + 128)]) ++ Fl.codedF f' (k / 128)) := by
          show bs ++ Fl.coded n = _
          rw [HSP.out]; simp [Fl.codedF, show ¬ k < 128 by omega]
        have HK2 : Hid (k / 128 < 128 ^ f') := by
          have := HKF.out
          rw [Nat.pow_succ] at this
          exact Nat.div_lt_of_lt_mul (by rw [Nat.mul_comm]; exact this)
        clear hown' hgrow hwhere hb2 hbv ho1 hor
        go_wp2
        exact ⟨⟨f', k / 128, xs ++ [UInt8.ofNat (k % 128 + 128)], by omega, HK2.out, by omega, by go_num, HSP2.out, by simp; omega, .inl HO1.out, HB2.out, HS2.out⟩, by simp [intOf]; omega⟩
    · have hge' : (k : Int) < 128 := by omega
      have hc : Fl.codedF f k = [UInt8.ofNat k] := by
        cases f with
        | zero => rfl
        | succ g => simp [Fl.codedF, show k < 128 by omega]
      have HC : Hid (Fl.codedF f k = [UInt8.ofNat k]) := hc
      clear hc
      go_wp2_with (at_builtin; refine wpList_append_holds _ rfl _ _ 23 rfl base i0 (.int .u8 0) Tryz.underlying23 hi hz0 hz1 hz2 rfl _ _ _ rfl (HO.out.alloc _) ⟨_, 0, none⟩ 1 1 [.int .u8 (k : Int)] rfl rfl (by decide) one_cell_new ?d2 ?d3 ?d4 ?d5 ?_)
      case d2 => intro u hu; simp at hu; subst hu; rfl
      case d3 => unfold maxLen; omega
      case d4 => omega
      case d5 => have := HB.out.size; simp; omega
      · intro v' w2 hown' hgrow hwhere
        have HS2 : Hid (Step w v w2 v') := (HST.out.alloc _).append hgrow (by simp only [World.size_alloc] at hwhere ⊢; exact hwhere)
        have hb2 : Below base w w2 := HB.out.trans ⟨hgrow.os, hgrow.tape, hgrow.output, Nat.le_trans (by simp) hgrow.size, fun g hg => by
          have hsz := HB.out.size
          refine (hgrow.block g (by simp; omega) (fun hh => ?_)).trans (Below.heap_alloc _ _ _ (by omega))
          have := (HO.out.lt g hh.symm).1; omega⟩
        have HB2 : Hid (Below base w w2) := hb2
        have hbv : (.int .u8 (k : Int) : Value) = bval (UInt8.ofNat k) := by
          have h2 : (UInt8.ofNat k).toNat = k := by simp; omega
          unfold bval; rw [h2]
        have ho1 : w2.ownsRow base 5 1 v' (bs ++ Fl.coded n).length ((bs ++ Fl.coded n).map bval) := by
          rw [hbv] at hown'
          rw [HSP.out, HC.out]; simpa using hown'
        have HO1 : Hid (w2.ownsRow base 5 1 v' (bs ++ Fl.coded n).length ((bs ++ Fl.coded n).map bval)) := ho1
        clear hown' hgrow hwhere hb2 hbv ho1
        go_wp2
        go_ret
        exact ⟨v', rfl, HO1.out, HB2.out, HS2.out⟩
end Go.Proofs.YtbihjgfbocpobaaGreatDoor

/- The program: a list's bytes. -/
set_option linter.unusedSimpArgs false
set_option linter.unusedVariables false
namespace Go.Proofs.YtbihjgfbocpobaaGreatDoor
open Go.RowKit

set_option maxRecDepth 100000 in
set_option maxHeartbeats 1000000 in
theorem appendList_any (l : List Int) (hl : l.all Fl.inR = true) (hll : l.length ≤ 200) (B base : Nat) (hBb : B ≤ base) (lv : Value) (bs : List UInt8) (v : Value) (w : World) (hi : IntsAt B w lv l) (hown : Holds w base v bs.length (bs.map bval)) (hlen : bs.length ≤ 900000) (hbase : base ≤ w.heap.size) :
    Calls Tryz.prog 88 #[v, lv] w fun e w' => ∃ v', e = .returned v' ∧ w'.ownsRow base 5 1 v' (bs ++ (Fl.coded l.length ++ Fl.codedAll l)).length ((bs ++ (Fl.coded l.length ++ Fl.codedAll l)).map bval) ∧ Below base w w' ∧ Step w v w' v' := by
  have HA : Hid (∀ (k : Nat) (ys : List UInt8) (u : Value) (W : World), k < 2147483648 → Holds W base u ys.length (ys.map bval) → ys.length ≤ 1000000 → base ≤ W.heap.size → Calls Tryz.prog 89 #[u, .int .i64 k] W fun e w' => ∃ v', e = .returned v' ∧ w'.ownsRow base 5 1 v' (ys ++ Fl.coded k).length ((ys ++ Fl.coded k).map bval) ∧ Below base W w' ∧ Step W u w' v') := fun k ys u W h1 h2 h3 h4 => appendNumber_any k h1 base ys u W h2 h3 h4
  obtain ⟨ao, cap, rfl, _, hm, _⟩ := id hi
  have HI : Hid (IntsAt B w (.slice ao l.length cap) l) := hi
  have HL : Hid (l.all Fl.inR = true) := hl
  have HO : Hid (Holds w base v bs.length (bs.map bval)) := hown
  clear hi hl hown hm
  go_enter Tryz.func88, Tryz.ntmps88
  go_wp2_with (go_at_call 89; refine (HA.out l.length bs v w (by omega) HO.out (by omega) hbase).mono ?_; rintro e w1 ⟨v1, rfl, ho1, hb1, hs1⟩)
  have HO1 : Hid (w1.ownsRow base 5 1 v1 (bs ++ Fl.coded l.length).length ((bs ++ Fl.coded l.length).map bval)) := ho1
  have HB1 : Hid (Below base w w1) := hb1
  have HS1 : Hid (Step w v w1 v1) := hs1
  clear ho1 hb1 hs1
  go_wp2_with fail
  go_loopw [0, 13] (fun vv i wr => ∃ (j : Nat) (xs : List UInt8), j ≤ l.length ∧ i = .int .i64 j ∧ xs = bs ++ (Fl.coded l.length ++ Fl.codedAll (l.take j)) ∧ wr.ownsRow base 5 1 vv xs.length (xs.map bval) ∧ Below base w wr ∧ Step w v wr vv) (fun _ i _ => l.length - (intOf i).toNat)
  case atStart => exact ⟨0, bs ++ Fl.coded l.length, by omega, rfl, by simp [Fl.codedAll], HO1.out, HB1.out, HS1.out⟩
  case round =>
    clear HO1 HB1 HS1
    obtain ⟨j, xs, hj, rfl, hxs, hown, hbel, hstp⟩ := hrel
    have HST : Hid (Step w v wr u0) := hstp
    have HXS : Hid (xs = bs ++ (Fl.coded l.length ++ Fl.codedAll (l.take j))) := hxs
    have HOW : Hid (wr.ownsRow base 5 1 u0 xs.length (xs.map bval)) := hown
    have HBE : Hid (Below base w wr) := hbel
    have hxl : xs.length ≤ 1000000 := by
      have h1 := Fl.codedAll_len (l.take j)
      have h2 := Fl.coded_len l.length
      have h3 : (l.take j).length ≤ 200 := by simp; omega
      rw [hxs]; simp only [List.length_append]; omega
    clear hxs hown hbel hstp
    by_cases hlt : j < l.length
    · obtain ⟨b, off, rfl, hbB, hcj⟩ := ((HI.out).below (HBE.out.mono hBb)).at hlt
      have hji : (j : Int) < (l.length : Int) := by omega
      have hin : Fl.inR (l.getD j 0) = true := by
        have := HL.out
        rw [List.all_eq_true] at this
        exact this _ (by rw [List.getD_eq_getElem?_getD, List.getElem?_eq_getElem hlt]; exact List.getElem_mem hlt)
      simp only [Fl.inR, Bool.and_eq_true, decide_eq_true_eq] at hin
      obtain ⟨x, hx⟩ : ∃ x : Nat, (x : Int) = l.getD j 0 := ⟨(l.getD j 0).toNat, by omega⟩
      have hx31 : x < 2147483648 := by omega
      rw [← hx] at hcj
      have HX : Hid ((x : Int) = l.getD j 0) := hx
      have hbw : base ≤ wr.heap.size := Nat.le_trans hbase HBE.out.size
      clear hin hx
      go_wp2_with (go_at_call 89; refine (HA.out x xs u0 wr hx31 (.inl HOW.out) hxl hbw).mono ?_; rintro e w2 ⟨v2, rfl, ho2, hb2, hs2⟩)
      have HO2 : Hid (w2.ownsRow base 5 1 v2 (xs ++ Fl.coded x).length ((xs ++ Fl.coded x).map bval)) := ho2
      have HB2 : Hid (Below base w w2) := HBE.out.trans hb2
      have HS2 : Hid (Step w v w2 v2) := HST.out.trans hs2
      clear ho2 hb2 hs2
      go_wp2
      refine ⟨⟨j + 1, xs ++ Fl.coded x, by omega, by go_num, ?_, HO2.out, HB2.out, HS2.out⟩, by simp [intOf]; omega⟩
      have hg : l.take (j + 1) = l.take j ++ [(x : Int)] := by
        rw [HX.out, List.take_succ_eq_append_getElem hlt, List.getD_eq_getElem?_getD, List.getElem?_eq_getElem hlt]; rfl
      rw [hg, HXS.out]; simp [Fl.codedAll]
    · have hji : (l.length : Int) ≤ (j : Int) := by omega
      have hjl : j = l.length := by omega
      have HF : Hid (xs = bs ++ (Fl.coded l.length ++ Fl.codedAll l)) := by
        show xs = _
        rw [HXS.out, hjl, List.take_length]
      clear hjl
      go_wp2
      go_ret
      exact ⟨u0, rfl, by rw [← HF.out]; exact HOW.out, HBE.out, HST.out⟩
end Go.Proofs.YtbihjgfbocpobaaGreatDoor

/- The program: the sizes. -/
set_option linter.unusedSimpArgs false
set_option linter.unusedVariables false
namespace Go.Proofs.YtbihjgfbocpobaaGreatDoor
open Go.RowKit

set_option maxRecDepth 100000 in
set_option maxHeartbeats 400000 in
theorem sizesFit_any (ls : List Int) (ns : List Fl.Node) (la na : Option Addr) (lc nc B : Nat) (w : World) (hl : IntsAt B w (.slice la ls.length lc) ls) (hn : NodesAt B w (.slice na ns.length nc) ns) (hB : B ≤ w.heap.size) :
    Calls Tryz.prog 56 #[.agg #[.slice la ls.length lc, .slice na ns.length nc]] w fun e w' => e = .returned (.bool (decide (ls.length ≤ 4) && (ls.all Fl.inR && (decide (1 ≤ ns.length) && decide (ns.length ≤ 200))))) ∧ Below w.heap.size w w' := by
  have HA : Hid (∀ W, Below B w W → Calls Tryz.prog 82 #[.slice la ls.length lc] W fun e w' => e = .returned (.bool (ls.all Fl.inR)) ∧ Below W.heap.size W w') := fun W hW => allNumbers_any ls _ B W (hl.below hW)
  obtain ⟨r, hr⟩ : ∃ r, r = (decide (ls.length ≤ 4) && (ls.all Fl.inR && (decide (1 ≤ ns.length) && decide (ns.length ≤ 200)))) := ⟨_, rfl⟩
  rw [← hr]
  have HR : Hid (r = (decide (ls.length ≤ 4) && (ls.all Fl.inR && (decide (1 ≤ ns.length) && decide (ns.length ≤ 200))))) := hr
  clear hl hr hn
  by_cases h4 : ls.length ≤ 4
  · have h4' : (ls.length : Int) ≤ 4 := by omega
    go_enter Tryz.func56, Tryz.ntmps56
    go_wp2_with fail
    have hBa : Below B w (w.alloc (.cells #[.slice la ls.length lc, .slice na ns.length nc] 32)) := (Below.refl _ w).alloc hB _
    refine (HA.out _ hBa).mono ?_
    rintro e w1 ⟨rfl, hb1⟩
    have p1 : w1.cell? ⟨w.heap.size, 1, none⟩ = some (.slice na ns.length nc) := (hb1.cell (p := ⟨w.heap.size, 1, none⟩) (by simp)).trans (by simp)
    have HB1 : Hid (Below w.heap.size w w1) := ((Below.refl _ w).alloc (Nat.le_refl _) _).trans (hb1.mono (by simp))
    clear hb1 hBa HA
    cases ha : ls.all Fl.inR with
    | false =>
      have HS : Hid (r = false) := by show r = false; rw [HR.out, ha]; simp
      clear ha
      go_wp2
      go_ret
      exact ⟨ret_bool HS.out.symm, HB1.out⟩
    | true =>
      have HA1 : Hid (ls.all Fl.inR = true) := ha
      clear ha
      by_cases h1 : 1 ≤ ns.length
      · have h1' : (1 : Int) ≤ (ns.length : Int) := by omega
        by_cases h2 : ns.length ≤ 200
        · have h2' : (ns.length : Int) ≤ 200 := by omega
          have HS : Hid (r = true) := by show r = true; rw [HR.out, HA1.out]; simp [h4, h1, h2]
          go_wp2
          go_ret
          exact ⟨ret_bool HS.out.symm, HB1.out⟩
        · have h2' : (200 : Int) < (ns.length : Int) := by omega
          have HS : Hid (r = false) := by show r = false; rw [HR.out, HA1.out]; simp [h2]
          go_wp2
          go_ret
          exact ⟨ret_bool (by rw [HS.out]; simp; omega), HB1.out⟩
      · have h1' : (ns.length : Int) < 1 := by omega
        have HS : Hid (r = false) := by show r = false; rw [HR.out, HA1.out]; simp [h1]
        go_wp2
        go_ret
        exact ⟨ret_bool HS.out.symm, HB1.out⟩
  · have h4' : (4 : Int) < (ls.length : Int) := by omega
    have HS : Hid (r = false) := by show r = false; rw [HR.out]; simp [h4]
    go_enter Tryz.func56, Tryz.ntmps56
    go_wp2_with fail
    go_ret
    exact ⟨ret_bool HS.out.symm, (Below.refl _ w).alloc (Nat.le_refl _) _⟩
end Go.Proofs.YtbihjgfbocpobaaGreatDoor
