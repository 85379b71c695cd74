/- Texts RefY0 Lnf Lng CdHeld. -/
import Derived.Test.YtbihjgfbocpobaaGreatDoorM13
import Derived.Deep.Heap
import Derived.Lib.SplitLaws
import Derived.OrdersHeld
import Derived.WalkKit
/- The reference's Bytes: what its loop holds. -/
set_option linter.unusedSimpArgs false
set_option linter.unusedVariables false
namespace Go.Proofs.YtbihjgfbocpobaaGreatDoor
open Go.RowKit

theorem drop_last_of {l : List (List UInt8)} {j : Nat} (h : j + 1 = l.length) : l.drop j = [l.getD j []] := by
  rw [List.drop_eq_getElem_cons (by omega), List.drop_of_length_le (by omega)]; simp [List.getD_eq_getElem?_getD, show j < l.length by omega]
theorem drop_line {l : List (List UInt8)} {j : Nat} (h : j + 1 < l.length) : l.drop j = l.getD j [] :: l.drop (j + 1) ∧ l.drop (j + 1) ≠ [] := by
  refine ⟨by rw [List.drop_eq_getElem_cons (by omega)]; simp [List.getD_eq_getElem?_getD, show j < l.length by omega], fun hh => ?_⟩
  have := congrArg List.length hh; simp at this; omega
/-- How Bytes ends. -/
def BytEnds (r : (List Int × List Fl.Node) × Nat) (w : World) (e : Ending) (w' : World) : Prop :=
  Below w.heap.size w w' ∧ ∃ la n lc na n' nc, e = .returned (.tuple #[.agg #[.slice la n lc, .slice na n' nc], .int .i64 (r.2 : Int)]) ∧ (r.2 = 0 → IntsAt w'.heap.size w' (.slice la n lc) r.1.1 ∧ NodesAt w'.heap.size w' (.slice na n' nc) r.1.2)
/-- The blocks between stay. -/
def Mid (Q B : Nat) (W wr : World) : Prop := ∀ g, Q < g → g < B → wr.heap[g]? = W.heap[g]?
theorem Mid.refl (Q B : Nat) (W : World) : Mid Q B W W := fun _ _ _ => rfl
theorem Mid.below {Q B : Nat} {W wr W1 : World} (h : Mid Q B W wr) (hB : B ≤ wr.heap.size) (hb : Below wr.heap.size wr W1) : Mid Q B W W1 := fun g h1 h2 => (hb.block g (by omega)).trans (h g h1 h2)
theorem Mid.grown {Q B : Nat} {W wr W1 : World} {row : Option Nat} (h : Mid Q B W wr) (hB : B ≤ wr.heap.size) (hg : wr.grownBy W1 row) (hr : ∀ b, row = some b → B ≤ b) : Mid Q B W W1 := fun g h1 h2 => (hg.block g (by omega) (fun hh => by have := hr g hh.symm; omega)).trans (h g h1 h2)
theorem Mid.set {Q B : Nat} {W wr : World} (h : Mid Q B W wr) (o : Nat) (u : Value) : Mid Q B W (wr.setCell ⟨Q, o, none⟩ u) := fun g h1 h2 => by
  rw [← h g h1 h2]; exact Deep.blk_setCell_other _ _ _ _ (by show g ≠ Q; omega)
theorem Mid.cell {Q B : Nat} {W wr : World} (h : Mid Q B W wr) {g o : Nat} (h1 : Q < g) (h2 : g < B) : wr.cell? ⟨g, o, none⟩ = W.cell? ⟨g, o, none⟩ := World.cell?_of_block (w := W) (h g h1 h2)

theorem cut_w (c : UInt8) (s : List UInt8) (W : World) (hs : s.length ≤ 40000) : Calls Tryz.prog 24 #[.string ⟨s.toArray⟩, .int .u8 c.toNat] W fun e w' => ∃ g cap, e = .returned (.slice (some ⟨g, 0, none⟩) (Fl.cutR c s).length cap) ∧ W.heap.size ≤ g ∧ w'.ownsRow W.heap.size 9 1 (.slice (some ⟨g, 0, none⟩) (Fl.cutR c s).length cap) (Fl.cutR c s).length ((Fl.cutR c s).map strV) ∧ Below W.heap.size W w' := by
  have := cut_walk ⟨s.toArray⟩ c W (by show s.toArray.size ≤ _; simp; omega)
  refine this.mono ?_
  rintro e w' ⟨v, rfl, ho, hb⟩
  rw [show (⟨s.toArray⟩ : ByteArray).data.toList = s from by simp, Fl.cut_cutR] at ho
  obtain ⟨g, cap, rfl, hg, _⟩ := own_strs ho (List.length_pos_iff.2 (Fl.cutR_ne c s))
  exact ⟨g, cap, rfl, hg, ho, hb⟩
theorem cutR_len (c : UInt8) (s : List UInt8) : (Fl.cutR c s).length ≤ s.length + 1 ∧ ∀ x ∈ Fl.cutR c s, x.length ≤ s.length := by
  induction s with
  | nil => simp [Fl.cutR]
  | cons a r ih =>
    unfold Fl.cutR
    split
    · refine ⟨by simp; omega, fun x hx => ?_⟩
      rcases List.mem_cons.1 hx with rfl | hx
      · simp
      · have := ih.2 x hx; simp; omega
    · cases hc : Fl.cutR c r with
      | nil => exact absurd hc (Fl.cutR_ne c r)
      | cons y t =>
        rw [hc] at ih
        simp only [Fl.onHead, List.length_cons] at ih ⊢
        refine ⟨by omega, fun x hx => ?_⟩
        rcases List.mem_cons.1 hx with rfl | hx
        · have := ih.2 y (by simp); simp; omega
        · have := ih.2 x (by simp [hx]); omega

theorem BytEnds.bad {r : (List Int × List Fl.Node) × Nat} {w w' : World} {la na : Option Addr} {n lc n' nc : Nat} {k : Int} (hr : (r.2 : Int) = k) (hk : 0 < k) (hb : Below w.heap.size w w') : BytEnds r w (.returned (.tuple #[.agg #[.slice la n lc, .slice na n' nc], .int .i64 k])) w' := by
  refine ⟨hb, la, n, lc, na, n', nc, by rw [hr], fun h => ?_⟩
  rw [h] at hr; simp at hr; omega

theorem placeFrom_lt (w : List UInt8) : ∀ (l : List (List UInt8)) (i : Nat), Fl.placeFrom i w l < ((i + l.length : Nat) : Int)
  | [], i => by simp [Fl.placeFrom]; omega
  | x :: r, i => by
    unfold Fl.placeFrom
    split
    · simp only [List.length_cons]; omega
    · have := placeFrom_lt w r (i + 1); simp only [List.length_cons]; omega
theorem place_lt (x : List UInt8) : Fl.place Fl.kindWords x < 8 := placeFrom_lt x Fl.kindWords 0
theorem bl_kinds : bl (Fl.kindWords.map (fun l => (⟨l.toArray⟩ : ByteArray))) = Fl.kindWords := by
  unfold bl; rw [List.map_map]; refine (List.map_congr_left (g := id) (fun l _ => ?_)).trans (List.map_id _)
  show ByteArray.toList _ = _; rw [ByteArray.toList_eq]; rfl
theorem place_kinds (b : Nat) (x : List UInt8) (W : World) (h : ∀ j, j < 8 → W.cell? ⟨b, j, none⟩ = some (strV (Fl.kindWords.getD j []))) :
    Calls Tryz.prog 26 #[.slice (some ⟨b, 0, none⟩) 8 8, .string ⟨x.toArray⟩] W fun e w' => e = .returned (.int .i64 (Fl.place Fl.kindWords x)) ∧ w' = W := by
  have := place_any (.slice (some ⟨b, 0, none⟩) 8 8) (Fl.kindWords.map (fun l => (⟨l.toArray⟩ : ByteArray))) ⟨x.toArray⟩ W ?_
  · rw [bl_kinds, ByteArray.toList_eq] at this; exact this
  · refine ⟨_, _, rfl, by simp [Fl.kindWords, maxLen], ?_, fun _ => ⟨b, 0, rfl, fun i hi => ?_⟩⟩
    · intro s hs
      simp only [Fl.kindWords, List.map_cons, List.map_nil, List.mem_cons, List.not_mem_nil, or_false] at hs
      rcases hs with rfl | rfl | rfl | rfl | rfl | rfl | rfl | rfl <;> decide
    · have hi8 : i < 8 := hi
      rw [Nat.zero_add, h i hi8]
      rcases (show i = 0 ∨ i = 1 ∨ i = 2 ∨ i = 3 ∨ i = 4 ∨ i = 5 ∨ i = 6 ∨ i = 7 by omega) with rfl | rfl | rfl | rfl | rfl | rfl | rfl | rfl <;> rfl

/-- What the loop of Bytes holds at line j. -/
structure BytRel (lines : List (List UInt8)) (W3 wr : World) (Q : Nat) (j : Nat) (ls : List Int) (lv nv : Value) (acc : List Fl.Node) (lvs : List Value) : Prop where
  hj : j < lines.length
  hg : Grow ls W3 wr Q Q lv nv acc lvs
  ha : acc.length = j - 1
  hr : Fl.readL [] [] 0 lines = Fl.readL ls acc j (lines.drop j)
  h0 : j = 0 → ls = [] ∧ nv = .slice none 0 0
  hm : Mid Q W3.heap.size W3 wr
  hnb : ∀ b, nv.ownBlock = some b → W3.heap.size ≤ b
  hz : W3.heap.size ≤ wr.heap.size

section
variable {lines : List (List UInt8)} {W3 wr w1 w2 : World} {Q i : Nat} {ls vs : List Int} {lv nv nv' v lvn : Value} {acc : List Fl.Node} {lvs : List Value} {nd : Fl.Node}
theorem BytRel.first (h : BytRel lines W3 wr Q 0 ls lv nv acc lvs) (hb1 : Below wr.heap.size wr w1) (hb2 : Below w1.heap.size w1 w2) (ho : w2.ownsRow w1.heap.size 3 1 v vs.length (vs.map (Value.int .i64))) (h1 : 1 < lines.length) (hl : Fl.localsOf (Fl.cutR 32 (lines.getD 0 [])) = some vs) :
    BytRel lines W3 (w2.setCell ⟨Q, 0, none⟩ v) Q 1 vs v nv acc lvs := by
  obtain ⟨hls, hnv⟩ := h.h0 rfl
  have hacc : acc = [] := List.eq_nil_of_length_eq_zero (by have := h.ha; omega)
  subst hls hnv hacc
  have hlvs : lvs = [] := List.eq_nil_of_length_eq_zero (by have := h.hg.hl; simpa using this)
  subst hlvs
  have hz := h.hg.hz
  have hz3 := h.hz
  have s1 := hb1.size
  have s2 := hb2.size
  have hs : (w2.setCell ⟨Q, 0, none⟩ v).heap.size = w2.heap.size := by simp [World.setCell]
  have hQ2 : Below wr.heap.size wr w2 := hb1.trans (hb2.mono s1)
  have c0 : w2.cell? ⟨Q, 0, none⟩ = some lv := (hQ2.cell (p := ⟨Q, 0, none⟩) hz).trans h.hg.c0
  have c1 : w2.cell? ⟨Q, 1, none⟩ = some (.slice none 0 0) := (hQ2.cell (p := ⟨Q, 1, none⟩) hz).trans h.hg.c1
  have fq : ∀ j, w2.frozen? ⟨Q, j, none⟩ = false := fun j => (hQ2.frozen (p := ⟨Q, j, none⟩) hz).trans (h.hg.fq j)
  have hov : ∀ b, v.ownBlock = some b → w1.heap.size ≤ b := fun b hb => (ho.lt b hb).1
  refine ⟨h1, Grow.new ?_ (by omega) (ints_set (IntsAt.of_own ho) (fun _ hh => ?_)) (Nat.le_refl _) (fun _ b hb => ?_) (cell_self c0) ((cell_off (by decide)).trans c1) (fun j => by rw [World.frozen?_setCell]; exact fq j), rfl, ?_, fun hh => by omega, ?_, fun b hb => by simp [Value.ownBlock] at hb, by omega⟩
  · exact (h.hg.hb.trans (hQ2.mono (by omega))).setCell (Nat.le_refl _) _
  · have h9 : w1.heap.size ≤ Q := hov _ hh
    omega
  · have := hov b hb; omega
  · obtain ⟨hd, hne⟩ := drop_line (l := lines) (j := 0) (by omega)
    have e : lines = lines.getD 0 [] :: lines.drop 1 := by simpa using hd
    conv => lhs; rw [e]
    rw [Fl.readL_first _ _ _ _ hne, hl]
  · exact (h.hm.below hz3 hQ2).set 0 v
theorem BytRel.bad0 (h : BytRel lines W3 wr Q 0 ls lv nv acc lvs) (h1 : 1 < lines.length) (hl : Fl.localsOf (Fl.cutR 32 (lines.getD 0 [])) = none) : (Fl.readL [] [] 0 lines).2 = 1 := by
  obtain ⟨hd, hne⟩ := drop_line (l := lines) (j := 0) (by omega)
  have e : lines = lines.getD 0 [] :: lines.drop 1 := by simpa using hd
  rw [e, Fl.readL_first _ _ _ _ hne, hl]
theorem BytRel.next (h : BytRel lines W3 wr Q (i + 1) ls lv nv acc lvs) (hb : Below wr.heap.size wr w1) (hi : IntsAt w1.heap.size w1 lvn nd.list) (hf : ∀ b, lvn.ownBlock = some b → wr.heap.size ≤ b)
    (ho : w2.ownsRow (Q + 1) 53 6 nv' (acc.length + 1) (flat acc lvs ++ nodeCells nd lvn)) (hg : w1.grownBy w2 nv.ownBlock) (hw : nv'.ownBlock = nv.ownBlock ∨ nv'.ownBlock = some w1.heap.size) (h1 : i + 2 < lines.length) (hn : Fl.nodeOf i (Fl.cutR 32 (lines.getD (i + 1) [])) = some nd) :
    BytRel lines W3 (w2.setCell ⟨Q, 1, none⟩ nv') Q (i + 2) ls lv nv' (acc ++ [nd]) (lvs ++ [lvn]) := by
  have s1 := hb.size
  have s2 := hg.size
  have hz3 := h.hz
  have hs : (w2.setCell ⟨Q, 1, none⟩ nv').heap.size = w2.heap.size := by simp [World.setCell]
  refine ⟨h1, h.hg.push hb hi hf ho hg hw, by have := h.ha; simp; omega, ?_, fun hh => by omega, ?_, fun b hb' => ?_, by omega⟩
  · obtain ⟨hd, hne⟩ := drop_line (l := lines) (j := i + 1) (by omega)
    rw [h.hr, hd, Fl.readL_next _ _ _ _ _ hne, hn]
  · exact ((h.hm.below hz3 hb).grown (by omega) hg h.hnb).set 1 nv'
  · rcases hw with hw | hw
    · exact h.hnb b (hw ▸ hb')
    · rw [hw] at hb'; simp at hb'; omega
theorem BytRel.bad (h : BytRel lines W3 wr Q (i + 1) ls lv nv acc lvs) (h1 : i + 2 < lines.length) (hn : Fl.nodeOf i (Fl.cutR 32 (lines.getD (i + 1) [])) = none) : (Fl.readL [] [] 0 lines).2 = i + 2 := by
  obtain ⟨hd, hne⟩ := drop_line (l := lines) (j := i + 1) (by omega)
  rw [h.hr, hd, Fl.readL_next _ _ _ _ _ hne, hn]
theorem BytRel.nextJ {j : Nat} {ws : List (List UInt8)} {x : List UInt8} (h : BytRel lines W3 wr Q j ls lv nv acc lvs) (hj : 0 < j) (hb : Below wr.heap.size wr w1) (hi : IntsAt w1.heap.size w1 lvn nd.list) (hf : ∀ b, lvn.ownBlock = some b → wr.heap.size ≤ b)
    (ho : w2.ownsRow (Q + 1) 53 6 nv' (acc.length + 1) (flat acc lvs ++ nodeCells nd lvn)) (hg : w1.grownBy w2 nv.ownBlock) (hw : nv'.ownBlock = nv.ownBlock ∨ nv'.ownBlock = some w1.heap.size) (h1 : j + 1 < lines.length) (hx : x = lines.getD j []) (hws : ws = Fl.cutR 32 x) (hn : Fl.nodeOf (j - 1) ws = some nd) :
    BytRel lines W3 (w2.setCell ⟨Q, 1, none⟩ nv') Q (j + 1) ls lv nv' (acc ++ [nd]) (lvs ++ [lvn]) := by
  obtain ⟨i, rfl⟩ : ∃ i, j = i + 1 := ⟨j - 1, by omega⟩
  exact h.next hb hi hf ho hg hw h1 (by rw [← hx, ← hws]; exact hn)
theorem BytRel.still {j : Nat} (h : BytRel lines W3 wr Q j ls lv nv acc lvs) (hb : Below wr.heap.size wr w1) (hg : w1.grownBy w2 nv.ownBlock) : w2.cell? ⟨Q, 1, none⟩ = some nv ∧ ∀ o, w2.frozen? ⟨Q, o, none⟩ = false := by
  have G := h.hg.below hb
  have hne : some Q ≠ nv.ownBlock := fun hh => by have := (h.hg.hn.lt Q hh.symm).1; omega
  exact ⟨hg.cell G.c1 hne, fun j => (World.frozen?_of_block (w := w1) (hg.block Q G.hz hne)).trans (G.fq j)⟩
end
/-- append(nodes, n). -/
theorem wpList_append_node {w : World} {ops : Array Oper} {rest : List Oper} {o : Oper} {a : Act} {Q : Exit → Act → World → Prop} (hgd : o.guard = none) (s x : Operand)
    (ho : o.op = .call { callee := .builtin .append, args := #[s, x], argTypes := #[30, 30] }) (base : Nat) (nv : Value) (acc : List Fl.Node) (lvs : List Value) (hs : a.eval s = nv) (hown : w.ownsRow base 53 6 nv acc.length (flat acc lvs))
    (B : Nat) (nd : Fl.Node) (la : Option Addr) (ln lc : Nat) (hx : a.eval x = .slice (some ⟨B, 0, none⟩) 1 1) (hrow : ∀ j u, (nodeCells nd (.slice la ln lc))[j]? = some u → w.cell? ⟨B, j, none⟩ = some u) (hn : acc.length ≤ 1000000) (hbase : base ≤ w.heap.size)
    (h : ∀ v' w', w'.ownsRow base 53 6 v' (acc.length + 1) (flat acc lvs ++ nodeCells nd (.slice la ln lc)) → w.grownBy w' nv.ownBlock → (v'.ownBlock = nv.ownBlock ∨ v'.ownBlock = some w.heap.size) → wpList Tryz.prog ops Q rest (a.put o.dst v') w') : wpList Tryz.prog ops Q (o :: rest) a w := by
  obtain ⟨i1, hi1, hy0, hy1, hyb⟩ := info_parts Tryz.infoNode
  refine wpList_append_at _ hgd s x 30 ho base 53 i1 (.agg #[.int .i64 0, .int .i64 0, .int .i64 0, .int .i64 0, .int .i64 0, .slice none 0 0]) 6 64 Tryz.underlying30 hi1 hy0 hy1 hyb rfl (by decide) _ _ _ hs hown ⟨B, 0, none⟩ 1 1 (nodeCells nd (.slice la ln lc)) hx rfl (by decide) ?_ ?_ (by unfold maxLen; omega) (by omega) hbase h
  · intro j u hj
    have h2 : (⟨B, 0, none⟩ : Addr).add j = ⟨B, j, none⟩ := by unfold Addr.add; split <;> simp_all
    rw [h2]; exact hrow j u hj
  · intro u hu; simp only [nodeCells, List.mem_cons, List.not_mem_nil, or_false] at hu; rcases hu with rfl | rfl | rfl | rfl | rfl | rfl <;> rfl
theorem ints_tail {w W : World} {g cap : Nat} {vs : List Int} (hc : ∀ i, i < vs.length → w.cell? ⟨g, i, none⟩ = some (.int .i64 (vs.getD i 0))) (hb : Below w.heap.size w W) (hg : g < w.heap.size) (h1 : 1 ≤ vs.length) (h2 : vs.length ≤ cap) (h3 : vs.length ≤ 1000000) : IntsAt W.heap.size W (.slice (some ⟨g, 1, none⟩) (vs.length - 1) (cap - 1)) (vs.drop 1) := by
  refine ⟨_, _, by rw [List.length_drop], by rw [List.length_drop]; omega, by rw [List.length_drop]; unfold maxLen; omega, fun _ => ⟨g, 1, rfl, by have := hb.size; omega, fun i hi => ?_⟩⟩
  rw [List.length_drop] at hi
  rw [hb.cell (p := ⟨g, 1 + i, none⟩) hg, hc (1 + i) (by omega), Nat.add_comm 1 i]; simp [List.getD_eq_getElem?_getD]
theorem ints_none0 {W : World} {g : Nat} {vs : List Int} (h1 : vs.length = 1) : IntsAt W.heap.size W (.slice (some ⟨g, 0, none⟩) 0 0) (vs.drop 1) := by
  rw [List.drop_of_length_le (by omega)]
  exact ⟨_, _, rfl, by simp, by simp [maxLen], fun h => absurd rfl h⟩
theorem ints_none {W : World} {g : Nat} {vs : List Int} (h1 : vs.length = 1) : IntsAt W.heap.size W (.slice (some ⟨g, 0, none⟩) (vs.length - 1) 0) (vs.drop 1) := by
  rw [h1, List.drop_of_length_le (by omega)]
  exact ⟨_, _, rfl, by simp, by simp [maxLen], fun h => absurd rfl h⟩
end Go.Proofs.YtbihjgfbocpobaaGreatDoor

/- The library's calls: a text cut at a line's end, a line cut into its words. -/
set_option linter.unusedSimpArgs false
set_option linter.unusedVariables false
namespace Go.Proofs.YtbihjgfbocpobaaGreatDoor
open Go.RowKit

/-- The library's variable that its entries read: some number. -/
def MaxLenIs (w : World) : Prop := ∃ m, w.cell? ⟨2, 0, none⟩ = some (.int .i64 m)
theorem MaxLenIs.below {B : Nat} {w w' : World} (h : MaxLenIs w) (hB : w.heap.size ≤ B) (hb : Below B w w') : MaxLenIs w' := by
  obtain ⟨m, h⟩ := h
  have hl := World.block_lt_of_cell? w _ h
  exact ⟨m, (hb.cell (p := ⟨2, 0, none⟩) (by omega)).trans h⟩
theorem lcut_any (l : List UInt8) (w : World) (hl : l.length ≤ 100000) (h : MaxLenIs w) : Calls Tryz.prog 78 #[.string ⟨l.toArray⟩, .string ⟨#[10]⟩] w fun e w' => e = .returned (.tuple #[.string ⟨(Lib.cut l [10]).1.toArray⟩, .string ⟨(Lib.cut l [10]).2.1.toArray⟩, .bool (Lib.cut l [10]).2.2]) ∧ Below w.heap.size w w' := by
  obtain ⟨m, h⟩ := h
  refine (Tryz.strings_Cut ⟨l.toArray⟩ ⟨#[10]⟩ m w (by show l.toArray.size < _; simp; omega) h).mono ?_
  rintro e w' ⟨rfl, n, rfl⟩
  exact ⟨rfl, below_drewN (Below.refl _ _) n⟩
theorem map_strV (l : List ByteArray) : l.map Value.string = (l.map (·.data.toList)).map strV := by
  rw [List.map_map]; refine List.map_congr_left (fun b _ => ?_)
  show Value.string b = Value.string ⟨b.data.toList.toArray⟩
  simp
theorem lsplit_any (l : List UInt8) (w : World) (hl : l.length ≤ 40000) (h : MaxLenIs w) : Calls Tryz.prog 79 #[.string ⟨l.toArray⟩, .string ⟨#[32]⟩] w fun e w' => e = .returned (.slice (some ⟨w.heap.size, 0, none⟩) (Fl.cutR 32 l).length (Fl.cutR 32 l).length) ∧ WordsAt w'.heap.size w' (.slice (some ⟨w.heap.size, 0, none⟩) (Fl.cutR 32 l).length (Fl.cutR 32 l).length) (Fl.cutR 32 l) ∧ Below w.heap.size w w' := by
  obtain ⟨m, h⟩ := h
  refine (Tryz.strings_Split ⟨l.toArray⟩ ⟨#[32]⟩ m w (by show l.toArray.size < _; simp; omega) h (by decide)).mono ?_
  have hd : (Lib.splitB ⟨#[32]⟩ 0 (Lib.countB ⟨l.toArray⟩ ⟨#[32]⟩) ⟨l.toArray⟩).map (·.data.toList) = Fl.cutR 32 l := by
    rw [Lib.splitB_data, ← Fl.split_cutR]; rfl
  have hn : Lib.countB ⟨l.toArray⟩ ⟨#[32]⟩ + 1 = (Fl.cutR 32 l).length := by
    rw [← hd, List.length_map, Lib.splitB_all ⟨#[32]⟩ (by decide) 0 _ _ rfl]
  obtain ⟨hc1, hc2⟩ := cutR_len 32 l
  rintro e w' ⟨rfl, rfl⟩
  rw [map_strV, hd, hn]
  refine ⟨rfl, ⟨_, _, rfl, Nat.le_refl _, by unfold maxLen; omega, by omega, fun x hx => by have := hc2 x hx; omega, fun _ => ⟨_, 0, rfl, by simp, fun i hi => ?_⟩⟩, (Below.refl _ _).alloc (Nat.le_refl _) _⟩
  rw [Nat.zero_add, World.cell?_alloc_new]; simp [List.getD_eq_getElem?_getD, hi]
end Go.Proofs.YtbihjgfbocpobaaGreatDoor

/- The program's lines.Each. -/
set_option linter.unusedSimpArgs false
set_option linter.unusedVariables false
namespace Go.Proofs.YtbihjgfbocpobaaGreatDoor
open Go.RowKit

/-- How reading line by line ends: by coming to the end, or by a fault. -/
def EachEnds (St : Nat → List UInt8 → World → Prop) (Rp : Int → Int → World → Prop) (e : Ending) (w' : World) : Prop :=
  (∃ i : Nat, e = .returned (.int .i64 i) ∧ 0 < i ∧ St i [] w') ∨ ∃ n p, e = .panicked (stopAt n p) ∧ Rp n p w'

set_option maxRecDepth 100000 in
set_option maxHeartbeats 4000000 in
theorem each_any (f : FuncId) (cap : Array Value) (l : List UInt8) (w : World) (St : Nat → List UInt8 → World → Prop) (Rp : Int → Int → World → Prop)
    (hin : ∀ args W, (callFunc f args).run Tryz.prog W = .ok (.enter f args) W)
    (hb : ∀ i s W W', St i s W → Below W.heap.size W W' → St i s W')
    (hm : ∀ i s W, St i s W → MaxLenIs W)
    (hs : ∀ i s W, St i s W → s.length + i ≤ 40000)
    (hr : ∀ i s W, St i s W → (i = 0 ∨ s ≠ []) → (Lib.cut s [10]).2.2 = false → Rp 2 ((i : Int) + 1) W)
    (hd : ∀ i s W b n, St i s W → (i = 0 ∨ s ≠ []) → (Lib.cut s [10]).2.2 = true → n = (Fl.cutR 32 (Lib.cut s [10]).1).length → WordsAt W.heap.size W (.slice (some ⟨b, 0, none⟩) n n) (Fl.cutR 32 (Lib.cut s [10]).1) →
      Calls Tryz.prog f (#[.int .i64 ((i : Int) + 1), .slice (some ⟨b, 0, none⟩) n n] ++ cap) W fun e W' => (e = .returned (.tuple #[]) ∧ St (i + 1) (Lib.cut s [10]).2.1 W') ∨ ∃ n p, e = .panicked (stopAt n p) ∧ Rp n p W')
    (h0 : St 0 l w) :
    Calls Tryz.prog 51 #[.string ⟨l.toArray⟩, .func (.func f) #[] cap] w (EachEnds St Rp) := by
  have HB : Hid _ := hb
  have HM : Hid _ := hm
  have HS : Hid _ := hs
  have HRR : Hid _ := hr
  have HD : Hid _ := hd
  have H0 : Hid _ := h0
  clear hb hm hs hr hd h0
  go_enter Tryz.func51, Tryz.ntmps51
  go_wp2
  go_loopw [0, 5] (fun s i wr => ∃ (k : Nat) (t : List UInt8), s = .string ⟨t.toArray⟩ ∧ i = .int .i64 k ∧ St k t wr) (fun s i _ => match s with | .string b => b.size | _ => 0)
  case atStart => exact ⟨0, l, rfl, rfl, H0.out⟩
  case round =>
    obtain ⟨k, t, rfl, rfl, hst⟩ := hrel
    have HST : Hid (St k t wr) := hst
    have hsz := HS.out k t wr hst
    clear hst
    by_cases hgo : k = 0 ∨ t ≠ []
    · have b0 : ((k : Int) == 0) = true ∨ ((k : Int) == 0) = false ∧ t.isEmpty = false := by
        rcases hgo with h | h
        · left; simp [h]
        · by_cases hk : k = 0
          · left; simp [hk]
          · right; exact ⟨by simp; omega, by simpa using h⟩
      have HGO : Hid (k = 0 ∨ t ≠ []) := hgo
      clear hgo
      have hcut := lcut_any t wr (by omega) (HM.out _ _ _ HST.out)
      obtain ⟨a, r, en, hcr⟩ : ∃ a r en, Lib.cut t [10] = (a, r, en) := ⟨_, _, _, rfl⟩
      rw [hcr] at hcut
      have HCUT : Hid (Calls Tryz.prog 78 #[.string ⟨t.toArray⟩, .string ⟨#[10]⟩] wr fun e w' => e = .returned (.tuple #[.string ⟨a.toArray⟩, .string ⟨r.toArray⟩, .bool en]) ∧ Below wr.heap.size wr w') := hcut
      have HCR : Hid (Lib.cut t [10] = (a, r, en)) := hcr
      clear hcut hcr
      rcases b0 with b0 | ⟨b0, b1⟩
      all_goals
        go_wp2_with fail
        refine HCUT.out.mono ?_
        rintro e w1 ⟨rfl, hb1⟩
        have HST1 : Hid (St k t w1) := HB.out _ _ _ _ HST.out hb1
        clear hb1
        cases en with
        | false =>
          go_wp2_with fail
          refine (raise_any 2 ((k : Int) + 1) w1).mono ?_
          rintro e w2 ⟨rfl, hb2⟩
          exact ⟨rfl, .inr ⟨_, _, rfl, HRR.out k t w2 (HB.out _ _ _ _ HST1.out hb2) HGO.out (by rw [HCR.out])⟩⟩
        | true =>
          have hfd := Fl.cut_found 10 t (by rw [HCR.out])
          rw [HCR.out] at hfd
          have hrl : r.length < t.length := hfd.2
          have hal : a.length ≤ 40000 := by
            have := (cutR_len 10 t).2 a (by rw [hfd.1]; exact List.mem_cons_self); omega
          clear hfd
          obtain ⟨nw, hnw⟩ : ∃ nw, nw = (Fl.cutR 32 a).length := ⟨_, rfl⟩
          have HSP : Hid (Calls Tryz.prog 79 #[.string ⟨a.toArray⟩, .string ⟨#[32]⟩] w1 fun e w' => e = .returned (.slice (some ⟨w1.heap.size, 0, none⟩) nw nw) ∧ WordsAt w'.heap.size w' (.slice (some ⟨w1.heap.size, 0, none⟩) nw nw) (Fl.cutR 32 a) ∧ Below w1.heap.size w1 w') := by
            show Calls _ _ _ _ _
            rw [hnw]; exact lsplit_any a w1 hal (HM.out _ _ _ HST1.out)
          have HNW : Hid (nw = (Fl.cutR 32 a).length) := hnw
          clear hnw
          go_wp2_with fail
          refine HSP.out.mono ?_
          rintro e w2 ⟨rfl, hwa, hb2⟩
          have HST2 : Hid (St k t w2) := HB.out _ _ _ _ HST1.out hb2
          have hdo := HD.out k t w2 w1.heap.size nw HST2.out HGO.out (by rw [HCR.out]) (by rw [HCR.out]; exact HNW.out) (by rw [HCR.out]; exact hwa)
          rw [HCR.out] at hdo
          have HDO : Hid (Calls Tryz.prog f (#[.int .i64 ((k : Int) + 1), .slice (some ⟨w1.heap.size, 0, none⟩) nw nw] ++ cap) w2 fun e W' => (e = .returned (.tuple #[]) ∧ St (k + 1) r W') ∨ ∃ n p, e = .panicked (stopAt n p) ∧ Rp n p W') := hdo
          clear hwa hb2 hdo
          go_wp2_with fail
          refine HDO.out.mono ?_
          rintro e w3 (⟨rfl, hs3⟩ | ⟨n, p, rfl, hp⟩)
          · have HS3 : Hid (St (k + 1) r w3) := hs3
            clear hs3
            go_wp2
            go_roundw
            case rel => exact ⟨k + 1, r, rfl, by go_num, HS3.out⟩
            case measure => exact hrl
          · exact ⟨rfl, .inr ⟨_, _, rfl, hp⟩⟩
    · have hk : k ≠ 0 := fun h => hgo (.inl h)
      have ht : t = [] := Classical.byContradiction fun h => hgo (.inr h)
      subst ht
      have b0 : ((k : Int) == 0) = false := by simp; omega
      have HK : Hid (0 < k) := by show 0 < k; omega
      clear hgo hk
      go_wp2
      go_ret
      exact .inl ⟨k, rfl, HK.out, HST.out⟩
end Go.Proofs.YtbihjgfbocpobaaGreatDoor

/- A region that draws its order: operations that only read, an allocation that waits for nobody, and a last one that waits for all. -/
set_option linter.unusedSimpArgs false
set_option linter.unusedVariables false
namespace Go.Proofs.YtbihjgfbocpobaaGreatDoor
open Go.RowKit

/-- The first k are done. -/
def upTo (m : Nat) : Nat → Array Bool
  | 0 => Array.replicate m false
  | k + 1 => (upTo m k).setIfInBounds k true
/-- Operations, each of which yields its value in every world that meets S. -/
def wpHeld (P : Program) (S : World → Prop) (L : Act → Prop) : List Oper → Act → Prop
  | [], a => L a
  | o :: l, a => o.guard = none ∧ ∃ v, (∀ w, S w → (execOp a.eval o).run P w = .ok (.value v) w) ∧ wpHeld P S L l (a.put o.dst v)
theorem wpHeld_step {P : Program} {S : World → Prop} {L : Act → Prop} {o : Oper} {l : List Oper} {a : Act} (hg : o.guard = none)
    (h : ∀ K : Act → Prop, (∀ a', wpHeld P S L l a' → K a') → ∃ v, (∀ w, S w → (execOp a.eval o).run P w = .ok (.value v) w) ∧ K (a.put o.dst v)) : wpHeld P S L (o :: l) a := by
  obtain ⟨v, h1, h2⟩ := h (wpHeld P S L l) (fun _ h => h)
  exact ⟨hg, v, h1, h2⟩
theorem wpHeld_hide {P : Program} {S : World → Prop} {L : Act → Prop} {l : List Oper} {a : Act} (h : ∀ L' : Act → Prop, Hid (∀ a, L a → L' a) → wpHeld P S L' l a) : wpHeld P S L l a := h L (fun _ h => h)
def heldB (ops : Array Oper) (n : Nat) : Bool :=
  Region.noSelect ops && ((List.range n).all (fun k => Region.free .any ops (upTo ops.size k) k && (Region.ready .any ops (upTo ops.size k)).contains k) &&
    (decide (Region.ready .any ops (upTo ops.size n) = [n]) && (decide (Region.ready .any ops (upTo ops.size (n + 1)) = [n + 1]) && decide (Region.ready .any ops (upTo ops.size (n + 2)) = []))))
section
variable {P : Program} {S : World → Prop} {Q : Exit → Act → World → Prop} {w : World}
theorem held_heads {ops : Array Oper} {n f : Nat} (hs : Region.noSelect ops = true) (hall : ∀ k, k < n → Region.free .any ops (upTo ops.size k) k = true ∧ (Region.ready .any ops (upTo ops.size k)).contains k = true)
    (hQ : ∀ c a d v w, Q (.panic c) (Act.put a d v) w → Q (.panic c) a w) (hS : S w) : ∀ (l : List Oper) (k : Nat) (a : Act), (∀ j, j < l.length → l[j]? = ops[k + j]?) → k + l.length = n →
    wpHeld P S (fun a' => wpAnyH P .any ops Q S f (upTo ops.size n) a' w) l a → wpAnyH P .any ops Q S (f + l.length) (upTo ops.size k) a w
  | [], k, a, _, hk, h => by simp only [List.length_nil, Nat.add_zero] at hk ⊢; subst hk; exact h
  | o :: l, k, a, hl, hk, h => by
    obtain ⟨hg, v, h1, h2⟩ := h
    have h0 : ops[k]? = some o := by have := hl 0 (by simp); simpa using this.symm
    have hk' : k < n := by simp only [List.length_cons] at hk; omega
    have ih := held_heads hs hall hQ hS l (k + 1) (a.put o.dst v) (fun j hj => by have := hl (j + 1) (by simp; omega); simpa [Nat.add_assoc, Nat.add_comm 1 j] using this) (by simp only [List.length_cons] at hk; omega) h2
    have := wpAnyH_take (fuel := f + l.length) h0 hs (hall k hk').1 (hall k hk').2 (fun c a w h => hQ c a _ _ w h) (Or.inl ⟨by simp [Region.wanted, hg], h1⟩) hS ih
    simpa [Nat.add_assoc] using this
/-- The law. -/
theorem wp_region_alloc {id : Nat} {a : Act} {l : List Oper} (n : Nat) (hm : P.follows .mixedOrders = true) (hB : heldB l.toArray n = true) (hn : l.length = n + 2)
    (hQ : ∀ c a d v w, Q (.panic c) (Act.put a d v) w → Q (.panic c) a w) (oA oS : Oper) (hA : l[n]? = some oA) (hS' : l[n + 1]? = some oS) (gA : oA.guard = none) (gS : oS.guard = none)
    (hS : S w.drew) (h : wpHeld P S (fun a' => ∃ va w1 w2, (execOp a'.eval oA).run P w.drew = .ok (.value va) w1 ∧ S w1 ∧ (execOp (a'.put oA.dst va).eval oS).run P w1 = .ok .skip w2 ∧ S w2 ∧ Q .normal ((a'.put oA.dst va).put oS.dst undef) w2) (l.take n) a) :
    (Code.region id l.toArray true).wp P Q a w := by
  simp only [heldB, Bool.and_eq_true, decide_eq_true_eq, List.all_eq_true, List.mem_range] at hB
  obtain ⟨hs, hall, r0, r1, r2⟩ := hB
  refine wp_region_held (S := S) hm ?_
  have hz : l.toArray.size = n + 2 := by simp [hn]
  have htl : (l.take n).length = n := by simp; omega
  have key := held_heads (P := P) (S := S) (Q := Q) (w := w.drew) (ops := l.toArray) (n := n) (f := 2) hs hall hQ hS (l.take n) 0 a (fun j hj => by
    have hj' : j < n := by rw [htl] at hj; exact hj
    simp [hj']) (by rw [htl]; simp) ?_
  · rw [htl, Nat.add_comm, ← hz] at key; exact key
  · have mono : ∀ (l' : List Oper) (a : Act) (L L' : Act → Prop), (∀ a, L a → L' a) → wpHeld P S L l' a → wpHeld P S L' l' a := by
      intro l'
      induction l' with
      | nil => intro a L L' hL h; exact hL a h
      | cons o l' ih => intro a L L' hL h; obtain ⟨hg, v, h1, h2⟩ := h; exact ⟨hg, v, h1, ih _ L L' hL h2⟩
    refine mono _ _ _ _ (fun a' ⟨va, w1, w2, e1, s1, e2, s2, q⟩ => ?_) h
    refine wpAnyH_all r0 (by simp) (fun i hi => ?_)
    simp only [List.mem_singleton] at hi
    subst hi
    have hAi : l.toArray[i]? = some oA := by simpa using hA
    have hSi : l.toArray[i + 1]? = some oS := by simpa using hS'
    unfold wpOp
    simp only [hAi, Region.wanted, gA, if_true, Oper.wp, e1, Oper.upon]
    refine .inl ⟨s1, wpAnyH_all r1 (by simp) (fun j hj => ?_)⟩
    simp only [List.mem_singleton] at hj
    subst hj
    unfold wpOp
    simp only [hSi, Region.wanted, gS, if_true, Oper.wp, e2, Oper.upon]
    exact .inl ⟨s2, wpAnyH_done r2 q 0⟩
end
end Go.Proofs.YtbihjgfbocpobaaGreatDoor
