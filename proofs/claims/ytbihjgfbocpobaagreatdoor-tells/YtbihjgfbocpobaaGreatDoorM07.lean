/- Texts Own DecMem CdMem Cda. -/
import Derived.Test.YtbihjgfbocpobaaGreatDoorM06
import Derived.Deep.QuietTactic
import Derived.Test.YtbihjgfbocpobaaGreatDoorProg
import Derived.WalkKit
import Derived.WalkSpells
import Derived.WalkLawsBesides
import Derived.Deep.RegionWith
import Derived.BigQuiet
import Derived.StillTailTactics
/- Where an appended list lies; lists that lie apart. -/
set_option linter.unusedSimpArgs false
set_option linter.unusedVariables false
namespace Go.Proofs.YtbihjgfbocpobaaGreatDoor
open Go.RowKit

section
variable {P : Program} (w : World)
/-- An appended list lies where it lay, or in the newest block. -/
theorem append_where (base : Nat) (t ty e : TypeId) (i : TypeInfo) (z : Value) (size bytes : Nat) (ht : P.underlying t = some (.slice e)) (hi : P.info? e = some i) (hz : i.zero = some z)
    (hsize : i.size = size) (hby : i.bytes = bytes) (hzs : z.cells.size = size) (hsz : 0 < size)
    (v : Value) (n : Nat) (xs : List Value) (hown : w.ownsRow base e size v n xs)
    (a : Addr) (m c : Nat) (news : List Value) (hl : news.length = m * size) (hnews : ∀ j u, news[j]? = some u → w.cell? (a.add j) = some u) (h1 : ∀ u ∈ news, u.oneCell' = true)
    (h63 : n + m ≤ maxLen) (hbytes : (n + m) * bytes ≤ 140737488355328) (hbase : base ≤ w.heap.size) (hm : 0 < m) :
    ∃ v' w', (Builtin.append_ #[t, t] ty #[v, .slice (some a) m c]).run P w = .ok v' w' ∧ w'.ownsRow base e size v' (n + m) (xs ++ news) ∧ w.grownBy w' v.ownBlock ∧ (v'.ownBlock = v.ownBlock ∨ v'.ownBlock = some w.heap.size) := by
  obtain ⟨v', w', hr, ho, hg, _⟩ := run_append_own (P := P) w base t ty e i z size bytes ht hi hz hsize hby hzs hsz v n xs hown a m c news hl hnews h1 h63 hbytes hbase
  refine ⟨v', w', hr, ho, hg, ?_⟩
  rcases hown.2 with ⟨rfl, h0⟩ | ⟨g, cap, cur, rfl, hbg, hgg, hnc, hcm, hcs, htake⟩
  · subst h0
    have hr2 := run_append_nil (P := P) w t ty e i z ht hi hz a m c news (by rw [hsize]; exact hl) hnews hm (by unfold maxLen at h63; omega) (by rw [hby]; simp only [Nat.zero_add] at hbytes; omega)
    rw [hr2] at hr
    injection hr with hv _
    right; rw [← hv]; rfl
  · by_cases hroom : n + m ≤ cap
    · have hfit : n * i.size + news.length ≤ cur.size := by
        rw [hcs, hl, hsize, ← Nat.add_mul]; exact Nat.mul_le_mul_right _ hroom
      have hr2 := run_append_room (P := P) w t ty e i ht hi g n cap cur hgg a m c news (by rw [hsize]; exact hl) hnews h1 hroom hfit
      rw [hr2] at hr
      injection hr with hv _
      left; rw [← hv]; rfl
    · have h63' : ((n + m : Nat) : Int) ≤ 9223372036854775807 := by unfold maxLen at h63; omega
      have hr2 := run_append_grow (P := P) w t ty e i z ht hi hz ⟨g, 0, none⟩ n cap xs (by rw [hsize]; exact hown.1) (hown.cells rfl) a m c news (by rw [hsize]; exact hl) hnews (by omega) h63' (growslice_fits (by omega) (by rw [hby]; exact hbytes))
      rw [hr2] at hr
      injection hr with hv _
      right; rw [← hv]; rfl

/-- The same, met in a walk. -/
theorem wpList_append_at {ops : Array Oper} {rest : List Oper} {o : Oper} {a : Act} {Q : Exit → Act → World → Prop} (hgd : o.guard = none) (s x : Operand) (t : TypeId)
    (ho : o.op = .call { callee := .builtin .append, args := #[s, x], argTypes := #[t, t] })
    (base : Nat) (e : TypeId) (i : TypeInfo) (z : Value) (size bytes : Nat) (ht : P.underlying t = some (.slice e)) (hi : P.info? e = some i) (hz : i.zero = some z)
    (hsize : i.size = size) (hby : i.bytes = bytes) (hzs : z.cells.size = size) (hsz : 0 < size)
    (v : Value) (n : Nat) (xs : List Value) (hs : a.eval s = v) (hown : w.ownsRow base e size v n xs)
    (ad : Addr) (m c : Nat) (news : List Value) (hx : a.eval x = .slice (some ad) m c) (hl : news.length = m * size) (hm : 0 < m) (hnews : ∀ j u, news[j]? = some u → w.cell? (ad.add j) = some u) (h1 : ∀ u ∈ news, u.oneCell' = true)
    (h63 : n + m ≤ maxLen) (hbytes : (n + m) * bytes ≤ 140737488355328) (hbase : base ≤ w.heap.size)
    (h : ∀ v' w', w'.ownsRow base e size v' (n + m) (xs ++ news) → w.grownBy w' v.ownBlock → (v'.ownBlock = v.ownBlock ∨ v'.ownBlock = some w.heap.size) → wpList P ops Q rest (a.put o.dst v') w') : wpList P ops Q (o :: rest) a w :=
  wpList_plain hgd fun _ hK => by
    obtain ⟨v', w', hr, h2, h3, h4⟩ := append_where (P := P) w base t o.type e i z size bytes ht hi hz hsize hby hzs hsz v n xs hown ad m c news hl hnews h1 h63 hbytes hbase hm
    have hgo := hK _ _ (h v' w' h2 h3 h4)
    unfold Oper.wp execOp
    simp only [ho, resolve, invoke, builtin, Sem.run_bind, Sem.run_pure, Result.andThen_ok, List.map_toArray, List.map_cons, List.map_nil, hs, hx, hr]
    exact hgo
end

/-- A list of nodes, laid out cell by cell. -/
def nodeCells (n : Fl.Node) (lv : Value) : List Value := [.int .i64 n.kind, .int .i64 n.level, .int .i64 n.a, .int .i64 n.b, .int .i64 n.c, lv]
def flat : List Fl.Node → List Value → List Value
  | n :: ns, lv :: lvs => nodeCells n lv ++ flat ns lvs
  | _, _ => []
theorem flat_len : ∀ (ns : List Fl.Node) (lvs : List Value), lvs.length = ns.length → (flat ns lvs).length = ns.length * 6
  | [], [], _ => rfl
  | n :: ns, lv :: lvs, h => by
    have := flat_len ns lvs (by simpa using h)
    simp only [flat, nodeCells, List.length_append, List.length_cons, List.length_nil, this]; omega
theorem flat_snoc : ∀ (ns : List Fl.Node) (lvs : List Value) (n : Fl.Node) (lv : Value), lvs.length = ns.length → flat (ns ++ [n]) (lvs ++ [lv]) = flat ns lvs ++ nodeCells n lv
  | [], [], n, lv, _ => by simp [flat]
  | m :: ns, l :: lvs, n, lv, h => by
    simp only [List.cons_append, flat, flat_snoc ns lvs n lv (by simpa using h), List.append_assoc]
theorem flat_at : ∀ (ns : List Fl.Node) (lvs : List Value) (i j : Nat), lvs.length = ns.length → i < ns.length → j < 6 → (flat ns lvs)[i * 6 + j]? = (nodeCells (Fl.nth ns i) (lvs.getD i (.slice none 0 0)))[j]?
  | n :: ns, lv :: lvs, 0, j, _, _, hj => by
    simp only [flat, Nat.zero_mul, Nat.zero_add]
    rw [List.getElem?_append_left (by simp [nodeCells]; omega)]; rfl
  | n :: ns, lv :: lvs, i + 1, j, h, hi, hj => by
    have := flat_at ns lvs i j (by simpa using h) (by simpa using hi) hj
    simp only [flat]
    rw [List.getElem?_append_right (by simp [nodeCells]; omega)]
    rw [show (i + 1) * 6 + j - (nodeCells n lv).length = i * 6 + j from by simp [nodeCells]; omega, this]
    rfl
/-- Nodes that the call itself has built are nodes in memory. -/
theorem nodes_of_own {base : Nat} {w : World} {e : TypeId} {v : Value} {ns : List Fl.Node} {lvs : List Value} (h : w.ownsRow base e 6 v ns.length (flat ns lvs)) (hl : lvs.length = ns.length) (hi : ∀ i, i < ns.length → IntsAt w.heap.size w (lvs.getD i (.slice none 0 0)) (Fl.nth ns i).list) : NodesAt w.heap.size w v ns := by
  rcases h.2 with ⟨rfl, h0⟩ | ⟨g, cap, cur, rfl, hb, hg, hnc, hcm, hcs, ht⟩
  · have : ns = [] := List.eq_nil_of_length_eq_zero h0
    subst this; exact NodesAt.nil _ _
  · refine ⟨_, cap, rfl, hnc, by omega, fun _ => ⟨g, 0, rfl, (Array.getElem?_eq_some_iff.1 hg).1, fun i hil => ⟨lvs.getD i (.slice none 0 0), hi i hil, ?_⟩⟩⟩
    have q : ∀ j u, j < 6 → (nodeCells (Fl.nth ns i) (lvs.getD i (.slice none 0 0)))[j]? = some u → w.cell? ⟨g, i * 6 + j, none⟩ = some u := fun j u hj hu => by
      have h1 := h.cells (g := g) rfl (i * 6 + j) u (by rw [flat_at ns lvs i j hl hil hj]; exact hu)
      have h2 : (⟨g, 0, none⟩ : Addr).add (i * 6 + j) = ⟨g, i * 6 + j, none⟩ := by unfold Addr.add; split <;> simp_all
      rw [h2] at h1; exact h1
    simp only [Nat.zero_add]
    exact ⟨q 0 _ (by omega) rfl, q 1 _ (by omega) rfl, q 2 _ (by omega) rfl, q 3 _ (by omega) rfl, q 4 _ (by omega) rfl, q 5 _ (by omega) rfl⟩
end Go.Proofs.YtbihjgfbocpobaaGreatDoor

/- What the loop of Decode holds in memory. -/
set_option linter.unusedSimpArgs false
set_option linter.unusedVariables false
namespace Go.Proofs.YtbihjgfbocpobaaGreatDoor
open Go.RowKit

theorem ints_grown {w w' : World} {lv : Value} {xs : List Int} {row : Option Nat} (h : IntsAt w.heap.size w lv xs) (hne : xs ≠ [] → lv.ownBlock ≠ row) (hg : w.grownBy w' row) : IntsAt w'.heap.size w' lv xs := by
  obtain ⟨ao, cap, rfl, hc, hl, hx⟩ := h
  refine ⟨ao, cap, rfl, hc, hl, fun hxs => ?_⟩
  obtain ⟨b, off, rfl, hb, hcell⟩ := hx hxs
  refine ⟨b, off, rfl, Nat.lt_of_lt_of_le hb hg.size, fun i hi => ?_⟩
  exact hg.cell (hcell i hi) (by simpa [Value.ownBlock] using hne hxs)
theorem ints_below {w w' : World} {lv : Value} {xs : List Int} (h : IntsAt w.heap.size w lv xs) (hb : Below w.heap.size w w') : IntsAt w'.heap.size w' lv xs := (h.below hb).mono hb.size
theorem ints_alloc {w : World} {lv : Value} {xs : List Int} (h : IntsAt w.heap.size w lv xs) (o : Obj) : IntsAt (w.alloc o).heap.size (w.alloc o) lv xs := ints_below h ((Below.refl _ _).alloc (Nat.le_refl _) _)
theorem ints_lt {w : World} {lv : Value} {xs : List Int} (h : IntsAt w.heap.size w lv xs) (hne : xs ≠ []) : ∃ b, lv.ownBlock = some b ∧ b < w.heap.size := by
  obtain ⟨ao, cap, rfl, hc, hl, hx⟩ := h
  obtain ⟨b, off, rfl, hb, _⟩ := hx hne
  exact ⟨b, rfl, hb⟩
theorem ints_set {w : World} {lv : Value} {xs : List Int} {a : Addr} {u : Value} (h : IntsAt w.heap.size w lv xs) (hne : xs ≠ [] → lv.ownBlock ≠ some a.block) : IntsAt (w.setCell a u).heap.size (w.setCell a u) lv xs := by
  have hs : (w.setCell a u).heap.size = w.heap.size := by simp [World.setCell]
  obtain ⟨ao, cap, rfl, hc, hl, hx⟩ := h
  refine ⟨ao, cap, rfl, hc, hl, fun hxs => ?_⟩
  obtain ⟨b, off, rfl, hb, hcell⟩ := hx hxs
  refine ⟨b, off, rfl, by omega, fun i hi => ?_⟩
  rw [World.cell?_of_block (w := w) (Below.heap_setCell w a u b (by have := hne hxs; simpa [Value.ownBlock] using this))]
  exact hcell i hi
theorem own_types {w : World} {base base' : Nat} {e e' : TypeId} {size size' : Nat} {v v' : Value} {n n' : Nat} {xs xs' : List Value} (h : w.ownsRow base e size v n xs) (h' : w.ownsRow base' e' size' v' n' xs') (hne : e ≠ e') : v.ownBlock = none ∨ v.ownBlock ≠ v'.ownBlock := by
  rcases h.2 with ⟨rfl, _⟩ | ⟨g, cap, cur, rfl, hb, hg, _⟩
  · left; rfl
  · right
    rcases h'.2 with ⟨rfl, _⟩ | ⟨g', cap', cur', rfl, hb', hg', _⟩
    · simp [Value.ownBlock]
    · intro hh
      simp only [Value.ownBlock, Option.some.injEq] at hh
      rw [hh] at hg; rw [hg] at hg'
      simp only [Option.some.injEq, Obj.cells.injEq] at hg'
      exact hne hg'.2.1

/-- A list that stays while two others are appended to. -/
def Kept (w : World) (lv : Value) (xs : List Int) (sv nv : Value) : Prop := IntsAt w.heap.size w lv xs ∧ (xs ≠ [] → lv.ownBlock ≠ sv.ownBlock ∧ lv.ownBlock ≠ nv.ownBlock)

/-- Behind an append to the first of them. -/
theorem Kept.first {w w' : World} {lv sv nv sv' : Value} {xs : List Int} (h : Kept w lv xs sv nv) (hg : w.grownBy w' sv.ownBlock) (hw : sv'.ownBlock = sv.ownBlock ∨ sv'.ownBlock = some w.heap.size) : Kept w' lv xs sv' nv := by
  refine ⟨ints_grown h.1 (fun hx => (h.2 hx).1) hg, fun hx => ⟨?_, (h.2 hx).2⟩⟩
  rcases hw with hw | hw
  · rw [hw]; exact (h.2 hx).1
  · obtain ⟨b, hb, hlt⟩ := ints_lt h.1 hx
    rw [hw, hb]; intro hh; simp at hh; omega
theorem Kept.second {w w' : World} {lv sv nv nv' : Value} {xs : List Int} (h : Kept w lv xs sv nv) (hg : w.grownBy w' nv.ownBlock) (hw : nv'.ownBlock = nv.ownBlock ∨ nv'.ownBlock = some w.heap.size) : Kept w' lv xs sv nv' := by
  refine ⟨ints_grown h.1 (fun hx => (h.2 hx).2) hg, fun hx => ⟨(h.2 hx).1, ?_⟩⟩
  rcases hw with hw | hw
  · rw [hw]; exact (h.2 hx).2
  · obtain ⟨b, hb, hlt⟩ := ints_lt h.1 hx
    rw [hw, hb]; intro hh; simp at hh; omega
theorem Kept.alloc {w : World} {lv sv nv : Value} {xs : List Int} (h : Kept w lv xs sv nv) (o : Obj) : Kept (w.alloc o) lv xs sv nv := ⟨ints_alloc h.1 o, h.2⟩
theorem Kept.below {w w' : World} {lv sv nv : Value} {xs : List Int} (h : Kept w lv xs sv nv) (hb : Below w.heap.size w w') : Kept w' lv xs sv nv := ⟨ints_below h.1 hb, h.2⟩
/-- A list that was made behind them. -/
theorem Kept.new {w w' : World} {lv sv nv : Value} {xs : List Int} (h : IntsAt w'.heap.size w' lv xs) (hf : ∀ b, lv.ownBlock = some b → w.heap.size ≤ b) (hs : ∀ b, sv.ownBlock = some b → b < w.heap.size) (hn : ∀ b, nv.ownBlock = some b → b < w.heap.size) : Kept w' lv xs sv nv := by
  refine ⟨h, fun hx => ?_⟩
  obtain ⟨b, hb, hlt⟩ := ints_lt h hx
  have := hf b hb
  refine ⟨fun hh => ?_, fun hh => ?_⟩
  · have := hs b (hh.symm.trans hb); omega
  · have := hn b (hh.symm.trans hb); omega
theorem Kept.set {w : World} {lv sv nv : Value} {xs : List Int} {a : Addr} {u : Value} (h : Kept w lv xs sv nv) (hne : xs ≠ [] → lv.ownBlock ≠ some a.block) : Kept (w.setCell a u) lv xs sv nv := ⟨ints_set h.1 hne, h.2⟩

/-- What the loop of Decode holds in memory: two lists that are appended to (sv: ints, nv: nodes), lists that stay (fam), the proof's own cells (lv, cv), the result's. -/
structure Fam (w wr : World) (lv cv : Value) (fam : List (Value × List Int)) (sv nv : Value) (n1 n2 : Nat) (xs ys : List Value) : Prop where
  hs : wr.ownsRow (w.heap.size + 2) 3 1 sv n1 xs
  hn : wr.ownsRow (w.heap.size + 2) 53 6 nv n2 ys
  hall : ∀ p, p ∈ fam → Kept wr p.1 p.2 sv nv ∧ (p.2 ≠ [] → ∀ b, p.1.ownBlock = some b → w.heap.size + 2 ≤ b)
  c0 : wr.cell? ⟨w.heap.size + 1, 0, none⟩ = some lv
  c1 : wr.cell? ⟨w.heap.size + 1, 1, none⟩ = some cv
  d0 : wr.cell? ⟨w.heap.size, 0, none⟩ = some (.slice none 0 0)
  d1 : wr.cell? ⟨w.heap.size, 1, none⟩ = some (.slice none 0 0)
  f0 : ∀ j, wr.frozen? ⟨w.heap.size, j, none⟩ = false
  f1 : ∀ j, wr.frozen? ⟨w.heap.size + 1, j, none⟩ = false
  hb : Below w.heap.size w wr
  hz : w.heap.size + 2 ≤ wr.heap.size

section
variable {w wr w' : World} {lv cv : Value} {fam : List (Value × List Int)} {sv nv : Value} {n1 n2 : Nat} {xs ys : List Value}
theorem Fam.below (h : Fam w wr lv cv fam sv nv n1 n2 xs ys) (hb : Below wr.heap.size wr w') : Fam w w' lv cv fam sv nv n1 n2 xs ys := by
  have q : ∀ b o, b < wr.heap.size → w'.cell? ⟨b, o, none⟩ = wr.cell? ⟨b, o, none⟩ := fun b o hlt => hb.cell (p := ⟨b, o, none⟩) hlt
  have f : ∀ b o, b < wr.heap.size → w'.frozen? ⟨b, o, none⟩ = wr.frozen? ⟨b, o, none⟩ := fun b o hlt => hb.frozen (p := ⟨b, o, none⟩) hlt
  have hz := h.hz
  have hsz := hb.size
  have og : wr.grownBy w' none := ⟨hb.os, hb.tape, hb.output, hb.size, fun k hk _ => hb.block k hk⟩
  exact ⟨h.hs.kept og (by cases sv.ownBlock <;> simp), h.hn.kept og (by cases nv.ownBlock <;> simp), fun p hp => ⟨(h.hall p hp).1.below hb, (h.hall p hp).2⟩,
    (q _ _ (by omega)).trans h.c0, (q _ _ (by omega)).trans h.c1, (q _ _ (by omega)).trans h.d0, (q _ _ (by omega)).trans h.d1, fun j => (f _ _ (by omega)).trans (h.f0 j), fun j => (f _ _ (by omega)).trans (h.f1 j), h.hb.trans (hb.mono (by omega)), by omega⟩
theorem Fam.alloc (h : Fam w wr lv cv fam sv nv n1 n2 xs ys) (o : Obj) : Fam w (wr.alloc o) lv cv fam sv nv n1 n2 xs ys := h.below ((Below.refl _ _).alloc (Nat.le_refl _) _)
theorem Fam.drew (h : Fam w wr lv cv fam sv nv n1 n2 xs ys) : Fam w wr.drew lv cv fam sv nv n1 n2 xs ys := h.below ((Below.refl _ _).drew)
theorem Fam.add (h : Fam w wr lv cv fam sv nv n1 n2 xs ys) {lvn : Value} {l : List Int} {N : Nat} (hi : IntsAt wr.heap.size wr lvn l) (hf : ∀ b, lvn.ownBlock = some b → N ≤ b) (hsN : ∀ b, sv.ownBlock = some b → b < N) (hnN : ∀ b, nv.ownBlock = some b → b < N) (hN : w.heap.size + 2 ≤ N) : Fam w wr lv cv (fam ++ [(lvn, l)]) sv nv n1 n2 xs ys := by
  refine ⟨h.hs, h.hn, fun p hp => ?_, h.c0, h.c1, h.d0, h.d1, h.f0, h.f1, h.hb, h.hz⟩
  simp only [List.mem_append, List.mem_singleton] at hp
  rcases hp with hp | rfl
  · exact h.hall p hp
  · refine ⟨⟨hi, fun hx => ?_⟩, fun _ b hb => by have := hf b hb; omega⟩
    obtain ⟨b, hb, hlt⟩ := ints_lt hi hx
    have := hf b hb
    exact ⟨fun hh => by have := hsN b (hh.symm.trans hb); omega, fun hh => by have := hnN b (hh.symm.trans hb); omega⟩
theorem Fam.oldne (h : Fam w wr lv cv fam sv nv n1 n2 xs ys) : (∀ b, b < w.heap.size + 2 → some b ≠ sv.ownBlock) ∧ (∀ b, b < w.heap.size + 2 → some b ≠ nv.ownBlock) :=
  ⟨fun b hb hh => by have := (h.hs.lt b hh.symm).1; omega, fun b hb hh => by have := (h.hn.lt b hh.symm).1; omega⟩
theorem Fam.first (h : Fam w wr lv cv fam sv nv n1 n2 xs ys) {sv' : Value} {n1' : Nat} {xs' : List Value} (ho : w'.ownsRow (w.heap.size + 2) 3 1 sv' n1' xs') (hg : wr.grownBy w' sv.ownBlock) (hw : sv'.ownBlock = sv.ownBlock ∨ sv'.ownBlock = some wr.heap.size) : Fam w w' lv cv fam sv' nv n1' n2 xs' ys := by
  have hz := h.hz
  have hne := h.oldne.1
  have f : ∀ b j, b < w.heap.size + 2 → w'.frozen? ⟨b, j, none⟩ = wr.frozen? ⟨b, j, none⟩ := fun b j hlt => World.frozen?_of_block (w := wr) (hg.block b (by omega) (hne b hlt))
  refine ⟨ho, h.hn.kept hg ?_, fun p hp => ⟨(h.hall p hp).1.first hg hw, (h.hall p hp).2⟩, hg.cell h.c0 (hne _ (by simp)), hg.cell h.c1 (hne _ (by simp)), hg.cell h.d0 (hne _ (by simp)), hg.cell h.d1 (hne _ (by simp)), fun j => (f _ _ (by omega)).trans (h.f0 j), fun j => (f _ _ (by omega)).trans (h.f1 j), h.hb.grown hg (by omega) (fun g hgg => by have := (h.hs.lt g hgg).1; omega), by have := hg.size; omega⟩
  exact own_types h.hn h.hs (by decide)
theorem Fam.second (h : Fam w wr lv cv fam sv nv n1 n2 xs ys) {nv' : Value} {n2' : Nat} {ys' : List Value} (ho : w'.ownsRow (w.heap.size + 2) 53 6 nv' n2' ys') (hg : wr.grownBy w' nv.ownBlock) (hw : nv'.ownBlock = nv.ownBlock ∨ nv'.ownBlock = some wr.heap.size) : Fam w w' lv cv fam sv nv' n1 n2' xs ys' := by
  have hz := h.hz
  have hne := h.oldne.2
  have f : ∀ b j, b < w.heap.size + 2 → w'.frozen? ⟨b, j, none⟩ = wr.frozen? ⟨b, j, none⟩ := fun b j hlt => World.frozen?_of_block (w := wr) (hg.block b (by omega) (hne b hlt))
  refine ⟨h.hs.kept hg ?_, ho, fun p hp => ⟨(h.hall p hp).1.second hg hw, (h.hall p hp).2⟩, hg.cell h.c0 (hne _ (by simp)), hg.cell h.c1 (hne _ (by simp)), hg.cell h.d0 (hne _ (by simp)), hg.cell h.d1 (hne _ (by simp)), fun j => (f _ _ (by omega)).trans (h.f0 j), fun j => (f _ _ (by omega)).trans (h.f1 j), h.hb.grown hg (by omega) (fun g hgg => by have := (h.hn.lt g hgg).1; omega), by have := hg.size; omega⟩
  exact own_types h.hs h.hn (by decide)
theorem Fam.store (h : Fam w wr lv cv fam sv nv n1 n2 xs ys) (u : Value) : Fam w (wr.setCell ⟨w.heap.size + 1, 1, none⟩ u) lv u fam sv nv n1 n2 xs ys := by
  have hz := h.hz
  have hs : (wr.setCell ⟨w.heap.size + 1, 1, none⟩ u).heap.size = wr.heap.size := by simp [World.setCell]
  have q : ∀ j, (wr.setCell ⟨w.heap.size + 1, 1, none⟩ u).cell? ⟨w.heap.size, j, none⟩ = wr.cell? ⟨w.heap.size, j, none⟩ := fun j => by apply World.cell?_setCell_other; intro hh; injection hh with h2; omega
  refine ⟨ownsRow_setCell_below h.hs (by simp) u, ownsRow_setCell_below h.hn (by simp) u, fun p hp => ⟨(h.hall p hp).1.set (fun hx => ?_), (h.hall p hp).2⟩, ?_, World.cell?_setCell_same' _ _ _ (by simp [h.c1]), (q 0).trans h.d0, (q 1).trans h.d1, fun j => by rw [World.frozen?_setCell]; exact h.f0 j, fun j => by rw [World.frozen?_setCell]; exact h.f1 j, h.hb.setCell (by simp) u, by omega⟩
  · intro hh
    have h3 : w.heap.size + 2 ≤ w.heap.size + 1 := (h.hall p hp).2 hx _ hh
    omega
  · have h4 : (wr.setCell ⟨w.heap.size + 1, 1, none⟩ u).cell? ⟨w.heap.size + 1, 0, none⟩ = wr.cell? ⟨w.heap.size + 1, 0, none⟩ := by
      apply World.cell?_setCell_other; intro hh; injection hh with _ h2; exact absurd h2 (by decide)
    rw [h4]; exact h.c0
end

/-- The lists of nodes. -/
def famOf : List Fl.Node → List Value → List (Value × List Int)
  | n :: ns, lv :: lvs => (lv, n.list) :: famOf ns lvs
  | _, _ => []
theorem famOf_snoc : ∀ (ns : List Fl.Node) (lvs : List Value) (n : Fl.Node) (lv : Value), lvs.length = ns.length → famOf (ns ++ [n]) (lvs ++ [lv]) = famOf ns lvs ++ [(lv, n.list)]
  | [], [], n, lv, _ => rfl
  | m :: ns, l :: lvs, n, lv, h => by simp only [List.cons_append, famOf, famOf_snoc ns lvs n lv (by simpa using h)]
theorem famOf_mem : ∀ (ns : List Fl.Node) (lvs : List Value) (i : Nat), lvs.length = ns.length → i < ns.length → (lvs.getD i (.slice none 0 0), (Fl.nth ns i).list) ∈ famOf ns lvs
  | n :: ns, lv :: lvs, 0, _, _ => by simp [famOf, Fl.nth]
  | n :: ns, lv :: lvs, i + 1, h, hi => by
    have := famOf_mem ns lvs i (by simpa using h) (by simpa using hi)
    simp only [famOf, List.mem_cons]; right; exact this

/-- What the loop of Decode holds at its head: k nodes are read, the next one is at byte q. -/
structure DecRel (s : List UInt8) (M q0 : Nat) (w : World) (lv : Value) (ls : List Int) (wr : World) (k q : Nat) (sv nv : Value) (st : List Int) (acc : List Fl.Node) (lvs : List Value) : Prop where
  hk : k ≤ M
  hq : q ≤ s.length
  hst : st.length = k
  hacc : acc.length = k
  hlvs : lvs.length = k
  hrun : Fl.nodesA s M 0 q0 [] [] = Fl.nodesA s (M - k) k q st acc
  hf : Fam w wr lv nv ((lv, ls) :: famOf acc lvs) sv nv k k (st.map (Value.int .i64)) (flat acc lvs)
theorem DecRel.nodes {s : List UInt8} {M q0 : Nat} {w wr : World} {lv : Value} {ls : List Int} {k q : Nat} {sv nv : Value} {st : List Int} {acc : List Fl.Node} {lvs : List Value} (h : DecRel s M q0 w lv ls wr k q sv nv st acc lvs) : NodesAt wr.heap.size wr nv acc :=
  nodes_of_own (by rw [h.hacc]; exact h.hf.hn) (by rw [h.hacc, h.hlvs]) (fun i hi => (h.hf.hall _ (by simp only [List.mem_cons]; right; exact famOf_mem acc lvs i (by rw [h.hacc, h.hlvs]) hi)).1.1)
theorem DecRel.locals {s : List UInt8} {M q0 : Nat} {w wr : World} {lv : Value} {ls : List Int} {k q : Nat} {sv nv : Value} {st : List Int} {acc : List Fl.Node} {lvs : List Value} (h : DecRel s M q0 w lv ls wr k q sv nv st acc lvs) : IntsAt wr.heap.size wr lv ls := (h.hf.hall (lv, ls) (by simp)).1.1

theorem Fam.res {w wr : World} {lv cv : Value} {fam : List (Value × List Int)} {sv nv : Value} {n1 n2 : Nat} {xs ys : List Value} (h : Fam w wr lv cv fam sv nv n1 n2 xs ys) (u u' : Value) :
    ((wr.setCell ⟨w.heap.size, 0, none⟩ u).setCell ⟨w.heap.size, 1, none⟩ u').ownsRow (w.heap.size + 2) 53 6 nv n2 ys ∧
    ∀ p, p ∈ fam → IntsAt ((wr.setCell ⟨w.heap.size, 0, none⟩ u).setCell ⟨w.heap.size, 1, none⟩ u').heap.size ((wr.setCell ⟨w.heap.size, 0, none⟩ u).setCell ⟨w.heap.size, 1, none⟩ u') p.1 p.2 := by
  refine ⟨ownsRow_setCell_below (ownsRow_setCell_below h.hn (by simp) u) (by simp) u', fun p hp => ?_⟩
  have hne : p.2 ≠ [] → p.1.ownBlock ≠ some w.heap.size := fun hx hh => by
    have h3 : w.heap.size + 2 ≤ w.heap.size := (h.hall p hp).2 hx _ hh
    omega
  exact ints_set (ints_set (h.hall p hp).1.1 hne) hne
/-- A proof that was read lies in memory, behind the result's cells too. -/
theorem DecRel.ends {s : List UInt8} {M q0 : Nat} {w wr w' : World} {lv : Value} {ls : List Int} {k q : Nat} {sv nv : Value} {st : List Int} {acc : List Fl.Node} {lvs : List Value} (h : DecRel s M q0 w lv ls wr k q sv nv st acc lvs) (hb : Below wr.heap.size wr w') (u u' : Value) :
    IntsAt ((w'.setCell ⟨w.heap.size, 0, none⟩ u).setCell ⟨w.heap.size, 1, none⟩ u').heap.size ((w'.setCell ⟨w.heap.size, 0, none⟩ u).setCell ⟨w.heap.size, 1, none⟩ u') lv ls ∧
    NodesAt ((w'.setCell ⟨w.heap.size, 0, none⟩ u).setCell ⟨w.heap.size, 1, none⟩ u').heap.size ((w'.setCell ⟨w.heap.size, 0, none⟩ u).setCell ⟨w.heap.size, 1, none⟩ u') nv acc := by
  have hr := (h.hf.below hb).res u u'
  exact ⟨hr.2 (lv, ls) (by simp), nodes_of_own (by rw [h.hacc]; exact hr.1) (by rw [h.hacc, h.hlvs]) (fun i hi => hr.2 _ (by simp only [List.mem_cons]; right; exact famOf_mem acc lvs i (by rw [h.hacc, h.hlvs]) hi))⟩
theorem own_shape6 {w : World} {base : Nat} {e : TypeId} {size : Nat} {v : Value} {n : Nat} {xs : List Value} (h : w.ownsRow base e size v n xs) : ∃ ao cap, v = .slice ao n cap := by
  rcases h.2 with ⟨rfl, rfl⟩ | ⟨g, cap, cur, rfl, _⟩
  · exact ⟨_, _, rfl⟩
  · exact ⟨_, _, rfl⟩
theorem row_new {w : World} {e : TypeId} (vs : List Value) : ∀ j u, vs[j]? = some u → (w.alloc (.cells vs.toArray e)).cell? ((⟨w.heap.size, 0, none⟩ : Addr).add j) = some u := by
  intro j u hj
  have h2 : (⟨w.heap.size, 0, none⟩ : Addr).add j = ⟨w.heap.size, j, none⟩ := by unfold Addr.add; split <;> simp_all
  rw [h2, World.cell?_alloc_new]; simpa using hj
/-- One node more. -/
theorem DecRel.step {s : List UInt8} {M q0 : Nat} {w wr w' : World} {lv : Value} {ls : List Int} {k q : Nat} {sv nv sv' nv' : Value} {st : List Int} {acc : List Fl.Node} {lvs : List Value} {nd : Fl.Node} {af fb : Int} {lvn : Value} (h : DecRel s M q0 w lv ls wr k q sv nv st acc lvs) (hkM : k < M) (ho : Fl.one s q k = (nd, af, fb)) (haf : 0 ≤ af) (haf2 : af ≤ s.length)
    (hf : Fam w w' lv nv' (((lv, ls) :: famOf acc lvs) ++ [(lvn, nd.list)]) sv' nv' (k + 1) (k + 1) (st.map (Value.int .i64) ++ [.int .i64 (q : Int)]) (flat acc lvs ++ nodeCells nd lvn)) :
    DecRel s M q0 w lv ls w' (k + 1) af.toNat sv' nv' (st ++ [(q : Int)]) (acc ++ [nd]) (lvs ++ [lvn]) := by
  refine ⟨by omega, by omega, by simp [h.hst], by simp [h.hacc], by simp [h.hlvs], ?_, ?_⟩
  · rw [h.hrun, show M - k = (M - (k + 1)) + 1 from by omega]; simp only [Fl.nodesA, ho]; rw [if_neg (by omega)]
  · have hlen : lvs.length = acc.length := by rw [h.hacc, h.hlvs]
    rw [famOf_snoc _ _ _ _ hlen, flat_snoc _ _ _ _ hlen, List.map_append]
    exact hf
end Go.Proofs.YtbihjgfbocpobaaGreatDoor

/- The program's reading of bytes: what it holds in memory. -/
set_option linter.unusedSimpArgs false
set_option linter.unusedVariables false
namespace Go.Proofs.YtbihjgfbocpobaaGreatDoor
open Go.RowKit

/-- The panic by which reading stops. -/
def stopAt (e p : Int) : List PanicEntry := [{ v := .iface 126 (.agg #[.int .i64 e, .int .i64 p]), recovered := false }]

/-- Of what was there nothing has turned but cell 1 of block b. -/
structure Mv (w w' : World) (b : Nat) : Prop where
  g : w.grownBy w' (some b)
  o : ∀ j, j ≠ 1 → w'.cell? ⟨b, j, none⟩ = w.cell? ⟨b, j, none⟩
  f : ∀ j, w'.frozen? ⟨b, j, none⟩ = w.frozen? ⟨b, j, none⟩
theorem Mv.refl (w : World) (b : Nat) : Mv w w b := ⟨World.grownBy.refl _ _, fun _ _ => rfl, fun _ => rfl⟩
theorem Mv.trans {w w1 w2 : World} {b : Nat} (h : Mv w w1 b) (k : Mv w1 w2 b) : Mv w w2 b :=
  ⟨⟨k.g.os.trans h.g.os, k.g.tape.trans h.g.tape, k.g.output.trans h.g.output, Nat.le_trans h.g.size k.g.size, fun i hi hne => (k.g.block i (Nat.lt_of_lt_of_le hi h.g.size) hne).trans (h.g.block i hi hne)⟩,
   fun j hj => (k.o j hj).trans (h.o j hj), fun j => (k.f j).trans (h.f j)⟩
theorem Mv.lt {w w' : World} {b : Nat} (h : Mv w w' b) (hb : b < w.heap.size) : b < w'.heap.size := Nat.lt_of_lt_of_le hb h.g.size
theorem Mv.set (w : World) (b : Nat) (u : Value) : Mv w (w.setCell ⟨b, 1, none⟩ u) b := by
  refine ⟨⟨rfl, rfl, rfl, by simp [World.setCell], fun k hk hne => Below.heap_setCell _ _ _ _ (by intro h; exact hne (by rw [h]))⟩, fun j hj => ?_, fun j => World.frozen?_setCell _ _ _ _⟩
  apply World.cell?_setCell_other; intro hh; injection hh with _ h2; exact hj h2.symm
theorem Mv.of_below {w w' : World} {b : Nat} (h : Below w.heap.size w w') (hb : b < w.heap.size) : Mv w w' b :=
  ⟨⟨h.os, h.tape, h.output, h.size, fun k hk _ => h.block k hk⟩, fun j _ => h.cell (p := ⟨b, j, none⟩) hb, fun j => h.frozen (p := ⟨b, j, none⟩) hb⟩
/-- Behind an append to a list of the call's own. -/
theorem Mv.grown {w w' : World} {b : Nat} {row : Option Nat} (h : w.grownBy w' row) (hr : some b ≠ row) (hb : b < w.heap.size) (hall : ∀ k, row = some k → w.heap.size ≤ k) : Mv w w' b :=
  ⟨⟨h.os, h.tape, h.output, h.size, fun k hk _ => h.block k hk (fun e => by have := hall k e.symm; omega)⟩, fun j _ => World.cell?_of_block (w := w) (h.block b hb hr), fun j => World.frozen?_of_block (w := w) (h.block b hb hr)⟩
theorem Mv.below {w w' : World} {b B : Nat} (h : Mv w w' b) (hB : B ≤ b) (hb : b < w.heap.size) : Below B w w' :=
  ⟨h.g.os, h.g.tape, h.g.output, h.g.size, fun k hk => h.g.block k (by omega) (by simp; omega)⟩

theorem Mv.andGrown {w w1 w2 : World} {b : Nat} {row : Option Nat} (h : Mv w w1 b) (g : w1.grownBy w2 row) (hb : b < w.heap.size) (hall : ∀ k, row = some k → w.heap.size ≤ k) : Mv w w2 b := by
  have hne : ∀ k, k < w.heap.size → some k ≠ row := fun k hk e => by have := hall k e.symm; omega
  have hz := h.g.size
  refine ⟨⟨g.os.trans h.g.os, g.tape.trans h.g.tape, g.output.trans h.g.output, Nat.le_trans h.g.size g.size, fun k hk hkb => (g.block k (by omega) (hne k hk)).trans (h.g.block k hk hkb)⟩, fun j hj => ?_, fun j => ?_⟩
  · exact (World.cell?_of_block (w := w1) (a := ⟨b, j, none⟩) (g.block b (by omega) (hne b hb))).trans (h.o j hj)
  · exact (World.frozen?_of_block (w := w1) (a := ⟨b, j, none⟩) (g.block b (by omega) (hne b hb))).trans (h.f j)
theorem Mv.alloc {w w1 : World} {b : Nat} (h : Mv w w1 b) (hb : b < w.heap.size) (o : Obj) : Mv w (w1.alloc o) b := h.andGrown (World.grownBy_alloc w1 o none) hb (fun k e => by cases e)
theorem Mv.andBelow {w w1 w2 : World} {b : Nat} (h : Mv w w1 b) (k : Below w1.heap.size w1 w2) (hb : b < w.heap.size) : Mv w w2 b := h.trans (Mv.of_below k (h.lt hb))
/-- The reader's place stays where other blocks turn. -/
theorem cell1_grown {w1 w2 : World} {b : Nat} {row : Option Nat} {v : Value} (c : w1.cell? ⟨b, 1, none⟩ = some v) (g : w1.grownBy w2 row) (hne : some b ≠ row) : w2.cell? ⟨b, 1, none⟩ = some v := g.cell c hne
theorem Mv.drew {w w' : World} {b : Nat} (h : Mv w w' b) : Mv w w'.drew b := h.trans ⟨⟨rfl, rfl, rfl, Nat.le_refl _, fun _ _ _ => rfl⟩, fun _ _ => rfl, fun _ => rfl⟩
theorem Mv.drewN {w w' : World} {b : Nat} (h : Mv w w' b) (n : Nat) : Mv w (w'.drewN n) b := h.trans ⟨⟨rfl, rfl, rfl, Nat.le_refl _, fun _ _ _ => rfl⟩, fun _ _ => rfl, fun _ => rfl⟩

/-- The reader of bytes in block b: it is at byte p. -/
structure Dr (w : World) (b : Nat) (ao : Option Addr) (cap : Nat) (s : List UInt8) (p : Nat) : Prop where
  c0 : w.cell? ⟨b, 0, none⟩ = some (.slice ao s.length cap)
  c1 : w.cell? ⟨b, 1, none⟩ = some (.int .i64 p)
  f1 : w.frozen? ⟨b, 1, none⟩ = false
  hb : s ≠ [] → ∃ bb bo, ao = some ⟨bb, bo, none⟩ ∧ bb ≠ b ∧ ∀ i, i < s.length → w.cell? ⟨bb, bo + i, none⟩ = some (.int .u8 (s.getD i 0).toNat)
  hp : p ≤ s.length
  hs : s.length ≤ 1099511627776
theorem Dr.lt {w : World} {b : Nat} {ao : Option Addr} {cap : Nat} {s : List UInt8} {p : Nat} (h : Dr w b ao cap s p) : b < w.heap.size := World.block_lt_of_cell? w _ h.c0
theorem Dr.move {w w' : World} {b : Nat} {ao : Option Addr} {cap : Nat} {s : List UInt8} {p q : Nat} (h : Dr w b ao cap s p) (m : Mv w w' b) (c : w'.cell? ⟨b, 1, none⟩ = some (.int .i64 q)) (hq : q ≤ s.length) : Dr w' b ao cap s q := by
  refine ⟨(m.o 0 (by decide)).trans h.c0, c, (m.f 1).trans h.f1, fun hne => ?_, hq, h.hs⟩
  obtain ⟨bb, bo, ha, hbb, hc⟩ := h.hb hne
  exact ⟨bb, bo, ha, hbb, fun i hi => m.g.cell (hc i hi) (by simpa using hbb)⟩
theorem Dr.set {w : World} {b : Nat} {ao : Option Addr} {cap : Nat} {s : List UInt8} {p q : Nat} (h : Dr w b ao cap s p) (hq : q ≤ s.length) : Dr (w.setCell ⟨b, 1, none⟩ (.int .i64 q)) b ao cap s q :=
  h.move (Mv.set _ _ _) (World.cell?_setCell_same' _ _ _ (by simp [h.c1])) hq
theorem Dr.at {w : World} {b : Nat} {ao : Option Addr} {cap : Nat} {s : List UInt8} {p : Nat} (h : Dr w b ao cap s p) (hlt : p < s.length) : ∃ bb bo, ao = some ⟨bb, bo, none⟩ ∧ bb ≠ b ∧ w.cell? ⟨bb, bo + p, none⟩ = some (.int .u8 (s.getD p 0).toNat) := by
  obtain ⟨bb, bo, ha, hbb, hc⟩ := h.hb (by intro hh; rw [hh] at hlt; simp at hlt)
  exact ⟨bb, bo, ha, hbb, hc p hlt⟩

namespace Fl
/-- A number from lo to hi. -/
def numB (s : List UInt8) (p : Nat) (lo hi : Int) : Int × Int × Int :=
  if (num s p).2.1 < 0 then (0, -1, (num s p).2.2) else if (num s p).1 < lo ∨ hi < (num s p).1 then (0, -1, (p : Int)) else ((num s p).1, (num s p).2.1, 0)
theorem numB_ok (s : List UInt8) (p : Nat) (lo hi : Int) (h : p ≤ s.length) :
    ((numB s p lo hi).2.1 = -1) ∨ ((p : Int) < (numB s p lo hi).2.1 ∧ (numB s p lo hi).2.1 ≤ s.length ∧ 0 ≤ (numB s p lo hi).1 ∧ (numB s p lo hi).1 < 2147483648 ∧ lo ≤ (numB s p lo hi).1 ∧ (numB s p lo hi).1 ≤ hi) := by
  unfold numB
  rcases num_ok s p h with h1 | h1
  · rw [if_pos (by omega)]; left; rfl
  · rw [if_neg (by omega)]
    split
    · left; rfl
    · right; simp only; omega
end Fl
end Go.Proofs.YtbihjgfbocpobaaGreatDoor

/- The program: a fault is raised; a byte is read. -/
set_option linter.unusedSimpArgs false
set_option linter.unusedVariables false
namespace Go.Proofs.YtbihjgfbocpobaaGreatDoor
open Go.RowKit

theorem raise_any (n p : Int) (w : World) : Calls Tryz.prog 55 #[.int .i64 n, .int .i64 p] w fun e w' => e = .panicked (stopAt n p) ∧ Below w.heap.size w w' := by
  go_enter Tryz.func55, Tryz.ntmps55
  go_wp2
  exact ⟨rfl, rfl, Below.refl _ _⟩

theorem need_ok (b : Nat) (p : Int) (w : World) : Calls Tryz.prog 67 #[.pointer (some ⟨b, 0, none⟩), .bool true, .int .i64 p] w fun e w' => e = .returned (.tuple #[]) ∧ w' = w := by
  go_enter Tryz.func67, Tryz.ntmps67
  go_wp2
  go_end0
  exact ⟨rfl, rfl⟩
theorem need_bad (b : Nat) (p : Int) (w : World) : Calls Tryz.prog 67 #[.pointer (some ⟨b, 0, none⟩), .bool false, .int .i64 p] w fun e w' => e = .panicked (stopAt 8 p) ∧ Below w.heap.size w w' := by
  go_enter Tryz.func67, Tryz.ntmps67
  go_wp2_with (go_at_call 55; refine (raise_any _ _ _).mono ?_; rintro e w' ⟨rfl, hb⟩)
  exact ⟨rfl, rfl, hb⟩

set_option maxRecDepth 100000 in
set_option maxHeartbeats 2000000 in
theorem next_ok {b : Nat} {ao : Option Addr} {cap : Nat} {s : List UInt8} {p : Nat} {w : World} (h : Dr w b ao cap s p) (hlt : p < s.length) :
    Calls Tryz.prog 68 #[.pointer (some ⟨b, 0, none⟩)] w fun e w' => e = .returned (.int .u8 (s.getD p 0).toNat) ∧ Mv w w' b ∧ w'.cell? ⟨b, 1, none⟩ = some (.int .i64 ((p + 1 : Nat) : Int)) := by
  obtain ⟨bb, bo, rfl, hbb, hc⟩ := h.at hlt
  have c0 := h.c0
  have c1 := h.c1
  have f1 := h.f1
  have hs := h.hs
  generalize (s.getD p 0).toNat = x at *
  clear h
  go_enter Tryz.func68, Tryz.ntmps68
  go_wp2_with fail
  go_still_tail 16, (by kernel_rfl)
  go_wp2_with (go_at_call 67; refine (need_ok _ _ _).mono ?_; rintro e w' ⟨rfl, rfl⟩)
  go_quiet (fail)
  go_wp2
  go_ret
  exact ⟨rfl, (Mv.set _ _ _).drew.drewN _, by simp; exact World.cell?_setCell_same' _ _ _ (by simp [c1])⟩
set_option maxRecDepth 100000 in
set_option maxHeartbeats 2000000 in
theorem next_end {b : Nat} {ao : Option Addr} {cap : Nat} {s : List UInt8} {p : Nat} {w : World} (h : Dr w b ao cap s p) (hlt : ¬ p < s.length) :
    Calls Tryz.prog 68 #[.pointer (some ⟨b, 0, none⟩)] w fun e w' => e = .panicked (stopAt 8 s.length) ∧ Mv w w' b := by
  have hlb := h.lt
  have c0 := h.c0
  have c1 := h.c1
  have f1 := h.f1
  have hs := h.hs
  clear h
  go_enter Tryz.func68, Tryz.ntmps68
  go_wp2_with fail
  go_still_tail 16, (by kernel_rfl)
  go_wp2_with (go_at_call 67; refine (need_bad _ _ _).mono ?_; rintro e w' ⟨rfl, hb⟩; exact ⟨rfl, rfl, Mv.of_below ((Below.refl _ _).drew.trans hb) hlb⟩)
end Go.Proofs.YtbihjgfbocpobaaGreatDoor
