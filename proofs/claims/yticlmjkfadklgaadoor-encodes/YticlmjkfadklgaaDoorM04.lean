/- Texts Own DecMem Lwa RefH. -/
import Derived.Test.YticlmjkfadklgaaDoorM03
/- Where an appended list lies; lists that lie apart. -/
set_option linter.unusedSimpArgs false
set_option linter.unusedVariables false
namespace Go.Proofs.YticlmjkfadklgaaDoor
open Go.RowKit

section
variable {P : Program} (w : World)
/-- An appended list lies where it lay, or in the newest block. -/
theorem append_where (base : Nat) (t ty e : TypeId) (i : TypeInfo) (z : Value) (size bytes : Nat) (ht : P.underlying t = some (.slice e)) (hi : P.info? e = some i) (hz : i.zero = some z)
    (hsize : i.size = size) (hby : i.bytes = bytes) (hzs : z.cells.size = size) (hsz : 0 < size)
    (v : Value) (n : Nat) (xs : List Value) (hown : w.ownsRow base e size v n xs)
    (a : Addr) (m c : Nat) (news : List Value) (hl : news.length = m * size) (hnews : ∀ j u, news[j]? = some u → w.cell? (a.add j) = some u) (h1 : ∀ u ∈ news, u.oneCell' = true)
    (h63 : n + m ≤ maxLen) (hbytes : (n + m) * bytes ≤ 140737488355328) (hbase : base ≤ w.heap.size) (hm : 0 < m) :
    ∃ v' w', (Builtin.append_ #[t, t] ty #[v, .slice (some a) m c]).run P w = .ok v' w' ∧ w'.ownsRow base e size v' (n + m) (xs ++ news) ∧ w.grownBy w' v.ownBlock ∧ (v'.ownBlock = v.ownBlock ∨ v'.ownBlock = some w.heap.size) := by
  obtain ⟨v', w', hr, ho, hg, _⟩ := run_append_own (P := P) w base t ty e i z size bytes ht hi hz hsize hby hzs hsz v n xs hown a m c news hl hnews h1 h63 hbytes hbase
  refine ⟨v', w', hr, ho, hg, ?_⟩
  rcases hown.2 with ⟨rfl, h0⟩ | ⟨g, cap, cur, rfl, hbg, hgg, hnc, hcm, hcs, htake⟩
  · subst h0
    have hr2 := run_append_nil (P := P) w t ty e i z ht hi hz a m c news (by rw [hsize]; exact hl) hnews hm (by unfold maxLen at h63; omega) (by rw [hby]; simp only [Nat.zero_add] at hbytes; omega)
    rw [hr2] at hr
    injection hr with hv _
    right; rw [← hv]; rfl
  · by_cases hroom : n + m ≤ cap
    · have hfit : n * i.size + news.length ≤ cur.size := by
        rw [hcs, hl, hsize, ← Nat.add_mul]; exact Nat.mul_le_mul_right _ hroom
      have hr2 := run_append_room (P := P) w t ty e i ht hi g n cap cur hgg a m c news (by rw [hsize]; exact hl) hnews h1 hroom hfit
      rw [hr2] at hr
      injection hr with hv _
      left; rw [← hv]; rfl
    · have h63' : ((n + m : Nat) : Int) ≤ 9223372036854775807 := by unfold maxLen at h63; omega
      have hr2 := run_append_grow (P := P) w t ty e i z ht hi hz ⟨g, 0, none⟩ n cap xs (by rw [hsize]; exact hown.1) (hown.cells rfl) a m c news (by rw [hsize]; exact hl) hnews (by omega) h63' (growslice_fits (by omega) (by rw [hby]; exact hbytes))
      rw [hr2] at hr
      injection hr with hv _
      right; rw [← hv]; rfl

/-- The same, met in a walk. -/
theorem wpList_append_at {ops : Array Oper} {rest : List Oper} {o : Oper} {a : Act} {Q : Exit → Act → World → Prop} (hgd : o.guard = none) (s x : Operand) (t : TypeId)
    (ho : o.op = .call { callee := .builtin .append, args := #[s, x], argTypes := #[t, t] })
    (base : Nat) (e : TypeId) (i : TypeInfo) (z : Value) (size bytes : Nat) (ht : P.underlying t = some (.slice e)) (hi : P.info? e = some i) (hz : i.zero = some z)
    (hsize : i.size = size) (hby : i.bytes = bytes) (hzs : z.cells.size = size) (hsz : 0 < size)
    (v : Value) (n : Nat) (xs : List Value) (hs : a.eval s = v) (hown : w.ownsRow base e size v n xs)
    (ad : Addr) (m c : Nat) (news : List Value) (hx : a.eval x = .slice (some ad) m c) (hl : news.length = m * size) (hm : 0 < m) (hnews : ∀ j u, news[j]? = some u → w.cell? (ad.add j) = some u) (h1 : ∀ u ∈ news, u.oneCell' = true)
    (h63 : n + m ≤ maxLen) (hbytes : (n + m) * bytes ≤ 140737488355328) (hbase : base ≤ w.heap.size)
    (h : ∀ v' w', w'.ownsRow base e size v' (n + m) (xs ++ news) → w.grownBy w' v.ownBlock → (v'.ownBlock = v.ownBlock ∨ v'.ownBlock = some w.heap.size) → wpList P ops Q rest (a.put o.dst v') w') : wpList P ops Q (o :: rest) a w :=
  wpList_plain hgd fun _ hK => by
    obtain ⟨v', w', hr, h2, h3, h4⟩ := append_where (P := P) w base t o.type e i z size bytes ht hi hz hsize hby hzs hsz v n xs hown ad m c news hl hnews h1 h63 hbytes hbase hm
    have hgo := hK _ _ (h v' w' h2 h3 h4)
    unfold Oper.wp execOp
    simp only [ho, resolve, invoke, builtin, Sem.run_bind, Sem.run_pure, Result.andThen_ok, List.map_toArray, List.map_cons, List.map_nil, hs, hx, hr]
    exact hgo
end

/-- A list of nodes, laid out cell by cell. -/
def nodeCells (n : Fl.Node) (lv : Value) : List Value := [.int .i64 n.kind, .int .i64 n.level, .int .i64 n.a, .int .i64 n.b, .int .i64 n.c, lv]
def flat : List Fl.Node → List Value → List Value
  | n :: ns, lv :: lvs => nodeCells n lv ++ flat ns lvs
  | _, _ => []
theorem flat_len : ∀ (ns : List Fl.Node) (lvs : List Value), lvs.length = ns.length → (flat ns lvs).length = ns.length * 6
  | [], [], _ => rfl
  | n :: ns, lv :: lvs, h => by
    have := flat_len ns lvs (by simpa using h)
    simp only [flat, nodeCells, List.length_append, List.length_cons, List.length_nil, this]; omega
theorem flat_snoc : ∀ (ns : List Fl.Node) (lvs : List Value) (n : Fl.Node) (lv : Value), lvs.length = ns.length → flat (ns ++ [n]) (lvs ++ [lv]) = flat ns lvs ++ nodeCells n lv
  | [], [], n, lv, _ => by simp [flat]
  | m :: ns, l :: lvs, n, lv, h => by
    simp only [List.cons_append, flat, flat_snoc ns lvs n lv (by simpa using h), List.append_assoc]
theorem flat_at : ∀ (ns : List Fl.Node) (lvs : List Value) (i j : Nat), lvs.length = ns.length → i < ns.length → j < 6 → (flat ns lvs)[i * 6 + j]? = (nodeCells (Fl.nth ns i) (lvs.getD i (.slice none 0 0)))[j]?
  | n :: ns, lv :: lvs, 0, j, _, _, hj => by
    simp only [flat, Nat.zero_mul, Nat.zero_add]
    rw [List.getElem?_append_left (by simp [nodeCells]; omega)]; rfl
  | n :: ns, lv :: lvs, i + 1, j, h, hi, hj => by
    have := flat_at ns lvs i j (by simpa using h) (by simpa using hi) hj
    simp only [flat]
    rw [List.getElem?_append_right (by simp [nodeCells]; omega)]
    rw [show (i + 1) * 6 + j - (nodeCells n lv).length = i * 6 + j from by simp [nodeCells]; omega, this]
    rfl
/-- Nodes that the call itself has built are nodes in memory. -/
theorem nodes_of_own {base : Nat} {w : World} {e : TypeId} {v : Value} {ns : List Fl.Node} {lvs : List Value} (h : w.ownsRow base e 6 v ns.length (flat ns lvs)) (hl : lvs.length = ns.length) (hi : ∀ i, i < ns.length → IntsAt w.heap.size w (lvs.getD i (.slice none 0 0)) (Fl.nth ns i).list) : NodesAt w.heap.size w v ns := by
  rcases h.2 with ⟨rfl, h0⟩ | ⟨g, cap, cur, rfl, hb, hg, hnc, hcm, hcs, ht⟩
  · have : ns = [] := List.eq_nil_of_length_eq_zero h0
    subst this; exact NodesAt.nil _ _
  · refine ⟨_, cap, rfl, hnc, by omega, fun _ => ⟨g, 0, rfl, (Array.getElem?_eq_some_iff.1 hg).1, fun i hil => ⟨lvs.getD i (.slice none 0 0), hi i hil, ?_⟩⟩⟩
    have q : ∀ j u, j < 6 → (nodeCells (Fl.nth ns i) (lvs.getD i (.slice none 0 0)))[j]? = some u → w.cell? ⟨g, i * 6 + j, none⟩ = some u := fun j u hj hu => by
      have h1 := h.cells (g := g) rfl (i * 6 + j) u (by rw [flat_at ns lvs i j hl hil hj]; exact hu)
      have h2 : (⟨g, 0, none⟩ : Addr).add (i * 6 + j) = ⟨g, i * 6 + j, none⟩ := by unfold Addr.add; split <;> simp_all
      rw [h2] at h1; exact h1
    simp only [Nat.zero_add]
    exact ⟨q 0 _ (by omega) rfl, q 1 _ (by omega) rfl, q 2 _ (by omega) rfl, q 3 _ (by omega) rfl, q 4 _ (by omega) rfl, q 5 _ (by omega) rfl⟩
end Go.Proofs.YticlmjkfadklgaaDoor

/- What the loop of Decode holds in memory. -/
set_option linter.unusedSimpArgs false
set_option linter.unusedVariables false
namespace Go.Proofs.YticlmjkfadklgaaDoor
open Go.RowKit

theorem ints_grown {w w' : World} {lv : Value} {xs : List Int} {row : Option Nat} (h : IntsAt w.heap.size w lv xs) (hne : xs ≠ [] → lv.ownBlock ≠ row) (hg : w.grownBy w' row) : IntsAt w'.heap.size w' lv xs := by
  obtain ⟨ao, cap, rfl, hc, hl, hx⟩ := h
  refine ⟨ao, cap, rfl, hc, hl, fun hxs => ?_⟩
  obtain ⟨b, off, rfl, hb, hcell⟩ := hx hxs
  refine ⟨b, off, rfl, Nat.lt_of_lt_of_le hb hg.size, fun i hi => ?_⟩
  exact hg.cell (hcell i hi) (by simpa [Value.ownBlock] using hne hxs)
theorem ints_below {w w' : World} {lv : Value} {xs : List Int} (h : IntsAt w.heap.size w lv xs) (hb : Below w.heap.size w w') : IntsAt w'.heap.size w' lv xs := (h.below hb).mono hb.size
theorem ints_alloc {w : World} {lv : Value} {xs : List Int} (h : IntsAt w.heap.size w lv xs) (o : Obj) : IntsAt (w.alloc o).heap.size (w.alloc o) lv xs := ints_below h ((Below.refl _ _).alloc (Nat.le_refl _) _)
theorem ints_lt {w : World} {lv : Value} {xs : List Int} (h : IntsAt w.heap.size w lv xs) (hne : xs ≠ []) : ∃ b, lv.ownBlock = some b ∧ b < w.heap.size := by
  obtain ⟨ao, cap, rfl, hc, hl, hx⟩ := h
  obtain ⟨b, off, rfl, hb, _⟩ := hx hne
  exact ⟨b, rfl, hb⟩
theorem ints_set {w : World} {lv : Value} {xs : List Int} {a : Addr} {u : Value} (h : IntsAt w.heap.size w lv xs) (hne : xs ≠ [] → lv.ownBlock ≠ some a.block) : IntsAt (w.setCell a u).heap.size (w.setCell a u) lv xs := by
  have hs : (w.setCell a u).heap.size = w.heap.size := by simp [World.setCell]
  obtain ⟨ao, cap, rfl, hc, hl, hx⟩ := h
  refine ⟨ao, cap, rfl, hc, hl, fun hxs => ?_⟩
  obtain ⟨b, off, rfl, hb, hcell⟩ := hx hxs
  refine ⟨b, off, rfl, by omega, fun i hi => ?_⟩
  rw [World.cell?_of_block (w := w) (Below.heap_setCell w a u b (by have := hne hxs; simpa [Value.ownBlock] using this))]
  exact hcell i hi
theorem own_types {w : World} {base base' : Nat} {e e' : TypeId} {size size' : Nat} {v v' : Value} {n n' : Nat} {xs xs' : List Value} (h : w.ownsRow base e size v n xs) (h' : w.ownsRow base' e' size' v' n' xs') (hne : e ≠ e') : v.ownBlock = none ∨ v.ownBlock ≠ v'.ownBlock := by
  rcases h.2 with ⟨rfl, _⟩ | ⟨g, cap, cur, rfl, hb, hg, _⟩
  · left; rfl
  · right
    rcases h'.2 with ⟨rfl, _⟩ | ⟨g', cap', cur', rfl, hb', hg', _⟩
    · simp [Value.ownBlock]
    · intro hh
      simp only [Value.ownBlock, Option.some.injEq] at hh
      rw [hh] at hg; rw [hg] at hg'
      simp only [Option.some.injEq, Obj.cells.injEq] at hg'
      exact hne hg'.2.1

/-- A list that stays while two others are appended to. -/
def Kept (w : World) (lv : Value) (xs : List Int) (sv nv : Value) : Prop := IntsAt w.heap.size w lv xs ∧ (xs ≠ [] → lv.ownBlock ≠ sv.ownBlock ∧ lv.ownBlock ≠ nv.ownBlock)

/-- Behind an append to the first of them. -/
theorem Kept.first {w w' : World} {lv sv nv sv' : Value} {xs : List Int} (h : Kept w lv xs sv nv) (hg : w.grownBy w' sv.ownBlock) (hw : sv'.ownBlock = sv.ownBlock ∨ sv'.ownBlock = some w.heap.size) : Kept w' lv xs sv' nv := by
  refine ⟨ints_grown h.1 (fun hx => (h.2 hx).1) hg, fun hx => ⟨?_, (h.2 hx).2⟩⟩
  rcases hw with hw | hw
  · rw [hw]; exact (h.2 hx).1
  · obtain ⟨b, hb, hlt⟩ := ints_lt h.1 hx
    rw [hw, hb]; intro hh; simp at hh; omega
theorem Kept.second {w w' : World} {lv sv nv nv' : Value} {xs : List Int} (h : Kept w lv xs sv nv) (hg : w.grownBy w' nv.ownBlock) (hw : nv'.ownBlock = nv.ownBlock ∨ nv'.ownBlock = some w.heap.size) : Kept w' lv xs sv nv' := by
  refine ⟨ints_grown h.1 (fun hx => (h.2 hx).2) hg, fun hx => ⟨(h.2 hx).1, ?_⟩⟩
  rcases hw with hw | hw
  · rw [hw]; exact (h.2 hx).2
  · obtain ⟨b, hb, hlt⟩ := ints_lt h.1 hx
    rw [hw, hb]; intro hh; simp at hh; omega
theorem Kept.alloc {w : World} {lv sv nv : Value} {xs : List Int} (h : Kept w lv xs sv nv) (o : Obj) : Kept (w.alloc o) lv xs sv nv := ⟨ints_alloc h.1 o, h.2⟩
theorem Kept.below {w w' : World} {lv sv nv : Value} {xs : List Int} (h : Kept w lv xs sv nv) (hb : Below w.heap.size w w') : Kept w' lv xs sv nv := ⟨ints_below h.1 hb, h.2⟩
/-- A list that was made behind them. -/
theorem Kept.new {w w' : World} {lv sv nv : Value} {xs : List Int} (h : IntsAt w'.heap.size w' lv xs) (hf : ∀ b, lv.ownBlock = some b → w.heap.size ≤ b) (hs : ∀ b, sv.ownBlock = some b → b < w.heap.size) (hn : ∀ b, nv.ownBlock = some b → b < w.heap.size) : Kept w' lv xs sv nv := by
  refine ⟨h, fun hx => ?_⟩
  obtain ⟨b, hb, hlt⟩ := ints_lt h hx
  have := hf b hb
  refine ⟨fun hh => ?_, fun hh => ?_⟩
  · have := hs b (hh.symm.trans hb); omega
  · have := hn b (hh.symm.trans hb); omega
theorem Kept.set {w : World} {lv sv nv : Value} {xs : List Int} {a : Addr} {u : Value} (h : Kept w lv xs sv nv) (hne : xs ≠ [] → lv.ownBlock ≠ some a.block) : Kept (w.setCell a u) lv xs sv nv := ⟨ints_set h.1 hne, h.2⟩

/-- What the loop of Decode holds in memory: two lists that are appended to (sv: ints, nv: nodes), lists that stay (fam), the proof's own cells (lv, cv), the result's. -/
structure Fam (w wr : World) (lv cv : Value) (fam : List (Value × List Int)) (sv nv : Value) (n1 n2 : Nat) (xs ys : List Value) : Prop where
  hs : wr.ownsRow (w.heap.size + 2) 3 1 sv n1 xs
  hn : wr.ownsRow (w.heap.size + 2) 46 6 nv n2 ys
  hall : ∀ p, p ∈ fam → Kept wr p.1 p.2 sv nv ∧ (p.2 ≠ [] → ∀ b, p.1.ownBlock = some b → w.heap.size + 2 ≤ b)
  c0 : wr.cell? ⟨w.heap.size + 1, 0, none⟩ = some lv
  c1 : wr.cell? ⟨w.heap.size + 1, 1, none⟩ = some cv
  d0 : wr.cell? ⟨w.heap.size, 0, none⟩ = some (.slice none 0 0)
  d1 : wr.cell? ⟨w.heap.size, 1, none⟩ = some (.slice none 0 0)
  f0 : ∀ j, wr.frozen? ⟨w.heap.size, j, none⟩ = false
  f1 : ∀ j, wr.frozen? ⟨w.heap.size + 1, j, none⟩ = false
  hb : Below w.heap.size w wr
  hz : w.heap.size + 2 ≤ wr.heap.size

section
variable {w wr w' : World} {lv cv : Value} {fam : List (Value × List Int)} {sv nv : Value} {n1 n2 : Nat} {xs ys : List Value}
theorem Fam.below (h : Fam w wr lv cv fam sv nv n1 n2 xs ys) (hb : Below wr.heap.size wr w') : Fam w w' lv cv fam sv nv n1 n2 xs ys := by
  have q : ∀ b o, b < wr.heap.size → w'.cell? ⟨b, o, none⟩ = wr.cell? ⟨b, o, none⟩ := fun b o hlt => hb.cell (p := ⟨b, o, none⟩) hlt
  have f : ∀ b o, b < wr.heap.size → w'.frozen? ⟨b, o, none⟩ = wr.frozen? ⟨b, o, none⟩ := fun b o hlt => hb.frozen (p := ⟨b, o, none⟩) hlt
  have hz := h.hz
  have hsz := hb.size
  have og : wr.grownBy w' none := ⟨hb.os, hb.tape, hb.output, hb.size, fun k hk _ => hb.block k hk⟩
  exact ⟨h.hs.kept og (by cases sv.ownBlock <;> simp), h.hn.kept og (by cases nv.ownBlock <;> simp), fun p hp => ⟨(h.hall p hp).1.below hb, (h.hall p hp).2⟩,
    (q _ _ (by omega)).trans h.c0, (q _ _ (by omega)).trans h.c1, (q _ _ (by omega)).trans h.d0, (q _ _ (by omega)).trans h.d1, fun j => (f _ _ (by omega)).trans (h.f0 j), fun j => (f _ _ (by omega)).trans (h.f1 j), h.hb.trans (hb.mono (by omega)), by omega⟩
theorem Fam.alloc (h : Fam w wr lv cv fam sv nv n1 n2 xs ys) (o : Obj) : Fam w (wr.alloc o) lv cv fam sv nv n1 n2 xs ys := h.below ((Below.refl _ _).alloc (Nat.le_refl _) _)
theorem Fam.drew (h : Fam w wr lv cv fam sv nv n1 n2 xs ys) : Fam w wr.drew lv cv fam sv nv n1 n2 xs ys := h.below ((Below.refl _ _).drew)
theorem Fam.add (h : Fam w wr lv cv fam sv nv n1 n2 xs ys) {lvn : Value} {l : List Int} {N : Nat} (hi : IntsAt wr.heap.size wr lvn l) (hf : ∀ b, lvn.ownBlock = some b → N ≤ b) (hsN : ∀ b, sv.ownBlock = some b → b < N) (hnN : ∀ b, nv.ownBlock = some b → b < N) (hN : w.heap.size + 2 ≤ N) : Fam w wr lv cv (fam ++ [(lvn, l)]) sv nv n1 n2 xs ys := by
  refine ⟨h.hs, h.hn, fun p hp => ?_, h.c0, h.c1, h.d0, h.d1, h.f0, h.f1, h.hb, h.hz⟩
  simp only [List.mem_append, List.mem_singleton] at hp
  rcases hp with hp | rfl
  · exact h.hall p hp
  · refine ⟨⟨hi, fun hx => ?_⟩, fun _ b hb => by have := hf b hb; omega⟩
    obtain ⟨b, hb, hlt⟩ := ints_lt hi hx
    have := hf b hb
    exact ⟨fun hh => by have := hsN b (hh.symm.trans hb); omega, fun hh => by have := hnN b (hh.symm.trans hb); omega⟩
theorem Fam.oldne (h : Fam w wr lv cv fam sv nv n1 n2 xs ys) : (∀ b, b < w.heap.size + 2 → some b ≠ sv.ownBlock) ∧ (∀ b, b < w.heap.size + 2 → some b ≠ nv.ownBlock) :=
  ⟨fun b hb hh => by have := (h.hs.lt b hh.symm).1; omega, fun b hb hh => by have := (h.hn.lt b hh.symm).1; omega⟩
theorem Fam.first (h : Fam w wr lv cv fam sv nv n1 n2 xs ys) {sv' : Value} {n1' : Nat} {xs' : List Value} (ho : w'.ownsRow (w.heap.size + 2) 3 1 sv' n1' xs') (hg : wr.grownBy w' sv.ownBlock) (hw : sv'.ownBlock = sv.ownBlock ∨ sv'.ownBlock = some wr.heap.size) : Fam w w' lv cv fam sv' nv n1' n2 xs' ys := by
  have hz := h.hz
  have hne := h.oldne.1
  have f : ∀ b j, b < w.heap.size + 2 → w'.frozen? ⟨b, j, none⟩ = wr.frozen? ⟨b, j, none⟩ := fun b j hlt => World.frozen?_of_block (w := wr) (hg.block b (by omega) (hne b hlt))
  refine ⟨ho, h.hn.kept hg ?_, fun p hp => ⟨(h.hall p hp).1.first hg hw, (h.hall p hp).2⟩, hg.cell h.c0 (hne _ (by simp)), hg.cell h.c1 (hne _ (by simp)), hg.cell h.d0 (hne _ (by simp)), hg.cell h.d1 (hne _ (by simp)), fun j => (f _ _ (by omega)).trans (h.f0 j), fun j => (f _ _ (by omega)).trans (h.f1 j), h.hb.grown hg (by omega) (fun g hgg => by have := (h.hs.lt g hgg).1; omega), by have := hg.size; omega⟩
  exact own_types h.hn h.hs (by decide)
theorem Fam.second (h : Fam w wr lv cv fam sv nv n1 n2 xs ys) {nv' : Value} {n2' : Nat} {ys' : List Value} (ho : w'.ownsRow (w.heap.size + 2) 46 6 nv' n2' ys') (hg : wr.grownBy w' nv.ownBlock) (hw : nv'.ownBlock = nv.ownBlock ∨ nv'.ownBlock = some wr.heap.size) : Fam w w' lv cv fam sv nv' n1 n2' xs ys' := by
  have hz := h.hz
  have hne := h.oldne.2
  have f : ∀ b j, b < w.heap.size + 2 → w'.frozen? ⟨b, j, none⟩ = wr.frozen? ⟨b, j, none⟩ := fun b j hlt => World.frozen?_of_block (w := wr) (hg.block b (by omega) (hne b hlt))
  refine ⟨h.hs.kept hg ?_, ho, fun p hp => ⟨(h.hall p hp).1.second hg hw, (h.hall p hp).2⟩, hg.cell h.c0 (hne _ (by simp)), hg.cell h.c1 (hne _ (by simp)), hg.cell h.d0 (hne _ (by simp)), hg.cell h.d1 (hne _ (by simp)), fun j => (f _ _ (by omega)).trans (h.f0 j), fun j => (f _ _ (by omega)).trans (h.f1 j), h.hb.grown hg (by omega) (fun g hgg => by have := (h.hn.lt g hgg).1; omega), by have := hg.size; omega⟩
  exact own_types h.hs h.hn (by decide)
theorem Fam.store (h : Fam w wr lv cv fam sv nv n1 n2 xs ys) (u : Value) : Fam w (wr.setCell ⟨w.heap.size + 1, 1, none⟩ u) lv u fam sv nv n1 n2 xs ys := by
  have hz := h.hz
  have hs : (wr.setCell ⟨w.heap.size + 1, 1, none⟩ u).heap.size = wr.heap.size := by simp [World.setCell]
  have q : ∀ j, (wr.setCell ⟨w.heap.size + 1, 1, none⟩ u).cell? ⟨w.heap.size, j, none⟩ = wr.cell? ⟨w.heap.size, j, none⟩ := fun j => by apply World.cell?_setCell_other; intro hh; injection hh with h2; omega
  refine ⟨ownsRow_setCell_below h.hs (by simp) u, ownsRow_setCell_below h.hn (by simp) u, fun p hp => ⟨(h.hall p hp).1.set (fun hx => ?_), (h.hall p hp).2⟩, ?_, World.cell?_setCell_same' _ _ _ (by simp [h.c1]), (q 0).trans h.d0, (q 1).trans h.d1, fun j => by rw [World.frozen?_setCell]; exact h.f0 j, fun j => by rw [World.frozen?_setCell]; exact h.f1 j, h.hb.setCell (by simp) u, by omega⟩
  · intro hh
    have h3 : w.heap.size + 2 ≤ w.heap.size + 1 := (h.hall p hp).2 hx _ hh
    omega
  · have h4 : (wr.setCell ⟨w.heap.size + 1, 1, none⟩ u).cell? ⟨w.heap.size + 1, 0, none⟩ = wr.cell? ⟨w.heap.size + 1, 0, none⟩ := by
      apply World.cell?_setCell_other; intro hh; injection hh with _ h2; exact absurd h2 (by decide)
    rw [h4]; exact h.c0
end

/-- The lists of nodes. -/
def famOf : List Fl.Node → List Value → List (Value × List Int)
  | n :: ns, lv :: lvs => (lv, n.list) :: famOf ns lvs
  | _, _ => []
theorem famOf_snoc : ∀ (ns : List Fl.Node) (lvs : List Value) (n : Fl.Node) (lv : Value), lvs.length = ns.length → famOf (ns ++ [n]) (lvs ++ [lv]) = famOf ns lvs ++ [(lv, n.list)]
  | [], [], n, lv, _ => rfl
  | m :: ns, l :: lvs, n, lv, h => by simp only [List.cons_append, famOf, famOf_snoc ns lvs n lv (by simpa using h)]
theorem famOf_mem : ∀ (ns : List Fl.Node) (lvs : List Value) (i : Nat), lvs.length = ns.length → i < ns.length → (lvs.getD i (.slice none 0 0), (Fl.nth ns i).list) ∈ famOf ns lvs
  | n :: ns, lv :: lvs, 0, _, _ => by simp [famOf, Fl.nth]
  | n :: ns, lv :: lvs, i + 1, h, hi => by
    have := famOf_mem ns lvs i (by simpa using h) (by simpa using hi)
    simp only [famOf, List.mem_cons]; right; exact this

/-- What the loop of Decode holds at its head: k nodes are read, the next one is at byte q. -/
structure DecRel (s : List UInt8) (M q0 : Nat) (w : World) (lv : Value) (ls : List Int) (wr : World) (k q : Nat) (sv nv : Value) (st : List Int) (acc : List Fl.Node) (lvs : List Value) : Prop where
  hk : k ≤ M
  hq : q ≤ s.length
  hst : st.length = k
  hacc : acc.length = k
  hlvs : lvs.length = k
  hrun : Fl.nodesA s M 0 q0 [] [] = Fl.nodesA s (M - k) k q st acc
  hf : Fam w wr lv nv ((lv, ls) :: famOf acc lvs) sv nv k k (st.map (Value.int .i64)) (flat acc lvs)
theorem DecRel.nodes {s : List UInt8} {M q0 : Nat} {w wr : World} {lv : Value} {ls : List Int} {k q : Nat} {sv nv : Value} {st : List Int} {acc : List Fl.Node} {lvs : List Value} (h : DecRel s M q0 w lv ls wr k q sv nv st acc lvs) : NodesAt wr.heap.size wr nv acc :=
  nodes_of_own (by rw [h.hacc]; exact h.hf.hn) (by rw [h.hacc, h.hlvs]) (fun i hi => (h.hf.hall _ (by simp only [List.mem_cons]; right; exact famOf_mem acc lvs i (by rw [h.hacc, h.hlvs]) hi)).1.1)
theorem DecRel.locals {s : List UInt8} {M q0 : Nat} {w wr : World} {lv : Value} {ls : List Int} {k q : Nat} {sv nv : Value} {st : List Int} {acc : List Fl.Node} {lvs : List Value} (h : DecRel s M q0 w lv ls wr k q sv nv st acc lvs) : IntsAt wr.heap.size wr lv ls := (h.hf.hall (lv, ls) (by simp)).1.1

theorem Fam.res {w wr : World} {lv cv : Value} {fam : List (Value × List Int)} {sv nv : Value} {n1 n2 : Nat} {xs ys : List Value} (h : Fam w wr lv cv fam sv nv n1 n2 xs ys) (u u' : Value) :
    ((wr.setCell ⟨w.heap.size, 0, none⟩ u).setCell ⟨w.heap.size, 1, none⟩ u').ownsRow (w.heap.size + 2) 46 6 nv n2 ys ∧
    ∀ p, p ∈ fam → IntsAt ((wr.setCell ⟨w.heap.size, 0, none⟩ u).setCell ⟨w.heap.size, 1, none⟩ u').heap.size ((wr.setCell ⟨w.heap.size, 0, none⟩ u).setCell ⟨w.heap.size, 1, none⟩ u') p.1 p.2 := by
  refine ⟨ownsRow_setCell_below (ownsRow_setCell_below h.hn (by simp) u) (by simp) u', fun p hp => ?_⟩
  have hne : p.2 ≠ [] → p.1.ownBlock ≠ some w.heap.size := fun hx hh => by
    have h3 : w.heap.size + 2 ≤ w.heap.size := (h.hall p hp).2 hx _ hh
    omega
  exact ints_set (ints_set (h.hall p hp).1.1 hne) hne
/-- A proof that was read lies in memory, behind the result's cells too. -/
theorem DecRel.ends {s : List UInt8} {M q0 : Nat} {w wr w' : World} {lv : Value} {ls : List Int} {k q : Nat} {sv nv : Value} {st : List Int} {acc : List Fl.Node} {lvs : List Value} (h : DecRel s M q0 w lv ls wr k q sv nv st acc lvs) (hb : Below wr.heap.size wr w') (u u' : Value) :
    IntsAt ((w'.setCell ⟨w.heap.size, 0, none⟩ u).setCell ⟨w.heap.size, 1, none⟩ u').heap.size ((w'.setCell ⟨w.heap.size, 0, none⟩ u).setCell ⟨w.heap.size, 1, none⟩ u') lv ls ∧
    NodesAt ((w'.setCell ⟨w.heap.size, 0, none⟩ u).setCell ⟨w.heap.size, 1, none⟩ u').heap.size ((w'.setCell ⟨w.heap.size, 0, none⟩ u).setCell ⟨w.heap.size, 1, none⟩ u') nv acc := by
  have hr := (h.hf.below hb).res u u'
  exact ⟨hr.2 (lv, ls) (by simp), nodes_of_own (by rw [h.hacc]; exact hr.1) (by rw [h.hacc, h.hlvs]) (fun i hi => hr.2 _ (by simp only [List.mem_cons]; right; exact famOf_mem acc lvs i (by rw [h.hacc, h.hlvs]) hi))⟩
theorem own_shape6 {w : World} {base : Nat} {e : TypeId} {size : Nat} {v : Value} {n : Nat} {xs : List Value} (h : w.ownsRow base e size v n xs) : ∃ ao cap, v = .slice ao n cap := by
  rcases h.2 with ⟨rfl, rfl⟩ | ⟨g, cap, cur, rfl, _⟩
  · exact ⟨_, _, rfl⟩
  · exact ⟨_, _, rfl⟩
theorem row_new {w : World} {e : TypeId} (vs : List Value) : ∀ j u, vs[j]? = some u → (w.alloc (.cells vs.toArray e)).cell? ((⟨w.heap.size, 0, none⟩ : Addr).add j) = some u := by
  intro j u hj
  have h2 : (⟨w.heap.size, 0, none⟩ : Addr).add j = ⟨w.heap.size, j, none⟩ := by unfold Addr.add; split <;> simp_all
  rw [h2, World.cell?_alloc_new]; simpa using hj
/-- One node more. -/
theorem DecRel.step {s : List UInt8} {M q0 : Nat} {w wr w' : World} {lv : Value} {ls : List Int} {k q : Nat} {sv nv sv' nv' : Value} {st : List Int} {acc : List Fl.Node} {lvs : List Value} {nd : Fl.Node} {af fb : Int} {lvn : Value} (h : DecRel s M q0 w lv ls wr k q sv nv st acc lvs) (hkM : k < M) (ho : Fl.one s q k = (nd, af, fb)) (haf : 0 ≤ af) (haf2 : af ≤ s.length)
    (hf : Fam w w' lv nv' (((lv, ls) :: famOf acc lvs) ++ [(lvn, nd.list)]) sv' nv' (k + 1) (k + 1) (st.map (Value.int .i64) ++ [.int .i64 (q : Int)]) (flat acc lvs ++ nodeCells nd lvn)) :
    DecRel s M q0 w lv ls w' (k + 1) af.toNat sv' nv' (st ++ [(q : Int)]) (acc ++ [nd]) (lvs ++ [lvn]) := by
  refine ⟨by omega, by omega, by simp [h.hst], by simp [h.hacc], by simp [h.hlvs], ?_, ?_⟩
  · rw [h.hrun, show M - k = (M - (k + 1)) + 1 from by omega]; simp only [Fl.nodesA, ho]; rw [if_neg (by omega)]
  · have hlen : lvs.length = acc.length := by rw [h.hacc, h.hlvs]
    rw [famOf_snoc _ _ _ _ hlen, flat_snoc _ _ _ _ hlen, List.map_append]
    exact hf
end Go.Proofs.YticlmjkfadklgaaDoor

/- The statements' own helpers: a list that is copied by append. -/
set_option linter.unusedSimpArgs false
set_option linter.unusedVariables false
namespace Go.Proofs.YticlmjkfadklgaaDoor
open Go.RowKit

theorem run_append_empty (w : World) (ao : Option Addr) (c : Nat) (ty : TypeId) {i : TypeInfo} (hi : Tryd.prog.info? 3 = some i) : (Builtin.append_ #[22, 22] ty #[.slice none 0 0, .slice ao 0 c]).run Tryd.prog w = .ok (.slice none 0 0) w := by
  cases ao with
  | none => simp [Builtin.append_, run_underlying Tryd.underlying22, sizeOf, typeInfo, hi, Builtin.lenOf, Builtin.firstCells]
  | some a => simp [Builtin.append_, run_underlying Tryd.underlying22, sizeOf, typeInfo, hi, Builtin.lenOf, Builtin.firstCells, loadCells, loadCellsFrom]

/-- append([]int(nil), xs...). -/
theorem wpList_append_ints {w : World} {ops : Array Oper} {rest : List Oper} {o : Oper} {a : Act} {Q : Exit → Act → World → Prop} (hgd : o.guard = none) (s x : Operand)
    (ho : o.op = .call { callee := .builtin .append, args := #[s, x], argTypes := #[22, 22] }) (hs : a.eval s = .slice none 0 0) (xv : Value) (hx : a.eval x = xv) (B : Nat) (xs : List Int) (hin : IntsAt B w xv xs) (hlen : xs.length ≤ 1000000) (base : Nat) (hbase : base ≤ w.heap.size)
    (h : ∀ v' w', w'.ownsRow base 3 1 v' xs.length (xs.map (Value.int .i64)) → Below w.heap.size w w' → wpList Tryd.prog ops Q rest (a.put o.dst v') w') : wpList Tryd.prog ops Q (o :: rest) a w := by
  obtain ⟨i0, hi, hz0, hz1, hz2⟩ := info_parts Tryd.infoInt
  obtain ⟨ao, cap, rfl, hc, hm, hcell⟩ := hin
  by_cases hne : xs = []
  · subst hne
    have hrun := run_append_empty w ao cap o.type hi
    refine wpList_plain hgd fun K hK => ?_
    unfold Oper.wp
    simp only [List.length_nil] at hx
    simp [execOp, ho, resolve, invoke, builtin, hs, hx, hrun, Result.andThen]
    exact hK _ _ (h _ _ (World.ownsRow_nil _ _ _ _) (Below.refl _ _))
  · obtain ⟨b, off, rfl, hbB, hcells⟩ := hcell hne
    refine wpList_append_own _ hgd s x 22 ho base 3 i0 (.int .i64 0) 1 8 Tryd.underlying22 hi hz0 hz1 hz2 rfl (by decide) _ 0 [] hs (World.ownsRow_nil _ _ _ _) ⟨b, off, none⟩ xs.length cap (xs.map (Value.int .i64)) hx (by simp) ?_ ?_ (by omega) (by omega) hbase ?_
    · intro j u hj
      rw [List.getElem?_map] at hj
      obtain ⟨y, hy, rfl⟩ := Option.map_eq_some_iff.1 hj
      have hjl : j < xs.length := (List.getElem?_eq_some_iff.1 hy).1
      have := hcells j hjl
      rw [List.getD_eq_getElem?_getD, hy] at this
      have h2 : (⟨b, off, none⟩ : Addr).add j = ⟨b, off + j, none⟩ := by unfold Addr.add; split <;> simp_all
      rw [h2]; simpa using this
    · intro u hu; simp only [List.mem_map] at hu; obtain ⟨y, _, rfl⟩ := hu; rfl
    · intro v' w' hown hg _
      rw [Nat.zero_add, List.nil_append] at hown
      exact h v' w' hown ((Below.refl _ _).grown hg (Nat.le_refl _) (fun k hk => by simp [Value.ownBlock] at hk))

set_option maxRecDepth 100000 in
set_option maxHeartbeats 1000000 in
theorem pick_any (c : Int) (hc : -9223372036854775808 ≤ c ∧ c ≤ 9223372036854775807) (w : World) :
    Calls Tryd.prog 14 #[.int .i64 c, .int .i64 20] w fun e w' => ∃ k : Nat, k < 20 ∧ e = .returned (.int .i64 k) ∧ Below w.heap.size w w' := by
  obtain ⟨h1, h2⟩ := hc
  by_cases h0 : c < 0
  · have hk : -(c + 1).tmod 20 = (((-(c + 1)) % 20).toNat : Int) := by
      rw [← Int.neg_tmod, Int.tmod_eq_emod_of_nonneg (by omega)]; omega
    have HK : Hid (-(c + 1).tmod 20 = (((-(c + 1)) % 20).toNat : Int)) := hk
    clear hk
    go_enter Tryd.func14, Tryd.ntmps14
    go_wp2
    go_ret
    exact ⟨((-(c + 1)) % 20).toNat, by omega, ret_int HK.out, Below.refl _ _⟩
  · have hk : c % 20 = ((c % 20).toNat : Int) := by omega
    have HK : Hid (c % 20 = ((c % 20).toNat : Int)) := hk
    clear hk
    go_enter Tryd.func14, Tryd.ntmps14
    go_wp2
    go_ret
    exact ⟨(c % 20).toNat, by omega, ret_int HK.out, Below.refl _ _⟩
end Go.Proofs.YticlmjkfadklgaaDoor

/- The reference's premises. -/
set_option linter.unusedSimpArgs false
set_option linter.unusedVariables false
namespace Go.Proofs.YticlmjkfadklgaaDoor
open Go.RowKit

set_option maxRecDepth 100000 in
set_option maxHeartbeats 2000000 in
theorem premises_any (n : Fl.Node) (lv : Value) (B : Nat) (w : World) (hB : B ≤ w.heap.size) (hl : IntsAt B w lv n.list) :
    Calls Tryd.prog 29 #[nodeV n lv] w fun e w' => ∃ v, e = .returned v ∧ IntsAt w'.heap.size w' v (prem n) ∧ Below w.heap.size w w' := by
  unfold nodeV
  obtain ⟨ao, cap, rfl, hc, hm, hx⟩ := hl
  have HL : Hid (IntsAt B w (.slice ao n.list.length cap) n.list) := ⟨ao, cap, rfl, hc, hm, hx⟩
  clear hx
  obtain ⟨k, l, a, b, c, ls⟩ := n
  simp only at HL ⊢
  by_cases k2 : k = 2
  · subst k2
    go_enter Tryd.func29, Tryd.ntmps29
    go_wp2
    go_ret
    exact ⟨_, rfl, IntsAt.fresh2 _ _ (prem ⟨2, l, a, b, c, ls⟩) _ _ _ rfl rfl (by simp [prem, maxLen]), ((Below.refl _ _).alloc (Nat.le_refl _) _).alloc (by simp) _⟩
  by_cases k3 : k = 3
  · subst k3
    go_enter Tryd.func29, Tryd.ntmps29
    go_wp2
    go_ret
    exact ⟨_, rfl, IntsAt.fresh2 _ _ (prem ⟨3, l, a, b, c, ls⟩) _ _ _ rfl rfl (by simp [prem, maxLen]), ((Below.refl _ _).alloc (Nat.le_refl _) _).alloc (by simp) _⟩
  by_cases k4 : k = 4
  · subst k4
    go_enter Tryd.func29, Tryd.ntmps29
    go_wp2
    go_ret
    exact ⟨_, rfl, IntsAt.fresh2 _ _ (prem ⟨4, l, a, b, c, ls⟩) _ _ _ rfl rfl (by simp [prem, maxLen]), ((Below.refl _ _).alloc (Nat.le_refl _) _).alloc (by simp) _⟩
  by_cases k5 : k = 5
  · subst k5
    go_enter Tryd.func29, Tryd.ntmps29
    go_wp2
    go_ret
    exact ⟨_, rfl, IntsAt.fresh2 _ _ (prem ⟨5, l, a, b, c, ls⟩) _ _ _ rfl rfl (by simp [prem, maxLen]), ((Below.refl _ _).alloc (Nat.le_refl _) _).alloc (by simp) _⟩
  by_cases k6 : k = 6
  · subst k6
    go_enter Tryd.func29, Tryd.ntmps29
    go_wp2
    go_ret
    exact ⟨_, rfl, IntsAt.fresh2 _ _ (prem ⟨6, l, a, b, c, ls⟩) _ _ _ rfl rfl (by simp [prem, maxLen]), ((Below.refl _ _).alloc (Nat.le_refl _) _).alloc (by simp) _⟩
  by_cases k7 : k = 7
  · subst k7
    go_enter Tryd.func29, Tryd.ntmps29
    go_wp2
    go_ret
    exact ⟨_, rfl, (HL.out.mono hB).below ((Below.refl _ _).alloc (Nat.le_refl _) _) |>.mono (by simp), (Below.refl _ _).alloc (Nat.le_refl _) _⟩
  have b2 : (k == 2) = false := beq_eq_false_iff_ne.2 k2
  have b3 : (k == 3) = false := beq_eq_false_iff_ne.2 k3
  have b4 : (k == 4) = false := beq_eq_false_iff_ne.2 k4
  have b5 : (k == 5) = false := beq_eq_false_iff_ne.2 k5
  have b6 : (k == 6) = false := beq_eq_false_iff_ne.2 k6
  have b7 : (k == 7) = false := beq_eq_false_iff_ne.2 k7
  have hp : prem ⟨k, l, a, b, c, ls⟩ = [] := by simp [prem, k2, k3, k4, k5, k6, k7]
  have HP : Hid (prem ⟨k, l, a, b, c, ls⟩ = []) := hp
  clear hp k2 k3 k4 k5 k6 k7
  go_enter Tryd.func29, Tryd.ntmps29
  go_wp2
  go_ret
  exact ⟨_, rfl, by rw [HP.out]; exact IntsAt.nil _ _, (Below.refl _ _).alloc (Nat.le_refl _) _⟩
end Go.Proofs.YticlmjkfadklgaaDoor
