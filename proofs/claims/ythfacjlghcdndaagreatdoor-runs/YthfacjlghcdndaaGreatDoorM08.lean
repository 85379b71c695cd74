/- Texts Prc Prd Pre Prf. -/
import Derived.Test.YthfacjlghcdndaaGreatDoorM07
import Derived.Maps.OwnSet
import Derived.ChangeMaps5
set_option linter.unusedSimpArgs false
set_option linter.unusedVariables false
namespace Go.Proofs.YthfacjlghcdndaaGreatDoor
open Go.RowKit

def linesArr : Array Value := #[
  .string ⟨#[108, 101, 118, 101, 108]⟩, .string ⟨#[110]⟩, .bool true, .func (.func 59) #[] #[],
  .string ⟨#[98, 101, 108, 111, 119]⟩, .string ⟨#[110, 110]⟩, .bool true, .func (.func 60) #[] #[],
  .string ⟨#[99, 101, 108, 108]⟩, .string ⟨#[110, 110]⟩, .bool true, .func (.func 61) #[] #[],
  .string ⟨#[99, 104, 97, 110, 110, 101, 108]⟩, .string ⟨#[110, 110]⟩, .bool true, .func (.func 62) #[] #[],
  .string ⟨#[98, 101, 103, 105, 110]⟩, .string ⟨#[]⟩, .bool true, .func (.func 63) #[] #[],
  .string ⟨#[115, 101, 116]⟩, .string ⟨#[110, 97]⟩, .bool false, .func (.func 64) #[] #[],
  .string ⟨#[115, 101, 116]⟩, .string ⟨#[110, 97, 111, 97]⟩, .bool false, .func (.func 64) #[] #[],
  .string ⟨#[111, 117, 116]⟩, .string ⟨#[110, 97]⟩, .bool false, .func (.func 65) #[] #[],
  .string ⟨#[105, 102]⟩, .string ⟨#[97]⟩, .bool false, .func (.func 66) #[] #[],
  .string ⟨#[101, 108, 115, 101]⟩, .string ⟨#[]⟩, .bool false, .func (.func 67) #[] #[],
  .string ⟨#[119, 104, 105, 108, 101]⟩, .string ⟨#[97]⟩, .bool false, .func (.func 68) #[] #[],
  .string ⟨#[101, 110, 100]⟩, .string ⟨#[]⟩, .bool false, .func (.func 69) #[] #[]]
def lineFn (k : Nat) : Nat := [59, 60, 61, 62, 63, 64, 64, 65, 66, 67, 68, 69].getD k 0
theorem lineCells (k : Nat) (h : k < 12) : linesArr[k * 4]? = some (.string ⟨(Fl.rule k).1.toArray⟩) ∧ linesArr[k * 4 + 1]? = some (.string ⟨(Fl.rule k).2.1.toArray⟩) ∧ linesArr[k * 4 + 2]? = some (.bool (Fl.rule k).2.2) ∧ linesArr[k * 4 + 3]? = some (.func (.func (lineFn k)) #[] #[]) := by
  rcases (show k = 0 ∨ k = 1 ∨ k = 2 ∨ k = 3 ∨ k = 4 ∨ k = 5 ∨ k = 6 ∨ k = 7 ∨ k = 8 ∨ k = 9 ∨ k = 10 ∨ k = 11 by omega) with rfl | rfl | rfl | rfl | rfl | rfl | rfl | rfl | rfl | rfl | rfl | rfl <;> exact ⟨rfl, rfl, rfl, rfl⟩
theorem ruleShape (k : Nat) (h : k < 12) : (∀ c ∈ (Fl.rule k).2.1, c = 110 ∨ c = 97 ∨ c = 111) ∧ (Fl.rule k).2.1.length ≤ 4 := by
  rcases (show k = 0 ∨ k = 1 ∨ k = 2 ∨ k = 3 ∨ k = 4 ∨ k = 5 ∨ k = 6 ∨ k = 7 ∨ k = 8 ∨ k = 9 ∨ k = 10 ∨ k = 11 by omega) with rfl | rfl | rfl | rfl | rfl | rfl | rfl | rfl | rfl | rfl | rfl | rfl <;> decide
theorem lineEnters (k : Nat) (h : k < 12) : ∀ args W, (callFunc (lineFn k) args).run Tryz.prog W = .ok (.enter (lineFn k) args) W := by
  intro args W
  rcases (show k = 0 ∨ k = 1 ∨ k = 2 ∨ k = 3 ∨ k = 4 ∨ k = 5 ∨ k = 6 ∨ k = 7 ∨ k = 8 ∨ k = 9 ∨ k = 10 ∨ k = 11 by omega) with rfl | rfl | rfl | rfl | rfl | rfl | rfl | rfl | rfl | rfl | rfl | rfl <;> kernel_rfl

set_option maxRecDepth 100000 in
set_option maxHeartbeats 4000000 in
theorem lineRules_any (w : World) : Calls Tryz.prog 42 #[] w fun e w' => e = .returned (.slice (some ⟨w.heap.size, 0, none⟩) 12 12) ∧ w' = w.alloc (.cells linesArr 161) := by
  go_enter Tryz.func42, Tryz.ntmps42
  go_wp2_with fail
  go_ret
  exact ⟨rfl, rfl⟩

theorem rneed_ok (b : Nat) (n : Int) (w : World) : Calls Tryz.prog 46 #[.pointer (some ⟨b, 0, none⟩), .bool true, .int .i64 n] w fun e w' => e = .returned (.tuple #[]) ∧ w' = w := by
  go_enter Tryz.func46, Tryz.ntmps46
  go_wp2
  go_end0
  exact ⟨rfl, rfl⟩
theorem rneed_bad (b : Nat) (n p : Int) (w : World) (hp : w.cell? ⟨b, 1, none⟩ = some (.int .i64 p)) : Calls Tryz.prog 46 #[.pointer (some ⟨b, 0, none⟩), .bool false, .int .i64 n] w fun e w' => e = .panicked (stopAt n p) ∧ Below w.heap.size w w' := by
  go_enter Tryz.func46, Tryz.ntmps46
  go_wp2_with (go_at_call 41; refine (raise_any _ _ _).mono ?_; rintro e w' ⟨rfl, hb⟩)
  exact ⟨rfl, rfl, hb⟩
end Go.Proofs.YthfacjlghcdndaaGreatDoor

namespace Go.Proofs.YthfacjlghcdndaaGreatDoor
open Go.RowKit

theorem Tryz.infoLineRule : (Tryz.prog.info? 161).map (·.size) = some 4 := by kernel_rfl
theorem lrOne (a b : ByteArray) (c : Bool) (f : Nat) : (#[.string a, .string b, .bool c, .func (.func f) #[] #[]] : Array Value).all (·.oneCell') = true := by kernel_rfl
set_option maxRecDepth 100000 in
set_option maxHeartbeats 4000000 in
theorem oneLine_any (R T : Nat) (b off n cap : Nat) (ws : List (List UInt8)) (line : Int) (begun : Bool) (w : World) (G : World → Prop) (Rp : Int → Int → World → Prop)
    (hT : w.heap[T]? = some (.cells linesArr 161 (0, 0))) (hws : WordsAt w.heap.size w (.slice (some ⟨b, off, none⟩) n cap) ws) (hne : ws ≠ [])
    (hl : w.cell? ⟨R, 1, none⟩ = some (.int .i64 line)) (hbg : w.cell? ⟨R, 2, none⟩ = some (.bool begun))
    (hsyn : (∀ k, k < 12 → Fl.isRule ws k = false) → ∀ W, Below w.heap.size w W → Rp 2 line W)
    (hpl : ∀ k, k < 12 → Fl.isRule ws k = true → (Fl.rule k).2.2 = begun → ∀ W, Below w.heap.size w W → Rp 3 line W)
    (hread : ∀ k, k < 12 → Fl.isRule ws k = true → (Fl.rule k).2.2 ≠ begun → ∀ W v, Below w.heap.size w W → WordsAt w.heap.size W v (ws.drop 1) → v.ownBlock = some b → Calls Tryz.prog (lineFn k) #[.pointer (some ⟨R, 0, none⟩), v] W fun e W' => (e = .returned (.tuple #[]) ∧ G W') ∨ ∃ n p, e = .panicked (stopAt n p) ∧ Rp n p W') :
    Calls Tryz.prog 45 #[.pointer (some ⟨R, 0, none⟩), .slice (some ⟨T, 0, none⟩) 12 12, .slice (some ⟨b, off, none⟩) n cap] w fun e W' => (e = .returned (.tuple #[]) ∧ G W') ∨ ∃ n p, e = .panicked (stopAt n p) ∧ Rp n p W' := by
  have HT : Hid _ := hT
  have HW : Hid (WordsAt w.heap.size w (.slice (some ⟨b, off, none⟩) n cap) ws) := hws
  have HL : Hid _ := hl
  have HBG : Hid _ := hbg
  have HSYN : Hid _ := hsyn
  have HPL : Hid _ := hpl
  have HREAD : Hid _ := hread
  clear hT hws hl hbg hsyn hpl hread
  go_enter Tryz.func45, Tryz.ntmps45
  go_wp2_with fail
  go_loopw [10] (fun i wr => ∃ (k : Nat), k ≤ 12 ∧ i = .int .i64 k ∧ Below w.heap.size w wr ∧ ∀ j, j < k → Fl.isRule ws j = false) (fun i _ => 12 - (intOf i).toNat)
  case atStart => exact ⟨0, by omega, rfl, Below.refl _ _, fun j hj => by omega⟩
  case round =>
    obtain ⟨k, hk, rfl, hbel, hno⟩ := hrel
    have HNO : Hid (∀ j, j < k → Fl.isRule ws j = false) := hno
    have HB : Hid (Below w.heap.size w wr) := hbel
    have hTs : T < w.heap.size := (Array.getElem?_eq_some_iff.1 HT.out).1
    have hRs : R < w.heap.size := World.block_lt_of_cell? w ⟨R, 1, none⟩ HL.out
    have hzs := hbel.size
    clear hno
    by_cases hlt : k < 12
    · have hTb : wr.heap[T]? = some (.cells linesArr 161 (0, 0)) := (hbel.block T hTs).trans HT.out
      obtain ⟨hl0, hl1, hl2, hl3⟩ := lineCells k hlt
      have hc : ∀ j v, linesArr[k * 4 + j]? = some v → wr.cell? ⟨T, k * 4 + j, none⟩ = some v := fun j v hv => by
        unfold World.cell?; simp only [hTb]; simpa using hv
      have q0 : wr.cell? ⟨T, k * 4, none⟩ = some (.string ⟨(Fl.rule k).1.toArray⟩) := hc 0 _ (by simpa using hl0)
      have q1 := hc 1 _ hl1
      have q2 := hc 2 _ hl2
      have q3 := hc 3 _ hl3
      obtain ⟨wd, hwd⟩ : ∃ wd, wd = (Fl.rule k).1 := ⟨_, rfl⟩
      obtain ⟨sh, hsh⟩ : ∃ sh, sh = (Fl.rule k).2.1 := ⟨_, rfl⟩
      obtain ⟨ah, hah⟩ : ∃ ah, ah = (Fl.rule k).2.2 := ⟨_, rfl⟩
      obtain ⟨fn, hfn⟩ : ∃ fn, fn = lineFn k := ⟨_, rfl⟩
      rw [← hwd] at q0
      rw [← hsh] at q1
      rw [← hah] at q2
      rw [← hfn] at q3
      obtain ⟨ao', cap', hsl, hln, hcap, hn1, hss, hcw⟩ := HW.out
      simp only [Value.slice.injEq] at hsl
      obtain ⟨rfl, rfl, rfl⟩ := hsl
      obtain ⟨b', off', hao, hbw, hcell⟩ := hcw hne
      simp only [Option.some.injEq, Addr.mk.injEq, and_true] at hao
      obtain ⟨rfl, rfl⟩ := hao
      obtain ⟨x, hx⟩ : ∃ x, x = ws.getD 0 [] := ⟨_, rfl⟩
      have hpos : 0 < ws.length := List.length_pos_iff.2 hne
      have hc0 : wr.cell? ⟨b, off, none⟩ = some (.string ⟨x.toArray⟩) := by
        rw [hbel.cell (p := ⟨b, off, none⟩) hbw, hx]; have := hcell 0 hpos; simpa [strV] using this
      have HX : Hid (x = ws.getD 0 []) := hx
      have HFN : Hid (fn = lineFn k) := hfn
      have HAH : Hid (ah = (Fl.rule k).2.2) := hah
      have HIR : Hid (Fl.isRule ws k = (x == wd && Fl.fitAll sh (ws.drop 1))) := by show _ = _; rw [hx, hwd, hsh]; rfl
      have HSH : Hid ((∀ c ∈ sh, c = 110 ∨ c = 97 ∨ c = 111) ∧ sh.length ≤ 4) := by show _ ∧ _; rw [hsh]; exact ruleShape k hlt
      have hkI : (k : Int) < 12 := by omega
      clear hc hl0 hl1 hl2 hl3 hwd hsh hah hfn hx hcell hTb hcw hss
      go_wp2_with (refine wpList_store_new rfl _ _ 161 rfl wr _ #[.string ⟨wd.toArray⟩, .string ⟨sh.toArray⟩, .bool ah, .func (.func fn) #[] #[]] rfl rfl Tryz.infoLineRule (by rfl) (lrOne _ _ _ _) ?_)
      obtain ⟨W1, hW1⟩ : ∃ W1, W1 = wr.alloc (.cells #[.string ⟨wd.toArray⟩, .string ⟨sh.toArray⟩, .bool ah, .func (.func fn) #[] #[]] 161) := ⟨_, rfl⟩
      obtain ⟨rb, hrb⟩ : ∃ rb, rb = wr.heap.size := ⟨_, rfl⟩
      rw [← hW1, ← hrb]
      have hB1 : Below w.heap.size w W1 := by rw [hW1]; exact hbel.alloc hzs _
      have r0 : W1.cell? ⟨rb, 0, none⟩ = some (.string ⟨wd.toArray⟩) := by rw [hW1, hrb]; exact World.cell?_alloc_new _ _ _ _
      have r1 : W1.cell? ⟨rb, 1, none⟩ = some (.string ⟨sh.toArray⟩) := by rw [hW1, hrb]; exact World.cell?_alloc_new _ _ _ _
      have r2 : W1.cell? ⟨rb, 2, none⟩ = some (.bool ah) := by rw [hW1, hrb]; exact World.cell?_alloc_new _ _ _ _
      have r3 : W1.cell? ⟨rb, 3, none⟩ = some (.func (.func fn) #[] #[]) := by rw [hW1, hrb]; exact World.cell?_alloc_new _ _ _ _
      have hd0 : W1.cell? ⟨b, off, none⟩ = some (.string ⟨x.toArray⟩) := by rw [hW1]; exact (World.cell?_alloc_lt _ _ _ (World.block_lt_of_cell? wr _ hc0)).trans hc0
      have HB1 : Hid (Below w.heap.size w W1) := hB1
      have hz1 : w.heap.size < W1.heap.size := by rw [hW1]; simp; omega
      have hrz : rb < W1.heap.size := by rw [hW1, hrb]; simp
      clear q0 q1 q2 q3 hc0 hW1 hrb hbel hB1
      unfold maxLen at hcap
      cases hxw : x == wd with
      | false =>
        have HNK : Hid (∀ j, j < k + 1 → Fl.isRule ws j = false) := fun j hj => by
          by_cases hjk : j = k
          · subst hjk; rw [HIR.out, hxw]; rfl
          · exact HNO.out j (by omega)
        refine still_tail_gen 11 6 _ 6 _ (by kernel_rfl) (by kernel_rfl) rfl rfl (fun ops hY hY2 => ?_)
        simp only [List.take_succ_cons, List.take_zero, List.drop_succ_cons, List.drop_zero]
        iterate 11 still_step
        refine wpStill_nil ?_
        go_wp2
        go_roundw
        case rel => exact ⟨k + 1, by omega, by go_num, HB1.out.drew, HNK.out⟩
        case measure => simp [intOf]; omega
      | true =>
        have hlcI : (1 : Int) ≤ (ws.length : Int) := by omega
        have hlcJ : (ws.length : Int) ≤ (cap : Int) := by omega
        by_cases hcap1 : cap = 1
        · subst hcap1
          refine still_tail_gen 11 6 _ 6 _ (by kernel_rfl) (by kernel_rfl) rfl rfl (fun ops hY hY2 => ?_)
          simp only [List.take_succ_cons, List.take_zero, List.drop_succ_cons, List.drop_zero]
          iterate 11 still_step
          refine wpStill_nil ?_
          go_wp2_with fail
          have hWA : ∀ W, Below w.heap.size w W → WordsAt w.heap.size W (.slice (some ⟨b, off, none⟩) 0 0) (ws.drop 1) := fun W hW => by
            have : ws.drop 1 = [] := List.drop_eq_nil_of_le (by omega)
            rw [this]
            exact ⟨_, _, rfl, by simp, by simp [maxLen], by simp, by simp, fun h => absurd rfl h⟩
          have HWA : Hid (∀ W, Below w.heap.size w W → WordsAt w.heap.size W (.slice (some ⟨b, off, none⟩) 0 0) (ws.drop 1)) := hWA
          have HF := fits_any w.heap.size sh (.slice (some ⟨b, off, none⟩) 0 0) (ws.drop 1) W1.drew (hWA _ HB1.out.drew) (by simp; omega) HSH.out.1 HSH.out.2
          clear hWA
          refine HF.mono ?_
          clear HF
          rintro e W2 ⟨rfl, hb2⟩
          have HB2 : Hid (Below w.heap.size w W2) := HB1.out.drew.trans (hb2.mono (by simp; omega))
          have s2 : W2.cell? ⟨rb, 2, none⟩ = some (.bool ah) := (hb2.cell (p := ⟨rb, 2, none⟩) (by simpa using hrz)).trans r2
          have s3 : W2.cell? ⟨rb, 3, none⟩ = some (.func (.func fn) #[] #[]) := (hb2.cell (p := ⟨rb, 3, none⟩) (by simpa using hrz)).trans r3
          have t2 : W2.cell? ⟨R, 2, none⟩ = some (.bool begun) := (HB2.out.cell (p := ⟨R, 2, none⟩) hRs).trans HBG.out
          have t1 : W2.cell? ⟨R, 1, none⟩ = some (.int .i64 line) := (HB2.out.cell (p := ⟨R, 1, none⟩) hRs).trans HL.out
          have hz2 : w.heap.size < W2.heap.size := by have := hb2.size; simp at this; omega
          clear hb2 r0 r1 r2 r3 hd0
          cases hfit : Fl.fitAll sh (ws.drop 1) with
          | false =>
            have HNK : Hid (∀ j, j < k + 1 → Fl.isRule ws j = false) := fun j hj => by
              by_cases hjk : j = k
              · subst hjk; rw [HIR.out, hfit]; simp
              · exact HNO.out j (by omega)
            clear hfit s2 s3 t1 t2
            go_wp2
            go_roundw
            case rel => exact ⟨k + 1, by omega, by go_num, HB2.out, HNK.out⟩
            case measure => simp [intOf]; omega
          | true =>
            have HRK : Hid (Fl.isRule ws k = true) := by show _ = _; rw [HIR.out, hxw, hfit]; rfl
            clear hfit
            by_cases hab : ah = begun
            · subst hab
              have HNB : Hid (Calls Tryz.prog 46 #[.pointer (some ⟨R, 0, none⟩), .bool false, .int .i64 3] W2.drew fun e w' => e = .panicked (stopAt 3 line) ∧ Below W2.drew.heap.size W2.drew w') := rneed_bad R 3 line W2.drew t1
              have b9 : (ah != ah) = false := by simp
              go_wp2_with fail
              go_still_tail 8, (by kernel_rfl)
              go_wp2_with fail
              refine HNB.out.mono ?_
              rintro e W3 ⟨rfl, hb3⟩
              exact ⟨rfl, .inr ⟨_, _, rfl, HPL.out k hlt HRK.out HAH.out.symm W3 (HB2.out.drew.trans (hb3.mono (by simp; omega)))⟩⟩
            · have b9 : (ah == begun) = false := beq_eq_false_iff_ne.2 hab
              have HNB : Hid (Calls Tryz.prog 46 #[.pointer (some ⟨R, 0, none⟩), .bool true, .int .i64 3] W2.drew fun e w' => e = .returned (.tuple #[]) ∧ w' = W2.drew) := rneed_ok R 3 W2.drew
              have hin : ∀ args W, (callFunc fn args).run Tryz.prog W = .ok (.enter fn args) W := by rw [HFN.out]; exact lineEnters k hlt
              go_wp2_with fail
              go_still_tail 8, (by kernel_rfl)
              go_wp2_with fail
              refine HNB.out.mono ?_
              rintro e W3 ⟨rfl, hW3⟩
              have u3 : W3.cell? ⟨rb, 3, none⟩ = some (.func (.func fn) #[] #[]) := by rw [hW3]; exact s3
              have HB3 : Hid (Below w.heap.size w W3) := by rw [hW3]; exact HB2.out.drew
              clear hW3 s2 s3 t1 t2 HNB
              go_wp2_with fail
              go_still_tail 5, (by kernel_rfl)
              go_wp2_with fail
              have HRC := HREAD.out k hlt HRK.out (by rw [← HAH.out]; exact hab) W3.drew (.slice (some ⟨b, off, none⟩) 0 0) HB3.out.drew (HWA.out _ HB3.out.drew) rfl
              rw [← HFN.out] at HRC
              refine HRC.mono ?_
              clear HRC
              rintro e W4 (⟨rfl, hG⟩ | ⟨n, p, rfl, hR⟩)
              · have HG : Hid (G W4) := hG
                clear hG
                go_wp2
                (try simp only [Exit.inBlock, Exit.then])
                refine bodyPost_ret (results_none rfl _ _ _) rfl ?_
                exact .inl ⟨rfl, HG.out⟩
              · exact ⟨rfl, .inr ⟨_, _, rfl, hR⟩⟩
        · skip
          refine still_tail_gen 11 6 _ 6 _ (by kernel_rfl) (by kernel_rfl) rfl rfl (fun ops hY hY2 => ?_)
          simp only [List.take_succ_cons, List.take_zero, List.drop_succ_cons, List.drop_zero]
          iterate 11 still_step
          refine wpStill_nil ?_
          go_wp2_with fail
          have hWA : ∀ W, Below w.heap.size w W → WordsAt w.heap.size W (.slice (some ⟨b, off + 1, none⟩) (ws.length - 1) (cap - 1)) (ws.drop 1) := fun W hW => by
            exact (HW.out.below hW).drop 1 (by omega)
          have HWA : Hid (∀ W, Below w.heap.size w W → WordsAt w.heap.size W (.slice (some ⟨b, off + 1, none⟩) (ws.length - 1) (cap - 1)) (ws.drop 1)) := hWA
          have HF := fits_any w.heap.size sh (.slice (some ⟨b, off + 1, none⟩) (ws.length - 1) (cap - 1)) (ws.drop 1) W1.drew (hWA _ HB1.out.drew) (by simp; omega) HSH.out.1 HSH.out.2
          clear hWA
          refine HF.mono ?_
          clear HF
          rintro e W2 ⟨rfl, hb2⟩
          have HB2 : Hid (Below w.heap.size w W2) := HB1.out.drew.trans (hb2.mono (by simp; omega))
          have s2 : W2.cell? ⟨rb, 2, none⟩ = some (.bool ah) := (hb2.cell (p := ⟨rb, 2, none⟩) (by simpa using hrz)).trans r2
          have s3 : W2.cell? ⟨rb, 3, none⟩ = some (.func (.func fn) #[] #[]) := (hb2.cell (p := ⟨rb, 3, none⟩) (by simpa using hrz)).trans r3
          have t2 : W2.cell? ⟨R, 2, none⟩ = some (.bool begun) := (HB2.out.cell (p := ⟨R, 2, none⟩) hRs).trans HBG.out
          have t1 : W2.cell? ⟨R, 1, none⟩ = some (.int .i64 line) := (HB2.out.cell (p := ⟨R, 1, none⟩) hRs).trans HL.out
          have hz2 : w.heap.size < W2.heap.size := by have := hb2.size; simp at this; omega
          clear hb2 r0 r1 r2 r3 hd0
          cases hfit : Fl.fitAll sh (ws.drop 1) with
          | false =>
            have HNK : Hid (∀ j, j < k + 1 → Fl.isRule ws j = false) := fun j hj => by
              by_cases hjk : j = k
              · subst hjk; rw [HIR.out, hfit]; simp
              · exact HNO.out j (by omega)
            clear hfit s2 s3 t1 t2
            go_wp2
            go_roundw
            case rel => exact ⟨k + 1, by omega, by go_num, HB2.out, HNK.out⟩
            case measure => simp [intOf]; omega
          | true =>
            have HRK : Hid (Fl.isRule ws k = true) := by show _ = _; rw [HIR.out, hxw, hfit]; rfl
            clear hfit
            by_cases hab : ah = begun
            · subst hab
              have HNB : Hid (Calls Tryz.prog 46 #[.pointer (some ⟨R, 0, none⟩), .bool false, .int .i64 3] W2.drew fun e w' => e = .panicked (stopAt 3 line) ∧ Below W2.drew.heap.size W2.drew w') := rneed_bad R 3 line W2.drew t1
              have b9 : (ah != ah) = false := by simp
              go_wp2_with fail
              go_still_tail 8, (by kernel_rfl)
              go_wp2_with fail
              refine HNB.out.mono ?_
              rintro e W3 ⟨rfl, hb3⟩
              exact ⟨rfl, .inr ⟨_, _, rfl, HPL.out k hlt HRK.out HAH.out.symm W3 (HB2.out.drew.trans (hb3.mono (by simp; omega)))⟩⟩
            · have b9 : (ah == begun) = false := beq_eq_false_iff_ne.2 hab
              have HNB : Hid (Calls Tryz.prog 46 #[.pointer (some ⟨R, 0, none⟩), .bool true, .int .i64 3] W2.drew fun e w' => e = .returned (.tuple #[]) ∧ w' = W2.drew) := rneed_ok R 3 W2.drew
              have hin : ∀ args W, (callFunc fn args).run Tryz.prog W = .ok (.enter fn args) W := by rw [HFN.out]; exact lineEnters k hlt
              go_wp2_with fail
              go_still_tail 8, (by kernel_rfl)
              go_wp2_with fail
              refine HNB.out.mono ?_
              rintro e W3 ⟨rfl, hW3⟩
              have u3 : W3.cell? ⟨rb, 3, none⟩ = some (.func (.func fn) #[] #[]) := by rw [hW3]; exact s3
              have HB3 : Hid (Below w.heap.size w W3) := by rw [hW3]; exact HB2.out.drew
              clear hW3 s2 s3 t1 t2 HNB
              go_wp2_with fail
              go_still_tail 5, (by kernel_rfl)
              go_wp2_with fail
              have HRC := HREAD.out k hlt HRK.out (by rw [← HAH.out]; exact hab) W3.drew (.slice (some ⟨b, off + 1, none⟩) (ws.length - 1) (cap - 1)) HB3.out.drew (HWA.out _ HB3.out.drew) rfl
              rw [← HFN.out] at HRC
              refine HRC.mono ?_
              clear HRC
              rintro e W4 (⟨rfl, hG⟩ | ⟨n, p, rfl, hR⟩)
              · have HG : Hid (G W4) := hG
                clear hG
                go_wp2
                (try simp only [Exit.inBlock, Exit.then])
                refine bodyPost_ret (results_none rfl _ _ _) rfl ?_
                exact .inl ⟨rfl, HG.out⟩
              · exact ⟨rfl, .inr ⟨_, _, rfl, hR⟩⟩
    · obtain rfl : k = 12 := by omega
      have HRS : Hid (∀ W, Below w.heap.size w W → Calls Tryz.prog 46 #[.pointer (some ⟨R, 0, none⟩), .bool false, .int .i64 2] W fun e w' => e = .panicked (stopAt 2 line) ∧ Below W.heap.size W w') := fun W hW => rneed_bad R 2 line W ((hW.cell (p := ⟨R, 1, none⟩) hRs).trans HL.out)
      clear hbel
      go_wp2_with fail
      refine (HRS.out _ HB.out).mono ?_
      rintro e w2 ⟨rfl, hb2⟩
      exact ⟨rfl, .inr ⟨_, _, rfl, HSYN.out HNO.out w2 (HB.out.trans (hb2.mono (by omega)))⟩⟩
end Go.Proofs.YthfacjlghcdndaaGreatDoor

namespace Go.Proofs.YthfacjlghcdndaaGreatDoor
open Go.RowKit Go.Maps Go.WideMaps

namespace Fl
theorem placeFrom_shift (w : List UInt8) : ∀ (l : List (List UInt8)) (i : Nat), placeFrom i w l = if placeFrom 0 w l < 0 then -1 else (i : Int) + placeFrom 0 w l
  | [], i => by simp [placeFrom]
  | x :: r, i => by
    simp only [placeFrom]
    by_cases hx : (x == w) = true
    · simp only [hx, if_true]; simp
    · simp only [show (x == w) = false by simpa using hx, Bool.false_eq_true, if_false]
      rw [placeFrom_shift w r (i + 1), placeFrom_shift w r (0 + 1)]
      by_cases h : placeFrom 0 w r < 0
      · simp [h]
      · simp only [h, if_false]; rw [if_neg (by omega)]; omega
theorem place_cases (l : List (List UInt8)) (w : List UInt8) : place l w = -1 ∨ (0 ≤ place l w ∧ place l w < l.length) := by
  unfold place
  induction l with
  | nil => left; rfl
  | cons x r ih =>
    simp only [placeFrom, List.length_cons]
    by_cases hx : (x == w) = true
    · right; simp only [hx, if_true]; omega
    · simp only [show (x == w) = false by simpa using hx, Bool.false_eq_true, if_false]
      rw [placeFrom_shift]
      rcases ih with h | h
      · left; rw [h]; rfl
      · right; rw [if_neg (by omega)]; omega
theorem place_append (a b : List (List UInt8)) (w : List UInt8) : place (a ++ b) w = if 0 ≤ place a w then place a w else if 0 ≤ place b w then (a.length : Int) + place b w else -1 := by
  induction a with
  | nil =>
    rcases place_cases b w with h | h
    · simp [place, placeFrom] at h ⊢; rw [h]; simp
    · have : ¬ (0 ≤ place ([] : List (List UInt8)) w) := by simp [place, placeFrom]
      simp only [List.nil_append, this, if_false, h.1, if_true, List.length_nil]; omega
  | cons x r ih =>
    unfold place at ih ⊢
    simp only [List.cons_append, placeFrom, List.length_cons]
    by_cases hx : (x == w) = true
    · simp [hx]
    · simp only [show (x == w) = false by simpa using hx, Bool.false_eq_true, if_false]
      rw [placeFrom_shift w (r ++ b), placeFrom_shift w r (0 + 1), ih]
      have h1 := place_cases r w
      have h2 := place_cases b w
      unfold place at h1 h2
      rcases h1 with h1 | h1
      · rw [h1]; simp only [show ¬ (0 : Int) ≤ -1 by omega, if_false]
        rcases h2 with h2 | h2
        · rw [h2]; simp
        · simp only [h2.1, if_true]; rw [if_neg (by omega)]; simp only [show (-1 : Int) < 0 by omega, if_true, show ¬ (0 : Int) ≤ -1 by omega, if_false]; push_cast; omega
      · simp only [h1.1, if_true]
        rw [if_neg (by omega), if_pos (by omega)]
theorem place_snoc_same (a : List (List UInt8)) (w : List UInt8) (h : place a w < 0) : place (a ++ [w]) w = a.length := by
  rw [place_append, if_neg (by omega)]
  have : place [w] w = 0 := by simp [place, placeFrom]
  rw [this]; simp
theorem place_snoc_other (a : List (List UInt8)) (w x : List UInt8) (h : x ≠ w) : place (a ++ [w]) x = place a x := by
  rw [place_append]
  have : place [w] x = -1 := by simp [place, placeFrom, Ne.symm h]
  rw [this]
  rcases place_cases a x with h1 | h1
  · rw [h1]; simp
  · simp [h1.1]
end Fl

def NameMap (w : World) (b : Nat) (names : List (List UInt8)) : Prop :=
  ∃ n D, w.ownsMap (H := Unit) Tryz.prog 9 (plainElem Tryz.prog 3) b n D ∧ n ≤ names.length ∧ Maps.size D = names.length ∧ Tidy D ∧ IsMap D ∧
    ∀ x, Maps.has D (.string x) = decide (0 ≤ Fl.place names x) ∧ D.atKey (.string x) (.lit (.int .i64 0)) = .lit (.int .i64 (max 0 (Fl.place names x)))
theorem lawStr : Keyed Tryz.prog 9 := string_keyed Tryz.underlying9
theorem zeroInt' (w : World) : (zeroValue 3).run Tryz.prog w = .ok (.int .i64 0) w := by kernel_rfl
theorem keyStr (x : List UInt8) (h : x.length ≤ 100000) : keyOf Tryz.prog 9 (.string ⟨x.toArray⟩) = some (.string x) := by
  have := keyOf_string_mk (P := Tryz.prog) Tryz.underlying9 (s := ⟨x.toArray⟩) (by show x.toArray.size ≤ _; simp [maxLen]; omega)
  simpa using this
theorem NameMap.kept {w w' : World} {b : Nat} {names : List (List UInt8)} (h : NameMap w b names) {row : Option Nat} (g : w.grownBy w' row) (hb : some b ≠ row) : NameMap w' b names := by
  obtain ⟨n, D, h1, h2⟩ := h
  exact ⟨n, D, h1.kept g hb, h2⟩
theorem NameMap.block {w w' : World} {b : Nat} {names : List (List UInt8)} (h : NameMap w b names) (hb : w'.heap[b]? = w.heap[b]?) : NameMap w' b names := by
  obtain ⟨n, D, ⟨es, clock, h1, h1'⟩, h2⟩ := h
  exact ⟨n, D, ⟨es, clock, by rw [hb]; exact h1, h1'⟩, h2⟩
theorem NameMap.lt {w : World} {b : Nat} {names : List (List UInt8)} (h : NameMap w b names) : b < w.heap.size := by
  obtain ⟨n, D, h1, h2⟩ := h
  exact h1.lt
theorem NameMap.made (w : World) : NameMap (w.alloc (.map #[] 0)) w.heap.size [] :=
  ⟨0, .map [], World.ownsMap_made w _ _ _, Nat.le_refl _, rfl, (World.ownsMap_made (H := Unit) w Tryz.prog 9 (plainElem Tryz.prog 3)).tidy lawStr, (World.ownsMap_made (H := Unit) w Tryz.prog 9 (plainElem Tryz.prog 3)).isMap, fun x => ⟨by simp [Maps.has, Fl.place, Fl.placeFrom], by simp [DataW.atKey, Fl.place, Fl.placeFrom]; decide⟩⟩
theorem NameMap.look {w : World} {b : Nat} {names : List (List UInt8)} (h : NameMap w b names) (x : List UInt8) (hx : x.length ≤ 100000) :
    (Instr.lookup 92 (.map (some b)) (.string ⟨x.toArray⟩) true).run Tryz.prog w = .ok (.tuple #[.int .i64 (max 0 (Fl.place names x)), .bool (decide (0 ≤ Fl.place names x))]) w := by
  obtain ⟨n, D, h1, h2, h3, h4, h5, h6⟩ := h
  obtain ⟨v, ps, hr, hv⟩ := h1.look_ok lawStr Tryz.underlying92 (zeroInt' w) (zd := .lit (.int .i64 0)) (zp := []) (plainElem_int Tryz.underlying3 (by decide)) (keyStr x hx)
  obtain ⟨c, rfl, hc, _⟩ := plainElem_int_inv Tryz.underlying3 hv
  rw [(h6 x).2] at hc
  rw [hr, (h6 x).1]
  simp only [Prod.mk.injEq, DataW.lit.injEq, Lit.int.injEq, true_and] at hc
  rw [hc.1]
theorem NameMap.look2 {w : World} {b : Nat} {names : List (List UInt8)} (h : NameMap w b names) (x : List UInt8) (hx : x.length ≤ 100000) :
    ∃ (mx : Int) (tb : Bool), (Instr.lookup 92 (.map (some b)) (.string ⟨x.toArray⟩) true).run Tryz.prog w = .ok (.tuple #[.int .i64 mx, .bool tb]) w ∧ tb = decide (0 ≤ Fl.place names x) ∧ mx = max 0 (Fl.place names x) := ⟨_, _, h.look x hx, rfl, rfl⟩
theorem NameMap.len {w : World} {b : Nat} {names : List (List UInt8)} (h : NameMap w b names) (ty : TypeId) : (Builtin.len_ #[92] ty #[.map (some b)]).run Tryz.prog w = .ok (.int .i64 names.length) w := by
  obtain ⟨n, D, h1, h2, h3, h4⟩ := h
  rw [h1.len Tryz.underlying92 ty, h3]
theorem NameMap.put {w : World} {b : Nat} {names : List (List UInt8)} (h : NameMap w b names) (x : List UInt8) (hx : x.length ≤ 100000) (hno : Fl.place names x < 0) (hn : names.length ≤ 100) :
    ∃ w', (Instr.mapUpdate 92 (.map (some b)) (.string ⟨x.toArray⟩) (.int .i64 names.length)).run Tryz.prog w = .ok () w' ∧ NameMap w' b (names ++ [x]) ∧ w.grownBy w' (some b) := by
  obtain ⟨n, D, h1, h2, h3, h4, h5, h6⟩ := h
  obtain ⟨w', hr, ho, ht⟩ := h1.store lawStr Tryz.underlying92 (by unfold maxLen; omega) (keyStr x hx) (plainElem_int Tryz.underlying3 (show (Lit.int .i64 (names.length : Int)).wf = true from WalkArith.wf_i64 (by omega)))
  refine ⟨w', hr, ⟨n + 1, _, ho, by simp; omega, ?_, ho.tidy lawStr, ho.isMap, fun y => ?_⟩, ht.grown⟩
  · rw [size_put h4, (h6 x).1, h3]; simp [hno]
  · by_cases hy : y = x
    · subst hy
      rw [has_put_same h5 (by simp [WideAt.IsKeyLit]), atKey_put_same h5 (by simp [WideAt.IsKeyLit]), Fl.place_snoc_same _ _ hno]
      simp
    · have hne : (Lit.string y) ≠ .string x := by simpa using hy
      rw [has_put_other hne, atKey_put_other hne, Fl.place_snoc_other _ _ _ hy]
      exact h6 y
end Go.Proofs.YthfacjlghcdndaaGreatDoor

namespace Go.Proofs.YthfacjlghcdndaaGreatDoor
open Go.RowKit

structure Cells (w : World) (b n : Nat) (f : Nat → Value) : Prop where
  c : ∀ j, j < n → w.cell? ⟨b, j, none⟩ = some (f j)
  z : ∀ j, w.frozen? ⟨b, j, none⟩ = false
abbrev rw_ (l : List Value) : Nat → Value := fun i => l.getD i undef
def ptr (b : Nat) : Value := .pointer (some ⟨b, 0, none⟩)
theorem Cells.block {w w' : World} {b n : Nat} {f : Nat → Value} (h : Cells w b n f) (hb : w'.heap[b]? = w.heap[b]?) : Cells w' b n f :=
  ⟨fun j hj => (World.cell?_of_block (a := ⟨b, j, none⟩) hb).trans (h.c j hj), fun j => (World.frozen?_of_block (a := ⟨b, j, none⟩) hb).trans (h.z j)⟩
theorem Cells.set {w : World} {b n : Nat} {f : Nat → Value} (h : Cells w b n f) {j : Nat} (hj : j < n) (v : Value) : Cells (w.setCell ⟨b, j, none⟩ v) b n (fun i => if i = j then v else f i) := by
  refine ⟨fun i hi => ?_, fun i => by rw [World.frozen?_setCell]; exact h.z i⟩
  by_cases hij : i = j
  · subst hij; rw [if_pos rfl]; exact World.cell?_setCell_same' _ _ _ (by simp [h.c i hi])
  · rw [if_neg hij]
    refine (World.cell?_setCell_other _ _ _ _ ?_).trans (h.c i hi)
    intro hh; injection hh with _ h2; exact hij (by omega)
theorem Cells.lt {w : World} {b n : Nat} {f : Nat → Value} (h : Cells w b n f) (hn : 0 < n) : b < w.heap.size := World.block_lt_of_cell? w ⟨b, 0, none⟩ (h.c 0 hn)
theorem Cells.new (w : World) (l : List Value) (t : TypeId) : Cells (w.alloc (.cells l.toArray t)) w.heap.size l.length (rw_ l) := by
  refine ⟨fun j hj => ?_, fun j => by rw [World.frozen?, heap_alloc_new]; simp⟩
  rw [World.cell?_alloc_new]; simp [rw_, List.getD_eq_getElem?_getD, hj]
theorem Cells.congr {w : World} {b n : Nat} {f g : Nat → Value} (h : Cells w b n f) (hg : ∀ j, j < n → f j = g j) : Cells w b n g := ⟨fun j hj => by rw [← hg j hj]; exact h.c j hj, h.z⟩
theorem setCell_block (w : World) (b j : Nat) (v : Value) (k : Nat) (hk : k ≠ b) : (w.setCell ⟨b, j, none⟩ v).heap[k]? = w.heap[k]? := Below.heap_setCell w ⟨b, j, none⟩ v k hk
theorem setCell_size (w : World) (a : Addr) (v : Value) : (w.setCell a v).heap.size = w.heap.size := by simp [World.setCell]

def AtomAt (S : Nat → Prop) (w : World) (p : Value) (a : Fl.Atom) : Prop :=
  ∃ vb, p = ptr vb ∧ S vb ∧ Cells w vb 4 (rw_ [.int .i64 (if a.var then 1 else 0), .int .i64 a.v, .pointer none, .pointer none])
def PVal (S : Nat → Prop) (w : World) (p : Value) (e : Fl.Expr) : Prop :=
  (e.op = -1 ∧ AtomAt S w p e.a) ∨ (0 ≤ e.op ∧ ∃ vb x y, p = ptr vb ∧ S vb ∧ Cells w vb 4 (rw_ [.int .i64 2, .int .i64 e.op, x, y]) ∧ AtomAt S w x e.a ∧ AtomAt S w y e.b)
def PStmt1 (K : (Nat → Prop) → World → Value → List Fl.Stmt → Prop) (S : Nat → Prop) (w : World) (p : Value) (s : Fl.Stmt) : Prop :=
  ∃ sb vp fv ev, p = ptr sb ∧ S sb ∧ Cells w sb 6 (rw_ [.int .i64 s.kind, .int .i64 s.line, .int .i64 s.x, vp, fv, ev]) ∧ PVal S w vp s.e ∧ K S w fv s.body ∧ K S w ev s.other
def noS : Fl.Stmt := ⟨0, 0, 0, ⟨-1, ⟨false, 0⟩, ⟨false, 0⟩⟩, [], []⟩
def PStmts : Nat → (Nat → Prop) → World → Value → List Fl.Stmt → Prop
  | 0, _, _, v, l => l = [] ∧ v = .slice none 0 0
  | d + 1, S, w, v, l => ∃ ao cap, v = .slice ao l.length cap ∧ l.length ≤ cap ∧ cap ≤ maxLen ∧ l.length ≤ 16 ∧
      (l ≠ [] → ∃ b off, ao = some ⟨b, off, none⟩ ∧ S b ∧ ∀ i, i < l.length → ∃ p, w.cell? ⟨b, off + i, none⟩ = some p ∧ PStmt1 (PStmts d) S w p (l.getD i noS))
section
variable {S S' : Nat → Prop} {w w' : World}
theorem AtomAt.kept {p : Value} {a : Fl.Atom} (h : AtomAt S w p a) (hS : ∀ b, S b → S' b) (hw : ∀ b, S b → w'.heap[b]? = w.heap[b]?) : AtomAt S' w' p a := by
  obtain ⟨vb, h1, h2, h3⟩ := h
  exact ⟨vb, h1, hS _ h2, h3.block (hw _ h2)⟩
theorem PVal.kept {p : Value} {e : Fl.Expr} (h : PVal S w p e) (hS : ∀ b, S b → S' b) (hw : ∀ b, S b → w'.heap[b]? = w.heap[b]?) : PVal S' w' p e := by
  rcases h with ⟨h1, h2⟩ | ⟨h1, vb, x, y, h2, h3, h4, h5, h6⟩
  · exact .inl ⟨h1, h2.kept hS hw⟩
  · exact .inr ⟨h1, vb, x, y, h2, hS _ h3, h4.block (hw _ h3), h5.kept hS hw, h6.kept hS hw⟩
theorem PStmt1.kept {K : (Nat → Prop) → World → Value → List Fl.Stmt → Prop} (hK : ∀ v l, K S w v l → K S' w' v l) {p : Value} {s : Fl.Stmt} (h : PStmt1 K S w p s) (hS : ∀ b, S b → S' b) (hw : ∀ b, S b → w'.heap[b]? = w.heap[b]?) : PStmt1 K S' w' p s := by
  obtain ⟨sb, vp, fv, ev, h1, h2, h3, h4, h5, h6⟩ := h
  exact ⟨sb, vp, fv, ev, h1, hS _ h2, h3.block (hw _ h2), h4.kept hS hw, hK _ _ h5, hK _ _ h6⟩
theorem PStmts.kept (hS : ∀ b, S b → S' b) (hw : ∀ b, S b → w'.heap[b]? = w.heap[b]?) : ∀ (d : Nat) (v : Value) (l : List Fl.Stmt), PStmts d S w v l → PStmts d S' w' v l
  | 0, _, _, h => h
  | d + 1, v, l, h => by
    obtain ⟨ao, cap, h1, h2, h3, h4, h5⟩ := h
    refine ⟨ao, cap, h1, h2, h3, h4, fun hne => ?_⟩
    obtain ⟨b, off, e, hb, hc⟩ := h5 hne
    refine ⟨b, off, e, hS b hb, fun i hi => ?_⟩
    obtain ⟨p, hp, hp1⟩ := hc i hi
    exact ⟨p, (World.cell?_of_block (a := ⟨b, off + i, none⟩) (hw b hb)).trans hp, hp1.kept (fun v l h => PStmts.kept hS hw d v l h) hS hw⟩
end
theorem PStmts.nil (d : Nat) (S : Nat → Prop) (w : World) : PStmts d S w (.slice none 0 0) [] := by
  cases d with
  | zero => exact ⟨rfl, rfl⟩
  | succ d => exact ⟨none, 0, rfl, by simp, by simp [maxLen], by simp, fun h => absurd rfl h⟩

def PartAt (d : Nat) (S : Nat → Prop) (base : Nat) (w : World) (v : Value) (ts : List Fl.Stmt) (tl : List Value) : Prop :=
  ∃ ps : List Value, w.ownsRow base 140 1 v (ps.length + tl.length) (ps ++ tl) ∧ ps.length = ts.length ∧ ∀ i, i < ts.length → PStmt1 (PStmts d) S w (ps.getD i undef) (ts.getD i noS)
theorem PartAt.kept {d : Nat} {S S' : Nat → Prop} {base : Nat} {w w' : World} {v : Value} {ts : List Fl.Stmt} {tl : List Value} (h : PartAt d S base w v ts tl) (hS : ∀ b, S b → S' b) (hw : ∀ b, S b → w'.heap[b]? = w.heap[b]?) (hv : ∀ b, v.ownBlock = some b → w'.heap[b]? = w.heap[b]?) : PartAt d S' base w' v ts tl := by
  obtain ⟨ps, h1, h2, h3⟩ := h
  refine ⟨ps, ⟨h1.1, ?_⟩, h2, fun i hi => (h3 i hi).kept (fun v l h => PStmts.kept hS hw d v l h) hS hw⟩
  rcases h1.2 with ⟨rfl, h0⟩ | ⟨g, cap, cur, rfl, hb, hg, hr⟩
  · exact .inl ⟨rfl, h0⟩
  · exact .inr ⟨g, cap, cur, rfl, hb, by rw [hv g rfl]; exact hg, hr⟩
theorem PartAt.closed {d : Nat} {S : Nat → Prop} {base : Nat} {w : World} {v : Value} {ts : List Fl.Stmt} (h : PartAt d S base w v ts []) (hv : ∀ b, v.ownBlock = some b → S b) (hl : ts.length ≤ 16) : PStmts (d + 1) S w v ts := by
  obtain ⟨ps, h1, h2, h3⟩ := h
  simp only [List.append_nil, List.length_nil, Nat.add_zero] at h1
  rcases h1.2 with ⟨rfl, h0⟩ | ⟨g, cap, cur, rfl, hb, hg, hnc, hcm, hcs, ht⟩
  · have : ts = [] := List.eq_nil_of_length_eq_zero (by omega)
    subst this; exact PStmts.nil _ _ _
  · refine ⟨_, cap, by rw [← h2], by omega, hcm, hl, fun hne => ⟨g, 0, rfl, hv g rfl, fun i hi => ⟨ps.getD i undef, ?_, h3 i hi⟩⟩⟩
    have h4 := h1.cells (g := g) rfl i (ps.getD i undef) (by rw [List.getD_eq_getElem?_getD, List.getElem?_eq_getElem (by omega)]; simp)
    have h5 : (⟨g, 0, none⟩ : Addr).add i = ⟨g, 0 + i, none⟩ := by unfold Addr.add; split <;> simp_all
    rw [h5] at h4; exact h4

structure GF where
  sb : Nat
  ob : Nat
  vp : Value
  fv : Value
  ev : Value
def GF.act (g : GF) (f : Fl.Frame) : Value := if f.had then g.ev else g.fv
structure FrameOk (who : Nat → Nat) (base : Nat) (w : World) (d i : Nat) (tl : List Value) (f : Fl.Frame) (g : GF) : Prop where
  ts : who g.sb = 10 + 3 * i
  to : who g.ob = 11 + 3 * i
  ta : ∀ b, (g.act f).ownBlock = some b → who b = 12 + 3 * i
  co : Cells w g.ob 2 (rw_ [ptr g.sb, .bool f.had])
  cs : Cells w g.sb 6 (rw_ [.int .i64 f.kind, .int .i64 f.line, .int .i64 0, g.vp, g.fv, g.ev])
  hv : PVal (fun b => who b = 0) w g.vp f.e
  pa : PartAt d (fun b => who b = 0) base w (g.act f) (if f.had then f.els else f.first) tl
  pf : f.had = true → PStmts (d + 1) (fun b => who b = 0) w g.fv f.first
  pe : f.had = false → g.ev = .slice none 0 0 ∧ f.els = []
def FramesAt (who : Nat → Nat) (base : Nat) (w : World) : Nat → List Value → List Fl.Frame → List GF → Prop
  | _, _, [], [] => True
  | d, tl, f :: fs, g :: gs => FrameOk who base w d fs.length tl f g ∧ FramesAt who base w (d + 1) [ptr g.sb] fs gs
  | _, _, _, _ => False
theorem FrameOk.kept {who who' : Nat → Nat} {base : Nat} {w w' : World} {d i : Nat} {tl : List Value} {f : Fl.Frame} {g : GF} (h : FrameOk who base w d i tl f g) (hS : ∀ b, who b = 0 ∨ who b = 10 + 3 * i ∨ who b = 11 + 3 * i ∨ who b = 12 + 3 * i → who' b = who b ∧ w'.heap[b]? = w.heap[b]?) : FrameOk who' base w' d i tl f g := by
  have h0 : ∀ b, who b = 0 → who' b = 0 := fun b hb => by rw [(hS b (.inl hb)).1]; exact hb
  have h1 : ∀ b, who b = 0 → w'.heap[b]? = w.heap[b]? := fun b hb => (hS b (.inl hb)).2
  exact ⟨by rw [(hS _ (.inr (.inl h.ts))).1]; exact h.ts, by rw [(hS _ (.inr (.inr (.inl h.to)))).1]; exact h.to, fun b hb => by have := h.ta b hb; rw [(hS b (.inr (.inr (.inr this)))).1]; exact this,
    h.co.block (hS _ (.inr (.inr (.inl h.to)))).2, h.cs.block (hS _ (.inr (.inl h.ts))).2, h.hv.kept h0 h1, h.pa.kept h0 h1 (fun b hb => (hS b (.inr (.inr (.inr (h.ta b hb))))).2), fun hh => PStmts.kept h0 h1 _ _ _ (h.pf hh), h.pe⟩
theorem FramesAt.kept {who who' : Nat → Nat} {base : Nat} {w w' : World} : ∀ {d : Nat} {tl : List Value} {fs : List Fl.Frame} {gs : List GF}, FramesAt who base w d tl fs gs → (∀ b, who b = 0 ∨ (10 ≤ who b ∧ who b < 10 + 3 * fs.length) → who' b = who b ∧ w'.heap[b]? = w.heap[b]?) → FramesAt who' base w' d tl fs gs
  | _, _, [], [], _, _ => trivial
  | d, tl, f :: fs, g :: gs, h, hS => by
    refine ⟨h.1.kept (fun b hb => hS b ?_), FramesAt.kept h.2 (fun b hb => hS b ?_)⟩
    · simp only [List.length_cons]; omega
    · simp only [List.length_cons]; omega
  | _, _, [], _ :: _, h, _ => h.elim
  | _, _, _ :: _, [], h, _ => h.elim
theorem FramesAt.len {who : Nat → Nat} {base : Nat} {w : World} : ∀ {d : Nat} {tl : List Value} {fs : List Fl.Frame} {gs : List GF}, FramesAt who base w d tl fs gs → gs.length = fs.length
  | _, _, [], [], _ => rfl
  | d, tl, f :: fs, g :: gs, h => by simp [FramesAt.len h.2]
  | _, _, [], _ :: _, h => h.elim
  | _, _, _ :: _, [], h => h.elim

structure LatAt (w : World) (Lb n : Nat) (t : Fl.Tab) : Prop where
  z : ∀ j, w.frozen? ⟨Lb, j, none⟩ = false
  c0 : w.cell? ⟨Lb, 0, none⟩ = some (.int .i64 n)
  cu : ∀ i j, i < n → j < n → w.cell? ⟨Lb, 1 + 6 * i + j, none⟩ = some (.bool (t i j))
  cj : ∀ i j, i < n → j < n → w.cell? ⟨Lb, 37 + 6 * i + j, none⟩ = some (.int .i64 (Fl.join n t i j))
  cl : w.cell? ⟨Lb, 73, none⟩ = some (.int .i64 (Fl.bottom n t))
theorem LatAt.block {w w' : World} {Lb n : Nat} {t : Fl.Tab} (h : LatAt w Lb n t) (hb : w'.heap[Lb]? = w.heap[Lb]?) : LatAt w' Lb n t :=
  have q : ∀ j, w'.cell? ⟨Lb, j, none⟩ = w.cell? ⟨Lb, j, none⟩ := fun j => World.cell?_of_block (a := ⟨Lb, j, none⟩) hb
  ⟨fun j => (World.frozen?_of_block (a := ⟨Lb, j, none⟩) hb).trans (h.z j), (q _).trans h.c0, fun i j hi hj => (q _).trans (h.cu i j hi hj), fun i j hi hj => (q _).trans (h.cj i j hi hj), (q _).trans h.cl⟩

structure PMem where
  who : Nat → Nat
  pl : Value
  clv : Value
  chv : Value
  bv : Value
  ov : Value
  gs : List GF
  t : Fl.Tab
def rdCell (Pb lm vm cm : Nat) (line : Int) (r : Fl.RS) (m : PMem) (j : Nat) : Value :=
  if j = 0 then ptr Pb else if j = 1 then .int .i64 line else if j = 2 then .bool r.begun else if j = 3 then .int .i64 r.levels.length
  else if j = 40 then .map (some lm) else if j = 41 then .map (some vm) else if j = 42 then .map (some cm) else if j = 43 then m.ov else if j = 44 then .int .i64 r.stmts
  else .bool (m.t ((j - 4) / 6) ((j - 4) % 6))
def intsV (l : List Nat) : List Value := l.map fun (x : Nat) => Value.int .i64 (x : Int)
def cntFr (k : Nat) : Nat → List Fl.Frame → Prop
  | _, [] => True
  | t, f :: fs => f.first.length + (if f.had then 0 else t) ≤ k ∧ f.els.length + (if f.had then t else 0) ≤ k ∧ cntFr k 1 fs
theorem cntFr.mono {k k' : Nat} (hk : k ≤ k') : ∀ {t t' : Nat} {fs : List Fl.Frame}, t' ≤ t → cntFr k t fs → cntFr k' t' fs
  | _, _, [], _, _ => trivial
  | t, t', f :: fs, ht, h => by
    refine ⟨?_, ?_, cntFr.mono hk (Nat.le_refl _) h.2.2⟩
    · have := h.1; split at this <;> simp_all <;> omega
    · have := h.2.1; split at this <;> simp_all <;> omega
def CntOk (k : Nat) (fs : List Fl.Frame) (n : Nat) : Prop := n + min fs.length 1 ≤ k ∧ cntFr k 0 fs
theorem CntOk.mono {k k' : Nat} {fs : List Fl.Frame} {n : Nat} (h : CntOk k fs n) (hk : k ≤ k') : CntOk k' fs n := ⟨by have := h.1; omega, cntFr.mono hk (Nat.le_refl _) h.2⟩
structure RsOk (r : Fl.RS) : Prop where
  cn : CntOk r.stmts r.fr r.top.length
  lv : r.levels.length ≤ 6
  ce : r.cells.length ≤ 6
  ch : r.chans.length ≤ 3
  lo : r.locals.length ≤ 4
  st : r.stmts ≤ 16
  fr : r.fr.length ≤ 3
  cl : r.cellLv.length = r.cells.length
  hl : r.chanLv.length = r.chans.length
  pairs : r.low.length = r.high.length
  below : ∀ p ∈ r.low.zip r.high, p.1 < r.levels.length ∧ p.2 < r.levels.length
  clv : ∀ x ∈ r.cellLv, x < r.levels.length
  chv : ∀ x ∈ r.chanLv, x < r.levels.length
  kinds : ∀ f ∈ r.fr, f.kind = 5 ∨ f.kind = 6
  head : r.begun = false → r.locals = [] ∧ r.stmts = 0 ∧ r.top = [] ∧ r.fr = []
  lat : r.begun = true → Fl.lattice r.levels.length r.tab = true
def tailOf : List GF → List Value
  | [] => []
  | g :: gs => match tailOf gs with
    | [] => [ptr g.sb]
    | v :: _ => [v]
structure RestAt (base : Nat) (w : World) (r : Fl.RS) (m : PMem) : Prop where
  wh : ∀ b, m.who b ≠ 5 → base ≤ b ∧ b < w.heap.size
  oc : w.ownsRow base 3 1 m.clv r.cellLv.length (intsV r.cellLv)
  tc : ∀ b, m.clv.ownBlock = some b → m.who b = 3
  oh : w.ownsRow base 3 1 m.chv r.chanLv.length (intsV r.chanLv)
  th : ∀ b, m.chv.ownBlock = some b → m.who b = 4
  pb : PartAt 3 (fun b => m.who b = 0) base w m.bv r.top (tailOf m.gs)
  tb : ∀ b, m.bv.ownBlock = some b → m.who b = 1
  fa : FramesAt m.who base w (3 - r.fr.length) [] r.fr m.gs
  oo : w.ownsRow base 178 1 m.ov r.fr.length ((m.gs.map fun g => ptr g.ob).reverse)
  to : ∀ b, m.ov.ownBlock = some b → m.who b = 2
  la : r.begun = true → ∃ Lb, m.pl = ptr Lb ∧ m.who Lb = 0 ∧ LatAt w Lb r.levels.length r.tab
structure PrAt (lo base R Pb lm vm cm : Nat) (w0 w : World) (r : Fl.RS) (line : Int) (m : PMem) : Prop where
  ok : RsOk r
  bel : Below lo w0 w
  fx : ∀ b, b < base → b ≠ R → b ≠ Pb → b ≠ lm → b ≠ vm → b ≠ cm → w.heap[b]? = w0.heap[b]?
  hlo : lo ≤ R ∧ lo ≤ Pb ∧ lo ≤ lm ∧ lo ≤ vm ∧ lo ≤ cm
  hba : R < base ∧ Pb < base ∧ lm < base ∧ vm < base ∧ cm < base ∧ base ≤ w.heap.size
  nd : R ≠ Pb ∧ R ≠ lm ∧ R ≠ vm ∧ R ≠ cm ∧ Pb ≠ lm ∧ Pb ≠ vm ∧ Pb ≠ cm ∧ lm ≠ vm ∧ lm ≠ cm ∧ vm ≠ cm
  cR : Cells w R 45 (rdCell Pb lm vm cm line r m)
  cP : Cells w Pb 5 (rw_ [m.pl, m.clv, m.chv, .int .i64 r.locals.length, m.bv])
  nl : NameMap w lm r.levels
  nv : NameMap w vm (r.cells ++ r.locals)
  nc : NameMap w cm r.chans
  tab : ∀ i j, i < 6 → j < 6 → m.t i j = (decide (i < r.levels.length) && Fl.tab0 r.low r.high i j)
  re : RestAt base w r m
theorem own_same {w w' : World} {base : Nat} {e : TypeId} {k : Nat} {v : Value} {n : Nat} {xs : List Value} (h : w.ownsRow base e k v n xs) (hv : ∀ b, v.ownBlock = some b → w'.heap[b]? = w.heap[b]?) : w'.ownsRow base e k v n xs := by
  refine ⟨h.1, ?_⟩
  rcases h.2 with ⟨rfl, h0⟩ | ⟨g, cap, cur, rfl, hb, hg, hr⟩
  · exact .inl ⟨rfl, h0⟩
  · exact .inr ⟨g, cap, cur, rfl, hb, by rw [hv g rfl]; exact hg, hr⟩
theorem RestAt.kept {base : Nat} {w w' : World} {r : Fl.RS} {m : PMem} (h : RestAt base w r m) (hz : w.heap.size ≤ w'.heap.size) (qw : ∀ b, m.who b ≠ 5 → w'.heap[b]? = w.heap[b]?) : RestAt base w' r m :=
  { wh := fun b hw => by have := h.wh b hw; omega,
    oc := own_same h.oc (fun b hv => qw b (by rw [h.tc b hv]; decide)), tc := h.tc, oh := own_same h.oh (fun b hv => qw b (by rw [h.th b hv]; decide)), th := h.th,
    pb := h.pb.kept (fun _ h => h) (fun b hv => qw b (by rw [hv]; decide)) (fun b hv => qw b (by rw [h.tb b hv]; decide)), tb := h.tb,
    fa := h.fa.kept (fun b hv => ⟨rfl, qw b (by omega)⟩), oo := own_same h.oo (fun b hv => qw b (by rw [h.to b hv]; decide)), to := h.to,
    la := fun hg => by obtain ⟨Lb, l1, l2, l3⟩ := h.la hg; exact ⟨Lb, l1, l2, l3.block (qw Lb (by rw [l2]; decide))⟩ }
section
variable {lo base R Pb lm vm cm : Nat} {w0 w w' : World} {r : Fl.RS} {line : Int} {m : PMem}
theorem PrAt.below (h : PrAt lo base R Pb lm vm cm w0 w r line m) (hb : Below w.heap.size w w') : PrAt lo base R Pb lm vm cm w0 w' r line m := by
  obtain ⟨b1, b2, b3, b4, b5, b6⟩ := h.hba
  have hz := hb.size
  have q : ∀ b, b < w.heap.size → w'.heap[b]? = w.heap[b]? := fun b hlt => hb.block b hlt
  exact { ok := h.ok, bel := h.bel.trans (hb.mono (by have := h.hlo; omega)), fx := fun b f1 f2 f3 f4 f5 f6 => (q b (by omega)).trans (h.fx b f1 f2 f3 f4 f5 f6), hlo := h.hlo, hba := ⟨b1, b2, b3, b4, b5, by omega⟩, nd := h.nd,
          cR := h.cR.block (q _ (by omega)), cP := h.cP.block (q _ (by omega)), nl := h.nl.block (q _ (by omega)), nv := h.nv.block (q _ (by omega)), nc := h.nc.block (q _ (by omega)), tab := h.tab,
          re := h.re.kept hz (fun b hw => q b (h.re.wh b hw).2) }
theorem PrAt.drew (h : PrAt lo base R Pb lm vm cm w0 w r line m) : PrAt lo base R Pb lm vm cm w0 w.drew r line m := h.below (Below.refl _ _).drew
end
end Go.Proofs.YthfacjlghcdndaaGreatDoor
