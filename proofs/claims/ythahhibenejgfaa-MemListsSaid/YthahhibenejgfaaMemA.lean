/-
  Lists of numbers in memory, their order, and what mem.compare says of two. Conditions: the lists in memory.
-/
import Derived.Test.YthahhibenejgfaaProg
import Derived.Test.YthahhibenejgfaaChecked
import Derived.WalkKit
import Derived.ProofKit
import Derived.Lib.Hide
import Derived.Deep.QuietTactic
import Derived.BigQuiet
import Derived.IntWalk
import Derived.RowKit3
namespace Go.Proofs.Ythahhibenejgfaa
open Go.RowKit
namespace Mem
/-- numbers that came in -/
def NsIn (w : World) (a : Option Addr) (L : List Int) : Prop :=
  L = [] ∨ ∃ b o, a = some ⟨b, o, none⟩ ∧ b < w.heap.size ∧ ∀ q, q < L.length → w.cell? ⟨b, o + q, none⟩ = some (.int .i64 (L.getD q 0))
theorem cell_next {x : Addr} {v : Value} {w w' : World} (h : w.cell? x = some v) (hb : Below w.heap.size w w') : w'.cell? x = some v := (hb.cell (p := x) (World.block_lt_of_cell? w x h)).trans h
theorem NsIn.next {w w' : World} {a : Option Addr} {L : List Int} (h : NsIn w a L) (hb : Below w.heap.size w w') : NsIn w' a L := by
  rcases h with h | ⟨b, o, h1, h2, h3⟩
  · exact .inl h
  · exact .inr ⟨b, o, h1, Nat.lt_of_lt_of_le h2 hb.size, fun q hq => cell_next (h3 q hq) hb⟩
structure Ls where
  a : Option Addr
  L : List Int
  c : Nat
def Ls.zero : Ls := ⟨none, [], 0⟩
def Ls.v (x : Ls) : Value := .slice x.a x.L.length x.c
def cmpI (x y : Int) : Int := if x < y then -1 else if x > y then 1 else 0
def cmpL : List Int → List Int → Int
  | [], [] => 0
  | [], _ :: _ => -1
  | _ :: _, [] => 1
  | x :: l, y :: r => if x = y then cmpL l r else cmpI x y
theorem cmpI_self (x : Int) : cmpI x x = 0 := by unfold cmpI; simp
theorem cmpI_ne {x y : Int} (h : x ≠ y) : cmpI x y ≠ 0 := by unfold cmpI; split <;> (try split) <;> omega
theorem cmpI_zero {x y : Int} (h : cmpI x y = 0) : x = y := by
  by_cases e : x = y
  · exact e
  · exact absurd h (cmpI_ne e)
/-- the first k are alike -/
def Same (k : Nat) (l r : List Int) : Prop := ∀ j, j < k → l.getD j 0 = r.getD j 0
theorem cmpL_at : ∀ (k : Nat) (l r : List Int), Same k l r → k < l.length → k < r.length → l.getD k 0 ≠ r.getD k 0 → cmpL l r = cmpI (l.getD k 0) (r.getD k 0)
  | 0, x :: l, y :: r, _, _, _, h => by
    have h' : x ≠ y := h
    show (if x = y then cmpL l r else cmpI x y) = cmpI x y
    rw [if_neg h']
  | k + 1, x :: l, y :: r, hs, h1, h2, h => by
    have h0 : x = y := hs 0 (by omega)
    show (if x = y then cmpL l r else cmpI x y) = _
    rw [if_pos h0]
    exact cmpL_at k l r (fun j hj => hs (j + 1) (by omega)) (by simpa using h1) (by simpa using h2) h
theorem cmpL_end : ∀ (k : Nat) (l r : List Int), Same k l r → (k = l.length ∨ k = r.length) → k ≤ l.length → k ≤ r.length → cmpL l r = cmpI l.length r.length
  | 0, [], [], _, _, _, _ => by simp [cmpL, cmpI]
  | 0, [], y :: r, _, _, _, _ => by
    show (-1 : Int) = cmpI _ _
    unfold cmpI
    rw [if_pos (by simp)]
  | 0, x :: l, [], _, _, _, _ => by
    show (1 : Int) = cmpI _ _
    unfold cmpI
    rw [if_neg (by simp; omega), if_pos (by simp)]
  | 0, x :: l, y :: r, _, h, _, _ => by simp at h
  | k + 1, x :: l, y :: r, hs, h, h1, h2 => by
    have h0 : x = y := hs 0 (by omega)
    show (if x = y then cmpL l r else cmpI x y) = _
    rw [if_pos h0, cmpL_end k l r (fun j hj => hs (j + 1) (by omega)) (by simpa using h) (by simpa using h1) (by simpa using h2)]
    unfold cmpI
    simp
  | k + 1, [], _, _, _, h1, _ => by simp at h1
  | k + 1, _ :: _, [], _, _, _, h2 => by simp at h2
end Mem
open Mem
set_option maxRecDepth 20000 in
theorem nan_l (x : Int) (w : World) : Calls Try.prog 40 #[.int .i64 x] w fun e w' => e = .returned (.bool false) ∧ w = w' := by
  have h : (x != x) = false := by simp
  go_enter Try.func40, Try.ntmps40
  go_wp2_with fail
  go_ret
  exact ⟨rfl, rfl⟩
set_option maxRecDepth 20000 in
set_option maxHeartbeats 1600000 in
theorem cmp_l (x y : Int) (w : World) : Calls Try.prog 28 #[.int .i64 x, .int .i64 y] w fun e w' => e = .returned (.int .i64 (cmpI x y)) ∧ w = w' := by
  have HX := Lib.hid (nan_l x w)
  have HY := Lib.hid (nan_l y w)
  unfold cmpI
  by_cases h1 : x < y
  · rw [if_pos h1]
    have l1 : decide (x < y) = true := by simp [h1]
    go_enter Try.func28, Try.ntmps28
    go_wp2_with fail
    refine HX.out.mono ?_
    rintro e w' ⟨rfl, rfl⟩
    go_wp2_with fail
    refine HY.out.mono ?_
    rintro e w' ⟨rfl, rfl⟩
    go_wp2_with fail
    go_ret
    exact ⟨rfl, rfl⟩
  · rw [if_neg h1]
    have l1 : decide (x < y) = false := by simp [h1]
    by_cases h2 : x > y
    · rw [if_pos h2]
      have l2 : decide (x > y) = true := by simp [h2]
      go_enter Try.func28, Try.ntmps28
      go_wp2_with fail
      refine HX.out.mono ?_
      rintro e w' ⟨rfl, rfl⟩
      go_wp2_with fail
      refine HY.out.mono ?_
      rintro e w' ⟨rfl, rfl⟩
      go_wp2_with fail
      go_ret
      exact ⟨rfl, rfl⟩
    · rw [if_neg h2]
      have l2 : decide (x > y) = false := by simp [h2]
      go_enter Try.func28, Try.ntmps28
      go_wp2_with fail
      refine HX.out.mono ?_
      rintro e w' ⟨rfl, rfl⟩
      go_wp2_with fail
      refine HY.out.mono ?_
      rintro e w' ⟨rfl, rfl⟩
      go_wp2_with fail
      go_ret
      exact ⟨rfl, rfl⟩
theorem drewN_drewN (w : World) (a b : Nat) : (w.drewN a).drewN b = w.drewN (a + b) := by
  simp [World.drewN, Nat.add_assoc]
theorem below_drewN {B : Nat} {w w' : World} (h : Below B w w') (n : Nat) : Below B w (w'.drewN n) := ⟨h.os, h.tape, h.output, h.size, h.block⟩
theorem ns_drewN {w : World} {a : Option Addr} {L : List Int} (h : NsIn w a L) (n : Nat) : NsIn (w.drewN n) a L := h.next (below_drewN (Below.refl _ _) n)
set_option maxRecDepth 20000 in
set_option maxHeartbeats 3200000 in
/-- two lists held against each other -/
theorem compare_l (x y : Ls) (w : World) (hx : NsIn w x.a x.L) (hy : NsIn w y.a y.L) (hl : x.L.length ≤ 1000000) (hr : y.L.length ≤ 1000000) :
    Calls Try.prog 20 #[x.v, y.v] w fun e w' => e = .returned (.int .i64 (cmpL x.L y.L)) ∧ ∃ q, w' = w.drewN q := by
  obtain ⟨xa, l, xc⟩ := x
  obtain ⟨ya, r, yc⟩ := y
  unfold Ls.v
  dsimp only at hx hy hl hr ⊢
  obtain ⟨R, hR⟩ : ∃ R, R = cmpL l r := ⟨_, rfl⟩
  rw [← hR]
  have HAT := Lib.hid (fun k (h : Same k l r) (h1 : k < l.length) (h2 : k < r.length) (h3 : l.getD k 0 ≠ r.getD k 0) => hR.trans (cmpL_at k l r h h1 h2 h3))
  have HEN := Lib.hid (fun k (h : Same k l r) (h0 : k = l.length ∨ k = r.length) (h1 : k ≤ l.length) (h2 : k ≤ r.length) => hR.trans (cmpL_end k l r h h0 h1 h2))
  clear hR
  have HX := Lib.hid hx
  have HY := Lib.hid hy
  clear hx hy
  by_cases hc : r.length < l.length
  · have hci : (r.length : Int) < (l.length : Int) := by omega
    go_enter Try.func20, Try.ntmps20
    go_wp2_with fail
    go_loopw [12] (fun i wr => ∃ k q : Nat, k ≤ r.length ∧ i = .int .i64 k ∧ Hid (Same k l r) ∧ Hid (wr = w.drewN q)) (fun i _ => r.length - (intOf i).toNat)
    case atStart => exact ⟨0, 0, Nat.zero_le _, rfl, Lib.hid (fun j hj => absurd hj (by omega)), Lib.hid rfl⟩
    case round =>
      obtain ⟨k, q, hk, rfl, HS, hwr⟩ := hrel
      have HXw := Lib.hid (hwr.out ▸ ns_drewN HX.out q)
      have HYw := Lib.hid (hwr.out ▸ ns_drewN HY.out q)
      by_cases hlt : k < r.length
      · have hkl : k < l.length := by omega
        have hkr : k < r.length := by omega
        have d0 : decide ((k : Int) < (r.length : Int)) = true := by simp; omega
        have i1 : (k : Int) < (l.length : Int) := by omega
        have i2 : (k : Int) < (r.length : Int) := by omega
        rcases HXw.out with h0 | ⟨b1, o1, rfl, hb1, hc1⟩
        · rw [h0] at hkl; simp at hkl
        rcases HYw.out with h0 | ⟨b2, o2, rfl, hb2, hc2⟩
        · rw [h0] at hkr; simp at hkr
        have c1 := hc1 k hkl
        have c2 := hc2 k hkr
        clear hc1 hc2 HXw HYw
        have HSX : Hid (l.getD k 0 = r.getD k 0 → Same (k + 1) l r) := Lib.hid (fun h j hj => by
          by_cases e : j = k
          · rw [e]; exact h
          · exact HS.out j (by omega))
        have HRX := Lib.hid (fun h => HAT.out k HS.out hkl hkr h)
        generalize l.getD k 0 = x at *
        generalize r.getD k 0 = y at *
        have HCM := Lib.hid (fun w => cmp_l x y w)
        by_cases hxy : x = y
        · subst hxy
          have HSY := Lib.hid (HSX.out rfl)
          clear HSX HRX
          have e0 : cmpI x x = 0 := cmpI_self x
          rw [e0] at HCM
          go_wp2_with fail
          go_quiet ((go_at_call 28; exact Calls.quiet_of_same ((HCM.out _).mono fun _ _ h => ⟨h.1, h.2.symm⟩)))
          go_wp2_with fail
          go_roundw
          case rel => exact ⟨k + 1, q + nq, by omega, by go_num, HSY, Lib.hid (by rw [hwr.out]; exact drewN_drewN w q nq)⟩
          case measure => simp [intOf]; omega
        · have e0 : (cmpI x y != 0) = true := by simpa using cmpI_ne hxy
          have e1 := HRX.out hxy
          rw [← e1] at HCM e0
          clear e1 HRX HSX
          go_wp2_with fail
          go_quiet ((go_at_call 28; exact Calls.quiet_of_same ((HCM.out _).mono fun _ _ h => ⟨h.1, h.2.symm⟩)))
          go_wp2_with fail
          go_ret
          exact ⟨rfl, q + nq, by rw [hwr.out]; exact drewN_drewN w q nq⟩
      · have hkm : k = r.length := by omega
        have d0 : decide ((k : Int) < (r.length : Int)) = false := by simp; omega
        have HCM := Lib.hid (fun w => cmp_l (l.length : Int) (r.length : Int) w)
        rw [← HEN.out k HS.out (by omega) (by omega) (by omega)] at HCM
        go_wp2_with fail
        refine (HCM.out _).mono ?_
        rintro e w' ⟨rfl, rfl⟩
        go_wp2_with fail
        go_ret
        exact ⟨rfl, q, hwr.out⟩
  · have hci : ¬ (r.length : Int) < (l.length : Int) := by omega
    go_enter Try.func20, Try.ntmps20
    go_wp2_with fail
    go_loopw [12] (fun i wr => ∃ k q : Nat, k ≤ l.length ∧ i = .int .i64 k ∧ Hid (Same k l r) ∧ Hid (wr = w.drewN q)) (fun i _ => l.length - (intOf i).toNat)
    case atStart => exact ⟨0, 0, Nat.zero_le _, rfl, Lib.hid (fun j hj => absurd hj (by omega)), Lib.hid rfl⟩
    case round =>
      obtain ⟨k, q, hk, rfl, HS, hwr⟩ := hrel
      have HXw := Lib.hid (hwr.out ▸ ns_drewN HX.out q)
      have HYw := Lib.hid (hwr.out ▸ ns_drewN HY.out q)
      by_cases hlt : k < l.length
      · have hkl : k < l.length := by omega
        have hkr : k < r.length := by omega
        have d0 : decide ((k : Int) < (l.length : Int)) = true := by simp; omega
        have i1 : (k : Int) < (l.length : Int) := by omega
        have i2 : (k : Int) < (r.length : Int) := by omega
        rcases HXw.out with h0 | ⟨b1, o1, rfl, hb1, hc1⟩
        · rw [h0] at hkl; simp at hkl
        rcases HYw.out with h0 | ⟨b2, o2, rfl, hb2, hc2⟩
        · rw [h0] at hkr; simp at hkr
        have c1 := hc1 k hkl
        have c2 := hc2 k hkr
        clear hc1 hc2 HXw HYw
        have HSX : Hid (l.getD k 0 = r.getD k 0 → Same (k + 1) l r) := Lib.hid (fun h j hj => by
          by_cases e : j = k
          · rw [e]; exact h
          · exact HS.out j (by omega))
        have HRX := Lib.hid (fun h => HAT.out k HS.out hkl hkr h)
        generalize l.getD k 0 = x at *
        generalize r.getD k 0 = y at *
        have HCM := Lib.hid (fun w => cmp_l x y w)
        by_cases hxy : x = y
        · subst hxy
          have HSY := Lib.hid (HSX.out rfl)
          clear HSX HRX
          have e0 : cmpI x x = 0 := cmpI_self x
          rw [e0] at HCM
          go_wp2_with fail
          go_quiet ((go_at_call 28; exact Calls.quiet_of_same ((HCM.out _).mono fun _ _ h => ⟨h.1, h.2.symm⟩)))
          go_wp2_with fail
          go_roundw
          case rel => exact ⟨k + 1, q + nq, by omega, by go_num, HSY, Lib.hid (by rw [hwr.out]; exact drewN_drewN w q nq)⟩
          case measure => simp [intOf]; omega
        · have e0 : (cmpI x y != 0) = true := by simpa using cmpI_ne hxy
          have e1 := HRX.out hxy
          rw [← e1] at HCM e0
          clear e1 HRX HSX
          go_wp2_with fail
          go_quiet ((go_at_call 28; exact Calls.quiet_of_same ((HCM.out _).mono fun _ _ h => ⟨h.1, h.2.symm⟩)))
          go_wp2_with fail
          go_ret
          exact ⟨rfl, q + nq, by rw [hwr.out]; exact drewN_drewN w q nq⟩
      · have hkm : k = l.length := by omega
        have d0 : decide ((k : Int) < (l.length : Int)) = false := by simp; omega
        have HCM := Lib.hid (fun w => cmp_l (l.length : Int) (r.length : Int) w)
        rw [← HEN.out k HS.out (by omega) (by omega) (by omega)] at HCM
        go_wp2_with fail
        refine (HCM.out _).mono ?_
        rintro e w' ⟨rfl, rfl⟩
        go_wp2_with fail
        go_ret
        exact ⟨rfl, q, hwr.out⟩
end Go.Proofs.Ythahhibenejgfaa
