/-
  The law PthreadSettles by the evaluator: each of its cases ends in true, whatever the slice that comes in holds. Conditions: none but those that the theorems print.
-/
import Derived.Test.YtbpfdennglbeeaaTxtA
import Derived.Test.YtbpfdennglbeeaaRqN
import Derived.WalkKit
import Derived.ProofKit
import Derived.Lib.Hide
namespace Go.Proofs.Ytbpfdennglbeeaa.pthreadSettlesq
open Go.Rn Go.RowKit Ytbpfdennglbeeaa.txt
noncomputable def orc (n k : Nat) : Nat → RV → Option RV := orO (placeO 4 [(1, n, k)]) (constO 6)
/-- bools in a row -/
noncomputable def bch (l : List Bool) : RV := @List.rec Bool (fun _ => RV) .nil (fun b _ ih => .cons (.b b) ih) l
/-- so many places there are: one more than instructions -/
noncomputable def nOf (l : List Bool) : Nat := @List.rec Bool (fun _ => Nat) 1 (fun b _ ih => @Bool.rec (fun _ => Nat) (Nat.succ ih) (Nat.succ (Nat.succ ih)) b) l
noncomputable def andA (x y : A) : A := @A.rec (fun _ => A) y .no x
/-- all numbers below n -/
noncomputable def loopK (r : Nat → A) (n : Nat) : A := @Nat.rec (fun _ => A) .yes (fun k ih => andA (r k) ih) n
/-- no slice; one of no length; q elements known of it -/
noncomputable def runN (n k : Nat) : A := call3 (fun _ _ _ => none) 100 (inL fsL) (orc n k) noKc 60 3 (.cons .ns (.cons (.y .i64 (.v 1)) .nil)) he3 100 isT
noncomputable def runE (n k : Nat) : A := call3 (fun _ _ _ => none) 100 (inL fsL) (orc n k) noKc 60 3 (.cons (.sx 0 1) (.cons (.y .i64 (.v 1)) .nil)) he3 100 isT
noncomputable def runS (bs : List Bool) (q L c n k : Nat) : A := start3 (bch bs) 0 q fun h => call3 (fun _ _ _ => none) 100 (inL fsL) (orc n k) noKc 60 3 (.cons (.sl 0 0 L c) (.cons (.y .i64 (.v 1)) .nil)) h 100 isT
noncomputable def seg (r : Nat → A) (lo m : Nat) : A := @Nat.rec (fun _ => A) .yes (fun i ih => andA (r (Nat.add lo i)) ih) m
abbrev T : Bool := true
abbrev F : Bool := false
theorem andA_ok {x y : A} (h : andA x y = .yes) : x = .yes ∧ y = .yes := by
  cases x with
  | yes => exact ⟨rfl, h⟩
  | no => cases h
theorem loopK_ok {r : Nat → A} : ∀ {n : Nat}, loopK r n = .yes → ∀ k, k < n → r k = .yes
  | 0, _, k, hk => absurd hk (Nat.not_lt_zero k)
  | n + 1, h, k, hk => by
    have h1 : andA (r n) (loopK r n) = .yes := h
    obtain ⟨h2, h3⟩ := andA_ok h1
    rcases Nat.lt_or_ge k n with q | q
    · exact loopK_ok h3 k q
    · have : k = n := by omega
      subst this; exact h2
theorem seg_ok {r : Nat → A} {lo : Nat} : ∀ {m : Nat}, seg r lo m = .yes → ∀ k, lo ≤ k → k < lo + m → r k = .yes
  | 0, _, k, h1, h2 => absurd h2 (by omega)
  | m + 1, h, k, h1, h2 => by
    have h3 : andA (r (lo + m)) (seg r lo m) = .yes := h
    obtain ⟨h4, h5⟩ := andA_ok h3
    rcases Nat.lt_or_ge k (lo + m) with q | q
    · exact seg_ok h5 k h1 q
    · have : k = lo + m := by omega
      subst this; exact h4
theorem s0 {r : Nat → A} {m : Nat} (h : seg r 0 m = .yes) : ∀ k, k < m → r k = .yes := fun k hk => seg_ok h k (Nat.zero_le _) (by omega)
theorem cat {r : Nat → A} {a m : Nat} (h : ∀ k, k < a → r k = .yes) (h2 : seg r a m = .yes) : ∀ k, k < a + m → r k = .yes := fun k hk => by
  rcases Nat.lt_or_ge k a with q | q
  · exact h k q
  · exact seg_ok h2 k q hk
theorem bch_len : ∀ l : List Bool, chLen (bch l) = some l.length
  | [] => rfl
  | _ :: l => by
    show gO none (chLen (bch l)) (fun n => some (n + 1)) = _
    rw [bch_len l]; rfl
theorem bch_den {ρ : Nat → Int} {m : Mp} : ∀ l : List Bool, denC ρ m (bch l) (l.map .bool)
  | [] => denC_nil.2 rfl
  | _ :: l => denC_cons.2 ⟨_, _, rfl, rfl, bch_den l⟩
theorem nOf_le : ∀ l : List Bool, 0 < nOf l ∧ nOf l ≤ 2 * l.length + 1
  | [] => ⟨Nat.zero_lt_one, Nat.le_refl _⟩
  | b :: l => by
    have ih := nOf_le l
    have e : nOf (b :: l) = bif b then nOf l + 2 else nOf l + 1 := by cases b <;> rfl
    rw [e, List.length_cons]
    cases b <;> simp <;> omega
theorem globs : Try.prog.globals.size = 0 := of_decide_eq_true (by kernel_rfl)
theorem knownP : known Try.prog 4 = true := by kernel_rfl
theorem knownA : known Try.prog 6 = true := by kernel_rfl
theorem awake_run : call3 (fun _ _ _ => none) 0 (inL fsL) (fun _ _ => none) noKc 60 6 .nil he3 100 isT = .yes := by kernel_rfl
theorem awake_ok (w : World) : Calls Try.prog 6 #[] w fun e w' => e = .returned (.bool true) ∧ Old w w' :=
  law_quick (ρ := fun _ => 0) no_ys (inL_ok fsL_ok) none_ok (n := 100) (by rw [globs]; omega) awake_run (vs := []) (fun _ => denC_nil.2 rfl) w
theorem caseN : loopK (runN 1) 1 = .yes := by kernel_rfl
theorem caseE : loopK (runE 1) 1 = .yes := by kernel_rfl
set_option maxRecDepth 100000 in
set_option maxHeartbeats 400000 in
theorem place_any (n : Int) (k : Nat) (w : World) (hk : 0 < k) (hk2 : k ≤ 1000000) :
    Calls Try.prog 4 #[.int .i64 n, .int .i64 k] w fun e w' => e = .returned (.int .i64 (n % k)) ∧ w = w' := by
  by_cases hz : n.tmod k < 0
  · have HM := Lib.hid (place_neg n k hk hz)
    have hlow : -(k : Int) < n.tmod k := by
      have := HM.out
      have h1 := Int.emod_nonneg n (show (k : Int) ≠ 0 by omega)
      by_cases he : n % (k : Int) = 0
      · have h0 : n.tmod k = 0 := Int.tmod_eq_zero_of_dvd (Int.dvd_of_emod_eq_zero he)
        omega
      · omega
    go_enter Try.func4, Try.ntmps4
    go_wp2_with fail
    go_ret
    exact ⟨by rw [← HM.out]; rfl, rfl⟩
  · have HM := Lib.hid (place_pos n k hk hz)
    go_enter Try.func4, Try.ntmps4
    go_wp2_with fail
    go_ret
    exact ⟨by rw [← HM.out]; rfl, rfl⟩
end Go.Proofs.Ytbpfdennglbeeaa.pthreadSettlesq
