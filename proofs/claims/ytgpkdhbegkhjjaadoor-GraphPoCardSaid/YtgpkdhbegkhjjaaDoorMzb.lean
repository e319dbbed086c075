/-
  What the functions that the law reaches do, one by one: contracts. Conditions: those that each of them prints.
-/
import Derived.Test.YtgpkdhbegkhjjaaDoorMb
namespace Go.Proofs.YtgpkdhbegkhjjaaDoor
open Go.RowKit RelA
namespace RelA
theorem tmod_neg (n : Int) (k : Nat) (hk : 0 < k) (h : n.tmod k < 0) : n.tmod k + k = n % k := by
  have := Int.tmod_eq_emod (a := n) (b := k)
  have h1 := Int.emod_nonneg n (show (k : Int) ≠ 0 by omega)
  split at this <;> omega
theorem tmod_pos (n : Int) (k : Nat) (hk : 0 < k) (h : ¬ n.tmod k < 0) : n.tmod k = n % k := by
  have := Int.tmod_eq_emod (a := n) (b := k)
  have h1 := Int.emod_lt_of_pos n (show (0 : Int) < k by omega)
  split at this <;> omega
end RelA
set_option maxRecDepth 20000 in
set_option maxHeartbeats 400000 in
theorem place_any (n : Int) (k : Nat) (w : World) (hk : 0 < k) (hk2 : k ≤ 1000000) :
    Calls Tryd.prog 4 #[.int .i64 n, .int .i64 k] w fun e w' => e = .returned (.int .i64 (n % k)) ∧ w = w' := by
  by_cases hz : n.tmod k < 0
  · have HM := Lib.hid (tmod_neg n k hk hz)
    have hlow : -(k : Int) < n.tmod k := by
      have := HM.out
      have h1 := Int.emod_nonneg n (show (k : Int) ≠ 0 by omega)
      by_cases he : n % (k : Int) = 0
      · have h0 : n.tmod k = 0 := Int.tmod_eq_zero_of_dvd (Int.dvd_of_emod_eq_zero he)
        omega
      · omega
    go_enter Tryd.func4, Tryd.ntmps4
    go_wp2_with fail
    go_ret
    exact ⟨by rw [← HM.out]; rfl, rfl⟩
  · have HM := Lib.hid (tmod_pos n k hk hz)
    go_enter Tryd.func4, Tryd.ntmps4
    go_wp2_with fail
    go_ret
    exact ⟨by rw [← HM.out]; rfl, rfl⟩
end Go.Proofs.YtgpkdhbegkhjjaaDoor
