/-
  The law EcoThreads by the evaluator: each of its cases ends in true, whatever the slice that comes in holds. Conditions: none but those that the theorems print.
-/
import Derived.Test.YtojbfaigebpnpaaDoorTxtA
import Derived.Test.YtojbfaigebpnpaaDoorRqW
import Derived.Test.YtojbfaigebpnpaaDoorRnZf
import Derived.WalkKit
import Derived.ProofKit
import Derived.Lib.Hide
namespace Go.Proofs.YtojbfaigebpnpaaDoor.ecoThreadsq
open Go.Rn Go.RowKit YtojbfaigebpnpaaDoor.txt
noncomputable def kv0 : List Value := [.int .u8 0, .int .u8 1, .int .u8 56, .int .u8 2, .int .u8 57, .int .u8 49, .int .u8 28, .int .u8 3, .int .u8 61, .int .u8 58, .int .u8 42, .int .u8 50, .int .u8 38, .int .u8 29, .int .u8 17, .int .u8 4, .int .u8 62, .int .u8 47, .int .u8 59, .int .u8 36, .int .u8 45, .int .u8 43, .int .u8 51, .int .u8 22, .int .u8 53, .int .u8 39, .int .u8 33, .int .u8 30, .int .u8 24, .int .u8 18, .int .u8 12, .int .u8 5, .int .u8 63, .int .u8 55, .int .u8 48, .int .u8 27, .int .u8 60, .int .u8 41, .int .u8 37, .int .u8 16, .int .u8 46, .int .u8 35, .int .u8 44, .int .u8 21, .int .u8 52, .int .u8 32, .int .u8 23, .int .u8 11, .int .u8 54, .int .u8 26, .int .u8 40, .int .u8 15, .int .u8 34, .int .u8 20, .int .u8 31, .int .u8 10, .int .u8 25, .int .u8 14, .int .u8 19, .int .u8 9, .int .u8 13, .int .u8 8, .int .u8 7, .int .u8 6]
noncomputable def rows : LRows := [(0, kv0)]
noncomputable def kch : RV := .cons (.i .u8 0) (.cons (.i .u8 1) (.cons (.i .u8 56) (.cons (.i .u8 2) (.cons (.i .u8 57) (.cons (.i .u8 49) (.cons (.i .u8 28) (.cons (.i .u8 3) (.cons (.i .u8 61) (.cons (.i .u8 58) (.cons (.i .u8 42) (.cons (.i .u8 50) (.cons (.i .u8 38) (.cons (.i .u8 29) (.cons (.i .u8 17) (.cons (.i .u8 4) (.cons (.i .u8 62) (.cons (.i .u8 47) (.cons (.i .u8 59) (.cons (.i .u8 36) (.cons (.i .u8 45) (.cons (.i .u8 43) (.cons (.i .u8 51) (.cons (.i .u8 22) (.cons (.i .u8 53) (.cons (.i .u8 39) (.cons (.i .u8 33) (.cons (.i .u8 30) (.cons (.i .u8 24) (.cons (.i .u8 18) (.cons (.i .u8 12) (.cons (.i .u8 5) (.cons (.i .u8 63) (.cons (.i .u8 55) (.cons (.i .u8 48) (.cons (.i .u8 27) (.cons (.i .u8 60) (.cons (.i .u8 41) (.cons (.i .u8 37) (.cons (.i .u8 16) (.cons (.i .u8 46) (.cons (.i .u8 35) (.cons (.i .u8 44) (.cons (.i .u8 21) (.cons (.i .u8 52) (.cons (.i .u8 32) (.cons (.i .u8 23) (.cons (.i .u8 11) (.cons (.i .u8 54) (.cons (.i .u8 26) (.cons (.i .u8 40) (.cons (.i .u8 15) (.cons (.i .u8 34) (.cons (.i .u8 20) (.cons (.i .u8 31) (.cons (.i .u8 10) (.cons (.i .u8 25) (.cons (.i .u8 14) (.cons (.i .u8 19) (.cons (.i .u8 9) (.cons (.i .u8 13) (.cons (.i .u8 8) (.cons (.i .u8 7) (.cons (.i .u8 6) (.nil))))))))))))))))))))))))))))))))))))))))))))))))))))))))))))))))
noncomputable def core (t : List (Nat × Nat × Nat)) (s : RV) (h : H3) : A := startR rows h fun h => call3 (fun _ _ _ => none) 100 (inL fsL) (placeO 4 t) (tabO 11 64 kch) 60 3 (.cons s .nil) h 100 isT
/-- no slice; one of no length; q elements known of it -/
noncomputable def runN : A := core [] .ns he3
noncomputable def runE : A := core [] (.sx 50 1) he3
noncomputable def runS (q : Nat) (t : List (Nat × Nat × Nat)) (L c : Nat) : A := start3 (letters q 0) 50 q fun h => core t (.sl 50 0 L c) h
noncomputable def tab1 (a : Nat) : List (Nat × Nat × Nat) := [(100, 6, a)]
noncomputable def tab2 (a b : Nat) : List (Nat × Nat × Nat) := [(100, 6, a), (101, 6, b)]
noncomputable def tab3 (a b d : Nat) : List (Nat × Nat × Nat) := [(100, 6, a), (101, 6, b), (102, 6, d)]
noncomputable def tab4 (a b d e : Nat) : List (Nat × Nat × Nat) := [(100, 6, a), (101, 6, b), (102, 6, d), (103, 6, e)]
noncomputable def run1 (c a : Nat) : A := runS 1 (tab1 a) 1 c
noncomputable def run2 (c a b : Nat) : A := runS 2 (tab2 a b) 2 c
noncomputable def run3 (c a b d : Nat) : A := runS 3 (tab3 a b d) 3 c
noncomputable def run4 (L c a b d e : Nat) : A := runS 4 (tab4 a b d e) (L + 4) c
theorem rowsOk : rowsB rows = true := by kernel_rfl
theorem rows50 : ∀ r ∈ rows, r.1 ≠ 50 := by
  intro r hr
  simp only [rows, List.mem_cons, List.not_mem_nil, or_false] at hr
  subst hr
  decide
theorem globs : Tryd.prog.globals.size ≤ 50 := of_decide_eq_true (by kernel_rfl)
theorem one_glob : 0 < Tryd.prog.globals.size := of_decide_eq_true (by kernel_rfl)
theorem kch_chain : chain kv0 = kch := by kernel_rfl
theorem kv0_plain : ∀ v ∈ kv0, PlainV v := by
  intro v hv
  unfold kv0 at hv
  simp only [List.mem_cons, List.not_mem_nil, or_false] at hv
  rcases hv with rfl | rfl | rfl | rfl | rfl | rfl | rfl | rfl | rfl | rfl | rfl | rfl | rfl | rfl | rfl | rfl | rfl | rfl | rfl | rfl | rfl | rfl | rfl | rfl | rfl | rfl | rfl | rfl | rfl | rfl | rfl | rfl | rfl | rfl | rfl | rfl | rfl | rfl | rfl | rfl | rfl | rfl | rfl | rfl | rfl | rfl | rfl | rfl | rfl | rfl | rfl | rfl | rfl | rfl | rfl | rfl | rfl | rfl | rfl | rfl | rfl | rfl | rfl | rfl <;> trivial
theorem awake_run : startR rows he3 (fun h => call3 (fun _ _ _ => none) 100 (inL fsL) (fun _ _ => none) noKc 60 11 .nil h 100 isT) = .yes := by kernel_rfl
theorem knownA : known Tryd.prog 11 = true := by kernel_rfl
theorem awake_ok (w : World) (hK : RowsAt rows w) : Calls Tryd.prog 11 #[] w fun e w' => e = .returned (.bool true) ∧ Old w w' :=
  law_free (ρ := fun _ => 0) no_ys (inL_ok fsL_ok) none_ok kcNo_ok globs rowsOk hK rows50 (x := (0, 0, 0)) awake_run (vs := []) (denC_nil.2 rfl)
theorem kcOk {ρ : Nat → Int} : KcOk Tryd.prog ρ (tabO 11 64 kch) :=
  tabO_ok (by decide) one_glob knownA fun m w us C el fr hw hu hc => awake_ok w fun r hr => by
    simp only [rows, List.mem_cons, List.not_mem_nil, or_false] at hr
    subst hr
    refine ⟨C, el, fr, hw, fun j v hj => ?_⟩
    rw [← kch_chain] at hu
    rw [chain_den kv0_plain hu] at hc
    exact hc j v hj
theorem knownP : known Tryd.prog 4 = true := by kernel_rfl
set_option maxRecDepth 100000 in
set_option maxHeartbeats 400000 in
theorem place_any (n : Int) (k : Nat) (w : World) (hk : 0 < k) (hk2 : k ≤ 1000000) :
    Calls Tryd.prog 4 #[.int .i64 n, .int .i64 k] w fun e w' => e = .returned (.int .i64 (n % k)) ∧ w = w' := by
  by_cases hz : n.tmod k < 0
  · have HM := Lib.hid (place_neg n k hk hz)
    have hlow : -(k : Int) < n.tmod k := by
      have := HM.out
      have h1 := Int.emod_nonneg n (show (k : Int) ≠ 0 by omega)
      by_cases he : n % (k : Int) = 0
      · have h0 : n.tmod k = 0 := Int.tmod_eq_zero_of_dvd (Int.dvd_of_emod_eq_zero he)
        omega
      · omega
    go_enter Tryd.func4, Tryd.ntmps4
    go_wp2_with fail
    go_ret
    exact ⟨by rw [← HM.out]; rfl, rfl⟩
  · have HM := Lib.hid (place_pos n k hk hz)
    go_enter Tryd.func4, Tryd.ntmps4
    go_wp2_with fail
    go_ret
    exact ⟨by rw [← HM.out]; rfl, rfl⟩
end Go.Proofs.YtojbfaigebpnpaaDoor.ecoThreadsq
