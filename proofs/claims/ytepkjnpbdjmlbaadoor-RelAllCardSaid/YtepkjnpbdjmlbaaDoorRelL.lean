import Derived.Test.YtepkjnpbdjmlbaaDoorRelK
namespace Go.Proofs.YtepkjnpbdjmlbaaDoor
open Go.RowKit RelA
namespace RelA
def buildRel (x y : Value) : Sem Next := do pure (.value (← Instr.build 52 #[(0, x), (1, y)]))
theorem execOp_build_rel (a : Act) (dst : Option Tmp) (x y : Operand) (ty : TypeId) (pos : String) (after : Array Edge) (guard : Option (Nat × Bool)) :
    execOp a.eval { dst, op := .build 52 #[(0, x), (1, y)], type := ty, pos, after, guard } = buildRel (a.eval x) (a.eval y) := by
  simp [execOp, buildRel]
def relV (n : Int) (xs : Array Value) : Array Value := #[Value.int .i64 n] ++ xs
theorem relV_rows (n : Nat) (R : Nat → Nat) : relV n (rowsOf R) = cells n R := by
  unfold relV rowsOf cells
  apply Array.ext'
  simp
theorem run_buildRel (n : Int) (xs : Array Value) (w : World) (h : IsRows xs) : (buildRel (.int .i64 n) (.agg xs)).run Tryd.prog w = .ok (.value (.agg (relV n xs))) w := by
  obtain ⟨R, rfl⟩ := h
  unfold buildRel
  rw [Sem.run_bind]
  have : (Instr.build 52 #[(0, .int .i64 n), (1, .agg (rowsOf R))]).run Tryd.prog w = .ok (.agg (relV n (rowsOf R))) w := by kernel_rfl
  rw [this]; rfl
end RelA

section
attribute [local go_sem ↓] Go.wp_at_zero Go.wp_at_succ RelA.execOp_load_rows RelA.execOp_build_rel
attribute [local go_sem] RelA.run_loadRows RelA.run_buildRel
set_option maxHeartbeats 800000 in
theorem maybe_gen (b n : Nat) (R : Nat → Nat) (w : World) (hb : At w b n R) (hn : n ≤ 40) (hR : ∀ i, R i < 2 ^ 40) :
    Calls Tryd.prog 23 #[.pointer (some ⟨b, 0, none⟩)] w fun e w' => e = .returned (.pointer (some ⟨w.heap.size, 0, none⟩)) ∧ At w' w.heap.size n (fun i => if i < n then R i ||| 2 ^ i else R i) ∧ Below w.heap.size w w' := by
  have hb0 := hb.c0
  have hb2 : RelIs w.drew b := hb.is
  have hr2 : IsRows (rowsW w.drew b) := hb.isRows
  have HE := Lib.hid hb.drew.rows
  have HR := Lib.hid hR
  have HB := Lib.hid hb
  have hb3 : (w.alloc (.cells (relV n (rowsW w.drew b)) 52)).cell? ⟨b, 0, none⟩ = some (.int .i64 n) := (HB.out.alloc _).c0
  clear hR hb
  go_enter Tryd.func23, Tryd.ntmps23
  go_wp2_with fail
  go_region
  go_wp2_with fail
  go_loopw [19] (fun i wr => ∃ k : Nat, k ≤ n ∧ i = .int .i64 k ∧ At wr w.heap.size n (fun j => if j < k then R j ||| 2 ^ j else R j) ∧ Below w.heap.size w wr) (fun i _ => n - (intOf i).toNat)
  case atStart =>
    refine ⟨0, Nat.zero_le _, rfl, ?_, ((Below.refl _ _).alloc (Nat.le_refl _) _).drew⟩
    have h1 : At (w.alloc (.cells (relV n (rowsW w.drew b)) 52 (0, 0))) w.heap.size n R := by
      rw [HE.out, relV_rows]; exact heap_alloc_new _ _
    exact h1.drew.congr fun j _ => by simp
  case round =>
    obtain ⟨k, hk, rfl, hat, hbe⟩ := hrel
    have HAT := Lib.hid hat
    clear hat
    by_cases hlt : k < n
    · have hd : wr.cell? ⟨w.heap.size, 1 + k, none⟩ = some (.int .u64 (R k)) := by
        have := HAT.out.ci k (by omega)
        rwa [if_neg (by omega)] at this
      have hfz := HAT.out.frozen (1 + k)
      have hor : bits .or .u64 (R k : Int) (IntKind.u64.wrap (2 ^ k)) = ((R k ||| 2 ^ k : Nat) : Int) := by
        rw [two_lt k (by omega)]
        exact bits_or_u64_nat _ _ (lt64 (HR.out k)) (lt64 (Nat.pow_lt_pow_right (by omega) (by omega)))
      go_wp2_with fail
      go_region
      go_wp2_with fail
      go_roundw
      case rel =>
        refine ⟨k + 1, by omega, by go_num, ?_, (hbe.setCell (Nat.le_refl _) _).drew⟩
        refine ((HAT.out.set k (R k ||| 2 ^ k)).drew).congr fun j _ => ?_
        unfold upd
        by_cases e : j = k
        · subst e; simp
        · rw [if_neg e]
          show (if j < k then R j ||| 2 ^ j else R j) = _
          by_cases e2 : j < k
          · rw [if_pos e2, if_pos (by omega)]
          · rw [if_neg e2, if_neg (by omega)]
      case measure => simp [intOf]; omega
    · have hke : k = n := by omega
      have HK := Lib.hid hke
      clear hke
      go_wp2_with fail
      go_ret
      refine ⟨rfl, ?_, hbe⟩
      have := HAT.out
      rwa [HK.out] at this
end
end Go.Proofs.YtepkjnpbdjmlbaaDoor
