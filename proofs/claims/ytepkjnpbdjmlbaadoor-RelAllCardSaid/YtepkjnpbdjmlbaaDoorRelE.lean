import Derived.Test.YtepkjnpbdjmlbaaDoorRelD
import Derived.Test.YtepkjnpbdjmlbaaDoorRelM
namespace Go.Proofs.YtepkjnpbdjmlbaaDoor
open Go.RowKit RelA

namespace RelA
def rowsOf (R : Nat → Nat) : Array Value := ((List.range 40).map fun i => Value.int .u64 (R i)).toArray
theorem rowsOf_size (R : Nat → Nat) : (rowsOf R).size = 40 := by simp [rowsOf]
theorem rowsOf_get (R : Nat → Nat) (k : Nat) (h : k < 40) : (rowsOf R)[k]? = some (.int .u64 (R k)) := by simp [rowsOf, h]
theorem run_loadVar_rows {w : World} {b n : Nat} {R : Nat → Nat} (h : At w b n R) : (loadVar 50 ⟨b, 1, none⟩).run Tryd.prog w = .ok (.agg (rowsOf R)) w := by
  have hl : (loadCells ⟨b, 1, none⟩ ((List.range 40).map fun i => Value.int .u64 (R i)).length).run Tryd.prog w = .ok (rowsOf R) w :=
    run_loadCells_list (P := Tryd.prog) w ⟨b, 1, none⟩ ((List.range 40).map fun i => Value.int .u64 (R i)) (fun j v hv => by
      have hj : j < 40 := by
        have := (List.getElem?_eq_some_iff.1 hv).1
        simpa using this
      have hadd : (⟨b, 1, none⟩ : Addr).add j = ⟨b, 1 + j, none⟩ := by unfold Addr.add; simp
      rw [hadd, h.ci j hj]
      simpa [hj] using hv)
  rw [List.length_map, List.length_range] at hl
  have hagg : (isAgg 50).run Tryd.prog w = .ok true w := by kernel_rfl
  simp [loadVar, Sem.run_bind, hagg, hl]
theorem wpList_load_rows {ops : Array Oper} {rest : List Oper} {o : Oper} {a : Act} {w : World} {Q : Exit → Act → World → Prop} (hgd : o.guard = none) (x : Operand) (ho : o.op = .load 50 x)
    (b n : Nat) (R : Nat → Nat) (hx : a.eval x = .pointer (some ⟨b, 1, none⟩)) (hA : At w b n R)
    (h : wpList Tryd.prog ops Q rest (a.put o.dst (.agg (rowsOf R))) w) : wpList Tryd.prog ops Q (o :: rest) a w :=
  wpList_plain hgd fun _ hK => by
    unfold Oper.wp execOp
    simp only [ho, hx, Instr.loadAt, Instr.sureAddr, Sem.run_bind, Sem.run_pure, Result.andThen_ok, run_loadVar_rows hA]
    exact hK _ _ h
theorem run_index_rows (R : Nat → Nat) (k : Nat) (h : k < 40) (w : World) : (Instr.index 50 (.agg (rowsOf R)) (.int .i64 (k : Int))).run Tryd.prog w = .ok (.int .u64 (R k)) w := by
  have hu : Tryd.prog.underlying 50 = some (.array 40 48) := by kernel_rfl
  have hr := rowsOf_get R k h
  have hge : ¬ 40 ≤ k := by omega
  simp [Instr.index, asIntOf, run_underlying hu, Sem.run_bind, hge, part, hr]
end RelA

set_option maxHeartbeats 800000 in
theorem then_ge (b n c m : Nat) (R S : Nat → Nat) (w : World) (hb : At w b n R) (hc : At w c m S) (hR : ∀ i, R i < 2 ^ 40) (hS : ∀ i, S i < 2 ^ 40) (htab : Tab w) :
    Calls Tryd.prog 17 #[.pointer (some ⟨b, 0, none⟩), .pointer (some ⟨c, 0, none⟩)] w fun e w' => e = .returned (.pointer (some ⟨w.heap.size, 0, none⟩)) ∧ At w' w.heap.size (max n m) (fun i => U S (R i)) ∧ Below w.heap.size w w' := by
  have hb0 := hb.c0
  have hc0 := hc.c0
  have HR := Lib.hid hR
  have HS := Lib.hid hS
  have HB := Lib.hid hb
  have HC := Lib.hid hc
  have HTAB := Lib.hid htab
  clear hR hS hb hc htab
  by_cases hnm : m ≤ n
  all_goals
    go_enter Tryd.func17, Tryd.ntmps17
    go_wp2_with fail
    go_region
    go_wp2_with ((with_reducible refine wpList_load_rows rfl _ rfl b n R rfl (HB.out.below (((Below.refl _ _).alloc (Nat.le_refl _) _).drew) HB.out.lt) ?_))
    go_loopw [23] (fun i wr => ∃ k : Nat, k ≤ 40 ∧ i = .int .i64 k ∧ At wr w.heap.size (max n m) (fun j => if j < k then U S (R j) else 0) ∧ Below w.heap.size w wr) (fun i _ => 40 - (intOf i).toNat)
    case atStart =>
      refine ⟨0, Nat.zero_le _, rfl, ?_, ((Below.refl _ _).alloc (Nat.le_refl _) _).drew⟩
      exact (zero_at' w (max n m) _ (by omega)).drew
    case round =>
      obtain ⟨k, hk, rfl, hat, hbe⟩ := hrel
      by_cases hlt : k < 40
      · obtain ⟨wo, rfl⟩ : ∃ wo : World, wo = wr := ⟨_, rfl⟩
        have hix := run_index_rows R k hlt
        have hdk : decide ((k : Int) < 40) = true := by simp; omega
        have HAT := Lib.hid hat
        clear hat
        go_wp2_with fail
        go_loopw [7] (fun x wi => ∃ y acc : Nat, y < 2 ^ 40 ∧ acc < 2 ^ 40 ∧ x = .int .u64 y ∧ Hid (acc ||| U S y = U S (R k)) ∧ At wi w.heap.size (max n m) (upd (fun j => if j < k then U S (R j) else 0) k acc) ∧ Below w.heap.size w wi) (fun x _ => (intOf x).toNat)
        case atStart =>
          refine ⟨R k, 0, HR.out k, by decide, rfl, ?_, ?_, hbe⟩
          · show 0 ||| U S (R k) = U S (R k)
            rw [Nat.zero_or]
          · refine HAT.out.congr fun j _ => ?_
            unfold upd
            by_cases e : j = k
            · subst e; simp
            · simp [e]
        case round =>
          obtain ⟨y, acc, hy, hacc, rfl, hU, hati, hbi⟩ := hrel
          have hzlt := ctz_lt40 y
          by_cases hy0 : y = 0
          · subst hy0
            have HATI := Lib.hid hati
            clear hati hzlt
            go_wp2_with fail
            go_roundw
            case rel =>
              refine ⟨k + 1, by omega, by go_num, ?_, hbi⟩
              refine HATI.out.congr fun j _ => ?_
              have hU2 := hU.out
              rw [U_zero, Nat.or_zero] at hU2
              unfold upd
              by_cases e : j = k
              · subst e; rw [if_pos rfl, if_pos (by omega), hU2]
              · rw [if_neg e]
                show (if j < k then U S (R j) else 0) = _
                by_cases e2 : j < k
                · rw [if_pos e2, if_pos (by omega)]
                · rw [if_neg e2, if_neg (by omega)]
            case measure => simp [intOf]; omega
          · have hyb : ((y : Int) != 0) = true := by simpa using hy0
            have hy1 : 1 ≤ y := by omega
            have hz := hzlt hy0 hy
            have HTZ := Lib.hid (tz_any y wr.drew (fun k hk => (hbi.cell (p := ⟨0, k, none⟩) (by show 0 < _; exact Nat.lt_of_le_of_lt (Nat.zero_le _) HB.out.lt)).trans (HTAB.out k hk)) hy0 (lt64 hy))
            have hc1 := (HC.out.below hbi HC.out.lt).ci (Lib.ctz 64 y) hz
            have hfz := hati.frozen (1 + k)
            have hd : wr.cell? ⟨w.heap.size, 1 + k, none⟩ = some (.int .u64 acc) := by
              have := hati.ci k hlt
              unfold upd at this
              rwa [if_pos rfl] at this
            have HATI := Lib.hid hati
            have HY0 := Lib.hid hy0
            clear hati hzlt hy0
            have hand : bits .and .u64 (y : Int) ((y : Int) - 1) = ((y &&& (y - 1) : Nat) : Int) := by
              have := bits_and_u64_nat y (y - 1) (lt64 hy) (by omega)
              rwa [Int.ofNat_sub hy1] at this
            have hor : bits .or .u64 (acc : Int) (S (Lib.ctz 64 y) : Int) = ((acc ||| S (Lib.ctz 64 y) : Nat) : Int) := bits_or_u64_nat _ _ (lt64 hacc) (lt64 (HS.out _))
            have HST := Lib.hid (U_step S y HS.out HY0.out hy)
            generalize Lib.ctz 64 y = z at *
            have hzi : (z : Int) < 40 := by omega
            have hki : (k : Int) < 40 := by omega
            go_wp2_with fail
            refine wp_region_still_tail 17 (by kernel_rfl) (by kernel_rfl) ?_
            simp only [List.take_succ_cons, List.take_zero, List.drop_succ_cons, List.drop_zero]
            show wpStill _ _ wr.drew (fun a' => wpList _ _ _ _ a' wr.drew) _ _
            repeat still_step
            still_call (HTZ.out.mono fun e w' h => ⟨h.1, h.2.symm⟩)
            repeat still_step
            refine wpStill_nil ?_
            go_wp2_with fail
            go_roundw
            case rel =>
              refine ⟨y &&& (y - 1), acc ||| S z, ?_, ?_, rfl, ?_, ?_, ?_⟩
              · exact Nat.lt_of_lt_of_le (clear_lt y HY0.out) (by omega)
              · exact Nat.or_lt_two_pow hacc (HS.out _)
              · show _ = _
                rw [← hU.out, HST.out, Nat.or_assoc]
              · refine ((HATI.out.set k (acc ||| S z)).drew).congr fun j _ => ?_
                unfold upd
                by_cases e : j = k
                · subst e; simp
                · simp [e]
              · exact (hbi.setCell (Nat.le_refl _) _).drew
            case measure =>
              have := clear_lt y HY0.out
              simp [intOf]; omega
      · have hk40 : 40 ≤ k := by omega
        have HAT := Lib.hid hat
        clear hat
        go_wp2_with fail
        go_ret
        exact ⟨rfl, HAT.out.congr fun i hi => by rw [if_pos (by omega)], hbe⟩
end Go.Proofs.YtepkjnpbdjmlbaaDoor
