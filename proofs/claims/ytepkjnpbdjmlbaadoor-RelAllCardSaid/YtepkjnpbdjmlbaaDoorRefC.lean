import Derived.Test.YtepkjnpbdjmlbaaDoorRefB
import Derived.Laws.CopyRow
namespace Go.Proofs.YtepkjnpbdjmlbaaDoor
open Go.RowKit RelA
namespace RelA
def mcells (M : Nat → Nat → Bool) : List Value := (List.range 1600).map fun k => Value.bool (M (k / 40) (k % 40))
theorem mcells_len (M : Nat → Nat → Bool) : (mcells M).length = 1600 := by unfold mcells; rw [List.length_map, List.length_range]
theorem mcells_get (M : Nat → Nat → Bool) (k : Nat) (hk : k < 1600) : (mcells M)[k]? = some (.bool (M (k / 40) (k % 40))) := by
  unfold mcells; rw [List.getElem?_map, List.getElem?_range hk]; rfl
theorem rcells_eq (n : Nat) (M : Nat → Nat → Bool) : rcells n M = (Value.int .i64 n :: mcells M).toArray := rfl
theorem mcells_one (M : Nat → Nat → Bool) (v : Value) (hv : v ∈ mcells M) : v.oneCell' = true := by
  unfold mcells at hv
  obtain ⟨k, _, rfl⟩ := List.mem_map.1 hv
  rfl
attribute [irreducible] mcells
attribute [local irreducible] rcells
theorem run_loadVar_M {w : World} {b n : Nat} {M : Nat → Nat → Bool} (h : RAt w b n M) : (loadVar 55 ⟨b, 1, none⟩).run Tryd.prog w = .ok (.agg (mcells M).toArray) w := by
  have hl : (loadCells ⟨b, 1, none⟩ (mcells M).length).run Tryd.prog w = .ok (mcells M).toArray w :=
    run_loadCells_list (P := Tryd.prog) w ⟨b, 1, none⟩ (mcells M) (fun j v hv => by
      have hj : j < 1600 := by
        have := (List.getElem?_eq_some_iff.1 hv).1
        rwa [mcells_len] at this
      have hadd : (⟨b, 1, none⟩ : Addr).add j = ⟨b, 1 + j, none⟩ := by unfold Addr.add; simp
      have h2 := h.ci (j / 40) (j % 40) (by omega) (by omega)
      have e : 1 + j / 40 * 40 + j % 40 = 1 + j := by omega
      rw [e] at h2
      rw [hadd, h2, ← mcells_get M j hj, hv])
  rw [mcells_len] at hl
  have hagg : (isAgg 55).run Tryd.prog w = .ok true w := by kernel_rfl
  have hsz : (sizeOf 55).run Tryd.prog w = .ok 1600 w := by kernel_rfl
  unfold loadVar
  rw [Sem.run_bind, hagg, Result.andThen_ok]
  show ((sizeOf 55 >>= fun m => loadCells ⟨b, 1, none⟩ m) >>= fun cs => pure (Value.agg cs)).run Tryd.prog w = _
  rw [Sem.run_bind, Sem.run_bind, hsz, Result.andThen_ok, hl]
  rfl
theorem wpList_load_M {ops : Array Oper} {rest : List Oper} {o : Oper} {a : Act} {w : World} {Q : Exit → Act → World → Prop} (hgd : o.guard = none) (x : Operand) (ho : o.op = .load 55 x)
    (b n : Nat) (M : Nat → Nat → Bool) (hx : a.eval x = .pointer (some ⟨b, 1, none⟩)) (hA : RAt w b n M)
    (h : wpList Tryd.prog ops Q rest (a.put o.dst (.agg (mcells M).toArray)) w) : wpList Tryd.prog ops Q (o :: rest) a w :=
  wpList_plain hgd fun _ hK => by
    unfold Oper.wp execOp
    simp only [ho, hx, Instr.loadAt, Instr.sureAddr, Sem.run_bind, Sem.run_pure, Result.andThen_ok, run_loadVar_M hA]
    exact hK _ _ h
theorem run_storeVar_M {w : World} {b n : Nat} {M0 : Nat → Nat → Bool} (M : Nat → Nat → Bool) (h : RAt w b n M0) : (storeVar 55 ⟨b, 1, none⟩ (.agg (mcells M).toArray)).run Tryd.prog w = .ok () (w.setRow b (rcells n M)) := by
  have hsz : (sizeOf 55).run Tryd.prog w = .ok 1600 w := by kernel_rfl
  have hst := run_storeCells_at Tryd.prog b 1 57 (mcells M) 0 (rcells n M0) w h (by
    rw [mcells_len, rcells_eq]
    show 1 + 0 + 1600 ≤ (Value.int .i64 (n : Int) :: mcells M0).length
    rw [List.length_cons, mcells_len]; omega) (mcells_one M)
  have e : ((rcells n M0).toList.take (1 + 0) ++ mcells M ++ (rcells n M0).toList.drop (1 + 0 + (mcells M).length)).toArray = rcells n M := by
    rw [mcells_len, rcells_eq, rcells_eq]
    have h1 : List.drop (1 + 0 + 1600) (Value.int .i64 (n : Int) :: mcells M0) = [] := List.drop_eq_nil_of_le (by rw [List.length_cons, mcells_len]; omega)
    show ((Value.int .i64 (n : Int) :: mcells M0).take (1 + 0) ++ mcells M ++ (Value.int .i64 (n : Int) :: mcells M0).drop (1 + 0 + 1600)).toArray = _
    rw [h1, List.append_nil]; rfl
  rw [e] at hst
  unfold storeVar
  rw [Sem.run_bind, hsz, Result.andThen_ok]
  have hlen : (Value.agg (mcells M).toArray).cells.size = 1600 := mcells_len M
  have hne : ¬ ((Value.agg (mcells M).toArray).cells.size ≠ 1600) := by rw [hlen]; simp
  rw [if_neg hne]
  exact hst
theorem RAt.setRow {w : World} {b n : Nat} {M0 : Nat → Nat → Bool} (M : Nat → Nat → Bool) (h : RAt w b n M0) : RAt (w.setRow b (rcells n M)) b n M := setRow_heap w b _ _ _ _ h
theorem below_setRow (w : World) (b : Nat) (cs : Array Value) : Below b w (w.setRow b cs) :=
  ⟨rfl, rfl, rfl, by simp, fun k hk => setRow_other w b k cs (by omega)⟩
theorem wpList_store_M {ops : Array Oper} {rest : List Oper} {o : Oper} {a : Act} {w : World} {Q : Exit → Act → World → Prop} (hgd : o.guard = none) (x y : Operand) (ho : o.op = .store 55 x y)
    (b n : Nat) (M0 M : Nat → Nat → Bool) (hx : a.eval x = .pointer (some ⟨b, 1, none⟩)) (hy : a.eval y = .agg (mcells M).toArray) (hA : RAt w b n M0)
    (h : ∀ w', RAt w' b n M → Below b w w' → wpList Tryd.prog ops Q rest (a.put o.dst undef) w') : wpList Tryd.prog ops Q (o :: rest) a w :=
  wpList_plain hgd fun _ hK => by
    unfold Oper.wp execOp
    simp only [ho, hx, hy, Instr.storeAt, Instr.sureAddr, Sem.run_bind, Sem.run_pure, Result.andThen_ok, run_storeVar_M M hA]
    exact hK _ _ (h _ (hA.setRow M) (below_setRow _ _ _))
end RelA

set_option maxHeartbeats 1600000 in
theorem rback_any (b n : Nat) (M : Nat → Nat → Bool) (w : World) (hb : RAt w b n M) (hn : n ≤ 40) :
    Calls Tryd.prog 20 #[.pointer (some ⟨b, 0, none⟩)] w fun e w' => e = .returned (.pointer (some ⟨w.heap.size, 0, none⟩)) ∧ RAt w' w.heap.size n (fun i j => rfull n M j i) ∧ Below w.heap.size w w' := by
  have hb0 := hb.c0
  have HCL : Hid (clampN (n : Int) = n) := by show clampN _ = _; unfold clampN; omega
  have HB := Lib.hid hb
  clear hb
  go_enter Tryd.func20, Tryd.ntmps20
  go_wp2_with fail
  refine (rnew_nil (n : Int) w).mono ?_
  rintro e w1 ⟨rfl, hat, hbe1⟩
  rw [HCL.out] at hat
  have HAT1 := Lib.hid hat
  have HB1 := Lib.hid hbe1
  clear hat hbe1 HCL hb0
  go_wp2_with fail
  go_loopw [4] (fun x wr => ∃ k : Nat, k ≤ n ∧ x = .int .i64 k ∧ RAt wr w.heap.size n (fun i j => rpart n k 0 M j i) ∧ Below w.heap.size w wr) (fun x _ => n - (intOf x).toNat)
  case atStart => exact ⟨0, Nat.zero_le _, rfl, HAT1.out.congr fun i j _ _ => (rpart_zero _ _ j i).symm, HB1.out⟩
  case round =>
    obtain ⟨k, hk, rfl, hat, hbe⟩ := hrel
    by_cases hlt : k < n
    · obtain ⟨wo, rfl⟩ : ∃ wo : World, wo = wr := ⟨_, rfl⟩
      have hr0 := hat.c0
      have hdk : decide ((k : Int) < (n : Int)) = true := by simp; omega
      have hki : (k : Int) < (n : Int) := by omega
      have HAT := Lib.hid hat
      clear hat
      go_wp2_with fail
      clear hr0
      go_loopw [5] (fun x wi => ∃ q : Nat, q ≤ n ∧ x = .int .i64 q ∧ RAt wi w.heap.size n (fun i j => rpart n k q M j i) ∧ Below w.heap.size w wi) (fun x _ => n - (intOf x).toNat)
      case atStart => exact ⟨0, Nat.zero_le _, rfl, HAT.out, hbe⟩
      case round =>
        obtain ⟨q, hq, rfl, hati, hbi⟩ := hrel
        have hr0 := hati.c0
        by_cases hql : q < n
        · have hdq : decide ((q : Int) < (n : Int)) = true := by simp; omega
          have hqi : (q : Int) < (n : Int) := by omega
          have hq40 : (q : Int) < 40 := by omega
          have hk40 : (k : Int) < 40 := by omega
          have hm1 := (HB.out.below hbi HB.out.lt).ci k q (by omega) (by omega)
          have hd := hati.ci q k (by omega) (by omega)
          rw [rpart_at] at hd
          have hfz := hati.frozen (1 + q * 40 + k)
          have HATI := Lib.hid hati
          have HST := Lib.hid (rpart_step n k q M)
          clear hati
          go_wp2_with fail
          go_region
          go_wp2_with fail
          go_roundw
          case rel =>
            refine ⟨q + 1, by omega, by go_num, ?_, (hbi.setCell (Nat.le_refl _) _).drew⟩
            have h1 := HATI.out.set q k (M k q) (by omega) (by omega)
            exact (h1.congr fun i j _ _ => (by
              have h2 := HST.out j i
              unfold updM at h2 ⊢
              rw [← h2]
              by_cases h3 : i = q ∧ j = k
              · rw [if_pos h3, if_pos ⟨h3.2, h3.1⟩]
              · rw [if_neg h3, if_neg (fun h => h3 ⟨h.2, h.1⟩)])).drew
          case measure => simp [intOf]; omega
        · have hqN : q = n := by omega
          have HQ := Lib.hid hqN
          have hdq : decide ((q : Int) < (n : Int)) = false := by simp; omega
          have HATI := Lib.hid hati
          clear hqN hati
          go_wp2_with fail
          go_roundw
          case rel =>
            refine ⟨k + 1, by omega, by go_num, ?_, hbi⟩
            have h1 := HATI.out
            rw [HQ.out] at h1
            exact h1.congr fun i j _ _ => rpart_row n k _ j i
          case measure => simp [intOf]; omega
    · have hkN : k = n := by omega
      have HKN := Lib.hid hkN
      have hdk : decide ((k : Int) < (n : Int)) = false := by simp; omega
      have hr0 := hat.c0
      have HAT := Lib.hid hat
      clear hkN hat
      go_wp2_with fail
      go_ret
      exact ⟨rfl, HAT.out.congr fun i j _ _ => rpart_full n k _ HKN.out j i, hbe⟩

set_option maxHeartbeats 1600000 in
theorem rmaybe_any (b n : Nat) (M : Nat → Nat → Bool) (w : World) (hb : RAt w b n M) (hn : n ≤ 40) :
    Calls Tryd.prog 24 #[.pointer (some ⟨b, 0, none⟩)] w fun e w' => e = .returned (.pointer (some ⟨w.heap.size, 0, none⟩)) ∧ RAt w' w.heap.size n (fun i j => (decide (i = j) && decide (i < n)) || M i j) ∧ Below w.heap.size w w' := by
  have hb0 := hb.c0
  have HCL : Hid (clampN (n : Int) = n) := by show clampN _ = _; unfold clampN; omega
  have HB := Lib.hid hb
  clear hb
  go_enter Tryd.func24, Tryd.ntmps24
  go_wp2_with fail
  refine (rnew_nil (n : Int) w).mono ?_
  rintro e w1 ⟨rfl, hat, hbe1⟩
  rw [HCL.out] at hat
  have HAT1 := Lib.hid hat
  have HB1 := Lib.hid hbe1
  clear hat hbe1 HCL hb0
  go_wp2_with (first
    | (with_reducible refine wpList_load_M rfl _ rfl b n M rfl (HB.out.next HB1.out) ?_)
    | ((with_reducible refine wpList_store_M rfl _ _ rfl w.heap.size n _ M rfl rfl HAT1.out ?_); intro w2 hat2 hbe2; have HAT2 := Lib.hid hat2; have HB2 : Hid (Below w.heap.size w w2) := HB1.out.trans hbe2; clear hat2 hbe2))
  go_loopw [4] (fun x wr => ∃ k : Nat, k ≤ n ∧ x = .int .i64 k ∧ RAt wr w.heap.size n (fun i j => (decide (i = j) && decide (i < k)) || M i j) ∧ Below w.heap.size w wr) (fun x _ => n - (intOf x).toNat)
  case atStart => exact ⟨0, Nat.zero_le _, rfl, HAT2.out.congr fun i j _ _ => by simp, HB2.out⟩
  case round =>
    obtain ⟨k, hk, rfl, hat, hbe⟩ := hrel
    have hr0 := hat.c0
    by_cases hlt : k < n
    · have hdk : decide ((k : Int) < (n : Int)) = true := by simp; omega
      have hki : (k : Int) < (n : Int) := by omega
      have hk40 : (k : Int) < 40 := by omega
      have hd := hat.ci k k (by omega) (by omega)
      have hfz := hat.frozen (1 + k * 40 + k)
      have HAT := Lib.hid hat
      clear hat
      go_wp2_with fail
      go_roundw
      case rel =>
        refine ⟨k + 1, by omega, by go_num, ?_, hbe.setCell (Nat.le_refl _) _⟩
        have h1 := HAT.out.set k k true (by omega) (by omega)
        refine h1.congr fun i j _ _ => ?_
        unfold updM
        by_cases h3 : i = k ∧ j = k
        · rw [if_pos h3]; obtain ⟨rfl, rfl⟩ := h3; simp
        · rw [if_neg h3]
          by_cases h4 : i = j
          · subst h4
            have h5 : ¬ i = k := fun h => h3 ⟨h, h⟩
            by_cases h6 : i < k
            · have : i < k + 1 := by omega
              simp [h6, this]
            · have : ¬ i < k + 1 := by omega
              simp [h6, this]
          · simp [h4]
      case measure => simp [intOf]; omega
    · have hkN : k = n := by omega
      have HKN := Lib.hid hkN
      have hdk : decide ((k : Int) < (n : Int)) = false := by simp; omega
      have HAT := Lib.hid hat
      clear hkN hat
      go_wp2_with fail
      go_ret
      refine ⟨rfl, ?_, hbe⟩
      have h1 := HAT.out
      rw [HKN.out] at h1
      exact h1
end Go.Proofs.YtepkjnpbdjmlbaaDoor
