import Derived.Test.YtepkjnpbdjmlbaaDoorRelC
import Derived.StillTailTactics
import Derived.Deep.RegionWith
namespace Go.Proofs.YtepkjnpbdjmlbaaDoor
open Go.RowKit RelA

set_option maxHeartbeats 400000 in
theorem or1 (x y : Nat) (w : World) (hx : x < 18446744073709551616) (hy : y < 18446744073709551616) :
    Calls Tryd.prog 40 #[.int .u64 x, .int .u64 y] w fun e w' => e = .returned (.int .u64 (x ||| y : Nat)) ∧ w = w' := by
  have h := bits_or_u64_nat x y hx hy
  clear hx hy
  go_enter Tryd.func40, Tryd.ntmps40
  go_wp2_with fail
  go_ret
  exact ⟨rfl, rfl⟩
set_option maxHeartbeats 400000 in
theorem and1 (x y : Nat) (w : World) (hx : x < 18446744073709551616) (hy : y < 18446744073709551616) :
    Calls Tryd.prog 41 #[.int .u64 x, .int .u64 y] w fun e w' => e = .returned (.int .u64 (x &&& y : Nat)) ∧ w = w' := by
  have h := bits_and_u64_nat x y hx hy
  clear hx hy
  go_enter Tryd.func41, Tryd.ntmps41
  go_wp2_with fail
  go_ret
  exact ⟨rfl, rfl⟩

set_option maxHeartbeats 800000 in
theorem bits_andNot_u64_nat (a b : Nat) (ha : a < 18446744073709551616) (hb : b < 18446744073709551616) :
    bits .andNot .u64 (a : Int) (b : Int) = ((a ^^^ (a &&& b) : Nat) : Int) := by
  have h1 : (BitVec.ofInt 64 (a : Int)).toNat = a := by
    rw [BitVec.ofInt_natCast, BitVec.toNat_ofNat]; exact Nat.mod_eq_of_lt (by omega)
  have h2 : (BitVec.ofInt 64 (b : Int)).toNat = b := by
    rw [BitVec.ofInt_natCast, BitVec.toNat_ofNat]; exact Nat.mod_eq_of_lt (by omega)
  show IntKind.u64.wrap ((BitVec.ofInt 64 (a : Int) &&& ~~~ BitVec.ofInt 64 (b : Int)).toNat : Int) = _
  have e : BitVec.ofInt 64 (a : Int) &&& ~~~ BitVec.ofInt 64 (b : Int) = BitVec.ofInt 64 (a : Int) ^^^ (BitVec.ofInt 64 (a : Int) &&& BitVec.ofInt 64 (b : Int)) := by
    ext i hi
    simp only [BitVec.getElem_and, BitVec.getElem_not, BitVec.getElem_xor]
    cases (BitVec.ofInt 64 (a : Int))[i] <;> cases (BitVec.ofInt 64 (b : Int))[i] <;> rfl
  rw [e, BitVec.toNat_xor, BitVec.toNat_and, h1, h2, IntKind.wrap_u64]
  have hx : a ^^^ (a &&& b) < 2 ^ 64 := Nat.xor_lt_two_pow (by omega) (Nat.and_lt_two_pow _ (by omega))
  omega
set_option maxHeartbeats 400000 in
theorem less1 (x y : Nat) (w : World) (hx : x < 18446744073709551616) (hy : y < 18446744073709551616) :
    Calls Tryd.prog 42 #[.int .u64 x, .int .u64 y] w fun e w' => e = .returned (.int .u64 (x ^^^ (x &&& y) : Nat)) ∧ w = w' := by
  have h := bits_andNot_u64_nat x y hx hy
  clear hx hy
  go_enter Tryd.func42, Tryd.ntmps42
  go_wp2_with fail
  go_ret
  exact ⟨rfl, rfl⟩
theorem RelA.At.congr {w : World} {b n : Nat} {R S : Nat → Nat} (h : At w b n R) (e : ∀ i, i < 40 → R i = S i) : At w b n S := by
  have : cells n R = cells n S := by
    unfold cells
    congr 2
    apply List.map_congr_left
    intro i hi
    rw [e i (List.mem_range.1 hi)]
  unfold At; rw [← this]; exact h
theorem enter41 (x y : Value) (w : World) : Sem.run Tryd.prog (callFunc 41 #[x, y]) w = .ok (.enter 41 #[x, y]) w := by go_simp
theorem enter42 (x y : Value) (w : World) : Sem.run Tryd.prog (callFunc 42 #[x, y]) w = .ok (.enter 42 #[x, y]) w := by go_simp
theorem enter40 (x y : Value) (w : World) : Sem.run Tryd.prog (callFunc 40 #[x, y]) w = .ok (.enter 40 #[x, y]) w := by go_simp

set_option maxHeartbeats 800000 in
theorem both_any (F : FuncId) (op : Nat → Nat → Nat) (hf : ∀ (x y : Nat) (w : World), x < 2 ^ 40 → y < 2 ^ 40 → Calls Tryd.prog F #[.int .u64 x, .int .u64 y] w fun e w' => e = .returned (.int .u64 (op x y : Nat)) ∧ w' = w)
    (hent : ∀ (x y : Value) (w : World), Sem.run Tryd.prog (callFunc F #[x, y]) w = .ok (.enter F #[x, y]) w)
    (b n c m : Nat) (R S : Nat → Nat) (w : World) (hb : At w b n R) (hc : At w c m S) (hR : ∀ i, R i < 2 ^ 40) (hS : ∀ i, S i < 2 ^ 40) :
    Calls Tryd.prog 39 #[.pointer (some ⟨b, 0, none⟩), .pointer (some ⟨c, 0, none⟩), .func (.func F) #[] #[]] w fun e w' => e = .returned (.pointer (some ⟨w.heap.size, 0, none⟩)) ∧ At w' w.heap.size (max n m) (fun i => op (R i) (S i)) ∧ Below w.heap.size w w' := by
  have hb0 := hb.c0
  have hc0 := hc.c0
  have HF := Lib.hid hf
  have HR := Lib.hid hR
  have HS := Lib.hid hS
  have HB := Lib.hid hb
  have HC := Lib.hid hc
  clear hf hR hS hb hc
  by_cases hnm : m ≤ n
  all_goals
    go_enter Tryd.func39, Tryd.ntmps39
    go_wp2_with fail
    go_region
    go_wp2_with fail
    go_loopw [20] (fun i wr => ∃ k : Nat, k ≤ 40 ∧ i = .int .i64 k ∧ At wr w.heap.size (max n m) (fun j => if j < k then op (R j) (S j) else 0) ∧ Below w.heap.size w wr) (fun i _ => 40 - (intOf i).toNat)
    case atStart =>
      refine ⟨0, Nat.zero_le _, rfl, ?_, ((Below.refl _ _).alloc (Nat.le_refl _) _).drew⟩
      exact (zero_at' w (max n m) _ (by omega)).drew
    case round =>
      obtain ⟨k, hk, rfl, hat, hbe⟩ := hrel
      by_cases hlt : k < 40
      · have hb1 := (HB.out.below hbe HB.out.lt).ci k hlt
        have hc1 := (HC.out.below hbe HC.out.lt).ci k hlt
        have hfz := hat.frozen (1 + k)
        have hd := hat.ci k hlt
        have HAT := Lib.hid hat
        have HX := HF.out (R k) (S k) wr.drew (HR.out k) (HS.out k)
        have HX' := Lib.hid HX
        clear hat HX
        go_wp2_with fail
        refine wp_region_still_tail 19 (by kernel_rfl) (by kernel_rfl) ?_
        simp only [List.take_succ_cons, List.take_zero, List.drop_succ_cons, List.drop_zero]
        show wpStill _ _ wr.drew (fun a' => wpList _ _ _ _ a' wr.drew) _ _
        repeat still_step
        still_call HX'.out
        repeat still_step
        refine wpStill_nil ?_
        go_wp2_with fail
        go_roundw
        case rel =>
          refine ⟨k + 1, by omega, by go_num, ?_, (hbe.setCell (Nat.le_refl _) _).drew⟩
          refine ((HAT.out.set k (op (R k) (S k))).drew).congr fun j _ => ?_
          unfold upd
          by_cases e : j = k
          · subst e; simp
          · rw [if_neg e]
            show (if j < k then op (R j) (S j) else 0) = _
            by_cases e2 : j < k
            · rw [if_pos e2, if_pos (by omega)]
            · rw [if_neg e2, if_neg (by omega)]
        case measure => simp [intOf]; omega
      · have hk40 : 40 ≤ k := by omega
        have HAT := Lib.hid hat
        clear hat
        go_wp2_with fail
        go_ret
        exact ⟨rfl, HAT.out.congr fun i hi => by rw [if_pos (by omega)], hbe⟩

theorem lt64 {x : Nat} (h : x < 2 ^ 40) : x < 18446744073709551616 := by omega
set_option maxHeartbeats 400000 in
theorem or_any (b n c m : Nat) (R S : Nat → Nat) (w : World) (hb : At w b n R) (hc : At w c m S) (hR : ∀ i, R i < 2 ^ 40) (hS : ∀ i, S i < 2 ^ 40) :
    Calls Tryd.prog 11 #[.pointer (some ⟨b, 0, none⟩), .pointer (some ⟨c, 0, none⟩)] w fun e w' => e = .returned (.pointer (some ⟨w.heap.size, 0, none⟩)) ∧ At w' w.heap.size (max n m) (fun i => R i ||| S i) ∧ Below w.heap.size w w' := by
  have H := Lib.hid (both_any 40 (· ||| ·) (fun x y w hx hy => (or1 x y w (lt64 hx) (lt64 hy)).mono fun e w' h => ⟨h.1, h.2.symm⟩) enter40 b n c m R S w hb hc hR hS)
  clear hb hc hR hS
  go_enter Tryd.func11, Tryd.ntmps11
  go_wp2_with fail
  refine H.out.mono ?_
  rintro e w' ⟨rfl, h1, h2⟩
  have H1 := Lib.hid h1
  clear h1
  go_wp2_with fail
  go_ret
  exact ⟨rfl, H1.out, h2⟩
set_option maxHeartbeats 400000 in
theorem and_any (b n c m : Nat) (R S : Nat → Nat) (w : World) (hb : At w b n R) (hc : At w c m S) (hR : ∀ i, R i < 2 ^ 40) (hS : ∀ i, S i < 2 ^ 40) :
    Calls Tryd.prog 13 #[.pointer (some ⟨b, 0, none⟩), .pointer (some ⟨c, 0, none⟩)] w fun e w' => e = .returned (.pointer (some ⟨w.heap.size, 0, none⟩)) ∧ At w' w.heap.size (max n m) (fun i => R i &&& S i) ∧ Below w.heap.size w w' := by
  have H := Lib.hid (both_any 41 (· &&& ·) (fun x y w hx hy => (and1 x y w (lt64 hx) (lt64 hy)).mono fun e w' h => ⟨h.1, h.2.symm⟩) enter41 b n c m R S w hb hc hR hS)
  clear hb hc hR hS
  go_enter Tryd.func13, Tryd.ntmps13
  go_wp2_with fail
  refine H.out.mono ?_
  rintro e w' ⟨rfl, h1, h2⟩
  have H1 := Lib.hid h1
  clear h1
  go_wp2_with fail
  go_ret
  exact ⟨rfl, H1.out, h2⟩
set_option maxHeartbeats 400000 in
theorem less_any (b n c m : Nat) (R S : Nat → Nat) (w : World) (hb : At w b n R) (hc : At w c m S) (hR : ∀ i, R i < 2 ^ 40) (hS : ∀ i, S i < 2 ^ 40) :
    Calls Tryd.prog 15 #[.pointer (some ⟨b, 0, none⟩), .pointer (some ⟨c, 0, none⟩)] w fun e w' => e = .returned (.pointer (some ⟨w.heap.size, 0, none⟩)) ∧ At w' w.heap.size (max n m) (fun i => R i ^^^ (R i &&& S i)) ∧ Below w.heap.size w w' := by
  have H := Lib.hid (both_any 42 (fun x y => x ^^^ (x &&& y)) (fun x y w hx hy => (less1 x y w (lt64 hx) (lt64 hy)).mono fun e w' h => ⟨h.1, h.2.symm⟩) enter42 b n c m R S w hb hc hR hS)
  clear hb hc hR hS
  go_enter Tryd.func15, Tryd.ntmps15
  go_wp2_with fail
  refine H.out.mono ?_
  rintro e w' ⟨rfl, h1, h2⟩
  have H1 := Lib.hid h1
  clear h1
  go_wp2_with fail
  go_ret
  exact ⟨rfl, H1.out, h2⟩
end Go.Proofs.YtepkjnpbdjmlbaaDoor
