/-
  strings.Count at a string of one byte and the index of a byte in a string, by the model's own entries. Conditions: none but those that the theorems print.
-/
import Derived.Test.YtkddmlcliammbaaGreatDoorProg
import Derived.Test.YtkddmlcliammbaaGreatDoorShelf
import Derived.Test.YtkddmlcliammbaaGreatDoorRqT
import Derived.WalkKit
import Derived.Lib.ItoaWalk
import Derived.Lib.Strings
import Derived.Lib.Walk
import Derived.Lib.Hide
import Derived.Laws.Strings3
import Derived.BigCall
import Derived.BigGuard
namespace Go.Proofs.YtkddmlcliammbaaGreatDoor.told
open Go.Rn Go.RowKit Go.Lib Go.Proofs
theorem knownC : known Tryz.prog 78 = true := by kernel_rfl
theorem knownI : known Tryz.prog 66 = true := by kernel_rfl
theorem cntx (s : ByteArray) (b : Int) (w : World) : (callFunc 100 #[.string s, .int .u8 b]).run Tryz.prog w = .ok (.value (.int .i64 (Lib.countByte s.data.toList b.toNat.toUInt8))) w := by
  rw [run_callFunc_extern Tryz.func100 (by kernel_rfl) (by kernel_rfl) (by kernel_rfl) (e := Extern.BytealgCount.count) (by kernel_rfl), Lib.run_countString]
  rfl
theorem idxx (s : ByteArray) (b : Int) (w : World) : (callFunc 89 #[.string s, .int .u8 b]).run Tryz.prog w = .ok (.value (.int .i64 (Lib.indexByte s.data.toList b.toNat.toUInt8))) w := by
  rw [run_callFunc_extern Tryz.func89 (by kernel_rfl) (by kernel_rfl) (by kernel_rfl) (e := Extern.BytealgIndexByte.indexByte) (by kernel_rfl), Lib.run_indexByteString]
  rfl
set_option maxRecDepth 100000 in
theorem cnt (s : ByteArray) (b : UInt8) (w : World) : Calls Tryz.prog 78 #[.string s, .string ⟨#[b]⟩] w fun e w' => e = .returned (.int .i64 (Lib.countByte s.data.toList b)) ∧ Old w w' := by
  have h := cntx s
  have h1 : (ByteArray.mk #[b]).size = 1 := rfl
  have h2 : (ByteArray.mk #[b])[0]! = b := rfl
  go_enter Tryz.func78, Tryz.ntmps78
  go_wp2_with (simp only [h])
  go_ret
  exact ⟨rfl, Old.refl _⟩
set_option maxRecDepth 100000 in
theorem idx (s : ByteArray) (z : Int) (w : World) (_ : 0 ≤ z) (_ : z < 256) : Calls Tryz.prog 66 #[.string s, .int .u8 z] w fun e w' => e = .returned (.int .i64 (Lib.indexByte s.data.toList z.toNat.toUInt8)) ∧ Old w w' := by
  have h := idxx s
  go_enter Tryz.func66, Tryz.ntmps66
  go_wp2_with (simp only [h])
  go_ret
  exact ⟨rfl, Old.refl _⟩
theorem knownA : known Tryz.prog 42 = true := by kernel_rfl
theorem mixedA : Tryz.prog.follows Departure.mixedOrders = true := by kernel_rfl
set_option maxHeartbeats 6400000 in
set_option maxRecDepth 100000 in
theorem atoi (s : ByteArray) (m : Nat) (w : World) (hpos : 0 < s.size) (hl : s.size ≤ 18) (hm : Lib.decFrom 0 s.data.toList = some m) : Calls Tryz.prog 42 #[.string s] w fun e w' => e = .returned (.tuple #[.int .i64 m, .nilIface]) ∧ Old w w' := by
  have mixed := mixedA
  obtain ⟨b0, hb0⟩ : ∃ b, b = s[0]'hpos := ⟨_, rfl⟩
  have hs0 := hb0.symm
  have hx0 : s.data.toList[0]? = some b0 := by
    rw [hb0, List.getElem?_eq_getElem (by rw [← Lib.size_eq]; exact hpos)]; rfl
  obtain ⟨d0, hd0⟩ := Lib.digit_of_decFrom _ 0 m hm 0 b0 hx0
  obtain ⟨g48, g57, _⟩ := Lib.digitVal_eq hd0
  have h45 : ((b0.toNat : Int) == 45) = false := beq_eq_false_iff_ne.2 fun e => by omega
  have h43 : ((b0.toNat : Int) == 43) = false := beq_eq_false_iff_ne.2 fun e => by omega
  clear hb0 hx0 hd0
  have hcv := Lib.run_convert_string_bytes (P := Tryz.prog) w 9 85 5 s (u := .string) (by kernel_rfl) (by kernel_rfl) (by kernel_rfl)
  have hB : ∀ j, j < s.size → (Lib.bytesWorld w 5 s).cell? ⟨w.heap.size, j, none⟩ = some (.int .u8 (s.data.toList.getD j 0).toNat) := fun j hj => Lib.bytesWorld_cell w 5 s j hj
  have hO : Old w (Lib.bytesWorld w 5 s) := bytesWorld_old
  obtain ⟨W1, hW1⟩ : ∃ W1, W1 = Lib.bytesWorld w 5 s := ⟨_, rfl⟩
  rw [← hW1] at hcv hB hO
  have HO := Lib.hid hO
  have HB := Lib.hid hB
  have hm18 := Lib.decFrom_lt18 hm (by rw [← Lib.size_eq]; omega)
  have HM := Lib.hid hm
  clear hW1 hB hm hO
  go_enter Tryz.func42, Tryz.ntmps42
  go_wp2
  go_loop [49, 6] (fun vi vn => ∃ (k acc : Nat), k ≤ s.size ∧ vi = .int .i64 k ∧ vn = .int .i64 acc ∧ Hid (Lib.decFrom 0 (s.data.toList.take k) = some acc)) (fun vi _ => s.size - (RowKit.intOf vi).toNat)
  case atStart => exact ⟨0, 0, Nat.zero_le _, rfl, rfl, rfl⟩
  case round =>
    obtain ⟨k, acc, hk, rfl, rfl, hacc⟩ := hrel
    by_cases hkn : k < s.size
    · obtain ⟨x, hx⟩ : ∃ x, x = s.data.toList.getD k 0 := ⟨_, rfl⟩
      have hxk : s.data.toList[k]? = some x := by
        rw [hx, List.getD, List.getElem?_eq_getElem (by rw [← Lib.size_eq]; exact hkn)]
        rfl
      have hc1 : W1.cell? ⟨w.heap.size, k, none⟩ = some (.int .u8 x.toNat) := by rw [hx]; exact HB.out k hkn
      obtain ⟨dv, hdv⟩ := Lib.digit_of_decFrom _ 0 m HM.out k x hxk
      obtain ⟨h48, h57, hde⟩ := Lib.digitVal_eq hdv
      have hlt := Lib.decFrom_take_lt hacc.out (by omega)
      have Hxk := Lib.hid hxk
      have Hdv := Lib.hid hdv
      clear hx hxk hdv
      go_wp2
      go_round
      case rel => exact ⟨k + 1, acc * 10 + dv, by omega, by go_num, by first | go_num | (congr 1; omega), Lib.decFrom_take _ k 0 acc x dv hacc.out Hxk.out Hdv.out⟩
      case measure => simp [RowKit.intOf]; omega
    · have hke : k = s.size := by omega
      subst hke
      have hfin : acc = m := by
        have h1 := hacc.out
        rw [List.take_of_length_le (by rw [← Lib.size_eq]; exact Nat.le_refl _), HM.out] at h1
        exact (Option.some.inj h1).symm
      subst hfin
      go_wp2
      go_ret2
      exact ⟨rfl, HO.out⟩
theorem told_ok {ρ : Nat → Int} : OrcOk Tryz.prog ρ (orO (orO (cntO 78) (idxO 66)) (atoiO 42)) := or_ok (or_ok (cnt_ok knownC cnt) (idx_ok knownI idx)) (atoi_ok knownA atoi)
theorem knownJ : known Tryz.prog 32 = true := by kernel_rfl
theorem below_old {w w' : World} (h : Go.RowKit.Below w.heap.size w w') : Old w w' := ⟨h.1, h.2, h.3, h.4, h.5⟩
theorem join : JoinC Tryz.prog 32 := ⟨knownJ, fun w B O c xs sep hB hc _ hN hcap hl => (Tryz.strings_Join B O c xs sep w hc hB (by omega) hcap (by omega)).mono fun _ _ h => ⟨h.1, below_old h.2⟩⟩
theorem knownG : known Tryz.prog 42 = true := by kernel_rfl
theorem knownK : known Tryz.prog 71 = true := by kernel_rfl
theorem atoiG (s : ByteArray) (w : World) (hl : s.size ≤ 18) : Calls Tryz.prog 42 #[.string s] w fun e w' => e = .returned (atoiV 93 (Lib.atoi s.data.toList)) ∧ Old w w' := by
  cases h : Lib.atoi s.data.toList with
  | some n =>
    refine (Tryz.internal_strconv_Atoi s n hl h w).mono ?_
    rintro e w' ⟨rfl, t, rfl⟩
    exact ⟨rfl, bytesWorld_old⟩
  | none =>
    refine (Tryz.internal_strconv_Atoi_fail s hl h w).mono ?_
    rintro e w' ⟨rfl, rfl | ⟨t, rfl⟩⟩
    · exact ⟨rfl, Old.refl _⟩
    · exact ⟨rfl, bytesWorld_old⟩
theorem clone (s : ByteArray) (w : World) (hl : s.size ≤ 1048576) : Calls Tryz.prog 71 #[.string s] w fun e w' => e = .returned (.string s) ∧ Old w w' :=
  (Tryz.stringslite_Clone s w (by omega)).mono fun _ _ h => ⟨h.1, below_old h.2⟩
theorem toldG_ok {ρ : Nat → Int} : OrcOk Tryz.prog ρ (orO (orO (orO (cntO 78) (idxO 66)) (Go.Rn.atoiG 42 93)) (cloneO 71)) := or_ok (or_ok (or_ok (cnt_ok knownC cnt) (idx_ok knownI idx)) (atoiG_ok knownG atoiG)) (clone_ok knownK clone)
end Go.Proofs.YtkddmlcliammbaaGreatDoor.told
