/-
  Lists held against each other, one by one and row by row. Conditions: the lists in memory.
-/
import Derived.Test.YthahhibenejgfaaMemF
namespace Go.Proofs.Ythahhibenejgfaa
open Go.RowKit Mem
namespace Mem
theorem same_eq : ∀ {l r : List Int}, l.length = r.length → Same l.length l r → l = r
  | [], [], _, _ => rfl
  | [], _ :: _, h, _ => by simp at h
  | _ :: _, [], h, _ => by simp at h
  | x :: l, y :: r, h, hs => by
    have h0 : x = y := hs 0 (by simp)
    have h1 : l = r := same_eq (by simpa using h) (fun j hj => hs (j + 1) (by simpa using hj))
    rw [h0, h1]
theorem of_eq {l r : List Int} (h : l = r) (k : Nat) : l.getD k 0 = r.getD k 0 := by rw [h]
end Mem
set_option maxRecDepth 20000 in
set_option maxHeartbeats 3200000 in
theorem sameInts_l (x y : Ls) (w : World) (hx : NsIn w x.a x.L) (hy : NsIn w y.a y.L) (hl : x.L.length ≤ 1000000) :
    Calls Try.prog 16 #[x.v, y.v] w fun e w' => e = .returned (.bool (decide (x.L = y.L))) ∧ ∃ q, w' = w.drewN q := by
  obtain ⟨xa, l, xc⟩ := x
  obtain ⟨ya, r, yc⟩ := y
  unfold Ls.v
  dsimp only at hx hy hl ⊢
  obtain ⟨R, hR⟩ : ∃ R, R = decide (l = r) := ⟨_, rfl⟩
  rw [← hR]
  have HT := Lib.hid (fun (h : l = r) => (by rw [hR]; simp [h] : R = true))
  have HF := Lib.hid (fun (h : l ≠ r) => (by rw [hR]; simp [h] : R = false))
  clear hR
  have HX := Lib.hid hx
  have HY := Lib.hid hy
  clear hx hy
  by_cases hlen : l.length = r.length
  · have d0 : ((l.length : Int) != (r.length : Int)) = false := by simp; omega
    go_enter Try.func16, Try.ntmps16
    go_wp2_with fail
    go_loopw [5] (fun i wr => ∃ k q : Nat, k ≤ l.length ∧ i = .int .i64 k ∧ Hid (Same k l r) ∧ Hid (wr = w.drewN q)) (fun i _ => l.length - (intOf i).toNat)
    case atStart => exact ⟨0, 0, Nat.zero_le _, rfl, Lib.hid (fun j hj => absurd hj (by omega)), Lib.hid rfl⟩
    case round =>
      obtain ⟨k, q, hk, rfl, HS, hwr⟩ := hrel
      have HXw := Lib.hid (hwr.out ▸ ns_drewN HX.out q)
      have HYw := Lib.hid (hwr.out ▸ ns_drewN HY.out q)
      by_cases hlt : k < l.length
      · have hkr : k < r.length := by omega
        have d1 : decide ((k : Int) < (l.length : Int)) = true := by simp; omega
        have i1 : (k : Int) < (l.length : Int) := by omega
        have i2 : (k : Int) < (r.length : Int) := by omega
        rcases HXw.out with h0 | ⟨b1, o1, rfl, hb1, hc1⟩
        · rw [h0] at hlt; simp at hlt
        rcases HYw.out with h0 | ⟨b2, o2, rfl, hb2, hc2⟩
        · rw [h0] at hkr; simp at hkr
        have c1 := hc1 k hlt
        have c2 := hc2 k hkr
        clear hc1 hc2 HXw HYw
        have HSX : Hid (l.getD k 0 = r.getD k 0 → Same (k + 1) l r) := Lib.hid (fun h j hj => by
          by_cases e : j = k
          · rw [e]; exact h
          · exact HS.out j (by omega))
        have HNE : Hid (l.getD k 0 ≠ r.getD k 0 → R = false) := Lib.hid (fun h => HF.out (fun e => h (of_eq e k)))
        generalize l.getD k 0 = x at *
        generalize r.getD k 0 = y at *
        by_cases hxy : x = y
        · have HSY := Lib.hid (HSX.out hxy)
          subst hxy
          have e0 : (x != x) = false := by simp
          clear HSX HNE
          go_wp2_with fail
          go_quiet (fail)
          go_wp2_with fail
          go_roundw
          case rel => exact ⟨k + 1, q + nq, by omega, by go_num, HSY, Lib.hid (by rw [hwr.out]; exact drewN_drewN w q nq)⟩
          case measure => simp [intOf]; omega
        · have e0 : (x != y) = true := by simp [hxy]
          have e1 := HNE.out hxy
          clear HSX HNE hxy HT HF
          subst e1
          go_wp2_with fail
          go_quiet (fail)
          go_wp2_with fail
          go_ret
          exact ⟨rfl, q + nq, by rw [hwr.out]; exact drewN_drewN w q nq⟩
      · have hkm : k = l.length := by omega
        have d1 : decide ((k : Int) < (l.length : Int)) = false := by simp; omega
        have e1 := HT.out (same_eq hlen (hkm ▸ HS.out))
        clear HT HF
        subst e1
        go_wp2_with fail
        go_ret
        exact ⟨rfl, q, hwr.out⟩
  · have d0 : ((l.length : Int) != (r.length : Int)) = true := by simp; omega
    have e1 := HF.out (fun e => hlen (by rw [e]))
    clear HT HF
    subst e1
    go_enter Try.func16, Try.ntmps16
    go_wp2_with fail
    go_ret
    exact ⟨rfl, 0, rfl⟩
namespace Mem
def mL (C : List Ls) : List (List Int) := C.map Ls.L
theorem mL_getD (C : List Ls) (k : Nat) (h : k < C.length) : (mL C).getD k [] = (C.getD k Ls.zero).L := by
  unfold mL
  rw [List.getD_eq_getElem?_getD, List.getD_eq_getElem?_getD, List.getElem?_map, List.getElem?_eq_getElem h]
  rfl
def SameR (k : Nat) (C D : List Ls) : Prop := ∀ j, j < k → (C.getD j Ls.zero).L = (D.getD j Ls.zero).L
theorem sameR_eq {C D : List Ls} (h : C.length = D.length) (hs : SameR C.length C D) : mL C = mL D := by
  apply List.ext_getElem
  · simp [mL, h]
  · intro i h1 h2
    have hi : i < C.length := by simpa [mL] using h1
    have := hs i hi
    rw [← mL_getD C i hi, ← mL_getD D i (by omega)] at this
    rw [List.getD_eq_getElem?_getD, List.getD_eq_getElem?_getD, List.getElem?_eq_getElem h1, List.getElem?_eq_getElem h2] at this
    simpa using this
theorem of_mL {C D : List Ls} (h : mL C = mL D) (k : Nat) (hk : k < C.length) : (C.getD k Ls.zero).L = (D.getD k Ls.zero).L := by
  have hl : C.length = D.length := by
    have := congrArg List.length h
    simpa [mL] using this
  rw [← mL_getD C k hk, ← mL_getD D k (by omega), h]
end Mem
set_option maxRecDepth 20000 in
set_option maxHeartbeats 3200000 in
theorem sameLists_l (a a' : Option Addr) (C D : List Ls) (c c' : Nat) (w : World) (hx : LsIn w a C) (hy : LsIn w a' D) (hl : C.length ≤ 1000000) (hcl : ∀ q, q < C.length → (C.getD q Ls.zero).L.length ≤ 1000000) :
    Calls Try.prog 9 #[.slice a C.length c, .slice a' D.length c'] w fun e w' => e = .returned (.bool (decide (mL C = mL D))) ∧ ∃ q, w' = w.drewN q := by
  obtain ⟨R, hR⟩ : ∃ R, R = decide (mL C = mL D) := ⟨_, rfl⟩
  rw [← hR]
  have HT := Lib.hid (fun (h : mL C = mL D) => (by rw [hR]; simp [h] : R = true))
  have HF := Lib.hid (fun (h : mL C ≠ mL D) => (by rw [hR]; simp [h] : R = false))
  clear hR
  have HX := Lib.hid hx
  have HY := Lib.hid hy
  have HCL := Lib.hid hcl
  clear hx hy hcl
  by_cases hlen : C.length = D.length
  · have d0 : ((C.length : Int) != (D.length : Int)) = false := by simp; omega
    go_enter Try.func9, Try.ntmps9
    go_wp2_with fail
    go_loopw [5] (fun i wr => ∃ k q : Nat, k ≤ C.length ∧ i = .int .i64 k ∧ Hid (SameR k C D) ∧ Hid (wr = w.drewN q)) (fun i _ => C.length - (intOf i).toNat)
    case atStart => exact ⟨0, 0, Nat.zero_le _, rfl, Lib.hid (fun j hj => absurd hj (by omega)), Lib.hid rfl⟩
    case round =>
      obtain ⟨k, q, hk, rfl, HS, hwr⟩ := hrel
      have HXw : Hid (LsIn wr a C) := Lib.hid (by rw [hwr.out]; exact HX.out.next (below_drewN (Below.refl _ _) q))
      have HYw : Hid (LsIn wr a' D) := Lib.hid (by rw [hwr.out]; exact HY.out.next (below_drewN (Below.refl _ _) q))
      by_cases hlt : k < C.length
      · have hkr : k < D.length := by omega
        have d1 : decide ((k : Int) < (C.length : Int)) = true := by simp; omega
        have i1 : (k : Int) < (C.length : Int) := by omega
        have i2 : (k : Int) < (D.length : Int) := by omega
        rcases HXw.out with h0 | ⟨b1, o1, rfl, hb1, hc1⟩
        · rw [h0] at hlt; simp at hlt
        rcases HYw.out with h0 | ⟨b2, o2, rfl, hb2, hc2⟩
        · rw [h0] at hkr; simp at hkr
        have c1 := (hc1 k hlt).1
        have c2 := (hc2 k hkr).1
        have HN1 := Lib.hid (hc1 k hlt).2
        have HN2 := Lib.hid (hc2 k hkr).2
        have HL1 := Lib.hid (HCL.out k hlt)
        clear hc1 hc2 HXw HYw
        have HSX : Hid ((C.getD k Ls.zero).L = (D.getD k Ls.zero).L → SameR (k + 1) C D) := Lib.hid (fun h j hj => by
          by_cases e : j = k
          · rw [e]; exact h
          · exact HS.out j (by omega))
        have HNE : Hid ((C.getD k Ls.zero).L ≠ (D.getD k Ls.zero).L → R = false) := Lib.hid (fun h => HF.out (fun e => h (of_mL e k hlt)))
        generalize C.getD k Ls.zero = x at *
        generalize D.getD k Ls.zero = y at *
        have HSI := Lib.hid (fun n => sameInts_l x y (wr.drewN n) (ns_drewN HN1.out n) (ns_drewN HN2.out n) HL1.out)
        by_cases hxy : x.L = y.L
        · have HSY := Lib.hid (HSX.out hxy)
          rw [show decide (x.L = y.L) = true by simp [hxy]] at HSI
          clear HSX HNE hxy
          go_wp2_with fail
          go_quiet ((go_at_call 16; exact Calls.quiet_of (HSI.out _)))
          go_wp2_with fail
          go_roundw
          case rel => exact ⟨k + 1, q + nq, by omega, by go_num, HSY, Lib.hid (by rw [hwr.out]; exact drewN_drewN w q nq)⟩
          case measure => simp [intOf]; omega
        · have e1 := HNE.out hxy
          rw [show decide (x.L = y.L) = false by simp [hxy]] at HSI
          clear HSX HNE hxy HT HF
          subst e1
          go_wp2_with fail
          go_quiet ((go_at_call 16; exact Calls.quiet_of (HSI.out _)))
          go_wp2_with fail
          go_ret
          exact ⟨rfl, q + nq, by rw [hwr.out]; exact drewN_drewN w q nq⟩
      · have hkm : k = C.length := by omega
        have d1 : decide ((k : Int) < (C.length : Int)) = false := by simp; omega
        have e1 := HT.out (sameR_eq hlen (hkm ▸ HS.out))
        clear HT HF
        subst e1
        go_wp2_with fail
        go_ret
        exact ⟨rfl, q, hwr.out⟩
  · have d0 : ((C.length : Int) != (D.length : Int)) = true := by simp; omega
    have e1 := HF.out (fun e => hlen (by simpa [mL] using congrArg List.length e))
    clear HT HF
    subst e1
    go_enter Try.func9, Try.ntmps9
    go_wp2_with fail
    go_ret
    exact ⟨rfl, 0, rfl⟩
end Go.Proofs.Ythahhibenejgfaa
