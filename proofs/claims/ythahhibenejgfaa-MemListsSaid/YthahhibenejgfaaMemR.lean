/-
  The reference's less, Has and In. Conditions: the lists in memory.
-/
import Derived.Test.YthahhibenejgfaaMemL
namespace Go.Proofs.Ythahhibenejgfaa
open Go.RowKit Mem
set_option maxRecDepth 20000 in
set_option maxHeartbeats 3200000 in
theorem less_l (x y : Ls) (w : World) (hx : NsIn w x.a x.L) (hy : NsIn w y.a y.L) (hl : x.L.length ≤ 1000000) (hr : y.L.length ≤ 1000000) :
    Calls Try.prog 22 #[x.v, y.v] w fun e w' => e = .returned (.bool (decide (cmpL x.L y.L < 0))) ∧ ∃ q, w' = w.drewN q := by
  obtain ⟨xa, l, xc⟩ := x
  obtain ⟨ya, r, yc⟩ := y
  unfold Ls.v
  dsimp only at hx hy hl hr ⊢
  obtain ⟨R, hR⟩ : ∃ R, R = decide (cmpL l r < 0) := ⟨_, rfl⟩
  rw [← hR]
  have HE : Hid (∀ k, Same k l r → (k = l.length ∨ k = r.length) → k ≤ l.length → k ≤ r.length → R = decide (l.length < r.length)) := Lib.hid (fun k h1 h2 h3 h4 => by
    rw [hR, cmpL_end k l r h1 h2 h3 h4]
    simp only [cmpI_lt]
    simp)
  have HA : Hid (∀ k, Same k l r → k < l.length → k < r.length → l.getD k 0 ≠ r.getD k 0 → R = decide (l.getD k 0 < r.getD k 0)) := Lib.hid (fun k h1 h2 h3 h4 => by
    rw [hR, cmpL_at k l r h1 h2 h3 h4]
    simp only [cmpI_lt])
  clear hR
  have HX := Lib.hid hx
  have HY := Lib.hid hy
  clear hx hy
  go_enter Try.func22, Try.ntmps22
  go_wp2_with fail
  go_loopw [5] (fun i wr => ∃ k q : Nat, k ≤ l.length ∧ k ≤ r.length ∧ i = .int .i64 k ∧ Hid (Same k l r) ∧ Hid (wr = w.drewN q)) (fun i _ => l.length - (intOf i).toNat)
  case atStart => exact ⟨0, 0, Nat.zero_le _, Nat.zero_le _, rfl, Lib.hid (fun j hj => absurd hj (by omega)), Lib.hid rfl⟩
  case round =>
    obtain ⟨k, q, hk, hk2, rfl, HS, hwr⟩ := hrel
    have HXw := Lib.hid (hwr.out ▸ ns_drewN HX.out q)
    have HYw := Lib.hid (hwr.out ▸ ns_drewN HY.out q)
    by_cases hlt : k < l.length
    · have d1 : decide ((k : Int) < (l.length : Int)) = true := by simp; omega
      have i1 : (k : Int) < (l.length : Int) := by omega
      by_cases hkr : k < r.length
      · have d2 : decide ((k : Int) < (r.length : Int)) = true := by simp; omega
        have i2 : (k : Int) < (r.length : Int) := by omega
        rcases HXw.out with h0 | ⟨b1, o1, rfl, hb1, hc1⟩
        · rw [h0] at hlt; simp at hlt
        rcases HYw.out with h0 | ⟨b2, o2, rfl, hb2, hc2⟩
        · rw [h0] at hkr; simp at hkr
        have c1 := hc1 k hlt
        have c2 := hc2 k hkr
        clear hc1 hc2 HXw HYw
        have HSX : Hid (l.getD k 0 = r.getD k 0 → Same (k + 1) l r) := Lib.hid (fun h j hj => by
          by_cases e : j = k
          · rw [e]; exact h
          · exact HS.out j (by omega))
        have HNE := Lib.hid (HA.out k HS.out hlt hkr)
        generalize l.getD k 0 = x at *
        generalize r.getD k 0 = y at *
        by_cases hxy : x = y
        · have HSY := Lib.hid (HSX.out hxy)
          subst hxy
          have e0 : (x != x) = false := by simp
          clear HSX HNE
          go_wp2_with fail
          go_quiet (fail)
          go_wp2_with fail
          go_roundw
          case rel => exact ⟨k + 1, q + nq, by omega, by omega, by go_num, HSY, Lib.hid (by rw [hwr.out]; exact drewN_drewN w q nq)⟩
          case measure => simp [intOf]; omega
        · have e0 : (x != y) = true := by simp [hxy]
          have e1 := HNE.out hxy
          clear HSX HNE hxy HA HE
          subst e1
          go_wp2_with fail
          go_quiet (fail)
          go_wp2_with fail
          have c3 := (cell_next c1 (below_drewN (Below.refl _ wr) nq))
          have c4 := (cell_next c2 (below_drewN (Below.refl _ wr) nq))
          have hwn : Hid (wr.drewN nq = w.drewN (q + nq)) := Lib.hid (by rw [hwr.out]; exact drewN_drewN w q nq)
          clear c1 c2
          obtain ⟨w1, hw1⟩ : ∃ w1, w1 = wr.drewN nq := ⟨_, rfl⟩
          rw [← hw1] at c3 c4 hwn ⊢
          clear hw1 hwr
          go_quiet (fail)
          go_wp2_with fail
          go_ret
          rw [hwn.out]
          exact ⟨rfl, _, drewN_drewN w _ _⟩
      · have hkm : k = r.length := by omega
        have d2 : decide ((k : Int) < (r.length : Int)) = false := by simp; omega
        have e1 := HE.out k HS.out (.inr hkm) hk hk2
        clear HE HA
        subst e1
        go_wp2_with fail
        go_ret
        exact ⟨rfl, q, hwr.out⟩
    · have hkm : k = l.length := by omega
      have d1 : decide ((k : Int) < (l.length : Int)) = false := by simp; omega
      have e1 := HE.out k HS.out (.inl hkm) hk hk2
      clear HE HA
      subst e1
      go_wp2_with fail
      go_ret
      exact ⟨rfl, q, hwr.out⟩
set_option maxRecDepth 20000 in
set_option maxHeartbeats 3200000 in
theorem refhas_l (a : Option Addr) (C : List Ls) (c : Nat) (m : Ls) (w : World) (hx : LsIn w a C) (hm : NsIn w m.a m.L) (hl : C.length ≤ 1000000) (hcl : ∀ q, q < C.length → (C.getD q Ls.zero).L.length ≤ 1000000) :
    Calls Try.prog 12 #[.slice a C.length c, m.v] w fun e w' => e = .returned (.bool (decide (m.L ∈ mL C))) ∧ ∃ q, w' = w.drewN q := by
  obtain ⟨R, hR⟩ : ∃ R, R = decide (m.L ∈ mL C) := ⟨_, rfl⟩
  rw [← hR]
  have HR := Lib.hid hR
  have HX := Lib.hid hx
  have HM := Lib.hid hm
  have HCL := Lib.hid hcl
  obtain ⟨mv, hmv⟩ : ∃ mv, mv = m.v := ⟨_, rfl⟩
  rw [← hmv]
  have HMV := Lib.hid hmv
  clear hx hm hcl hR hmv
  go_enter Try.func12, Try.ntmps12
  go_wp2_with fail
  go_loopw [5] (fun i wr => ∃ k q : Nat, k ≤ C.length ∧ i = .int .i64 k ∧ Hid (∀ j, j < k → (C.getD j Ls.zero).L ≠ m.L) ∧ Hid (wr = w.drewN q)) (fun i _ => C.length - (intOf i).toNat)
  case atStart => exact ⟨0, 0, Nat.zero_le _, rfl, Lib.hid (fun j hj => absurd hj (by omega)), Lib.hid rfl⟩
  case round =>
    obtain ⟨k, q, hk, rfl, HS, hwr⟩ := hrel
    by_cases hlt : k < C.length
    · have d1 : decide ((k : Int) < (C.length : Int)) = true := by simp; omega
      have i1 : (k : Int) < (C.length : Int) := by omega
      have HXw : Hid (LsIn wr a C) := Lib.hid (by rw [hwr.out]; exact HX.out.next (below_drewN (Below.refl _ _) q))
      have HMw : Hid (NsIn wr m.a m.L) := Lib.hid (by rw [hwr.out]; exact ns_drewN HM.out q)
      rcases HXw.out with h0 | ⟨b1, o1, rfl, hb1, hc1⟩
      · rw [h0] at hlt; simp at hlt
      have c1 := (hc1 k hlt).1
      have HN1 := Lib.hid (hc1 k hlt).2
      have HL1 := Lib.hid (HCL.out k hlt)
      have HY : Hid ((C.getD k Ls.zero).L = m.L → m.L ∈ mL C) := Lib.hid (fun h => mem_yes hlt h)
      have HSX : Hid ((C.getD k Ls.zero).L ≠ m.L → ∀ j, j < k + 1 → (C.getD j Ls.zero).L ≠ m.L) := Lib.hid (fun h j hj => by
          by_cases e : j = k
          · rw [e]; exact h
          · exact HS.out j (by omega))
      clear hc1 HXw
      generalize C.getD k Ls.zero = x at *
      have HSI := Lib.hid (sameInts_l x m wr HN1.out HMw.out HL1.out)
      rw [← HMV.out] at HSI
      obtain ⟨xa, l, xc⟩ := x
      unfold Ls.v at HSI c1
      dsimp only at HSI c1 HY HSX
      by_cases hxy : l = m.L
      · have e1 : R = true := by rw [HR.out, decide_eq_true_iff]; exact HY.out hxy
        rw [show decide (l = m.L) = true by simp [hxy]] at HSI
        clear HSX hxy HY HR HN1 HL1 HMw
        subst e1
        go_wp2_with fail
        refine HSI.out.mono ?_
        rintro e w' ⟨rfl, n, rfl⟩
        go_wp2_with fail
        go_ret
        exact ⟨rfl, q + n, by rw [hwr.out]; exact drewN_drewN w q n⟩
      · have HSY := Lib.hid (HSX.out hxy)
        rw [show decide (l = m.L) = false by simp [hxy]] at HSI
        clear HSX hxy HY HN1 HL1 HMw
        go_wp2_with fail
        refine HSI.out.mono ?_
        rintro e w' ⟨rfl, n, rfl⟩
        go_wp2_with fail
        go_roundw
        case rel => exact ⟨k + 1, q + n, by omega, by go_num, HSY, Lib.hid (by rw [hwr.out]; exact drewN_drewN w q n)⟩
        case measure => simp [intOf]; omega
    · have hkm : k = C.length := by omega
      have d1 : decide ((k : Int) < (C.length : Int)) = false := by simp; omega
      have e1 : R = false := by rw [HR.out, decide_eq_false_iff_not]; exact mem_no (hkm ▸ HS.out)
      clear HR
      subst e1
      go_wp2_with fail
      go_ret
      exact ⟨rfl, q, hwr.out⟩
set_option maxRecDepth 20000 in
set_option maxHeartbeats 3200000 in
theorem refin_l (a b : Option Addr) (C D : List Ls) (c d : Nat) (w : World) (hx : LsIn w a C) (hy : LsIn w b D) (hl : C.length ≤ 1000000) (hr : D.length ≤ 1000000) (hdl : ∀ q, q < D.length → (D.getD q Ls.zero).L.length ≤ 1000000) :
    Calls Try.prog 14 #[.slice a C.length c, .slice b D.length d] w fun e w' => e = .returned (.bool (decide (∀ L ∈ mL C, L ∈ mL D))) ∧ ∃ q, w' = w.drewN q := by
  obtain ⟨R, hR⟩ : ∃ R, R = decide (∀ L ∈ mL C, L ∈ mL D) := ⟨_, rfl⟩
  rw [← hR]
  have HR := Lib.hid hR
  have HX := Lib.hid hx
  have HH := Lib.hid (fun (m : Ls) q (hm : NsIn (w.drewN q) m.a m.L) => refhas_l b D d m (w.drewN q) (hy.next (below_drewN (Below.refl _ _) q)) hm hr hdl)
  clear hx hy hdl hR
  go_enter Try.func14, Try.ntmps14
  go_wp2_with fail
  go_loopw [5] (fun i wr => ∃ k q : Nat, k ≤ C.length ∧ i = .int .i64 k ∧ Hid (AllIn k C (mL D)) ∧ Hid (wr = w.drewN q)) (fun i _ => C.length - (intOf i).toNat)
  case atStart => exact ⟨0, 0, Nat.zero_le _, rfl, Lib.hid (fun j hj => absurd hj (by omega)), Lib.hid rfl⟩
  case round =>
    obtain ⟨k, q, hk, rfl, HAL, hwr⟩ := hrel
    by_cases hlt : k < C.length
    · have d1 : decide ((k : Int) < (C.length : Int)) = true := by simp; omega
      have i1 : (k : Int) < (C.length : Int) := by omega
      have HXw : Hid (LsIn wr a C) := Lib.hid (by rw [hwr.out]; exact HX.out.next (below_drewN (Below.refl _ _) q))
      rcases HXw.out with h0 | ⟨b1, o1, rfl, hb1, hc1⟩
      · rw [h0] at hlt; simp at hlt
      have c1 := (hc1 k hlt).1
      have HN1 := Lib.hid (hc1 k hlt).2
      have HSX : Hid ((C.getD k Ls.zero).L ∈ mL D → AllIn (k + 1) C (mL D)) := Lib.hid (fun h j hj => by
          by_cases e : j = k
          · rw [e]; exact h
          · exact HAL.out j (by omega))
      have HNO : Hid ((C.getD k Ls.zero).L ∉ mL D → R = false) := Lib.hid (fun h => HR.out.trans (not_in hlt h).symm)
      clear hc1 HXw
      generalize C.getD k Ls.zero = x at *
      have HSI := Lib.hid (HH.out x q (hwr.out ▸ HN1.out))
      rw [← hwr.out] at HSI
      obtain ⟨xa, l, xc⟩ := x
      unfold Ls.v at HSI c1
      dsimp only at HSI c1 HSX HNO
      by_cases hxy : l ∈ mL D
      · have HSY := Lib.hid (HSX.out hxy)
        rw [show decide (l ∈ mL D) = true by simp [hxy]] at HSI
        clear HSX HNO hxy HN1
        go_wp2_with fail
        refine HSI.out.mono ?_
        rintro e w' ⟨rfl, n, rfl⟩
        go_wp2_with fail
        go_roundw
        case rel => exact ⟨k + 1, q + n, by omega, by go_num, HSY, Lib.hid (by rw [hwr.out]; exact drewN_drewN w q n)⟩
        case measure => simp [intOf]; omega
      · have e1 := HNO.out hxy
        rw [show decide (l ∈ mL D) = false by simp [hxy]] at HSI
        clear HSX HNO hxy HN1 HR
        subst e1
        go_wp2_with fail
        refine HSI.out.mono ?_
        rintro e w' ⟨rfl, n, rfl⟩
        go_wp2_with fail
        go_ret
        exact ⟨rfl, q + n, by rw [hwr.out]; exact drewN_drewN w q n⟩
    · have hkm : k = C.length := by omega
      have d1 : decide ((k : Int) < (C.length : Int)) = false := by simp; omega
      have e1 := HR.out.trans (all_in (hkm ▸ HAL.out)).symm
      clear HR
      subst e1
      go_wp2_with fail
      go_ret
      exact ⟨rfl, q, hwr.out⟩
end Go.Proofs.Ythahhibenejgfaa
