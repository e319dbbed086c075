/-
  slices.BinarySearchFunc over a row of lists in order. Conditions: the lists in memory, in order.
-/
import Derived.Test.YthahhibenejgfaaMemI
import Derived.Handy
namespace Go.Proofs.Ythahhibenejgfaa
open Go.RowKit Mem
namespace Mem
def Asc (D : List Ls) : Prop := ∀ i j, i < j → j < D.length → ¬ Lt (D.getD j Ls.zero).L (D.getD i Ls.zero).L
/-- a place, and whether the list is there -/
def BsSays (R : Bool) (w : World) (e : Ending) (w' : World) : Prop := ∃ r : Int, e = .returned (.tuple #[.int .i64 r, .bool R]) ∧ ∃ q, w' = w.drewN q
theorem nlt_trans {a b c : List Int} (h : ¬ Lt b a) (g : ¬ Lt c b) : ¬ Lt c a := by
  intro h2
  rcases tri a b with h1 | h1 | h1
  · exact g (lt_trans h2 h1)
  · rw [← h1] at g; exact g h2
  · exact h h1
theorem lt_nlt {a b c : List Int} (h : ¬ Lt b a) (g : Lt b c) : Lt a c := by
  rcases tri a b with h1 | h1 | h1
  · exact lt_trans h1 g
  · rw [h1]; exact g
  · exact absurd h1 h
theorem shr_half (k n : Nat) : Int.ofNat ((k + n) >>> 1) = ((k + n) / 2 : Nat) := by simp [Nat.shiftRight_succ]
/-- the search's two walls -/
def Walls (D : List Ls) (L : List Int) (i j : Nat) : Prop := (∀ q, q < i → Lt (D.getD q Ls.zero).L L) ∧ ∀ q, j ≤ q → q < D.length → ¬ Lt (D.getD q Ls.zero).L L
theorem walls_up {D : List Ls} {L : List Int} {i j h : Nat} (hs : Asc D) (w : Walls D L i j) (hh : h < D.length) (hl : Lt (D.getD h Ls.zero).L L) : Walls D L (h + 1) j := by
  refine ⟨fun q hq => ?_, w.2⟩
  by_cases e : q = h
  · rw [e]; exact hl
  · exact lt_nlt (hs q h (by omega) hh) hl
theorem walls_down {D : List Ls} {L : List Int} {i j h : Nat} (hs : Asc D) (w : Walls D L i j) (hl : ¬ Lt (D.getD h Ls.zero).L L) : Walls D L i h := by
  refine ⟨w.1, fun q hq hq2 => ?_⟩
  by_cases e : q = h
  · rw [e]; exact hl
  · intro g
    exact hl (lt_nlt (hs h q (by omega) hq2) g)
theorem walls_yes {D : List Ls} {L : List Int} {i : Nat} (hi : i < D.length) (e : (D.getD i Ls.zero).L = L) : true = decide (L ∈ mL D) := by
  have := mem_yes hi e
  simp [this]
theorem walls_no {D : List Ls} {L : List Int} {i : Nat} (hs : Asc D) (w : Walls D L i i) (e : i < D.length → (D.getD i Ls.zero).L ≠ L) : false = decide (L ∈ mL D) := by
  have : L ∉ mL D := mem_no fun j hj g => by
    rcases Nat.lt_trichotomy j i with h | h | h
    · have := w.1 j h
      rw [g] at this
      exact lt_irrefl _ this
    · rw [h] at g hj
      exact e hj g
    · have h1 := hs i j h hj
      have h2 := w.2 i (Nat.le_refl _) (by omega)
      rw [g] at h1
      rcases tri (D.getD i Ls.zero).L L with h3 | h3 | h3
      · exact h2 h3
      · exact e (by omega) h3
      · exact h1 h3
  simp [this]
end Mem
set_option maxRecDepth 20000 in
set_option maxHeartbeats 3200000 in
theorem bsearch_l (a : Option Addr) (D : List Ls) (c : Nat) (m : Ls) (w : World) (hx : LsIn w a D) (hm : NsIn w m.a m.L) (hs : Asc D) (hl : D.length ≤ 1000000) (hcl : ∀ q, q < D.length → (D.getD q Ls.zero).L.length ≤ 1000000) (hml : m.L.length ≤ 1000000) :
    Calls Try.prog 25 #[.slice a D.length c, m.v, .func (.func 20) #[] #[]] w (BsSays (decide (m.L ∈ mL D)) w) := by
  obtain ⟨R, hR⟩ : ∃ R, R = decide (m.L ∈ mL D) := ⟨_, rfl⟩
  rw [← hR]
  have HR := Lib.hid hR
  have HX := Lib.hid hx
  have HM := Lib.hid hm
  have HS := Lib.hid hs
  have HCL := Lib.hid hcl
  have HMM := Lib.hid hml
  have HN : Hid (D.length = D.length) := Lib.hid rfl
  obtain ⟨n, hn⟩ : ∃ n, n = D.length := ⟨_, rfl⟩
  rw [← hn] at hl ⊢
  have HNN := Lib.hid hn
  obtain ⟨mv, hmv⟩ : ∃ mv, mv = m.v := ⟨_, rfl⟩
  rw [← hmv]
  have HMV := Lib.hid hmv
  clear hx hm hcl hml hs hR hn hmv HN
  go_enter Try.func25, Try.ntmps25
  go_wp2_with fail
  go_loopw [9, 10] (fun i j wr => ∃ k h q : Nat, k ≤ h ∧ h ≤ n ∧ i = .int .i64 k ∧ j = .int .i64 h ∧ Hid (Walls D m.L k h) ∧ Hid (wr = w.drewN q)) (fun i j _ => (intOf j).toNat - (intOf i).toNat)
  case atStart => exact ⟨0, n, 0, Nat.zero_le _, Nat.le_refl _, rfl, rfl, Lib.hid ⟨fun q hq => absurd hq (by omega), fun q h1 h2 => absurd h2 (by have := HNN.out; omega)⟩, Lib.hid rfl⟩
  case round =>
    obtain ⟨k, h, q, hkh, hh, rfl, rfl, HW, hwr⟩ := hrel
    by_cases hlt : k < h
    · have d1 : decide ((k : Int) < (h : Int)) = true := by simp; omega
      obtain ⟨p, hp⟩ : ∃ p, p = (k + h) / 2 := ⟨_, rfl⟩
      have p1 : k ≤ p := by omega
      have p2 : p < h := by omega
      have p3 : p < D.length := by have := HNN.out; omega
      have HXw : Hid (LsIn wr a D) := Lib.hid (by rw [hwr.out]; exact HX.out.next (below_drewN (Below.refl _ _) q))
      have HMw : Hid (NsIn wr m.a m.L) := Lib.hid (by rw [hwr.out]; exact ns_drewN HM.out q)
      rcases HXw.out with h0 | ⟨b1, o1, rfl, hb1, hc1⟩
      · rw [h0] at p3; simp at p3
      have c1 := (hc1 p p3).1
      have HN1 := Lib.hid (hc1 p p3).2
      have HL1 := Lib.hid (HCL.out p p3)
      have HUP := Lib.hid (fun g => walls_up HS.out HW.out p3 g)
      have HDN := Lib.hid (fun g => walls_down (h := p) HS.out HW.out g)
      clear hc1 HXw
      generalize D.getD p Ls.zero = x at *
      have HC := Lib.hid (compare_l x m wr HN1.out HMw.out HL1.out HMM.out)
      rw [← HMV.out] at HC
      have HLT : Hid (Lt x.L m.L ↔ cmpL x.L m.L < 0) := Lib.hid Iff.rfl
      obtain ⟨xa, l, xc⟩ := x
      unfold Ls.v at HC c1
      dsimp only at HC c1 HLT HUP HDN
      subst hp
      by_cases hz : cmpL l m.L < 0
      · have HWW := Lib.hid (HUP.out (HLT.out.2 hz))
        generalize cmpL l m.L = z at *
        have d2 : decide (z < 0) = true := by simp [hz]
        clear HUP HDN HLT HN1 HL1 HMw
        go_wp2_with fail
        refine HC.out.mono ?_
        rintro e w' ⟨rfl, t, rfl⟩
        go_wp2_with fail
        go_roundw
        case rel => exact ⟨(k + h) / 2 + 1, h, q + t, by omega, by omega, by go_num, rfl, HWW, Lib.hid (by rw [hwr.out]; exact drewN_drewN w q t)⟩
        case measure => simp [intOf]; omega
      · have HWW := Lib.hid (HDN.out (fun g => hz (HLT.out.1 g)))
        generalize cmpL l m.L = z at *
        have d2 : decide (z < 0) = false := by simp [hz]
        clear HUP HDN HLT HN1 HL1 HMw
        go_wp2_with fail
        refine HC.out.mono ?_
        rintro e w' ⟨rfl, t, rfl⟩
        go_wp2_with fail
        go_roundw
        case rel => exact ⟨k, (k + h) / 2, q + t, by omega, by omega, rfl, by go_num, HWW, Lib.hid (by rw [hwr.out]; exact drewN_drewN w q t)⟩
        case measure => simp [intOf]; omega
    · obtain rfl : h = k := by omega
      have d1 : decide ((h : Int) < (h : Int)) = false := by simp
      have HNO := Lib.hid (fun g => walls_no HS.out HW.out g)
      have HYE := Lib.hid (fun (i : h < D.length) g => walls_yes (L := m.L) i g)
      by_cases hn : h < n
      · have d2 : decide ((h : Int) < (n : Int)) = true := by simp; omega
        have p3 : h < D.length := by have := HNN.out; omega
        have i1 : (h : Int) < (n : Int) := by omega
        have HXw : Hid (LsIn wr a D) := Lib.hid (by rw [hwr.out]; exact HX.out.next (below_drewN (Below.refl _ _) q))
        have HMw : Hid (NsIn wr m.a m.L) := Lib.hid (by rw [hwr.out]; exact ns_drewN HM.out q)
        rcases HXw.out with h0 | ⟨b1, o1, rfl, hb1, hc1⟩
        · rw [h0] at p3; simp at p3
        have c1 := (hc1 h p3).1
        have HN1 := Lib.hid (hc1 h p3).2
        have HL1 := Lib.hid (HCL.out h p3)
        have HNO := Lib.hid (fun g => HNO.out (fun _ => g))
        have HYE := Lib.hid (HYE.out p3)
        clear hc1 HXw
        generalize D.getD h Ls.zero = x at *
        have HC := Lib.hid (compare_l x m wr HN1.out HMw.out HL1.out HMM.out)
        rw [← HMV.out] at HC
        obtain ⟨xa, l, xc⟩ := x
        unfold Ls.v at HC c1
        dsimp only at HC c1 HNO HYE
        by_cases hz : l = m.L
        · have e1 := HR.out.trans (HYE.out hz).symm
          have e0 : cmpL l m.L = 0 := by rw [hz]; exact cmpL_self _
          rw [e0] at HC
          clear HNO HYE HR hz e0 HN1 HL1 HMw
          subst e1
          go_wp2_with fail
          refine HC.out.mono ?_
          rintro e w' ⟨rfl, t, rfl⟩
          go_wp2_with fail
          go_returns
          exact ⟨_, rfl, q + t, by rw [hwr.out]; exact drewN_drewN w q t⟩
        · have e1 := HR.out.trans (HNO.out hz).symm
          have e0 : (cmpL l m.L == 0) = false := by
            have : cmpL l m.L ≠ 0 := fun g => hz (cmpL_eq g)
            simpa using this
          generalize cmpL l m.L = z at *
          clear HNO HYE HR hz HN1 HL1 HMw
          subst e1
          go_wp2_with fail
          refine HC.out.mono ?_
          rintro e w' ⟨rfl, t, rfl⟩
          go_wp2_with fail
          go_returns
          exact ⟨_, rfl, q + t, by rw [hwr.out]; exact drewN_drewN w q t⟩
      · have d2 : decide ((h : Int) < (n : Int)) = false := by simp; omega
        have e1 := HR.out.trans (HNO.out (fun g => absurd g (by have := HNN.out; omega))).symm
        clear HNO HYE HR
        subst e1
        go_wp2_with fail
        go_returns
        exact ⟨_, rfl, q, hwr.out⟩
end Go.Proofs.Ythahhibenejgfaa
