/-
  mem.Has: a list is one of some, by slices.ContainsFunc. Conditions: the lists in memory.
-/
import Derived.Test.YthahhibenejgfaaMemH
namespace Go.Proofs.Ythahhibenejgfaa
open Go.RowKit Mem
namespace Mem
theorem mem_yes {C : List Ls} {L : List Int} {k : Nat} (h : k < C.length) (e : (C.getD k Ls.zero).L = L) : L ∈ mL C := by
  unfold mL
  rw [List.mem_map]
  exact ⟨_, getD_mem h, e⟩
theorem mem_no {C : List Ls} {L : List Int} (h : ∀ j, j < C.length → (C.getD j Ls.zero).L ≠ L) : L ∉ mL C := by
  unfold mL
  rw [List.mem_map]
  rintro ⟨x, hx, rfl⟩
  obtain ⟨i, hi, rfl⟩ := List.getElem_of_mem hx
  refine h i hi ?_
  rw [List.getD_eq_getElem?_getD, List.getElem?_eq_getElem hi]
  rfl
/-- a place that says whether a list is there -/
def IdxSays (C : List Ls) (L : List Int) (w : World) (e : Ending) (w' : World) : Prop := ∃ r : Int, e = .returned (.int .i64 r) ∧ -1 ≤ r ∧ r ≤ 1000000 ∧ (0 ≤ r ↔ L ∈ mL C) ∧ ∃ q, w' = w.drewN q
end Mem
set_option maxRecDepth 20000 in
set_option maxHeartbeats 1600000 in
theorem has1_l (x m : Ls) (g : Nat) (w : World) (hx : NsIn w x.a x.L) (hm : NsIn w m.a m.L) (hl : x.L.length ≤ 1000000) (hr : m.L.length ≤ 1000000) (hg : w.cell? ⟨g, 0, none⟩ = some m.v) :
    Calls Try.prog 24 #[x.v, .pointer (some ⟨g, 0, none⟩)] w fun e w' => e = .returned (.bool (decide (x.L = m.L))) ∧ ∃ q, w' = w.drewN q := by
  have HC := Lib.hid (compare_l x m w hx hm hl hr)
  by_cases h : x.L = m.L
  · have hz : cmpL x.L m.L = 0 := by rw [h]; exact cmpL_self _
    rw [show decide (x.L = m.L) = true by simp [h]]
    rw [hz] at HC
    obtain ⟨xa, l, xc⟩ := x
    obtain ⟨ma, r, mc⟩ := m
    unfold Ls.v at HC hg ⊢
    dsimp only at HC hg ⊢
    clear hx hm h hz
    go_enter Try.func24, Try.ntmps24
    go_wp2_with fail
    refine HC.out.mono ?_
    rintro e w' ⟨rfl, q, rfl⟩
    go_wp2_with fail
    go_ret
    exact ⟨rfl, q, rfl⟩
  · have hz : (cmpL x.L m.L == 0) = false := by
      have : cmpL x.L m.L ≠ 0 := fun e => h (cmpL_eq e)
      simpa using this
    rw [show decide (x.L = m.L) = false by simp [h]]
    generalize cmpL x.L m.L = z at *
    obtain ⟨xa, l, xc⟩ := x
    obtain ⟨ma, r, mc⟩ := m
    unfold Ls.v at HC hg ⊢
    dsimp only at HC hg ⊢
    clear hx hm h
    go_enter Try.func24, Try.ntmps24
    go_wp2_with fail
    refine HC.out.mono ?_
    rintro e w' ⟨rfl, q, rfl⟩
    go_wp2_with fail
    go_ret
    exact ⟨rfl, q, rfl⟩
set_option maxRecDepth 20000 in
set_option maxHeartbeats 3200000 in
theorem index_l (a : Option Addr) (C : List Ls) (c : Nat) (m : Ls) (g : Nat) (w : World) (hx : LsIn w a C) (hm : NsIn w m.a m.L) (hl : C.length ≤ 1000000) (hcl : ∀ q, q < C.length → (C.getD q Ls.zero).L.length ≤ 1000000) (hml : m.L.length ≤ 1000000) (hg : w.cell? ⟨g, 0, none⟩ = some m.v) :
    Calls Try.prog 29 #[.slice a C.length c, .func (.func 24) #[] #[.pointer (some ⟨g, 0, none⟩)]] w (IdxSays C m.L w) := by
  have HX := Lib.hid hx
  have HM := Lib.hid hm
  have HG := Lib.hid hg
  have HCL := Lib.hid hcl
  have HMM := Lib.hid hml
  clear hx hm hg hcl hml
  go_enter Try.func29, Try.ntmps29
  go_wp2_with fail
  go_loopw [8] (fun i wr => ∃ k q : Nat, k ≤ C.length ∧ i = .int .i64 k ∧ Hid (∀ j, j < k → (C.getD j Ls.zero).L ≠ m.L) ∧ Hid (wr = w.drewN q)) (fun i _ => C.length - (intOf i).toNat)
  case atStart => exact ⟨0, 0, Nat.zero_le _, rfl, Lib.hid (fun j hj => absurd hj (by omega)), Lib.hid rfl⟩
  case round =>
    obtain ⟨k, q, hk, rfl, HS, hwr⟩ := hrel
    by_cases hlt : k < C.length
    · have d1 : decide ((k : Int) < (C.length : Int)) = true := by simp; omega
      have i1 : (k : Int) < (C.length : Int) := by omega
      have HXw : Hid (LsIn wr a C) := Lib.hid (by rw [hwr.out]; exact HX.out.next (below_drewN (Below.refl _ _) q))
      have HMw : Hid (NsIn wr m.a m.L) := Lib.hid (by rw [hwr.out]; exact ns_drewN HM.out q)
      have HGw : Hid (wr.cell? ⟨g, 0, none⟩ = some m.v) := Lib.hid (by rw [hwr.out]; exact cell_next HG.out (below_drewN (Below.refl _ _) q))
      rcases HXw.out with h0 | ⟨b1, o1, rfl, hb1, hc1⟩
      · rw [h0] at hlt; simp at hlt
      have c1 := (hc1 k hlt).1
      have HN1 := Lib.hid (hc1 k hlt).2
      have HL1 := Lib.hid (HCL.out k hlt)
      have HY : Hid ((C.getD k Ls.zero).L = m.L → m.L ∈ mL C) := Lib.hid (fun h => mem_yes hlt h)
      have HSX : Hid ((C.getD k Ls.zero).L ≠ m.L → ∀ j, j < k + 1 → (C.getD j Ls.zero).L ≠ m.L) := Lib.hid (fun h j hj => by
          by_cases e : j = k
          · rw [e]; exact h
          · exact HS.out j (by omega))
      clear hc1 HXw
      generalize C.getD k Ls.zero = x at *
      have HSI := Lib.hid (has1_l x m g wr HN1.out HMw.out HL1.out HMM.out HGw.out)
      by_cases hxy : x.L = m.L
      · have HSY := Lib.hid (HY.out hxy)
        rw [show decide (x.L = m.L) = true by simp [hxy]] at HSI
        clear HSX hxy HY
        go_wp2_with fail
        refine HSI.out.mono ?_
        rintro e w' ⟨rfl, n, rfl⟩
        go_wp2_with fail
        go_ret
        exact ⟨k, rfl, by omega, by omega, ⟨fun _ => HSY.out, fun _ => by omega⟩, q + n, by rw [hwr.out]; exact drewN_drewN w q n⟩
      · have HSY := Lib.hid (HSX.out hxy)
        rw [show decide (x.L = m.L) = false by simp [hxy]] at HSI
        clear HSX hxy HY
        go_wp2_with fail
        refine HSI.out.mono ?_
        rintro e w' ⟨rfl, n, rfl⟩
        go_wp2_with fail
        go_roundw
        case rel => exact ⟨k + 1, q + n, by omega, by go_num, HSY, Lib.hid (by rw [hwr.out]; exact drewN_drewN w q n)⟩
        case measure => simp [intOf]; omega
    · have hkm : k = C.length := by omega
      have d1 : decide ((k : Int) < (C.length : Int)) = false := by simp; omega
      go_wp2_with fail
      go_ret
      have hno := mem_no (hkm ▸ HS.out)
      exact ⟨-1, rfl, by omega, by omega, ⟨fun h => by omega, fun h => absurd h hno⟩, q, hwr.out⟩
set_option maxRecDepth 20000 in
set_option maxHeartbeats 1600000 in
theorem containsF_l (a : Option Addr) (C : List Ls) (c : Nat) (m : Ls) (g : Nat) (w : World) (hx : LsIn w a C) (hm : NsIn w m.a m.L) (hl : C.length ≤ 1000000) (hcl : ∀ q, q < C.length → (C.getD q Ls.zero).L.length ≤ 1000000) (hml : m.L.length ≤ 1000000) (hg : w.cell? ⟨g, 0, none⟩ = some m.v) :
    Calls Try.prog 23 #[.slice a C.length c, .func (.func 24) #[] #[.pointer (some ⟨g, 0, none⟩)]] w fun e w' => e = .returned (.bool (decide (m.L ∈ mL C))) ∧ ∃ q, w' = w.drewN q := by
  have HI := Lib.hid (index_l a C c m g w hx hm hl hcl hml hg)
  clear hx hm hcl hml hg
  obtain ⟨R, hR⟩ : ∃ R, R = decide (m.L ∈ mL C) := ⟨_, rfl⟩
  rw [← hR]
  have HR := Lib.hid hR
  clear hR
  go_enter Try.func23, Try.ntmps23
  go_wp2_with fail
  refine HI.out.mono ?_
  rintro e w' ⟨r, rfl, h1, h2, h3, q, rfl⟩
  have e1 : R = decide (r ≥ 0) := by
    rw [HR.out]
    by_cases h : 0 ≤ r
    · simp [h, h3.1 h]
    · have : m.L ∉ mL C := fun g => h (h3.2 g)
      simp [h, this]
  clear HR h3 HI
  subst e1
  go_wp2_with fail
  go_ret
  exact ⟨rfl, q, rfl⟩
set_option maxRecDepth 20000 in
set_option maxHeartbeats 1600000 in
theorem has_l (a : Option Addr) (C : List Ls) (c : Nat) (m : Ls) (w : World) (hx : LsIn w a C) (hm : NsIn w m.a m.L) (hl : C.length ≤ 1000000) (hcl : ∀ q, q < C.length → (C.getD q Ls.zero).L.length ≤ 1000000) (hml : m.L.length ≤ 1000000) :
    Calls Try.prog 11 #[.slice a C.length c, m.v] w fun e w' => e = .returned (.bool (decide (m.L ∈ mL C))) ∧ Below w.heap.size w w' := by
  have HB : Hid (Below w.heap.size w (w.alloc (Obj.cells #[m.v] 23 (0, 0)))) := Lib.hid ((Below.refl _ _).alloc (Nat.le_refl _) _)
  have HCF := Lib.hid (containsF_l a C c m w.heap.size (w.alloc (Obj.cells #[m.v] 23 (0, 0))) (hx.next HB.out) (hm.next HB.out) hl hcl hml (by rw [World.cell?_alloc_mark]; rfl))
  clear hx hm hcl hml
  obtain ⟨R, hR⟩ : ∃ R, R = decide (m.L ∈ mL C) := ⟨_, rfl⟩
  rw [← hR] at HCF ⊢
  obtain ⟨W1, hW1⟩ : ∃ W1, W1 = w.alloc (Obj.cells #[m.v] 23 (0, 0)) := ⟨_, rfl⟩
  rw [← hW1] at HCF HB
  obtain ⟨ma, r, mc⟩ := m
  unfold Ls.v at hW1 ⊢
  dsimp only at hW1 ⊢
  clear hR
  go_enter Try.func11, Try.ntmps11
  go_wp2_with fail
  rw [← hW1]
  refine HCF.out.mono ?_
  rintro e w' ⟨rfl, q, rfl⟩
  go_wp2_with fail
  go_ret
  exact ⟨rfl, by rw [← hW1]; exact below_drewN HB.out q⟩
end Go.Proofs.Ythahhibenejgfaa
