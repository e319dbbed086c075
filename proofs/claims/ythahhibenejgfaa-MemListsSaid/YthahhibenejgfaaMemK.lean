/-
  mem.In: all of some lists are in some others, by a sorted copy. Conditions: the lists in memory.
-/
import Derived.Test.YthahhibenejgfaaMemJ
namespace Go.Proofs.Ythahhibenejgfaa
open Go.RowKit Mem
namespace Mem
/-- every list of the first k is there -/
def AllIn (k : Nat) (C : List Ls) (M : List (List Int)) : Prop := ∀ j, j < k → (C.getD j Ls.zero).L ∈ M
theorem all_in {C : List Ls} {M : List (List Int)} (h : AllIn C.length C M) : true = decide (∀ L ∈ mL C, L ∈ M) := by
  have : ∀ L ∈ mL C, L ∈ M := fun L hL => by
    unfold mL at hL
    rw [List.mem_map] at hL
    obtain ⟨x, hx, rfl⟩ := hL
    obtain ⟨i, hi, rfl⟩ := List.getElem_of_mem hx
    have := h i hi
    rwa [List.getD_eq_getElem?_getD, List.getElem?_eq_getElem hi] at this
  symm
  rw [decide_eq_true_iff]
  exact this
theorem not_in {C : List Ls} {M : List (List Int)} {k : Nat} (hk : k < C.length) (h : (C.getD k Ls.zero).L ∉ M) : false = decide (∀ L ∈ mL C, L ∈ M) := by
  have : ¬ ∀ L ∈ mL C, L ∈ M := fun g => h (g _ (mem_yes hk rfl))
  symm
  rw [decide_eq_false_iff_not]
  exact this
theorem mL_perm {S D : List Ls} (h : S.Perm D) (L : List Int) : L ∈ mL S ↔ L ∈ mL D := (h.map Ls.L).mem_iff
end Mem
set_option maxRecDepth 20000 in
set_option maxHeartbeats 6400000 in
theorem in_l (HS : SortC) (HN : SortN) (a b : Option Addr) (C D : List Ls) (c d : Nat) (w : World) (hx : LsIn w a C) (hy : LsIn w b D) (hl : C.length ≤ 1000000) (hcl : ∀ q, q < C.length → (C.getD q Ls.zero).L.length ≤ 1000000)
    (hr : D.length ≤ 1000000) (hdl : ∀ q, q < D.length → (D.getD q Ls.zero).L.length ≤ 1000000) (hd0 : b = none → D = [] ∧ d = 0) :
    Calls Try.prog 13 #[.slice a C.length c, .slice b D.length d] w fun e w' => e = .returned (.bool (decide (∀ L ∈ mL C, L ∈ mL D))) ∧ Below w.heap.size w w' := by
  obtain ⟨R, hR⟩ : ∃ R, R = decide (∀ L ∈ mL C, L ∈ mL D) := ⟨_, rfl⟩
  rw [← hR]
  have HR := Lib.hid hR
  have HCL := Lib.hid (cloneL_l b D d w hy hr hd0)
  have HSO := Lib.hid (fun w1 v h ho => sort_own HS HN D w w1 b v hy hr hdl h ho)
  have HNM := Lib.hid (ns_mem hy)
  have HLL := Lib.hid hdl
  have HX := Lib.hid hx
  have HCC := Lib.hid hcl
  clear hx hy hcl hdl hd0 hR
  go_enter Try.func13, Try.ntmps13
  go_wp2_with fail
  refine HCL.out.mono ?_
  rintro e w1 ⟨v, rfl, ho, hb1⟩
  have HO := Lib.hid ho
  have HB1 := Lib.hid hb1
  clear ho hb1
  go_wp2_with fail
  refine (HSO.out w1 v HB1.out HO.out).mono ?_
  rintro e w2 ⟨rfl, S, hp, hsr, ho2, hb2⟩
  have hSn : S.length = D.length := hp.length_eq
  have hs1000 : S.length ≤ 1000000 := by omega
  have HB2 := Lib.hid hb2
  have HX2 := Lib.hid (HX.out.next hb2)
  have HNS := Lib.hid (fun x hx => (HNM.out x (hp.mem_iff.1 hx)).next hb2)
  have HLS := Lib.hid (fun q (hq : q < S.length) => (by
    obtain ⟨i, hi, e⟩ := List.getElem_of_mem (hp.mem_iff.1 (getD_mem hq))
    have := HLL.out i hi
    rwa [List.getD_eq_getElem?_getD, List.getElem?_eq_getElem hi, Option.getD_some, e] at this : (S.getD q Ls.zero).L.length ≤ 1000000))
  obtain ⟨va, vc, rfl, hva, hva0⟩ := own_ls ho2 hSn.symm HNS.out
  have HBS := Lib.hid (fun (m : Ls) n (hm : NsIn (w2.drewN n) m.a m.L) (hml : m.L.length ≤ 1000000) => bsearch_l va S vc m (w2.drewN n) (hva.next (below_drewN (Below.refl _ _) n)) hm hsr hs1000 HLS.out hml)
  have HMM := Lib.hid (fun L => mL_perm hp L)
  clear hp hsr hb2 ho2 HO hva hva0 HSO HCL HNM HLL HNS HLS HX
  rw [← hSn]
  clear hSn
  go_wp2_with fail
  go_loopw [16] (fun x wr => ∃ k q : Nat, k ≤ C.length ∧ x = .int .i64 k ∧ Hid (AllIn k C (mL S)) ∧ Hid (wr = w2.drewN q)) (fun x _ => C.length - (intOf x).toNat)
  case atStart => exact ⟨0, 0, Nat.zero_le _, rfl, Lib.hid (fun j hj => absurd hj (by omega)), Lib.hid rfl⟩
  case round =>
    obtain ⟨k, q, hk, rfl, HAL, hwr⟩ := hrel
    by_cases hlt : k < C.length
    · have d1 : decide ((k : Int) < (C.length : Int)) = true := by simp; omega
      have i1 : (k : Int) < (C.length : Int) := by omega
      have HXw : Hid (LsIn wr a C) := Lib.hid (by rw [hwr.out]; exact HX2.out.next (below_drewN (Below.refl _ _) q))
      rcases HXw.out with h0 | ⟨b1, o1, rfl, hb1, hc1⟩
      · rw [h0] at hlt; simp at hlt
      have c1 := (hc1 k hlt).1
      have HN1 := Lib.hid (hc1 k hlt).2
      have HL1 := Lib.hid (HCC.out k hlt)
      have HSX : Hid ((C.getD k Ls.zero).L ∈ mL S → AllIn (k + 1) C (mL S)) := Lib.hid (fun h j hj => by
          by_cases e : j = k
          · rw [e]; exact h
          · exact HAL.out j (by omega))
      have HNO : Hid ((C.getD k Ls.zero).L ∉ mL S → R = false) := Lib.hid (fun h => HR.out.trans (not_in hlt (fun g => h ((HMM.out _).2 g))).symm)
      clear hc1 HXw
      generalize C.getD k Ls.zero = x at *
      have HSI := Lib.hid (HBS.out x q (hwr.out ▸ HN1.out) HL1.out)
      rw [← hwr.out] at HSI
      obtain ⟨xa, l, xc⟩ := x
      unfold Ls.v at HSI c1
      dsimp only at HSI c1 HSX HNO
      by_cases hxy : l ∈ mL S
      · have HSY := Lib.hid (HSX.out hxy)
        rw [show decide (l ∈ mL S) = true by simp [hxy]] at HSI
        clear HSX HNO hxy HN1 HL1
        go_wp2_with fail
        refine HSI.out.mono ?_
        rintro e w' ⟨r, rfl, n, rfl⟩
        go_wp2_with fail
        go_roundw
        case rel => exact ⟨k + 1, q + n, by omega, by go_num, HSY, Lib.hid (by rw [hwr.out]; exact drewN_drewN w2 q n)⟩
        case measure => simp [intOf]; omega
      · have e1 := HNO.out hxy
        rw [show decide (l ∈ mL S) = false by simp [hxy]] at HSI
        clear HSX HNO hxy HN1 HL1 HR
        subst e1
        go_wp2_with fail
        refine HSI.out.mono ?_
        rintro e w' ⟨r, rfl, n, rfl⟩
        go_wp2_with fail
        go_ret
        exact ⟨rfl, by rw [hwr.out]; exact below_drewN (below_drewN HB2.out q) n⟩
    · have hkm : k = C.length := by omega
      have d1 : decide ((k : Int) < (C.length : Int)) = false := by simp; omega
      have e1 := HR.out.trans (all_in (fun j hj => (HMM.out _).1 (HAL.out j (by omega)))).symm
      clear HR
      subst e1
      go_wp2_with fail
      go_ret
      exact ⟨rfl, by rw [hwr.out]; exact below_drewN HB2.out q⟩
end Go.Proofs.Ythahhibenejgfaa
