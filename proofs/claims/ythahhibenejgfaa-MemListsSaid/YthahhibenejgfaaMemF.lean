/-
  The law MemOrder over what its parts do: it returns true whatever the lists. Conditions: the lists in memory, slices.SortFunc's contract, awake() true.
-/
import Derived.Test.YthahhibenejgfaaMemE
namespace Go.Proofs.Ythahhibenejgfaa
open Go.RowKit Mem
namespace Mem
theorem up_at {D : List Ls} {l : List (List Int)} (h : D.map Ls.L = l) (hu : UpL l) (i : Nat) (hi : i + 1 < D.length) : Lt (D.getD i Ls.zero).L (D.getD (i + 1) Ls.zero).L := by
  have h1 := hu i (by rw [← h, List.length_map]; exact hi)
  have e : ∀ j, j < D.length → l.getD j [] = (D.getD j Ls.zero).L := fun j hj => by
    rw [← h, List.getD_eq_getElem?_getD, List.getD_eq_getElem?_getD, List.getElem?_map, List.getElem?_eq_getElem hj]
    rfl
  rwa [e i (by omega), e (i + 1) hi] at h1
/-- what is in a sorted row is in the row -/
theorem mem_of {D S C : List Ls} (h : D.map Ls.L = Dd S S.length) (hp : S.Perm C) (L : List Int) : (∃ x, x ∈ D ∧ x.L = L) ↔ ∃ x, x ∈ C ∧ x.L = L := by
  have h1 : (∃ x, x ∈ D ∧ x.L = L) ↔ L ∈ Dd S S.length := by rw [← h, List.mem_map]
  rw [h1, Dd_mem]
  constructor
  · rintro ⟨i, hi, rfl⟩
    refine ⟨S.getD i Ls.zero, hp.mem_iff.1 ?_, rfl⟩
    rw [List.getD_eq_getElem?_getD, List.getElem?_eq_getElem hi]
    exact List.getElem_mem _
  · rintro ⟨x, hx, rfl⟩
    obtain ⟨i, hi, rfl⟩ := List.getElem_of_mem (hp.mem_iff.2 hx)
    exact ⟨i, hi, by rw [List.getD_eq_getElem?_getD, List.getElem?_eq_getElem hi]; rfl⟩
theorem getD_mem {C : List Ls} {i : Nat} (h : i < C.length) : C.getD i Ls.zero ∈ C := by
  rw [List.getD_eq_getElem?_getD, List.getElem?_eq_getElem h]
  exact List.getElem_mem _
theorem few_mem {C : List Ls} (h : Few C) {x : Ls} (hx : x ∈ C) : x.L.length ≤ 20 := by
  obtain ⟨i, hi, rfl⟩ := List.getElem_of_mem hx
  have := h.2 i hi
  rwa [List.getD_eq_getElem?_getD, List.getElem?_eq_getElem hi] at this
theorem few_of {D S C : List Ls} (h : D.map Ls.L = Dd S S.length) (hp : S.Perm C) (hf : Few C) {i : Nat} (hi : i < D.length) : (D.getD i Ls.zero).L.length ≤ 20 := by
  obtain ⟨x, hx, hL⟩ := (mem_of h hp (D.getD i Ls.zero).L).1 ⟨_, getD_mem hi, rfl⟩
  rw [← hL]
  exact few_mem hf hx
end Mem
set_option maxRecDepth 20000 in
set_option maxHeartbeats 6400000 in
theorem order_l (HS : SortC) (HN : SortN) (haw : ∀ w, Calls Try.prog 7 #[] w fun e w' => e = .returned (.bool true) ∧ Below w.heap.size w w') (a : Option Addr) (C : List Ls) (c : Nat) (w : World) (hin : LsIn w a C) (hcl : C.length ≤ maxLen) (hll : ∀ q, q < C.length → (C.getD q Ls.zero).L.length ≤ maxLen) (hc0 : a = none → C = [] ∧ c = 0) :
    Calls Try.prog 4 #[.slice a C.length c] w fun e w' => e = .returned (.bool true) ∧ Below w.heap.size w w' := by
  have HAW := Lib.hid haw
  have HFE := Lib.hid (few_l a C c w hin hcl hll)
  have HSO := Lib.hid (fun (h : Few C) => sort_l HS HN a C c w hin (by have := h.1; omega) (fun q hq => by have := h.2 q hq; omega) hc0)
  clear haw hin hll hc0
  go_enter Try.func4, Try.ntmps4
  go_wp2_with fail
  refine HFE.out.mono ?_
  rintro e w0 ⟨x, rfl, hx, rfl⟩
  cases x
  · go_wp2_with fail
    refine (HAW.out w).mono ?_
    rintro e w1 ⟨rfl, hb⟩
    have HB := Lib.hid hb
    clear hb
    go_wp2_with fail
    go_ret
    exact ⟨rfl, HB.out⟩
  · have hfw := hx rfl
    have HSO := Lib.hid (HSO.out hfw)
    have HFW := Lib.hid hfw
    have hC60 : C.length ≤ 60 := hfw.1
    clear hx hfw
    go_wp2_with fail
    refine HSO.out.mono ?_
    rintro e w1 ⟨D, a', c', S, rfl, hd, hd0, hdd, hp, hsr, hb1⟩
    have hSC : S.length = C.length := hp.length_eq
    have hDS : D.length ≤ S.length := by
      have := (Dd_len S S.length).1
      rw [← hdd, List.length_map] at this
      exact this
    have hDz : S.length = 0 ↔ D.length = 0 := by
      have h1 := (Dd_len S S.length).2
      rw [← hdd, List.length_map] at h1
      omega
    have HUP := Lib.hid (fun i hi => up_at hdd (Dd_up S hsr S.length (Nat.le_refl _)) i hi)
    have HLN := Lib.hid (fun i (hi : i < D.length) => few_of hdd hp HFW.out hi)
    have HD := Lib.hid hd
    have HB1 := Lib.hid hb1
    clear hd hd0 hdd hp hsr hb1 HSO HFE
    go_wp2_with fail
    go_loopw [4] (fun x wr => ∃ i : Nat, 1 ≤ i ∧ i ≤ D.length + 1 ∧ x = .int .i64 i ∧ Hid (Below w1.heap.size w1 wr)) (fun x _ => D.length + 1 - (intOf x).toNat)
    case atStart => exact ⟨1, by omega, by omega, rfl, Lib.hid (Below.refl _ _)⟩
    case round =>
      obtain ⟨i, hi1, hi2, rfl, HBW⟩ := hrel
      by_cases hlt : i < D.length
      · have d1 : decide ((i : Int) < (D.length : Int)) = true := by simp; omega
        have i1 : (i : Int) < (D.length : Int) := by omega
        have i2 : (0 : Int) ≤ (i : Int) - 1 := by omega
        have i3 : (i : Int) - 1 < (D.length : Int) := by omega
        have i4 : ((i : Int) - 1).toNat = i - 1 := by omega
        have i5 : IntKind.i64.wrap ((i : Int) - 1) = (i : Int) - 1 := IntWalk.i64_in _ (by omega)
        have HLT := Lib.hid (by
          have := HUP.out (i - 1) (by omega)
          rwa [show i - 1 + 1 = i by omega] at this : Lt (D.getD (i - 1) Ls.zero).L (D.getD i Ls.zero).L)
        rcases HD.out with h0 | ⟨b, o, rfl, hb, hc⟩
        · rw [h0] at hlt; simp at hlt
        have c0 := cell_next (hc (i - 1) (by omega)).1 HBW.out
        have c1 := cell_next (hc i hlt).1 HBW.out
        have HN0 := Lib.hid (hc (i - 1) (by omega)).2
        have HN1 := Lib.hid (hc i hlt).2
        clear hc
        have HLp := HLN.out (i - 1) (by omega)
        have HLm := HLN.out i hlt
        generalize D.getD (i - 1) Ls.zero = p at *
        generalize D.getD i Ls.zero = m at *
        obtain ⟨pa, l, pc⟩ := p
        obtain ⟨ma, r, mc⟩ := m
        unfold Ls.v at c0 c1
        dsimp only at c0 c1 HN0 HN1 HLT HLp HLm
        go_wp2_with fail
        go_quiet (fail)
        go_wp2_with fail
        have HBA : Hid (Below w1.heap.size w1 (wr.drewN nq)) := Lib.hid (below_drewN HBW.out nq)
        obtain ⟨W0, hW0⟩ : ∃ W0, W0 = wr.drewN nq := ⟨_, rfl⟩
        rw [← hW0] at HBA ⊢
        clear hW0 c0 c1 hb
        go_loopw [7] (fun x wq => ∃ k : Nat, k ≤ l.length ∧ k ≤ r.length ∧ x = .int .i64 k ∧ Hid (Same k l r) ∧ Hid (Below w1.heap.size w1 wq)) (fun x _ => l.length - (intOf x).toNat)
        case atStart => exact ⟨0, Nat.zero_le _, Nat.zero_le _, rfl, Lib.hid (fun j hj => absurd hj (by omega)), HBA⟩
        case round =>
          obtain ⟨k, hk1, hk2, rfl, HSM, HBQ⟩ := hrel
          have hnr : k ≠ r.length := fun e => lt_len k l r HSM.out hk1 e HLT.out
          have e1 : ((k : Int) == (r.length : Int)) = false := by simp; omega
          have hkr : k < r.length := by omega
          have d2 : decide ((k : Int) < (r.length : Int)) = true := by simp; omega
          have j2 : (k : Int) < (r.length : Int) := by omega
          by_cases h1 : k < l.length
          · have d3 : decide ((k : Int) < (l.length : Int)) = true := by simp; omega
            have j1 : (k : Int) < (l.length : Int) := by omega
            rcases HN0.out.next HBQ.out with h0 | ⟨b0, o0, rfl, _, hc0⟩
            · rw [h0] at h1; simp at h1
            rcases HN1.out.next HBQ.out with h0 | ⟨b1, o1, rfl, _, hc1⟩
            · rw [h0] at hkr; simp at hkr
            have c0 := hc0 k h1
            have c1 := hc1 k hkr
            have HNG := Lib.hid (lt_at k l r HSM.out h1 hkr HLT.out)
            have HKK : Hid (k + 1 ≤ l.length ∧ k + 1 ≤ r.length) := Lib.hid ⟨by omega, by omega⟩
            have HSX : Hid (l.getD k 0 = r.getD k 0 → Same (k + 1) l r) := Lib.hid (fun h j hj => by
              by_cases e : j = k
              · rw [e]; exact h
              · exact HSM.out j (by omega))
            clear hc0 hc1 HN0 HN1 HSM
            generalize l.getD k 0 = x at *
            generalize r.getD k 0 = y at *
            by_cases hxy : x = y
            · have HSY := Lib.hid (HSX.out hxy)
              subst hxy
              have d4 : (x == x) = true := by simp
              clear HSX HNG
              go_wp2_with fail
              go_quiet (fail)
              go_wp2_with fail
              go_roundw
              case rel => exact ⟨k + 1, HKK.out.1, HKK.out.2, by go_num, HSY, Lib.hid (below_drewN HBQ.out _)⟩
              case measure => have := HKK.out.1; simp [intOf]; omega
            · have d4 : (x == y) = false := by simp [hxy]
              have d5 : decide (x > y) = false := by have := HNG.out; simp; omega
              clear HSX HNG hxy
              go_wp2_with fail
              go_quiet (fail)
              go_wp2_with fail
              go_quiet (fail)
              go_wp2_with fail
              go_roundw
              case rel => exact ⟨i + 1, by omega, by omega, by go_num, Lib.hid (by first | exact below_drewN (below_drewN HBQ.out _) _ | exact below_drewN HBQ.out _)⟩
              case measure => simp [intOf]; omega
          · have d3 : decide ((k : Int) < (l.length : Int)) = false := by simp; omega
            clear HN0 HN1 HSM
            go_wp2_with fail
            go_quiet (fail)
            go_wp2_with fail
            go_quiet (fail)
            go_wp2_with fail
            go_roundw
            case rel => exact ⟨i + 1, by omega, by omega, by go_num, Lib.hid (by first | exact below_drewN (below_drewN HBQ.out _) _ | exact below_drewN HBQ.out _)⟩
            case measure => simp [intOf]; omega
      · have d1 : decide ((i : Int) < (D.length : Int)) = false := by simp; omega
        have d2 : decide ((D.length : Int) ≤ (C.length : Int)) = true := by simp; omega
        have d3 : ((C.length : Int) == 0) = ((D.length : Int) == 0) := by
          by_cases h : C.length = 0
          · have h2 : D.length = 0 := by omega
            rw [h, h2]
          · have h2 : D.length ≠ 0 := by omega
            rw [show ((C.length : Int) == 0) = false from beq_false_of_ne (by omega), show ((D.length : Int) == 0) = false from beq_false_of_ne (by omega)]
        have HD3 := Lib.hid d3
        clear d3
        have HBZ := Lib.hid (HB1.out.trans (HBW.out.mono HB1.out.size))
        go_wp2_with fail
        refine (HAW.out _).mono ?_
        rintro e w9 ⟨rfl, hb9⟩
        have HBF := Lib.hid (below_next HBZ.out hb9 HBZ.out.size)
        clear hb9
        go_wp2_with fail
        go_ret
        exact ⟨rfl, HBF.out⟩
end Go.Proofs.Ythahhibenejgfaa
