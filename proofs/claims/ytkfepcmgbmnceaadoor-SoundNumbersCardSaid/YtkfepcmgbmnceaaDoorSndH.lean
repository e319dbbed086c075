import Derived.Test.YtkfepcmgbmnceaaDoorSndG
namespace Go.Proofs.YtkfepcmgbmnceaaDoor
open Go.RowKit ExprA SndA
namespace SndA
def overB (t : Th) : Bool := decide (12 < t.L.length) || decide (64 < pathsTo t.L t.L.length)
def overTo (P : List Th) : Nat → Bool
  | 0 => false
  | t + 1 => overTo P t || overB (P.getD t Th.zero)
def evAll (locs : Int) (P : List Th) : Nat → Int
  | 0 => locs
  | t + 1 => evAll locs P t + (evsTo (P.getD t Th.zero).L (P.getD t Th.zero).L.length : Nat)
def bigB (locs : Int) (P : List Th) : Bool := overTo P P.length || (decide (4 < P.length) || decide (40 < evAll locs P P.length))
theorem over_bad {P : List Th} {t : Nat} (ht : t < P.length) (h : overB (P.getD t Th.zero) = true) : overTo P P.length = true := by
  have h1 : overTo P (t + 1) = true := by show (_ || overB (P.getD t Th.zero)) = true; rw [h]; simp
  have h2 : ∀ j, overTo P (t + 1 + j) = true := by
    intro j
    induction j with
    | zero => exact h1
    | succ j ih => show (overTo P (t + 1 + j) || _) = true; rw [ih]; rfl
  have := h2 (P.length - (t + 1))
  rwa [show t + 1 + (P.length - (t + 1)) = P.length by omega] at this
def errB (locs : Int) (P : List Th) : Int := if formB locs P then (if bigB locs P then 4 else 0) else 3
end SndA
set_option maxRecDepth 100000 in
set_option maxHeartbeats 16000000 in
theorem big_any (locs : Int) (pa : Option Addr) (P : List Th) (c : Nat) (w : World) (h : PrIn w pa P) (hk : KTab w) (hl1 : 1 ≤ locs) (hl4 : locs ≤ 4) :
    Calls Tryd.prog 15 #[.agg #[.int .i64 locs, .slice pa P.length c]] w fun e w' => e = .returned (.bool (bigB locs P)) ∧ Below w.heap.size w w' := by
  have HB0 := Lib.hid (fun o : Obj => (Below.refl w.heap.size w).alloc (Nat.le_refl _) o)
  have HI := Lib.hid (fun o : Obj => h.next (HB0.out o))
  have HK := Lib.hid (fun o : Obj => hk.next (HB0.out o))
  have hPl : (P.length : Int) ≤ 1000 := by have := h.len; omega
  have hc1 : (w.alloc (.cells #[.int .i64 locs, .slice pa P.length c] 26 (0, 0))).cell? ⟨w.heap.size, 1, none⟩ = some (.slice pa P.length c) := cell_of_row _ _ _ #[.int .i64 locs, .slice pa P.length c] 26 (0, 0) (heap_alloc_new _ _)
  have HC := Lib.hid hc1
  clear h hk hc1
  go_enter Tryd.func15, Tryd.ntmps15
  go_wp2_with fail
  have HI1 := Lib.hid (HI.out (.cells #[.int .i64 locs, .slice pa P.length c] 26 (0, 0)))
  have HK1 := Lib.hid (HK.out (.cells #[.int .i64 locs, .slice pa P.length c] 26 (0, 0)))
  have HB1 := Lib.hid (HB0.out (.cells #[.int .i64 locs, .slice pa P.length c] 26 (0, 0)))
  have hws : w.heap.size < (w.alloc (.cells #[.int .i64 locs, .slice pa P.length c] 26 (0, 0))).heap.size := by simp
  clear HI HK HB0
  generalize w.alloc (.cells #[.int .i64 locs, .slice pa P.length c] 26 (0, 0)) = w1 at *
  go_loopw [3, 11] (fun v x wr => ∃ t : Nat, t ≤ P.length ∧ x = .int .i64 t ∧ v = .int .i64 (evAll locs P t) ∧ 0 ≤ evAll locs P t ∧ evAll locs P t ≤ 4 + 2000 * t ∧ overTo P t = false ∧ Below w1.heap.size w1 wr) (fun _ x _ => P.length - (intOf x).toNat)
  case atStart => exact ⟨0, Nat.zero_le _, rfl, rfl, by show 0 ≤ locs; omega, by show locs ≤ _; omega, rfl, Below.refl _ _⟩
  case round =>
    obtain ⟨t, ht, rfl, rfl, he0, he1, hov, hbe⟩ := hrel
    have HOV := Lib.hid hov
    clear hov
    have hti : (t : Int) ≤ 1000 := by omega
    have hsz := hbe.size
    by_cases hlt : t < P.length
    · have hdk : decide ((t : Int) < (P.length : Int)) = true := by simp; omega
      have hqi : (t : Int) < (P.length : Int) := by omega
      obtain ⟨b, o, hpa, hbl, hcc⟩ := (HI1.out.next hbe).cells
      subst hpa
      have hct := hcc t hlt
      have HTH := Lib.hid ((HI1.out.ths t hlt).next hbe)
      have HBAD := Lib.hid (fun h => over_bad hlt h)
      have HS : Hid (overTo P (t + 1) = (overTo P t || overB (P.getD t Th.zero))) := Lib.hid rfl
      have HE : Hid (evAll locs P (t + 1) = evAll locs P t + (evsTo (P.getD t Th.zero).L (P.getD t Th.zero).L.length : Nat)) := Lib.hid rfl
      have hel := evsTo_le (P.getD t Th.zero).L (P.getD t Th.zero).L.length
      have HB := Lib.hid hbe
      have HKR := Lib.hid (HK1.out.next hbe)
      clear hcc hbe
      generalize evAll locs P t = sv at *
      generalize P.getD t Th.zero = th at *
      obtain ⟨ta, L, tc⟩ := th
      dsimp only at hct HE hel
      have hLn : L.length ≤ 1000 := HTH.out.len
      have hLl : (L.length : Int) ≤ 1000 := by omega
      have HPA := Lib.hid (paths_any ta L tc wr HTH.out.lin hLn)
      have hpl := pathsTo_le L L.length
      have HOB : Hid (overB ⟨ta, L, tc⟩ = (decide (12 < L.length) || decide (64 < pathsTo L L.length))) := Lib.hid rfl
      have HEV := Lib.hid (fun w3 (hb : Below wr.heap.size wr w3) => events_any ta L tc w3 (HTH.out.lin.next hb) (HKR.out.next hb) hLn)
      generalize pathsTo L L.length = pt at *
      generalize evsTo L L.length = ee at *
      by_cases h12 : 12 < L.length
      · have hd : decide ((12 : Int) < (L.length : Int)) = true := by simp; omega
        have hdi : (12 : Int) < (L.length : Int) := by omega
        have HR : Hid (bigB locs P = true) := Lib.hid (by unfold bigB; rw [HBAD.out (by rw [HOB.out]; simp [h12])]; rfl)
        clear HOV HBAD HS HE HOB HPA HEV
        go_wp2_with fail
        go_ret
        rw [HR.out]
        exact ⟨rfl, below_next HB1.out HB.out⟩
      · have hd : decide ((12 : Int) < (L.length : Int)) = false := by simp; omega
        have hdi : ¬ (12 : Int) < (L.length : Int) := by omega
        by_cases h64 : 64 < pt
        · have hd6 : decide ((64 : Int) < (pt : Int)) = true := by simp; omega
          have hdi6 : (64 : Int) < (pt : Int) := by omega
          have HR : Hid (bigB locs P = true) := Lib.hid (by unfold bigB; rw [HBAD.out (by rw [HOB.out]; simp [h64])]; rfl)
          clear HOV HBAD HS HE HOB HEV
          go_wp2_with fail
          refine HPA.out.mono ?_
          rintro e w3 ⟨rfl, hb3⟩
          go_wp2_with fail
          go_ret
          rw [HR.out]
          exact ⟨rfl, below_next HB1.out (below_next HB.out hb3)⟩
        · have hd6 : decide ((64 : Int) < (pt : Int)) = false := by simp; omega
          have hdi6 : ¬ (64 : Int) < (pt : Int) := by omega
          have HN : Hid (overTo P (t + 1) = false) := Lib.hid (by rw [HS.out, HOV.out, HOB.out]; simp; omega)
          have hee : (ee : Int) ≤ 2000 := by omega
          clear HOV HBAD HS HOB
          go_wp2_with fail
          refine HPA.out.mono ?_
          rintro e w3 ⟨rfl, hb3⟩
          go_wp2_with fail
          refine (HEV.out w3 hb3).mono ?_
          rintro e w4 ⟨rfl, hb4⟩
          have HB4 := Lib.hid (below_next HB.out (below_next hb3 hb4))
          clear hb3 hb4
          go_wp2_with fail
          go_roundw
          case rel => exact ⟨t + 1, hlt, by go_num, by rw [HE.out], by rw [HE.out]; omega, by rw [HE.out]; omega, HN.out, HB4.out⟩
          case measure => simp [intOf]; omega
    · have hdk : decide ((t : Int) < (P.length : Int)) = false := by simp; omega
      have hqi : ¬ (t : Int) < (P.length : Int) := by omega
      have HBB : Hid (bigB locs P = (decide (4 < P.length) || decide (40 < evAll locs P t))) := Lib.hid (by
        have e : t = P.length := by omega
        unfold bigB
        rw [← e, HOV.out]; rfl)
      have hcb := cell_next HC.out hbe
      have HB := Lib.hid hbe
      clear hbe HOV
      generalize evAll locs P t = sv at *
      by_cases h4 : 4 < P.length
      · have hd : decide ((4 : Int) < (P.length : Int)) = true := by simp; omega
        have hdi : (4 : Int) < (P.length : Int) := by omega
        go_wp2_with fail
        go_ret
        rw [HBB.out]
        exact ⟨by simp [h4], below_next HB1.out HB.out⟩
      · have hd : decide ((4 : Int) < (P.length : Int)) = false := by simp; omega
        have hdi : ¬ (4 : Int) < (P.length : Int) := by omega
        go_wp2_with fail
        go_ret
        rw [HBB.out]
        exact ⟨by simp [h4], below_next HB1.out HB.out⟩
end Go.Proofs.YtkfepcmgbmnceaaDoor
