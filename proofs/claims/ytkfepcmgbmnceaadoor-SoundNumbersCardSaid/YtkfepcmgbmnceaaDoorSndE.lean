import Derived.Test.YtkfepcmgbmnceaaDoorSndD
namespace Go.Proofs.YtkfepcmgbmnceaaDoor
open Go.RowKit ExprA SndA
namespace SndA
theorem kr_ok (k : Int) : ((kr k).modes = 0 ∨ (kr k).modes = 1 ∨ (kr k).modes = 3 ∨ (kr k).modes = 5 ∨ (kr k).modes = 30) ∧ ((kr k).modes2 = 0 ∨ (kr k).modes2 = 1 ∨ (kr k).modes2 = 3 ∨ (kr k).modes2 = 5 ∨ (kr k).modes2 = 30) ∧ (kr k).words ≤ 9 ∧ (kr k).events ≤ 2 := by
  unfold kr
  split
  · simp
  · split
    · simp
    · split
      · simp
      · split
        · simp
        · split
          · simp
          · split
            · simp
            · simp
def locTop (locs : Int) : Int := max locs 0 - 1
/-- an instruction that may be -/
def instrB (k m m2 r l n : Int) (E : List (Int × Int)) (locs left : Int) : Bool :=
  amongB m (kr k).modes && (amongB m2 (kr k).modes2 && (upToB r (kr k).reg 7 && (upToB l (kr k).loc (locTop locs) && (upToB n (kr k).number left && exprB (kr k).words (kr k).without r E))))
end SndA
set_option maxRecDepth 100000 in
set_option maxHeartbeats 16000000 in
theorem instr_any (k m m2 r l n : Int) (a : Option Addr) (E : List (Int × Int)) (c : Nat) (locs left : Int) (w : World) (h : TIn w a E) (hk : KTab w) (hE : E.length ≤ 100) (hf : (kr k).without = true → Few E) (hl0 : 0 ≤ locs) (hl1 : locs ≤ 1000) :
    Calls Tryd.prog 10 #[.agg #[.int .i64 k, .int .i64 m, .int .i64 m2, .int .i64 r, .int .i64 l, .slice a E.length c, .int .i64 n], .int .i64 locs, .int .i64 left] w fun e w' => e = .returned (.bool (instrB k m m2 r l n E locs left)) ∧ Below w.heap.size w w' := by
  have HI := Lib.hid h
  have HF := Lib.hid hf
  obtain ⟨hm1, hm2, hwd, _⟩ := kr_ok k
  have hlt : locTop locs = locs - 1 := by unfold locTop; omega
  have hmx : max locs 0 = locs := by omega
  have hr : instrB k m m2 r l n E locs left = (amongB m (kr k).modes && (amongB m2 (kr k).modes2 && (upToB r (kr k).reg 7 && (upToB l (kr k).loc (locs - 1) && (upToB n (kr k).number left && exprB (kr k).words (kr k).without r E))))) := by unfold instrB; rw [hlt]
  rw [hr]
  have HO0 := Lib.hid (fun o => of_any k (w.alloc o) (hk.next ((Below.refl _ _).alloc (Nat.le_refl _) o)))
  clear h hf hr hlt hk
  generalize kr k = κ at *
  obtain ⟨md, md2, rg, lc, nb, wd, wo, ev⟩ := κ
  dsimp only at hm1 hm2 hwd ⊢
  have HO : Hid (∀ o : Obj, Calls Tryd.prog 16 #[.int .i64 k] (w.alloc o) fun e w' => e = .returned (.agg #[.int .i64 (md : Int), .int .i64 (md2 : Int), .bool rg, .bool lc, .bool nb, .int .i64 (wd : Int), .bool wo, .int .i64 (ev : Int)]) ∧ Below (w.alloc o).heap.size (w.alloc o) w') := HO0
  clear HO0
  have HA1 := Lib.hid (fun w => among_any m md hm1 w)
  have HA2 := Lib.hid (fun w => among_any m2 md2 hm2 w)
  have HU1 := Lib.hid (fun w => upTo_any r 7 rg w)
  have HU2 := Lib.hid (fun w => upTo_any l (locs - 1) lc w)
  have HU3 := Lib.hid (fun w => upTo_any n left nb w)
  clear hm1 hm2
  generalize amongB m md = b1 at *
  generalize amongB m2 md2 = b2 at *
  generalize upToB r rg 7 = b3 at *
  generalize upToB l lc (locs - 1) = b4 at *
  generalize upToB n nb left = b5 at *
  go_enter Tryd.func10, Tryd.ntmps10
  go_wp2_with fail
  refine (HO.out _).mono ?_
  rintro e w1 ⟨rfl, hb1⟩
  have hlt1 : w.heap.size < w1.heap.size := by have := hb1.size; simp at this; omega
  have c0 : w1.cell? ⟨w.heap.size, 0, none⟩ = some (.int .i64 k) := (hb1.cell (p := ⟨w.heap.size, 0, none⟩) (by simp)).trans (cell_of_row _ _ _ #[.int .i64 k, .int .i64 m, .int .i64 m2, .int .i64 r, .int .i64 l, .slice a E.length c, .int .i64 n] 34 (0, 0) (heap_alloc_new _ _))
  have c1 : w1.cell? ⟨w.heap.size, 1, none⟩ = some (.int .i64 m) := (hb1.cell (p := ⟨w.heap.size, 1, none⟩) (by simp)).trans (cell_of_row _ _ _ #[.int .i64 k, .int .i64 m, .int .i64 m2, .int .i64 r, .int .i64 l, .slice a E.length c, .int .i64 n] 34 (0, 0) (heap_alloc_new _ _))
  have c2 : w1.cell? ⟨w.heap.size, 2, none⟩ = some (.int .i64 m2) := (hb1.cell (p := ⟨w.heap.size, 2, none⟩) (by simp)).trans (cell_of_row _ _ _ #[.int .i64 k, .int .i64 m, .int .i64 m2, .int .i64 r, .int .i64 l, .slice a E.length c, .int .i64 n] 34 (0, 0) (heap_alloc_new _ _))
  have c3 : w1.cell? ⟨w.heap.size, 3, none⟩ = some (.int .i64 r) := (hb1.cell (p := ⟨w.heap.size, 3, none⟩) (by simp)).trans (cell_of_row _ _ _ #[.int .i64 k, .int .i64 m, .int .i64 m2, .int .i64 r, .int .i64 l, .slice a E.length c, .int .i64 n] 34 (0, 0) (heap_alloc_new _ _))
  have c4 : w1.cell? ⟨w.heap.size, 4, none⟩ = some (.int .i64 l) := (hb1.cell (p := ⟨w.heap.size, 4, none⟩) (by simp)).trans (cell_of_row _ _ _ #[.int .i64 k, .int .i64 m, .int .i64 m2, .int .i64 r, .int .i64 l, .slice a E.length c, .int .i64 n] 34 (0, 0) (heap_alloc_new _ _))
  have c5 : w1.cell? ⟨w.heap.size, 5, none⟩ = some (.slice a E.length c) := (hb1.cell (p := ⟨w.heap.size, 5, none⟩) (by simp)).trans (cell_of_row _ _ _ #[.int .i64 k, .int .i64 m, .int .i64 m2, .int .i64 r, .int .i64 l, .slice a E.length c, .int .i64 n] 34 (0, 0) (heap_alloc_new _ _))
  have c6 : w1.cell? ⟨w.heap.size, 6, none⟩ = some (.int .i64 n) := (hb1.cell (p := ⟨w.heap.size, 6, none⟩) (by simp)).trans (cell_of_row _ _ _ #[.int .i64 k, .int .i64 m, .int .i64 m2, .int .i64 r, .int .i64 l, .slice a E.length c, .int .i64 n] 34 (0, 0) (heap_alloc_new _ _))
  have HB1 := Lib.hid (below_next ((Below.refl _ _).alloc (Nat.le_refl _) (.cells #[.int .i64 k, .int .i64 m, .int .i64 m2, .int .i64 r, .int .i64 l, .slice a E.length c, .int .i64 n] 34 (0, 0))) hb1)
  have HTI := Lib.hid (HI.out.next HB1.out)
  clear hb1 HO HI
  have HB2 := fun o : Obj => Lib.hid (HB1.out.alloc HB1.out.size o)
  have HT2 := fun o : Obj => Lib.hid (HTI.out.next ((Below.refl w1.heap.size w1).alloc (Nat.le_refl _) o))
  clear HB1 HTI
  go_wp2_with fail
  refine (HA1.out _).mono ?_
  rintro e w2 ⟨rfl, rfl⟩
  cases b1 with
  | false =>
    go_wp2_with fail
    go_ret
    exact ⟨rfl, (HB2 _).out⟩
  | true =>
    go_wp2_with fail
    refine (HA2.out _).mono ?_
    rintro e w2 ⟨rfl, rfl⟩
    cases b2 with
    | false =>
      go_wp2_with fail
      go_ret
      exact ⟨rfl, (HB2 _).out⟩
    | true =>
      go_wp2_with fail
      refine (HU1.out _).mono ?_
      rintro e w2 ⟨rfl, rfl⟩
      cases b3 with
      | false =>
        go_wp2_with fail
        go_ret
        exact ⟨rfl, (HB2 _).out⟩
      | true =>
        go_wp2_with fail
        refine (HU2.out _).mono ?_
        rintro e w2 ⟨rfl, rfl⟩
        cases b4 with
        | false =>
          go_wp2_with fail
          go_ret
          exact ⟨rfl, (HB2 _).out⟩
        | true =>
          go_wp2_with fail
          refine (HU3.out _).mono ?_
          rintro e w2 ⟨rfl, rfl⟩
          cases b5 with
          | false =>
            go_wp2_with fail
            go_ret
            exact ⟨rfl, (HB2 _).out⟩
          | true =>
            go_wp2_with fail
            refine (expr_any (md : Int) (md2 : Int) (ev : Int) rg lc nb wo wd k m m2 r l n a E c _ (HT2 _).out hwd hE HF.out).mono ?_
            rintro e w3 ⟨rfl, hb3⟩
            go_wp2_with fail
            go_ret
            exact ⟨rfl, below_next (HB2 _).out hb3⟩
end Go.Proofs.YtkfepcmgbmnceaaDoor
