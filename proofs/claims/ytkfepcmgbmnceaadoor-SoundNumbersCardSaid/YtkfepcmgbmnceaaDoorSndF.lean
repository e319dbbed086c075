import Derived.Test.YtkfepcmgbmnceaaDoorSndE
namespace Go.Proofs.YtkfepcmgbmnceaaDoor
open Go.RowKit ExprA SndA
namespace SndA
/-- an instruction as it lies -/
structure Ins where
  k : Int
  m : Int
  m2 : Int
  r : Int
  l : Int
  n : Int
  a : Option Addr
  E : List (Int × Int)
  c : Nat
def Ins.zero : Ins := ⟨0, 0, 0, 0, 0, 0, none, [], 0⟩
/-- a row of instructions that stands somewhere -/
structure LCells (w : World) (b o : Nat) (i : Ins) : Prop where
  c0 : w.cell? ⟨b, o, none⟩ = some (.int .i64 i.k)
  c1 : w.cell? ⟨b, o + 1, none⟩ = some (.int .i64 i.m)
  c2 : w.cell? ⟨b, o + 2, none⟩ = some (.int .i64 i.m2)
  c3 : w.cell? ⟨b, o + 3, none⟩ = some (.int .i64 i.r)
  c4 : w.cell? ⟨b, o + 4, none⟩ = some (.int .i64 i.l)
  c5 : w.cell? ⟨b, o + 5, none⟩ = some (.slice i.a i.E.length i.c)
  c6 : w.cell? ⟨b, o + 6, none⟩ = some (.int .i64 i.n)
theorem LCells.next {w w' : World} {b o : Nat} {i : Ins} (h : LCells w b o i) (hb : Below w.heap.size w w') : LCells w' b o i :=
  ⟨cell_next h.c0 hb, cell_next h.c1 hb, cell_next h.c2 hb, cell_next h.c3 hb, cell_next h.c4 hb, cell_next h.c5 hb, cell_next h.c6 hb⟩
def LIn (w : World) (pa : Option Addr) (L : List Ins) : Prop :=
  L = [] ∨ ∃ b o, pa = some ⟨b, o, none⟩ ∧ b < w.heap.size ∧ ∀ q, q < L.length → LCells w b (o + q * 7) (L.getD q Ins.zero)
theorem LIn.next {w w' : World} {pa : Option Addr} {L : List Ins} (h : LIn w pa L) (hb : Below w.heap.size w w') : LIn w' pa L := by
  rcases h with h | ⟨b, o, h1, h2, h3⟩
  · exact .inl h
  · exact .inr ⟨b, o, h1, Nat.lt_of_lt_of_le h2 hb.size, fun q hq => (h3 q hq).next hb⟩
def evsTo (L : List Ins) : Nat → Nat
  | 0 => 0
  | q + 1 => evsTo L q + (kr (L.getD q Ins.zero).k).events
theorem evsTo_le (L : List Ins) (q : Nat) : evsTo L q ≤ 2 * q := by
  induction q with
  | zero => exact Nat.le_refl _
  | succ q ih =>
    have := (kr_ok (L.getD q Ins.zero).k).2.2.2
    show evsTo L q + _ ≤ _
    omega
def pathsTo (L : List Ins) : Nat → Nat
  | 0 => 1
  | q + 1 => if (L.getD q Ins.zero).k = 6 then min (2 * pathsTo L q) 1000000 else pathsTo L q
theorem pathsTo_le (L : List Ins) (q : Nat) : pathsTo L q ≤ 1000000 := by
  induction q with
  | zero => show (1 : Nat) ≤ 1000000; decide
  | succ q ih =>
    show (if _ then _ else _) ≤ _
    split
    · exact Nat.min_le_right _ _
    · exact ih
theorem run_field7 (x0 x1 x2 x3 x4 x5 x6 x7 : Value) (w : World) : (Instr.field 45 (.agg #[x0, x1, x2, x3, x4, x5, x6, x7]) 7).run Tryd.prog w = .ok x7 w := by kernel_rfl
end SndA
set_option maxRecDepth 100000 in
set_option maxHeartbeats 8000000 in
theorem events_any (a : Option Addr) (L : List Ins) (c : Nat) (w : World) (h : LIn w a L) (hk : KTab w) (hL : L.length ≤ 1000) :
    Calls Tryd.prog 11 #[.slice a L.length c] w fun e w' => e = .returned (.int .i64 (evsTo L L.length : Nat)) ∧ Below w.heap.size w w' := by
  have HI := Lib.hid h
  have HK := Lib.hid hk
  clear h hk
  go_enter Tryd.func11, Tryd.ntmps11
  go_wp2_with fail
  go_loopw [3, 8] (fun v x wr => ∃ q : Nat, q ≤ L.length ∧ x = .int .i64 q ∧ v = .int .i64 (evsTo L q : Nat) ∧ Below w.heap.size w wr) (fun _ x _ => L.length - (intOf x).toNat)
  case atStart => exact ⟨0, Nat.zero_le _, rfl, rfl, Below.refl _ _⟩
  case round =>
    obtain ⟨q, hq, rfl, rfl, hbe⟩ := hrel
    have hsz := hbe.size
    have hqi9 : (q : Int) ≤ 1000 := by omega
    have hev := evsTo_le L q
    by_cases hlt : q < L.length
    · have hdk : decide ((q : Int) < (L.length : Int)) = true := by simp; omega
      have hqi : (q : Int) < (L.length : Int) := by omega
      rcases HI.out.next hbe with h0 | ⟨b, o, rfl, hbl, hcc⟩
      · rw [h0] at hlt; simp at hlt
      · obtain ⟨c0, c1, c2, c3, c4, c5, c6⟩ := hcc q hlt
        clear hcc
        have HS : Hid (evsTo L (q + 1) = evsTo L q + (kr (L.getD q Ins.zero).k).events) := Lib.hid rfl
        have hkv := (kr_ok (L.getD q Ins.zero).k).2.2.2
        have HB := Lib.hid hbe
        clear hbe
        have HO0 := Lib.hid (fun o2 => of_any (L.getD q Ins.zero).k (wr.alloc o2) ((HK.out.next HB.out).next ((Below.refl _ _).alloc (Nat.le_refl _) o2)))
        generalize L.getD q Ins.zero = pp at *
        obtain ⟨pk, pm, pm2, pr, pl, pn, pa, pE, pc⟩ := pp
        dsimp only at c0 c1 c2 c3 c4 c5 c6 HS hkv HO0
        generalize kr pk = κ at *
        obtain ⟨md, md2, rg, lc, nb, wd, wo, ev⟩ := κ
        dsimp only at HS hkv
        have HO : Hid (∀ o2 : Obj, Calls Tryd.prog 16 #[.int .i64 pk] (wr.alloc o2) fun e w' => e = .returned (.agg #[.int .i64 (md : Int), .int .i64 (md2 : Int), .bool rg, .bool lc, .bool nb, .int .i64 (wd : Int), .bool wo, .int .i64 (ev : Int)]) ∧ Below (wr.alloc o2).heap.size (wr.alloc o2) w') := HO0
        clear HO0
        have he2 : (ev : Int) ≤ 2 := by omega
        generalize evsTo L q = sq at *
        have hs2 : (sq : Int) ≤ 2000 := by omega
        have HX := fun w => run_field7 (.int .i64 (md : Int)) (.int .i64 (md2 : Int)) (.bool rg) (.bool lc) (.bool nb) (.int .i64 (wd : Int)) (.bool wo) (.int .i64 (ev : Int)) w
        go_wp2_with fail
        refine (HO.out _).mono ?_
        rintro e w3 ⟨rfl, hb3⟩
        have HB3 := Lib.hid (below_next (HB.out.alloc hsz _) hb3)
        clear hb3
        go_wp2_with fail
        go_roundw
        case rel => exact ⟨q + 1, hlt, by go_num, by rw [HS.out]; go_num, HB3.out⟩
        case measure => simp [intOf]; omega
    · have hdk : decide ((q : Int) < (L.length : Int)) = false := by simp; omega
      have e : q = L.length := by omega
      have HE : Hid (evsTo L L.length = evsTo L q) := Lib.hid (by rw [e])
      have HB := Lib.hid hbe
      clear e hbe hev
      generalize evsTo L q = sq at *
      go_wp2_with fail
      go_ret
      rw [HE.out]
      exact ⟨rfl, HB.out⟩
set_option maxRecDepth 100000 in
set_option maxHeartbeats 8000000 in
theorem paths_any (a : Option Addr) (L : List Ins) (c : Nat) (w : World) (h : LIn w a L) (hL : L.length ≤ 1000) :
    Calls Tryd.prog 12 #[.slice a L.length c] w fun e w' => e = .returned (.int .i64 (pathsTo L L.length : Nat)) ∧ Below w.heap.size w w' := by
  have HI := Lib.hid h
  clear h
  go_enter Tryd.func12, Tryd.ntmps12
  go_wp2_with fail
  go_loopw [3, 8] (fun v x wr => ∃ q : Nat, q ≤ L.length ∧ x = .int .i64 q ∧ v = .int .i64 (pathsTo L q : Nat) ∧ Below w.heap.size w wr) (fun _ x _ => L.length - (intOf x).toNat)
  case atStart => exact ⟨0, Nat.zero_le _, rfl, rfl, Below.refl _ _⟩
  case round =>
    obtain ⟨q, hq, rfl, rfl, hbe⟩ := hrel
    have hsz := hbe.size
    have hqi9 : (q : Int) ≤ 1000 := by omega
    have hpa := pathsTo_le L q
    by_cases hlt : q < L.length
    · have hdk : decide ((q : Int) < (L.length : Int)) = true := by simp; omega
      have hqi : (q : Int) < (L.length : Int) := by omega
      rcases HI.out.next hbe with h0 | ⟨b, o, rfl, hbl, hcc⟩
      · rw [h0] at hlt; simp at hlt
      · obtain ⟨c0, c1, c2, c3, c4, c5, c6⟩ := hcc q hlt
        clear hcc
        have HS : Hid (pathsTo L (q + 1) = if (L.getD q Ins.zero).k = 6 then min (2 * pathsTo L q) 1000000 else pathsTo L q) := Lib.hid rfl
        have HB := Lib.hid hbe
        clear hbe
        generalize L.getD q Ins.zero = pp at *
        obtain ⟨pk, pm, pm2, pr, pl, pn, pa, pE, pc⟩ := pp
        dsimp only at c0 c1 c2 c3 c4 c5 c6 HS
        generalize pathsTo L q = sq at *
        have hs2 : (sq : Int) ≤ 1000000 := by omega
        clear hpa
        by_cases h6 : pk = 6
        · subst h6
          have HM : Hid ((min (2 * sq) 1000000 : Nat) = (min (2 * (sq : Int)) 1000000).toNat) := Lib.hid (by omega)
          have HM2 : Hid (((min (2 * sq) 1000000 : Nat) : Int) = min (2 * (sq : Int)) 1000000) := Lib.hid (by omega)
          have HS2 : Hid (pathsTo L (q + 1) = min (2 * sq) 1000000) := Lib.hid (by rw [HS.out]; rfl)
          clear HS HM
          go_wp2_with fail
          go_roundw
          case rel =>
            refine ⟨q + 1, hlt, by go_num, ?_, HB.out.alloc hsz _⟩
            rw [HS2.out, HM2.out]
            try rfl
          case measure => simp [intOf]; omega
        · have HS2 : Hid (pathsTo L (q + 1) = sq) := Lib.hid (by rw [HS.out]; exact if_neg h6)
          have h6b : (pk == 6) = false := by rw [beq_eq_false_iff_ne]; exact h6
          clear HS
          go_wp2_with fail
          go_roundw
          case rel => exact ⟨q + 1, hlt, by go_num, by rw [HS2.out], HB.out.alloc hsz _⟩
          case measure => simp [intOf]; omega
    · have hdk : decide ((q : Int) < (L.length : Int)) = false := by simp; omega
      have e : q = L.length := by omega
      have HE : Hid (pathsTo L L.length = pathsTo L q) := Lib.hid (by rw [e])
      have HB := Lib.hid hbe
      clear e hbe hpa
      generalize pathsTo L q = sq at *
      go_wp2_with fail
      go_ret
      rw [HE.out]
      exact ⟨rfl, HB.out⟩
end Go.Proofs.YtkfepcmgbmnceaaDoor
