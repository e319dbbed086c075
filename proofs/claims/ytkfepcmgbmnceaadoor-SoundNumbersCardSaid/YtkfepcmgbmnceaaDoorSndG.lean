import Derived.Test.YtkfepcmgbmnceaaDoorSndF
namespace Go.Proofs.YtkfepcmgbmnceaaDoor
open Go.RowKit ExprA SndA
namespace SndA
/-- a thread as it lies -/
structure Th where
  a : Option Addr
  L : List Ins
  c : Nat
def Th.zero : Th := ⟨none, [], 0⟩
/-- an instruction's words are there, and name at most one register -/
structure EIn (w : World) (i : Ins) : Prop where
  tin : TIn w i.a i.E
  len : i.E.length ≤ 100
  few : (kr i.k).without = true → Few i.E
theorem EIn.next {w w' : World} {i : Ins} (h : EIn w i) (hb : Below w.heap.size w w') : EIn w' i := ⟨h.tin.next hb, h.len, h.few⟩
structure ThIn (w : World) (t : Th) : Prop where
  lin : LIn w t.a t.L
  len : t.L.length ≤ 1000
  es : ∀ q, q < t.L.length → EIn w (t.L.getD q Ins.zero)
theorem ThIn.next {w w' : World} {t : Th} (h : ThIn w t) (hb : Below w.heap.size w w') : ThIn w' t := ⟨h.lin.next hb, h.len, fun q hq => (h.es q hq).next hb⟩
/-- the threads of a program -/
structure PrIn (w : World) (pa : Option Addr) (P : List Th) : Prop where
  ne : 0 < P.length
  len : P.length ≤ 1000
  cells : ∃ b o, pa = some ⟨b, o, none⟩ ∧ b < w.heap.size ∧ ∀ t, t < P.length → w.cell? ⟨b, o + t, none⟩ = some (.slice (P.getD t Th.zero).a (P.getD t Th.zero).L.length (P.getD t Th.zero).c)
  ths : ∀ t, t < P.length → ThIn w (P.getD t Th.zero)
theorem PrIn.next {w w' : World} {pa : Option Addr} {P : List Th} (h : PrIn w pa P) (hb : Below w.heap.size w w') : PrIn w' pa P := by
  obtain ⟨b, o, h1, h2, h3⟩ := h.cells
  exact ⟨h.ne, h.len, ⟨b, o, h1, Nat.lt_of_lt_of_le h2 hb.size, fun t ht => cell_next (h3 t ht) hb⟩, fun t ht => (h.ths t ht).next hb⟩
def okI (locs : Int) (L : List Ins) (q : Nat) : Bool :=
  instrB (L.getD q Ins.zero).k (L.getD q Ins.zero).m (L.getD q Ins.zero).m2 (L.getD q Ins.zero).r (L.getD q Ins.zero).l (L.getD q Ins.zero).n (L.getD q Ins.zero).E locs ((L.length : Int) - 1 - (q : Int))
def lineTo (locs : Int) (L : List Ins) : Nat → Bool
  | 0 => true
  | q + 1 => lineTo locs L q && okI locs L q
def formTo (locs : Int) (P : List Th) : Nat → Bool
  | 0 => true
  | t + 1 => formTo locs P t && lineTo locs (P.getD t Th.zero).L (P.getD t Th.zero).L.length
def formB (locs : Int) (P : List Th) : Bool := formTo locs P P.length
theorem line_bad {locs : Int} {L : List Ins} {q : Nat} (hq : q < L.length) (h : okI locs L q = false) : lineTo locs L L.length = false := by
  have h1 : lineTo locs L (q + 1) = false := by show (_ && okI locs L q) = false; rw [h]; simp
  have h2 : ∀ j, lineTo locs L (q + 1 + j) = false := by
    intro j
    induction j with
    | zero => exact h1
    | succ j ih => show (lineTo locs L (q + 1 + j) && _) = false; rw [ih]; rfl
  have := h2 (L.length - (q + 1))
  rwa [show q + 1 + (L.length - (q + 1)) = L.length by omega] at this
theorem form_bad {locs : Int} {P : List Th} {t : Nat} (ht : t < P.length) (h : lineTo locs (P.getD t Th.zero).L (P.getD t Th.zero).L.length = false) : formB locs P = false := by
  have h1 : formTo locs P (t + 1) = false := by show (_ && _) = false; rw [h]; simp
  have h2 : ∀ j, formTo locs P (t + 1 + j) = false := by
    intro j
    induction j with
    | zero => exact h1
    | succ j ih => show (formTo locs P (t + 1 + j) && _) = false; rw [ih]; rfl
  have := h2 (P.length - (t + 1))
  rwa [show t + 1 + (P.length - (t + 1)) = P.length by omega] at this
end SndA
set_option maxRecDepth 100000 in
set_option maxHeartbeats 16000000 in
theorem formed_any (locs : Int) (pa : Option Addr) (P : List Th) (c : Nat) (w : World) (h : PrIn w pa P) (hk : KTab w) (hl1 : 1 ≤ locs) (hl4 : locs ≤ 4) :
    Calls Tryd.prog 14 #[.agg #[.int .i64 locs, .slice pa P.length c]] w fun e w' => e = .returned (.bool (formB locs P)) ∧ Below w.heap.size w w' := by
  have HB0 := Lib.hid (fun o : Obj => (Below.refl w.heap.size w).alloc (Nat.le_refl _) o)
  have HI := Lib.hid (fun o : Obj => h.next (HB0.out o))
  have HK := Lib.hid (fun o : Obj => hk.next (HB0.out o))
  have hne : 0 < P.length := h.ne
  have hnei : (0 : Int) < (P.length : Int) := by omega
  have hne0 : (((P.length : Int)) == 0) = false := by rw [beq_eq_false_iff_ne]; omega
  have hPl : (P.length : Int) ≤ 1000 := by have := h.len; omega
  have hc0 : (w.alloc (.cells #[.int .i64 locs, .slice pa P.length c] 26 (0, 0))).cell? ⟨w.heap.size, 0, none⟩ = some (.int .i64 locs) := cell_of_row _ _ _ #[.int .i64 locs, .slice pa P.length c] 26 (0, 0) (heap_alloc_new _ _)
  have HC := Lib.hid hc0
  have hd1 : decide (locs < 1) = false := by simp; omega
  have hd2 : decide (4 < locs) = false := by simp; omega
  clear h hk hc0
  go_enter Tryd.func14, Tryd.ntmps14
  go_wp2_with fail
  have HI1 := Lib.hid (HI.out (.cells #[.int .i64 locs, .slice pa P.length c] 26 (0, 0)))
  have HK1 := Lib.hid (HK.out (.cells #[.int .i64 locs, .slice pa P.length c] 26 (0, 0)))
  have HB1 := Lib.hid (HB0.out (.cells #[.int .i64 locs, .slice pa P.length c] 26 (0, 0)))
  have hws : w.heap.size < (w.alloc (.cells #[.int .i64 locs, .slice pa P.length c] 26 (0, 0))).heap.size := by simp
  clear HI HK HB0
  generalize w.alloc (.cells #[.int .i64 locs, .slice pa P.length c] 26 (0, 0)) = w1 at *
  go_loopw [24] (fun x wr => ∃ t : Nat, t ≤ P.length ∧ x = .int .i64 t ∧ formTo locs P t = true ∧ Below w1.heap.size w1 wr) (fun x _ => P.length - (intOf x).toNat)
  case atStart => exact ⟨0, Nat.zero_le _, rfl, rfl, Below.refl _ _⟩
  case round =>
    obtain ⟨t, ht, rfl, hform, hbe⟩ := hrel
    have HF := Lib.hid hform
    clear hform
    have hti : (t : Int) ≤ 1000 := by omega
    by_cases hlt : t < P.length
    · have hdk : decide ((t : Int) < (P.length : Int)) = true := by simp; omega
      have hqi : (t : Int) < (P.length : Int) := by omega
      obtain ⟨b, o, hpa, hbl, hcc⟩ := (HI1.out.next hbe).cells
      subst hpa
      have hct := hcc t hlt
      have HTH := Lib.hid (HI1.out.ths t hlt)
      have HBAD := Lib.hid (fun h => form_bad (locs := locs) hlt h)
      have HS : Hid (formTo locs P (t + 1) = (formTo locs P t && lineTo locs (P.getD t Th.zero).L (P.getD t Th.zero).L.length)) := Lib.hid rfl
      have HB := Lib.hid hbe
      clear hcc hbe
      generalize P.getD t Th.zero = th at *
      obtain ⟨ta, L, tc⟩ := th
      dsimp only at hct HBAD HS
      have hLl : (L.length : Int) ≤ 1000 := by have := HTH.out.len; dsimp only at this; omega
      go_wp2_with fail
      go_loopw [30] (fun x w2 => ∃ q : Nat, q ≤ L.length ∧ x = .int .i64 q ∧ lineTo locs L q = true ∧ Below w1.heap.size w1 w2) (fun x _ => L.length - (intOf x).toNat)
      case atStart => exact ⟨0, Nat.zero_le _, rfl, rfl, HB.out⟩
      case round =>
        clear HB
        obtain ⟨q, hq, rfl, hline, hbe⟩ := hrel
        have HL := Lib.hid hline
        clear hline
        have hqi9 : (q : Int) ≤ 1000 := by omega
        have hsz := hbe.size
        by_cases hlq : q < L.length
        · have hdq : decide ((q : Int) < (L.length : Int)) = true := by simp; omega
          have hqq : (q : Int) < (L.length : Int) := by omega
          have hcb : wr.cell? ⟨w.heap.size, 0, none⟩ = some (.int .i64 locs) := cell_next HC.out hbe
          rcases HTH.out.lin.next hbe with h0 | ⟨b2, o2, hta, hbl2, hcc2⟩
          · dsimp only at h0; rw [h0] at hlq; simp at hlq
          · dsimp only at hta hcc2
            subst hta
            obtain ⟨c0, c1, c2, c3, c4, c5, c6⟩ := hcc2 q hlq
            have HE := Lib.hid ((HTH.out.es q hlq).next hbe)
            have HLB := Lib.hid (fun h => line_bad (locs := locs) hlq h)
            have HLS : Hid (lineTo locs L (q + 1) = (lineTo locs L q && okI locs L q)) := Lib.hid rfl
            have HOK : Hid (okI locs L q = instrB (L.getD q Ins.zero).k (L.getD q Ins.zero).m (L.getD q Ins.zero).m2 (L.getD q Ins.zero).r (L.getD q Ins.zero).l (L.getD q Ins.zero).n (L.getD q Ins.zero).E locs ((L.length : Int) - 1 - (q : Int))) := Lib.hid rfl
            have HB := Lib.hid hbe
            have HKR := Lib.hid (HK1.out.next hbe)
            clear hcc2 hbe
            dsimp only at HE
            generalize L.getD q Ins.zero = pp at *
            obtain ⟨pk, pm, pm2, pr, pl, pn, pa2, pE, pc⟩ := pp
            dsimp only at c0 c1 c2 c3 c4 c5 c6 HOK
            have HIN : Hid (∀ o3 : Obj, Calls Tryd.prog 10 #[.agg #[.int .i64 pk, .int .i64 pm, .int .i64 pm2, .int .i64 pr, .int .i64 pl, .slice pa2 pE.length pc, .int .i64 pn], .int .i64 locs, .int .i64 ((L.length : Int) - 1 - (q : Int))] (wr.alloc o3) fun e w' => e = .returned (.bool (okI locs L q)) ∧ Below (wr.alloc o3).heap.size (wr.alloc o3) w') := Lib.hid (fun o3 => by
              rw [HOK.out]
              exact instr_any pk pm pm2 pr pl pn pa2 pE pc locs _ (wr.alloc o3) (HE.out.tin.next ((Below.refl _ _).alloc (Nat.le_refl _) o3)) (HKR.out.next ((Below.refl _ _).alloc (Nat.le_refl _) o3)) HE.out.len HE.out.few (by omega) (by omega))
            clear HOK
            have hwr : w.heap.size < wr.heap.size := Nat.lt_of_lt_of_le hws hsz
            cases hok : okI locs L q with
            | false =>
              rw [hok] at HIN
              have HFB : Hid (formB locs P = false) := Lib.hid (HBAD.out (HLB.out hok))
              clear hok HLB HLS HBAD HS HF HL
              go_wp2_with fail
              refine (HIN.out _).mono ?_
              rintro e w3 ⟨rfl, hb3⟩
              go_wp2_with fail
              go_ret
              rw [HFB.out]
              exact ⟨rfl, below_next HB1.out (below_next (HB.out.alloc hsz _) hb3)⟩
            | true =>
              rw [hok] at HIN
              have HLN : Hid (lineTo locs L (q + 1) = true) := Lib.hid (by rw [HLS.out, HL.out, hok]; rfl)
              clear hok HLB HLS
              go_wp2_with fail
              refine (HIN.out _).mono ?_
              rintro e w3 ⟨rfl, hb3⟩
              have HB3 := Lib.hid (below_next (HB.out.alloc hsz _) hb3)
              clear hb3
              go_wp2_with fail
              go_roundw
              case rel => exact ⟨q + 1, hlq, by go_num, HLN.out, HB3.out⟩
              case measure => simp [intOf]; omega
        · have hdq : decide ((q : Int) < (L.length : Int)) = false := by simp; omega
          have hqq : ¬ (q : Int) < (L.length : Int) := by omega
          have HFN : Hid (formTo locs P (t + 1) = true) := Lib.hid (by
            rw [HS.out, HF.out]
            have e : q = L.length := by omega
            rw [← e, HL.out]; rfl)
          have HB := Lib.hid hbe
          clear hbe HS HF HL HBAD
          go_wp2_with fail
          go_roundw
          case rel => exact ⟨t + 1, hlt, by go_num, HFN.out, HB.out⟩
          case measure => simp [intOf]; omega
    · have hdk : decide ((t : Int) < (P.length : Int)) = false := by simp; omega
      have HFT : Hid (formB locs P = true) := Lib.hid (by
        have e : t = P.length := by omega
        unfold formB
        rw [← e]; exact HF.out)
      have HB := Lib.hid hbe
      clear hbe HF
      go_wp2_with fail
      go_ret
      rw [HFT.out]
      exact ⟨rfl, below_next HB1.out HB.out⟩
end Go.Proofs.YtkfepcmgbmnceaaDoor
