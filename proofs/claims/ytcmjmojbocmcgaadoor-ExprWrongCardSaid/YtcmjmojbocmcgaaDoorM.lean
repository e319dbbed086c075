import Derived.Test.YtcmjmojbocmcgaaDoorL
import Derived.OwnWalk
import Derived.Laws.AppendOwn
import Derived.Deep.AppendLies
namespace Go.Proofs.YtcmjmojbocmcgaaDoor
open Go.RowKit ExprA
namespace ExprA
/-- what is answered where words are no expression -/
structure NoE (w : World) (a : Option Addr) (N : Nat) : Prop where
  check : ∀ c w', Below w.heap.size w w' → Calls Tryd.prog 11 #[.slice a N c] w' fun e w'' => e = .returned (.bool false) ∧ Below w'.heap.size w' w''
  text : ∀ c w', Below w.heap.size w w' → LibIn w' → Calls Tryd.prog 10 #[.slice a N c] w' fun e w'' => e = .returned (.string ⟨#[]⟩) ∧ Below w'.heap.size w' w''
  eval : ∀ c w' o, Below w.heap.size w w' → w'.heap.size = o → Calls Tryd.prog 14 #[.slice a N c, .slice (some ⟨o, 0, none⟩) 1 1] (w'.alloc (.cells #[.int .i64 5] 3 (0, 0))) fun e w'' => e = .returned (.int .i64 0) ∧ Below w'.heap.size w' w''
theorem noE {w : World} {a : Option Addr} {T : List (Int × Int)} {N : Nat} (h : TIn w a T) (hn : checkB T = false) (hN : T.length = N) : NoE w a N := by
  subst hN
  refine ⟨fun c w' hb => ?_, fun c w' hb hl => ?_, fun c w' o hb ho => ?_⟩
  · have := check_any a T c w' (h.next hb)
    rw [hn] at this; exact this
  · have := text_any a T c w' (h.next hb) hl.2.1
    rw [text_no hn] at this; exact this
  · subst ho
    have hb2 : Below w'.heap.size w' (w'.alloc (.cells #[.int .i64 5] 3 (0, 0))) := (Below.refl _ _).alloc (Nat.le_refl _) _
    have := eval_any a T c (some ⟨w'.heap.size, 0, none⟩) [5] 1 _ ((h.next hb).next hb2) (nin_new w' [5] 3)
    rw [eval_no hn] at this
    exact this.mono fun e w'' ⟨h1, h2⟩ => ⟨h1, below_next hb2 h2⟩
theorem run_idx0 (w : World) : (Instr.index 39 (.agg #[.string ⟨#[]⟩, .string ⟨#[32, 49]⟩, .string ⟨#[49, 32]⟩, .string ⟨#[48, 49]⟩, .string ⟨#[114, 56]⟩, .string ⟨#[49, 32, 32, 49, 32, 43]⟩, .string ⟨#[43, 32, 49, 32, 49]⟩, .string ⟨#[49, 32, 49, 32, 43, 32, 43]⟩]) (.int .i64 0)).run Tryd.prog w = .ok (.string ⟨#[]⟩) w := by kernel_rfl
theorem run_idx1 (w : World) : (Instr.index 39 (.agg #[.string ⟨#[]⟩, .string ⟨#[32, 49]⟩, .string ⟨#[49, 32]⟩, .string ⟨#[48, 49]⟩, .string ⟨#[114, 56]⟩, .string ⟨#[49, 32, 32, 49, 32, 43]⟩, .string ⟨#[43, 32, 49, 32, 49]⟩, .string ⟨#[49, 32, 49, 32, 43, 32, 43]⟩]) (.int .i64 1)).run Tryd.prog w = .ok (.string ⟨#[32, 49]⟩) w := by kernel_rfl
theorem run_idx2 (w : World) : (Instr.index 39 (.agg #[.string ⟨#[]⟩, .string ⟨#[32, 49]⟩, .string ⟨#[49, 32]⟩, .string ⟨#[48, 49]⟩, .string ⟨#[114, 56]⟩, .string ⟨#[49, 32, 32, 49, 32, 43]⟩, .string ⟨#[43, 32, 49, 32, 49]⟩, .string ⟨#[49, 32, 49, 32, 43, 32, 43]⟩]) (.int .i64 2)).run Tryd.prog w = .ok (.string ⟨#[49, 32]⟩) w := by kernel_rfl
theorem run_idx3 (w : World) : (Instr.index 39 (.agg #[.string ⟨#[]⟩, .string ⟨#[32, 49]⟩, .string ⟨#[49, 32]⟩, .string ⟨#[48, 49]⟩, .string ⟨#[114, 56]⟩, .string ⟨#[49, 32, 32, 49, 32, 43]⟩, .string ⟨#[43, 32, 49, 32, 49]⟩, .string ⟨#[49, 32, 49, 32, 43, 32, 43]⟩]) (.int .i64 3)).run Tryd.prog w = .ok (.string ⟨#[48, 49]⟩) w := by kernel_rfl
theorem run_idx4 (w : World) : (Instr.index 39 (.agg #[.string ⟨#[]⟩, .string ⟨#[32, 49]⟩, .string ⟨#[49, 32]⟩, .string ⟨#[48, 49]⟩, .string ⟨#[114, 56]⟩, .string ⟨#[49, 32, 32, 49, 32, 43]⟩, .string ⟨#[43, 32, 49, 32, 49]⟩, .string ⟨#[49, 32, 49, 32, 43, 32, 43]⟩]) (.int .i64 4)).run Tryd.prog w = .ok (.string ⟨#[114, 56]⟩) w := by kernel_rfl
theorem run_idx5 (w : World) : (Instr.index 39 (.agg #[.string ⟨#[]⟩, .string ⟨#[32, 49]⟩, .string ⟨#[49, 32]⟩, .string ⟨#[48, 49]⟩, .string ⟨#[114, 56]⟩, .string ⟨#[49, 32, 32, 49, 32, 43]⟩, .string ⟨#[43, 32, 49, 32, 49]⟩, .string ⟨#[49, 32, 49, 32, 43, 32, 43]⟩]) (.int .i64 5)).run Tryd.prog w = .ok (.string ⟨#[49, 32, 32, 49, 32, 43]⟩) w := by kernel_rfl
theorem run_idx6 (w : World) : (Instr.index 39 (.agg #[.string ⟨#[]⟩, .string ⟨#[32, 49]⟩, .string ⟨#[49, 32]⟩, .string ⟨#[48, 49]⟩, .string ⟨#[114, 56]⟩, .string ⟨#[49, 32, 32, 49, 32, 43]⟩, .string ⟨#[43, 32, 49, 32, 49]⟩, .string ⟨#[49, 32, 49, 32, 43, 32, 43]⟩]) (.int .i64 6)).run Tryd.prog w = .ok (.string ⟨#[43, 32, 49, 32, 49]⟩) w := by kernel_rfl
theorem run_idx7 (w : World) : (Instr.index 39 (.agg #[.string ⟨#[]⟩, .string ⟨#[32, 49]⟩, .string ⟨#[49, 32]⟩, .string ⟨#[48, 49]⟩, .string ⟨#[114, 56]⟩, .string ⟨#[49, 32, 32, 49, 32, 43]⟩, .string ⟨#[43, 32, 49, 32, 49]⟩, .string ⟨#[49, 32, 49, 32, 43, 32, 43]⟩]) (.int .i64 7)).run Tryd.prog w = .ok (.string ⟨#[49, 32, 49, 32, 43, 32, 43]⟩) w := by kernel_rfl
end ExprA
set_option maxRecDepth 100000 in
set_option maxHeartbeats 16000000 in
theorem wrong_any (how n : Int) (w : World) (h : LibIn w) :
    Calls Tryd.prog 5 #[.int .i64 how, .int .i64 n] w fun e w' => e = .returned (.bool true) ∧ Below w.heap.size w w' := by
  have HL := Lib.hid h
  clear h
  obtain ⟨i0, hi, hz0, hz1, hz2⟩ := info_parts info34
  have hk0 := Int.emod_nonneg n (show (4 : Int) ≠ 0 by decide)
  have hk4 := Int.emod_lt_of_pos n (show (0 : Int) < 4 by decide)
  have hh0 := Int.emod_nonneg how (show (8 : Int) ≠ 0 by decide)
  have hh8 := Int.emod_lt_of_pos how (show (0 : Int) < 8 by decide)
  have HP1 := Lib.hid (fun w => place_any n 4 w (by decide) (by decide))
  have HP2 := Lib.hid (fun w => place_any how 8 w (by decide) (by decide))
  rw [show ((4 : Nat) : Int) = 4 from rfl] at HP1
  rw [show ((8 : Nat) : Int) = 8 from rfl] at HP2
  obtain ⟨k, hk⟩ : ∃ k : Nat, n % 4 = (k : Int) := ⟨(n % 4).toNat, by omega⟩
  rw [hk] at HP1 hk0 hk4
  clear hk
  have hk3 : k ≤ 3 := by omega
  have hcase : how % 8 = 0 ∨ how % 8 = 1 ∨ how % 8 = 2 ∨ how % 8 = 3 ∨ how % 8 = 4 ∨ how % 8 = 5 ∨ how % 8 = 6 ∨ how % 8 = 7 := by omega
  have HCASE := Lib.hid hcase
  clear hcase hh0 hh8
  generalize how % 8 = ho at *
  have HOWN0 : Hid ((w.alloc (.cells #[.int .i64 1, .int .i64 1] 34 (0, 0))).ownsRow w.heap.size 34 2 (.slice (some ⟨w.heap.size, 0, none⟩) 1 1) 1 (icells (wrongT 0))) := Lib.hid (own_new w w.heap.size (Nat.le_refl _) (wrongT 0) (by decide))
  have HB0 : Hid (Below w.heap.size w (w.alloc (.cells #[.int .i64 1, .int .i64 1] 34 (0, 0)))) := Lib.hid ((Below.refl _ _).alloc (Nat.le_refl _) _)
  go_enter Tryd.func5, Tryd.ntmps5
  go_wp2_with fail
  refine (HP1.out _).mono ?_
  rintro e w1 ⟨rfl, rfl⟩
  go_wp2_with fail
  go_loopw [6, 7] (fun v x wr => ∃ q : Nat, q ≤ k ∧ x = .int .i64 q ∧ wr.ownsRow w.heap.size 34 2 v (1 + 2 * q) (icells (wrongT q)) ∧ Below w.heap.size w wr) (fun _ x _ => k - (intOf x).toNat)
  case atStart => exact ⟨0, Nat.zero_le _, rfl, HOWN0.out, HB0.out⟩
  case round =>
    obtain ⟨q, hq, rfl, hown, hbe⟩ := hrel
    have hsz := hbe.size
    obtain ⟨pa0, pc0, rfl⟩ := own_len hown
    have HOWN := Lib.hid hown
    clear hown
    have HB := Lib.hid hbe
    clear hbe
    by_cases hlt : q < k
    · have hqi : (q : Int) < (k : Int) := by omega
      have hdk : decide ((q : Int) < (k : Int)) = true := by simp; omega
      go_wp2_with (first | (at_builtin; refine wpList_append_own _ rfl (.tmp 20) (.tmp 24) 24 rfl w.heap.size 34 i0 (.agg #[.int .i64 0, .int .i64 0]) 2 16 Tryd.underlying24 hi hz0 hz1 hz2 rfl (by decide) _ _ _ rfl (HOWN.out.alloc _) ⟨wr.heap.size, 0, none⟩ 2 2 [.int .i64 2, .int .i64 (q : Int), .int .i64 3, .int .i64 1] rfl rfl (World.news_of_block (cs := #[.int .i64 2, .int .i64 (q : Int), .int .i64 3, .int .i64 1]) (t := 34) (fr := (0, 0)) (heap_alloc_new wr _)) (by simp [Value.oneCell']) (by unfold maxLen; omega) (by omega) (by simp; omega) ?_; intro v1 w4 hown1 hgrow1 hnil1; have HO4 := Lib.hid hown1; have HG4 := Lib.hid hgrow1; clear hown1 hgrow1 hnil1))
      go_roundw
      case rel =>
        refine ⟨q + 1, hlt, by go_num, ?_, ?_⟩
        · show _root_.Go.World.ownsRow _ _ _ _ _ _ (icells (wrongT q ++ [(2, (q : Int)), (3, 1)]))
          rw [icells_app]; exact HO4.out
        · exact (HB.out.alloc hsz _).grown HG4.out (by simp; omega) (fun j hj => (HOWN.out.lt j hj).1)
      case measure => simp [intOf]; omega
    · have hdk : decide ((q : Int) < (k : Int)) = false := by simp; omega
      have e : q = k := by omega
      subst e
      have HC1 := Lib.hid (check_any pa0 (wrongT q) pc0 wr (tin_own (by rw [wrongT_len]; exact HOWN.out)))
      rw [wrong_ok q hk3, wrongT_len] at HC1
      go_wp2_with fail
      refine HC1.out.mono ?_
      rintro e w2 ⟨rfl, hb2⟩
      have HO2 := Lib.hid (own_below HOWN.out hb2)
      have HB2 := Lib.hid (below_next HB.out hb2)
      clear hb2 HOWN HB HC1
      have hsz2 : w.heap.size ≤ w2.heap.size := HB2.out.size
      go_wp2_with fail
      refine (HP2.out _).mono ?_
      rintro e w3 ⟨rfl, rfl⟩
      have hno := fun h hh => wrong_no h q hk3 hh
      have HNO := Lib.hid hno
      clear hno hdk
      have hlen := wrongT_len q
      rcases HCASE.out with rfl | rfl | rfl | rfl | rfl | rfl | rfl | rfl
      · go_wp2_with (first | (at_builtin; refine wpList_append_own _ rfl (.tmp 41) (.tmp 43) 24 rfl w.heap.size 34 i0 (.agg #[.int .i64 0, .int .i64 0]) 2 16 Tryd.underlying24 hi hz0 hz1 hz2 rfl (by decide) _ _ _ rfl (HO2.out.alloc _) ⟨w2.heap.size, 0, none⟩ 1 1 [.int .i64 3, .int .i64 1] rfl rfl (World.news_of_block (cs := #[.int .i64 3, .int .i64 1]) (t := 34) (fr := (0, 0)) (heap_alloc_new w2 _)) (by simp [Value.oneCell']) (by unfold maxLen; omega) (by omega) (by simp; omega) ?_; intro v1 w4 hown1 hgrow1 hnil1; have HO4 := Lib.hid hown1; have HG4 := Lib.hid hgrow1; clear hown1 hgrow1 hnil1; obtain ⟨pa1, pc1, rfl⟩ := own_len HO4.out))
        have HT4 : Hid (NoE w4 pa1 (1 + 2 * q + 1)) := Lib.hid (by
          have h1 := HO4.out
          have h2 : (wrongTo 0 q).length = 1 + 2 * q + 1 := by show (wrongT q ++ [(3, 1)]).length = _; rw [List.length_append, hlen]; rfl
          have h3 : icells (wrongTo 0 q) = icells (wrongT q) ++ [.int .i64 3, .int .i64 1] := by show icells (wrongT q ++ [(3, 1)]) = _; rw [icells_app]; rfl
          exact noE (T := wrongTo 0 q) (tin_own (by rw [h2, h3]; exact h1)) (HNO.out 0 (by decide)) h2)
        have HL4 : Hid (LBel w w4) := Lib.hid ((LBel.mk HL.out (Below.refl _ _)).next ((HB2.out.alloc hsz2 _).grown HG4.out (by simp; omega) (fun j hj => (HO2.out.lt j hj).1)))
        clear HO4 HG4
        have HPW := Lib.hid (fun w hl => parse_wrong 0 (by decide) w hl)
        have HX := fun w => run_idx0 w
        unfold wrongS at HPW
        go_wp2_with fail
        refine (HP2.out _).mono ?_
        rintro e w5 ⟨rfl, rfl⟩
        go_wp2_with fail
        refine (HPW.out _ HL4.out.lib).mono ?_
        rintro e w6 ⟨rfl, hb6⟩
        go_wp2_with fail
        refine (HT4.out.check _ _ hb6).mono ?_
        rintro e w7 ⟨rfl, hb7⟩
        have hb67 := below_next hb6 hb7
        clear hb6 hb7
        go_wp2_with fail
        refine (HT4.out.text _ _ hb67 (HL4.out.next hb67).lib).mono ?_
        rintro e w8 ⟨rfl, hb8⟩
        have hb78 := below_next hb67 hb8
        clear hb67 hb8
        go_wp2_with fail
        refine (HT4.out.eval _ _ _ hb78 rfl).mono ?_
        rintro e w9 ⟨rfl, hb9⟩
        have hb89 := below_next hb78 hb9
        clear hb78 hb9
        go_wp2_with fail
        refine (awake_any _ (HL4.out.next hb89).lib).mono ?_
        rintro e w10 ⟨rfl, hb10⟩
        go_wp2_with fail
        go_ret
        exact ⟨rfl, ((HL4.out.next hb89).next hb10).bel⟩
      · go_wp2_with (first | (at_builtin; refine wpList_append_own _ rfl (.tmp 47) (.tmp 49) 24 rfl w.heap.size 34 i0 (.agg #[.int .i64 0, .int .i64 0]) 2 16 Tryd.underlying24 hi hz0 hz1 hz2 rfl (by decide) _ _ _ rfl (HO2.out.alloc _) ⟨w2.heap.size, 0, none⟩ 1 1 [.int .i64 1, .int .i64 0] rfl rfl (World.news_of_block (cs := #[.int .i64 1, .int .i64 0]) (t := 34) (fr := (0, 0)) (heap_alloc_new w2 _)) (by simp [Value.oneCell']) (by unfold maxLen; omega) (by omega) (by simp; omega) ?_; intro v1 w4 hown1 hgrow1 hnil1; have HO4 := Lib.hid hown1; have HG4 := Lib.hid hgrow1; clear hown1 hgrow1 hnil1; obtain ⟨pa1, pc1, rfl⟩ := own_len HO4.out))
        have HT4 : Hid (NoE w4 pa1 (1 + 2 * q + 1)) := Lib.hid (by
          have h1 := HO4.out
          have h2 : (wrongTo 1 q).length = 1 + 2 * q + 1 := by show (wrongT q ++ [(1, 0)]).length = _; rw [List.length_append, hlen]; rfl
          have h3 : icells (wrongTo 1 q) = icells (wrongT q) ++ [.int .i64 1, .int .i64 0] := by show icells (wrongT q ++ [(1, 0)]) = _; rw [icells_app]; rfl
          exact noE (T := wrongTo 1 q) (tin_own (by rw [h2, h3]; exact h1)) (HNO.out 1 (by decide)) h2)
        have HL4 : Hid (LBel w w4) := Lib.hid ((LBel.mk HL.out (Below.refl _ _)).next ((HB2.out.alloc hsz2 _).grown HG4.out (by simp; omega) (fun j hj => (HO2.out.lt j hj).1)))
        clear HO4 HG4
        have HPW := Lib.hid (fun w hl => parse_wrong 1 (by decide) w hl)
        have HX := fun w => run_idx1 w
        unfold wrongS at HPW
        go_wp2_with fail
        refine (HP2.out _).mono ?_
        rintro e w5 ⟨rfl, rfl⟩
        go_wp2_with fail
        refine (HPW.out _ HL4.out.lib).mono ?_
        rintro e w6 ⟨rfl, hb6⟩
        go_wp2_with fail
        refine (HT4.out.check _ _ hb6).mono ?_
        rintro e w7 ⟨rfl, hb7⟩
        have hb67 := below_next hb6 hb7
        clear hb6 hb7
        go_wp2_with fail
        refine (HT4.out.text _ _ hb67 (HL4.out.next hb67).lib).mono ?_
        rintro e w8 ⟨rfl, hb8⟩
        have hb78 := below_next hb67 hb8
        clear hb67 hb8
        go_wp2_with fail
        refine (HT4.out.eval _ _ _ hb78 rfl).mono ?_
        rintro e w9 ⟨rfl, hb9⟩
        have hb89 := below_next hb78 hb9
        clear hb78 hb9
        go_wp2_with fail
        refine (awake_any _ (HL4.out.next hb89).lib).mono ?_
        rintro e w10 ⟨rfl, hb10⟩
        go_wp2_with fail
        go_ret
        exact ⟨rfl, ((HL4.out.next hb89).next hb10).bel⟩
      · obtain ⟨g, c2, cur, hv, hg, hcur, HTI⟩ := own_at (T := wrongT q) (by rw [hlen]; exact HO2.out) (by rw [wrongT_cons]; simp)
        simp only [Value.slice.injEq] at hv
        obtain ⟨rfl, _, rfl⟩ := hv
        rw [wrongT_cons] at HTI
        have HTI := Lib.hid HTI
        have hc0 : w2.cell? ⟨g, 0, none⟩ = some (.int .i64 1) := by
          rcases HTI.out with h | ⟨b, o, e, hb, hc⟩
          · simp at h
          · simp only [Option.some.injEq, Addr.mk.injEq, and_true] at e
            obtain ⟨rfl, rfl⟩ := e
            exact (hc 0 (by simp)).1
        have hc1 : w2.cell? ⟨g, 1, none⟩ = some (.int .i64 1) := by
          rcases HTI.out with h | ⟨b, o, e, hb, hc⟩
          · simp at h
          · simp only [Option.some.injEq, Addr.mk.injEq, and_true] at e
            obtain ⟨rfl, rfl⟩ := e
            exact (hc 0 (by simp)).2
        have hf0 : w2.frozen? ⟨g, 0, none⟩ = false := frozen_of_row w2 g 0 _ _ hcur
        have hf1 : w2.frozen? ⟨g, 1, none⟩ = false := frozen_of_row w2 g 1 _ _ hcur
        have HT4 : Hid (NoE (w2.setCell ⟨g, 1, none⟩ (.int .i64 2147483648)) (some ⟨g, 0, none⟩) (1 + 2 * q)) := Lib.hid (by
          have h2 : (wrongTo 2 q).length = 1 + 2 * q := by
            have h5 := hlen; rw [wrongT_cons] at h5; exact h5
          exact noE (T := wrongTo 2 q) (tin_set HTI.out (by simp) ((set_other (by decide)).trans hc0) (World.cell?_setCell_same _ _ _ hc1) (fun j hj => set_other (by omega))) (HNO.out 2 (by decide)) h2)
        have HL4 : Hid (LBel w (w2.setCell ⟨g, 1, none⟩ (.int .i64 2147483648))) := Lib.hid ((LBel.mk HL.out (Below.refl _ _)).next ((HB2.out.setCell hg _)))
        clear hcur HTI
        clear hlen hsz2 HO2 HOWN0 HB0 hg hk0 hk4 hk3
        obtain ⟨N, hN⟩ : ∃ N, N = 1 + 2 * q := ⟨_, rfl⟩
        have hqi0 : (0 : Int) < (N : Int) := by omega
        rw [← hN] at HT4
        rw [← hN]
        clear hN
        have HPW := Lib.hid (fun w hl => parse_wrong 2 (by decide) w hl)
        have HX := fun w => run_idx2 w
        unfold wrongS at HPW
        go_wp2_with fail
        refine (HP2.out _).mono ?_
        rintro e w5 ⟨rfl, rfl⟩
        go_wp2_with fail
        refine (HPW.out _ HL4.out.lib).mono ?_
        rintro e w6 ⟨rfl, hb6⟩
        go_wp2_with fail
        refine (HT4.out.check _ _ hb6).mono ?_
        rintro e w7 ⟨rfl, hb7⟩
        have hb67 := below_next hb6 hb7
        clear hb6 hb7
        go_wp2_with fail
        refine (HT4.out.text _ _ hb67 (HL4.out.next hb67).lib).mono ?_
        rintro e w8 ⟨rfl, hb8⟩
        have hb78 := below_next hb67 hb8
        clear hb67 hb8
        go_wp2_with fail
        refine (HT4.out.eval _ _ _ hb78 rfl).mono ?_
        rintro e w9 ⟨rfl, hb9⟩
        have hb89 := below_next hb78 hb9
        clear hb78 hb9
        go_wp2_with fail
        refine (awake_any _ (HL4.out.next hb89).lib).mono ?_
        rintro e w10 ⟨rfl, hb10⟩
        go_wp2_with fail
        go_ret
        exact ⟨rfl, ((HL4.out.next hb89).next hb10).bel⟩
      · obtain ⟨g, c2, cur, hv, hg, hcur, HTI⟩ := own_at (T := wrongT q) (by rw [hlen]; exact HO2.out) (by rw [wrongT_cons]; simp)
        simp only [Value.slice.injEq] at hv
        obtain ⟨rfl, _, rfl⟩ := hv
        rw [wrongT_cons] at HTI
        have HTI := Lib.hid HTI
        have hc0 : w2.cell? ⟨g, 0, none⟩ = some (.int .i64 1) := by
          rcases HTI.out with h | ⟨b, o, e, hb, hc⟩
          · simp at h
          · simp only [Option.some.injEq, Addr.mk.injEq, and_true] at e
            obtain ⟨rfl, rfl⟩ := e
            exact (hc 0 (by simp)).1
        have hc1 : w2.cell? ⟨g, 1, none⟩ = some (.int .i64 1) := by
          rcases HTI.out with h | ⟨b, o, e, hb, hc⟩
          · simp at h
          · simp only [Option.some.injEq, Addr.mk.injEq, and_true] at e
            obtain ⟨rfl, rfl⟩ := e
            exact (hc 0 (by simp)).2
        have hf0 : w2.frozen? ⟨g, 0, none⟩ = false := frozen_of_row w2 g 0 _ _ hcur
        have hf1 : w2.frozen? ⟨g, 1, none⟩ = false := frozen_of_row w2 g 1 _ _ hcur
        have HT4 : Hid (NoE ((w2.setCell ⟨g, 0, none⟩ (.int .i64 2)).setCell ⟨g, 1, none⟩ (.int .i64 8)) (some ⟨g, 0, none⟩) (1 + 2 * q)) := Lib.hid (by
          have h2 : (wrongTo 3 q).length = 1 + 2 * q := by
            have h5 := hlen; rw [wrongT_cons] at h5; exact h5
          exact noE (T := wrongTo 3 q) (tin_set HTI.out (by simp) ((set_other (by decide)).trans (World.cell?_setCell_same _ _ _ hc0)) (World.cell?_setCell_same _ _ _ ((set_other (by decide)).trans hc1)) (fun j hj => (set_other (by omega)).trans (set_other (by omega)))) (HNO.out 3 (by decide)) h2)
        have HL4 : Hid (LBel w ((w2.setCell ⟨g, 0, none⟩ (.int .i64 2)).setCell ⟨g, 1, none⟩ (.int .i64 8))) := Lib.hid ((LBel.mk HL.out (Below.refl _ _)).next (((HB2.out.setCell hg _).setCell hg _)))
        clear hcur HTI
        clear hlen hsz2 HO2 HOWN0 HB0 hg hk0 hk4 hk3
        obtain ⟨N, hN⟩ : ∃ N, N = 1 + 2 * q := ⟨_, rfl⟩
        have hqi0 : (0 : Int) < (N : Int) := by omega
        rw [← hN] at HT4
        rw [← hN]
        clear hN
        have HPW := Lib.hid (fun w hl => parse_wrong 3 (by decide) w hl)
        have HX := fun w => run_idx3 w
        unfold wrongS at HPW
        go_wp2_with fail
        refine (HP2.out _).mono ?_
        rintro e w5 ⟨rfl, rfl⟩
        go_wp2_with fail
        refine (HPW.out _ HL4.out.lib).mono ?_
        rintro e w6 ⟨rfl, hb6⟩
        go_wp2_with fail
        refine (HT4.out.check _ _ hb6).mono ?_
        rintro e w7 ⟨rfl, hb7⟩
        have hb67 := below_next hb6 hb7
        clear hb6 hb7
        go_wp2_with fail
        refine (HT4.out.text _ _ hb67 (HL4.out.next hb67).lib).mono ?_
        rintro e w8 ⟨rfl, hb8⟩
        have hb78 := below_next hb67 hb8
        clear hb67 hb8
        go_wp2_with fail
        refine (HT4.out.eval _ _ _ hb78 rfl).mono ?_
        rintro e w9 ⟨rfl, hb9⟩
        have hb89 := below_next hb78 hb9
        clear hb78 hb9
        go_wp2_with fail
        refine (awake_any _ (HL4.out.next hb89).lib).mono ?_
        rintro e w10 ⟨rfl, hb10⟩
        go_wp2_with fail
        go_ret
        exact ⟨rfl, ((HL4.out.next hb89).next hb10).bel⟩
      · obtain ⟨g, c2, cur, hv, hg, hcur, HTI⟩ := own_at (T := wrongT q) (by rw [hlen]; exact HO2.out) (by rw [wrongT_cons]; simp)
        simp only [Value.slice.injEq] at hv
        obtain ⟨rfl, _, rfl⟩ := hv
        rw [wrongT_cons] at HTI
        have HTI := Lib.hid HTI
        have hc0 : w2.cell? ⟨g, 0, none⟩ = some (.int .i64 1) := by
          rcases HTI.out with h | ⟨b, o, e, hb, hc⟩
          · simp at h
          · simp only [Option.some.injEq, Addr.mk.injEq, and_true] at e
            obtain ⟨rfl, rfl⟩ := e
            exact (hc 0 (by simp)).1
        have hc1 : w2.cell? ⟨g, 1, none⟩ = some (.int .i64 1) := by
          rcases HTI.out with h | ⟨b, o, e, hb, hc⟩
          · simp at h
          · simp only [Option.some.injEq, Addr.mk.injEq, and_true] at e
            obtain ⟨rfl, rfl⟩ := e
            exact (hc 0 (by simp)).2
        have hf0 : w2.frozen? ⟨g, 0, none⟩ = false := frozen_of_row w2 g 0 _ _ hcur
        have hf1 : w2.frozen? ⟨g, 1, none⟩ = false := frozen_of_row w2 g 1 _ _ hcur
        have HT4 : Hid (NoE (w2.setCell ⟨g, 0, none⟩ (.int .i64 4)) (some ⟨g, 0, none⟩) (1 + 2 * q)) := Lib.hid (by
          have h2 : (wrongTo 4 q).length = 1 + 2 * q := by
            have h5 := hlen; rw [wrongT_cons] at h5; exact h5
          exact noE (T := wrongTo 4 q) (tin_set HTI.out (by simp) (World.cell?_setCell_same _ _ _ hc0) ((set_other (by decide)).trans hc1) (fun j hj => set_other (by omega))) (HNO.out 4 (by decide)) h2)
        have HL4 : Hid (LBel w (w2.setCell ⟨g, 0, none⟩ (.int .i64 4))) := Lib.hid ((LBel.mk HL.out (Below.refl _ _)).next ((HB2.out.setCell hg _)))
        clear hcur HTI
        clear hlen hsz2 HO2 HOWN0 HB0 hg hk0 hk4 hk3
        obtain ⟨N, hN⟩ : ∃ N, N = 1 + 2 * q := ⟨_, rfl⟩
        have hqi0 : (0 : Int) < (N : Int) := by omega
        rw [← hN] at HT4
        rw [← hN]
        clear hN
        have HPW := Lib.hid (fun w hl => parse_wrong 4 (by decide) w hl)
        have HX := fun w => run_idx4 w
        unfold wrongS at HPW
        go_wp2_with fail
        refine (HP2.out _).mono ?_
        rintro e w5 ⟨rfl, rfl⟩
        go_wp2_with fail
        refine (HPW.out _ HL4.out.lib).mono ?_
        rintro e w6 ⟨rfl, hb6⟩
        go_wp2_with fail
        refine (HT4.out.check _ _ hb6).mono ?_
        rintro e w7 ⟨rfl, hb7⟩
        have hb67 := below_next hb6 hb7
        clear hb6 hb7
        go_wp2_with fail
        refine (HT4.out.text _ _ hb67 (HL4.out.next hb67).lib).mono ?_
        rintro e w8 ⟨rfl, hb8⟩
        have hb78 := below_next hb67 hb8
        clear hb67 hb8
        go_wp2_with fail
        refine (HT4.out.eval _ _ _ hb78 rfl).mono ?_
        rintro e w9 ⟨rfl, hb9⟩
        have hb89 := below_next hb78 hb9
        clear hb78 hb9
        go_wp2_with fail
        refine (awake_any _ (HL4.out.next hb89).lib).mono ?_
        rintro e w10 ⟨rfl, hb10⟩
        go_wp2_with fail
        go_ret
        exact ⟨rfl, ((HL4.out.next hb89).next hb10).bel⟩
      · go_wp2_with (first | (at_builtin; refine wpList_append_own _ rfl (.tmp 68) (.tmp 71) 24 rfl w.heap.size 34 i0 (.agg #[.int .i64 0, .int .i64 0]) 2 16 Tryd.underlying24 hi hz0 hz1 hz2 rfl (by decide) _ _ _ rfl (HO2.out.alloc _) ⟨w2.heap.size, 0, none⟩ 2 2 [.int .i64 2, .int .i64 0, .int .i64 3, .int .i64 7] rfl rfl (World.news_of_block (cs := #[.int .i64 2, .int .i64 0, .int .i64 3, .int .i64 7]) (t := 34) (fr := (0, 0)) (heap_alloc_new w2 _)) (by simp [Value.oneCell']) (by unfold maxLen; omega) (by omega) (by simp; omega) ?_; intro v1 w4 hown1 hgrow1 hnil1; have HO4 := Lib.hid hown1; have HG4 := Lib.hid hgrow1; clear hown1 hgrow1 hnil1; obtain ⟨pa1, pc1, rfl⟩ := own_len HO4.out))
        have HT4 : Hid (NoE w4 pa1 (1 + 2 * q + 2)) := Lib.hid (by
          have h1 := HO4.out
          have h2 : (wrongTo 5 q).length = 1 + 2 * q + 2 := by show (wrongT q ++ [(2, 0), (3, 7)]).length = _; rw [List.length_append, hlen]; rfl
          have h3 : icells (wrongTo 5 q) = icells (wrongT q) ++ [.int .i64 2, .int .i64 0, .int .i64 3, .int .i64 7] := by show icells (wrongT q ++ [(2, 0), (3, 7)]) = _; rw [icells_app]; rfl
          exact noE (T := wrongTo 5 q) (tin_own (by rw [h2, h3]; exact h1)) (HNO.out 5 (by decide)) h2)
        have HL4 : Hid (LBel w w4) := Lib.hid ((LBel.mk HL.out (Below.refl _ _)).next ((HB2.out.alloc hsz2 _).grown HG4.out (by simp; omega) (fun j hj => (HO2.out.lt j hj).1)))
        clear HO4 HG4
        have HPW := Lib.hid (fun w hl => parse_wrong 5 (by decide) w hl)
        have HX := fun w => run_idx5 w
        unfold wrongS at HPW
        go_wp2_with fail
        refine (HP2.out _).mono ?_
        rintro e w5 ⟨rfl, rfl⟩
        go_wp2_with fail
        refine (HPW.out _ HL4.out.lib).mono ?_
        rintro e w6 ⟨rfl, hb6⟩
        go_wp2_with fail
        refine (HT4.out.check _ _ hb6).mono ?_
        rintro e w7 ⟨rfl, hb7⟩
        have hb67 := below_next hb6 hb7
        clear hb6 hb7
        go_wp2_with fail
        refine (HT4.out.text _ _ hb67 (HL4.out.next hb67).lib).mono ?_
        rintro e w8 ⟨rfl, hb8⟩
        have hb78 := below_next hb67 hb8
        clear hb67 hb8
        go_wp2_with fail
        refine (HT4.out.eval _ _ _ hb78 rfl).mono ?_
        rintro e w9 ⟨rfl, hb9⟩
        have hb89 := below_next hb78 hb9
        clear hb78 hb9
        go_wp2_with fail
        refine (awake_any _ (HL4.out.next hb89).lib).mono ?_
        rintro e w10 ⟨rfl, hb10⟩
        go_wp2_with fail
        go_ret
        exact ⟨rfl, ((HL4.out.next hb89).next hb10).bel⟩
      · have HT4 : Hid (NoE w2 none 0) := Lib.hid (noE (T := []) (.inl rfl) rfl rfl)
        have HL4 : Hid (LBel w w2) := Lib.hid ((LBel.mk HL.out (Below.refl _ _)).next HB2.out)
        have HPW := Lib.hid (fun w hl => parse_wrong 6 (by decide) w hl)
        have HX := fun w => run_idx6 w
        unfold wrongS at HPW
        go_wp2_with fail
        refine (HP2.out _).mono ?_
        rintro e w5 ⟨rfl, rfl⟩
        go_wp2_with fail
        refine (HPW.out _ HL4.out.lib).mono ?_
        rintro e w6 ⟨rfl, hb6⟩
        go_wp2_with fail
        refine (HT4.out.check _ _ hb6).mono ?_
        rintro e w7 ⟨rfl, hb7⟩
        have hb67 := below_next hb6 hb7
        clear hb6 hb7
        go_wp2_with fail
        refine (HT4.out.text _ _ hb67 (HL4.out.next hb67).lib).mono ?_
        rintro e w8 ⟨rfl, hb8⟩
        have hb78 := below_next hb67 hb8
        clear hb67 hb8
        go_wp2_with fail
        refine (HT4.out.eval _ _ _ hb78 rfl).mono ?_
        rintro e w9 ⟨rfl, hb9⟩
        have hb89 := below_next hb78 hb9
        clear hb78 hb9
        go_wp2_with fail
        refine (awake_any _ (HL4.out.next hb89).lib).mono ?_
        rintro e w10 ⟨rfl, hb10⟩
        go_wp2_with fail
        go_ret
        exact ⟨rfl, ((HL4.out.next hb89).next hb10).bel⟩
      · have HW7 : Hid (∃ T, T.length = 1 + 2 * q ∧ w2.ownsRow w.heap.size 34 2 (.slice pa0 (1 + 2 * q) pc0) (1 + 2 * q) (icells T)) := Lib.hid ⟨wrongT q, hlen, HO2.out⟩
        clear hlen HO2 HOWN0 HB0 hk0 hk4
        go_wp2_with fail
        go_loopw [6] (fun v wr => ∃ (N : Nat) (T : List (Int × Int)), T.length = N ∧ N ≤ 20 ∧ wr.ownsRow w.heap.size 34 2 v N (icells T) ∧ Below w.heap.size w wr) (fun v _ => 12 - lenV v)
        case atStart =>
          obtain ⟨T, hT, ho⟩ := HW7.out
          exact ⟨_, T, hT, by omega, ho, HB2.out⟩
        case round =>
          obtain ⟨N, T, hN, hN20, hown, hbe⟩ := hrel
          have hsz := hbe.size
          obtain ⟨pa1, pc1, rfl⟩ := own_len hown
          have HOWN := Lib.hid hown
          have HB := Lib.hid hbe
          clear hown hbe HW7 HB2
          by_cases hlt : N ≤ 9
          · have hqi : (N : Int) ≤ 9 := by omega
            have hqd : decide ((N : Int) ≤ 9) = true := by simp; omega
            go_wp2_with (first | (at_builtin; refine wpList_append_own _ rfl (.tmp 34) (.tmp 37) 24 rfl w.heap.size 34 i0 (.agg #[.int .i64 0, .int .i64 0]) 2 16 Tryd.underlying24 hi hz0 hz1 hz2 rfl (by decide) _ _ _ rfl (HOWN.out.alloc _) ⟨wr.heap.size, 0, none⟩ 2 2 [.int .i64 1, .int .i64 0, .int .i64 3, .int .i64 1] rfl rfl (World.news_of_block (cs := #[.int .i64 1, .int .i64 0, .int .i64 3, .int .i64 1]) (t := 34) (fr := (0, 0)) (heap_alloc_new wr _)) (by simp [Value.oneCell']) (by unfold maxLen; omega) (by omega) (by simp; omega) ?_; intro v1 w4 hown1 hgrow1 hnil1; have HO4 := Lib.hid hown1; have HG4 := Lib.hid hgrow1; clear hown1 hgrow1 hnil1; obtain ⟨pa2, pc2, rfl⟩ := own_len HO4.out))
            go_roundw
            case rel =>
              refine ⟨N + 2, T ++ [(1, 0), (3, 1)], by simp [hN], by omega, ?_, ?_⟩
              · rw [icells_app]; exact HO4.out
              · exact (HB.out.alloc hsz _).grown HG4.out (by simp; omega) (fun j hj => (HOWN.out.lt j hj).1)
            case measure => simp [lenV]; omega
          · have hqi : ¬ (N : Int) ≤ 9 := by omega
            have hqd : decide ((N : Int) ≤ 9) = false := by simp; omega
            have hno7 : checkB T = false := by unfold checkB; simp; omega
            have HT4 : Hid (NoE wr pa1 N) := Lib.hid (noE (T := T) (tin_own (by rw [hN]; exact HOWN.out)) hno7 hN)
            have HL4 : Hid (LBel w wr) := Lib.hid ((LBel.mk HL.out (Below.refl _ _)).next HB.out)
            clear hN hno7 HOWN HB
            have HPW := Lib.hid (fun w hl => parse_wrong 7 (by decide) w hl)
            have HX := fun w => run_idx7 w
            unfold wrongS at HPW
            go_wp2_with fail
            refine (HP2.out _).mono ?_
            rintro e w5 ⟨rfl, rfl⟩
            go_wp2_with fail
            refine (HPW.out _ HL4.out.lib).mono ?_
            rintro e w6 ⟨rfl, hb6⟩
            go_wp2_with fail
            refine (HT4.out.check _ _ hb6).mono ?_
            rintro e w7 ⟨rfl, hb7⟩
            have hb67 := below_next hb6 hb7
            clear hb6 hb7
            go_wp2_with fail
            refine (HT4.out.text _ _ hb67 (HL4.out.next hb67).lib).mono ?_
            rintro e w8 ⟨rfl, hb8⟩
            have hb78 := below_next hb67 hb8
            clear hb67 hb8
            go_wp2_with fail
            refine (HT4.out.eval _ _ _ hb78 rfl).mono ?_
            rintro e w9 ⟨rfl, hb9⟩
            have hb89 := below_next hb78 hb9
            clear hb78 hb9
            go_wp2_with fail
            refine (awake_any _ (HL4.out.next hb89).lib).mono ?_
            rintro e w10 ⟨rfl, hb10⟩
            go_wp2_with fail
            go_ret
            exact ⟨rfl, ((HL4.out.next hb89).next hb10).bel⟩
end Go.Proofs.YtcmjmojbocmcgaaDoor
