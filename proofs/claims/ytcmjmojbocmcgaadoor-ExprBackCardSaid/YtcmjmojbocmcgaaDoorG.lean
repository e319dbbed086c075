import Derived.Test.YtcmjmojbocmcgaaDoorF
import Derived.Laws.EntriesVeiled
import Derived.Laws.ResultCell
namespace Go.Proofs.YtcmjmojbocmcgaaDoor
open Go.RowKit ExprA
namespace ExprA
theorem run_index_ops0 (w : World) : (Instr.index 52 (.agg opsA) (.int .i64 0)).run Tryd.prog w = .ok (.agg #[.string ⟨#[]⟩, .nilFunc]) w := by kernel_rfl
theorem str_ne {s : ByteArray} {x : UInt8} (h : ¬ s = ⟨#[x]⟩) : (s.toList == [x]) = false := by
  rw [ByteArray.toList_eq]
  have : s.data.toList ≠ [x] := fun e => h (ByteArray.ext (Array.ext' (by simpa using e)))
  simpa using this
/-- the sign's number, from v on -/
def opOf (s : ByteArray) : Option Nat :=
  if s = ⟨#[43]⟩ then some 1 else if s = ⟨#[45]⟩ then some 2 else if s = ⟨#[42]⟩ then some 3 else if s = ⟨#[94]⟩ then some 4 else if s = ⟨#[61]⟩ then some 5 else if s = ⟨#[60]⟩ then some 6 else none
theorem opOf_some {s : ByteArray} {k : Nat} (h1 : 1 ≤ k) (h6 : k ≤ 6) (h : s = ⟨#[signOf k]⟩) : opOf s = some k := by
  subst h
  rcases (show k = 1 ∨ k = 2 ∨ k = 3 ∨ k = 4 ∨ k = 5 ∨ k = 6 by omega) with rfl | rfl | rfl | rfl | rfl | rfl <;> decide
theorem opOf_none {s : ByteArray} (h : ∀ j, 1 ≤ j → j < 7 → s ≠ ⟨#[signOf j]⟩) : opOf s = none := by
  unfold opOf
  have h1 : s ≠ ⟨#[43]⟩ := h 1 (by omega) (by omega)
  have h2 : s ≠ ⟨#[45]⟩ := h 2 (by omega) (by omega)
  have h3 : s ≠ ⟨#[42]⟩ := h 3 (by omega) (by omega)
  have h4 : s ≠ ⟨#[94]⟩ := h 4 (by omega) (by omega)
  have h5 : s ≠ ⟨#[61]⟩ := h 5 (by omega) (by omega)
  have h6 : s ≠ ⟨#[60]⟩ := h 6 (by omega) (by omega)
  rw [if_neg h1, if_neg h2, if_neg h3, if_neg h4, if_neg h5, if_neg h6]
/-- a word, read -/
def readW (s : ByteArray) : Option (Int × Int) :=
  match opOf s with
  | some v => some (3, v)
  | none =>
    if Lib.hasPrefix s.data.toList [114] then (numL (Lib.trimPrefix s.data.toList [114])).map fun v => (2, v)
    else (numL s.data.toList).map fun v => (1, v)
def readV : Option (Int × Int) → Value
  | some p => .tuple #[.agg #[.int .i64 p.1, .int .i64 p.2], .bool true]
  | none => .tuple #[.agg #[.int .i64 0, .int .i64 0], .bool false]
/-- the variable of a result -/
def ZAt (w : World) (b : Nat) (x y : Int) : Prop := w.heap[b]? = some (.cells #[.int .i64 x, .int .i64 y] 34 (0, 0))
theorem ZAt.below {w w' : World} {B b : Nat} {x y : Int} (h : ZAt w b x y) (hB : Below B w w') (hb : b < B) : ZAt w' b x y := by
  unfold ZAt; rw [hB.block b hb]; exact h
theorem ZAt.lt {w b x y} (h : ZAt w b x y) : b < w.heap.size := (Array.getElem?_eq_some_iff.1 h).1
theorem ZAt.alloc {w b x y} (h : ZAt w b x y) (o : Obj) : ZAt (w.alloc o) b x y := h.below ((Below.refl w.heap.size w).alloc (Nat.le_refl _) o) h.lt
theorem ZAt.c0 {w b x y} (h : ZAt w b x y) : w.cell? ⟨b, 0, none⟩ = some (.int .i64 x) := by rw [cell_of_row w b _ _ _ _ h]; rfl
theorem ZAt.c1 {w b x y} (h : ZAt w b x y) : w.cell? ⟨b, 1, none⟩ = some (.int .i64 y) := by rw [cell_of_row w b _ _ _ _ h]; rfl
theorem ZAt.set0 {w b x y} (h : ZAt w b x y) (z : Int) : ZAt (w.setCell ⟨b, 0, none⟩ (.int .i64 z)) b z y := by
  unfold ZAt; rw [heap_setCell_same w b 0 _ 34 _ h]; rfl
theorem ZAt.set1 {w b x y} (h : ZAt w b x y) (z : Int) : ZAt (w.setCell ⟨b, 1, none⟩ (.int .i64 z)) b x z := by
  unfold ZAt; rw [heap_setCell_same w b 1 _ 34 _ h]; rfl
theorem run_results22 {w : World} {b : Nat} {x y : Int} {ok : Bool} (h : ZAt w b x y) (tmps : Array Value) (h2 : tmps.getD 2 undef = .pointer (some ⟨b, 0, none⟩)) (h3 : tmps.getD 3 undef = .bool ok) :
    (results Tryd.f22 tmps).run Tryd.prog w = .ok (.tuple #[.agg #[.int .i64 x, .int .i64 y], .bool ok]) w := by
  rw [results_cell_tmp (p := 2) (u := 3) (ty := 34) rfl, h2, h3]
  have hl := run_loadVar_row (P := Tryd.prog) w b 34 34 _ (0, 0) _ h Tryd.underlying34 rfl (by kernel_rfl)
  simp [asAddr, Result.andThen, hl]
theorem ZAt.frozen {w b x y} (h : ZAt w b x y) (j : Nat) : w.frozen? ⟨b, j, none⟩ = false := frozen_of_row w b j _ _ h
end ExprA
section
attribute [local irreducible] ExprA.opsA
set_option maxRecDepth 100000 in
set_option maxHeartbeats 4000000 in
theorem readW_any (s : ByteArray) (hs : s.size ≤ 1000) (w : World) (he : ErrIn w) :
    Calls Tryd.prog 22 #[.string s] w fun e w' => e = .returned (readV (readW s)) ∧ Below w.heap.size w w' := by
  have HE := Lib.hid he
  clear he
  have HX0 := run_index_ops0
  go_enter Tryd.func22, Tryd.ntmps22
  go_wp2_with fail
  refine (ops_any _).mono ?_
  rintro e w1 ⟨rfl, hbe⟩
  have HZ1 : Hid (ZAt w1 w.heap.size 0 0) := Lib.hid (ZAt.below (w := w.alloc (.cells #[.int .i64 0, .int .i64 0] 34 (0, 0))) (heap_alloc_new _ _) hbe (by simp))
  have HB1 := Lib.hid (below_next ((Below.refl w.heap.size w).alloc (Nat.le_refl _) (.cells #[.int .i64 0, .int .i64 0] 34 (0, 0))) hbe)
  clear hbe
  go_wp2_with fail
  go_loopw [12] (fun i wr => ∃ k : Nat, k ≤ 7 ∧ i = .int .i64 k ∧ (∀ j, 1 ≤ j → j < k → s ≠ ⟨#[signOf j]⟩) ∧ Hid (ZAt wr w.heap.size 0 0) ∧ Below w.heap.size w wr) (fun i _ => 7 - (intOf i).toNat)
  case atStart => exact ⟨0, by omega, rfl, fun j h1 h2 => by omega, HZ1, HB1.out⟩
  case round =>
    obtain ⟨k, hk, rfl, hno, HZ, hbe⟩ := hrel
    have HNO := Lib.hid hno
    clear hno
    have hsz := hbe.size
    have hzl : w.heap.size < wr.heap.size := HZ.out.lt
    by_cases hlt : k < 7
    · have hki : (k : Int) < 7 := by omega
      by_cases h0 : k = 0
      · subst h0
        go_wp2_with fail
        go_roundw
        case rel => exact ⟨1, by omega, rfl, fun j h1 h2 => by omega, Lib.hid (HZ.out.alloc _), hbe.alloc hsz _⟩
        case measure => simp [intOf]
      · have hk0 : ¬ (k : Int) = 0 := by omega
        have hkb : ((k : Int) != 0) = true := by simp; omega
        have HX := fun w => run_index_ops k (by omega) (by omega) w
        have HS : Hid (s = ⟨#[signOf k]⟩ → readW s = some (3, (k : Int))) := Lib.hid (fun h => by
          unfold readW; rw [opOf_some (by omega) (by omega) h])
        have HN2 : Hid (s ≠ ⟨#[signOf k]⟩ → ∀ j, 1 ≤ j → j < k + 1 → s ≠ ⟨#[signOf j]⟩) := Lib.hid (fun h j h1 h2 => by
          by_cases e : j = k
          · subst e; exact h
          · exact HNO.out j h1 (by omega))
        generalize signOf k = sg at *
        generalize opId k = F at *
        by_cases hsg : s = ⟨#[sg]⟩
        · have hd : decide (s = ⟨#[sg]⟩) = true := by simp [hsg]
          have hfz := HZ.out.frozen 0
          have hfz1 := HZ.out.frozen 1
          have hc0 := HZ.out.c0
          have hc1 := HZ.out.c1
          go_wp2_with fail
          have hbe2 := hbe
          refine bodyPost_ret (v := readV (some (3, (k : Int)))) ?_ rfl ⟨?_, ?_⟩
          · exact run_results22 (((HZ.out.set0 3).set1 (k : Int)).alloc _) _ rfl rfl
          · rw [HS.out hsg]
          · exact ((hbe2.setCell (Nat.le_refl _) _).setCell (Nat.le_refl _) _).alloc (by simpa using hsz) _
        · have hd : (s.toList == [sg]) = false := str_ne hsg
          go_wp2_with fail
          go_roundw
          case rel => exact ⟨k + 1, by omega, by go_num, HN2.out hsg, Lib.hid (HZ.out.alloc _), hbe.alloc hsz _⟩
          case measure => simp [intOf]; omega
    · have e7 : k = 7 := by omega
      subst e7
      have hop := opOf_none HNO.out
      have HRW : Hid (readW s = if Lib.hasPrefix s.data.toList [114] then (numL (Lib.trimPrefix s.data.toList [114])).map fun v => (2, v) else (numL s.data.toList).map fun v => (1, v)) := Lib.hid (by
        unfold readW; rw [hop])
      have hle : (Lib.trimPrefix s.data.toList [114]).length ≤ s.size := Lib.trimPrefix_le s.data.toList [114]
      have HER : Hid (ErrIn wr) := Lib.hid (HE.out.next hbe)
      have HCP := Lib.hid (Tryd.strings_CutPrefix s ⟨#[114]⟩ wr)
      have hp114 : (⟨#[114]⟩ : ByteArray).data.toList = [114] := rfl
      rw [hp114] at HCP
      clear hop HNO HE
      cases hpre : Lib.hasPrefix s.data.toList [114] with
      | true =>
        rw [hpre] at HRW HCP
        have HRW2 : Hid (readW s = (numL (Lib.trimPrefix s.data.toList [114])).map fun v => (2, v)) := HRW
        clear HRW
        generalize Lib.trimPrefix s.data.toList [114] = rest at *
        have HZ' := HZ
        go_wp2_with fail
        refine HCP.out.mono ?_
        rintro e w2 ⟨rfl, rfl⟩
        go_wp2_with fail
        cases hn : numL rest with
        | some v =>
          rw [hn] at HRW2
          refine (atoi_ok ⟨rest.toArray⟩ v (by show rest.toArray.size ≤ 1000; simp; omega) (by simpa using hn) _).mono ?_
          rintro e w3 ⟨rfl, hb3⟩
          have HZ3 := Lib.hid (HZ'.out.below hb3 HZ'.out.lt)
          have hfz := HZ3.out.frozen 0
          have hfz1 := HZ3.out.frozen 1
          have hc0 := HZ3.out.c0
          have hc1 := HZ3.out.c1
          go_wp2_with fail
          refine bodyPost_ret (v := readV (some (2, v))) ?_ rfl ⟨by rw [HRW2.out]; rfl, ((below_next hbe hb3).setCell (Nat.le_refl _) _).setCell (Nat.le_refl _) _⟩
          exact run_results22 ((HZ3.out.set0 2).set1 v) _ rfl rfl
        | none =>
          rw [hn] at HRW2
          refine (atoi_bad ⟨rest.toArray⟩ (by show rest.toArray.size ≤ 1000; simp; omega) (by simpa using hn) _ HER.out).mono ?_
          rintro e w3 ⟨⟨z, N, rfl⟩, hb3⟩
          have HZ3 := Lib.hid (HZ'.out.below hb3 HZ'.out.lt)
          have hfz := HZ3.out.frozen 0
          have hfz1 := HZ3.out.frozen 1
          have hc0 := HZ3.out.c0
          have hc1 := HZ3.out.c1
          go_wp2_with fail
          refine bodyPost_ret (v := readV none) ?_ rfl ⟨by rw [HRW2.out]; rfl, ((below_next hbe hb3).setCell (Nat.le_refl _) _).setCell (Nat.le_refl _) _⟩
          exact run_results22 ((HZ3.out.set0 0).set1 0) _ rfl rfl
      | false =>
        rw [hpre] at HRW HCP
        have HRW2 : Hid (readW s = (numL s.data.toList).map fun v => (1, v)) := HRW
        clear HRW
        have HZ' := HZ
        go_wp2_with fail
        refine HCP.out.mono ?_
        rintro e w2 ⟨rfl, rfl⟩
        go_wp2_with fail
        cases hn : numL s.data.toList with
        | some v =>
          rw [hn] at HRW2
          refine (atoi_ok s v hs hn _).mono ?_
          rintro e w3 ⟨rfl, hb3⟩
          have HZ3 := Lib.hid (HZ'.out.below hb3 HZ'.out.lt)
          have hfz := HZ3.out.frozen 0
          have hfz1 := HZ3.out.frozen 1
          have hc0 := HZ3.out.c0
          have hc1 := HZ3.out.c1
          go_wp2_with fail
          refine bodyPost_ret (v := readV (some (1, v))) ?_ rfl ⟨by rw [HRW2.out]; rfl, ((below_next hbe hb3).setCell (Nat.le_refl _) _).setCell (Nat.le_refl _) _⟩
          exact run_results22 ((HZ3.out.set0 1).set1 v) _ rfl rfl
        | none =>
          rw [hn] at HRW2
          refine (atoi_bad s hs hn _ HER.out).mono ?_
          rintro e w3 ⟨⟨z, N, rfl⟩, hb3⟩
          have HZ3 := Lib.hid (HZ'.out.below hb3 HZ'.out.lt)
          have hfz := HZ3.out.frozen 0
          have hfz1 := HZ3.out.frozen 1
          have hc0 := HZ3.out.c0
          have hc1 := HZ3.out.c1
          go_wp2_with fail
          refine bodyPost_ret (v := readV none) ?_ rfl ⟨by rw [HRW2.out]; rfl, ((below_next hbe hb3).setCell (Nat.le_refl _) _).setCell (Nat.le_refl _) _⟩
          exact run_results22 ((HZ3.out.set0 0).set1 0) _ rfl rfl
end
end Go.Proofs.YtcmjmojbocmcgaaDoor
