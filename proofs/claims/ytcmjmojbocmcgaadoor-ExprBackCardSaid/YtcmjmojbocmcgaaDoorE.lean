import Derived.Test.YtcmjmojbocmcgaaDoorC
import Derived.Test.YtcmjmojbocmcgaaDoorShelf
import Derived.Lib.AppendIntMem
import Derived.Lib.ItoaLen
namespace Go.Proofs.YtcmjmojbocmcgaaDoor
open Go.RowKit ExprA
namespace ExprA
theorem below_next {w a b : World} (h : Below w.heap.size w a) (g : Below a.heap.size a b) : Below w.heap.size w b := h.trans (g.mono h.size)
theorem grown_drewN (w : World) (n : Nat) (row : Option Nat) : w.grownBy (w.drewN n) row := ⟨rfl, rfl, rfl, Nat.le_refl _, fun _ _ _ => rfl⟩
theorem bel_drewN (w : World) (n : Nat) : Below w.heap.size w (w.drewN n) := ⟨rfl, rfl, rfl, Nat.le_refl _, fun _ _ => rfl⟩
theorem below_grow (w : World) (os : Array Obj) : Below w.heap.size w (Go.Sort.grow w os) :=
  ⟨rfl, rfl, rfl, by simp [Go.Sort.grow], fun k hk => by simp [Go.Sort.grow, Array.getElem?_append, hk]⟩
theorem below_bytes (w : World) (e : TypeId) (s : ByteArray) : Below w.heap.size w (Lib.bytesWorld w e s) :=
  ⟨rfl, rfl, rfl, by rw [Lib.bytesWorld_size]; omega, fun k hk => Lib.bytesWorld_at_old w e s k hk⟩
def signOf (v : Nat) : UInt8 := match v with | 1 => 43 | 2 => 45 | 3 => 42 | 4 => 94 | 5 => 61 | _ => 60
/-- a word's text -/
def wordL (p : Int × Int) : List UInt8 :=
  if p.1 = 3 then [signOf p.2.toNat] else if p.1 = 2 then 114 :: Lib.itoa p.2 else Lib.itoa p.2
def PowTab (w : World) : Prop := Lib.TabIs Tryd.prog w (Rows.exprBackRow.named.getD 5 "") .u64 Lib.pow10Tab
theorem PowTab.next {w w' : World} (h : PowTab w) (hb : Below w.heap.size w w') : PowTab w' := Lib.tabBelow_of_tabIs h w' hb
theorem run_index_ops (v : Nat) (h1 : 1 ≤ v) (h6 : v ≤ 6) (w : World) : (Instr.index 52 (.agg opsA) (.int .i64 (v : Int))).run Tryd.prog w = .ok (.agg #[.string ⟨#[signOf v]⟩, .func (.func (opId v)) #[] #[]]) w := by
  rcases (show v = 1 ∨ v = 2 ∨ v = 3 ∨ v = 4 ∨ v = 5 ∨ v = 6 by omega) with rfl | rfl | rfl | rfl | rfl | rfl <;> kernel_rfl
theorem run_field_ops (s f : Value) (w : World) : (Instr.field 51 (.agg #[s, f]) 0).run Tryd.prog w = .ok s w := by kernel_rfl
end ExprA
theorem itoa_any (n : Int) (h0 : -9223372036854775808 ≤ n) (h1 : n ≤ 9223372036854775807) (w : World) (ht : PowTab w) :
    Calls Tryd.prog 32 #[.int .i64 n] w fun e w' => e = .returned (.string ⟨(Lib.itoa n).toArray⟩) ∧ Below w.heap.size w w' :=
  (Tryd.strconv_Itoa n h0 h1 w ht).mono fun _ _ ⟨h, k, os, g⟩ => ⟨h, by
    rw [g]
    have h2 : Below w.heap.size (w.drewN k) (Go.Sort.grow (w.drewN k) os) := below_grow (w.drewN k) os
    exact (bel_drewN w k).trans h2⟩
namespace ExprA
/-- the library's two errors lie in their variables -/
def ErrIn (w : World) : Prop := (∃ t p, w.cell? ⟨1, 0, none⟩ = some (.iface t p)) ∧ (∃ t p, w.cell? ⟨2, 0, none⟩ = some (.iface t p)) ∧ 3 ≤ w.heap.size
theorem ErrIn.next {w w' : World} (h : ErrIn w) (hb : Below w.heap.size w w') : ErrIn w' := by
  obtain ⟨⟨t1, p1, h1⟩, ⟨t2, p2, h2⟩, h3⟩ := h
  exact ⟨⟨t1, p1, (hb.cell (p := ⟨1, 0, none⟩) (by show 1 < _; omega)).trans h1⟩, ⟨t2, p2, (hb.cell (p := ⟨2, 0, none⟩) (by show 2 < _; omega)).trans h2⟩, Nat.le_trans h3 hb.size⟩
/-- what Atoi reads -/
def numL (l : List UInt8) : Option Int := match Lib.atoiAll l with | .ok v => some v | _ => none
end ExprA
theorem atoi_ok (s : ByteArray) (v : Int) (hs : s.size ≤ 1000) (h : numL s.data.toList = some v) (w : World) :
    Calls Tryd.prog 31 #[.string s] w fun e w' => e = .returned (.tuple #[.int .i64 v, .nilIface]) ∧ Below w.heap.size w w' := by
  have hv : Lib.atoiAll s.data.toList = .ok v := by
    unfold numL at h
    split at h
    · rename_i u hu; rw [hu]; simp at h; rw [h]
    · simp at h
  refine (Tryd.strconv_Atoi_ok s (by omega) v hv w).mono ?_
  rintro e w' ⟨he, rfl | ⟨t, rfl⟩⟩
  · exact ⟨he, Below.refl _ _⟩
  · exact ⟨he, below_bytes _ _ _⟩
theorem atoi_bad (s : ByteArray) (hs : s.size ≤ 1000) (h : numL s.data.toList = none) (w : World) (he : ErrIn w) :
    Calls Tryd.prog 31 #[.string s] w fun e w' => (∃ z N, e = .returned (.tuple #[.int .i64 z, .iface 97 (.pointer (some ⟨N, 0, none⟩))])) ∧ Below w.heap.size w w' := by
  obtain ⟨⟨t1, p1, h1⟩, ⟨t2, p2, h2⟩, _⟩ := he
  rcases hv : Lib.atoiAll s.data.toList with v | _ | _
  · unfold numL at h; rw [hv] at h; simp at h
  · refine (Tryd.strconv_Atoi_syntax s (by omega) hv _ w h1 (.inr ⟨_, _, rfl⟩)).mono ?_
    rintro e w' ⟨N, rfl, _, _, hb⟩
    exact ⟨⟨_, N, rfl⟩, hb⟩
  · refine (Tryd.strconv_Atoi_range s (by omega) hv _ w h2 (.inr ⟨_, _, rfl⟩)).mono ?_
    rintro e w' ⟨N, rfl, _, _, hb⟩
    exact ⟨⟨_, N, rfl⟩, hb⟩
section
attribute [local irreducible] ExprA.opsA
set_option maxRecDepth 100000 in
set_option maxHeartbeats 1600000 in
theorem word_any (p : Int × Int) (h3 : p.1 = 3 → 1 ≤ p.2 ∧ p.2 ≤ 6) (h0 : -9223372036854775808 ≤ p.2) (h1 : p.2 ≤ 9223372036854775807) (w : World) (ht : PowTab w) :
    Calls Tryd.prog 23 #[.agg #[.int .i64 p.1, .int .i64 p.2]] w fun e w' => e = .returned (.string ⟨(wordL p).toArray⟩) ∧ Below w.heap.size w w' := by
  obtain ⟨tk, tv⟩ := p
  dsimp only at h3 h0 h1
  have HI := Lib.hid (fun w => itoa_any tv h0 h1 w)
  have HT := Lib.hid ht
  clear ht
  by_cases hk3 : tk = 3
  · subst hk3
    obtain ⟨hv1, hv6⟩ := h3 rfl
    obtain ⟨v, rfl⟩ : ∃ v : Nat, tv = (v : Int) := ⟨tv.toNat, by omega⟩
    have HX := fun w => run_index_ops v (by omega) (by omega) w
    have hr : wordL (3, (v : Int)) = [signOf v] := rfl
    rw [hr]
    have HF := fun sg F w => run_field_ops (.string ⟨#[sg]⟩) (.func (.func F) #[] #[]) w
    generalize signOf v = sg at *
    generalize opId v = F at *
    go_enter Tryd.func23, Tryd.ntmps23
    go_wp2_with fail
    go_region_with (first | (go_at_call 25; refine (ops_any _).mono ?_; rintro e w1 ⟨rfl, hbe⟩; have hc := (hbe.cell (p := ⟨w.heap.size, 1, none⟩) (by simp)).trans (cell_of_row _ _ _ _ _ _ (heap_alloc_new _ _))))
    all_goals
      go_wp2_with fail
      go_ret
      exact ⟨rfl, below_next (((Below.refl _ _).alloc (Nat.le_refl _) _).drew) hbe⟩
  · have HTA := Lib.hid (fun o => itoa_any tv h0 h1 (w.alloc o) (PowTab.next HT.out ((Below.refl _ _).alloc (Nat.le_refl _) o)))
    by_cases hk2 : tk = 2
    · subst hk2
      have hr : wordL (2, tv) = 114 :: Lib.itoa tv := rfl
      rw [hr]
      go_enter Tryd.func23, Tryd.ntmps23
      go_wp2_with fail
      refine (HTA.out _).mono ?_
      rintro e w1 ⟨rfl, hbe⟩
      have hlen := Lib.itoa_length_le tv h0 h1
      go_wp2_with fail
      all_goals (try (exfalso; omega))
      go_ret
      refine ⟨?_, below_next ((Below.refl _ _).alloc (Nat.le_refl _) _) hbe⟩
      have hs : (⟨#[114]⟩ : ByteArray) ++ (⟨(Lib.itoa tv).toArray⟩ : ByteArray) = ⟨(114 :: Lib.itoa tv).toArray⟩ := by
        apply ByteArray.ext
        simp
      rw [← hs]
      rfl
    · have hr : wordL (tk, tv) = Lib.itoa tv := by unfold wordL; rw [if_neg hk3, if_neg hk2]
      rw [hr]
      go_enter Tryd.func23, Tryd.ntmps23
      go_wp2_with fail
      refine (HTA.out _).mono ?_
      rintro e w1 ⟨rfl, hbe⟩
      go_wp2_with fail
      go_ret
      exact ⟨rfl, below_next ((Below.refl _ _).alloc (Nat.le_refl _) _) hbe⟩
end
end Go.Proofs.YtcmjmojbocmcgaaDoor
