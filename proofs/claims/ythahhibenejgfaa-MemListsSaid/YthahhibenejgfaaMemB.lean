/-
  slices.Clone of lists, and slices.SortFunc of a row of lists, as contracts. Conditions: the lists in memory.
-/
import Derived.Test.YthahhibenejgfaaMemP
import Derived.Sort.Defs
import Derived.Laws.AppendOwn
import Derived.Lib.Walk
import Derived.Lib.SliceRun
namespace Go.Proofs.Ythahhibenejgfaa
open Go.RowKit Mem
namespace Mem
theorem own_next {w w' : World} {base : Nat} {e : TypeId} {size : Nat} {v : Value} {n : Nat} {xs : List Value} (h : w.ownsRow base e size v n xs) (hb : Below w.heap.size w w') : w'.ownsRow base e size v n xs := by
  obtain ⟨hl, h0 | ⟨g, cap, cur, h1, h2, h3, h4⟩⟩ := h
  · exact ⟨hl, .inl h0⟩
  · exact ⟨hl, .inr ⟨g, cap, cur, h1, h2, (hb.block g (Array.getElem?_eq_some_iff.1 h3).1).trans h3, h4⟩⟩
theorem below_next {B : Nat} {w1 w2 w3 : World} (h : Below B w1 w2) (g : Below w2.heap.size w2 w3) (hs : B ≤ w2.heap.size) : Below B w1 w3 := h.trans (g.mono hs)
/-- the cells of an own row -/
theorem own_cell {w : World} {base : Nat} {e : TypeId} {n : Nat} {xs : List Value} {g cap : Nat} (h : w.ownsRow base e 1 (.slice (some ⟨g, 0, none⟩) n cap) n xs) (q : Nat) (u : Value) (hq : xs[q]? = some u) : w.cell? ⟨g, 0 + q, none⟩ = some u ∧ g < w.heap.size := by
  obtain ⟨hl, ⟨h0, _⟩ | ⟨g', cap', cur, h1, h2, h3, _, _, h5, h6⟩⟩ := h
  · cases h0
  · cases h1
    refine ⟨?_, (Array.getElem?_eq_some_iff.1 h3).1⟩
    rw [cell_of_row _ _ _ _ _ _ h3]
    rw [← h6] at hq
    rw [List.getElem?_take] at hq
    split at hq
    · rw [Nat.zero_add]; simpa using hq
    · cases hq
theorem own_len {w : World} {base : Nat} {e : TypeId} {v : Value} {n : Nat} {xs : List Value} (h : w.ownsRow base e 1 v n xs) : ∃ a c, v = .slice a n c ∧ (n = 0 ∨ ∃ g, a = some ⟨g, 0, none⟩ ∧ base ≤ g ∧ g < w.heap.size) := by
  obtain ⟨_, ⟨rfl, rfl⟩ | ⟨g, c, cur, rfl, h2, h3, _⟩⟩ := h
  · exact ⟨none, 0, rfl, .inl rfl⟩
  · exact ⟨_, c, rfl, .inr ⟨g, rfl, h2, (Array.getElem?_eq_some_iff.1 h3).1⟩⟩
def ivs (L : List Int) : List Value := L.map fun x => .int .i64 x
theorem own_ns {w : World} {base : Nat} {e : TypeId} {v : Value} {L : List Int} (h : w.ownsRow base e 1 v L.length (ivs L)) : ∃ a c, v = Ls.v ⟨a, L, c⟩ ∧ NsIn w a L ∧ (L = [] ∨ ∃ g, a = some ⟨g, 0, none⟩ ∧ base ≤ g) := by
  obtain ⟨a, c, rfl, h0 | ⟨g, rfl, hb, hg⟩⟩ := own_len h
  · exact ⟨a, c, rfl, .inl (List.length_eq_zero_iff.1 h0), .inl (List.length_eq_zero_iff.1 h0)⟩
  · refine ⟨_, c, rfl, .inr ⟨g, 0, rfl, hg, fun q hq => ?_⟩, .inr ⟨g, rfl, hb⟩⟩
    refine (own_cell h q _ ?_).1
    unfold ivs
    rw [List.getElem?_map, List.getElem?_eq_getElem hq, List.getD_eq_getElem?_getD, List.getElem?_eq_getElem hq]
    rfl
theorem info3 : (Try.prog.info? 3).map (fun i => (i.zero, i.size, i.bytes)) = some (some (.int .i64 0), 1, 8) := by kernel_rfl
theorem info23 : (Try.prog.info? 23).map (fun i => (i.zero, i.size, i.bytes)) = some (some (.slice none 0 0), 1, 24) := by kernel_rfl
theorem ns_news {w : World} {b o : Nat} {L : List Int} (h : ∀ q, q < L.length → w.cell? ⟨b, o + q, none⟩ = some (.int .i64 (L.getD q 0))) : ∀ j u, (ivs L)[j]? = some u → w.cell? ((⟨b, o, none⟩ : Addr).add j) = some u := by
  intro j u hj
  unfold ivs at hj
  rw [List.getElem?_map] at hj
  obtain ⟨x, hx, rfl⟩ := Option.map_eq_some_iff.1 hj
  have hq := (List.getElem?_eq_some_iff.1 hx).1
  rw [Addr.add_lit, h j hq, List.getD_eq_getElem?_getD, hx]
  rfl
end Mem
set_option maxRecDepth 20000 in
set_option maxHeartbeats 1600000 in
theorem clone_l (x : Ls) (w : World) (hx : NsIn w x.a x.L) (hl : x.L.length ≤ 1000000) :
    Calls Try.prog 21 #[x.v] w fun e w' => ∃ a c, e = .returned (Ls.v ⟨a, x.L, c⟩) ∧ NsIn w' a x.L ∧ (x.L = [] ∨ ∃ g, a = some ⟨g, 0, none⟩ ∧ w.heap.size ≤ g) ∧ Below w.heap.size w w' := by
  obtain ⟨xa, L, xc⟩ := x
  unfold Ls.v
  dsimp only at hx hl ⊢
  obtain ⟨i0, hi, hz0, hz1, hz2⟩ := info_parts info3
  cases xa with
  | none =>
    have h0 : L = [] := by
      rcases hx with h | ⟨b, o, h, _⟩
      · exact h
      · cases h
    subst h0
    have q22 : ∀ (w : World) (a : Option Addr) (n c n' c' : Nat), (binOp .eql 23 (.slice a n c) (.slice none n' c')).run Try.prog w = .ok (.bool a.isNone) w := fun w a n c n' c' => Lib.run_eql_slice_nil w _ _ a n c n' c' Try.underlying23
    go_enter Try.func21, Try.ntmps21
    go_wp2_with fail
    go_ret
    exact ⟨none, 0, rfl, .inl rfl, .inl (by simp), Below.refl _ _⟩
  | some ad =>
    have hn : ∀ w' o, w' = w.alloc o → ∀ j u, (ivs L)[j]? = some u → w'.cell? (ad.add j) = some u := by
      rintro w' o rfl
      rcases hx with h | ⟨b, o2, h, hb, hc⟩
      · subst h; intro j u hj; simp [ivs] at hj
      · cases h
        exact ns_news fun q hq => cell_next (hc q hq) ((Below.refl _ _).alloc (Nat.le_refl _) o)
    have HN := Lib.hid hn
    have HL := Lib.hid (show (ivs L).length = L.length * 1 by simp [ivs])
    have H1 := Lib.hid (show ∀ u ∈ ivs L, u.oneCell' = true by
      intro u hu
      obtain ⟨x, _, rfl⟩ := List.mem_map.1 hu
      rfl)
    clear hn hx
    have q22 : ∀ (w : World) (a : Option Addr) (n c n' c' : Nat), (binOp .eql 23 (.slice a n c) (.slice none n' c')).run Try.prog w = .ok (.bool a.isNone) w := fun w a n c n' c' => Lib.run_eql_slice_nil w _ _ a n c n' c' Try.underlying23
    go_enter Try.func21, Try.ntmps21
    go_wp2_with (at_builtin; refine wpList_append_own _ rfl _ _ 23 rfl w.heap.size 3 i0 (.int .i64 0) 1 8 Try.underlying23 hi hz0 hz1 hz2 rfl (by decide) _ _ _ rfl (World.ownsRow_made w #[] 0 (Nat.le_refl _) (Nat.zero_le _) rfl) ad L.length xc (ivs L) rfl HL.out (HN.out _ _ rfl) H1.out (by unfold maxLen; omega) (by omega) (by simp) ?_; intro v' w1 hown hgrow hnil; have HO := Lib.hid hown; have HG := Lib.hid hgrow; clear hown hgrow hnil)
    go_ret
    rw [Nat.zero_add, List.nil_append] at HO
    obtain ⟨a, c, rfl, h, hn⟩ := own_ns HO.out
    exact ⟨a, c, rfl, h, hn, ((Below.refl _ w).alloc (Nat.le_refl _) _).grown HG.out (by simp) (by intro k hk; cases hk; simp)⟩
namespace Mem
def lvs (C : List Ls) : List Value := C.map Ls.v
theorem ls_news {w : World} {b o : Nat} {C : List Ls} (h : ∀ q, q < C.length → w.cell? ⟨b, o + q, none⟩ = some (C.getD q Ls.zero).v) : ∀ j u, (lvs C)[j]? = some u → w.cell? ((⟨b, o, none⟩ : Addr).add j) = some u := by
  intro j u hj
  unfold lvs at hj
  rw [List.getElem?_map] at hj
  obtain ⟨x, hx, rfl⟩ := Option.map_eq_some_iff.1 hj
  have hq := (List.getElem?_eq_some_iff.1 hx).1
  rw [Addr.add_lit, h j hq, List.getD_eq_getElem?_getD, hx]
  rfl
end Mem
set_option maxRecDepth 20000 in
set_option maxHeartbeats 1600000 in
theorem cloneL_l (a : Option Addr) (C : List Ls) (c : Nat) (w : World) (hx : LsIn w a C) (hl : C.length ≤ 1000000) (hc0 : a = none → C = [] ∧ c = 0) :
    Calls Try.prog 18 #[.slice a C.length c] w fun e w' => ∃ v, e = .returned v ∧ w'.ownsRow w.heap.size 23 1 v C.length (lvs C) ∧ Below w.heap.size w w' := by
  obtain ⟨i0, hi, hz0, hz1, hz2⟩ := info_parts info23
  cases a with
  | none =>
    obtain ⟨rfl, rfl⟩ := hc0 rfl
    have q22 : ∀ (w : World) (a : Option Addr) (n c n' c' : Nat), (binOp .eql 22 (.slice a n c) (.slice none n' c')).run Try.prog w = .ok (.bool a.isNone) w := fun w a n c n' c' => Lib.run_eql_slice_nil w _ _ a n c n' c' Try.underlying22
    go_enter Try.func18, Try.ntmps18
    go_wp2_with fail
    go_ret
    exact ⟨_, rfl, ⟨rfl, .inl ⟨rfl, rfl⟩⟩, Below.refl _ _⟩
  | some ad =>
    have hn : ∀ w' o, w' = w.alloc o → ∀ j u, (lvs C)[j]? = some u → w'.cell? (ad.add j) = some u := by
      rintro w' o rfl
      rcases hx with h | ⟨b, o2, h, hb, hc⟩
      · subst h; intro j u hj; simp [lvs] at hj
      · cases h
        exact ls_news fun q hq => cell_next (hc q hq).1 ((Below.refl _ _).alloc (Nat.le_refl _) o)
    have HN := Lib.hid hn
    have HL := Lib.hid (show (lvs C).length = C.length * 1 by simp [lvs])
    have H1 := Lib.hid (show ∀ u ∈ lvs C, u.oneCell' = true by
      intro u hu
      obtain ⟨x, _, rfl⟩ := List.mem_map.1 hu
      rfl)
    clear hn hx hc0
    have q22 : ∀ (w : World) (a : Option Addr) (n c n' c' : Nat), (binOp .eql 22 (.slice a n c) (.slice none n' c')).run Try.prog w = .ok (.bool a.isNone) w := fun w a n c n' c' => Lib.run_eql_slice_nil w _ _ a n c n' c' Try.underlying22
    go_enter Try.func18, Try.ntmps18
    go_wp2_with (at_builtin; refine wpList_append_own _ rfl _ _ 22 rfl w.heap.size 23 i0 (.slice none 0 0) 1 24 Try.underlying22 hi hz0 hz1 hz2 rfl (by decide) _ _ _ rfl (World.ownsRow_made w #[] 0 (Nat.le_refl _) (Nat.zero_le _) rfl) ad C.length c (lvs C) rfl HL.out (HN.out _ _ rfl) H1.out (by unfold maxLen; omega) (by omega) (by simp) ?_; intro v' w1 hown hgrow hnil; have HO := Lib.hid hown; have HG := Lib.hid hgrow; clear hown hgrow hnil)
    go_ret
    rw [Nat.zero_add, List.nil_append] at HO
    exact ⟨_, rfl, HO.out, ((Below.refl _ w).alloc (Nat.le_refl _) _).grown HG.out (by simp) (by intro k hk; cases hk; simp)⟩
end Go.Proofs.Ythahhibenejgfaa
