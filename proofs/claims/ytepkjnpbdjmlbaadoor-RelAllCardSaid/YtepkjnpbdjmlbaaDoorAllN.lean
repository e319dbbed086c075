import Derived.Test.YtepkjnpbdjmlbaaDoorAllM
import Derived.Laws.AppendOwnNone
namespace Go.Proofs.YtepkjnpbdjmlbaaDoor
open Go.RowKit RelA
attribute [local irreducible] RelA.rcells
namespace RelA
/-- a slice of pairs that came in -/
def PIn (w : World) (a : Option Addr) (L : List (Int × Int)) (c : Nat) : Prop :=
  (a = none ∧ L = [] ∧ c = 0) ∨ (∃ ad, a = some ad ∧ L = []) ∨ ∃ b o, a = some ⟨b, o, none⟩ ∧ b < w.heap.size ∧ ∀ i, i < L.length →
    w.cell? ⟨b, o + i * 2, none⟩ = some (.int .i64 (L.getD i (0, 0)).1) ∧ w.cell? ⟨b, o + i * 2 + 1, none⟩ = some (.int .i64 (L.getD i (0, 0)).2)
theorem PIn.next {w w' : World} {a : Option Addr} {L : List (Int × Int)} {c : Nat} (h : PIn w a L c) (hb : Below w.heap.size w w') : PIn w' a L c := by
  rcases h with h | h | ⟨b, o, h1, h2, h3⟩
  · exact .inl h
  · exact .inr (.inl h)
  · exact .inr (.inr ⟨b, o, h1, Nat.lt_of_lt_of_le h2 hb.size, fun i hi => ⟨(hb.cell (p := ⟨b, o + i * 2, none⟩) h2).trans (h3 i hi).1, (hb.cell (p := ⟨b, o + i * 2 + 1, none⟩) h2).trans (h3 i hi).2⟩⟩)
def icells (l : List (Int × Int)) : List Value := l.flatMap fun p => [.int .i64 p.1, .int .i64 p.2]
theorem icells_len (l : List (Int × Int)) : (icells l).length = l.length * 2 := by
  induction l with
  | nil => rfl
  | cons p l ih =>
    show (_ :: _ :: icells l).length = _
    rw [List.length_cons, List.length_cons, ih, List.length_cons]; omega
theorem icells_get (l : List (Int × Int)) (i : Nat) (hi : i < l.length) : (icells l)[i * 2]? = some (.int .i64 (l.getD i (0, 0)).1) ∧ (icells l)[i * 2 + 1]? = some (.int .i64 (l.getD i (0, 0)).2) := by
  induction l generalizing i with
  | nil => simp at hi
  | cons p l ih =>
    cases i with
    | zero => exact ⟨rfl, rfl⟩
    | succ i =>
      have := ih i (by simpa using hi)
      have e1 : (i + 1) * 2 = i * 2 + 2 := by omega
      rw [e1]
      exact this
theorem icells_one (l : List (Int × Int)) (u : Value) (h : u ∈ icells l) : u.oneCell' = true := by
  unfold icells at h
  obtain ⟨p, _, hu⟩ := List.mem_flatMap.1 h
  simp at hu
  rcases hu with rfl | rfl <;> rfl
theorem wpList_copy_pairs {ops : Array Oper} {rest : List Oper} {o : Oper} {a : Act} {w : World} {Q : Exit → Act → World → Prop} (hgd : o.guard = none) (x : Operand)
    (ho : o.op = .call { callee := .builtin .append, args := #[.const (.slice none 0 0), x], argTypes := #[22, 22] }) (a1 : Option Addr) (L : List (Int × Int)) (c : Nat) (hx : a.eval x = .slice a1 L.length c) (hP : PIn w a1 L c) (hl : L.length ≤ 200)
    (h : ∀ v' w', w'.ownsRow w.heap.size 37 2 v' L.length (icells L) → Below w.heap.size w w' → wpList Tryd.prog ops Q rest (a.put o.dst v') w') : wpList Tryd.prog ops Q (o :: rest) a w := by
  obtain ⟨i0, hi, hz0, hz1, hz2⟩ := info_parts info37
  have hown0 : w.ownsRow w.heap.size 37 2 (.slice none 0 0) 0 [] := ⟨rfl, .inl ⟨rfl, rfl⟩⟩
  have hs : a.eval (.const (.slice none 0 0)) = .slice none 0 0 := rfl
  rcases hP with ⟨rfl, rfl, rfl⟩ | hP
  · refine wpList_append_own_none hgd _ x 22 ho w.heap.size 37 i0 2 Tryd.underlying22 hi _ 0 [] hs hown0 hx ?_
    exact h _ _ ⟨rfl, .inl ⟨rfl, rfl⟩⟩ (Below.refl _ _)
  · have main : ∀ ad, a1 = some ad → (∀ j u, (icells L)[j]? = some u → w.cell? (ad.add j) = some u) → wpList Tryd.prog ops Q (o :: rest) a w := by
      rintro ad rfl hc
      refine wpList_append_own w hgd _ x 22 ho w.heap.size 37 i0 (.agg #[.int .i64 0, .int .i64 0]) 2 16 Tryd.underlying22 hi hz0 hz1 hz2 rfl (by decide) _ 0 [] hs hown0 ad L.length c (icells L) hx (icells_len L) hc (icells_one L) (by unfold maxLen; omega) (by omega) (Nat.le_refl _) ?_
      intro v' w' h1 h2 _
      rw [Nat.zero_add, List.nil_append] at h1
      exact h v' w' h1 ((Below.refl _ _).grown h2 (Nat.le_refl _) (fun k hk => by cases hk))
    rcases hP with ⟨ad, rfl, rfl⟩ | ⟨b, off, rfl, hb, hcell⟩
    · exact main ad rfl (fun j u hu => by simp [icells] at hu)
    · refine main _ rfl (fun j u hu => ?_)
      have hj : j < L.length * 2 := by
        have := (List.getElem?_eq_some_iff.1 hu).1
        rwa [icells_len] at this
      have hadd : (⟨b, off, none⟩ : Addr).add j = ⟨b, off + j, none⟩ := by unfold Addr.add; split <;> simp_all
      rw [hadd]
      have h1 := hcell (j / 2) (by omega)
      have h2 := icells_get L (j / 2) (by omega)
      rcases Nat.mod_two_eq_zero_or_one j with e | e
      · have e2 : j / 2 * 2 = j := by omega
        rw [e2] at h1 h2
        rw [h1.1, ← h2.1, hu]
      · have e2 : j / 2 * 2 + 1 = j := by omega
        have e3 : off + j / 2 * 2 + 1 = off + j := by omega
        rw [e2] at h2
        rw [e3] at h1
        rw [h1.2, ← h2.2, hu]
end RelA
theorem new_ownI (n : Int) (base : Nat) (v : Value) (L : List (Int × Int)) (w : World) (hown : w.ownsRow base 37 2 v L.length (icells L)) :
    Calls Tryd.prog 8 #[.int .i64 n, v] w fun e w' => e = .returned (.pointer (some ⟨w.heap.size, 0, none⟩)) ∧ At w' w.heap.size (clampN n) (newR (clampN n) L) ∧ Below w.heap.size w w' := by
  obtain ⟨hl, ⟨rfl, h0⟩ | ⟨g, cap, cur, rfl, hg, hcur, hc1, hc2, hc3, hc4⟩⟩ := hown
  · have : L = [] := List.length_eq_zero_iff.1 h0
    subst this
    exact new_nil n w
  · have hget : ∀ j, j < L.length * 2 → w.cell? ⟨g, j, none⟩ = (icells L)[j]? := by
      intro j hj
      rw [cell_of_row w g j cur _ _ hcur, ← hc4, List.getElem?_take, if_pos hj]
      simp
    exact new_some n g 0 L cap w (by omega) (Array.getElem?_eq_some_iff.1 hcur).1 (fun i hi => by
      have hp := icells_get L i hi
      rw [Nat.zero_add, hget _ (by omega), hget _ (by omega)]
      exact hp)
section
attribute [local go_sem ↓ high] RelA.execOp_max RelA.execOp_min
attribute [local go_sem ↓] RelA.execOp_build_ref
attribute [local go_sem] RelA.run_maxOp RelA.run_minOp RelA.run_buildRef
set_option maxHeartbeats 800000 in
theorem rnew_zero (n : Int) (a : Option Addr) (c : Nat) (w : World) :
    Calls Tryd.prog 9 #[.int .i64 n, .slice a 0 c] w fun e w' => e = .returned (.pointer (some ⟨w.heap.size, 0, none⟩)) ∧ RAt w' w.heap.size (clampN n) (fun _ _ => false) ∧ Below w.heap.size w w' := by
  have hcn := clamp_eq n
  generalize clampN n = N at *
  go_enter Tryd.func9, Tryd.ntmps9
  go_wp2_with fail
  go_loopw [6] (fun i wr => i = .int .i64 0 ∧ RAt wr w.heap.size N (fun _ _ => false) ∧ Below w.heap.size w wr) (fun i _ => 0)
  case atStart => exact ⟨rfl, (by unfold RAt; rw [← refV_nat]; exact heap_alloc_new _ _), (Below.refl _ _).alloc (Nat.le_refl _) _⟩
  case round =>
    obtain ⟨rfl, hat, hbe⟩ := hrel
    have HAT := Lib.hid hat
    clear hat
    go_wp2_with fail
    go_ret
    exact ⟨rfl, HAT.out, hbe⟩
end
theorem rnew_in (n : Int) (a : Option Addr) (L : List (Int × Int)) (c : Nat) (w : World) (hl : L.length ≤ 200) (h : PIn w a L c) :
    Calls Tryd.prog 9 #[.int .i64 n, .slice a L.length c] w fun e w' => e = .returned (.pointer (some ⟨w.heap.size, 0, none⟩)) ∧ RAt w' w.heap.size (clampN n) (rnewM (clampN n) L) ∧ Below w.heap.size w w' := by
  rcases h with ⟨rfl, rfl, rfl⟩ | ⟨ad, rfl, rfl⟩ | ⟨b, o, rfl, hb, hc⟩
  · exact rnew_zero n none 0 w
  · exact rnew_zero n _ c w
  · exact rnew_some n b o L c w (by unfold maxLen; omega) hb hc
end Go.Proofs.YtepkjnpbdjmlbaaDoor
