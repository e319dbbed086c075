/-
  One text of a symbolic evaluator over the model, shown sound once for every program: no statement is claimed here.
-/
import Derived.Test.YtendogjdmabknaaRnU
namespace Go.Rn
variable {ρ : Nat → Int} {m m' : Mp} {P : Program}
variable {g fl n n' nt : Nat} {h h' : HT} {t : FT} {a : Act} {w : World} {v : RV} {ys : Ys} {cl : Cl'}
/-- the ranges within a range stand behind it -/
theorem rngs_sub : ∀ (c : Code) (i : Nat) (ps : Array Tmp) (x y : Code), (rngs c)[i]? = some (ps, x, y) → ∀ (j : Nat) (z : Array Tmp × Code × Code), (rngs x ++ rngs y)[j]? = some z → (rngs c)[i + 1 + j]? = some z := by
  have app : ∀ (A B : List (Array Tmp × Code × Code)) (i : Nat) (ps : Array Tmp) (x y : Code), (∀ i, A[i]? = some (ps, x, y) → ∀ (j : Nat) (z : Array Tmp × Code × Code), (rngs x ++ rngs y)[j]? = some z → A[i + 1 + j]? = some z) →
      (∀ i, B[i]? = some (ps, x, y) → ∀ (j : Nat) (z : Array Tmp × Code × Code), (rngs x ++ rngs y)[j]? = some z → B[i + 1 + j]? = some z) → (A ++ B)[i]? = some (ps, x, y) → ∀ (j : Nat) (z : Array Tmp × Code × Code), (rngs x ++ rngs y)[j]? = some z → (A ++ B)[i + 1 + j]? = some z := by
    intro A B i ps x y hA hB hi j z hj
    rcases Nat.lt_or_ge i A.length with q | q
    · rw [List.getElem?_append_left q] at hi
      have := hA i hi j z hj
      rw [List.getElem?_append_left (List.getElem?_eq_some_iff.1 this).1]; exact this
    · rw [List.getElem?_append_right q] at hi
      have := hB _ hi j z hj
      rw [List.getElem?_append_right (by omega), show i + 1 + j - A.length = i - A.length + 1 + j by omega]; exact this
  intro c
  induction c with
  | seq a b iha ihb => intro i ps x y; exact app _ _ i ps x y (fun i => iha i ps x y) (fun i => ihb i ps x y)
  | cond o a b iha ihb => intro i ps x y; exact app _ _ i ps x y (fun i => iha i ps x y) (fun i => ihb i ps x y)
  | block id a ih => exact ih
  | loop a ih => exact ih
  | scope a ih => exact ih
  | rangeFunc g ps0 a b iha ihb =>
    intro i ps x y hi j z hj
    cases i with
    | zero =>
      have e : (ps0, a, b) = (ps, x, y) := Option.some.inj hi
      cases e
      show ((ps0, a, b) :: (rngs a ++ rngs b))[0 + 1 + j]? = some z
      rw [show 0 + 1 + j = j + 1 by omega, List.getElem?_cons_succ]; exact hj
    | succ i =>
      have hi' : (rngs a ++ rngs b)[i]? = some (ps, x, y) := hi
      show ((ps0, a, b) :: (rngs a ++ rngs b))[i + 1 + 1 + j]? = some z
      rw [show i + 1 + 1 + j = (i + 1 + j) + 1 by omega, List.getElem?_cons_succ]
      exact app _ _ i ps x y (fun i => iha i ps x y) (fun i => ihb i ps x y) hi' j z hj
  | _ => intro i ps x y hi; cases hi
theorem loopAt_sub {key f0 nt0 : Nat} {ps : Array Tmp} {x y : Code} (hl : loopAt P key = some (f0, nt0, ps, x, y)) : f0 = key / 256 ∧ ∀ (j : Nat) (z : Array Tmp × Code × Code), (rngs x ++ rngs y)[j]? = some z → key % 256 + 1 + j < 256 ∧ loopAt P (keyAt f0 (key % 256 + 1 + j)) = some (f0, nt0, z.1, z.2.1, z.2.2) := by
  unfold loopAt at hl
  simp only [Option.bind_eq_bind, Option.bind_eq_some_iff] at hl
  obtain ⟨fn, h1, c, h2, h3⟩ := hl
  split at h3
  case isFalse => cases h3
  rename_i hlen
  simp only [Option.bind_eq_some_iff] at h3
  obtain ⟨⟨p1, x1, y1⟩, h4, h5⟩ := h3
  cases h5
  refine ⟨rfl, fun j z hj => ?_⟩
  have h6 := rngs_sub c _ _ _ _ h4 j z hj
  have h7 := (List.getElem?_eq_some_iff.1 h6).1
  refine ⟨by omega, ?_⟩
  have k1 : keyAt (key / 256) (key % 256 + 1 + j) / 256 = key / 256 := by unfold keyAt; omega
  have k2 : keyAt (key / 256) (key % 256 + 1 + j) % 256 = key % 256 + 1 + j := by unfold keyAt; omega
  unfold loopAt
  rw [k1, k2]
  simp [h1, h2, h6, hlen]
theorem rd_get {c : CT} : ∀ (q k : Nat), rd c q k ≠ .un → ∀ j, j < q → chGet (rd c q k) j = cg c (k + j)
  | 0, _, _, j, hj => by omega
  | q + 1, k, hu, j, hj => by
    have e : rd c (q + 1) k = kons (cg c k) (rd c q (k + 1)) := rfl
    obtain ⟨_, h2, h3⟩ := kons_ok e.symm hu
    rw [h3]
    cases j with
    | zero => rfl
    | succ j =>
      show chGet (rd c q (k + 1)) j = _
      rw [rd_get q (k + 1) h2 j (by omega), show k + 1 + j = k + (j + 1) by omega]
theorem rd_un {c : CT} : ∀ (q k : Nat), rd c q k ≠ .un → ∀ j, j < q → cg c (k + j) ≠ .un
  | 0, _, _, j, hj => by omega
  | q + 1, k, hu, j, hj => by
    have e : rd c (q + 1) k = kons (cg c k) (rd c q (k + 1)) := rfl
    obtain ⟨h1, h2, _⟩ := kons_ok e.symm hu
    cases j with
    | zero => exact h1
    | succ j => rw [show k + (j + 1) = k + 1 + j by omega]; exact rd_un q (k + 1) h2 j (by omega)
/-- slots laid: each is as it was, or one of those laid -/
theorem laySl_get : ∀ (l : List Pa) (c : RV) (t t' : FT), laySl l c t = some t' → ∀ k, T.get .un t' k = T.get .un t k ∨ ∃ j p, l[j]? = some p ∧ p.val = k ∧ T.get .un t' k = chGet c j
  | [], c, t, t', e, k => by
    have e1 : gN none c (some t) (fun _ _ => none) = some t' := e
    rcases gN_ok e1 (by simp) with ⟨_, e2⟩ | ⟨_, _, _, e2⟩
    · cases e2; exact .inl rfl
    · cases e2
  | p :: l, c, t, t', e, k => by
    have e1 : gN none c none (fun x r => laySl l r (tst t x p)) = some t' := e
    rcases gN_ok e1 (by simp) with ⟨_, e2⟩ | ⟨x, r, rfl, e2⟩
    · cases e2
    rcases laySl_get l r _ _ e2 k with h1 | ⟨j, q, h1, h2, h3⟩
    · have hs : T.get .un (tst t x p) k = if k = p.val then x else T.get .un t k := setP_get _ _ _ _ _
      rw [hs] at h1
      by_cases hk : k = p.val
      · rw [if_pos hk] at h1
        exact .inr ⟨0, p, rfl, hk.symm, h1⟩
      · rw [if_neg hk] at h1; exact .inl h1
    · exact .inr ⟨j + 1, q, h1, h2, h3⟩
/-- parameters laid -/
theorem laySl_fr {nt : Nat} : ∀ (ps : List Nat) (xs : RV) (args : List Value) (t t' : FT) (tmps : Array Value), (∀ i ∈ ps, i < nt) → Fr P ρ m nt t tmps → denC ρ m xs args → laySl (ps.map fun i => pa 20 (i + 1)) xs t = some t' →
    args.length = ps.length ∧ Fr P ρ m nt t' ((ps.zip args).foldl (fun (t : Array Value) (x : Tmp × Value) => t.setIfInBounds x.1 x.2) tmps)
  | [], xs, args, t, t', tmps, _, F, hd, e => by
    have e1 : gN none xs (some t) (fun _ _ => none) = some t' := e
    rcases gN_ok e1 (by simp) with ⟨h1, e2⟩ | ⟨_, _, _, e2⟩
    · cases e2
      subst h1
      rw [denC_nil.1 hd]
      exact ⟨rfl, F⟩
    · cases e2
  | i :: ps, xs, args, t, t', tmps, hi, F, hd, e => by
    have e1 : gN none xs none (fun x r => laySl (ps.map fun i => pa 20 (i + 1)) r (tst t x (pa 20 (i + 1)))) = some t' := e
    rcases gN_ok e1 (by simp) with ⟨_, e2⟩ | ⟨x, r, rfl, e2⟩
    · cases e2
    obtain ⟨u, us, rfl, hu, hus⟩ := denC_cons.1 hd
    have hlt := hi i List.mem_cons_self
    have F2 : Fr P ρ m nt (tst t x (pa 20 (i + 1))) (tmps.setIfInBounds i u) := by
      have := Fr.putD (a := { tmps := tmps, defers := [] }) F (dst := some i) (d := .d (pa 20 (i + 1))) (by show (if i < nt then some (D.d (pa 20 (i + 1))) else none) = _; rw [if_pos hlt]) hu
      exact this
    obtain ⟨h1, h2⟩ := laySl_fr ps r us _ _ _ (fun k hk => hi k (List.mem_cons_of_mem _ hk)) F2 hus e2
    exact ⟨by simp [h1], h2⟩
end Go.Rn
