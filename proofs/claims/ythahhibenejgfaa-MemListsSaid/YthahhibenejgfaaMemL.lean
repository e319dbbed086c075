/-
  What the laws on sorted rows of lists need: Place, two sorted rows with the same lists are the same, contracts at a known answer. Conditions: those that the theorems print.
-/
import Derived.Test.YthahhibenejgfaaMemK
import Derived.Deep.AppendLies
namespace Go.Proofs.Ythahhibenejgfaa
open Go.RowKit Mem
namespace Mem
theorem place_neg (n : Int) (k : Nat) (hk : 0 < k) (h : n.tmod k < 0) : n.tmod k + k = n % k := by
  have := Int.tmod_eq_emod (a := n) (b := k)
  have h1 := Int.emod_nonneg n (show (k : Int) ≠ 0 by omega)
  split at this <;> omega
theorem place_pos (n : Int) (k : Nat) (hk : 0 < k) (h : ¬ n.tmod k < 0) : n.tmod k = n % k := by
  have := Int.tmod_eq_emod (a := n) (b := k)
  have h1 := Int.emod_lt_of_pos n (show (0 : Int) < k by omega)
  split at this <;> omega
/-- rows that rise and hold the same lists are the same -/
theorem up_pw : ∀ {l : List (List Int)}, UpL l → l.Pairwise Lt
  | [], _ => List.Pairwise.nil
  | x :: l, h => by
    have h1 : UpL l := fun i hi => by
      have := h (i + 1) (by simpa using hi)
      simpa using this
    have ih := up_pw h1
    refine List.Pairwise.cons (fun y hy => ?_) ih
    cases l with
    | nil => cases hy
    | cons z l =>
      have hxz : Lt x z := by
        have := h 0 (by simp)
        simpa using this
      rcases List.mem_cons.1 hy with rfl | hy
      · exact hxz
      · exact lt_trans hxz ((List.pairwise_cons.1 ih).1 y hy)
theorem pw_eq : ∀ {l r : List (List Int)}, l.Pairwise Lt → r.Pairwise Lt → (∀ L, L ∈ l ↔ L ∈ r) → l = r
  | [], [], _, _, _ => rfl
  | [], y :: r, _, _, h => by have := (h y).2 (by simp); cases this
  | x :: l, [], _, _, h => by have := (h x).1 (by simp); cases this
  | x :: l, y :: r, hl, hr, h => by
    obtain ⟨hx, hl'⟩ := List.pairwise_cons.1 hl
    obtain ⟨hy, hr'⟩ := List.pairwise_cons.1 hr
    have exy : x = y := by
      rcases List.mem_cons.1 ((h x).1 (by simp)) with e | e
      · exact e
      · rcases List.mem_cons.1 ((h y).2 (by simp)) with g | g
        · exact g.symm
        · exact absurd (lt_trans (hy x e) (hx y g)) (lt_irrefl _)
    subst exy
    rw [pw_eq hl' hr' fun L => ?_]
    constructor
    · intro g
      rcases List.mem_cons.1 ((h L).1 (List.mem_cons_of_mem _ g)) with e | e
      · rw [e] at g; exact absurd (hx x g) (lt_irrefl _)
      · exact e
    · intro g
      rcases List.mem_cons.1 ((h L).2 (List.mem_cons_of_mem _ g)) with e | e
      · rw [e] at g; exact absurd (hy x g) (lt_irrefl _)
      · exact e
/-- what sorting yields hangs on which lists there are alone -/
theorem dd_eq {D D' S S' C C' : List Ls} (h : D.map Ls.L = Dd S S.length) (hp : S.Perm C) (hs : Asc S) (h' : D'.map Ls.L = Dd S' S'.length) (hp' : S'.Perm C') (hs' : Asc S') (hm : ∀ L, L ∈ mL C ↔ L ∈ mL C') : mL D = mL D' := by
  unfold mL
  rw [h, h']
  refine pw_eq (up_pw (Dd_up S hs _ (Nat.le_refl _))) (up_pw (Dd_up S' hs' _ (Nat.le_refl _))) fun L => ?_
  have e : ∀ {D S C : List Ls}, D.map Ls.L = Dd S S.length → S.Perm C → (L ∈ Dd S S.length ↔ L ∈ mL C) := fun {D S C} h hp => by
    rw [← h]
    have := mem_of h hp L
    unfold mL
    simpa [List.mem_map] using this
  rw [e h hp, e h' hp', hm]
/-- lists in memory, few enough -/
structure Lv (w : World) (a : Option Addr) (C : List Ls) (c : Nat) : Prop where
  on : LsIn w a C
  len : C.length ≤ 1000
  each : ∀ x ∈ C, x.L.length ≤ 1000
  none : a = none → C = [] ∧ c = 0
theorem Lv.next {w w' : World} {a : Option Addr} {C : List Ls} {c : Nat} (h : Lv w a C c) (hb : Below w.heap.size w w') : Lv w' a C c := ⟨h.on.next hb, h.len, h.each, h.none⟩
theorem Lv.lens {w : World} {a : Option Addr} {C : List Ls} {c : Nat} (h : Lv w a C c) : ∀ q, q < C.length → (C.getD q Ls.zero).L.length ≤ 1000000 := fun q hq => by
  have := h.each _ (getD_mem hq)
  omega
theorem lv_of {w : World} {a : Option Addr} {C : List Ls} {c : Nat} (h : LsIn w a C) (hf : Few C) (h0 : a = none → C = [] ∧ c = 0) : Lv w a C c := ⟨h, by have := hf.1; omega, fun x hx => by have := few_mem hf hx; omega, h0⟩
theorem lists_lens {D S C : List Ls} (h : D.map Ls.L = Dd S S.length) (hp : S.Perm C) {b : Nat} (hc : ∀ x ∈ C, x.L.length ≤ b) : ∀ x ∈ D, x.L.length ≤ b := fun x hx => by
  obtain ⟨y, hy, hL⟩ := (mem_of h hp x.L).1 ⟨x, hx, rfl⟩
  rw [← hL]
  exact hc y hy
/-- what sort answers -/
def SortSays (C : List Ls) (w : World) (e : Ending) (w' : World) : Prop := ∃ (D : List Ls) (a' : Option Addr) (c' : Nat) (S : List Ls), e = .returned (.slice a' D.length c') ∧ Lv w' a' D c' ∧ D.map Ls.L = Dd S S.length ∧ S.Perm C ∧ Asc S ∧ Below w.heap.size w w'
end Mem
theorem sort_v (HS : SortC) (HN : SortN) {w : World} {a : Option Addr} {C : List Ls} {c : Nat} (h : Lv w a C c) : Calls Try.prog 8 #[.slice a C.length c] w (SortSays C w) := by
  refine (sort_l HS HN a C c w h.on h.len h.lens h.none).mono ?_
  rintro e w' ⟨D, a', c', S, rfl, h1, h2, h3, h4, h5, h6⟩
  refine ⟨D, a', c', S, rfl, ⟨h1, ?_, lists_lens h3 h4 h.each, h2⟩, h3, h4, h5, h6⟩
  have e1 := (Dd_len S S.length).1
  rw [← h3, List.length_map, h4.length_eq] at e1
  have := h.len
  omega
theorem in_v (HS : SortC) (HN : SortN) {w : World} {a b : Option Addr} {C D : List Ls} {c d : Nat} (h : Lv w a C c) (g : Lv w b D d) (R : Bool) (hR : decide (∀ L ∈ mL C, L ∈ mL D) = R) :
    Calls Try.prog 13 #[.slice a C.length c, .slice b D.length d] w fun e w' => e = .returned (.bool R) ∧ Below w.heap.size w w' := by
  rw [← hR]
  exact in_l HS HN a b C D c d w h.on g.on (by have := h.len; omega) h.lens (by have := g.len; omega) g.lens g.none
theorem has_v {w : World} {a : Option Addr} {C : List Ls} {c : Nat} (h : Lv w a C c) (m : Ls) (hm : NsIn w m.a m.L) (hl : m.L.length ≤ 1000) (R : Bool) (hR : decide (m.L ∈ mL C) = R) :
    Calls Try.prog 11 #[.slice a C.length c, m.v] w fun e w' => e = .returned (.bool R) ∧ Below w.heap.size w w' := by
  rw [← hR]
  exact has_l a C c m w h.on hm (by have := h.len; omega) h.lens (by omega)
theorem same_v {w : World} {a b : Option Addr} {C D : List Ls} {c d : Nat} (h : Lv w a C c) (g : Lv w b D d) (R : Bool) (hR : decide (mL C = mL D) = R) :
    Calls Try.prog 9 #[.slice a C.length c, .slice b D.length d] w fun e w' => e = .returned (.bool R) ∧ Below w.heap.size w w' := by
  rw [← hR]
  refine (sameLists_l a b C D c d w h.on g.on (by have := h.len; omega) h.lens).mono ?_
  rintro e w' ⟨h1, q, rfl⟩
  exact ⟨h1, below_drewN (Below.refl _ _) q⟩
set_option maxRecDepth 100000 in
set_option maxHeartbeats 400000 in
theorem place_l (n : Int) (k : Nat) (w : World) (hk : 0 < k) (hk2 : k ≤ 1000000) :
    Calls Try.prog 15 #[.int .i64 n, .int .i64 k] w fun e w' => e = .returned (.int .i64 (n % k)) ∧ w = w' := by
  by_cases hz : n.tmod k < 0
  · have HM := Lib.hid (place_neg n k hk hz)
    have hlow : -(k : Int) < n.tmod k := by
      have := HM.out
      have h1 := Int.emod_nonneg n (show (k : Int) ≠ 0 by omega)
      by_cases he : n % (k : Int) = 0
      · have h0 : n.tmod k = 0 := Int.tmod_eq_zero_of_dvd (Int.dvd_of_emod_eq_zero he)
        omega
      · omega
    go_enter Try.func15, Try.ntmps15
    go_wp2_with fail
    go_ret
    exact ⟨by rw [← HM.out]; rfl, rfl⟩
  · have HM := Lib.hid (place_pos n k hk hz)
    go_enter Try.func15, Try.ntmps15
    go_wp2_with fail
    go_ret
    exact ⟨by rw [← HM.out]; rfl, rfl⟩
/-- as 'step_append_lies', nothing appended too -/
theorem step_append_own {P : Program} {w : World} {ops : Array Oper} {o : Oper} {a : Act} {K : Act → World → Prop} {Q : Exit → Act → World → Prop} {E : Prop} (hgd : o.guard = none) (s x : Operand) (t : TypeId)
    (ho : o.op = .call { callee := .builtin .append, args := #[s, x], argTypes := #[t, t] })
    (base : Nat) (e : TypeId) (i : TypeInfo) (z : Value) (size bytes : Nat) (ht : P.underlying t = some (.slice e)) (hi : P.info? e = some i) (hz : i.zero = some z)
    (hsize : i.size = size) (hby : i.bytes = bytes) (hzs : z.cells.size = size) (hsz : 0 < size)
    (v : Value) (n : Nat) (xs : List Value) (hs : a.eval s = v) (hown : w.ownsRow base e size v n xs)
    (ad : Addr) (m c : Nat) (news : List Value) (hx : a.eval x = .slice (some ad) m c) (hl : news.length = m * size) (hnews : ∀ j u, news[j]? = some u → w.cell? (ad.add j) = some u) (h1 : ∀ u ∈ news, u.oneCell' = true)
    (h63 : n + m ≤ maxLen) (hbytes : (n + m) * bytes ≤ 140737488355328) (hbase : base ≤ w.heap.size)
    (h : ∀ v' w', w'.ownsRow base e size v' (n + m) (xs ++ news) → w.grownBy w' v.ownBlock → K (a.put o.dst v') w') :
    if Region.wanted o (yielded ops a.tmps) = true then Oper.wp P o a w K Q else E := by
  have hw : Region.wanted o (yielded ops a.tmps) = true := by simp [Region.wanted, hgd]
  rw [if_pos hw]
  exact wp_append_own w s x t ho base e i z size bytes ht hi hz hsize hby hzs hsz v n xs hs hown ad m c news hx hl hnews h1 h63 hbytes hbase fun v' w' h2 h3 _ => h v' w' h2 h3
namespace Mem
theorem getD_drop (C : List Ls) (k q : Nat) : (C.drop k).getD q Ls.zero = C.getD (k + q) Ls.zero := by
  simp [List.getD_eq_getElem?_getD, List.getElem?_drop]
theorem getD_take (C : List Ls) (k q : Nat) (h : q < k) : (C.take k).getD q Ls.zero = C.getD q Ls.zero := by
  simp [List.getD_eq_getElem?_getD, List.getElem?_take_of_lt h]
theorem lvs_append (C D : List Ls) : lvs (C ++ D) = lvs C ++ lvs D := by simp [lvs]
theorem lvs_len (C : List Ls) : (lvs C).length = C.length := by simp [lvs]
theorem lvs_one (C : List Ls) : ∀ u ∈ lvs C, u.oneCell' = true := by
  intro u hu
  unfold lvs at hu
  rw [List.mem_map] at hu
  obtain ⟨x, _, rfl⟩ := hu
  rfl
end Mem
end Go.Proofs.Ythahhibenejgfaa
