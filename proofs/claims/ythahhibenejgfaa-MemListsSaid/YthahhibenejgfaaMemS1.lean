/-
  A list put in its place: what the row is afterwards. Conditions: those that the theorems print.
-/
import Derived.Test.YthahhibenejgfaaMemS0
namespace Go.Proofs.Ythahhibenejgfaa
open Go.RowKit Mem
namespace Mem
theorem own_forms {w : World} {B : Nat} {v : Value} {E : List Ls} (h : w.ownsRow B 23 1 v E.length (lvs E)) :
    (v = .slice none 0 0 ∧ E = []) ∨ ∃ g o vc, v = .slice (some ⟨g, o, none⟩) E.length vc ∧ E.length ≤ vc ∧ g < w.heap.size ∧ ∀ q, q < E.length → w.cell? ⟨g, o + q, none⟩ = some (E.getD q Ls.zero).v := by
  have h' := h
  obtain ⟨_, ⟨rfl, h0⟩ | ⟨g, c, cur, rfl, h2, h3, h4, _⟩⟩ := h
  · exact .inl ⟨rfl, List.length_eq_zero_iff.1 h0⟩
  · refine .inr ⟨g, 0, c, rfl, h4, (Array.getElem?_eq_some_iff.1 h3).1, fun q hq => (own_cell h' q _ ?_).1⟩
    unfold lvs
    rw [List.getElem?_map, List.getD_eq_getElem?_getD, List.getElem?_eq_getElem hq]
    rfl
theorem nil_own : (Value.slice none 0 0).ownBlock = none := rfl
theorem ref_ins {C E : List Ls} {i k : Nat} {w W w1 w2 w4 w5 : World} {v1 v4 v5 : Value} {r : List Int} {a2 : Option Addr} {c2 : Nat} {R : Obj} {xs : List Value}
    (hpw : PW E) (hhd : Held C (i + 1) (E.take k ++ [⟨a2, r, c2⟩] ++ E.drop k)) (hE : E.length ≤ i) (hk : k ≤ E.length) (hlt : ∀ p, p < k → Lt (E.getD p Ls.zero).L r) (hgt : k < E.length → Lt r (E.getD k Ls.zero).L) (hEn : ∀ x ∈ E, NsIn W x.a x.L) (hb : Below w.heap.size w W)
    (o1 : w1.ownsRow W.heap.size 23 1 v1 (0 + k) xs) (g1 : W.grownBy w1 (Value.slice none 0 0).ownBlock)
    (o2 : w2.ownsRow w1.heap.size 3 1 (.slice a2 r.length c2) r.length (ivs r)) (g2 : w1.grownBy w2 (Value.slice none 0 0).ownBlock)
    (g4 : (w2.alloc R).grownBy w4 v1.ownBlock) (t4 : v4.ownBlock = v1.ownBlock ∨ v4.ownBlock = some (w2.alloc R).heap.size) {n4 : Nat} {x4 : List Value} (o4 : w4.ownsRow W.heap.size 23 1 v4 n4 x4)
    (g5 : w4.grownBy w5 v4.ownBlock) (t5 : v5.ownBlock = v4.ownBlock ∨ v5.ownBlock = some w4.heap.size)
    (o5 : w5.ownsRow W.heap.size 23 1 v5 (0 + k + 1 + (E.length - k)) ([] ++ lvs (E.take k) ++ lvs [⟨a2, r, c2⟩] ++ lvs (E.drop k))) : RefOk C (i + 1) w w5 v5 := by
  have s1 := g1.size
  have s2 := g2.size
  have s3 : (w2.alloc R).heap.size = w2.heap.size + 1 := by simp
  have s4 := g4.size
  have b1 : Below W.heap.size W w1 := (Below.refl _ _).grown g1 (Nat.le_refl _) (fun j hj => by simp [nil_own] at hj)
  have b2 : Below W.heap.size W w2 := b1.grown g2 s1 (fun j hj => by simp [nil_own] at hj)
  have b3 : Below W.heap.size W (w2.alloc R) := b2.alloc (by omega) _
  have b4 : Below W.heap.size W w4 := b3.grown g4 (by omega) (fun j hj => (o1.lt j hj).1)
  have b5 : Below W.heap.size W w5 := b4.grown g5 (by omega) (fun j hj => (o4.lt j hj).1)
  obtain ⟨a', c', e', hn2, hw2⟩ := own_ns o2
  have he : Value.slice a2 r.length c2 = Value.slice a' r.length c' := e'

  injection he with e1 _ e2
  subst e1 e2
  have f3 : Far v1 (w2.alloc R) ⟨a2, r, c2⟩ := far_of (hn2.next ((Below.refl _ _).alloc (Nat.le_refl _) _)) (fun b o h1 h2 h3 => by
    have h4 := (o1.lt b h3).2
    rcases hw2 with h5 | ⟨g, h5, h6⟩
    · exact h2 h5
    · rw [h5] at h1
      cases h1
      omega)
  have f5 := far_grown (far_grown f3 g4 t4) g5 t5
  have e : [] ++ lvs (E.take k) ++ lvs [⟨a2, r, c2⟩] ++ lvs (E.drop k) = lvs (E.take k ++ [⟨a2, r, c2⟩] ++ E.drop k) := by rw [lvs_append, lvs_append, List.nil_append]
  have en : 0 + k + 1 + (E.length - k) = (E.take k ++ [(⟨a2, r, c2⟩ : Ls)] ++ E.drop k).length := by simp; omega
  rw [e, en] at o5
  refine ⟨W.heap.size, _, ins_pw (x := ⟨a2, r, c2⟩) hpw hk hlt hgt, hhd, by rw [← en]; omega, o5, fun x hx => ?_, below_next hb b5 hb.size⟩
  rcases List.mem_append.1 hx with hx | hx
  · rcases List.mem_append.1 hx with hx | hx
    · exact (hEn x (List.mem_of_mem_take hx)).next b5
    · rw [List.mem_singleton.1 hx]
      exact f5.ns
  · exact (hEn x (List.mem_of_mem_drop hx)).next b5
theorem ref_on {C E : List Ls} {i : Nat} {w wr W : World} {B : Nat} {v : Value} (hpw : PW E) (hhd : Held C (i + 1) E) (hE : E.length ≤ i) (hrow : wr.ownsRow B 23 1 v E.length (lvs E)) (hEn : ∀ x ∈ E, NsIn wr x.a x.L) (hb : Below w.heap.size w wr) (g : Below wr.heap.size wr W) : RefOk C (i + 1) w W v :=
  ⟨B, E, hpw, hhd, by omega, own_next hrow g, fun x hx => (hEn x hx).next g, below_next hb g hb.size⟩
theorem nlt_lt {l r : List Int} (h : ¬ cmpL l r < 0) (g : l ≠ r) : Lt r l := by
  rcases tri l r with e | e | e
  · exact absurd e h
  · exact absurd e g
  · exact e
theorem ns_src {w : World} {a : Option Addr} {r : List Int} (h : NsIn w a r) : r.length = 0 ∨ ∃ p, a = some p ∧ ∀ j u, (ivs r)[j]? = some u → w.cell? (p.add j) = some u := by
  rcases h with h | ⟨b, o, h1, _, h3⟩
  · exact .inl (by rw [h]; rfl)
  · exact .inr ⟨_, h1, ns_news h3⟩
theorem ivs_len (r : List Int) : (ivs r).length = r.length := by simp [ivs]
theorem ivs_one (r : List Int) : ∀ u ∈ ivs r, u.oneCell' = true := by
  intro u hu
  obtain ⟨x, _, rfl⟩ := List.mem_map.1 hu
  rfl
end Mem
end Go.Proofs.Ythahhibenejgfaa
