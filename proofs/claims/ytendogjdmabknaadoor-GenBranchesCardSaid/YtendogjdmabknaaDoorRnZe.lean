/-
  One text of a symbolic evaluator over the model, shown sound once for every program: no statement is claimed here.
-/
import Derived.Test.YtendogjdmabknaaDoorRnZd
namespace Go.Rn
variable {ρ : Nat → Int} {P : Program}
/-- a law over variables that are laid: it returns true, nothing old has turned -/
theorem law_from {orc : Nat → RV → Option RV} (ho : OrcOk P ρ orc) {deep f g n : Nat} {c : RV} {h0 : HT} {m0 : Mp} {w : World} (hgn : g ≤ n) (hd0 : ∀ b c z, hg h0 b = .bk c z → b < n) (s : Sim P ρ m0 g h0 w) (gl : Glob P m0) (hfree : ∀ b, n ≤ b → m0 b = none)
    (e : isB (callX (fun _ _ _ => none) (fun f => compF P f) orc noKc deep f c n h0 n) = true) {vs : List Value} (hd : denC ρ m0 c vs) (hf : f < 16777216 := by decide) :
    Calls P f vs.toArray w fun e w' => e = .returned (.bool true) ∧ Old w w' := by
  unfold isB at e
  split at e
  · rename_i h' n' hx
    obtain ⟨_, hc1, _⟩ := callX_ok (g := g) no_ys (fun f => compF P f) (fun _ _ h => h) ho (kc := noKc) (fun _ _ _ h => by cases h) deep f c n h0 n _ _ _ hx hgn (Nat.le_refl _)
    obtain ⟨_, hc⟩ := hc1 hf
    refine (hc m0 w vs s gl hd (fun b h1 _ => hfree b h1)).mono ?_
    rintro e w' ⟨u, m', rfl, T, hu⟩
    have : u = .bool true := hu
    subst this
    exact ⟨rfl, T.keep.os, T.keep.tape, T.keep.output, T.keep.size, fun k hk => T.keep.block k hk (fun b c z O Z hb1 hb => by have := hd0 b c z hb; omega)⟩
  · cases e
/-- the beginning with one row that is laid -/
theorem sim_one {b g q : Nat} {C : Array Value} {el : TypeId} {fr : Nat × Nat} {w : World} (hB : w.heap[b]? = some (.cells C el fr)) {c : RV} {vs : List Value} (hl : chLen c = some q) {m0 : Mp} (hd : denC ρ m0 c vs) (hc : ∀ v ∈ vs, Cell v)
    (hv : ∀ (j : Nat) (v : Value), vs[j]? = some v → C[j]? = some v) (hm : m0 b = some (b, 0, C.size)) (hgb : b < g) (hmz : q ≠ MAPZ) : Sim P ρ m0 g (hst he (.bk (lay c ce 0) q) b) w := by
  have one : ∀ b' c' z, Rn.hg (hst he (.bk (lay c ce 0) q) b) b' = .bk c' z → b' = b ∧ c' = lay c ce 0 ∧ z = q := by
    intro b' c' z h
    rcases hg_hst he (.bk (lay c ce 0) q) b b' with ⟨h1, h2 | h2⟩ | ⟨_, h2⟩
    · rw [h2] at h; cases h; exact ⟨h1, rfl, rfl⟩
    · rw [h2] at h; cases h
    · rw [h2, hg_he] at h; cases h
  have hlen := chLen_ok q vs hl hd
  have key : ∀ k, cg (lay c ce 0) k ≠ .un → k < q ∧ ∃ u, vs[k]? = some u ∧ den ρ m0 (cg (lay c ce 0) k) u := by
    intro k hk
    rcases lay_ok q vs ce 0 hl hd k hk with ⟨_, _, u, h2, h3⟩ | ⟨_, h1⟩
    · rw [Nat.sub_zero] at h2
      refine ⟨?_, u, h2, h3⟩
      rcases Nat.lt_or_ge k vs.length with p | p
      · omega
      · rw [List.getElem?_eq_none p] at h2; cases h2
    · exact absurd h1 hk
  refine ⟨fun b' c' z h => ?_, fun b' b'' c' z c'' z' B O Z O' Z' h h' _ _ => ?_⟩
  · obtain ⟨rfl, rfl, rfl⟩ := one b' c' z h
    refine ⟨b', 0, C.size, hm, .inl ⟨hmz, C, el, fr, hB, rfl, fun hgb' => by omega, fun k hk => ?_, fun k hk => ?_⟩⟩
    · rcases Classical.em (cg (lay c ce 0) k = .un) with p | p
      · exact p
      · have := (key k p).1; omega
    · obtain ⟨_, u, h2, h3⟩ := key k hk
      exact ⟨u, by rw [Nat.zero_add]; exact hv k u h2, h3, hc u (List.mem_of_getElem? h2)⟩
  · rw [(one _ _ _ h).1, (one _ _ _ h').1]
end Go.Rn
