/-
  One text of a symbolic evaluator over the model, shown sound once for every program: no statement is claimed here.
-/
import Derived.Test.YtphcmjojnfpkdaaDoorRnZd
import Derived.OpenShut
import Derived.ChangeArms
namespace Go.Rn
variable {ρ : Nat → Int} {P : Program}
/-- a law over variables that are laid: it returns true, nothing old has turned -/
theorem law_from {orc : Nat → RV → Option RV} (ho : OrcOk P ρ orc) {deep f g n : Nat} {c : RV} {h0 : HT} {m0 : Mp} {w : World} (hgn : g ≤ n) (hd0 : ∀ b c z, hg h0 b = .bk c z → b < n) (s : Sim P ρ m0 g h0 w) (gl : Glob P ρ m0) (hfree : ∀ b, n ≤ b → m0 b = none)
    (e : isB (callX (fun _ _ _ => none) (fun f => compF P f) orc noKc deep f c n h0 n) = true) {vs : List Value} (hd : denC ρ m0 c vs) (hf : f < 16777216 := by decide) :
    Calls P f vs.toArray w fun e w' => e = .returned (.bool true) ∧ Old w w' := by
  unfold isB at e
  split at e
  · rename_i h' n' hx
    obtain ⟨_, hc1, _⟩ := callX_ok (g := g) no_ys (fun f => compF P f) (fun _ _ h => h) ho (kc := noKc) (fun _ _ _ h => by cases h) deep f c n h0 n _ _ _ hx hgn (Nat.le_refl _)
    obtain ⟨_, hc⟩ := hc1 hf
    refine (hc m0 w vs s gl hd (fun b h1 _ => hfree b h1)).mono ?_
    rintro e w' ⟨u, m', rfl, T, hu⟩
    have : u = .bool true := hu
    subst this
    exact ⟨rfl, T.keep.os, T.keep.tape, T.keep.output, T.keep.size, fun k hk => T.keep.block k hk (fun b c z O Z hb1 hb => by have := hd0 b c z hb; omega)⟩
  · cases e
/-- the beginning with one row that is laid -/
theorem sim_one {b g q : Nat} {C : Array Value} {el : TypeId} {fr : Nat × Nat} {w : World} (hB : w.heap[b]? = some (.cells C el fr)) {c : RV} {vs : List Value} (hl : chLen c = some q) {m0 : Mp} (hd : denC ρ m0 c vs) (hc : ∀ v ∈ vs, Cell v)
    (hv : ∀ (j : Nat) (v : Value), vs[j]? = some v → C[j]? = some v) (hm : m0 b = some (b, 0, C.size)) (hgb : b < g) (hmz : q ≠ MAPZ) (hb97 : b < 97 := by decide) : Sim P ρ m0 g (hst he (.bk (lay c ce 0) q) b) w := by
  have one : ∀ b' c' z, Rn.hg (hst he (.bk (lay c ce 0) q) b) b' = .bk c' z → b' = b ∧ c' = lay c ce 0 ∧ z = q := by
    intro b' c' z h
    rcases hg_hst he (.bk (lay c ce 0) q) b b' with ⟨h1, h2 | h2⟩ | ⟨_, h2⟩
    · rw [h2] at h; cases h; exact ⟨h1, rfl, rfl⟩
    · rw [h2] at h; cases h
    · rw [h2, hg_he] at h; cases h
  have hlen := chLen_ok q vs hl hd
  have key : ∀ k, cg (lay c ce 0) k ≠ .un → k < q ∧ ∃ u, vs[k]? = some u ∧ den ρ m0 (cg (lay c ce 0) k) u := by
    intro k hk
    rcases lay_ok q vs ce 0 hl hd k hk with ⟨_, _, u, h2, h3⟩ | ⟨_, h1⟩
    · rw [Nat.sub_zero] at h2
      refine ⟨?_, u, h2, h3⟩
      rcases Nat.lt_or_ge k vs.length with p | p
      · omega
      · rw [List.getElem?_eq_none p] at h2; cases h2
    · exact absurd h1 hk
  refine ⟨fun b' c' z h => ?_, fun b' b'' c' z c'' z' B O Z O' Z' h h' _ _ => ?_⟩
  · obtain ⟨rfl, rfl, rfl⟩ := one b' c' z h
    refine ⟨b', 0, C.size, hm, .inl ⟨hmz, C, el, fr, hB, rfl, fun hgb' => by omega, fun k hk => ?_, fun k hk => ?_⟩⟩
    · rcases Classical.em (cg (lay c ce 0) k = .un) with p | p
      · exact p
      · have := (key k p).1; omega
    · obtain ⟨_, u, h2, h3⟩ := key k hk
      exact ⟨u, by rw [Nat.zero_add]; exact hv k u h2, h3, hc u (List.mem_of_getElem? h2)⟩
  · exact .inl ((one _ _ _ h).1.trans (one _ _ _ h').1.symm)
end Go.Rn
namespace Go.Rn
/-- the cell at a place of a plain datum (integers, bools, strings left out), by its type -/
noncomputable def leafV {H : Type} (P : Program) : Nat → TypeId → DataW H → Nat → Option Value
  | 0, _, _, _ => none
  | k + 1, t, d, o => match P.underlying t, d with
    | some (.int j), .lit (.int _ z) => if o = 0 then some (.int j z) else none
    | some .bool, .lit (.bool b) => if o = 0 then some (.bool b) else none
    | some (.struct fs), .agg ds => (List.range fs.size).findSome? fun i => match fs[i]?, ds[i]? with
      | some f, some d' => if f.offset ≤ o ∧ o < f.offset + P.cellsOf f.type then leafV P k f.type d' (o - f.offset) else none
      | _, _ => none
    | some (.array n e), .agg ds => if o / P.cellsOf e < n then (ds[o / P.cellsOf e]?).bind fun d' => if o % P.cellsOf e < P.cellsOf e then leafV P k e d' (o % P.cellsOf e) else none else none
    | _, _ => none
theorem leafV_ok {H : Type} {enc : TypeId × Value → H} {P : Program} {w : World} {base : Nat} {sp : Nat → Bool} {held : Bool} : ∀ (k fuel : Nat) (t : TypeId) (d : DataW H) (o : Nat) (v : Value) (cs : List Value) (p : List MemPlace),
    leafV P k t d o = some v → DataW.trod enc P w base sp held fuel t cs = some (d, p) → cs[o]? = some v
  | 0, _, _, _, _, _, _, _, h, _ => by cases h
  | k + 1, fuel, t, d, o, v, cs, p, h, ht => by
    unfold leafV at h
    split at h
    · rename_i j j' z hu
      split at h
      · rename_i ho
        subst ho
        cases h
        obtain ⟨n, rfl, hx, _⟩ := DataW.trod_int hu ht
        cases hx
        rfl
      · cases h
    · rename_i b hu
      split at h
      · rename_i ho
        subst ho
        cases h
        obtain ⟨n, rfl, hx⟩ := DataW.trod_bool hu ht
        cases hx
        rfl
      · cases h
    · rename_i fs ds hu
      obtain ⟨xs, n, _, hx, _, _, hall⟩ := DataW.trod_struct hu ht
      cases hx
      obtain ⟨i, _, h2⟩ := List.exists_of_findSome?_eq_some h
      split at h2
      · rename_i f d' hf hd
        split at h2
        · rename_i ho
          have h3 := hall i f hf
          rw [List.getElem?_map] at hd
          cases hxi : xs[i]? with
          | none => rw [hxi] at hd; cases hd
          | some y =>
            rw [hxi] at hd h3
            cases hd
            have := leafV_ok k n f.type y.1 (o - f.offset) v _ y.2 h2 h3
            rw [List.getElem?_take_of_lt (by omega), List.getElem?_drop] at this
            rwa [show f.offset + (o - f.offset) = o by omega] at this
        · cases h2
      · cases h2
    · rename_i n e ds hu
      obtain ⟨xs, m, _, hx, _, _, hall⟩ := DataW.trod_array hu ht
      cases hx
      split at h
      · rename_i hn
        obtain ⟨d', hd, h2⟩ := Option.bind_eq_some_iff.1 h
        split at h2
        · rename_i ho
          have h3 := hall _ hn
          rw [List.getElem?_map] at hd
          cases hxi : xs[o / P.cellsOf e]? with
          | none => rw [hxi] at hd; cases hd
          | some y =>
            rw [hxi] at hd h3
            cases hd
            have := leafV_ok k m e y.1 (o % P.cellsOf e) v _ y.2 h2 h3
            rw [List.getElem?_take_of_lt ho, List.getElem?_drop] at this
            have e1 : o / P.cellsOf e * P.cellsOf e + o % P.cellsOf e = o := Nat.div_add_mod' o (P.cellsOf e)
            rwa [e1] at this
        · cases h2
      · cases h
    · cases h
end Go.Rn
