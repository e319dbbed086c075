/-
  One text of a symbolic evaluator over the model, shown sound once for every program: no statement is claimed here.
-/
import Derived.Test.YtendogjdmabknaaRnW
namespace Go.Rn
variable {ρ : Nat → Int} {P : Program}
variable {g fl nt : Nat} {ys : Ys} {cl : Cl'}
/-! ### heaps laid together -/
noncomputable def hput (h : HT) (x : RB) (b : Nat) : HT := T.setP .no h x (pa (b + 2) (b + 1))
theorem hg_hput (h : HT) (x : RB) (b j : Nat) : hg (hput h x b) j = if j = b then x else hg h j := by
  unfold hput hg
  have hlt : b + 1 < 2 ^ (b + 2) := by
    have : b + 2 < 2 ^ (b + 2) := Nat.lt_two_pow_self
    omega
  rw [setP_get, pa_val (b + 2) (b + 1) (by omega) hlt]
  by_cases hj : j = b
  · subst hj; simp
  · rw [if_neg hj, if_neg (by omega)]
/-- h, but from 'lo' on, so many, as in k -/
noncomputable def mixN (h k : HT) (lo : Nat) : Nat → HT
  | 0 => h
  | c + 1 => hput (mixN h k lo c) (hg k (lo + c)) (lo + c)
theorem hg_mixN (h k : HT) (lo j : Nat) : ∀ c, hg (mixN h k lo c) j = if lo ≤ j ∧ j < lo + c then hg k j else hg h j
  | 0 => by rw [if_neg (by omega)]; rfl
  | c + 1 => by
    show hg (hput (mixN h k lo c) (hg k (lo + c)) (lo + c)) j = _
    rw [hg_hput, hg_mixN h k lo j c]
    by_cases h1 : j = lo + c
    · subst h1; rw [if_pos rfl, if_pos (by omega)]
    · rw [if_neg h1]
      by_cases h2 : lo ≤ j ∧ j < lo + c
      · rw [if_pos h2, if_pos (by omega)]
      · rw [if_neg h2, if_neg (by omega)]
theorem hg_hst_in (h : HT) (x : RB) (b : Nat) (hb : b < 8388608) : hg (hst h x b) b = x := by
  unfold hg hst
  exact get_set_in _ _ _ _ (Nat.succ_le_succ (Nat.zero_le b)) (Nat.lt_trans (Nat.succ_lt_succ hb) (by decide))
/-- from a heap part of which a piece has turned: what had been made ahead is still there -/
theorem Sim.mix {n n1 n2 : Nat} {h h1 h2 h3 : HT} {m m1 : Mp} {w w1 : World} (s : Sim P ρ m g h w) (sub : ∀ b c z, hg h1 b = .bk c z → hg h b = .bk c z) (B : Tr P ρ g fl h1 n m w h2 n1 m1 w1) (ab : Ab fl h1 n h2 n1) (le : Le m m1)
    (hD : ∀ b c z, n1 ≤ b → b < n2 → hg h1 b ≠ .bk c z) (e : ∀ b, hg h3 b = if n1 ≤ b ∧ b < n2 then hg h b else hg h2 b) : Sim P ρ m1 g h3 w1 := by
  have hnn := ab.le
  have row : ∀ b c z B' O Z, n1 ≤ b → b < n2 → hg h b = .bk c z → m b = some (B', O, Z) → w1.heap[B']? = w.heap[B']? := by
    intro b c z B' O Z h4 h5 hb hm
    refine B.keep.block B' (s.lt hb hm) fun b0 c0 z0 O0 Z0 hf0 hb0 hm0 => ?_
    have := s.inj b0 b c0 z0 c z B' O0 Z0 O Z (sub _ _ _ hb0) hb hm0 hm
    subst this
    exact hD _ _ _ h4 h5 hb0
  -- a block of the turned piece and one made ahead share no row
  have apart : ∀ b1 c1 z1 b2 c2 z2 B' O1 Z1 O2 Z2, n1 ≤ b2 → b2 < n2 → hg h2 b1 = .bk c1 z1 → hg h b2 = .bk c2 z2 → m1 b1 = some (B', O1, Z1) → m1 b2 = some (B', O2, Z2) → False := by
    intro b1 c1 z1 b2 c2 z2 B' O1 Z1 O2 Z2 h4 h5 hb1 hb2 hm1 hm2
    have hm2' : m b2 = some (B', O2, Z2) := by rw [← B.ext b2 (.inr h4)]; exact hm2
    rcases Nat.lt_or_ge b1 fl with p | p
    · have hb1' : hg h1 b1 = .bk c1 z1 := by rw [← ab.old b1 p]; exact hb1
      have hb1s := sub _ _ _ hb1'
      obtain ⟨B0, O0, Z0, q1, _⟩ := s.cell _ _ _ hb1s
      have hm1' := le _ _ q1
      rw [hm1] at hm1'
      cases hm1'
      have := s.inj b1 b2 c1 z1 c2 z2 B' O1 Z1 O2 Z2 hb1s hb2 q1 hm2'
      subst this
      exact hD _ _ _ h4 h5 hb1'
    · rcases B.orig b1 c1 z1 B' O1 Z1 p hb1 hm1 with q | ⟨b0, c0, z0, O0, Z0, q0, q1, q2⟩
      · have := s.lt hb2 hm2'; omega
      · have := s.inj b0 b2 c0 z0 c2 z2 B' O0 Z0 O2 Z2 (sub _ _ _ q1) hb2 q2 hm2'
        subst this
        exact hD _ _ _ h4 h5 q1
  refine ⟨fun b c z hb => ?_, fun b b' c z c' z' B' O Z O' Z' hb hb' hm hm' => ?_⟩
  · rw [e] at hb
    by_cases hc : n1 ≤ b ∧ b < n2
    · rw [if_pos hc] at hb
      obtain ⟨B', O, Z, q1, q2⟩ := s.cell b c z hb
      exact ⟨B', O, Z, le _ _ q1, q2.move (row b c z B' O Z hc.1 hc.2 hb q1) le⟩
    · rw [if_neg hc] at hb
      exact B.sim.cell b c z hb
  · rw [e] at hb hb'
    by_cases hc : n1 ≤ b ∧ b < n2 <;> by_cases hc' : n1 ≤ b' ∧ b' < n2
    · rw [if_pos hc] at hb
      rw [if_pos hc'] at hb'
      exact s.inj b b' c z c' z' B' O Z O' Z' hb hb' (by rw [← B.ext b (.inr hc.1)]; exact hm) (by rw [← B.ext b' (.inr hc'.1)]; exact hm')
    · rw [if_pos hc] at hb
      rw [if_neg hc'] at hb'
      exact (apart b' c' z' b c z B' O' Z' O Z hc.1 hc.2 hb' hb hm' hm).elim
    · rw [if_neg hc] at hb
      rw [if_pos hc'] at hb'
      exact (apart b c z b' c' z' B' O Z O' Z' hc'.1 hc'.2 hb hb' hm hm').elim
    · rw [if_neg hc] at hb
      rw [if_neg hc'] at hb'
      exact B.sim.inj b b' c z c' z' B' O Z O' Z' hb hb' hm hm'
/-- one after the other, the numbers of the second within the first's -/
theorem Tr.then {n0 n nN n1 : Nat} {h0 h h1 : HT} {m0 m m1 : Mp} {w0 w w1 : World} (A : Tr P ρ g fl h0 n0 m0 w0 h nN m w) (B : Tr P ρ g fl h n m w h1 n1 m1 w1) (l1 : n0 ≤ n) (l2 : n1 ≤ nN) : Tr P ρ g fl h0 n0 m0 w0 h1 nN m1 w1 := by
  refine ⟨B.sim, fun k hk => ?_, ⟨B.keep.os.trans A.keep.os, B.keep.tape.trans A.keep.tape, B.keep.output.trans A.keep.output, Nat.le_trans A.keep.size B.keep.size, fun k hk hn => ?_, fun k r hr => (let ⟨r1, h1⟩ := A.keep.loops k r hr; B.keep.loops k r1 h1)⟩, fun k c z B' O Z e1 e2 e3 => ?_⟩
  · rw [B.ext k (by omega), A.ext k (by omega)]
  · rw [B.keep.block k (Nat.lt_of_lt_of_le hk A.keep.size) (fun b0 c z O Z e1 e2 e3 => ?_), A.keep.block k hk hn]
    rcases A.orig b0 c z k O Z e1 e2 e3 with q | ⟨b1, c1, z1, O1, Z1, q1, q2, q3⟩
    · omega
    · exact hn b1 c1 z1 O1 Z1 q1 q2 q3
  · rcases B.orig k c z B' O Z e1 e2 e3 with q | ⟨b1, c1, z1, O1, Z1, q1, q2, q3⟩
    · exact .inl (Nat.le_trans A.keep.size q)
    · exact A.orig b1 c1 z1 B' O1 Z1 q1 q2 q3
theorem Tr.narrow {n0 nN : Nat} {h0 h h1 : HT} {m0 m : Mp} {w0 w : World} (A : Tr P ρ g fl h0 n0 m0 w0 h nN m w) (sub : ∀ b c z, hg h1 b = .bk c z → hg h b = .bk c z) : Tr P ρ g fl h0 n0 m0 w0 h1 nN m w :=
  ⟨A.sim.sub sub, A.ext, A.keep, fun b c z B O Z h1 h2 h3 => A.orig b c z B O Z h1 (sub _ _ _ h2) h3⟩
/-! ### frames, some operations done -/
theorem put_get (t : FT) (d : D) (r : RV) (k : Nat) : T.get .un (put t d r) k = if (dm d).testBit k = true then r else T.get .un t k := by
  cases d with
  | no => simp [dm]; rfl
  | d p =>
    show T.get .un (T.setP .un t r p) k = if (2 ^ paN p).testBit k = true then r else T.get .un t k
    rw [setP_get]
    by_cases hk : k = p.val
    · subst hk; rw [if_pos rfl, if_pos (bit_self p)]
    · rw [if_neg hk, if_neg (fun q => hk (bit_of q))]
def dOf (l : List RQ) (i : Nat) : D := match l[i]? with | some (.q d _ _ _) => d | none => .no
def rOf (l : List RQ) (i : Nat) : Nat := match l[i]? with | some (.q _ g _ o) => rdm o ||| gm g | none => 0
noncomputable def ts (l : List RQ) (t : FT) (R : Nat → RV) (S : Nat → Bool) : Nat → FT
  | 0 => t
  | i + 1 => if S i = true then put (ts l t R S i) (dOf l i) (R i) else ts l t R S i
theorem Fr.same {m : Mp} {t t' : FT} {tmps : Array Value} (F : Fr P ρ m nt t tmps) (e : ∀ i, T.get .un t' (i + 1) = T.get .un t (i + 1)) : Fr P ρ m nt t' tmps :=
  ⟨F.size, F.small, fun i hi => by rw [e] at hi ⊢; exact F.slot i hi, F.glob⟩
end Go.Rn
