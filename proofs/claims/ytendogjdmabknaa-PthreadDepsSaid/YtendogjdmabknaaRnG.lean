/-
  One text of a symbolic evaluator over the model, shown sound once for every program: no statement is claimed here.
-/
import Derived.Test.YtendogjdmabknaaRnF
import Derived.OrdersIn
import Derived.LoopNIn
import Derived.RangeFuncIn
import Derived.RangeFuncRecord
import Derived.RangeFuncNested
import Derived.RangeFuncLeaves
namespace Go.Rn
variable {ρ : Nat → Int} {m m' : Mp} {P : Program}
/-! ### operands -/
theorem pa_val : ∀ (f k : Nat), 1 ≤ k → k < 2 ^ f → (pa f k).val = k := by
  intro f
  induction f with
  | zero => intro k h1 h2; have : k < 1 := by simpa using h2
            omega
  | succ f ih =>
    intro k h1 h2
    unfold pa
    by_cases hk : k ≤ 1
    · rw [if_pos hk]; show 1 = k; omega
    · rw [if_neg hk]
      have h3 : k / 2 < 2 ^ f := by rw [Nat.pow_succ] at h2; omega
      by_cases h4 : k % 2 = 0
      · rw [if_pos h4]; show 2 * (pa f (k / 2)).val = k; rw [ih (k / 2) (by omega) h3]; omega
      · rw [if_neg h4]; show 2 * (pa f (k / 2)).val + 1 = k; rw [ih (k / 2) (by omega) h3]; omega
structure Fr (P : Program) (ρ : Nat → Int) (m : Mp) (nt : Nat) (t : FT) (tmps : Array Value) : Prop where
  size : nt ≤ tmps.size
  small : nt < 1000000
  slot : ∀ i, T.get .un t (i + 1) ≠ .un → den ρ m (T.get .un t (i + 1)) (tmps.getD i undef)
  glob : ∀ k, k < P.globals.size → ∃ Z, m k = some (k, 0, Z)
theorem Fr.le {nt : Nat} {t : FT} {tmps : Array Value} (h : Fr P ρ m nt t tmps) (hl : Le m m') : Fr P ρ m' nt t tmps :=
  ⟨h.size, h.small, fun i hi => den_le hl (h.slot i hi), fun k hk => let ⟨Z, hz⟩ := h.glob k hk; ⟨Z, hl _ _ hz⟩⟩
theorem tg_pa {t : FT} {i : Nat} (h : i < 1000000) : tg t (pa 20 (i + 1)) = T.get .un t (i + 1) := by
  unfold tg
  rw [getP_eq, pa_val 20 (i + 1) (by omega) (by show i + 1 < 1048576; omega)]
/-- a slot written -/
theorem Fr.putD {nt : Nat} {t : FT} {a : Act} (h : Fr P ρ m nt t a.tmps) {dst : Option Tmp} {d : D} (hd : compDst nt dst = some d) {r : RV} {v : Value} (hv : den ρ m r v) : Fr P ρ m nt (put t d r) (a.put dst v).tmps := by
  cases dst with
  | none => cases hd; exact h
  | some i =>
    have hd' : (if i < nt then some (D.d (pa 20 (i + 1))) else none) = some d := hd
    by_cases hi : i < nt
    · have hi2 : @LT.lt Nat instLTNat i nt := hi
      rw [if_pos hi] at hd'
      cases hd'
      refine ⟨by simp [Act.put]; exact h.size, h.small, fun j hj => ?_, h.glob⟩
      have hs := h.small
      have e : put t (.d (pa 20 (i + 1))) r = T.setP .un t r (pa 20 (i + 1)) := rfl
      have hi3 : Nat.succ i < 2 ^ 20 := Nat.lt_of_le_of_lt (Nat.succ_le_of_lt hi2) (Nat.lt_trans hs (by decide))
      rw [e, setP_get, pa_val 20 (i + 1) (Nat.succ_le_succ (Nat.zero_le _)) hi3] at hj ⊢
      by_cases hji : j + 1 = i + 1
      · rw [if_pos hji]
        have hji' : j = i := Nat.succ.inj hji
        subst hji'
        have : j < a.tmps.size := Nat.lt_of_lt_of_le hi h.size
        simpa [Act.put, Array.getD_eq_getD_getElem?, this] using hv
      · rw [if_neg hji] at hj ⊢
        have hne : i ≠ j := fun e => hji (by rw [e])
        have := h.slot j hj
        simpa [Act.put, Array.getD_eq_getD_getElem?, Array.getElem?_setIfInBounds_ne hne] using this
    · rw [if_neg hi] at hd'; cases hd'
theorem atom_ok {v : Value} (h : atom v ≠ .un) : den ρ m (atom v) v ∧ Cell v := by
  cases v with
  | nilIface => exact ⟨⟨[], denC_nil.2 rfl, (fnV_nil (Nat.le_refl _)).symm⟩, rfl⟩
  | bool b => exact ⟨rfl, rfl⟩
  | int k n => exact ⟨rfl, rfl⟩
  | string s =>
    refine ⟨⟨?_, ?_⟩, rfl⟩
    · congr 1
      rw [List.map_map]
      have : (UInt8.ofNat ∘ fun x : UInt8 => x.toNat) = id := by funext x; simp
      rw [this, List.map_id]
    · intro x hx
      obtain ⟨y, _, rfl⟩ := List.mem_map.1 hx
      exact y.toNat_lt
  | pointer a =>
    cases a with
    | none => exact ⟨rfl, rfl⟩
    | some x => exact absurd rfl h
  | slice a l c =>
    cases a with
    | none =>
      match l, c, h with
      | 0, 0, _ => exact ⟨rfl, rfl⟩
      | 0, c + 1, h => exact absurd rfl h
      | l + 1, c, h => exact absurd rfl h
    | some x => exact absurd rfl h
  | nilFunc => exact ⟨rfl, rfl⟩
  | _ => exact absurd rfl h
theorem atom_den (v : Value) : den ρ m (atom v) v := by
  rcases Classical.em (atom v = .un) with h | h
  · rw [h]; trivial
  · exact (atom_ok h).1
theorem chain_ok : ∀ (l : List Value), denC ρ m (chain l) l ∧ chLen (chain l) = some l.length
  | [] => ⟨denC_nil.2 rfl, rfl⟩
  | v :: r => by
    obtain ⟨h1, h2⟩ := chain_ok r
    refine ⟨denC_cons.2 ⟨v, r, rfl, atom_den v, h1⟩, ?_⟩
    show gO none (chLen (chain r)) (fun n => some (Nat.succ n)) = _
    rw [h2]; rfl
theorem chain_get : ∀ (l : List Value) (k : Nat) (v : Value), l[k]? = some v → chGet (chain l) k = atom v
  | [], k, v, h => by simp at h
  | x :: r, 0, v, h => by simp at h; rw [← h]; rfl
  | x :: r, k + 1, v, h => chain_get r k v (by simpa using h)
theorem quote_ok {v : Value} (h : quote v ≠ .un) : den ρ m (quote v) v := by
  unfold quote at h ⊢
  split
  · rename_i cs
    split
    · rename_i hall
      refine ⟨cs.toList, (chain_ok cs.toList).1, fun x hx => ?_, by simp⟩
      have := (List.all_eq_true.1 hall) x hx
      refine (atom_ok (ρ := ρ) (m := m) (fun e => ?_)).2
      unfold knownAtom at this
      rw [e] at this
      cases this
    · rename_i hall
      simp [hall] at h
  · exact atom_den v
theorem opd_ok {nt : Nat} {t : FT} {a : Act} (h : Fr P ρ m nt t a.tmps) (x : Operand) (hu : ev t (opd P nt x) ≠ .un) : den ρ m (ev t (opd P nt x)) (a.eval x) := by
  have hs := h.small
  cases x with
  | tmp i =>
    have e : opd P nt (.tmp i) = if i < nt then .t (pa 20 (i + 1)) else .c .un := rfl
    rw [e] at hu ⊢
    by_cases hi : i < nt
    · have hi2 : @LT.lt Nat instLTNat i nt := hi
      rw [if_pos hi] at hu ⊢
      have e2 : ev t (.t (pa 20 (i + 1))) = T.get .un t (i + 1) := tg_pa (Nat.lt_trans hi2 hs)
      rw [e2] at hu ⊢
      exact h.slot i hu
    · rw [if_neg hi] at hu; exact absurd rfl hu
  | const v => exact quote_ok hu
  | global g =>
    have e : opd P nt (.global g) = if g < P.globals.size then .c (.p g 0) else .c .un := rfl
    rw [e] at hu ⊢
    by_cases hi : g < P.globals.size
    · rw [if_pos hi] at hu ⊢
      obtain ⟨Z, hz⟩ := h.glob g hi
      exact ⟨g, 0, Z, hz, rfl⟩
    · rw [if_neg hi] at hu; exact absurd rfl hu
  | func f =>
    have e : opd P nt (.func f) = if f < BND then .c (.fn f .nil) else .c .un := rfl
    rw [e] at hu ⊢
    by_cases hi : f < BND
    · rw [if_pos hi] at hu ⊢
      exact ⟨[], denC_nil.2 rfl, (fnV_lt hi []).symm⟩
    · rw [if_neg hi] at hu; exact absurd rfl hu
theorem evL_ok {nt : Nat} {t : FT} {a : Act} (h : Fr P ρ m nt t a.tmps) : ∀ (l : List Operand), evL t (l.map (opd P nt)) ≠ .un → denC ρ m (evL t (l.map (opd P nt))) (l.map a.eval)
  | [], _ => denC_nil.2 rfl
  | x :: r, hu => by
    have e : evL t ((x :: r).map (opd P nt)) = kons (ev t (opd P nt x)) (evL t (r.map (opd P nt))) := rfl
    obtain ⟨h1, h2, h3⟩ := kons_ok e.symm hu
    rw [h3]
    exact denC_cons.2 ⟨a.eval x, r.map a.eval, rfl, opd_ok h x h1, evL_ok h r h2⟩
/-! ### what an operation leaves -/
/-- the fence that is none, its frames of a round, or of none -/
def WF (r : Option Nat) : Fence := { Fence.wide with round := r }
theorem WF_none : WF none = Fence.wide := rfl
theorem wf_fn (r : Option Nat) (f : FuncId) : (WF r).fn f := trivial
theorem wf_depth (r : Option Nat) : (WF r).depth.isSome = true → (1 : Nat) ≤ 0 := fun h => by cases h
theorem calls_wf {r : Option Nat} {n : Nat} {P : Program} {f : FuncId} {args : Array Value} {w : World} {R : Ending → World → Prop} (h : Calls P f args w R) : CallsIn (WF r) n P f args w R :=
  ((callsIn_wide (n := n)).2 h : CallsIn Fence.wide n P f args w R)
theorem semAt_ok {r : Option Nat} {o : Oper} {σ : Operand → Value} {w w' : World} {x : Next} (h : (execOp σ o).run P w = .ok x w') (hx : ∀ d, x ≠ .defer d) : (o.semAt r σ).run P w = .ok x w' := by
  unfold Oper.semAt
  split
  · rename_i l c ho
    exfalso
    unfold execOp at h
    rw [ho] at h
    simp only [Sem.run_bind] at h
    cases hr : (resolve σ c o.type).run P w with
    | ok d w1 =>
      rw [hr] at h
      have h' : Result.ok (Next.defer d) w1 = .ok x w' := h
      cases h'
      exact hx d rfl
    | halt y w1 => rw [hr] at h; cases h
  · exact h
/-- the runner's word on an operation is the model's -/
def Op1 (P : Program) (ρ : Nat → Int) (g fl : Nat) (o : Oper) (a : Act) (m : Mp) (w : World) (h : HT) (n : Nat) (v : RV) (h' : HT) (n' : Nat) : Prop :=
  Fresh n n' m → ∀ (K : Act → World → Prop) (Q : Exit → Act → World → Prop), (∀ u w' m', Tr P ρ g fl h n m w h' n' m' w' → den ρ m' v u → K (a.put o.dst u) w') → ∀ r, o.wpIn (WF r) 0 P a w K Q
theorem op_value {o : Oper} {a : Act} {w w' : World} {u : Value} {K : Act → World → Prop} {Q : Exit → Act → World → Prop} (hr : (execOp a.eval o).run P w = .ok (.value u) w') (hK : K (a.put o.dst u) w') : ∀ r, o.wpIn (WF r) 0 P a w K Q := fun r => by
  refine ⟨fun _ _ => trivial, ?_⟩
  rw [semAt_ok hr (fun d h => by cases h)]; exact hK
theorem op_skip {o : Oper} {a : Act} {w w' : World} {K : Act → World → Prop} {Q : Exit → Act → World → Prop} (hr : (execOp a.eval o).run P w = .ok .skip w') (hK : K (a.put o.dst undef) w') : ∀ r, o.wpIn (WF r) 0 P a w K Q := fun r => by
  refine ⟨fun _ _ => trivial, ?_⟩
  rw [semAt_ok hr (fun d h => by cases h)]; exact hK
theorem Op1.quiet {g fl n : Nat} {o : Oper} {a : Act} {w : World} {h : HT} {v : RV} {u : Value} (s : Sim P ρ m g h w) (hr : (execOp a.eval o).run P w = .ok (.value u) w) (hd : den ρ m v u) : Op1 P ρ g fl o a m w h n v h n :=
  fun _ _ _ hK => op_value hr (hK u w m (Tr.refl s) hd)
section
variable {g fl n n' nt : Nat} {h h' : HT} {t : FT} {a : Act} {o : Oper} {w : World} {v : RV}
/-- what is asked of an operation's proof: both parts -/
def Ok1 (P : Program) (ρ : Nat → Int) (g fl : Nat) (o : Oper) (a : Act) (m : Mp) (w : World) (h : HT) (n : Nat) (v : RV) (h' : HT) (n' : Nat) : Prop := Ab fl h n h' n' ∧ Op1 P ρ g fl o a m w h n v h' n'
theorem Ok1.quiet {u : Value} (s : Sim P ρ m g h w) (hr : (execOp a.eval o).run P w = .ok (.value u) w) (hd : den ρ m v u) : Ok1 P ρ g fl o a m w h n v h n := ⟨Ab.refl _ _ _, Op1.quiet s hr hd⟩
variable (F : Fr P ρ m nt t a.tmps) (s : Sim P ρ m g h w)
include F s
theorem ok_mv {x : Operand} {why : Nat} (ho : o.op = .move x ∨ o.op = .assign x) (e : okV (ev t (opd P nt x)) h n why = .ok v h' n') : Ok1 P ρ g fl o a m w h n v h' n' := by
  obtain ⟨hu, rfl, rfl, rfl⟩ := okV_ok e
  refine Ok1.quiet (u := a.eval x) s ?_ (opd_ok F x hu)
  rcases ho with ho | ho <;> simp [execOp, ho]
theorem ok_pick {c x y : Operand} (ho : o.op = .pick c x y) {ys : Ys} {cl : Cl'} {lim : Nat} (e : step (.pick (opd P nt c) (opd P nt x) (opd P nt y)) ys cl fl lim t h n = .ok v h' n') : Ok1 P ρ g fl o a m w h n v h' n' := by
  have e1 : gB (.bad [3]) (ev t (opd P nt c)) (fun b => okV (bf b (ev t (opd P nt x)) (ev t (opd P nt y))) h n 2) = .ok v h' n' := e
  obtain ⟨b, hb, e2⟩ := gB_ok e1 (by simp)
  obtain ⟨hu, rfl, rfl, rfl⟩ := okV_ok e2
  have hc : a.eval c = .bool b := by
    have := opd_ok F c (by rw [hb]; simp)
    rwa [hb] at this
  cases b with
  | true => exact Ok1.quiet (u := a.eval x) s (by simp [execOp, ho, hc, asBool]) (opd_ok F x hu)
  | false => exact Ok1.quiet (u := a.eval y) s (by simp [execOp, ho, hc, asBool]) (opd_ok F y hu)
end
end Go.Rn
