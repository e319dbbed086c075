/-
  One text of a symbolic evaluator over the model, shown sound once for every program: no statement is claimed here.
-/
import Derived.Test.YtendogjdmabknaaRnK
namespace Go.Rn
variable {ρ : Nat → Int} {m m' : Mp} {P : Program}
/-! ### laying parts over a chain -/
theorem patch_len {z : RV} : ∀ (p : RV) (k : Nat) (zs ps : List Value), patch z p k ≠ .un → denC ρ m z zs → denC ρ m p ps → (ps = [] ∨ k + ps.length ≤ zs.length) ∧ denC ρ m (patch z p k) (zs.take k ++ ps ++ zs.drop (k + ps.length)) := by
  induction z with
  | nil =>
    intro p k zs ps h hz hp
    have e : patch .nil p k = gN .un p .nil (fun _ _ => .un) := rfl
    rw [e] at h ⊢
    rcases gN_ok (x := gN RV.un p RV.nil (fun _ _ => RV.un)) rfl (fun q => h q.symm) with ⟨rfl, e2⟩ | ⟨_, _, _, e2⟩
    · rw [← e2, denC_nil.1 hz, denC_nil.1 hp]
      exact ⟨.inl rfl, denC_nil.2 (by simp)⟩
    · exact absurd e2.symm h
  | cons x r _ ih =>
    intro p k zs ps h hz hp
    obtain ⟨y, ys, rfl, hy, hys⟩ := denC_cons.1 hz
    cases k with
    | zero =>
      have e : patch (.cons x r) p 0 = gN .un p (kons x (patch r .nil 0)) (fun a q => kons a (patch r q 0)) := rfl
      rw [e] at h ⊢
      rcases gN_ok (x := gN RV.un p (kons x (patch r .nil 0)) (fun a q => kons a (patch r q 0))) rfl (fun q => h q.symm) with ⟨rfl, e2⟩ | ⟨a, q, rfl, e2⟩
      · rw [← e2] at h ⊢
        obtain ⟨_, h2, h3⟩ := kons_ok rfl h
        rw [h3, denC_nil.1 hp]
        obtain ⟨_, h5⟩ := ih .nil 0 ys [] h2 hys (denC_nil.2 rfl)
        exact ⟨.inl rfl, denC_cons.2 ⟨y, ys, by simp, hy, by simpa using h5⟩⟩
      · rw [← e2] at h ⊢
        obtain ⟨_, h2, h3⟩ := kons_ok rfl h
        obtain ⟨b, bs, rfl, hb, hbs⟩ := denC_cons.1 hp
        obtain ⟨h4, h5⟩ := ih q 0 ys bs h2 hys hbs
        rw [h3]
        refine ⟨.inr ?_, denC_cons.2 ⟨b, bs ++ ys.drop bs.length, by simp, hb, by simpa using h5⟩⟩
        rcases h4 with rfl | h4
        · simp
        · simp at h4 ⊢; omega
    | succ k =>
      have e : patch (.cons x r) p (k + 1) = kons x (patch r p k) := rfl
      rw [e] at h ⊢
      obtain ⟨_, h2, h3⟩ := kons_ok rfl h
      obtain ⟨h4, h5⟩ := ih p k ys ps h2 hys hp
      rw [h3]
      refine ⟨h4.imp id (fun q => by simp; omega), denC_cons.2 ⟨y, ys.take k ++ ps ++ ys.drop (k + ps.length), ?_, hy, h5⟩⟩
      rw [show k + 1 + ps.length = (k + ps.length) + 1 by omega]
      simp
  | _ => intro p k zs ps h; exact absurd rfl h
theorem put_cells (off : Nat) : ∀ (cs : List Value) (i : Nat) (C : Array Value), off + i + cs.length ≤ C.size →
    ((cs.zipIdx i).foldl (fun cs (x : Value × Nat) => cs.setIfInBounds (off + x.2) x.1) C).toList = C.toList.take (off + i) ++ cs ++ C.toList.drop (off + i + cs.length) := by
  intro cs
  induction cs with
  | nil => intro i C _; simp
  | cons c r ih =>
    intro i C h
    simp only [List.length_cons] at h
    simp only [List.zipIdx_cons, List.foldl_cons]
    rw [ih (i + 1) _ (by simp; omega)]
    have := list_seg_step C.toList (off + i) c r (by simp; omega)
    simpa [Array.toList_setIfInBounds, Nat.add_assoc, Nat.add_comm, Nat.add_left_comm] using this
theorem fill_one {place : Nat → Option (Nat × Nat)} {C : Array Value} {i off sz : Nat} {u : Value} {rest : List (Nat × Value)} (hp : place i = some (off, sz)) (hs : u.cells.size = sz) (hf : u.cells.toList = [] ∨ off + u.cells.size ≤ C.size) (hoff : off ≤ C.size) :
    Instr.fill place C ((i, u) :: rest) = Instr.fill place (C.toList.take off ++ u.cells.toList ++ C.toList.drop (off + u.cells.size)).toArray rest := by
  have hfit : off + u.cells.size ≤ C.size := by
    rcases hf with hf | hf
    · have : u.cells.size = 0 := by simpa using congrArg List.length hf
      omega
    · exact hf
  have hno : ¬ (C.size < off + u.cells.size) := by omega
  simp only [Instr.fill, hp, hs, ne_eq, not_true_eq_false, decide_false, Bool.false_or]
  rw [if_neg (by simp; omega)]
  congr 1
  apply Array.ext'
  have := put_cells off u.cells.toList 0 C (by simpa using hfit)
  rw [← Array.foldl_toList]
  simpa [hs] using this
section
variable {g fl n n' nt lim : Nat} {h h' : HT} {t : FT} {a : Act} {o : Oper} {w : World} {v : RV} {ys : Ys} {cl : Cl'}
theorem knownAtom_ok {u : Value} (h : knownAtom u = true) : Cell u := by
  refine (atom_ok (ρ := fun _ => 0) (m := fun _ => none) (fun e => ?_)).2
  unfold knownAtom at h
  rw [e] at h; cases h
theorem allKnown {l : List Value} (h : l.all knownAtom = true) : ∀ x ∈ l, Cell x := fun x hx => knownAtom_ok (List.all_eq_true.1 h x hx)
/-- parts laid one behind the other -/
theorem fillP_ok (F : Fr P ρ m nt t a.tmps) {place : Nat → Option (Nat × Nat)} : ∀ (ps : List (Nat × Operand)) (l : List (Nat × Nat × RO)) (z : RV) (C : Array Value), l.length = ps.length →
    (∀ (k i : Nat) (x : Operand), ps[k]? = some (i, x) → ∃ off sz : Nat, place i = some (off, sz) ∧ l[k]? = some (off, sz, opd P nt x) ∧ 0 < sz) →
    fillP t l z ≠ .un → denC ρ m z C.toList → (∀ x ∈ C.toList, Cell x) →
    ∃ C' : Array Value, Instr.fill place C (ps.map fun p => (p.1, a.eval p.2)) = some C' ∧ C'.size = C.size ∧ denC ρ m (fillP t l z) C'.toList ∧ ∀ x ∈ C'.toList, Cell x
  | [], [], z, C, _, _, _, hz, hc => ⟨C, rfl, rfl, hz, hc⟩
  | [], _ :: _, _, _, hl, _, _, _, _ => by simp at hl
  | _ :: _, [], _, _, hl, _, _, _, _ => by simp at hl
  | (i, x) :: ps, y :: l, z, C, hl, hp, hu, hz, hc => by
    obtain ⟨off, sz, h1, h2, h0⟩ := hp 0 i x rfl
    simp only [List.getElem?_cons_zero, Option.some.injEq] at h2
    subst h2
    have e : fillP t ((off, sz, opd P nt x) :: l) z = gC .un (ev t (opd P nt x)) (fun c => gO .un (chLen c) fun m => bf (Nat.beq m sz) (nU .un (patch z c off) (fillP t l)) .un) := rfl
    rw [e] at hu
    have hne : ev t (opd P nt x) ≠ .un := fun q => hu (by rw [q]; rfl)
    have dx := opd_ok F x hne
    obtain ⟨c, e2, hd, hcc⟩ : ∃ c, (gO RV.un (chLen c) fun m => bf (Nat.beq m sz) (nU RV.un (patch z c off) (fillP t l)) RV.un) = fillP t ((off, sz, opd P nt x) :: l) z ∧ denC ρ m c (a.eval x).cells.toList ∧ ∀ y ∈ (a.eval x).cells.toList, Cell y := by
      rw [e]
      rcases gC_ok (x := gC RV.un (ev t (opd P nt x)) (fun c => gO RV.un (chLen c) fun m => bf (Nat.beq m sz) (nU RV.un (patch z c off) (fillP t l)) RV.un)) rfl (fun q => hu q.symm) with ⟨c, hc1, e3⟩ | ⟨_, e3, hcell⟩
      · rw [hc1] at dx
        obtain ⟨cs, d1, d2, d3⟩ := dx
        exact ⟨c, e3, by rw [d3]; exact d1, by rw [d3]; exact d2⟩
      · have hx := hcell ρ m (a.eval x) dx
        refine ⟨_, e3, ?_, ?_⟩
        · rw [cells_of_cell hx]; exact denC_cons.2 ⟨a.eval x, [], rfl, dx, denC_nil.2 rfl⟩
        · rw [cells_of_cell hx]; simpa using hx
    rw [← e] at hu
    rw [← e2] at hu ⊢
    obtain ⟨q, hq, e4⟩ := gO_ok (x := gO RV.un (chLen c) fun m => bf (Nat.beq m sz) (nU RV.un (patch z c off) (fillP t l)) RV.un) rfl (fun q => hu q.symm)
    obtain ⟨hb, e5⟩ := bf_ok e4 (fun q => hu q.symm)
    obtain rfl := beq_ok hb
    obtain ⟨h3, e6⟩ := nU_ok e5 (fun q => hu q.symm)
    rw [← e6] at hu ⊢
    have hlen := chLen_ok q _ hq hd
    obtain ⟨h4, h5⟩ := patch_len c off C.toList _ h3 hz hd
    have hfit : off + (a.eval x).cells.toList.length ≤ C.toList.length := by
      rcases h4 with h4 | h4
      · rw [h4] at hlen; simp at hlen; omega
      · exact h4
    have hs : (a.eval x).cells.size = q := by simpa using hlen
    obtain ⟨C', g1, g2, g3, g4⟩ := fillP_ok F ps l (patch z c off) (C.toList.take off ++ (a.eval x).cells.toList ++ C.toList.drop (off + (a.eval x).cells.toList.length)).toArray (by simpa using hl)
      (fun k i x hk => hp (k + 1) i x hk) hu (by simpa using h5) (fun y hy => by
        simp only [List.mem_append] at hy
        rcases hy with (hy | hy) | hy
        · exact hc y (List.mem_of_mem_take hy)
        · exact hcc y hy
        · exact hc y (List.mem_of_mem_drop hy))
    refine ⟨C', ?_, ?_, g3, g4⟩
    · rw [List.map_cons, fill_one h1 hs (.inr (by simpa using hfit)) (by simp at hfit; omega)]
      simpa using g1
    · rw [g2]; simp at hfit ⊢; omega
end
end Go.Rn
