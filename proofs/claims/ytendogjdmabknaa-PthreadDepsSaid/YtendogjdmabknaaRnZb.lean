/-
  One text of a symbolic evaluator over the model, shown sound once for every program: no statement is claimed here.
-/
import Derived.Test.YtendogjdmabknaaRnZa
import Derived.Test.YtendogjdmabknaaRnUb
namespace Go.Rn
variable {ρ : Nat → Int} {P : Program}
variable {g fl nt : Nat} {ys : Ys} {cl : Cl'}
def lst (listed : Array Bool) : Nat → Bool := fun z => listed.getD z false
theorem lst_set {listed : Array Bool} {i : Nat} (h : i < listed.size) : lst (listed.setIfInBounds i true) = add1 (lst listed) i := by
  funext z
  unfold lst add1
  by_cases hz : z = i
  · subst hz; simp [h]
  · rw [if_neg hz, getD_set_ne false (fun e => hz e.symm)]
theorem count_set_false : ∀ (l : List Bool) (i : Nat), l[i]? = some false → (l.set i true).count false + 1 = l.count false
  | [], _, h => by simp at h
  | x :: l, 0, h => by
    have : x = false := by simpa using h
    subst this
    simp
  | x :: l, i + 1, h => by
    have := count_set_false l i (by simpa using h)
    cases x <;> simp <;> omega
section
variable {os : Array Oper} {l : List RQ} {V : Nat → FT} {H : Nat → HT} {N : Nat → Nat} {R : Nat → RV} {csF : List CK} {hsF : List HT} {bf : List Nat}
variable (D : Dw P fl nt ys cl os l V H N R csF hsF bf) (hy : YsOk ρ ys) (hcl : ClOk P ρ g cl) (hgf : g ≤ fl) (hf : fl ≤ N 0)
variable {a0 : Act} {m0 : Mp} {w0 : World} (s0 : Sim P ρ m0 g (H 0) w0) (f0 : Fresh (N 0) (N l.length) m0)
include D
theorem Dw.last {S : Nat → Bool} {j : Nat} {Hc : HT} {m : Mp} {a : Act} {w : World} (I : Inv P ρ g fl nt os l V H N R a0 m0 w0 S j Hc m a w) (hS : ∀ i, i < l.length → S i = true) :
    a.defers = a0.defers ∧ Fr P ρ m nt (V l.length) a.tmps ∧ Tr P ρ g fl (H 0) (N 0) m0 w0 (H l.length) (N l.length) m w := by
  have hE : effs l l.length = j := by
    rcases Nat.lt_or_ge j (effs l l.length) with p | p
    · obtain ⟨e, q, h1, h2, h3, h4⟩ := effs_ex (l := l) (j := j) l.length (Nat.le_refl _) p
      have := (I.ej e q h2 h3).1 (hS e h1)
      omega
    · have := I.je; omega
  refine ⟨I.defers, ?_, I.tr.narrow fun b c z hb => I.cov D (Nat.le_refl _) hE (fun k' q hk _ _ _ _ _ => hS k' hk) l.length (Nat.le_refl _) (by omega) c z hb⟩
  have := I.fr
  rwa [D.ts_all l.length (Nat.le_refl _) hS] at this
theorem Dw.ready_all {listed : Array Bool} (hsz : listed.size = l.length) (hr : Region.ready .any os listed = []) : ∀ n, ∀ i, i < n → i < l.length → lst listed i = true := by
  intro n
  induction n with
  | zero => intro i h; omega
  | succ n ih =>
    intro i h1 h2
    cases hi : lst listed i with
    | true => rfl
    | false =>
      have ho := Array.getElem?_eq_getElem (show i < os.size by rw [← D.len]; exact h2)
      have : i ∈ Region.ready .any os listed := by
        rw [mem_ready]
        refine ⟨?_, _, ho, fun e he hb => ?_⟩
        · unfold lst at hi
          have hlt : i < listed.size := by omega
          simp [hlt] at hi ⊢
          exact hi
        · have := back_get os.toList 0 i _ D.back (by rw [← ho]; simp) e he hb
          exact ih e.on (by omega) (by omega)
      rw [hr] at this
      cases this
include hy hcl hgf hf s0 f0
theorem Dw.any {r : Option Nat} {Q : Exit → Act → World → Prop} (hQ : ∀ a' w' m', a'.defers = a0.defers → Fr P ρ m' nt (V l.length) a'.tmps → Tr P ρ g fl (H 0) (N 0) m0 w0 (H l.length) (N l.length) m' w' → Q .normal a' w') :
    ∀ (fuel : Nat) (listed : Array Bool) (j : Nat) (Hc : HT) (m : Mp) (a : Act) (w : World), Inv P ρ g fl nt os l V H N R a0 m0 w0 (lst listed) j Hc m a w → listed.size = l.length → listed.toList.count false = fuel → wpAnyIn (WF r) 0 P .any os Q fuel listed a w
  | 0, listed, j, Hc, m, a, w, I, hsz, hct => by
    have hall : ∀ i, i < l.length → lst listed i = true := fun i hi => by
      have hlt : i < listed.size := by omega
      unfold lst
      have h1 := List.count_eq_zero.1 hct
      have h2 : listed[i] ∈ listed.toList := by simp
      cases hb : listed[i] with
      | true => simp [hlt, hb]
      | false => rw [hb] at h2; exact absurd h2 h1
    obtain ⟨d, F, T⟩ := D.last I hall
    refine ⟨?_, hQ a w m d F T⟩
    rw [List.eq_nil_iff_forall_not_mem]
    intro i hi
    rw [mem_ready] at hi
    obtain ⟨h1, o, ho, _⟩ := hi
    have hlt : i < l.length := by rw [D.len]; exact (Array.getElem?_eq_some_iff.1 ho).1
    have h2 := hall i hlt
    unfold lst at h2
    have hlt2 : i < listed.size := by omega
    simp [hlt2] at h1 h2
    rw [h1] at h2; cases h2
  | fuel + 1, listed, j, Hc, m, a, w, I, hsz, hct => by
    refine ⟨fun hr => ?_, fun i hi => ?_⟩
    · obtain ⟨d, F, T⟩ := D.last I (fun i hi => D.ready_all hsz hr (i + 1) i (by omega) hi)
      exact hQ a w m d F T
    · rw [mem_ready] at hi
      obtain ⟨h1, o, ho, hup⟩ := hi
      have hlt : i < listed.size := by rw [hsz, D.len]; exact (Array.getElem?_eq_some_iff.1 ho).1
      have h0 : listed[i] = false := by simpa [hlt] using h1
      refine D.next hy hcl hgf hf s0 f0 I ho (by unfold lst; simp [hlt, h0]) (fun o' ho' e he hb => ?_) fun j' Hc' m' a' w' I' => ?_
      · have : o' = o := by
          have h2 : os.toList[i]? = some o := by simpa using ho
          rw [h2] at ho'; cases ho'; rfl
        subst this
        exact hup e he hb
      · refine Dw.any hQ fuel _ j' Hc' m' a' w' (by rw [lst_set hlt]; exact I') (by simpa using hsz) ?_
        have := count_set_false listed.toList i (by simp [hlt, h0])
        rw [Array.toList_setIfInBounds]
        omega
end
theorem zip_get {α β : Type} : ∀ (a : List α) (b : List β) (i : Nat) (x : α), (a.zip b).length = a.length → a[i]? = some x → ∃ y, (a.zip b)[i]? = some (x, y)
  | [], _, _, _, _, h => by simp at h
  | x :: a, [], _, _, h, _ => by simp at h
  | x :: a, y :: b, 0, z, _, h => ⟨y, by simpa using h⟩
  | x :: a, y :: b, i + 1, z, hl, h => by
    obtain ⟨q, h1⟩ := zip_get a b i z (by simpa using hl) (by simpa using h)
    exact ⟨q, by simpa using h1⟩
theorem compDr_or (P : Program) (nt : Nat) (os : Array Oper) : compDr P nt os = [.q .no .no .nm badP] ∨ ∃ ks : List K3, compDr P nt os = (os.toList.zip ks).map (fun ok => compQ P nt os ok.1 ok.2) ∧
    ((os.toList.zip ks).map (fun ok => compQ P nt os ok.1 ok.2)).length = os.size ∧ backOk os.toList 0 = true ∧ onesOk ((os.toList.zip ks).map (fun ok => compQ P nt os ok.1 ok.2)) 0 = true ∧
    pairsOk (items ((os.toList.zip ks).map (fun ok => compQ P nt os ok.1 ok.2)) (Region.before os).toList 0 0) = true ∧ P.follows .mixedOrders = true := by
  have e : compDr P nt os = match kinds (Region.before os).toList (those .eff (os.toList.map fun o => cls ((compOp P nt o.op).getD badP)) 0) (those .alloc (os.toList.map fun o => cls ((compOp P nt o.op).getD badP)) 0) (os.toList.map fun o => cls ((compOp P nt o.op).getD badP)) 0 with
    | some ks => if ((os.toList.zip ks).map (fun ok => compQ P nt os ok.1 ok.2)).length = os.size ∧ backOk os.toList 0 = true ∧ onesOk ((os.toList.zip ks).map (fun ok => compQ P nt os ok.1 ok.2)) 0 = true ∧ pairsOk (items ((os.toList.zip ks).map (fun ok => compQ P nt os ok.1 ok.2)) (Region.before os).toList 0 0) = true ∧ P.follows .mixedOrders = true then (os.toList.zip ks).map (fun ok => compQ P nt os ok.1 ok.2) else [.q .no .no .nm badP]
    | none => [.q .no .no .nm badP] := rfl
  rw [e]
  cases kinds (Region.before os).toList (those .eff (os.toList.map fun o => cls ((compOp P nt o.op).getD badP)) 0) (those .alloc (os.toList.map fun o => cls ((compOp P nt o.op).getD badP)) 0) (os.toList.map fun o => cls ((compOp P nt o.op).getD badP)) 0 with
  | none => exact .inl rfl
  | some ks =>
    by_cases hc : ((os.toList.zip ks).map (fun ok => compQ P nt os ok.1 ok.2)).length = os.size ∧ backOk os.toList 0 = true ∧ onesOk ((os.toList.zip ks).map (fun ok => compQ P nt os ok.1 ok.2)) 0 = true ∧ pairsOk (items ((os.toList.zip ks).map (fun ok => compQ P nt os ok.1 ok.2)) (Region.before os).toList 0 0) = true ∧ P.follows .mixedOrders = true
    · exact .inr ⟨ks, if_pos hc, hc⟩
    · exact .inl (if_neg hc)
/-- a drawn region -/
theorem dr_ok {r : Option Nat} (hy : YsOk ρ ys) (hcl : ClOk P ρ g cl) (hgf : g ≤ fl) : DrOk r P ρ g fl nt ys cl := by
  intro id os t h n e t' h' n' hr hf
  have hr1 : brIs (dops ys cl fl n (compDr P nt os) t h n [] [h]) e t' h' n' := hr
  rcases dops_run (ys := ys) (cl := cl) (fl := fl) (n0 := n) (compDr P nt os) t h n [] [h] with ⟨k, hb⟩ | ⟨t1, h1, n1, hx, hle, V, H, N, R, csF, hsF, q1, q2, q3, q4, q5, q6, q7, q8, q9, q10, q11⟩
  · rw [hb] at hr1; exact absurd hr1 brIs_bad
  rw [hx] at hr1
  obtain ⟨rfl, rfl, rfl, rfl⟩ := brIs_nx.1 hr1
  -- the check said yes
  have notBad : compDr P nt os ≠ [.q .no .no .nm badP] := fun q => by
    rcases q7.turn 0 .no .no .nm badP (by rw [q]; rfl) with ⟨h1, _⟩ | ⟨_, h1, _⟩
    · cases h1
    · exact step_bad h1
  have key : ∃ ks, (compDr P nt os = (os.toList.zip ks).map fun ok => compQ P nt os ok.1 ok.2) ∧ (compDr P nt os).length = os.size ∧ backOk os.toList 0 = true ∧ onesOk (compDr P nt os) 0 = true ∧ pairsOk (items (compDr P nt os) (Region.before os).toList 0 0) = true ∧ P.follows .mixedOrders = true := by
    rcases compDr_or P nt os with h1 | ⟨ks, h1, h2⟩
    · exact absurd h1 notBad
    · rw [← h1] at h2
      exact ⟨ks, h1, h2⟩
  obtain ⟨ks, k1, k2, k3, k4, k5, k6⟩ := key
  generalize hl : compDr P nt os = l at *
  have D : Dw P fl nt ys cl os l V H N R csF hsF (Region.before os).toList := by
    refine ⟨k2, fun i o ho => ?_, by rw [q3]; exact q7, q8, by rw [q2]; exact q9, q11, k4, k5, k3, (before_ok os).2, by rw [q6]; exact hle⟩
    have hzl : (os.toList.zip ks).length = os.toList.length := by
      have := k2
      rw [k1, List.length_map] at this
      rw [this]; simp
    obtain ⟨k, hk⟩ := zip_get os.toList ks i o hzl (by simpa using ho)
    exact ⟨k, by rw [k1, List.getElem?_map, hk]; rfl⟩
  have hab := D.ab hcl.ab hgf (by rw [q3]; exact hf) l.length (Nat.le_refl _)
  rw [q2, q3, q5, q6] at hab
  refine ⟨hab, fun a m w F s fr base mk Q hQ => wpIn_region_any k6 ?_⟩
  have s0 : Sim P ρ m g (H 0) ({ w with drawn := w.drawn + 1 } : World) := by rw [q2]; exact s.of_heap rfl
  have f0 : Fresh (N 0) (N l.length) m := by rw [q3, q6]; exact fr
  refine D.any hy hcl hgf (by rw [q3]; exact hf) s0 f0 (a0 := a) (m0 := m) (w0 := { w with drawn := w.drawn + 1 }) (fun a' w' m' d' F' T' => ?_) os.size _ 0 (H 0) m a _ ?_ (by simp [k2]) (by simp)
  · rw [q4] at F'
    rw [q2, q3, q5, q6] at T'
    have T0 : Tr P ρ g fl h n m w h n m ({ w with drawn := w.drawn + 1 } : World) := Tr.drew s
    have TT := T0.trans T' (Nat.le_refl _) hab.le
    exact hQ a' w' m' (by rw [d']; exact mk.next TT) F' TT
  · have hno : lst (Array.replicate os.size false) = fun _ => false := by
      funext z
      unfold lst
      simp [Array.getD_eq_getD_getElem?, Array.getElem?_replicate]
      split <;> rfl
    rw [hno]
    have hts : ∀ i, ts l (V 0) R (fun _ => false) i = V 0 := by
      intro i
      induction i with
      | zero => rfl
      | succ i ih => show (if false = true then _ else ts l (V 0) R (fun _ => false) i) = _; rw [if_neg (by simp), ih]
    refine ⟨fun z hz => (by cases hz), rfl, by rw [hts, q1]; exact F, ?_, Nat.zero_le _, fun i q hq he => ⟨fun h => (by cases h), fun h => by omega⟩, fun x hx b c z hb => ?_, fun k q _ _ h => (by cases h), fun k hk _ => ?_⟩
    · refine ⟨s0, Ext.refl _ _ _, Keep.refl _ _ _ _, fun b c z B O Z h1 h2 h3 => .inr ⟨b, c, z, O, Z, h1, h2, h3⟩⟩
    · rcases hx with ⟨rfl, _⟩ | ⟨e, q, _, _, _, h3⟩
      · exact hb
      · omega
    · intro b h1 h2
      have m1 := D.mono hcl.ab hgf (by rw [q3]; exact hf) (i := 0) k (Nat.zero_le _) (by omega)
      have m2 := D.mono hcl.ab hgf (by rw [q3]; exact hf) (i := k + 1) l.length hk (Nat.le_refl _)
      exact f0 b (by omega) (by omega)
/-- a call is the model's, of what depth soever -/
theorem run_ok (hy : YsOk ρ ys) (fs : Nat → Option RF) (hfs : ∀ f r, fs f = some r → compF P f = some r) (deep : Nat) : ClOk P ρ g (call ys fs deep) :=
  call_ok hy fs hfs (fun _ _ _ _ h1 h2 => dr_ok hy h1 h2) deep
end Go.Rn
