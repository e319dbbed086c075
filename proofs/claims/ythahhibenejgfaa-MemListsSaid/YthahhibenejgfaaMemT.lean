/-
  The law MemLists over what its parts do: it returns true whatever the lists. Conditions: the lists in memory, slices.SortFunc's contract, awake() true.
-/
import Derived.Test.YthahhibenejgfaaMemS
namespace Go.Proofs.Ythahhibenejgfaa
open Go.RowKit Mem
namespace Mem
theorem dd_pw {D S : List Ls} (h : D.map Ls.L = Dd S S.length) (hs : Asc S) : (mL D).Pairwise Lt := by
  unfold mL
  rw [h]
  exact up_pw (Dd_up S hs _ (Nat.le_refl _))
theorem dd_mem {D S C : List Ls} (h : D.map Ls.L = Dd S S.length) (hp : S.Perm C) (L : List Int) : L ∈ mL D ↔ L ∈ mL C := by
  have := mem_of h hp L
  unfold mL
  simpa [List.mem_map] using this
theorem held_mem {C E : List Ls} (h : Held C C.length E) (L : List Int) : L ∈ mL E ↔ L ∈ mL C := by
  rw [h L]
  constructor
  · rintro ⟨j, hj, g⟩; exact mem_yes hj g
  · intro g
    unfold mL at g
    rw [List.mem_map] at g
    obtain ⟨x, hx, rfl⟩ := g
    obtain ⟨i, hi, rfl⟩ := List.getElem_of_mem hx
    refine ⟨i, hi, ?_⟩
    rw [List.getD_eq_getElem?_getD, List.getElem?_eq_getElem hi]
    rfl
theorem ls_src {w : World} {a : Option Addr} {C : List Ls} (h : LsIn w a C) : C.length = 0 ∨ ∃ p, a = some p ∧ ∀ j u, (lvs C)[j]? = some u → w.cell? (p.add j) = some u := by
  rcases h with h | ⟨b, o, h1, _, h3⟩
  · exact .inl (by rw [h]; rfl)
  · exact .inr ⟨_, h1, ls_news fun q hq => (h3 q hq).1⟩
/-- the reference's row, as lists in memory -/
theorem ref_lv {w0 w w' : World} {a : Option Addr} {C : List Ls} {c : Nat} {v : Value} (h : RefOk C C.length w w' v) (hl : Lv w0 a C c) : ∃ (a' : Option Addr) (E : List Ls) (c' : Nat), v = .slice a' E.length c' ∧ Lv w' a' E c' ∧ (mL E).Pairwise Lt ∧ (∀ L, L ∈ mL E ↔ L ∈ mL C) ∧ Below w.heap.size w w' := by
  obtain ⟨B, E, h1, h2, h3, h4, h5, h6⟩ := h
  obtain ⟨a', c', rfl, h7, h8⟩ := own_ls h4 rfl h5
  refine ⟨a', E, c', rfl, ⟨h7, by have := hl.len; omega, fun x hx => ?_, h8⟩, h1, held_mem h2, h6⟩
  have : x.L ∈ mL C := (held_mem h2 _).1 (by unfold mL; exact List.mem_map.2 ⟨x, hx, rfl⟩)
  unfold mL at this
  obtain ⟨y, hy, e⟩ := List.mem_map.1 this
  rw [← e]
  exact hl.each y hy
end Mem
theorem refsort_v {w : World} {a : Option Addr} {C : List Ls} {c : Nat} (h : Lv w a C c) : Calls Try.prog 10 #[.slice a C.length c] w fun e w' => ∃ (a' : Option Addr) (E : List Ls) (c' : Nat), e = .returned (.slice a' E.length c') ∧ Lv w' a' E c' ∧ (mL E).Pairwise Lt ∧ (∀ L, L ∈ mL E ↔ L ∈ mL C) ∧ Below w.heap.size w w' := by
  refine (refsort_l a C c w h.on h.len h.lens).mono ?_
  rintro e w' ⟨v, rfl, hv⟩
  obtain ⟨a', E, c', rfl, g⟩ := ref_lv hv h
  exact ⟨a', E, c', rfl, g⟩
theorem refhas_v {w : World} {a : Option Addr} {C : List Ls} {c : Nat} (h : Lv w a C c) (m : Ls) (hm : NsIn w m.a m.L) (R : Bool) (hR : decide (m.L ∈ mL C) = R) :
    Calls Try.prog 12 #[.slice a C.length c, m.v] w fun e w' => e = .returned (.bool R) ∧ Below w.heap.size w w' := by
  rw [← hR]
  refine (refhas_l a C c m w h.on hm (by have := h.len; omega) h.lens).mono ?_
  rintro e w' ⟨h1, q, rfl⟩
  exact ⟨h1, below_drewN (Below.refl _ _) q⟩
theorem refin_v {w : World} {a b : Option Addr} {C D : List Ls} {c d : Nat} (h : Lv w a C c) (g : Lv w b D d) (R : Bool) (hR : decide (∀ L ∈ mL C, L ∈ mL D) = R) :
    Calls Try.prog 14 #[.slice a C.length c, .slice b D.length d] w fun e w' => e = .returned (.bool R) ∧ Below w.heap.size w w' := by
  rw [← hR]
  refine (refin_l a b C D c d w h.on g.on (by have := h.len; omega) (by have := g.len; omega) g.lens).mono ?_
  rintro e w' ⟨h1, q, rfl⟩
  exact ⟨h1, below_drewN (Below.refl _ _) q⟩
set_option maxRecDepth 100000 in
set_option maxHeartbeats 6400000 in
theorem memLists_l (HS : SortC) (HN : SortN) (haw : ∀ w, Calls Try.prog 7 #[] w fun e w' => e = .returned (.bool true) ∧ Below w.heap.size w w')
    (a : Option Addr) (C : List Ls) (c : Nat) (b : Option Addr) (D : List Ls) (d : Nat) (ma : Option Addr) (r : List Int) (mc : Nat) (w : World)
    (hin : LsIn w a C) (hcl : C.length ≤ maxLen) (hll : ∀ q, q < C.length → (C.getD q Ls.zero).L.length ≤ maxLen) (hc0 : a = none → C = [] ∧ c = 0)
    (hin' : LsIn w b D) (hcl' : D.length ≤ maxLen) (hll' : ∀ q, q < D.length → (D.getD q Ls.zero).L.length ≤ maxLen) (hc0' : b = none → D = [] ∧ d = 0)
    (hm : NsIn w ma r) :
    Calls Try.prog 3 #[.slice a C.length c, .slice b D.length d, .slice ma r.length mc] w fun e w' => e = .returned (.bool true) ∧ Below w.heap.size w w' := by
  have HAW := Lib.hid haw
  have HFE := Lib.hid (few_l a C c w hin hcl hll)
  have HFF := Lib.hid (few_l b D d w hin' hcl' hll')
  have HLF := Lib.hid (fun h => lv_of hin h hc0)
  have HLG := Lib.hid (fun h => lv_of hin' h hc0')
  have HM := Lib.hid hm
  clear haw hin hll hc0 hin' hll' hc0' hm hcl hcl'
  obtain ⟨i0, hi, hz0, hz1, hz2⟩ := info_parts info23
  go_enter Try.func3, Try.ntmps3
  go_wp2_with fail
  refine HFE.out.mono ?_
  rintro e w0 ⟨x, rfl, hx, rfl⟩
  cases x with
  | false =>
    go_wp2_with fail
    refine (HAW.out _).mono ?_
    rintro e w' ⟨rfl, hb⟩
    go_wp2_with fail
    go_ret
    exact ⟨rfl, hb⟩
  | true =>
    have hfw := hx rfl
    have HLV := Lib.hid (HLF.out hfw)
    have hC60 : C.length ≤ 60 := hfw.1
    clear hx hfw HLF
    go_wp2_with fail
    refine HFF.out.mono ?_
    rintro e w0 ⟨x, rfl, hx, rfl⟩
    cases x with
    | false =>
      go_wp2_with fail
      refine (HAW.out _).mono ?_
      rintro e w' ⟨rfl, hb⟩
      go_wp2_with fail
      go_ret
      exact ⟨rfl, hb⟩
    | true =>
      have hfw := hx rfl
      have HLD := Lib.hid (HLG.out hfw)
      have hD60 : D.length ≤ 60 := hfw.1
      clear hx hfw HLG HFE HFF
      by_cases hr : 20 < r.length
      · have e0 : decide ((r.length : Int) > 20) = true := by simp; omega
        have i0 : (20 : Int) < (r.length : Int) := by omega
        go_wp2_with fail
        refine (HAW.out _).mono ?_
        rintro e w' ⟨rfl, hb⟩
        go_wp2_with fail
        go_ret
        exact ⟨rfl, hb⟩
      · have e0 : decide ((r.length : Int) > 20) = false := by simp; omega
        have i0' : ¬ (20 : Int) < (r.length : Int) := by omega
        obtain ⟨m, hmm⟩ : ∃ m : Ls, m = ⟨ma, r, mc⟩ := ⟨_, rfl⟩
        have HMM : Hid (NsIn w m.a m.L) := Lib.hid (by rw [hmm]; exact HM.out)
        have HML : Hid (m.L.length ≤ 1000) := Lib.hid (by rw [hmm]; show r.length ≤ 1000; omega)
        have hmv : m.v = .slice ma r.length mc := by rw [hmm]; rfl
        obtain ⟨R1, hR1⟩ : ∃ R1, R1 = decide (m.L ∈ mL C) := ⟨_, rfl⟩
        obtain ⟨R2, hR2⟩ : ∃ R2, R2 = decide (∀ L ∈ mL C, L ∈ mL D) := ⟨_, rfl⟩
        have HR1 := Lib.hid hR1.symm
        have HR2 := Lib.hid hR2.symm
        have HMV := Lib.hid hmv
        clear hR1 hR2 hmm hmv HM
        go_wp2_with (at_builtin; refine wpList_append_any rfl _ _ 22 rfl w.heap.size 23 i0 _ 24 Try.underlying22 hi hz0 hz1 hz2 rfl (.slice none 0 0) 0 [] rfl ⟨rfl, .inl ⟨rfl, rfl⟩⟩ a C.length c (lvs C) rfl (lvs_len C) (ls_src HLV.out.on) (lvs_one C) (by unfold maxLen; omega) (by omega) (Nat.le_refl _) ?_; intro v1 w1 hown1 hgrow1 hat1; rw [Nat.zero_add, List.nil_append] at hown1; have HO1 := Lib.hid hown1; have HB1 : Hid (Below w.heap.size w w1) := Lib.hid ((Below.refl _ _).grown hgrow1 (Nat.le_refl _) (fun j hj => by simp [nil_own] at hj)); clear hown1 hgrow1 hat1)
        obtain ⟨a1, c1, rfl, ha1, hb1⟩ := own_ls HO1.out rfl (fun x hx => (ns_mem HLV.out.on x hx).next HB1.out)
        have HL1 : Hid (Lv w1 a1 C c1) := Lib.hid ⟨ha1, HLV.out.len, HLV.out.each, hb1⟩
        have HLV := Lib.hid (HLV.out.next HB1.out)
        have HLD := Lib.hid (HLD.out.next HB1.out)
        have HMM := Lib.hid (HMM.out.next HB1.out)
        clear HO1 ha1 hb1
        go_wp2_with fail
        refine (sort_v HS HN HL1.out).mono ?_
        rintro e w2 ⟨D1, b1, d1, S1, rfl, l1, s1, p1, o1, be⟩
        have HDP := Lib.hid (dd_pw s1 o1)
        have HDM := Lib.hid (fun L => dd_mem s1 p1 L)
        have HL2 := Lib.hid l1
        have HLV := Lib.hid (HLV.out.next be)
        have HLD := Lib.hid (HLD.out.next be)
        have HMM := Lib.hid (HMM.out.next be)
        have HB1 := Lib.hid (below_next HB1.out be HB1.out.size)
        clear be
        clear s1 p1 o1 l1 HL1
        go_wp2_with fail
        refine (refsort_v HLV.out).mono ?_
        rintro e w3 ⟨b3, E, d3, rfl, l3, hpw, hmem, be⟩
        have HEQ : Hid (decide (mL D1 = mL E) = true) := Lib.hid (by
          rw [decide_eq_true_iff]
          exact pw_eq HDP.out hpw fun L => (HDM.out L).trans (hmem L).symm)
        have HL3 := Lib.hid l3
        have HL2 := Lib.hid (HL2.out.next be)
        have HLV := Lib.hid (HLV.out.next be)
        have HLD := Lib.hid (HLD.out.next be)
        have HMM := Lib.hid (HMM.out.next be)
        have HB1 := Lib.hid (below_next HB1.out be HB1.out.size)
        clear be
        clear l3 hpw hmem
        go_wp2_with fail
        refine (same_v HL2.out HL3.out true HEQ.out).mono ?_
        rintro e w4 ⟨rfl, be⟩
        have HL2 := Lib.hid (HL2.out.next be)
        have HLV := Lib.hid (HLV.out.next be)
        have HLD := Lib.hid (HLD.out.next be)
        have HMM := Lib.hid (HMM.out.next be)
        have HB1 := Lib.hid (below_next HB1.out be HB1.out.size)
        clear be
        clear HEQ HL3
        go_wp2_with fail
        refine (sort_v HS HN HL2.out).mono ?_
        rintro e w5 ⟨D2, b5, d5, S5, rfl, l5, s5, p5, o5, be⟩
        have HEQ : Hid (decide (mL D2 = mL D1) = true) := Lib.hid (by
          rw [decide_eq_true_iff]
          exact pw_eq (dd_pw s5 o5) HDP.out fun L => dd_mem s5 p5 L)
        have HL5 := Lib.hid l5
        have HL2 := Lib.hid (HL2.out.next be)
        have HLV := Lib.hid (HLV.out.next be)
        have HLD := Lib.hid (HLD.out.next be)
        have HMM := Lib.hid (HMM.out.next be)
        have HB1 := Lib.hid (below_next HB1.out be HB1.out.size)
        clear be
        clear s5 p5 o5 l5
        go_wp2_with fail
        refine (same_v HL5.out HL2.out true HEQ.out).mono ?_
        rintro e w6 ⟨rfl, be⟩
        have HL2 := Lib.hid (HL2.out.next be)
        have HLV := Lib.hid (HLV.out.next be)
        have HLD := Lib.hid (HLD.out.next be)
        have HMM := Lib.hid (HMM.out.next be)
        have HB1 := Lib.hid (below_next HB1.out be HB1.out.size)
        clear be
        clear HEQ HL5
        go_wp2_with fail
        rw [← HMV.out]
        refine (has_v HLV.out m HMM.out HML.out R1 HR1.out).mono ?_
        rintro e w7 ⟨rfl, be⟩
        have HL2 := Lib.hid (HL2.out.next be)
        have HLV := Lib.hid (HLV.out.next be)
        have HLD := Lib.hid (HLD.out.next be)
        have HMM := Lib.hid (HMM.out.next be)
        have HB1 := Lib.hid (below_next HB1.out be HB1.out.size)
        clear be
        go_wp2_with fail
        refine (refhas_v HLV.out m HMM.out R1 HR1.out).mono ?_
        rintro e w8 ⟨rfl, be⟩
        have HL2 := Lib.hid (HL2.out.next be)
        have HLV := Lib.hid (HLV.out.next be)
        have HLD := Lib.hid (HLD.out.next be)
        have HMM := Lib.hid (HMM.out.next be)
        have HB1 := Lib.hid (below_next HB1.out be HB1.out.size)
        clear be
        have b1 : (R1 == R1) = true := by simp
        go_wp2_with fail
        refine (in_v HS HN HLV.out HLD.out R2 HR2.out).mono ?_
        rintro e w9 ⟨rfl, be⟩
        have HL2 := Lib.hid (HL2.out.next be)
        have HLV := Lib.hid (HLV.out.next be)
        have HLD := Lib.hid (HLD.out.next be)
        have HMM := Lib.hid (HMM.out.next be)
        have HB1 := Lib.hid (below_next HB1.out be HB1.out.size)
        clear be
        go_wp2_with fail
        refine (refin_v HLV.out HLD.out R2 HR2.out).mono ?_
        rintro e w10 ⟨rfl, be⟩
        have HL2 := Lib.hid (HL2.out.next be)
        have HLV := Lib.hid (HLV.out.next be)
        have HLD := Lib.hid (HLD.out.next be)
        have HMM := Lib.hid (HMM.out.next be)
        have HB1 := Lib.hid (below_next HB1.out be HB1.out.size)
        clear be
        have b2 : (R2 == R2) = true := by simp
        go_wp2_with fail
        refine (in_v HS HN HLV.out HL2.out true (by rw [decide_eq_true_iff]; exact fun L hL => (HDM.out L).2 hL)).mono ?_
        rintro e w11 ⟨rfl, be⟩
        have HL2 := Lib.hid (HL2.out.next be)
        have HLV := Lib.hid (HLV.out.next be)
        have HLD := Lib.hid (HLD.out.next be)
        have HMM := Lib.hid (HMM.out.next be)
        have HB1 := Lib.hid (below_next HB1.out be HB1.out.size)
        clear be
        go_wp2_with fail
        refine (in_v HS HN HL2.out HLV.out true (by rw [decide_eq_true_iff]; exact fun L hL => (HDM.out L).1 hL)).mono ?_
        rintro e w12 ⟨rfl, be⟩
        have HLV := Lib.hid (HLV.out.next be)
        have HLD := Lib.hid (HLD.out.next be)
        have HMM := Lib.hid (HMM.out.next be)
        have HB1 := Lib.hid (below_next HB1.out be HB1.out.size)
        clear be
        go_wp2_with fail
        refine (HAW.out _).mono ?_
        rintro e w13 ⟨rfl, be⟩
        have HB1 := Lib.hid (below_next HB1.out be HB1.out.size)
        go_wp2_with fail
        go_ret
        exact ⟨rfl, HB1.out⟩
end Go.Proofs.Ythahhibenejgfaa
