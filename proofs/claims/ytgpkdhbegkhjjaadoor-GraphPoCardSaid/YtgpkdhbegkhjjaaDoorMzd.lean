/-
  What the functions that the law reaches do, one by one: contracts. Conditions: those that each of them prints.
-/
import Derived.Test.YtgpkdhbegkhjjaaDoorMzc
import Derived.Test.YtgpkdhbegkhjjaaDoorMzb
import Derived.WalkKit
import Derived.Deep.RegionWith
namespace Go.Proofs.YtgpkdhbegkhjjaaDoor
open Go.RowKit RelA
attribute [local go_sem ↓] Go.wp_at_zero Go.wp_at_succ
namespace RelA
structure FirOk (i : Nat) (E : List Ev) (R : List Int) (C : List Nat) (S : List (Nat × Obj)) : Prop where
  el : E.length = i
  rl : R.length = i
  cl : C.length = i
  fir : ∀ k, k < i → Ev.at E k = firE k
  neg : ∀ x ∈ R, x = -1
  src : ∀ k, k < i → (C.getD k 0, into k) ∈ S
theorem fir_zero : FirOk 0 [] [] [] [] := ⟨rfl, rfl, rfl, fun k hk => absurd hk (Nat.not_lt_zero _), (fun x hx => by cases hx), fun k hk => absurd hk (Nat.not_lt_zero _)⟩
theorem getD_snoc (C : List Nat) (x k : Nat) : (C ++ [x]).getD k 0 = if k < C.length then C.getD k 0 else if k = C.length then x else 0 := by
  by_cases h : k < C.length
  · rw [if_pos h, List.getD_eq_getElem?_getD, List.getElem?_append_left h, ← List.getD_eq_getElem?_getD]
  · rw [if_neg h, List.getD_eq_getElem?_getD, List.getElem?_append_right (by omega)]
    by_cases g : k = C.length
    · subst g; simp
    · rw [if_neg g, List.getElem?_eq_none (by simp; omega)]; rfl
theorem FirOk.snoc {i : Nat} {E : List Ev} {R : List Int} {C : List Nat} {S S' : List (Nat × Obj)} {x : Nat} (h : FirOk i E R C S) (hx : (x, into i) ∈ S') (hs : ∀ y ∈ S, y ∈ S') : FirOk (i + 1) (E ++ [firE i]) (R ++ [-1]) (C ++ [x]) S' := by
  refine ⟨by simp [h.el], by simp [h.rl], by simp [h.cl], fun k hk => ?_, fun y hy => ?_, fun k hk => ?_⟩
  · by_cases c : k = i
    · subst c; have := at_new E (firE k); rw [h.el] at this; exact this
    · rw [at_old _ _ (by rw [h.el]; omega)]; exact h.fir k (by omega)
  · rcases List.mem_append.1 hy with q | q
    · exact h.neg y q
    · simpa using q
  · rw [getD_snoc, h.cl]
    by_cases c : k < i
    · rw [if_pos c]; exact hs _ (h.src k c)
    · obtain rfl : k = i := by omega
      rw [if_neg c, if_pos rfl]; exact hx
structure BarOk (L t q : Nat) (E : List Ev) (R : List Int) (C : List Nat) (S : List (Nat × Obj)) (pc : Nat) : Prop where
  good : GoodT L E t q pc
  rl : R.length = E.length
  neg : ∀ x ∈ R, x = -1
  cl : C.length = L
  src : ∀ k, k < L → (C.getD k 0, into k) ∈ S
theorem FirOk.bar {i : Nat} {E : List Ev} {R : List Int} {C : List Nat} {S : List (Nat × Obj)} (h : FirOk i E R C S) : BarOk i 0 0 E R C S 0 :=
  ⟨fir_at h.el h.fir, by rw [h.rl, h.el], h.neg, h.cl, h.src⟩
theorem BarOk.snoc {L t q : Nat} {E : List Ev} {R : List Int} {C : List Nat} {S S' : List (Nat × Obj)} {pc : Nat} (h : BarOk L t q E R C S pc) (hs : ∀ y ∈ S, y ∈ S') : BarOk L t (q + 1) (E ++ [barE t]) (R ++ [-1]) C S' (pc + L + q) := by
  refine ⟨h.good.snoc, by simp [h.rl], fun y hy => ?_, h.cl, fun k hk => hs _ (h.src k hk)⟩
  rcases List.mem_append.1 hy with q | q
  · exact h.neg y q
  · simpa using q
theorem BarOk.next {L t q : Nat} {E : List Ev} {R : List Int} {C : List Nat} {S : List (Nat × Obj)} {pc : Nat} (h : BarOk L t q E R C S pc) : BarOk L (t + 1) 0 E R C S pc := ⟨h.good.next, h.rl, h.neg, h.cl, h.src⟩
theorem GIn0.next {w w' : World} {g : Gr} (h : GIn0 w g) (hb : Below w.heap.size w w') : GIn0 w' g :=
  ⟨h.es.next hb, h.rf.next hb, h.co.next hb, h.rmw.next hb, h.data.next hb, h.ctrl.next hb, h.ctrli.next hb, h.e50, h.r60, h.c6, h.l50, h.m50, h.d300, h.t300, h.i300⟩
theorem mb_zero (w : World) (L : Int) : MB w (w.alloc (.cells #[.int .i64 L, .slice none 0 0, .slice none 0 0, .slice none 0 0, .slice none 0 0, .slice none 0 0, .slice none 0 0, .slice none 0 0] 28)) w.heap.size L nsl nsl nsl nsl nsl nsl [] [] [] [] :=
  ⟨heap_alloc_new _ _, World.ownsRow_nil _ _ _ _, World.ownsRow_nil _ _ _ _, World.ownsRow_nil _ _ _ _, (fun x hx => by cases hx), (Below.refl _ _).alloc (Nat.le_refl _) _, Nat.le_refl _⟩
end RelA
set_option maxRecDepth 100000 in
set_option maxHeartbeats 16000000 in
theorem law_l (a : Option Addr) (Z : List Int) (c : Nat) (v : Int) (w : World) (h : NsIn w a Z) (ht : Tab w) :
    Calls Tryd.prog 3 #[.slice a Z.length c, .int .i64 v] w fun e w' => e = .returned (.bool true) ∧ Below w.heap.size w w' := by
  have HZ := Lib.hid (fun w' (hb : Below w.heap.size w w') => h.next hb)
  have HT := Lib.hid (fun w' (hb : Below w.heap.size w w') => ht.next hb)
  clear h ht
  have hm0 := Int.emod_nonneg v (show (4 : Int) ≠ 0 by omega)
  have hm1 := Int.emod_lt_of_pos v (show (0 : Int) < 4 by omega)
  obtain ⟨L, hL⟩ : ∃ L : Nat, 1 + v % 4 = (L : Int) := ⟨(1 + v % 4).toNat, by omega⟩
  have hL1 : 1 ≤ L := by omega
  have hL4 : L ≤ 4 := by omega
  go_enter Tryd.func3, Tryd.ntmps3
  go_wp2_with fail
  refine (place_any v 4 w (by omega) (by omega)).mono ?_
  rintro e w' ⟨rfl, rfl⟩
  go_wp2_with fail
  have hMB := Lib.hid (mb_zero w (1 + v % 4))
  rw [hL] at hMB

  generalize World.alloc w _ = w0 at hMB ⊢
  clear hL hm0 hm1
  have HLi : (L : Int) ≤ 4 := by omega
  go_loopw [6] (fun z6 wr => ∃ (i : Nat) (v1 v2 v3 : Value) (E : List Ev) (R : List Int) (C : List Nat) (S : List (Nat × Obj)), z6 = .int .i64 i ∧ i ≤ L ∧ Hid (MB w wr w.heap.size L v1 v2 v3 v1 v2 v3 E R C S) ∧ Hid (FirOk i E R C S)) (fun z6 _ => L - (intOf z6).toNat)
  case atStart => exact ⟨0, _, _, _, _, _, _, _, rfl, Nat.zero_le _, hMB, Lib.hid fir_zero⟩
  case round =>
    obtain ⟨i, v1, v2, v3, E, R, C, S, rfl, hi, HM, HF⟩ := hrel
    have c0 := HM.out.c0
    by_cases hlt : i < L
    · have hd : decide ((i : Int) < (L : Int)) = true := by simp; omega
      have hi4 : (i : Int) < 4 := by omega
      go_wp2_with fail
      refine region5_l w _ w.heap.size L i v1 v2 v3 E R C S HM.out (by have := HF.out.el; omega) (by have := HF.out.rl; omega) (by have := HF.out.cl; omega) _ _ _ _ _ _ _ _ _ _ _ _ _ _ _ _ _ _ _ _ _ _ _ _ _ _ _ _ _ _ _ _ _ _ _ _ _ _ _ _ _ _ _ _ _ _ _ _ _ _ _ _ _ _ _ _ _ _ _ _ _ _ _ _ _ _ _ _ _ _ _ _ _ _ _ _ _ _ _ _ _ _ _ _ _ _ _ _ _ _ _ _ _ _ _ _ _ _ _ _ _ _ _ _ _ _ _ _ _ _ _ _ _ _ (fun _ _ _ _ _ h => h) ?_
      intro y23 y24 y25 y26 y27 y28 y29 y30 y31 y32 y33 y34 y35 y36 y37 y38 y39 y40 y41 v1' v2' v3' x S' W' hM hx hs
      have HM2 := Lib.hid hM
      have HF2 := Lib.hid (HF.out.snoc hx hs)
      clear hM hx hs c0
      go_wp2_with fail
      go_roundw
      case rel => exact ⟨i + 1, _, _, _, _, _, _, _, by go_num, by omega, HM2, HF2⟩
      case measure => simp [intOf]; omega
    · have hd : decide ((i : Int) < (L : Int)) = false := by simp; omega
      obtain rfl : L = i := by omega
      clear hMB hi hlt
      go_wp2_with fail
      go_loopw [7, 8, 9] (fun z7 z8 z9 wr => ∃ (t want all : Nat) (v1 v2 v3 : Value) (E : List Ev) (R : List Int) (C : List Nat) (S : List (Nat × Obj)), z7 = .int .i64 want ∧ z8 = .int .i64 all ∧ z9 = .int .i64 t ∧ t ≤ 4 ∧ all ≤ 8 * t ∧ want ≤ 28 * t ∧ Hid (MB w wr w.heap.size L v1 v2 v3 v1 v2 v3 E R C S) ∧ Hid (BarOk L t 0 E R C S (want + L * all)) ∧ E.length = L + all) (fun _ _ z9 _ => 4 - (intOf z9).toNat)
      case atStart => exact ⟨0, 0, 0, _, _, _, _, _, _, _, rfl, rfl, rfl, by omega, by omega, by omega, HM, Lib.hid (by have := HF.out.bar; simpa using this), by have := HF.out.el; omega⟩
      case round =>
        obtain ⟨t, want, all, v1, v2, v3, E, R, C, S, rfl, rfl, rfl, ht4, hall, hwant, HM, HF, hEl⟩ := hrel
        by_cases hc : t < Z.length ∧ t < 4
        · obtain ⟨h1, h2⟩ := hc
          have d1 : decide ((t : Int) < (Z.length : Int)) = true := by simp; omega
          have i1 : (t : Int) < (Z.length : Int) := by omega
          have d2 : decide ((t : Int) < 4) = true := by simp; omega
          have i2 : (t : Int) < 4 := by omega
          obtain ⟨zt, hzt⟩ : ∃ x, x = Z.getD t 0 := ⟨_, rfl⟩
          have hcell : ∃ b o, a = some ⟨b, o, none⟩ ∧ wr.cell? ⟨b, o + t, none⟩ = some (.int .i64 zt) := by
            rcases HZ.out wr HM.out.bel with q | ⟨b, o, q1, _, q3⟩
            · rw [q] at h1; exact absurd h1 (Nat.not_lt_zero _)
            · exact ⟨b, o, q1, by rw [hzt]; exact q3 t h1⟩
          obtain ⟨b, o, ha, hcell⟩ := hcell
          clear hzt
          have hn0 := Int.emod_nonneg zt (show (9 : Int) ≠ 0 by omega)
          have hn1 := Int.emod_lt_of_pos zt (show (0 : Int) < 9 by omega)
          obtain ⟨n, hn⟩ : ∃ n : Nat, zt % 9 = (n : Int) := ⟨(zt % 9).toNat, by omega⟩
          have hn8 : n ≤ 8 := by omega
          subst ha
          go_wp2_with fail
          refine (place_any zt 9 _ (by omega) (by omega)).mono ?_
          rintro e w' ⟨rfl, rfl⟩
          go_wp2_with fail
          clear hn0 hn1 hcell
          go_loopw [11] (fun z11 wi => ∃ (q : Nat) (v1 v2 v3 : Value) (E : List Ev) (R : List Int) (C : List Nat) (S : List (Nat × Obj)), z11 = .int .i64 q ∧ q ≤ n ∧ Hid (MB w wi w.heap.size L v1 v2 v3 v1 v2 v3 E R C S) ∧ Hid (BarOk L t q E R C S (want + L * all + q * L + tri q)) ∧ E.length = L + all + q) (fun z11 _ => n - (intOf z11).toNat)
          case atStart => exact ⟨0, _, _, _, _, _, _, _, rfl, Nat.zero_le _, HM, Lib.hid (by have := HF.out; simpa [tri] using this), by omega⟩
          case round =>
            obtain ⟨q, v1, v2, v3, E, R, C, S, rfl, hq, HM, HF, hEl⟩ := hrel
            by_cases hlt : q < n
            · have d3 : decide ((q : Int) < (n : Int)) = true := by simp; omega
              have hq8 : (q : Int) < 8 := by omega
              go_wp2_with fail
              refine region14_l w _ w.heap.size L t v1 v2 v3 E R C S HM.out (by omega) (by have := HF.out.rl; omega) (by omega) (by omega) _ _ _ _ _ _ _ _ _ _ _ _ _ _ _ _ _ _ _ _ _ _ _ _ _ _ _ _ _ _ _ _ _ _ _ _ _ _ _ _ _ _ _ _ _ _ _ _ _ _ _ _ _ _ _ _ _ _ _ _ _ _ _ _ _ _ _ _ _ _ _ _ _ _ _ _ _ _ _ _ _ _ _ _ _ _ _ _ _ _ _ _ _ _ _ _ _ _ _ _ _ _ _ _ _ _ _ _ _ _ _ _ _ _ (fun _ _ _ _ _ h => h) ?_
              intro y62 y63 y64 y65 y66 y67 y68 y69 y70 y71 y72 y73 y74 v1' v2' S' W' hM hs
              have HM2 := Lib.hid hM
              have HF2 := Lib.hid (HF.out.snoc hs)
              clear hM hs
              go_wp2_with fail
              go_roundw
              case rel => exact ⟨q + 1, _, _, _, _, _, _, _, by go_num, by omega, HM2, Lib.hid (by have := HF2.out; have e : want + L * all + (q + 1) * L + tri (q + 1) = want + L * all + q * L + tri q + L + q := (by rw [Nat.add_mul]; show _ + (tri q + q) = _; omega); rw [e]; exact this), by simp; omega⟩
              case measure => simp [intOf]; omega
            · have d3 : decide ((q : Int) < (n : Int)) = false := by simp; omega
              obtain rfl : n = q := by omega
              obtain ⟨T, hT⟩ : ∃ T, T = tri n := ⟨_, rfl⟩
              have hT8 : T ≤ 28 := by
                have : n = 0 ∨ n = 1 ∨ n = 2 ∨ n = 3 ∨ n = 4 ∨ n = 5 ∨ n = 6 ∨ n = 7 ∨ n = 8 := by omega
                rcases this with h | h | h | h | h | h | h | h | h <;> subst h <;> subst hT <;> decide
              have hmul : (n : Int) * ((n : Int) - 1) = 2 * (T : Int) := by rw [hT]; exact tri2 n
              clear hq hlt
              go_wp2_with fail
              go_roundw
              case rel => exact ⟨t + 1, want + T, all + n, _, _, _, _, _, _, _, by rw [hT]; go_num, by go_num, by go_num, by omega, by omega, by omega, HM, Lib.hid (by have := HF.out.next; have e : want + T + L * (all + n) = want + L * all + n * L + tri n := (by rw [Nat.mul_add, Nat.mul_comm n L, ← hT]; omega); rw [e]; exact this), by omega⟩
              case measure => simp [intOf]; omega
        · have hbox := HM.out.box
          obtain ⟨G, hGE, hGc, hGi, hGcap, hGv⟩ := mb_graph HM.out HF.out.good hL1 hL4 ht4 (by have : L * all ≤ L * all := Nat.le_refl _; omega) HF.out.rl HF.out.neg HF.out.cl HF.out.src
          have hGn : G.n ≤ 40 := by show G.E.length ≤ 40; rw [hGE]; omega
          have c0 : wr.cell? ⟨w.heap.size, 0, none⟩ = some (.int .i64 (L : Int)) := HM.out.c0
          have c1 : wr.cell? ⟨w.heap.size, 1, none⟩ = some v1 := by simp only [World.cell?, hbox]; rfl
          have c2 : wr.cell? ⟨w.heap.size, 2, none⟩ = some v2 := by simp only [World.cell?, hbox]; rfl
          have c3 : wr.cell? ⟨w.heap.size, 3, none⟩ = some v3 := by simp only [World.cell?, hbox]; rfl
          have c4 : wr.cell? ⟨w.heap.size, 4, none⟩ = some (.slice none 0 0) := by simp only [World.cell?, hbox]; rfl
          have c5 : wr.cell? ⟨w.heap.size, 5, none⟩ = some (.slice none 0 0) := by simp only [World.cell?, hbox]; rfl
          have c6 : wr.cell? ⟨w.heap.size, 6, none⟩ = some (.slice none 0 0) := by simp only [World.cell?, hbox]; rfl
          have c7 : wr.cell? ⟨w.heap.size, 7, none⟩ = some (.slice none 0 0) := by simp only [World.cell?, hbox]; rfl
          clear hbox
          have HPo : Hid (Calls Tryd.prog 5 #[.agg #[.int .i64 (L : Int), v1, v2, v3, .slice none 0 0, .slice none 0 0, .slice none 0 0, .slice none 0 0]] wr (Makes G.n (poM G.E) wr)) := Lib.hid (by have := po_l G wr hGi.es hGn hGcap; rw [hGv] at this; exact this)
          have HCk : Hid (∀ W, Below wr.heap.size wr W → Calls Tryd.prog 6 #[.agg #[.int .i64 (L : Int), v1, v2, v3, .slice none 0 0, .slice none 0 0, .slice none 0 0, .slice none 0 0]] W fun e w' => e = .returned (.bool true) ∧ Below W.heap.size W w') := Lib.hid (fun W hb => by have := (check_p G W (hGi.next hb)).mono (fun e w' q => exact_yes q hGc); rw [hGv] at this; exact this)
          obtain ⟨N, hN⟩ : ∃ N, (rpairs G.n (poM G.E)).length = N := ⟨_, rfl⟩
          have hNv : N = want + L * all := by rw [← hN]; have := HF.out.good.pc_; unfold pcount at this; rw [← hGE] at this; exact this
          have hGp : ∀ i j, plusM (poM G.E) i j = true → poM G.E i j = true := by rw [hGE]; exact fun i j q => po_plus HF.out.good q
          obtain ⟨PP, hPP⟩ : ∃ PP, PP = L * all := ⟨_, rfl⟩
          have hPb : PP ≤ 128 := by rw [hPP]; exact Nat.le_trans (Nat.mul_le_mul hL4 (show all ≤ 32 by omega)) (by decide)
          rw [← hPP] at hNv
          have hmul : (L : Int) * (all : Int) = (PP : Int) := by rw [hPP]; simp
          have zw1 : IntKind.i64.wrap ((L : Int) * (all : Int)) = (PP : Int) := by rw [hmul]; exact IntWalk.i64_in _ (by omega)
          have zw2 : IntKind.i64.wrap ((want : Int) + (PP : Int)) = (N : Int) := by rw [IntWalk.i64_in _ (by omega)]; omega
          clear hPP hGc hGi hGv hGcap hmul hNv
          rcases Nat.lt_or_ge t Z.length with hz1 | hz1
          · have hz3 : ¬ t < 4 := fun q => hc ⟨hz1, q⟩
            have d1 : decide ((t : Int) < (Z.length : Int)) = true := by simp; omega
            have d2 : decide ((t : Int) < 4) = false := by simp; omega
            clear hc
            go_wp2_with fail
            refine (HPo.out).mono ?_
            rintro e w1 ⟨d, rfl, hrl, _, hb1⟩
            have HR1 := Lib.hid hrl
            have HB1 := Lib.hid hb1
            have HW1 := Lib.hid (below_next HM.out.bel hb1)
            clear hrl
            have HPr : Hid (∀ W, Below w1.heap.size w1 W → Calls Tryd.prog 7 #[.pointer (some ⟨d, 0, none⟩)] W fun e w' => ∃ a c, e = .returned (.slice a N c) ∧ Below W.heap.size W w') := Lib.hid (fun W hb => by rw [← hN]; exact pairs_c d G.n (poM G.E) W (HR1.out.next hb) hGn (HT.out W (below_next HW1.out hb)))
            have HLo : Hid (∀ W, Below w1.heap.size w1 W → Calls Tryd.prog 8 #[.pointer (some ⟨d, 0, none⟩)] W fun e w' => e = .returned (.bool false) ∧ Below W.heap.size W w') := Lib.hid (fun W hb => loops_c d G.n (poM G.E) W (HR1.out.next hb) hGn (fun a q => Nat.lt_irrefl a (po_path q)) (HT.out W (below_next HW1.out hb)))
            have HPl : Hid (∀ W, Below w1.heap.size w1 W → Calls Tryd.prog 9 #[.pointer (some ⟨d, 0, none⟩)] W (Makes G.n (plusM (poM G.E)) W)) := Lib.hid (fun W hb => plus_l d G.n (poM G.E) W (HR1.out.next hb) (HT.out W (below_next HW1.out hb)))
            have HIn : Hid (∀ x W, Below w1.heap.size w1 W → Rl W x G.n (plusM (poM G.E)) → Calls Tryd.prog 10 #[.pointer (some ⟨x, 0, none⟩), .pointer (some ⟨d, 0, none⟩)] W fun e w' => e = .returned (.bool true) ∧ Below W.heap.size W w') := Lib.hid (fun x W hb hr => in_c x d G.n (plusM (poM G.E)) (poM G.E) W hr (HR1.out.next hb) (fun i j q => hGp i j q))
            have HBD : Hid (Below w1.heap.size w1 w1.drew) := Lib.hid (Below.refl _ _).drew
            have HCd : Hid (∀ W, Below w1.heap.size w1 W → W.cell? ⟨w.heap.size, 0, none⟩ = some (.int .i64 (L : Int))) := Lib.hid (fun W hb => cell_next (cell_next (show wr.cell? ⟨w.heap.size, 0, none⟩ = some (.int .i64 (L : Int)) from HM.out.c0) HB1.out) hb)
            have q0 := cell_next c0 hb1
            have q1 := cell_next c1 hb1
            have q2 := cell_next c2 hb1
            have q3 := cell_next c3 hb1
            have q4 := cell_next c4 hb1
            have q5 := cell_next c5 hb1
            have q6 := cell_next c6 hb1
            have q7 := cell_next c7 hb1
            clear c0 c1 c2 c3 c4 c5 c6 c7 hb1 hGp hN
            go_wp2_with fail
            go_region_with (first
            | (go_at_call 6; refine (HCk.out _ (below_next HB1.out HBD.out)).mono ?_; rintro e w2 ⟨rfl, hb⟩; have HB2 := Lib.hid (below_next HBD.out hb); have k0 := HCd.out _ HB2.out; clear hb)
            | (go_at_call 7; refine (HPr.out _ HB2.out).mono ?_; rintro e w3 ⟨pa, pc, rfl, hb⟩; have HB3 := Lib.hid (below_next HB2.out hb); have k1 := HCd.out _ HB3.out; clear hb)
            | (go_at_call 8; refine (HLo.out _ HB3.out).mono ?_; rintro e w4 ⟨rfl, hb⟩; have HB4 := Lib.hid (below_next HB3.out hb); clear hb)
            | (go_at_call 9; refine (HPl.out _ HB4.out).mono ?_; rintro e w5 ⟨x, rfl, hr, _, hb⟩; have HB5 := Lib.hid (below_next HB4.out hb); have HR5 := Lib.hid hr; clear hb hr)
            | (go_at_call 10; refine (HIn.out _ _ HB5.out HR5.out).mono ?_; rintro e w6 ⟨rfl, hb⟩; have HB6 := Lib.hid (below_next HB5.out hb); clear hb)
            | (go_at_call 11; refine (awake_l _).mono ?_; rintro e w7 ⟨rfl, hb⟩; have HB7 := Lib.hid (below_next HB6.out hb); clear hb))
            all_goals go_wp2_with fail
            all_goals go_ret
            all_goals exact ⟨rfl, below_next HW1.out HB7.out⟩
          · have d1 : decide ((t : Int) < (Z.length : Int)) = false := by simp; omega
            clear hc
            go_wp2_with fail
            refine (HPo.out).mono ?_
            rintro e w1 ⟨d, rfl, hrl, _, hb1⟩
            have HR1 := Lib.hid hrl
            have HB1 := Lib.hid hb1
            have HW1 := Lib.hid (below_next HM.out.bel hb1)
            clear hrl
            have HPr : Hid (∀ W, Below w1.heap.size w1 W → Calls Tryd.prog 7 #[.pointer (some ⟨d, 0, none⟩)] W fun e w' => ∃ a c, e = .returned (.slice a N c) ∧ Below W.heap.size W w') := Lib.hid (fun W hb => by rw [← hN]; exact pairs_c d G.n (poM G.E) W (HR1.out.next hb) hGn (HT.out W (below_next HW1.out hb)))
            have HLo : Hid (∀ W, Below w1.heap.size w1 W → Calls Tryd.prog 8 #[.pointer (some ⟨d, 0, none⟩)] W fun e w' => e = .returned (.bool false) ∧ Below W.heap.size W w') := Lib.hid (fun W hb => loops_c d G.n (poM G.E) W (HR1.out.next hb) hGn (fun a q => Nat.lt_irrefl a (po_path q)) (HT.out W (below_next HW1.out hb)))
            have HPl : Hid (∀ W, Below w1.heap.size w1 W → Calls Tryd.prog 9 #[.pointer (some ⟨d, 0, none⟩)] W (Makes G.n (plusM (poM G.E)) W)) := Lib.hid (fun W hb => plus_l d G.n (poM G.E) W (HR1.out.next hb) (HT.out W (below_next HW1.out hb)))
            have HIn : Hid (∀ x W, Below w1.heap.size w1 W → Rl W x G.n (plusM (poM G.E)) → Calls Tryd.prog 10 #[.pointer (some ⟨x, 0, none⟩), .pointer (some ⟨d, 0, none⟩)] W fun e w' => e = .returned (.bool true) ∧ Below W.heap.size W w') := Lib.hid (fun x W hb hr => in_c x d G.n (plusM (poM G.E)) (poM G.E) W hr (HR1.out.next hb) (fun i j q => hGp i j q))
            have HBD : Hid (Below w1.heap.size w1 w1.drew) := Lib.hid (Below.refl _ _).drew
            have HCd : Hid (∀ W, Below w1.heap.size w1 W → W.cell? ⟨w.heap.size, 0, none⟩ = some (.int .i64 (L : Int))) := Lib.hid (fun W hb => cell_next (cell_next (show wr.cell? ⟨w.heap.size, 0, none⟩ = some (.int .i64 (L : Int)) from HM.out.c0) HB1.out) hb)
            have q0 := cell_next c0 hb1
            have q1 := cell_next c1 hb1
            have q2 := cell_next c2 hb1
            have q3 := cell_next c3 hb1
            have q4 := cell_next c4 hb1
            have q5 := cell_next c5 hb1
            have q6 := cell_next c6 hb1
            have q7 := cell_next c7 hb1
            clear c0 c1 c2 c3 c4 c5 c6 c7 hb1 hGp hN
            go_wp2_with fail
            go_region_with (first
              | (go_at_call 6; refine (HCk.out _ (below_next HB1.out HBD.out)).mono ?_; rintro e w2 ⟨rfl, hb⟩; have HB2 := Lib.hid (below_next HBD.out hb); have k0 := HCd.out _ HB2.out; clear hb)
              | (go_at_call 7; refine (HPr.out _ HB2.out).mono ?_; rintro e w3 ⟨pa, pc, rfl, hb⟩; have HB3 := Lib.hid (below_next HB2.out hb); have k1 := HCd.out _ HB3.out; clear hb)
              | (go_at_call 8; refine (HLo.out _ HB3.out).mono ?_; rintro e w4 ⟨rfl, hb⟩; have HB4 := Lib.hid (below_next HB3.out hb); clear hb)
              | (go_at_call 9; refine (HPl.out _ HB4.out).mono ?_; rintro e w5 ⟨x, rfl, hr, _, hb⟩; have HB5 := Lib.hid (below_next HB4.out hb); have HR5 := Lib.hid hr; clear hb hr)
              | (go_at_call 10; refine (HIn.out _ _ HB5.out HR5.out).mono ?_; rintro e w6 ⟨rfl, hb⟩; have HB6 := Lib.hid (below_next HB5.out hb); clear hb)
              | (go_at_call 11; refine (awake_l _).mono ?_; rintro e w7 ⟨rfl, hb⟩; have HB7 := Lib.hid (below_next HB6.out hb); clear hb))
            all_goals go_wp2_with fail
            all_goals go_ret
            all_goals exact ⟨rfl, below_next HW1.out HB7.out⟩

end Go.Proofs.YtgpkdhbegkhjjaaDoor
