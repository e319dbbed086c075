/-
  What the functions that the law reaches do, one by one: contracts. Conditions: those that each of them prints.
-/
import Derived.Test.YtgpkdhbegkhjjaaDoorMza
import Derived.WalkKit
namespace Go.Proofs.YtgpkdhbegkhjjaaDoor
open Go.RowKit RelA
attribute [local go_sem ↓] Go.wp_at_zero Go.wp_at_succ
namespace RelA
/-- the example's graph; the second argument: what it reads from -/
def exG (n : Nat) (a : Option Addr) (R : List Int) (c : Nat) : Gr := ⟨1, some ⟨n, 0, none⟩, [firE 0], 1, a, R, c, some ⟨n + 3, 0, none⟩, [⟨some ⟨n + 2, 0, none⟩, [0], 1⟩], 1, none, [], 0, none, [], 0, none, [], 0, none, [], 0⟩
def zG : Gr := ⟨0, none, [], 0, none, [], 0, none, [], 0, none, [], 0, none, [], 0, none, [], 0, none, [], 0⟩
structure ExIn (W : World) (n : Nat) : Prop where
  b0 : W.heap[n]? = some (evo (firE 0))
  b1 : W.heap[n + 1]? = some (into (-1))
  b2 : W.heap[n + 2]? = some (into 0)
  b3 : W.heap[n + 3]? = some (lio (n + 2))
theorem ex_gin {W : World} {n : Nat} (h : ExIn W n) (a : Option Addr) (R : List Int) (c : Nat) (hR : NsIn W a R) (hl : R.length ≤ 1) : GIn0 W (exG n a R c) := by
  have pn : ∀ w : World, PIn w none [] 0 := fun w => .inl ⟨rfl, rfl, rfl⟩
  have cell : ∀ {b : Nat} {o : Obj} {cs : Array Value} {t : TypeId}, W.heap[b]? = some o → o = .cells cs t (0, 0) → ∀ k, W.cell? ⟨b, k, none⟩ = cs[k]? := fun h1 h2 k => by
    subst h2; unfold World.cell?; simp only [h1]; rfl
  refine ⟨.inr ⟨n, 0, rfl, blk_lt h.b0, fun q hq => ?_⟩, hR, .inr ⟨n + 3, 0, rfl, blk_lt h.b3, fun q hq => ?_⟩, pn W, pn W, pn W, pn W, (by decide : (1 : Nat) ≤ 50), Nat.le_trans hl (by decide), (by decide : (1 : Nat) ≤ 6), fun q hq => ?_, Nat.zero_le _, Nat.zero_le _, Nat.zero_le _, Nat.zero_le _⟩
  · obtain rfl : q = 0 := by have : q < 1 := hq; omega
    exact ⟨cell h.b0 rfl 0, cell h.b0 rfl 1, cell h.b0 rfl 2, cell h.b0 rfl 3, cell h.b0 rfl 4, cell h.b0 rfl 5⟩
  · obtain rfl : q = 0 := by have : q < 1 := hq; omega
    refine ⟨cell h.b3 rfl 0, .inr ⟨n + 2, 0, rfl, blk_lt h.b2, fun k hk => ?_⟩, Nat.le_refl _⟩
    obtain rfl : k = 0 := by have : k < 1 := hk; omega
    exact cell h.b2 rfl 0
  · obtain rfl : q = 0 := by have : q < 1 := hq; omega
    exact (by decide : (1 : Nat) ≤ 50)
theorem zg_gin (W : World) : GIn0 W zG := by
  have pn : ∀ w : World, PIn w none [] 0 := fun w => .inl ⟨rfl, rfl, rfl⟩
  exact ⟨.inl rfl, .inl rfl, .inl rfl, pn W, pn W, pn W, pn W, Nat.zero_le _, Nat.zero_le _, Nat.zero_le _, fun q hq => absurd hq (Nat.not_lt_zero _), Nat.zero_le _, Nat.zero_le _, Nat.zero_le _, Nat.zero_le _⟩
theorem ex_ok (n : Nat) (a : Option Addr) (c : Nat) : CheckOk (exG n a [-1] c) := by
  have g : GoodT 1 [firE 0] 0 0 0 := fir_at rfl (fun i hi => by obtain rfl : i = 0 := (by omega); rfl)
  exact good_check g (by decide) (by decide) (by decide) (by decide) (R := [-1]) rfl (by simp) _ rfl rfl rfl rfl (fun j hj => by obtain rfl : j = 0 := (by omega); rfl) rfl rfl rfl rfl
theorem ex_no (n : Nat) (a : Option Addr) (c : Nat) : ¬ CheckOk (exG n a [] c) := fun h => by
  have : (0 : Nat) = 1 := h.rlen
  omega
theorem z_no : ¬ CheckOk zG := fun h => by
  have : (1 : Int) ≤ 0 := h.l1
  omega
theorem exact_yes {K : Prop} {w : World} {e : Ending} {w' : World} (h : Exact K w e w') (k : K) : e = .returned (.bool true) ∧ Below w.heap.size w w' := by
  obtain ⟨x, rfl, a, b⟩ := h
  rw [a.2 k]; exact ⟨rfl, b⟩
theorem exact_no {K : Prop} {w : World} {e : Ending} {w' : World} (h : Exact K w e w') (k : ¬ K) : e = .returned (.bool false) ∧ Below w.heap.size w w' := by
  obtain ⟨x, rfl, a, b⟩ := h
  cases x
  · exact ⟨rfl, b⟩
  · exact absurd (a.1 rfl) k
def exW (w : World) : World := ((((w.alloc (.cells #[.int .i64 0, .int .i64 2, .int .i64 0, .int .i64 0, .int .i64 0, .bool false] 30)).alloc (.cells #[.int .i64 (-1)] 3)).alloc (.cells #[.int .i64 0] 3)).alloc (.cells #[.slice (some ⟨w.heap.size + 1 + 1, 0, none⟩) 1 1] 22)).alloc
  (.cells #[.int .i64 1, .slice (some ⟨w.heap.size, 0, none⟩) 1 1, .slice (some ⟨w.heap.size + 1, 0, none⟩) 1 1, .slice (some ⟨w.heap.size + 1 + 1 + 1, 0, none⟩) 1 1, .slice none 0 0, .slice none 0 0, .slice none 0 0, .slice none 0 0] 28)
theorem alloc_at (w : World) (o : Obj) (n : Nat) (h : n = w.heap.size) : (w.alloc o).heap[n]? = some o := by subst h; exact heap_alloc_new _ _
theorem ex_in (w : World) : ExIn (exW w) w.heap.size := by
  unfold exW
  refine ⟨?_, ?_, ?_, ?_⟩
  · rw [alloc_old _ _ _ (by simp <;> omega), alloc_old _ _ _ (by simp <;> omega), alloc_old _ _ _ (by simp <;> omega), alloc_old _ _ _ (by simp), alloc_at _ _ _ rfl]; rfl
  · rw [alloc_old _ _ _ (by simp <;> omega), alloc_old _ _ _ (by simp <;> omega), alloc_old _ _ _ (by simp), alloc_at _ _ _ (by simp)]; rfl
  · rw [alloc_old _ _ _ (by simp <;> omega), alloc_old _ _ _ (by simp), alloc_at _ _ _ (by simp)]; rfl
  · rw [alloc_old _ _ _ (by simp), alloc_at _ _ _ (by simp)]; rfl
theorem ex_box (w : World) : (exW w).heap[w.heap.size + 4]? = some (.cells #[.int .i64 1, .slice (some ⟨w.heap.size, 0, none⟩) 1 1, .slice (some ⟨w.heap.size + 1, 0, none⟩) 1 1, .slice (some ⟨w.heap.size + 1 + 1 + 1, 0, none⟩) 1 1, .slice none 0 0, .slice none 0 0, .slice none 0 0, .slice none 0 0] 28 (0, 0)) := by
  unfold exW
  rw [alloc_at _ _ _ (by simp)]
theorem ex_bel (w : World) : Below w.heap.size w (exW w) := by
  unfold exW
  exact (((((Below.refl _ _).alloc (Nat.le_refl _) _).alloc (by simp) _).alloc (by simp <;> omega) _).alloc (by simp <;> omega) _).alloc (by simp <;> omega) _
theorem ExIn.next {W W' : World} {n : Nat} (h : ExIn W n) (hb : Below W.heap.size W W') : ExIn W' n :=
  ⟨(hb.block _ (blk_lt h.b0)).trans h.b0, (hb.block _ (blk_lt h.b1)).trans h.b1, (hb.block _ (blk_lt h.b2)).trans h.b2, (hb.block _ (blk_lt h.b3)).trans h.b3⟩
theorem ExIn.set {W : World} {n : Nat} (h : ExIn W n) (b k : Nat) (v : Value) (hb : n + 3 < b) : ExIn (W.setCell ⟨b, k, none⟩ v) n := by
  have key : ∀ x, x ≤ n + 3 → (W.setCell ⟨b, k, none⟩ v).heap[x]? = W.heap[x]? := fun x hx => Below.heap_setCell W ⟨b, k, none⟩ v x (fun q => by have : x = b := q; omega)
  exact ⟨by rw [key _ (by omega)]; exact h.b0, by rw [key _ (by omega)]; exact h.b1, by rw [key _ (by omega)]; exact h.b2, by rw [key _ (by omega)]; exact h.b3⟩
theorem ex_ns {W : World} {n : Nat} (h : ExIn W n) : NsIn W (some ⟨n + 1, 0, none⟩) [-1] := by
  refine .inr ⟨n + 1, 0, rfl, blk_lt h.b1, fun q hq => ?_⟩
  obtain rfl : q = 0 := by have : q < 1 := hq; omega
  have h1 : W.heap[n + 1]? = some (.cells #[.int .i64 (-1)] 3 (0, 0)) := h.b1
  show W.cell? ⟨n + 1, 0, none⟩ = _
  unfold World.cell?
  simp only [h1]
  rfl
end RelA
set_option maxRecDepth 20000 in
set_option maxHeartbeats 4000000 in
theorem awake_l (w : World) : Calls Tryd.prog 11 #[] w fun e w' => e = .returned (.bool true) ∧ Below w.heap.size w w' := by
  have HC1 := Lib.hid (fun (n : Nat) W (h : ExIn W n) (hR : NsIn W (some ⟨n + 1, 0, none⟩) [-1]) => (check_p (exG n (some ⟨n + 1, 0, none⟩) [-1] 1) W (ex_gin h _ _ _ hR (by decide))).mono fun e w' q => exact_yes q (ex_ok n _ _))
  have HC2 := Lib.hid (fun (n : Nat) W (h : ExIn W n) => (check_p (exG n none [] 0) W (ex_gin h _ _ _ (.inl rfl) (by decide))).mono fun e w' q => exact_no q (ex_no n _ _))
  have HC3 := Lib.hid (fun W => (check_p zG W (zg_gin W)).mono fun e w' q => exact_no q z_no)
  go_enter Tryd.func11, Tryd.ntmps11
  go_wp2_with fail
  obtain ⟨W, hW⟩ : ∃ W, W = exW w := ⟨_, rfl⟩
  have hX := ex_in w
  have hbox := ex_box w
  have hBW := ex_bel w
  rw [← hW] at hX hbox hBW
  unfold exW at hW
  rw [← hW]
  clear hW
  have hsz : w.heap.size + 4 < W.heap.size := blk_lt hbox
  refine (HC1.out w.heap.size W hX (ex_ns hX)).mono ?_
  rintro e w1 ⟨rfl, hb1⟩
  have hX1 := hX.next hb1
  have hbox1 := (hb1.block _ hsz).trans hbox
  have hB1 := Lib.hid (below_next hBW hb1)
  clear hX hbox hBW hsz hb1
  have hsz : w.heap.size + 4 < w1.heap.size := blk_lt hbox1
  have hbox2 : w1.heap[w.heap.size + 1 + 1 + 1 + 1]? = _ := hbox1
  have c0 : w1.cell? ⟨w.heap.size + 1 + 1 + 1 + 1, 0, none⟩ = some (.int .i64 1) := by simp only [World.cell?, hbox2]; rfl
  have c1 : w1.cell? ⟨w.heap.size + 1 + 1 + 1 + 1, 1, none⟩ = some (.slice (some ⟨w.heap.size, 0, none⟩) 1 1) := by simp only [World.cell?, hbox2]; rfl
  have c2 : w1.cell? ⟨w.heap.size + 1 + 1 + 1 + 1, 2, none⟩ = some (.slice (some ⟨w.heap.size + 1, 0, none⟩) 1 1) := by simp only [World.cell?, hbox2]; rfl
  have c3 : w1.cell? ⟨w.heap.size + 1 + 1 + 1 + 1, 3, none⟩ = some (.slice (some ⟨w.heap.size + 1 + 1 + 1, 0, none⟩) 1 1) := by simp only [World.cell?, hbox2]; rfl
  have c4 : w1.cell? ⟨w.heap.size + 1 + 1 + 1 + 1, 4, none⟩ = some (.slice none 0 0) := by simp only [World.cell?, hbox2]; rfl
  have c5 : w1.cell? ⟨w.heap.size + 1 + 1 + 1 + 1, 5, none⟩ = some (.slice none 0 0) := by simp only [World.cell?, hbox2]; rfl
  have c6 : w1.cell? ⟨w.heap.size + 1 + 1 + 1 + 1, 6, none⟩ = some (.slice none 0 0) := by simp only [World.cell?, hbox2]; rfl
  have c7 : w1.cell? ⟨w.heap.size + 1 + 1 + 1 + 1, 7, none⟩ = some (.slice none 0 0) := by simp only [World.cell?, hbox2]; rfl
  have f2 : w1.frozen? ⟨w.heap.size + 1 + 1 + 1 + 1, 2, none⟩ = false := by simp only [World.frozen?, hbox2]; rfl
  clear hbox2
  have HX2 := Lib.hid (hX1.set (w.heap.size + 4) 2 (.slice none 0 0) (by omega))
  have HB2 : Hid (Below w.heap.size w (w1.setCell ⟨w.heap.size + 4, 2, none⟩ (.slice none 0 0))) := Lib.hid (hB1.out.setCell (show w.heap.size ≤ w.heap.size + 4 by omega) _)
  clear hX1 hbox1
  clear hsz
  go_wp2_with fail
  refine (HC2.out w.heap.size _ HX2.out).mono ?_
  rintro e w2 ⟨rfl, hb2⟩
  have HB3 := Lib.hid (below_next HB2.out hb2)
  clear hb2
  go_wp2_with fail
  refine (HC3.out _).mono ?_
  rintro e w3 ⟨rfl, hb3⟩
  have HB4 := Lib.hid (below_next HB3.out hb3)
  clear hb3
  go_wp2_with fail
  go_ret
  exact ⟨rfl, HB4.out⟩
end Go.Proofs.YtgpkdhbegkhjjaaDoor
