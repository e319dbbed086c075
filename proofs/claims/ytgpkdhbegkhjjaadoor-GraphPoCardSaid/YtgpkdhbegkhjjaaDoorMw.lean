/-
  What the functions that the law reaches do, one by one: contracts. Conditions: those that each of them prints.
-/
import Derived.Test.YtgpkdhbegkhjjaaDoorMu
import Derived.Test.YtgpkdhbegkhjjaaDoorMg
import Derived.Lib.OwnKind
namespace Go.Proofs.YtgpkdhbegkhjjaaDoor
open Go.RowKit RelA
section
variable {P : Program} {w : World}
theorem app_own (base : Nat) (t ty e : TypeId) (i : TypeInfo) (z : Value) (size bytes : Nat) (ht : P.underlying t = some (.slice e)) (hi : P.info? e = some i) (hz : i.zero = some z)
    (hsize : i.size = size) (hby : i.bytes = bytes) (hzs : z.cells.size = size) (hs0 : 0 < size)
    (v : Value) (n : Nat) (xs : List Value) (hown : w.ownsRow base e size v n xs)
    (x c : Nat) (news : List Value) (hl : news.length = size) (cur : Array Value) (hc : cur.toList = news) (tt : TypeId) (fr : Nat × Nat) (hx : w.heap[x]? = some (.cells cur tt fr)) (h1 : ∀ u ∈ news, u.oneCell' = true)
    (h63 : n + 1 ≤ maxLen) (hbytes : (n + 1) * bytes ≤ 140737488355328) (hbase : base ≤ w.heap.size) :
    ∃ v' w', (Builtin.append_ #[t, t] ty #[v, .slice (some ⟨x, 0, none⟩) 1 c]).run P w = .ok v' w' ∧ w'.ownsRow base e size v' (n + 1) (xs ++ news) ∧ w.grownBy w' v.ownBlock ∧ (v'.ownBlock = v.ownBlock ∨ v'.ownBlock = some w.heap.size) := by
  subst hc
  have hn : ∀ j u, cur.toList[j]? = some u → w.cell? ((⟨x, 0, none⟩ : Addr).add j) = some u := World.news_of_block hx
  obtain ⟨v', w', h2, h3, h4, _, h5⟩ := run_append_own_at (P := P) w base t ty e i z size bytes ht hi hz hsize hby hzs hs0 v n xs hown ⟨x, 0, none⟩ 1 c cur.toList (by omega) hn h1 h63 hbytes hbase
  exact ⟨v', w', h2, h3, h4, h5⟩
end
namespace RelA
def Ev.cs (e : Ev) : List Value := [.int .i64 e.th, .int .i64 e.kd, .int .i64 e.md, .int .i64 e.lc, .int .i64 e.vl, .bool e.ex]
def ecs (E : List Ev) : List Value := E.flatMap Ev.cs
def ncs (R : List Int) : List Value := R.map fun x => .int .i64 x
def lcs (C : List Nat) : List Value := C.map fun c => .slice (some ⟨c, 0, none⟩) 1 1
def nsl : Value := .slice none 0 0
/-- a graph that is being built: its box, its three rows, what else was made -/
structure MB (w0 W : World) (p : Nat) (locs : Int) (v1 v2 v3 u1 u2 u3 : Value) (E : List Ev) (R : List Int) (C : List Nat) (S : List (Nat × Obj)) : Prop where
  box : W.heap[p]? = some (.cells #[.int .i64 locs, u1, u2, u3, nsl, nsl, nsl, nsl] 28 (0, 0))
  o1 : W.ownsRow (p + 1) 30 6 v1 E.length (ecs E)
  o2 : W.ownsRow (p + 1) 3 1 v2 R.length (ncs R)
  o3 : W.ownsRow (p + 1) 22 1 v3 C.length (lcs C)
  src : ∀ x ∈ S, W.heap[x.1]? = some x.2 ∧ p < x.1 ∧ v1.ownBlock ≠ some x.1 ∧ v2.ownBlock ≠ some x.1 ∧ v3.ownBlock ≠ some x.1
  bel : Below w0.heap.size w0 W
  pp : w0.heap.size ≤ p
theorem alloc_old (w : World) (o : Obj) (i : Nat) (h : i < w.heap.size) : (w.alloc o).heap[i]? = w.heap[i]? := ((Below.refl w.heap.size w).alloc (Nat.le_refl _) o).block i h
theorem bel_drewN (w : World) (n : Nat) : Below w.heap.size w (w.drewN n) := ⟨rfl, rfl, rfl, Nat.le_refl _, fun _ _ => rfl⟩
theorem blk_lt {W : World} {b : Nat} {o : Obj} (h : W.heap[b]? = some o) : b < W.heap.size := by
  rcases Nat.lt_or_ge b W.heap.size with r | r
  · exact r
  · rw [Array.getElem?_eq_none r] at h; cases h
theorem own_gap {W : World} {b1 e1 s1 n1 b2 e2 s2 n2 : Nat} {v1 v2 : Value} {x1 x2 : List Value} (h : W.ownsRow b1 e1 s1 v1 n1 x1) (g : W.ownsRow b2 e2 s2 v2 n2 x2) (hne : e1 ≠ e2) : v1.ownBlock = none ∨ v1.ownBlock ≠ v2.ownBlock := by
  cases h1 : v1.ownBlock with
  | none => exact .inl rfl
  | some k =>
    refine .inr fun h2 => ?_
    obtain ⟨c1, f1, e⟩ := Lib.ownsRow_kind h k h1
    obtain ⟨c2, f2, e'⟩ := Lib.ownsRow_kind g k h2.symm
    rw [e] at e'
    simp only [Option.some.injEq, Obj.cells.injEq] at e'
    exact hne e'.2.1
section
variable {w0 W W' : World} {p : Nat} {locs : Int} {v1 v2 v3 u1 u2 u3 : Value} {E : List Ev} {R : List Int} {C : List Nat} {S : List (Nat × Obj)}
theorem MB.lt (h : MB w0 W p locs v1 v2 v3 u1 u2 u3 E R C S) : p < W.heap.size := blk_lt h.box
theorem MB.far {v : Value} {e s n : Nat} {xs : List Value} (h : W.ownsRow (p + 1) e s v n xs) {b : Nat} (hb : W.heap.size ≤ b) : v.ownBlock ≠ some b := fun q => by have := (h.lt b q).2; omega
theorem MB.alloc (h : MB w0 W p locs v1 v2 v3 u1 u2 u3 E R C S) (o : Obj) : MB w0 (W.alloc o) p locs v1 v2 v3 u1 u2 u3 E R C ((W.heap.size, o) :: S) := by
  have hold : ∀ b, b < W.heap.size → (W.alloc o).heap[b]? = W.heap[b]? := fun b hb => alloc_old _ _ _ hb
  refine ⟨by rw [hold p h.lt]; exact h.box, h.o1.alloc o, h.o2.alloc o, h.o3.alloc o, fun x hx => ?_, h.bel.alloc h.bel.size o, h.pp⟩
  rcases List.mem_cons.1 hx with rfl | hx
  · exact ⟨heap_alloc_new _ _, h.lt, MB.far h.o1 (Nat.le_refl _), MB.far h.o2 (Nat.le_refl _), MB.far h.o3 (Nat.le_refl _)⟩
  · obtain ⟨a, b⟩ := h.src x hx
    exact ⟨by rw [hold x.1 (blk_lt a)]; exact a, b⟩
theorem MB.drew (h : MB w0 W p locs v1 v2 v3 u1 u2 u3 E R C S) : MB w0 W.drew p locs v1 v2 v3 u1 u2 u3 E R C S :=
  ⟨h.box, h.o1.drew, h.o2.drew, h.o3.drew, h.src, below_trans1 h.bel h.bel.size (bel_drewN W 1), h.pp⟩
theorem MB.sub {S' : List (Nat × Obj)} (h : MB w0 W p locs v1 v2 v3 u1 u2 u3 E R C S) (hs : ∀ x ∈ S', x ∈ S) : MB w0 W p locs v1 v2 v3 u1 u2 u3 E R C S' :=
  ⟨h.box, h.o1, h.o2, h.o3, fun x hx => h.src x (hs x hx), h.bel, h.pp⟩
theorem MB.grow1 {v' : Value} {E' : List Ev} (h : MB w0 W p locs v1 v2 v3 u1 u2 u3 E R C S) (hg : W.grownBy W' v1.ownBlock) (ho : W'.ownsRow (p + 1) 30 6 v' E'.length (ecs E')) (hv : v'.ownBlock = v1.ownBlock ∨ v'.ownBlock = some W.heap.size) :
    MB w0 W' p locs v' v2 v3 u1 u2 u3 E' R C S := by
  refine ⟨by rw [hg.block p h.lt (fun q => by have := (h.o1.lt p q.symm).1; omega)]; exact h.box, ho, h.o2.kept hg (own_gap h.o2 h.o1 (by decide)), h.o3.kept hg (own_gap h.o3 h.o1 (by decide)), fun x hx => ?_, h.bel.grown hg h.bel.size (fun j hj => by have := (h.o1.lt j hj).1; have := h.pp; omega), h.pp⟩
  obtain ⟨a, b, c1, c2, c3⟩ := h.src x hx
  have hn : v'.ownBlock ≠ some x.1 := by
    rcases hv with q | q
    · rw [q]; exact c1
    · rw [q]; intro r; have := blk_lt a; simp only [Option.some.injEq] at r; omega
  exact ⟨by rw [hg.block x.1 (blk_lt a) (fun q => c1 q.symm)]; exact a, b, hn, c2, c3⟩
theorem MB.set1 (h : MB w0 W p locs v1 v2 v3 u1 u2 u3 E R C S) (x : Value) : MB w0 (W.setCell ⟨p, 1, none⟩ x) p locs v1 v2 v3 x u2 u3 E R C S := by
  refine ⟨heap_setCell_same W p 1 _ _ x h.box, ownsRow_setCell_below h.o1 (Nat.lt_succ_self p) x, ownsRow_setCell_below h.o2 (Nat.lt_succ_self p) x, ownsRow_setCell_below h.o3 (Nat.lt_succ_self p) x, fun y hy => ?_, h.bel.setCell h.pp x, h.pp⟩
  obtain ⟨a, b, c⟩ := h.src y hy
  exact ⟨by rw [Below.heap_setCell W ⟨p, 1, none⟩ x y.1 (fun q => by have : y.1 = p := q; omega)]; exact a, b, c⟩
theorem MB.c1 (h : MB w0 W p locs v1 v2 v3 u1 u2 u3 E R C S) : W.cell? ⟨p, 1, none⟩ = some u1 ∧ W.frozen? ⟨p, 1, none⟩ = false := by
  constructor
  · simp [World.cell?, h.box]
  · simp [World.frozen?, h.box]
theorem MB.grow2 {v' : Value} {R' : List Int} (h : MB w0 W p locs v1 v2 v3 u1 u2 u3 E R C S) (hg : W.grownBy W' v2.ownBlock) (ho : W'.ownsRow (p + 1) 3 1 v' R'.length (ncs R')) (hv : v'.ownBlock = v2.ownBlock ∨ v'.ownBlock = some W.heap.size) :
    MB w0 W' p locs v1 v' v3 u1 u2 u3 E R' C S := by
  refine ⟨by rw [hg.block p h.lt (fun q => by have := (h.o2.lt p q.symm).1; omega)]; exact h.box, h.o1.kept hg (own_gap h.o1 h.o2 (by decide)), ho, h.o3.kept hg (own_gap h.o3 h.o2 (by decide)), fun x hx => ?_, h.bel.grown hg h.bel.size (fun j hj => by have := (h.o2.lt j hj).1; have := h.pp; omega), h.pp⟩
  obtain ⟨a, b, c1, c2, c3⟩ := h.src x hx
  have hn : v'.ownBlock ≠ some x.1 := by
    rcases hv with q | q
    · rw [q]; exact c2
    · rw [q]; intro r; have := blk_lt a; simp only [Option.some.injEq] at r; omega
  exact ⟨by rw [hg.block x.1 (blk_lt a) (fun q => c2 q.symm)]; exact a, b, c1, hn, c3⟩
theorem MB.set2 (h : MB w0 W p locs v1 v2 v3 u1 u2 u3 E R C S) (x : Value) : MB w0 (W.setCell ⟨p, 2, none⟩ x) p locs v1 v2 v3 u1 x u3 E R C S := by
  refine ⟨heap_setCell_same W p 2 _ _ x h.box, ownsRow_setCell_below h.o1 (Nat.lt_succ_self p) x, ownsRow_setCell_below h.o2 (Nat.lt_succ_self p) x, ownsRow_setCell_below h.o3 (Nat.lt_succ_self p) x, fun y hy => ?_, h.bel.setCell h.pp x, h.pp⟩
  obtain ⟨a, b, c⟩ := h.src y hy
  exact ⟨by rw [Below.heap_setCell W ⟨p, 2, none⟩ x y.1 (fun q => by have : y.1 = p := q; omega)]; exact a, b, c⟩
theorem MB.c2 (h : MB w0 W p locs v1 v2 v3 u1 u2 u3 E R C S) : W.cell? ⟨p, 2, none⟩ = some u2 ∧ W.frozen? ⟨p, 2, none⟩ = false := by
  constructor
  · simp [World.cell?, h.box]
  · simp [World.frozen?, h.box]
theorem MB.grow3 {v' : Value} {C' : List Nat} (h : MB w0 W p locs v1 v2 v3 u1 u2 u3 E R C S) (hg : W.grownBy W' v3.ownBlock) (ho : W'.ownsRow (p + 1) 22 1 v' C'.length (lcs C')) (hv : v'.ownBlock = v3.ownBlock ∨ v'.ownBlock = some W.heap.size) :
    MB w0 W' p locs v1 v2 v' u1 u2 u3 E R C' S := by
  refine ⟨by rw [hg.block p h.lt (fun q => by have := (h.o3.lt p q.symm).1; omega)]; exact h.box, h.o1.kept hg (own_gap h.o1 h.o3 (by decide)), h.o2.kept hg (own_gap h.o2 h.o3 (by decide)), ho, fun x hx => ?_, h.bel.grown hg h.bel.size (fun j hj => by have := (h.o3.lt j hj).1; have := h.pp; omega), h.pp⟩
  obtain ⟨a, b, c1, c2, c3⟩ := h.src x hx
  have hn : v'.ownBlock ≠ some x.1 := by
    rcases hv with q | q
    · rw [q]; exact c3
    · rw [q]; intro r; have := blk_lt a; simp only [Option.some.injEq] at r; omega
  exact ⟨by rw [hg.block x.1 (blk_lt a) (fun q => c3 q.symm)]; exact a, b, c1, c2, hn⟩
theorem MB.set3 (h : MB w0 W p locs v1 v2 v3 u1 u2 u3 E R C S) (x : Value) : MB w0 (W.setCell ⟨p, 3, none⟩ x) p locs v1 v2 v3 u1 u2 x E R C S := by
  refine ⟨heap_setCell_same W p 3 _ _ x h.box, ownsRow_setCell_below h.o1 (Nat.lt_succ_self p) x, ownsRow_setCell_below h.o2 (Nat.lt_succ_self p) x, ownsRow_setCell_below h.o3 (Nat.lt_succ_self p) x, fun y hy => ?_, h.bel.setCell h.pp x, h.pp⟩
  obtain ⟨a, b, c⟩ := h.src y hy
  exact ⟨by rw [Below.heap_setCell W ⟨p, 3, none⟩ x y.1 (fun q => by have : y.1 = p := q; omega)]; exact a, b, c⟩
theorem MB.c3 (h : MB w0 W p locs v1 v2 v3 u1 u2 u3 E R C S) : W.cell? ⟨p, 3, none⟩ = some u3 ∧ W.frozen? ⟨p, 3, none⟩ = false := by
  constructor
  · simp [World.cell?, h.box]
  · simp [World.frozen?, h.box]
theorem MB.c0 (h : MB w0 W p locs v1 v2 v3 u1 u2 u3 E R C S) : W.cell? ⟨p, 0, none⟩ = some (.int .i64 locs) := by
  simp [World.cell?, h.box]
theorem inf1 : (Tryd.prog.info? 30).map (fun i => (i.zero, i.size, i.bytes)) = some (some (.agg #[.int .i64 0, .int .i64 0, .int .i64 0, .int .i64 0, .int .i64 0, .bool false]), 6, 48) := by kernel_rfl
theorem MB.app1 (h : MB w0 W p locs v1 v2 v3 u1 u2 u3 E R C S) (x : Ev) (b c : Nat) (ty : TypeId) (fr : Nat × Nat) (hb : (b, .cells (x.cs : List Value).toArray 30 fr) ∈ S) (hl : E.length ≤ 100) :
    ∃ v' W', (Builtin.append_ #[24, 24] ty #[v1, .slice (some ⟨b, 0, none⟩) 1 c]).run Tryd.prog W = .ok v' W' ∧ MB w0 W' p locs v' v2 v3 u1 u2 u3 (E ++ [x]) R C S := by
  have hi0 := inf1
  cases hi : Tryd.prog.info? 30 with
  | none => rw [hi] at hi0; cases hi0
  | some i =>
    rw [hi] at hi0
    simp only [Option.map_some, Option.some.injEq, Prod.mk.injEq] at hi0
    obtain ⟨z1, z2, z3⟩ := hi0
    obtain ⟨v', W', r, o, g, e⟩ := app_own (P := Tryd.prog) (w := W) (p + 1) 24 ty 30 i (.agg #[.int .i64 0, .int .i64 0, .int .i64 0, .int .i64 0, .int .i64 0, .bool false]) 6 48 Tryd.underlying24 hi z1 z2 z3 rfl (by omega) v1 E.length _ h.o1 b c (x.cs) rfl (x.cs : List Value).toArray rfl 30 fr (h.src _ hb).1 (by intro u hu; simp [Ev.cs] at hu; rcases hu with rfl | rfl | rfl | rfl | rfl | rfl <;> rfl) (by unfold maxLen; omega) (by omega) (by have := h.lt; omega)
    refine ⟨v', W', r, h.grow1 g (?_ : W'.ownsRow (p + 1) 30 6 v' (E ++ [x]).length (ecs (E ++ [x]))) e⟩
    have e1 : (E ++ [x]).length = E.length + 1 := by simp
    have e2 : ecs (E ++ [x]) = ecs E ++ x.cs := by simp [ecs]
    rw [e1, e2]
    exact o
theorem inf2 : (Tryd.prog.info? 3).map (fun i => (i.zero, i.size, i.bytes)) = some (some (.int .i64 0), 1, 8) := by kernel_rfl
theorem MB.app2 (h : MB w0 W p locs v1 v2 v3 u1 u2 u3 E R C S) (x : Int) (b c : Nat) (ty : TypeId) (fr : Nat × Nat) (hb : (b, .cells ([.int .i64 x] : List Value).toArray 3 fr) ∈ S) (hl : R.length ≤ 100) :
    ∃ v' W', (Builtin.append_ #[22, 22] ty #[v2, .slice (some ⟨b, 0, none⟩) 1 c]).run Tryd.prog W = .ok v' W' ∧ MB w0 W' p locs v1 v' v3 u1 u2 u3 E (R ++ [x]) C S := by
  have hi0 := inf2
  cases hi : Tryd.prog.info? 3 with
  | none => rw [hi] at hi0; cases hi0
  | some i =>
    rw [hi] at hi0
    simp only [Option.map_some, Option.some.injEq, Prod.mk.injEq] at hi0
    obtain ⟨z1, z2, z3⟩ := hi0
    obtain ⟨v', W', r, o, g, e⟩ := app_own (P := Tryd.prog) (w := W) (p + 1) 22 ty 3 i (.int .i64 0) 1 8 Tryd.underlying22 hi z1 z2 z3 rfl (by omega) v2 R.length _ h.o2 b c ([.int .i64 x]) rfl ([.int .i64 x] : List Value).toArray rfl 3 fr (h.src _ hb).1 (by intro u hu; simp at hu; subst hu; rfl) (by unfold maxLen; omega) (by omega) (by have := h.lt; omega)
    refine ⟨v', W', r, h.grow2 g (?_ : W'.ownsRow (p + 1) 3 1 v' (R ++ [x]).length (ncs (R ++ [x]))) e⟩
    have e1 : (R ++ [x]).length = R.length + 1 := by simp
    have e2 : ncs (R ++ [x]) = ncs R ++ [.int .i64 x] := by simp [ncs]
    rw [e1, e2]
    exact o
theorem inf3 : (Tryd.prog.info? 22).map (fun i => (i.zero, i.size, i.bytes)) = some (some (.slice none 0 0), 1, 24) := by kernel_rfl
theorem MB.app3 (h : MB w0 W p locs v1 v2 v3 u1 u2 u3 E R C S) (x : Nat) (b c : Nat) (ty : TypeId) (fr : Nat × Nat) (hb : (b, .cells ([.slice (some ⟨x, 0, none⟩) 1 1] : List Value).toArray 22 fr) ∈ S) (hl : C.length ≤ 100) :
    ∃ v' W', (Builtin.append_ #[25, 25] ty #[v3, .slice (some ⟨b, 0, none⟩) 1 c]).run Tryd.prog W = .ok v' W' ∧ MB w0 W' p locs v1 v2 v' u1 u2 u3 E R (C ++ [x]) S := by
  have hi0 := inf3
  cases hi : Tryd.prog.info? 22 with
  | none => rw [hi] at hi0; cases hi0
  | some i =>
    rw [hi] at hi0
    simp only [Option.map_some, Option.some.injEq, Prod.mk.injEq] at hi0
    obtain ⟨z1, z2, z3⟩ := hi0
    obtain ⟨v', W', r, o, g, e⟩ := app_own (P := Tryd.prog) (w := W) (p + 1) 25 ty 22 i (.slice none 0 0) 1 24 Tryd.underlying25 hi z1 z2 z3 rfl (by omega) v3 C.length _ h.o3 b c ([.slice (some ⟨x, 0, none⟩) 1 1]) rfl ([.slice (some ⟨x, 0, none⟩) 1 1] : List Value).toArray rfl 22 fr (h.src _ hb).1 (by intro u hu; simp at hu; subst hu; rfl) (by unfold maxLen; omega) (by omega) (by have := h.lt; omega)
    refine ⟨v', W', r, h.grow3 g (?_ : W'.ownsRow (p + 1) 22 1 v' (C ++ [x]).length (lcs (C ++ [x]))) e⟩
    have e1 : (C ++ [x]).length = C.length + 1 := by simp
    have e2 : lcs (C ++ [x]) = lcs C ++ [.slice (some ⟨x, 0, none⟩) 1 1] := by simp [lcs]
    rw [e1, e2]
    exact o
end
end RelA
end Go.Proofs.YtgpkdhbegkhjjaaDoor
