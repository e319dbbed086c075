/-
  What the functions that the law reaches do, one by one: contracts. Conditions: those that each of them prints.
-/
import Derived.Test.YtgpkdhbegkhjjaaDoorMe
import Derived.BigFrame
import Derived.Deep.RegionWith
namespace Go.Proofs.YtgpkdhbegkhjjaaDoor
open Go.RowKit RelA
namespace RelA
theorem cell_next {x : Addr} {v : Value} {w w' : World} (h : w.cell? x = some v) (hb : Below w.heap.size w w') : w'.cell? x = some v := (hb.cell (p := x) (World.block_lt_of_cell? w x h)).trans h
/-- an event -/
structure Ev where
  th : Int
  kd : Int
  md : Int
  lc : Int
  vl : Int
  ex : Bool
def Ev.zero : Ev := ⟨0, 0, 0, 0, 0, false⟩
structure ECells (w : World) (b o : Nat) (e : Ev) : Prop where
  c0 : w.cell? ⟨b, o, none⟩ = some (.int .i64 e.th)
  c1 : w.cell? ⟨b, o + 1, none⟩ = some (.int .i64 e.kd)
  c2 : w.cell? ⟨b, o + 2, none⟩ = some (.int .i64 e.md)
  c3 : w.cell? ⟨b, o + 3, none⟩ = some (.int .i64 e.lc)
  c4 : w.cell? ⟨b, o + 4, none⟩ = some (.int .i64 e.vl)
  c5 : w.cell? ⟨b, o + 5, none⟩ = some (.bool e.ex)
theorem ECells.next {w w' : World} {b o : Nat} {e : Ev} (h : ECells w b o e) (hb : Below w.heap.size w w') : ECells w' b o e :=
  ⟨cell_next h.c0 hb, cell_next h.c1 hb, cell_next h.c2 hb, cell_next h.c3 hb, cell_next h.c4 hb, cell_next h.c5 hb⟩
def EsIn (w : World) (a : Option Addr) (L : List Ev) : Prop :=
  L = [] ∨ ∃ b o, a = some ⟨b, o, none⟩ ∧ b < w.heap.size ∧ ∀ q, q < L.length → ECells w b (o + q * 6) (L.getD q Ev.zero)
theorem EsIn.next {w w' : World} {a : Option Addr} {L : List Ev} (h : EsIn w a L) (hb : Below w.heap.size w w') : EsIn w' a L := by
  rcases h with h | ⟨b, o, h1, h2, h3⟩
  · exact .inl h
  · exact .inr ⟨b, o, h1, Nat.lt_of_lt_of_le h2 hb.size, fun q hq => (h3 q hq).next hb⟩
/-- numbers that came in -/
def NsIn (w : World) (a : Option Addr) (L : List Int) : Prop :=
  L = [] ∨ ∃ b o, a = some ⟨b, o, none⟩ ∧ b < w.heap.size ∧ ∀ q, q < L.length → w.cell? ⟨b, o + q, none⟩ = some (.int .i64 (L.getD q 0))
theorem NsIn.next {w w' : World} {a : Option Addr} {L : List Int} (h : NsIn w a L) (hb : Below w.heap.size w w') : NsIn w' a L := by
  rcases h with h | ⟨b, o, h1, h2, h3⟩
  · exact .inl h
  · exact .inr ⟨b, o, h1, Nat.lt_of_lt_of_le h2 hb.size, fun q hq => cell_next (h3 q hq) hb⟩
/-- lists of numbers that came in -/
structure Ls where
  a : Option Addr
  L : List Int
  c : Nat
def Ls.zero : Ls := ⟨none, [], 0⟩
def LsIn (w : World) (a : Option Addr) (C : List Ls) : Prop :=
  C = [] ∨ ∃ b o, a = some ⟨b, o, none⟩ ∧ b < w.heap.size ∧ ∀ q, q < C.length → w.cell? ⟨b, o + q, none⟩ = some (.slice (C.getD q Ls.zero).a (C.getD q Ls.zero).L.length (C.getD q Ls.zero).c) ∧ NsIn w (C.getD q Ls.zero).a (C.getD q Ls.zero).L ∧ (C.getD q Ls.zero).L.length ≤ (C.getD q Ls.zero).c
theorem LsIn.next {w w' : World} {a : Option Addr} {C : List Ls} (h : LsIn w a C) (hb : Below w.heap.size w w') : LsIn w' a C := by
  rcases h with h | ⟨b, o, h1, h2, h3⟩
  · exact .inl h
  · exact .inr ⟨b, o, h1, Nat.lt_of_lt_of_le h2 hb.size, fun q hq => ⟨cell_next (h3 q hq).1 hb, (h3 q hq).2.1.next hb, (h3 q hq).2.2⟩⟩
/-- a graph as it came in -/
structure Gr where
  locs : Int
  ea : Option Addr
  E : List Ev
  ec : Nat
  ra : Option Addr
  R : List Int
  rc : Nat
  ca : Option Addr
  C : List Ls
  cc : Nat
  ma : Option Addr
  Rmw : List (Int × Int)
  mc : Nat
  da : Option Addr
  Data : List (Int × Int)
  dc : Nat
  ta : Option Addr
  Ctrl : List (Int × Int)
  tc : Nat
  ia : Option Addr
  CtrlI : List (Int × Int)
  ic : Nat
def Gr.v (g : Gr) : Value := .agg #[.int .i64 g.locs, .slice g.ea g.E.length g.ec, .slice g.ra g.R.length g.rc, .slice g.ca g.C.length g.cc, .slice g.ma g.Rmw.length g.mc, .slice g.da g.Data.length g.dc, .slice g.ta g.Ctrl.length g.tc, .slice g.ia g.CtrlI.length g.ic]
structure GIn (w : World) (g : Gr) : Prop where
  es : EsIn w g.ea g.E
  rf : NsIn w g.ra g.R
  co : LsIn w g.ca g.C
  rmw : PIn w g.ma g.Rmw g.mc
  data : PIn w g.da g.Data g.dc
  ctrl : PIn w g.ta g.Ctrl g.tc
  ctrli : PIn w g.ia g.CtrlI g.ic
  e40 : g.E.length ≤ 40
  ecap : g.E.length ≤ g.ec
  r60 : g.R.length ≤ 60
  c6 : g.C.length ≤ 6
  l50 : ∀ q, q < g.C.length → (g.C.getD q Ls.zero).L.length ≤ 50
  m50 : g.Rmw.length ≤ 50
  d300 : g.Data.length ≤ 300
  t300 : g.Ctrl.length ≤ 300
  i300 : g.CtrlI.length ≤ 300
  ccap : g.C.length ≤ g.cc
theorem GIn.next {w w' : World} {g : Gr} (h : GIn w g) (hb : Below w.heap.size w w') : GIn w' g :=
  ⟨h.es.next hb, h.rf.next hb, h.co.next hb, h.rmw.next hb, h.data.next hb, h.ctrl.next hb, h.ctrli.next hb, h.e40, h.ecap, h.r60, h.c6, h.l50, h.m50, h.d300, h.t300, h.i300, h.ccap⟩
def Gr.n (g : Gr) : Nat := g.E.length
/-- what a relation's object says, cell by cell -/
structure Rl (w : World) (c n : Nat) (M : Nat → Nat → Bool) : Prop where
  at_ : ∃ R, At w c n R ∧ (∀ i, R i < 2 ^ 40) ∧ Lk R M
  wf : WFM n M
theorem Rl.next {w w' : World} {c n : Nat} {M : Nat → Nat → Bool} (h : Rl w c n M) (hb : Below w.heap.size w w') : Rl w' c n M := by
  obtain ⟨⟨R, h1, h2, h3⟩, h4⟩ := h
  exact ⟨⟨R, h1.next hb, h2, h3⟩, h4⟩
def orM (M S : Nat → Nat → Bool) : Nat → Nat → Bool := fun i j => M i j || S i j
def andM (M S : Nat → Nat → Bool) : Nat → Nat → Bool := fun i j => M i j && S i j
def lessM (M S : Nat → Nat → Bool) : Nat → Nat → Bool := fun i j => M i j && !S i j
noncomputable def seqM (M S : Nat → Nat → Bool) : Nat → Nat → Bool := fun i j => @decide (∃ k, M i k = true ∧ S k j = true) (Classical.propDecidable _)
def backM (M : Nat → Nat → Bool) : Nat → Nat → Bool := fun i j => M j i
noncomputable def plusM (M : Nat → Nat → Bool) : Nat → Nat → Bool := fun i j => @decide (MPath M i j) (Classical.propDecidable _)
def maybeM (n : Nat) (M : Nat → Nat → Bool) : Nat → Nat → Bool := fun i j => (decide (i = j) && decide (i < n)) || M i j
noncomputable def starM (n : Nat) (M : Nat → Nat → Bool) : Nat → Nat → Bool := maybeM n (plusM M)
/-- a matrix of pairs -/
def ofM (n : Nat) (l : List (Int × Int)) : Nat → Nat → Bool := rnewM n l
theorem seqM_iff {M S : Nat → Nat → Bool} {i j : Nat} : seqM M S i j = true ↔ ∃ k, M i k = true ∧ S k j = true := by unfold seqM; simp
theorem plusM_iff {M : Nat → Nat → Bool} {i j : Nat} : plusM M i j = true ↔ MPath M i j := by unfold plusM; simp
theorem full_id {n : Nat} {F : Nat → Nat → Bool} (h : WFM n F) : rfull n F = F := by
  funext i j
  rw [Bool.eq_iff_iff, rfull_iff]
  exact ⟨fun a => a.2.2, fun a => ⟨(h i j a).1, (h i j a).2, a⟩⟩
theorem wf_or {n : Nat} {M S : Nat → Nat → Bool} (h : WFM n M) (g : WFM n S) : WFM n (orM M S) := fun i j a => by
  unfold orM at a; rw [Bool.or_eq_true] at a
  rcases a with a | a
  · exact h i j a
  · exact g i j a
theorem wf_and {n : Nat} {M S : Nat → Nat → Bool} (h : WFM n M) : WFM n (andM M S) := fun i j a => by
  unfold andM at a; rw [Bool.and_eq_true] at a; exact h i j a.1
theorem wf_less {n : Nat} {M S : Nat → Nat → Bool} (h : WFM n M) : WFM n (lessM M S) := fun i j a => by
  unfold lessM at a; rw [Bool.and_eq_true] at a; exact h i j a.1
theorem wf_seq {n : Nat} {M S : Nat → Nat → Bool} (h : WFM n M) (g : WFM n S) : WFM n (seqM M S) := fun i j a => by
  obtain ⟨k, a, b⟩ := seqM_iff.1 a
  exact ⟨(h i k a).1, (g k j b).2⟩
theorem wf_backM {n : Nat} {M : Nat → Nat → Bool} (h : WFM n M) : WFM n (backM M) := fun i j a => ⟨(h j i a).2, (h j i a).1⟩
theorem wf_plusM {n : Nat} {M : Nat → Nat → Bool} (h : WFM n M) : WFM n (plusM M) := fun i j a0 => by
  have a := plusM_iff.1 a0
  clear a0
  unfold MPath at a
  refine ⟨?_, ?_⟩
  · induction a with
    | single a => exact (h _ _ a).1
    | tail _ _ ih => exact ih
  · cases a with
    | single a => exact (h _ _ a).2
    | tail _ a => exact (h _ _ a).2
theorem wf_maybeM {n : Nat} {M : Nat → Nat → Bool} (h : WFM n M) : WFM n (maybeM n M) := wf_maybe h
theorem seq_then {n : Nat} {M S : Nat → Nat → Bool} (h : WFM n M) (g : WFM n S) : thenM n M S = seqM M S := by
  funext i j
  rw [Bool.eq_iff_iff, seqM_iff]
  unfold thenM
  rw [rfull_iff, List.any_eq_true]
  constructor
  · rintro ⟨_, _, k, _, a⟩
    have a := Bool.and_eq_true_iff.1 a
    exact ⟨k, a.1, a.2⟩
  · rintro ⟨k, a, b⟩
    exact ⟨(h i k a).1, (g k j b).2, k, List.mem_range.2 (h i k a).2, by rw [a, b]; rfl⟩
theorem Rl.mk' {w : World} {c n : Nat} {R : Nat → Nat} {M : Nat → Nat → Bool} (h1 : At w c n R) (h2 : ∀ i, R i < 2 ^ 40) (h3 : Lk R M) (h4 : WFM n M) : Rl w c n M := ⟨⟨R, h1, h2, h3⟩, h4⟩
end RelA
def ptr (c : Nat) : Value := .pointer (some ⟨c, 0, none⟩)
/-- what is told of a call that makes a relation -/
def Makes (n : Nat) (M : Nat → Nat → Bool) (w : World) (e : Ending) (w' : World) : Prop := ∃ d, e = .returned (.pointer (some ⟨d, 0, none⟩)) ∧ Rl w' d n M ∧ w.heap.size ≤ d ∧ Below w.heap.size w w'
theorem or_l (b c n : Nat) (M S : Nat → Nat → Bool) (w : World) (h : Rl w b n M) (g : Rl w c n S) :
    Calls Tryd.prog 20 #[.pointer (some ⟨b, 0, none⟩), .pointer (some ⟨c, 0, none⟩)] w (Makes n (orM M S) w) := by
  obtain ⟨⟨R, h1, h2, h3⟩, h4⟩ := h
  obtain ⟨⟨T, g1, g2, g3⟩, g4⟩ := g
  refine (or_any b n c n R T w h1 g1 h2 g2).mono ?_
  rintro e w' ⟨rfl, ha, hb⟩
  rw [Nat.max_self] at ha
  have hl := lk_or h3 g3 h4 g4
  rw [Nat.max_self, (full_id (wf_or h4 g4) : rfull n (fun i j => M i j || S i j) = orM M S)] at hl
  exact ⟨_, rfl, .mk' ha (fun i => or_lt40 (h2 i) (g2 i)) hl (wf_or h4 g4), Nat.le_refl _, hb⟩
theorem then_l (b c n : Nat) (M S : Nat → Nat → Bool) (w : World) (h : Rl w b n M) (g : Rl w c n S) (ht : Tab w) :
    Calls Tryd.prog 21 #[.pointer (some ⟨b, 0, none⟩), .pointer (some ⟨c, 0, none⟩)] w (Makes n (seqM M S) w) := by
  obtain ⟨⟨R, h1, h2, h3⟩, h4⟩ := h
  obtain ⟨⟨T, g1, g2, g3⟩, g4⟩ := g
  refine (then_ge b n c n R T w h1 g1 h2 g2 ht).mono ?_
  rintro e w' ⟨rfl, ha, hb⟩
  rw [Nat.max_self] at ha
  have hl := lk_then h3 g3 h4 g4 h2 g2
  rw [Nat.max_self, seq_then h4 g4] at hl
  exact ⟨_, rfl, .mk' ha (fun i => U_lt _ _) hl (wf_seq h4 g4), Nat.le_refl _, hb⟩
theorem plus_l (b n : Nat) (M : Nat → Nat → Bool) (w : World) (h : Rl w b n M) (ht : Tab w) :
    Calls Tryd.prog 9 #[.pointer (some ⟨b, 0, none⟩)] w (Makes n (plusM M) w) := by
  obtain ⟨⟨R, h1, h2, h3⟩, h4⟩ := h
  refine (plus_any b n R w h1 h2 ht).mono ?_
  rintro e w' ⟨c, rfl, hcn, ha, hb⟩
  exact ⟨_, rfl, .mk' ha (fun i => plusR_lt R i) (lk_plus h3 (fun i j => plusM_iff) h2) (wf_plusM h4), hcn, hb⟩
namespace RelA
/-- a graph that stands in a block of its own -/
structure GBox (w : World) (b : Nat) (g : Gr) : Prop where
  c0 : w.cell? ⟨b, 0, none⟩ = some (.int .i64 g.locs)
  c1 : w.cell? ⟨b, 1, none⟩ = some (.slice g.ea g.E.length g.ec)
  c2 : w.cell? ⟨b, 2, none⟩ = some (.slice g.ra g.R.length g.rc)
  c3 : w.cell? ⟨b, 3, none⟩ = some (.slice g.ca g.C.length g.cc)
  c4 : w.cell? ⟨b, 4, none⟩ = some (.slice g.ma g.Rmw.length g.mc)
  c5 : w.cell? ⟨b, 5, none⟩ = some (.slice g.da g.Data.length g.dc)
  c6 : w.cell? ⟨b, 6, none⟩ = some (.slice g.ta g.Ctrl.length g.tc)
  c7 : w.cell? ⟨b, 7, none⟩ = some (.slice g.ia g.CtrlI.length g.ic)
theorem GBox.next {w w' : World} {b : Nat} {g : Gr} (h : GBox w b g) (hb : Below w.heap.size w w') : GBox w' b g :=
  ⟨cell_next h.c0 hb, cell_next h.c1 hb, cell_next h.c2 hb, cell_next h.c3 hb, cell_next h.c4 hb, cell_next h.c5 hb, cell_next h.c6 hb, cell_next h.c7 hb⟩
def gcells (g : Gr) : Array Value := #[.int .i64 g.locs, .slice g.ea g.E.length g.ec, .slice g.ra g.R.length g.rc, .slice g.ca g.C.length g.cc, .slice g.ma g.Rmw.length g.mc, .slice g.da g.Data.length g.dc, .slice g.ta g.Ctrl.length g.tc, .slice g.ia g.CtrlI.length g.ic]
theorem GBox.of_alloc (w : World) (g : Gr) (t : TypeId) : GBox (w.alloc (.cells (gcells g) t (0, 0))) w.heap.size g := by
  refine ⟨?_, ?_, ?_, ?_, ?_, ?_, ?_, ?_⟩ <;> (rw [cell_of_row _ _ _ _ _ _ (heap_alloc_new _ _)]; rfl)
end RelA
theorem new_ownM (n : Nat) (base : Nat) (v : Value) (L : List (Int × Int)) (w : World) (hn : n ≤ 40) (hown : w.ownsRow base 40 2 v L.length (icells L)) :
    Calls Tryd.prog 22 #[.int .i64 n, v] w (Makes n (ofM n L) w) := by
  refine (new_ownI (n : Int) base v L w hown).mono ?_
  rintro e w' ⟨rfl, hat, hb⟩
  have hc : clampN (n : Int) = n := by unfold clampN; omega
  rw [hc] at hat
  exact ⟨_, rfl, .mk' hat (newR_lt40 n L hn) (lk_new n L) (wf_new n L), Nat.le_refl _, hb⟩
end Go.Proofs.YtgpkdhbegkhjjaaDoor
namespace Go.Proofs.YtgpkdhbegkhjjaaDoor
open Go.RowKit RelA
set_option maxRecDepth 20000 in
set_option maxHeartbeats 1600000 in
theorem of_own (g : Gr) (base : Nat) (v : Value) (L : List (Int × Int)) (w : World) (he : g.E.length ≤ 40) (hown : w.ownsRow base 40 2 v L.length (icells L)) :
    Calls Tryd.prog 12 #[g.v, v] w (Makes g.n (ofM g.n L) w) := by
  obtain ⟨locs, ea, E, ec, ra, R, rc, ca, C, cc, ma, Rmw, mc, da, Data, dc, ta, Ctrl, tc, ia, CtrlI, ic⟩ := g
  simp only [Gr.v, Gr.n] at he ⊢
  have H := Lib.hid (fun o => new_ownM E.length base v L (w.alloc o) he (hown.alloc o))
  clear hown he
  go_enter Tryd.func12, Tryd.ntmps12
  go_wp2_with fail
  refine (H.out _).mono ?_
  rintro e w' ⟨d, rfl, hat, hnw, hbe⟩
  have HNW : Hid (w.heap.size ≤ d) := Lib.hid (by have := hnw; simp at this; omega)
  clear hnw
  have HA := Lib.hid hat
  have HB := Lib.hid (below_next ((Below.refl _ _).alloc (Nat.le_refl _) _) hbe)
  clear hat hbe
  go_wp2_with fail
  go_ret
  exact ⟨_, rfl, HA.out, HNW.out, HB.out⟩
set_option maxRecDepth 20000 in
set_option maxHeartbeats 800000 in
theorem new_zero (n : Int) (a : Option Addr) (c : Nat) (w : World) :
    Calls Tryd.prog 22 #[.int .i64 n, .slice a 0 c] w fun e w' => e = .returned (.pointer (some ⟨w.heap.size, 0, none⟩)) ∧ At w' w.heap.size (clampN n) (fun _ => 0) ∧ Below w.heap.size w w' := by
  go_enter Tryd.func22, Tryd.ntmps22
  go_wp2_with fail
  all_goals
    go_loopw [15] (fun i wr => i = .int .i64 0 ∧ At wr w.heap.size (clampN n) (fun _ => 0) ∧ Below w.heap.size w wr) (fun i _ => 0)
    case atStart =>
      exact ⟨rfl, zero_at' w _ _ (by unfold clampN; omega), (Below.refl _ _).alloc (Nat.le_refl _) _⟩
    case round =>
      obtain ⟨rfl, hat, hbe⟩ := hrel
      have HAT := Lib.hid hat
      clear hat
      go_wp2_with fail
      go_ret
      exact ⟨rfl, HAT.out, hbe⟩
theorem new_in (n : Nat) (a : Option Addr) (L : List (Int × Int)) (c : Nat) (w : World) (hn : n ≤ 40) (hl : L.length ≤ 300) (h : PIn w a L c) :
    Calls Tryd.prog 22 #[.int .i64 n, .slice a L.length c] w (Makes n (ofM n L) w) := by
  have key : Calls Tryd.prog 22 #[.int .i64 n, .slice a L.length c] w fun e w' => e = .returned (.pointer (some ⟨w.heap.size, 0, none⟩)) ∧ At w' w.heap.size (clampN n) (newR (clampN n) L) ∧ Below w.heap.size w w' := by
    rcases h with ⟨rfl, rfl, rfl⟩ | ⟨ad, rfl, rfl⟩ | ⟨b, o, rfl, hb, hc⟩
    · exact new_zero n none 0 w
    · exact new_zero n _ c w
    · exact new_some n b o L c w (by unfold maxLen; omega) hb hc
  refine key.mono ?_
  rintro e w' ⟨rfl, hat, hb⟩
  have hc : clampN (n : Int) = n := by unfold clampN; omega
  rw [hc] at hat
  exact ⟨_, rfl, .mk' hat (newR_lt40 n L hn) (lk_new n L) (wf_new n L), Nat.le_refl _, hb⟩
set_option maxRecDepth 20000 in
set_option maxHeartbeats 1600000 in
theorem of_in (g : Gr) (a : Option Addr) (L : List (Int × Int)) (c : Nat) (w : World) (he : g.E.length ≤ 40) (hl : L.length ≤ 300) (h : PIn w a L c) :
    Calls Tryd.prog 12 #[g.v, .slice a L.length c] w (Makes g.n (ofM g.n L) w) := by
  obtain ⟨locs, ea, E, ec, ra, R, rc, ca, C, cc, ma, Rmw, mc, da, Data, dc, ta, Ctrl, tc, ia, CtrlI, ic⟩ := g
  simp only [Gr.v, Gr.n] at he ⊢
  have H := Lib.hid (fun o => new_in E.length a L c (w.alloc o) he hl (h.next ((Below.refl _ _).alloc (Nat.le_refl _) o)))
  clear h he hl
  go_enter Tryd.func12, Tryd.ntmps12
  go_wp2_with fail
  refine (H.out _).mono ?_
  rintro e w' ⟨d, rfl, hat, hnw, hbe⟩
  have HNW : Hid (w.heap.size ≤ d) := Lib.hid (by have := hnw; simp at this; omega)
  clear hnw
  have HA := Lib.hid hat
  have HB := Lib.hid (below_next ((Below.refl _ _).alloc (Nat.le_refl _) _) hbe)
  clear hat hbe
  go_wp2_with fail
  go_ret
  exact ⟨_, rfl, HA.out, HNW.out, HB.out⟩
namespace RelA
/-- the pairs of what is read from what -/
def rfL (R : List Int) (k : Nat) : List (Int × Int) := (List.range k).map fun i => (R.getD i 0, (i : Int))
theorem rfL_len (R : List Int) (k : Nat) : (rfL R k).length = k := by simp [rfL]
theorem rfL_succ (R : List Int) (k : Nat) : rfL R (k + 1) = rfL R k ++ [(R.getD k 0, (k : Int))] := by simp [rfL, List.range_succ]
theorem icells_snoc (l : List (Int × Int)) (p : Int × Int) : icells (l ++ [p]) = icells l ++ [.int .i64 p.1, .int .i64 p.2] := by simp [icells]
end RelA
end Go.Proofs.YtgpkdhbegkhjjaaDoor
namespace Go.Proofs.YtgpkdhbegkhjjaaDoor
open Go.RowKit RelA
namespace RelA
theorem ofM_iff (n : Nat) (l : List (Int × Int)) (i j : Nat) : ofM n l i j = true ↔ ∃ p ∈ l, inB n p.1 = true ∧ inB n p.2 = true ∧ p.1 = i ∧ p.2 = j := rnewM_iff n l i j
theorem rpre_mem (N : Nat) (M : Nat → Nat → Bool) (k : Nat) (p : Nat × Nat) : p ∈ rpre N M k ↔ p.1 < k ∧ p.2 < N ∧ M p.1 p.2 = true := by
  unfold rpre rrow
  rw [List.mem_flatMap]
  constructor
  · rintro ⟨a, ha, hp⟩
    obtain ⟨b, hb, rfl⟩ := List.mem_map.1 hp
    have := List.mem_filter.1 hb
    exact ⟨List.mem_range.1 ha, List.mem_range.1 this.1, this.2⟩
  · rintro ⟨h1, h2, h3⟩
    exact ⟨p.1, List.mem_range.2 h1, List.mem_map.2 ⟨p.2, List.mem_filter.2 ⟨List.mem_range.2 h2, h3⟩, rfl⟩⟩
/-- the pairs of a matrix make that matrix -/
theorem ofM_pairs {n : Nat} {M : Nat → Nat → Bool} (h : WFM n M) : ofM n (castP (rpairs n M)) = M := by
  funext i j
  rw [Bool.eq_iff_iff, ofM_iff]
  constructor
  · rintro ⟨p, hp, _, _, e1, e2⟩
    unfold castP at hp
    obtain ⟨q, hq, rfl⟩ := List.mem_map.1 hp
    have := (rpre_mem n M n q).1 hq
    have e3 : q.1 = i := Int.ofNat_inj.1 e1
    have e4 : q.2 = j := Int.ofNat_inj.1 e2
    rw [← e3, ← e4]; exact this.2.2
  · intro a
    have hw := h i j a
    refine ⟨((i : Int), (j : Int)), List.mem_map.2 ⟨(i, j), (rpre_mem n M n (i, j)).2 ⟨hw.1, hw.2, a⟩, rfl⟩, ?_, ?_, rfl, rfl⟩
    · unfold inB; simp; omega
    · unfold inB; simp; omega
theorem rrow_none (M : Nat → Nat → Bool) (i q : Nat) (h : ∀ j, j < q → M i j = false) : rrow M i q = [] := by
  unfold rrow
  rw [List.map_eq_nil_iff, List.filter_eq_nil_iff]
  intro j hj
  rw [h j (List.mem_range.1 hj)]; simp
theorem castCells (l : List (Nat × Nat)) : icells (castP l) = pairCells l := by
  unfold icells castP pairCells
  rw [List.flatMap_map]
theorem own_cast {w : World} {base : Nat} {e : TypeId} {size : Nat} {v : Value} {L : List (Nat × Nat)} (h : w.ownsRow base e size v L.length (pairCells L)) : w.ownsRow base e size v (castP L).length (icells (castP L)) := by
  rw [castP_len, castCells]; exact h
def poB (e f : Int) : Bool := (e == 0 && f != 0) || (e != 0 && e == f)
def Ev.at (E : List Ev) (i : Nat) : Ev := E.getD i Ev.zero
def poM (E : List Ev) : Nat → Nat → Bool := fun i j => (decide (i < j) && decide (j < E.length)) && poB (Ev.at E i).th (Ev.at E j).th
theorem wf_po (E : List Ev) : WFM E.length (poM E) := fun i j a => by
  unfold poM at a
  rw [Bool.and_eq_true, Bool.and_eq_true, decide_eq_true_eq, decide_eq_true_eq] at a
  omega
end RelA
set_option maxRecDepth 20000 in
set_option maxHeartbeats 3200000 in
theorem po_l (g : Gr) (w : World) (h : EsIn w g.ea g.E) (he : g.E.length ≤ 40) (hc : g.E.length ≤ g.ec) :
    Calls Tryd.prog 5 #[g.v] w (Makes g.n (poM g.E) w) := by
  have HOF := Lib.hid (fun base v L w hown => of_own g base v L w he hown)
  have HG0 := Lib.hid (GBox.of_alloc w g 28)
  obtain ⟨G, hG⟩ : ∃ G, G = g := ⟨_, rfl⟩
  obtain ⟨locs, ea, E, ec, ra, R, rc, ca, C, cc, ma, Rmw, mc, da, Data, dc, ta, Ctrl, tc, ia, CtrlI, ic⟩ := g
  simp only [Gr.v, Gr.n, gcells] at he hc HOF h HG0 ⊢
  rw [← hG] at HG0
  have HI := Lib.hid h
  clear h
  obtain ⟨i0, hi, hz0, hz1, hz2⟩ := info_parts info37
  have hM := wf_po E
  have hmin : min (E.length : Int) 40 = (E.length : Int) := by omega
  go_enter Tryd.func5, Tryd.ntmps5
  go_wp2_with fail
  obtain ⟨w1, hw1⟩ : ∃ x, x = w.alloc (Obj.cells #[.int .i64 locs, .slice ea E.length ec, .slice ra R.length rc, .slice ca C.length cc, .slice ma Rmw.length mc, .slice da Data.length dc, .slice ta Ctrl.length tc, .slice ia CtrlI.length ic] 28 (0, 0)) := ⟨_, rfl⟩
  rw [← hw1] at HG0 ⊢
  have hs1 : w1.heap.size = w.heap.size + 1 := by rw [hw1]; simp
  have HB1 : Hid (Below w.heap.size w w1) := Lib.hid (by rw [hw1]; exact (Below.refl _ _).alloc (Nat.le_refl _) _)
  clear hw1
  have HI1 := Lib.hid (HI.out.next HB1.out)
  clear HI
  go_loopw [4, 18] (fun v x wr => ∃ k : Nat, k ≤ E.length ∧ x = .int .i64 k ∧ wr.ownsRow w1.heap.size 40 2 v (rpre E.length (poM E) k).length (pairCells (rpre E.length (poM E) k)) ∧ Below w1.heap.size w1 wr) (fun _ x _ => E.length - (intOf x).toNat)
  case atStart => exact ⟨0, Nat.zero_le _, rfl, ⟨rfl, .inl ⟨rfl, rfl⟩⟩, Below.refl _ _⟩
  case round =>
    obtain ⟨k, hk, rfl, hown, hbe⟩ := hrel
    have hpl := rpre_len E.length (poM E) he k
    have HOWN := Lib.hid hown
    clear hown
    by_cases hlt : k < E.length
    · obtain ⟨wo, rfl⟩ : ∃ wo : World, wo = wr := ⟨_, rfl⟩
      have hdk : decide ((k : Int) < (E.length : Int)) = true := by simp; omega
      have hki : (k : Int) < (E.length : Int) := by omega
      have hk40 : (k : Int) < 40 := by omega
      go_wp2_with fail
      go_loopw [4, 6] (fun v x wi => ∃ q : Nat, k + 1 ≤ q ∧ q ≤ E.length ∧ x = .int .i64 q ∧ wi.ownsRow w1.heap.size 40 2 v (rpre E.length (poM E) k ++ rrow (poM E) k q).length (pairCells (rpre E.length (poM E) k ++ rrow (poM E) k q)) ∧ Below w1.heap.size w1 wi) (fun _ x _ => E.length - (intOf x).toNat)
      case atStart =>
        refine ⟨k + 1, Nat.le_refl _, by omega, by go_num, ?_, hbe⟩
        have hn := rrow_none (poM E) k (k + 1) (fun j hj => by
          unfold poM
          have : ¬ k < j := by omega
          simp [this])
        rw [hn, List.append_nil]; exact HOWN.out
      case round =>
        obtain ⟨q, hq1, hq, rfl, hown, hbi⟩ := hrel
        have hsz := hbi.size
        have hrl := rrow_len (poM E) k q
        have hll : (rpre E.length (poM E) k ++ rrow (poM E) k q).length ≤ 1700 := by rw [List.length_append]; omega
        have HOWNI := Lib.hid hown
        clear hown
        by_cases hql : q < E.length
        · have hdq : decide ((q : Int) < (E.length : Int)) = true := by simp; omega
          have hqi : (q : Int) < (E.length : Int) := by omega
          have hq40 : (q : Int) < 40 := by omega
          have hX : poM E k q = poB (Ev.at E k).th (Ev.at E q).th := by
            unfold poM
            have a1 : k < q := by omega
            simp [a1, hql]
          rcases HI1.out.next hbi with h0 | ⟨b, o, rfl, hbl, hcc⟩
          · rw [h0] at hlt; simp at hlt
          · have d0 := (hcc k hlt).c0
            have d1 := (hcc q hql).c0
            clear hcc
            change _ = some (Value.int _ (Ev.at E k).th) at d0
            change _ = some (Value.int _ (Ev.at E q).th) at d1
            generalize (Ev.at E k).th = x at *
            generalize (Ev.at E q).th = y at *
            have cs : (x = 0 ∧ y = 0) ∨ (x = 0 ∧ y ≠ 0) ∨ (x ≠ 0 ∧ x = y) ∨ (x ≠ 0 ∧ x ≠ y) := by omega
            rcases cs with ⟨hx, hy⟩ | ⟨hx, hy⟩ | ⟨hx, hy⟩ | ⟨hx, hy⟩
            · have HX : Hid (poM E k q = false) := Lib.hid (by rw [hX, hx, hy]; rfl)
              subst hx hy
              clear hX
              go_wp2_with fail
              go_region
              go_wp2_with fail
              go_roundw
              case rel =>
                refine ⟨q + 1, by omega, by omega, by go_num, ?_, hbi.drew⟩
                rw [rrow_no (poM E) k q HX.out]; exact HOWNI.out
              case measure => simp [intOf]; omega
            · have HX : Hid (poM E k q = true) := Lib.hid (by rw [hX, hx]; unfold poB; simp [hy])
              have hy1 : (y != 0) = true := by simp [hy]
              subst hx
              clear hX
              go_wp2_with fail
              go_region
              go_wp2_with (first
              | (at_builtin; refine wpList_append_own _ rfl (.tmp 54) (.tmp 58) 26 rfl w1.heap.size 40 i0 (.agg #[.int .i64 0, .int .i64 0]) 2 16 Tryd.underlying26 hi hz0 hz1 hz2 rfl (by decide) _ _ _ rfl (HOWNI.out.alloc _) ⟨wr.heap.size, 0, none⟩ 1 1 [.int .i64 k, .int .i64 q] rfl rfl (World.news_of_block (cs := #[.int .i64 k, .int .i64 q]) (t := 40) (fr := (0, 0)) (heap_alloc_new wr _)) (by simp [Value.oneCell']) (by unfold maxLen; omega) (by omega) (by simp; omega) ?_; intro v1 w2 hown1 hgrow1 hnil1; have HO1 := Lib.hid hown1; have HG1 := Lib.hid hgrow1; clear hown1 hgrow1 hnil1))
              go_roundw
              case rel =>
                refine ⟨q + 1, by omega, by omega, by go_num, ?_, ?_⟩
                · rw [rrow_yes (poM E) k q HX.out, ← List.append_assoc, pairCells_snoc, List.length_append]
                  exact HO1.out
                · exact (hbi.alloc hsz _).drew.grown HG1.out (by simp; omega) (fun j hj => (HOWNI.out.lt j hj).1)
              case measure => simp [intOf]; omega
            · have HX : Hid (poM E k q = true) := Lib.hid (by rw [hX, ← hy]; unfold poB; simp [hx])
              have hx1 : (x == 0) = false := by simp [hx]
              have hx2 : (x != 0) = true := by simp [hx]
              subst hy
              clear hX
              go_wp2_with fail
              go_region
              go_wp2_with (first
              | (at_builtin; refine wpList_append_own _ rfl (.tmp 54) (.tmp 58) 26 rfl w1.heap.size 40 i0 (.agg #[.int .i64 0, .int .i64 0]) 2 16 Tryd.underlying26 hi hz0 hz1 hz2 rfl (by decide) _ _ _ rfl (HOWNI.out.alloc _) ⟨wr.heap.size, 0, none⟩ 1 1 [.int .i64 k, .int .i64 q] rfl rfl (World.news_of_block (cs := #[.int .i64 k, .int .i64 q]) (t := 40) (fr := (0, 0)) (heap_alloc_new wr _)) (by simp [Value.oneCell']) (by unfold maxLen; omega) (by omega) (by simp; omega) ?_; intro v1 w2 hown1 hgrow1 hnil1; have HO1 := Lib.hid hown1; have HG1 := Lib.hid hgrow1; clear hown1 hgrow1 hnil1))
              go_roundw
              case rel =>
                refine ⟨q + 1, by omega, by omega, by go_num, ?_, ?_⟩
                · rw [rrow_yes (poM E) k q HX.out, ← List.append_assoc, pairCells_snoc, List.length_append]
                  exact HO1.out
                · exact (hbi.alloc hsz _).drew.grown HG1.out (by simp; omega) (fun j hj => (HOWNI.out.lt j hj).1)
              case measure => simp [intOf]; omega
            · have HX : Hid (poM E k q = false) := Lib.hid (by rw [hX]; unfold poB; simp [hx, hy])
              have hx1 : (x == 0) = false := by simp [hx]
              have hx2 : (x != 0) = true := by simp [hx]
              have hy1 : (x == y) = false := by simp [hy]
              clear hX
              go_wp2_with fail
              go_region
              go_wp2_with fail
              go_roundw
              case rel =>
                refine ⟨q + 1, by omega, by omega, by go_num, ?_, hbi.drew⟩
                rw [rrow_no (poM E) k q HX.out]; exact HOWNI.out
              case measure => simp [intOf]; omega
        · have hqN : q = E.length := by omega
          have HQ := Lib.hid hqN
          have hdq : decide ((q : Int) < (E.length : Int)) = false := by simp; omega
          clear hqN
          go_wp2_with fail
          go_roundw
          case rel =>
            refine ⟨k + 1, by omega, by go_num, ?_, hbi⟩
            have h1 := HOWNI.out
            rw [HQ.out] at h1
            rw [rpre_succ]; exact h1
          case measure => simp [intOf]; omega
    · have hkN : k = E.length := by omega
      subst hkN
      have hdk : decide ((E.length : Int) < (E.length : Int)) = false := by simp
      obtain ⟨c0, c1, c2, c3, c4, c5, c6, c7⟩ := HG0.out.next hbe
      rw [hG] at c0 c1 c2 c3 c4 c5 c6 c7
      dsimp only at c0 c1 c2 c3 c4 c5 c6 c7
      have HBw := Lib.hid (below_next HB1.out hbe)
      have HC := Lib.hid (HOF.out _ _ _ _ (own_cast HOWN.out))
      have HEQ := Lib.hid (ofM_pairs hM)
      unfold rpairs at HEQ
      rw [HEQ.out] at HC
      go_wp2_with fail
      refine HC.out.mono ?_
      rintro e w3 ⟨d, rfl, hat, hnw, hb3⟩
      have HNW := Lib.hid (Nat.le_trans HBw.out.size hnw)
      clear hnw
      have HA := Lib.hid hat
      have HBf := Lib.hid (below_next HBw.out hb3)
      clear hat hb3
      go_wp2_with fail
      go_ret
      exact ⟨_, rfl, HA.out, HNW.out, HBf.out⟩
end Go.Proofs.YtgpkdhbegkhjjaaDoor
namespace Go.Proofs.YtgpkdhbegkhjjaaDoor
open Go.RowKit RelA
namespace RelA
def Ev.v (e : Ev) : Value := .agg #[.int .i64 e.th, .int .i64 e.kd, .int .i64 e.md, .int .i64 e.lc, .int .i64 e.vl, .bool e.ex]
def idxI (L : List Int) (x : Int) : Nat → Int
  | 0 => -1
  | q + 1 => if idxI L x q = -1 then (if L.getD q 0 = x then (q : Int) else -1) else idxI L x q
theorem idxI_mem (L : List Int) (x : Int) (q : Nat) : (0 ≤ idxI L x q ↔ ∃ j, j < q ∧ L.getD j 0 = x) ∧ (-1 ≤ idxI L x q) := by
  induction q with
  | zero => exact ⟨⟨fun h => by simp [idxI] at h, fun ⟨j, hj, _⟩ => absurd hj (by omega)⟩, by simp [idxI]⟩
  | succ q ih =>
    obtain ⟨ih, ihb⟩ := ih
    unfold idxI
    by_cases h1 : idxI L x q = -1
    · rw [if_pos h1]
      have hno : ¬ ∃ j, j < q ∧ L.getD j 0 = x := fun h => by have := ih.2 h; omega
      by_cases h2 : L.getD q 0 = x
      · rw [if_pos h2]
        exact ⟨⟨fun _ => ⟨q, by omega, h2⟩, fun _ => by omega⟩, by omega⟩
      · rw [if_neg h2]
        refine ⟨⟨fun h => absurd h (by omega), fun ⟨j, hj, e⟩ => ?_⟩, by omega⟩
        by_cases h3 : j = q
        · rw [h3] at e; exact absurd e h2
        · exact absurd ⟨j, by omega, e⟩ hno
    · rw [if_neg h1]
      have hp : 0 ≤ idxI L x q := by omega
      obtain ⟨j, hj, e⟩ := ih.1 hp
      exact ⟨⟨fun _ => ⟨j, by omega, e⟩, fun _ => hp⟩, ihb⟩
def hasI (L : List Int) (x : Int) : Bool := L.any fun y => y == x
theorem hasI_iff (L : List Int) (x : Int) : decide (0 ≤ idxI L x L.length) = hasI L x := by
  rw [Bool.eq_iff_iff, decide_eq_true_eq, (idxI_mem L x L.length).1]
  unfold hasI
  rw [List.any_eq_true]
  constructor
  · rintro ⟨j, hj, e⟩
    refine ⟨L.getD j 0, ?_, by simp only [beq_iff_eq]; exact e⟩
    rw [List.getD_eq_getElem?_getD, List.getElem?_eq_getElem hj]; exact List.getElem_mem hj
  · rintro ⟨y, hy, e⟩
    obtain ⟨j, hj, rfl⟩ := List.mem_iff_getElem.1 hy
    refine ⟨j, hj, ?_⟩
    rw [List.getD_eq_getElem?_getD, List.getElem?_eq_getElem hj]; simpa using e
end RelA
namespace RelA
def evB (kind : Int) (modes : List Int) (e : Ev) : Bool := (e.kd == kind) && ((modes.length == 0) || hasI modes e.md)
end RelA
end Go.Proofs.YtgpkdhbegkhjjaaDoor
