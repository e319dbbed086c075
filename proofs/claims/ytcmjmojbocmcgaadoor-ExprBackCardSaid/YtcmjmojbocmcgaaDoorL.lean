import Derived.Test.YtcmjmojbocmcgaaDoorI
import Derived.Test.YtcmjmojbocmcgaaDoorJ
namespace Go.Proofs.YtcmjmojbocmcgaaDoor
open Go.RowKit ExprA
namespace ExprA
theorem tmod_neg (n : Int) (k : Nat) (hk : 0 < k) (h : n.tmod k < 0) : n.tmod k + k = n % k := by
  have := Int.tmod_eq_emod (a := n) (b := k)
  have h1 := Int.emod_nonneg n (show (k : Int) ≠ 0 by omega)
  split at this <;> omega
theorem tmod_pos (n : Int) (k : Nat) (hk : 0 < k) (h : ¬ n.tmod k < 0) : n.tmod k = n % k := by
  have := Int.tmod_eq_emod (a := n) (b := k)
  have h1 := Int.emod_lt_of_pos n (show (0 : Int) < k by omega)
  split at this <;> omega
end ExprA
set_option maxRecDepth 100000 in
set_option maxHeartbeats 400000 in
theorem place_any (n : Int) (k : Nat) (w : World) (hk : 0 < k) (hk2 : k ≤ 1099511627776) :
    Calls Tryd.prog 16 #[.int .i64 n, .int .i64 k] w fun e w' => e = .returned (.int .i64 (n % k)) ∧ w = w' := by
  by_cases hz : n.tmod k < 0
  · have HM := Lib.hid (tmod_neg n k hk hz)
    have hlow : -(k : Int) < n.tmod k := by
      have := HM.out
      have h1 := Int.emod_nonneg n (show (k : Int) ≠ 0 by omega)
      by_cases he : n % (k : Int) = 0
      · have h0 : n.tmod k = 0 := Int.tmod_eq_zero_of_dvd (Int.dvd_of_emod_eq_zero he)
        omega
      · omega
    go_enter Tryd.func16, Tryd.ntmps16
    go_wp2_with fail
    go_ret
    exact ⟨by rw [← HM.out]; rfl, rfl⟩
  · have HM := Lib.hid (tmod_pos n k hk hz)
    go_enter Tryd.func16, Tryd.ntmps16
    go_wp2_with fail
    go_ret
    exact ⟨by rw [← HM.out]; rfl, rfl⟩
namespace ExprA
theorem own_new (w : World) (base : Nat) (hb : base ≤ w.heap.size) (T : List (Int × Int)) (hT : T.length ≤ 100) : (w.alloc (.cells (icells T).toArray 34 (0, 0))).ownsRow base 34 2 (.slice (some ⟨w.heap.size, 0, none⟩) T.length T.length) T.length (icells T) := by
  refine ⟨icells_len T, .inr ⟨w.heap.size, T.length, (icells T).toArray, rfl, hb, heap_alloc_new _ _, Nat.le_refl _, by unfold maxLen; omega, by simp [icells_len], ?_⟩⟩
  have h := icells_len T
  show (icells T).take (T.length * 2) = icells T
  rw [← h, List.take_length]
theorem icells_app (a b : List (Int × Int)) : icells (a ++ b) = icells a ++ icells b := by unfold icells; exact List.flatMap_append
/-- the words so far -/
def wrongT : Nat → List (Int × Int)
  | 0 => [(1, 1)]
  | i + 1 => wrongT i ++ [(2, (i : Int)), (3, 1)]
theorem wrongT_len (i : Nat) : (wrongT i).length = 1 + 2 * i := by
  induction i with
  | zero => rfl
  | succ i ih => show (wrongT i ++ _).length = _; rw [List.length_append, ih]; simp; omega
def wrongR : Nat → List (Int × Int)
  | 0 => []
  | i + 1 => wrongR i ++ [(2, (i : Int)), (3, 1)]
theorem wrongT_cons (i : Nat) : wrongT i = (1, 1) :: wrongR i := by
  induction i with
  | zero => rfl
  | succ i ih => show wrongT i ++ _ = _; rw [ih]; rfl
def lenV : Value → Nat
  | .slice _ n _ => n
  | _ => 0
/-- an owned row: where it lies -/
theorem own_at {w : World} {base : Nat} {v : Value} {T : List (Int × Int)} (h : w.ownsRow base 34 2 v T.length (icells T)) (h0 : T ≠ []) :
    ∃ g c cur, v = .slice (some ⟨g, 0, none⟩) T.length c ∧ base ≤ g ∧ w.heap[g]? = some (.cells cur 34 (0, 0)) ∧ TIn w (some ⟨g, 0, none⟩) T := by
  have ht := fun pa c (e : v = .slice pa T.length c) => tin_own (pa := pa) (c := c) (T := T) (by rw [← e]; exact h)
  obtain ⟨_, ⟨_, h2⟩ | ⟨g, cap, cur, hv, hg, hcur, _⟩⟩ := h
  · exact absurd (List.length_eq_zero_iff.1 h2) h0
  · exact ⟨g, cap, cur, hv, hg, hcur, ht _ _ hv⟩
theorem set_other {w : World} {g j i : Nat} {v : Value} (h : i ≠ j) : (w.setCell ⟨g, i, none⟩ v).cell? ⟨g, j, none⟩ = w.cell? ⟨g, j, none⟩ := World.cell?_setCell_other _ _ _ _ (fun e => h (by cases e; rfl))
theorem tin_set {w : World} {g : Nat} {x y z u : Int} {R : List (Int × Int)} {w' : World} (h : TIn w (some ⟨g, 0, none⟩) ((x, y) :: R))
    (hsz : w'.heap.size = w.heap.size) (h0 : w'.cell? ⟨g, 0, none⟩ = some (.int .i64 z)) (h1 : w'.cell? ⟨g, 1, none⟩ = some (.int .i64 u)) (hr : ∀ j, 2 ≤ j → w'.cell? ⟨g, j, none⟩ = w.cell? ⟨g, j, none⟩) :
    TIn w' (some ⟨g, 0, none⟩) ((z, u) :: R) := by
  rcases h with h | ⟨b, o, e, hb, hc⟩
  · simp at h
  · simp only [Option.some.injEq, Addr.mk.injEq, and_true] at e
    obtain ⟨rfl, rfl⟩ := e
    refine .inr ⟨_, 0, rfl, by omega, fun i hi => ?_⟩
    match i with
    | 0 => exact ⟨h0, h1⟩
    | i + 1 =>
      have := hc (i + 1) (by simpa using hi)
      rw [Nat.zero_add] at this ⊢
      rw [hr _ (by omega), hr _ (by omega)]
      exact this
def wrongTo (h k : Nat) : List (Int × Int) :=
  match h with
  | 0 => wrongT k ++ [(3, 1)]
  | 1 => wrongT k ++ [(1, 0)]
  | 2 => (1, 2147483648) :: wrongR k
  | 3 => (2, 8) :: wrongR k
  | 4 => (4, 1) :: wrongR k
  | 5 => wrongT k ++ [(2, 0), (3, 7)]
  | _ => []
theorem wrong_ok (k : Nat) (hk : k ≤ 3) : checkB (wrongT k) = true := by
  rcases (show k = 0 ∨ k = 1 ∨ k = 2 ∨ k = 3 by omega) with rfl | rfl | rfl | rfl <;> rfl
theorem wrong_no (h k : Nat) (hk : k ≤ 3) (hh : h ≤ 6) : checkB (wrongTo h k) = false := by
  rcases (show h = 0 ∨ h = 1 ∨ h = 2 ∨ h = 3 ∨ h = 4 ∨ h = 5 ∨ h = 6 by omega) with rfl | rfl | rfl | rfl | rfl | rfl | rfl <;>
    rcases (show k = 0 ∨ k = 1 ∨ k = 2 ∨ k = 3 by omega) with rfl | rfl | rfl | rfl <;> rfl
/-- a text that none has -/
def wrongS (h : Nat) : ByteArray :=
  match h with
  | 0 => ⟨#[]⟩ | 1 => ⟨#[32, 49]⟩ | 2 => ⟨#[49, 32]⟩ | 3 => ⟨#[48, 49]⟩ | 4 => ⟨#[114, 56]⟩ | 5 => ⟨#[49, 32, 32, 49, 32, 43]⟩ | 6 => ⟨#[43, 32, 49, 32, 49]⟩ | _ => ⟨#[49, 32, 49, 32, 43, 32, 43]⟩
theorem wrong_read (h : Nat) (hh : h ≤ 7) : parseB (wrongS h) = none := by
  rcases (show h = 0 ∨ h = 1 ∨ h = 2 ∨ h = 3 ∨ h = 4 ∨ h = 5 ∨ h = 6 ∨ h = 7 by omega) with rfl | rfl | rfl | rfl | rfl | rfl | rfl | rfl <;> kernel_rfl
theorem wrong_size (h : Nat) (hh : h ≤ 7) : (wrongS h).size ≤ 1000 := by
  rcases (show h = 0 ∨ h = 1 ∨ h = 2 ∨ h = 3 ∨ h = 4 ∨ h = 5 ∨ h = 6 ∨ h = 7 by omega) with rfl | rfl | rfl | rfl | rfl | rfl | rfl | rfl <;> decide
theorem parse_wrong (h : Nat) (hh : h ≤ 7) (w : World) (hl : LibIn w) : Calls Tryd.prog 9 #[.string (wrongS h)] w fun e w' => e = .returned (.tuple #[.slice none 0 0, .bool false]) ∧ Below w.heap.size w w' := by
  refine (parse_any (wrongS h) (wrong_size h hh) w hl.1 hl.2.1 hl.2.2).mono ?_
  rintro e w' ⟨hp, hb⟩
  unfold parsed at hp
  rw [wrong_read h hh] at hp
  exact ⟨hp, hb⟩
theorem text_no {T : List (Int × Int)} (h : checkB T = false) : textL T = [] := by unfold textL; rw [h]; rfl
theorem eval_no {T : List (Int × Int)} {R : List Int} (h : checkB T = false) : evalB T R = 0 := by unfold evalB; rw [h]; rfl
end ExprA
end Go.Proofs.YtcmjmojbocmcgaaDoor
