import Derived.Test.YtcmjmojbocmcgaaDoorL
import Derived.Lib.Split
import Derived.Lib.Join
import Derived.Lib.ItoaMem
import Derived.Lib.ItoaLen
import Derived.Lib.AtoiAll
namespace Go.Proofs.YtcmjmojbocmcgaaDoor
open Go.RowKit ExprA
namespace ExprA
theorem dig_mem (u : Nat) : ∀ c ∈ Lib.decDigits u, 48 ≤ c.toNat ∧ c.toNat ≤ 57 := by
  induction u using Nat.strongRecOn with
  | ind u ih =>
    intro c hc
    rw [Lib.decDigits] at hc
    by_cases h : u < 10
    · rw [dif_pos h] at hc
      simp only [List.mem_singleton] at hc
      subst hc
      rw [UInt8.toNat_ofNat']
      omega
    · rw [dif_neg h] at hc
      rcases List.mem_append.1 hc with h1 | h1
      · exact ih (u / 10) (by omega) c h1
      · simp only [List.mem_singleton] at h1
        subst h1
        rw [UInt8.toNat_ofNat']
        omega
theorem dig_ne (u : Nat) : Lib.decDigits u ≠ [] := by
  rw [Lib.decDigits]
  split
  · simp
  · simp
theorem parse_app (a b : List UInt8) (acc : Nat) : Lib.parseUint10 acc (a ++ b) = (match Lib.parseUint10 acc a with | .ok m => Lib.parseUint10 m b | e => e) := by
  induction a generalizing acc with
  | nil => rfl
  | cons c a ih =>
    show Lib.parseUint10 acc (c :: (a ++ b)) = _
    simp only [Lib.parseUint10]
    split
    · split
      · rfl
      · split
        · rfl
        · exact ih _
    · rfl
theorem parse_dig (u : Nat) (hu : u < 10000000000) : Lib.parseUint10 0 (Lib.decDigits u) = .ok u := by
  induction u using Nat.strongRecOn with
  | ind u ih =>
    have one : ∀ acc d, d < 10 → acc < 1000000000 → Lib.parseUint10 acc [UInt8.ofNat (48 + d)] = .ok (acc * 10 + d) := by
      intro acc d hd ha
      have e : (UInt8.ofNat (48 + d)).toNat = 48 + d := by rw [UInt8.toNat_ofNat']; omega
      unfold Lib.parseUint10
      rw [e, if_pos (by omega), if_neg (by omega), if_neg (by omega)]
      unfold Lib.parseUint10
      congr 1; omega
    rw [Lib.decDigits]
    by_cases h : u < 10
    · rw [dif_pos h, one 0 u h (by omega)]; congr 1; omega
    · rw [dif_neg h, parse_app, ih (u / 10) (by omega) (by omega)]
      show Lib.parseUint10 (u / 10) _ = _
      rw [one (u / 10) (u % 10) (by omega) (by omega)]
      congr 1; omega
theorem mag_dig (u : Nat) (hu : u < 10000000000) : Lib.parseMag (Lib.decDigits u) = .ok u := by
  unfold Lib.parseMag; rw [if_neg (dig_ne u)]; exact parse_dig u hu
theorem atoi_itoa (n : Int) (h0 : -2147483648 ≤ n) (h1 : n ≤ 2147483647) : Lib.atoiAll (Lib.itoa n) = .ok n := by
  by_cases hn : n < 0
  · have e : Lib.itoa n = 45 :: Lib.decDigits n.natAbs := by unfold Lib.itoa; rw [if_pos hn]
    rw [e]
    unfold Lib.atoiAll
    have h45 : (45 : UInt8).toNat = 45 := rfl
    simp only [h45]
    rw [if_pos (by simp), mag_dig _ (by omega)]
    simp only [not_true_eq_false, false_and, true_and, if_false, if_true]
    rw [if_neg (by omega)]
    congr 1; omega
  · have e : Lib.itoa n = Lib.decDigits n.toNat := by unfold Lib.itoa; rw [if_neg hn]
    rw [e]
    have hm := mag_dig n.toNat (by omega)
    cases hd : Lib.decDigits n.toNat with
    | nil => exact absurd hd (dig_ne _)
    | cons c r =>
      rw [hd] at hm
      have hc := dig_mem n.toNat c (by rw [hd]; simp)
      unfold Lib.atoiAll
      dsimp only
      rw [if_neg (by omega), hm]
      dsimp only
      rw [if_neg (by omega), if_neg (by omega), if_neg (by omega)]
      congr 1; omega
theorem itoa_mem (n : Int) : ∀ c ∈ Lib.itoa n, c = 45 ∨ (48 ≤ c.toNat ∧ c.toNat ≤ 57) := by
  intro c hc
  unfold Lib.itoa at hc
  split at hc
  · rcases List.mem_cons.1 hc with rfl | h
    · exact .inl rfl
    · exact .inr (dig_mem _ c h)
  · exact .inr (dig_mem _ c hc)
theorem index_no (w : List UInt8) (h : (32 : UInt8) ∉ w) : Lib.index w [32] = -1 := by
  induction w with
  | nil => rfl
  | cons c w ih =>
    have h1 : c ≠ 32 := fun e => h (by simp [e])
    have h2 : (32 : UInt8) ∉ w := fun e => h (by simp [e])
    unfold Lib.index
    rw [ih h2]
    have e : List.isPrefixOf [32] (c :: w) = false := by simp [List.isPrefixOf]; exact fun e => h1 e.symm
    rw [e]; rfl
theorem index_at (w r : List UInt8) (h : (32 : UInt8) ∉ w) : Lib.index (w ++ 32 :: r) [32] = (w.length : Int) := by
  induction w with
  | nil => simp [Lib.index, List.isPrefixOf]
  | cons c w ih =>
    have h1 : c ≠ 32 := fun e => h (by simp [e])
    have h2 : (32 : UInt8) ∉ w := fun e => h (by simp [e])
    show Lib.index (c :: (w ++ 32 :: r)) [32] = _
    unfold Lib.index
    rw [ih h2]
    have e : List.isPrefixOf [32] (c :: (w ++ 32 :: r)) = false := by simp [List.isPrefixOf]; exact fun e => h1 e.symm
    rw [e]
    have e2 : (((w.length : Int)) == -1) = false := by rw [beq_eq_false_iff_ne]; omega
    rw [e2]
    simp
theorem split_join (ws : List (List UInt8)) (h0 : ws ≠ []) (hb : ∀ w ∈ ws, (32 : UInt8) ∉ w) (k : Nat) (hk : ws.length ≤ k + 1) : Lib.splitK [32] 0 k (Lib.join ws [32]) = ws := by
  induction ws generalizing k with
  | nil => exact absurd rfl h0
  | cons x r ih =>
    have hx := hb x (by simp)
    cases r with
    | nil =>
      have e : Lib.join [x] [32] = x := by simp [Lib.join]
      rw [e]
      cases k with
      | zero => rfl
      | succ k => unfold Lib.splitK; rw [index_no x hx]; rfl
    | cons y r =>
      have e : Lib.join (x :: y :: r) [32] = x ++ 32 :: Lib.join (y :: r) [32] := by simp [Lib.join, List.intercalate, List.intersperse]
      rw [e]
      cases k with
      | zero => simp at hk
      | succ k =>
        unfold Lib.splitK
        rw [index_at x _ hx]
        have e2 : (((x.length : Int)) == -1) = false := by rw [beq_eq_false_iff_ne]; omega
        rw [e2]
        have e3 : ((x.length : Int)).toNat = x.length := by omega
        rw [e3]
        have e4 : (x ++ 32 :: Lib.join (y :: r) [32]).take (x.length + 0) = x := by simp
        have e5 : (x ++ 32 :: Lib.join (y :: r) [32]).drop (x.length + [(32 : UInt8)].length) = Lib.join (y :: r) [32] := by
          rw [← List.drop_drop]; simp
        rw [e4, e5, ih (by simp) (fun w hw => hb w (by simp at hw ⊢; exact .inr hw)) k (by simpa using hk)]
        rfl
theorem noblank {p : Int × Int} {n n2 : Nat} (h : okTok p n = some n2) : (32 : UInt8) ∉ wordL p := by
  have hi : ∀ z, (32 : UInt8) ∉ Lib.itoa z := fun z hc => by
    rcases itoa_mem z _ hc with h | h
    · exact absurd h (by decide)
    · have e : (32 : UInt8).toNat = 32 := rfl
      omega
  have hw := okTok_wide h
  unfold wordL
  split
  · rename_i h3
    obtain ⟨h1, h6⟩ := hw.1 h3
    have hv : p.2.toNat = 1 ∨ p.2.toNat = 2 ∨ p.2.toNat = 3 ∨ p.2.toNat = 4 ∨ p.2.toNat = 5 ∨ p.2.toNat = 6 := by omega
    rcases hv with e | e | e | e | e | e <;> rw [e] <;> decide
  · split
    · intro hc
      rcases List.mem_cons.1 hc with h | h
      · exact absurd h (by decide)
      · exact hi _ h
    · exact hi _
theorem numL_itoa (n : Int) (h0 : -2147483648 ≤ n) (h1 : n ≤ 2147483647) : numL (Lib.itoa n) = some n := by
  unfold numL; rw [atoi_itoa n h0 h1]
theorem opOf_itoa (n : Int) (h0 : -2147483648 ≤ n) (h1 : n ≤ 2147483647) : opOf ⟨(Lib.itoa n).toArray⟩ = none := by
  refine opOf_none fun j hj1 hj7 e => ?_
  have e1 : Lib.itoa n = [signOf j] := by
    have := congrArg (fun b : ByteArray => b.data.toList) e
    simpa using this
  have h2 := numL_itoa n h0 h1
  rw [e1] at h2
  have hv : j = 1 ∨ j = 2 ∨ j = 3 ∨ j = 4 ∨ j = 5 ∨ j = 6 := by omega
  rcases hv with rfl | rfl | rfl | rfl | rfl | rfl <;> exact absurd h2 (by simp [numL, Lib.atoiAll, signOf, Lib.parseMag, Lib.parseUint10])
theorem pre_itoa (n : Int) : Lib.hasPrefix (Lib.itoa n) [114] = false := by
  cases h : Lib.itoa n with
  | nil => rfl
  | cons c r =>
    have hc := itoa_mem n c (by rw [h]; simp)
    have hne : c ≠ 114 := by
      rintro rfl
      rcases hc with hc | hc
      · exact absurd hc (by decide)
      · have e : (114 : UInt8).toNat = 114 := rfl
        omega
    simp [Lib.hasPrefix, List.isPrefixOf]
    exact fun e => hne e.symm
theorem read_word {p : Int × Int} {n n2 : Nat} (h : okTok p n = some n2) : readW ⟨(wordL p).toArray⟩ = some p := by
  obtain ⟨k, v⟩ := p
  unfold okTok at h
  dsimp only at h
  split at h
  · rename_i hh
    obtain ⟨rfl, h0, h1⟩ := hh
    have e : wordL (1, v) = Lib.itoa v := rfl
    rw [e]
    unfold readW
    rw [opOf_itoa v h0 h1]
    have e2 : (⟨(Lib.itoa v).toArray⟩ : ByteArray).data.toList = Lib.itoa v := by simp
    rw [e2, pre_itoa, numL_itoa v h0 h1]
    rfl
  · split at h
    · rename_i hh
      obtain ⟨rfl, h0, h8⟩ := hh
      have e : wordL (2, v) = 114 :: Lib.itoa v := rfl
      rw [e]
      have hn : opOf ⟨(114 :: Lib.itoa v).toArray⟩ = none := by
        refine opOf_none fun j hj1 hj7 e => ?_
        have e1 : 114 :: Lib.itoa v = [signOf j] := by
          have := congrArg (fun b : ByteArray => b.data.toList) e
          simpa using this
        have hv : j = 1 ∨ j = 2 ∨ j = 3 ∨ j = 4 ∨ j = 5 ∨ j = 6 := by omega
        rcases hv with rfl | rfl | rfl | rfl | rfl | rfl <;> exact absurd (List.cons.inj e1).1 (by decide)
      unfold readW
      rw [hn]
      have e2 : (⟨(114 :: Lib.itoa v).toArray⟩ : ByteArray).data.toList = 114 :: Lib.itoa v := by simp
      have e3 : Lib.hasPrefix (114 :: Lib.itoa v) [114] = true := by simp [Lib.hasPrefix, List.isPrefixOf]
      have e4 : Lib.trimPrefix (114 :: Lib.itoa v) [114] = Lib.itoa v := by simp [Lib.trimPrefix, e3]
      rw [e2, e3, e4, numL_itoa v (by omega) (by omega)]
      rfl
    · split at h
      · rename_i hh
        obtain ⟨rfl, h1, h6, _⟩ := hh
        obtain ⟨j, rfl⟩ : ∃ j : Nat, v = (j : Int) := ⟨v.toNat, by omega⟩
        have e : wordL (3, (j : Int)) = [signOf j] := rfl
        rw [e]
        unfold readW
        rw [opOf_some (s := ⟨[signOf j].toArray⟩) (by omega) (by omega) rfl]
      · simp at h
theorem pieces_text {T : List (Int × Int)} (h : checkB T = true) : piecesB ⟨(textL T).toArray⟩ = T.map fun p => ⟨(wordL p).toArray⟩ := by
  have hl9 : T.length ≤ 9 := by
    have h2 := h
    unfold checkB at h2
    simp at h2
    exact h2.1
  have hne : T ≠ [] := by rintro rfl; exact absurd h (by decide)
  have ht : textL T = Lib.join (T.map wordL) [32] := by unfold textL; rw [h]; rfl
  have hlen : T.length ≤ (textL T).length + 1 := by
    rw [ht]
    cases T with
    | nil => simp
    | cons x r =>
      rw [List.map_cons, Lib.join_length]
      simp
  have hsz : (⟨(textL T).toArray⟩ : ByteArray).size = (textL T).length := by show (textL T).toArray.size = _; simp
  have h1 := Lib.splitB_data ⟨#[32]⟩ 0 (min 10 ((⟨(textL T).toArray⟩ : ByteArray).size + 1) - 1) ⟨(textL T).toArray⟩
  have h2 : Lib.splitK [32] 0 (min 10 ((⟨(textL T).toArray⟩ : ByteArray).size + 1) - 1) (textL T) = T.map wordL := by
    rw [ht]
    refine split_join _ (by simpa using hne) (fun w hw => ?_) _ (by rw [← ht, hsz, List.length_map]; omega)
    obtain ⟨p, hp, rfl⟩ := List.mem_map.1 hw
    obtain ⟨k, hk, rfl⟩ := List.getElem_of_mem hp
    obtain ⟨n, n2, _, h3⟩ := checkB_tok h hk
    have e7 : T.getD k (0, 0) = T[k] := by simp [hk]
    rw [e7] at h3
    exact noblank h3
  have h3 : (piecesB ⟨(textL T).toArray⟩).map (fun b : ByteArray => b.data.toList) = T.map wordL := by
    rw [← h2]
    have h4 := h1
    simpa [piecesB] using h4
  have h5 := congrArg (List.map fun x : List UInt8 => (⟨x.toArray⟩ : ByteArray)) h3
  rw [List.map_map, List.map_map] at h5
  have e6 : ((fun x : List UInt8 => (⟨x.toArray⟩ : ByteArray)) ∘ fun b : ByteArray => b.data.toList) = id := by
    funext b
    simp
  rw [e6, List.map_id] at h5
  exact h5
theorem read_text {T : List (Int × Int)} (h : checkB T = true) : parseB ⟨(textL T).toArray⟩ = some T := by
  have hp := pieces_text h
  have hr : ∀ k, k ≤ T.length → readTo (piecesB ⟨(textL T).toArray⟩) k = some (T.take k) := by
    intro k hk
    induction k with
    | zero => rfl
    | succ k ih =>
      obtain ⟨n, n2, _, h3⟩ := checkB_tok h (k := k) (by omega)
      have e7 : T.getD k (0, 0) = T[k] := by simp [show k < T.length by omega]
      have h4 := readTo_get (p := T.getD k (0, 0)) (ih (by omega)) (by
        rw [hp, List.getD_eq_getElem?_getD, List.getElem?_map, List.getElem?_eq_getElem (by omega : k < T.length)]
        show readW ⟨(wordL T[k]).toArray⟩ = _
        rw [← e7]
        exact read_word h3)
      rw [h4, List.take_succ_eq_append_getElem (by omega : k < T.length), e7]
  unfold parseB
  have hl : (piecesB ⟨(textL T).toArray⟩).length = T.length := by rw [hp]; simp
  rw [hl, hr _ (Nat.le_refl _), List.take_length]
  show (if checkB T = true ∧ _ = _ then some T else none) = _
  rw [if_pos ⟨h, rfl⟩]
theorem parse_some {s : ByteArray} {T : List (Int × Int)} (h : parseB s = some T) : checkB T = true ∧ (⟨(textL T).toArray⟩ : ByteArray) = s := by
  unfold parseB at h
  obtain ⟨T', _, h2⟩ := Option.bind_eq_some_iff.1 h
  split at h2
  · rename_i hh
    simp only [Option.some.injEq] at h2
    subst h2
    exact hh
  · simp at h2
theorem check_pos {T : List (Int × Int)} (h : checkB T = true) : 0 < T.length ∧ T.length ≤ 9 := by
  have hne : T ≠ [] := by rintro rfl; exact absurd h (by decide)
  refine ⟨List.length_pos_iff.2 hne, ?_⟩
  unfold checkB at h
  simp at h
  exact h.1
theorem text_size {T : List (Int × Int)} (h : checkB T = true) : (⟨(textL T).toArray⟩ : ByteArray).size ≤ 1000 := by
  have ht : textL T = Lib.join (T.map wordL) [32] := by unfold textL; rw [h]; rfl
  have h9 := (check_pos h).2
  show (textL T).toArray.size ≤ 1000
  rw [ht]
  have := join_len (T.map wordL) (fun x hx => by
    obtain ⟨p, hp, rfl⟩ := List.mem_map.1 hx
    obtain ⟨k, hk, rfl⟩ := List.getElem_of_mem hp
    obtain ⟨n, n2, _, h3⟩ := checkB_tok h hk
    have e7 : T.getD k (0, 0) = T[k] := by simp [hk]
    rw [e7] at h3
    have h4 := okTok_wide h3
    exact wordL_len h4.2.1 h4.2.2)
  rw [List.length_map] at this
  simp
  omega
/-- one word more -/
theorem chkTo_app {T : List (Int × Int)} (p : Int × Int) (k : Nat) (hk : k ≤ T.length) : chkTo (T ++ [p]) k = chkTo T k := by
  induction k with
  | zero => rfl
  | succ k ih =>
    show (chkTo (T ++ [p]) k).bind _ = (chkTo T k).bind _
    have e : (T ++ [p]).getD k (0, 0) = T.getD k (0, 0) := by
      rw [List.getD_eq_getElem?_getD, List.getD_eq_getElem?_getD, List.getElem?_append_left (by omega)]
    rw [ih (by omega), e]
theorem chk_more {T : List (Int × Int)} {p : Int × Int} {D D2 : Nat} (h : chkTo T T.length = some D) (hp : okTok p D = some D2) : chkTo (T ++ [p]) (T ++ [p]).length = some D2 := by
  have e : (T ++ [p]).length = T.length + 1 := by simp
  rw [e]
  show (chkTo (T ++ [p]) T.length).bind _ = _
  rw [chkTo_app p T.length (Nat.le_refl _), h]
  have e2 : (T ++ [p]).getD T.length (0, 0) = p := by
    rw [List.getD_eq_getElem?_getD, List.getElem?_append_right (Nat.le_refl _)]; simp
  rw [e2]; exact hp
end ExprA
end Go.Proofs.YtcmjmojbocmcgaaDoor
