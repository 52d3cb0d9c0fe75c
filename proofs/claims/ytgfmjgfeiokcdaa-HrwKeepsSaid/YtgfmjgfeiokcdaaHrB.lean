
/- slices.SortFunc at most twelve records, by contract. Conditions: none but bounds. -/
import Derived.Test.YtgfmjgfeiokcdaaHrA
import Derived.Test.YtgfmjgfeiokcdaaHistC
namespace Go.Proofs.Ytgfmjgfeiokcdaa
open Go.RowKit
theorem splice_flat {α : Type} [Inhabited α] {enc : α → List Value} {sz : Nat} (he : ∀ x, (enc x).length = sz) (l : List α) (j : Nat) (hj : j < l.length) (x : α) : splice (flat enc l) (j * sz) (enc x) = flat enc (l.set j x) := by
  have e : l = l.take j ++ l[j] :: l.drop (j + 1) := by rw [← List.drop_eq_getElem_cons hj, List.take_append_drop]
  have hjl : (l.take j).length = j := by rw [List.length_take]; omega
  generalize l.take j = a at *
  generalize l[j] = y at *
  generalize l.drop (j + 1) = b at *
  subst e
  have h1 : flat enc (a ++ y :: b) = flat enc a ++ (enc y ++ flat enc b) := by simp [flat]
  have h2 : (a ++ y :: b).set j x = a ++ x :: b := by
    rw [List.set_append_right _ _ (by omega), hjl, Nat.sub_self, List.set_cons_zero]
  have h3 : flat enc (a ++ x :: b) = flat enc a ++ (enc x ++ flat enc b) := by simp [flat]
  have hl : (flat enc a).length = j * sz := by rw [flat_length he, hjl]
  rw [h1, h2, h3]
  unfold splice
  rw [List.take_left' hl]
  have h4 : (flat enc a ++ (enc y ++ flat enc b)).drop (j * sz + (enc x).length) = flat enc b := by
    have h5 : (flat enc a ++ enc y).length = j * sz + (enc x).length := by rw [List.length_append, hl, he, he]
    rw [show flat enc a ++ (enc y ++ flat enc b) = (flat enc a ++ enc y) ++ flat enc b by simp, List.drop_left' h5]
  rw [h4]
abbrev Sc := Int × Nat
/-- How far one moves to the left. -/
def plc (l : List Sc) (x : Sc) : Nat → Nat
  | 0 => 0
  | k + 1 => if Bf x (l.getD k default) then plc l x k else k + 1
theorem plc_le (l : List Sc) (x : Sc) : ∀ k, plc l x k ≤ k
  | 0 => Nat.le_refl _
  | k + 1 => by
    unfold plc
    split
    · have := plc_le l x k; omega
    · exact Nat.le_refl _
def ins (l : List Sc) (x : Sc) : List Sc := l.take (plc l x l.length) ++ x :: l.drop (plc l x l.length)
def srt (l : List Sc) : List Sc := l.foldl ins []
theorem ins_len (l : List Sc) (x : Sc) : (ins l x).length = l.length + 1 := by
  have := plc_le l x l.length
  unfold ins
  simp only [List.length_append, List.length_take, List.length_cons, List.length_drop]
  omega
theorem srt_snoc (l : List Sc) (x : Sc) : srt (l ++ [x]) = ins (srt l) x := by unfold srt; rw [List.foldl_append]; rfl
theorem srt_len (l : List Sc) : (srt l).length = l.length := by
  suffices ∀ k, k ≤ l.length → (srt (l.take k)).length = k by
    have := this l.length (Nat.le_refl _)
    rwa [List.take_length] at this
  intro k
  induction k with
  | zero => intro _; rfl
  | succ k ih =>
    intro hk
    rw [List.take_succ_eq_append_getElem (by omega), srt_snoc, ins_len, ih (by omega)]
def arrS (P : List Sc) (x : Sc) (j : Nat) (T : List Sc) : List Sc := P.take j ++ x :: (P.drop j ++ T)
theorem arrS_len {P : List Sc} {x : Sc} {j : Nat} {T : List Sc} (h : j ≤ P.length) : (arrS P x j T).length = P.length + 1 + T.length := by
  unfold arrS
  simp only [List.length_append, List.length_take, List.length_cons, List.length_drop]
  omega
theorem arrS_at {P : List Sc} {x : Sc} {j : Nat} {T : List Sc} (h : j ≤ P.length) : (arrS P x j T).getD j default = x := by
  have hl : (P.take j).length = j := by rw [List.length_take]; omega
  unfold arrS
  rw [List.getD_eq_getElem?_getD, List.getElem?_append_right (by omega), hl, Nat.sub_self]; rfl
theorem arrS_prev {P : List Sc} {x : Sc} {j : Nat} {T : List Sc} (h : j + 1 ≤ P.length) : (arrS P x (j + 1) T).getD j default = P.getD j default := by
  have hl : (P.take (j + 1)).length = j + 1 := by rw [List.length_take]; omega
  unfold arrS
  rw [List.getD_eq_getElem?_getD, List.getElem?_append_left (by omega), List.getElem?_take_of_lt (by omega), ← List.getD_eq_getElem?_getD]
theorem arrS_swap {P : List Sc} {x : Sc} {j : Nat} {T : List Sc} (h : j + 1 ≤ P.length) : ((arrS P x (j + 1) T).set (j + 1) (P.getD j default)).set j x = arrS P x j T := by
  have hl : (P.take (j + 1)).length = j + 1 := by rw [List.length_take]; omega
  have hl2 : (P.take j).length = j := by rw [List.length_take]; omega
  have hg : P.getD j default = P[j] := by rw [List.getD_eq_getElem?_getD, List.getElem?_eq_getElem (by omega)]; rfl
  unfold arrS
  rw [List.set_append_right _ _ (by omega), hl, Nat.sub_self, List.set_cons_zero, List.take_succ_eq_append_getElem (by omega), List.append_assoc, List.set_append_right _ _ (Nat.le_of_eq hl2), hl2, Nat.sub_self, hg, List.drop_eq_getElem_cons (l := P) (i := j) (by omega)]
  rfl
theorem arrS_prev' {P : List Sc} {x : Sc} {j : Nat} {T : List Sc} (h0 : 0 < j) (h : j ≤ P.length) : (arrS P x j T).getD (j - 1) default = P.getD (j - 1) default := by
  obtain ⟨q, rfl⟩ : ∃ q, j = q + 1 := ⟨j - 1, by omega⟩
  exact arrS_prev h
theorem arrS_swap' {P : List Sc} {x : Sc} {j : Nat} {T : List Sc} (h0 : 0 < j) (h : j ≤ P.length) : ((arrS P x j T).set j ((arrS P x j T).getD (j - 1) default)).set (j - 1) ((arrS P x j T).getD j default) = arrS P x (j - 1) T := by
  obtain ⟨q, rfl⟩ : ∃ q, j = q + 1 := ⟨j - 1, by omega⟩
  rw [arrS_prev' h0 h, arrS_at h]
  exact arrS_swap h
theorem plc_step {P : List Sc} {x : Sc} {j : Nat} (h0 : 0 < j) (h : Bf x (P.getD (j - 1) default)) : plc P x j = plc P x (j - 1) := by
  obtain ⟨q, rfl⟩ : ∃ q, j = q + 1 := ⟨j - 1, by omega⟩
  exact if_pos h
theorem plc_stop {P : List Sc} {x : Sc} {j : Nat} (h : j = 0 ∨ ¬ Bf x (P.getD (j - 1) default)) : plc P x j = j := by
  cases j with
  | zero => rfl
  | succ q =>
    rcases h with h | h
    · omega
    · show (if _ then _ else _) = _
      exact if_neg h
theorem arrS_top (P : List Sc) (x : Sc) (T : List Sc) : arrS P x P.length T = P ++ x :: T := by unfold arrS; rw [List.take_length, List.drop_length]; rfl
theorem arrS_ins {P : List Sc} {x : Sc} {j : Nat} {T : List Sc} (h : plc P x P.length = j) : arrS P x j T = ins P x ++ T := by
  unfold arrS ins
  rw [h, List.append_assoc]
  rfl
theorem srt_one (S : List Sc) : srt (S.take 1) ++ S.drop 1 = S := by
  cases S with
  | nil => rfl
  | cons x S => rfl
theorem srt_step {S : List Sc} {i : Nat} (h : i < S.length) : ∃ P x T, P.length = i ∧ srt (S.take i) ++ S.drop i = P ++ x :: T ∧ srt (S.take (i + 1)) ++ S.drop (i + 1) = ins P x ++ T ∧ T.length = S.length - (i + 1) :=
  ⟨srt (S.take i), S[i], S.drop (i + 1), by rw [srt_len, List.length_take]; omega, by rw [List.drop_eq_getElem_cons h], by rw [List.take_succ_eq_append_getElem h, srt_snoc], List.length_drop⟩
set_option maxRecDepth 100000 in
set_option maxHeartbeats 4000000 in
theorem isort_c (n : Nat) (A : Option Addr) (c : Nat) (S : List Sc) (F : List Nat) (w0 : World)
    (hS : St F w0 [.row (.slice A n c) 46 2 n (flat sv S)] w0) (hl : S.length = n) (hn : n ≤ 12) :
    Calls Try.prog 31 #[.slice A n c, .int .i64 ((0 : Nat) : Int), .int .i64 (n : Int), .func (.func 14) #[] #[]] w0 fun e w' => e = .returned (.tuple #[]) ∧ St F w0 [.row (.slice A n c) 46 2 n (flat sv (srt S))] w' := by
  refine ent (n := 53) Try.func31 rfl rfl ?_
  refine wp_seq_k ?_; intro K1 hK1
  refine wlit ?_
  refine wl_v (x_move (tmI rfl rfl)) ?_
  first
   | refine wl_v (x_addN (tmI rfl rfl) (ev_cN 1) (fit_i64 (by omega))) ?_
   | refine wl_v (x_addI (tmI rfl rfl) (ev_cN 1) (IntWalk.i64_in _ (by omega))) ?_
   | refine wl_v (x_add (tmI rfl rfl) (ev_cN 1)) ?_
  refine wl_v (x_assign (tmI rfl rfl)) ?_
  refine wl_nil ?_
  refine then_n (hK1 _ _ ?_); clear hK1 K1
  refine wp_block ?_
  refine lp [8, 9, 12, 13, 14, 15, 16, 17, 18, 19, 20, 21, 22, 23, 24, 25, 26, 27, 28, 29, 30, 31, 32, 33, 34, 35, 36, 37, 38, 39, 40, 41, 42, 43, 44, 45, 46, 47, 48, 49, 50, 51, 52] (fun mz g w => ∃ (i : Nat), mz = n + 1 - i ∧ g 8 = .int .i64 (i : Int) ∧ St F w0 [.row (.slice A n c) 46 2 n (flat sv (srt (S.take i) ++ S.drop i))] w ∧ (1 ≤ i ∧ i ≤ n + 1)) ?_ ?_
  · exact ⟨_, 1, rfl, (by first | rfl | go_num | exact congrArg (Value.int _) (by first | omega | (simp; done) | (simp; omega))), (by rw [srt_one]; exact hS), (by omega)⟩
  · clear hS; intro mz g w hI
    obtain ⟨i, rfl, hs8, hS, hi⟩ := hI
    refine fr_know (d := 8) hs8 ?_; clear hs8
    refine wp_seq_k ?_; intro K2 hK2
    refine wp_seq_k ?_; intro K3 hK3
    refine wlit ?_
    refine wl_v (x_move (tmI rfl rfl)) ?_
    refine wl_v (x_move (tmI rfl rfl)) ?_
    refine wl_v (x_lss (tmI rfl rfl) (tmI rfl rfl)) ?_
    refine wl_nil ?_
    refine then_n (hK3 _ _ ?_); clear hK3 K3
    refine cnd (tm rfl) (fun hc0 => ?_) (fun hc0 => ?_)
    · try (exfalso; first | with_reducible exact absurd hc0 Bool.false_ne_true | with_reducible exact absurd hc0.symm Bool.false_ne_true | (simp only [nrm] at hc0; omega) | (simp at hc0; done))
      all_goals
       try simp only [nrm] at hc0
       obtain ⟨ga, rfl⟩ := row_some (hS.rowOk 0 rfl) (by omega)
       obtain ⟨P, x, T, hP, hdP, hx2, hTl⟩ := srt_step (S := S) (i := i) (by omega)
       obtain rfl : i = P.length := hP.symm
       rw [hdP, ← arrS_top] at hS
       clear hdP hP
       refine wp_skip ?_
       refine then_n (hK2 _ _ ?_); clear hK2 K2
       refine wp_seq_k ?_; intro K4 hK4
       refine wp_block ?_
       refine wp_seq_k ?_; intro K5 hK5
       refine wlit ?_
       refine wl_v (x_move (tmI rfl rfl)) ?_
       refine wl_v (x_assign (tmI rfl rfl)) ?_
       refine wl_nil ?_
       refine then_n (hK5 _ _ ?_); clear hK5 K5
       refine wp_block ?_
       refine lp [9, 18, 19, 20, 21, 22, 23, 24, 25, 26, 27, 28, 29, 30, 31, 32, 33, 34, 35, 36, 37, 38, 39, 40, 41, 42, 43, 44, 45, 46, 47, 48, 49, 50, 51, 52] (fun mz g w => ∃ (j : Nat), mz = 2 * j ∧ g 9 = .int .i64 (j : Int) ∧ St F w0 [.row (.slice (some ⟨ga, 0, none⟩) n c) 46 2 n (flat sv (arrS P x j T))] w ∧ (j ≤ P.length) ∧ (plc P x P.length = plc P x j)) ?_ ?_
       · exact ⟨_, P.length, rfl, (by first | rfl | go_num | exact congrArg (Value.int _) (by first | omega | (simp; done) | (simp; omega))), hS, (by omega), (by first | rfl | exact hp2)⟩
       · clear hS; intro mz g w hI
         obtain ⟨j, rfl, hs9, hS, hj, hp⟩ := hI
         refine fr_know (d := 9) hs9 ?_; clear hs9
         refine wp_seq_k ?_; intro K6 hK6
         refine wp_seq_k ?_; intro K7 hK7
         have hal := arrS_len (x := x) (T := T) hj
         have hat := arrS_at (x := x) (T := T) hj
         refine rg_startk 0 hS mixed_ ?_
         clear hS; intro w hS
         refine rg_take 0 rfl rfl (by kernel_rfl) (by kernel_rfl) (by kernel_rfl) (want_0) (fun w hok => x_move (tmI rfl rfl)) ?_
         refine rg_take 1 rfl rfl (by kernel_rfl) (by kernel_rfl) (by kernel_rfl) (want_0) (fun w hok => x_move (tmI rfl rfl)) ?_
         refine rg_take 2 rfl rfl (by kernel_rfl) (by kernel_rfl) (by kernel_rfl) (want_0) (fun w hok => x_gtr (tmI rfl rfl) (tmI rfl rfl)) ?_
         refine rg_take 3 rfl rfl (by kernel_rfl) (by kernel_rfl) (by kernel_rfl) (want_0) (fun w hok => x_move (tmB rfl rfl)) ?_
         refine gs_rg (tm (t := 21) rfl) (fun hg4_3 => ?_) (fun hg4_3 => ?_)
         · have hg4_3' := hg4_3; (try simp only [nrm] at hg4_3'); try (exfalso; first | with_reducible exact absurd hg4_3 Bool.false_ne_true | with_reducible exact absurd hg4_3.symm Bool.false_ne_true | omega | (simp at hg4_3; done))
           all_goals
            have hpv := arrS_prev' (x := x) (T := T) (by omega) hj
            refine rg_take 4 rfl rfl (by kernel_rfl) (by kernel_rfl) (by kernel_rfl) (want_y rfl rfl rfl rfl (by rw [hg4_3]; rfl)) (fun w hok => x_move (tm rfl)) ?_
            refine rg_take 5 rfl rfl (by kernel_rfl) (by kernel_rfl) (by kernel_rfl) (want_y rfl rfl rfl rfl (by rw [hg4_3]; rfl)) (fun w hok => x_move (tmS rfl rfl)) ?_
            refine rg_take 6 rfl rfl (by kernel_rfl) (by kernel_rfl) (by kernel_rfl) (want_y rfl rfl rfl rfl (by rw [hg4_3]; rfl)) (fun w hok => x_move (tmI rfl rfl)) ?_
            refine rg_take 7 rfl rfl (by kernel_rfl) (by kernel_rfl) (by kernel_rfl) (want_y rfl rfl rfl rfl (by rw [hg4_3]; rfl)) (fun w hok => x_ixs Try.underlying44 ts_46 (tmS rfl rfl) (tmI rfl rfl) (by omega)) ?_
            refine rg_take 8 rfl rfl (by kernel_rfl) (by kernel_rfl) (by kernel_rfl) (want_y rfl rfl rfl rfl (by rw [hg4_3]; rfl)) (fun w hok => x_loadA Try.underlying46 rfl (by exact ts_46) (tmP rfl rfl) (rangeRs hok 0 rfl (fun _ => rfl) (by omega))) ?_
            refine rg_take 9 rfl rfl (by kernel_rfl) (by kernel_rfl) (by kernel_rfl) (want_y rfl rfl rfl rfl (by rw [hg4_3]; rfl)) (fun w hok => x_move (tmS rfl rfl)) ?_
            refine rg_take 10 rfl rfl (by kernel_rfl) (by kernel_rfl) (by kernel_rfl) (want_y rfl rfl rfl rfl (by rw [hg4_3]; rfl)) (fun w hok => x_move (tmI rfl rfl)) ?_
            first
             | refine rg_take 11 rfl rfl (by kernel_rfl) (by kernel_rfl) (by kernel_rfl) (want_y rfl rfl rfl rfl (by rw [hg4_3]; rfl)) (fun w hok => x_subN (tmI rfl rfl) (ev_cN 1) (fit_i64 (by omega)) (by omega)) ?_
             | refine rg_take 11 rfl rfl (by kernel_rfl) (by kernel_rfl) (by kernel_rfl) (want_y rfl rfl rfl rfl (by rw [hg4_3]; rfl)) (fun w hok => x_subI (tmI rfl rfl) (ev_cN 1) (IntWalk.i64_in _ (by omega))) ?_
             | refine rg_take 11 rfl rfl (by kernel_rfl) (by kernel_rfl) (by kernel_rfl) (want_y rfl rfl rfl rfl (by rw [hg4_3]; rfl)) (fun w hok => x_sub (tmI rfl rfl) (ev_cN 1)) ?_
            refine rg_take 12 rfl rfl (by kernel_rfl) (by kernel_rfl) (by kernel_rfl) (want_y rfl rfl rfl rfl (by rw [hg4_3]; rfl)) (fun w hok => x_ixs Try.underlying44 ts_46 (tmS rfl rfl) (tmI rfl rfl) (by omega)) ?_
            refine rg_take 13 rfl rfl (by kernel_rfl) (by kernel_rfl) (by kernel_rfl) (want_y rfl rfl rfl rfl (by rw [hg4_3]; rfl)) (fun w hok => x_loadA Try.underlying46 rfl (by exact ts_46) (tmP rfl rfl) (rangeRs hok 0 rfl (fun _ => rfl) (by omega))) ?_
            refine rg_step 14 rfl (by kernel_rfl) (want_y rfl rfl rfl rfl (by rw [hg4_3]; rfl)) (oks_drop hS 0 rfl) ?_; intro K hK
            refine ow_dyn (tm rfl) Try.func14 rfl rfl (evs_cons (tmA rfl rfl) <| evs_cons (tmA rfl rfl) <| evs_nil) (before_c _ _ _) ?_
            rintro e w ⟨z, rfl, hz, hk⟩
            refine ⟨_, rfl, ?_⟩
            rw [hat, hpv] at hz
            replace hS := hS.kept hk
            clear hk
            refine hK _ _ ?_; clear hK K
            refine rg_take 15 rfl rfl (by kernel_rfl) (by kernel_rfl) (by kernel_rfl) (want_y rfl rfl rfl rfl (by rw [hg4_3]; rfl)) (fun w hok => x_lss (tmI rfl rfl) (ev_cN 0)) ?_
            refine rg_take 16 rfl rfl (by kernel_rfl) (by kernel_rfl) (by kernel_rfl) (want_0) (fun w hok => x_pickT (tmB rfl rfl) hg4_3 (tmB rfl rfl)) ?_
            refine rg_done (oks_drop hS 0 rfl) (by kernel_rfl) ?_
            refine then_n (hK7 _ _ ?_); clear hK7 K7
            refine cnd (tm rfl) (fun hc1 => ?_) (fun hc1 => ?_)
            · try (exfalso; first | with_reducible exact absurd hc1 Bool.false_ne_true | with_reducible exact absurd hc1.symm Bool.false_ne_true | (simp only [nrm] at hc1; omega) | (simp at hc1; done))
              all_goals
               try simp only [nrm] at hc1
               have h0 : 0 < j := by first | omega | (simp at hg4_3; omega)
               have hp2 : plc P x P.length = plc P x (j - 1) := by
                 rw [hp]
                 exact plc_step h0 (hz.1 (by first | omega | (simp at hc1; omega)))
               have hsw := arrS_swap' (x := x) (T := T) h0 hj
               refine wp_skip ?_
               refine then_n (hK6 _ _ ?_); clear hK6 K6
               refine wp_seq_k ?_; intro K8 hK8
               refine wp_block ?_
               refine rg_startk 1 hS mixed_ ?_
               clear hS; intro w hS
               refine rg_take 0 rfl rfl (by kernel_rfl) (by kernel_rfl) (by kernel_rfl) (want_0) (fun w hok => x_move (tmS rfl rfl)) ?_
               refine rg_take 1 rfl rfl (by kernel_rfl) (by kernel_rfl) (by kernel_rfl) (want_0) (fun w hok => x_move (tmI rfl rfl)) ?_
               refine rg_take 2 rfl rfl (by kernel_rfl) (by kernel_rfl) (by kernel_rfl) (want_0) (fun w hok => x_move (tmS rfl rfl)) ?_
               refine rg_take 3 rfl rfl (by kernel_rfl) (by kernel_rfl) (by kernel_rfl) (want_0) (fun w hok => x_move (tmI rfl rfl)) ?_
               first
                | refine rg_take 4 rfl rfl (by kernel_rfl) (by kernel_rfl) (by kernel_rfl) (want_0) (fun w hok => x_subN (tmI rfl rfl) (ev_cN 1) (fit_i64 (by omega)) (by omega)) ?_
                | refine rg_take 4 rfl rfl (by kernel_rfl) (by kernel_rfl) (by kernel_rfl) (want_0) (fun w hok => x_subI (tmI rfl rfl) (ev_cN 1) (IntWalk.i64_in _ (by omega))) ?_
                | refine rg_take 4 rfl rfl (by kernel_rfl) (by kernel_rfl) (by kernel_rfl) (want_0) (fun w hok => x_sub (tmI rfl rfl) (ev_cN 1)) ?_
               refine rg_take 5 rfl rfl (by kernel_rfl) (by kernel_rfl) (by kernel_rfl) (want_0) (fun w hok => x_move (tmS rfl rfl)) ?_
               refine rg_take 6 rfl rfl (by kernel_rfl) (by kernel_rfl) (by kernel_rfl) (want_0) (fun w hok => x_move (tmI rfl rfl)) ?_
               first
                | refine rg_take 7 rfl rfl (by kernel_rfl) (by kernel_rfl) (by kernel_rfl) (want_0) (fun w hok => x_subN (tmI rfl rfl) (ev_cN 1) (fit_i64 (by omega)) (by omega)) ?_
                | refine rg_take 7 rfl rfl (by kernel_rfl) (by kernel_rfl) (by kernel_rfl) (want_0) (fun w hok => x_subI (tmI rfl rfl) (ev_cN 1) (IntWalk.i64_in _ (by omega))) ?_
                | refine rg_take 7 rfl rfl (by kernel_rfl) (by kernel_rfl) (by kernel_rfl) (want_0) (fun w hok => x_sub (tmI rfl rfl) (ev_cN 1)) ?_
               refine rg_take 8 rfl rfl (by kernel_rfl) (by kernel_rfl) (by kernel_rfl) (want_0) (fun w hok => x_ixs Try.underlying44 ts_46 (tmS rfl rfl) (tmI rfl rfl) (by omega)) ?_
               refine rg_take 10 rfl rfl (by kernel_rfl) (by kernel_rfl) (by kernel_rfl) (want_0) (fun w hok => x_move (tmS rfl rfl)) ?_
               refine rg_take 11 rfl rfl (by kernel_rfl) (by kernel_rfl) (by kernel_rfl) (want_0) (fun w hok => x_move (tmI rfl rfl)) ?_
               refine rg_take 12 rfl rfl (by kernel_rfl) (by kernel_rfl) (by kernel_rfl) (want_0) (fun w hok => x_ixs Try.underlying44 ts_46 (tmS rfl rfl) (tmI rfl rfl) (by omega)) ?_
               refine rg_step2 9 13 rfl rfl (by kernel_rfl) (want_0) (want_0) (oks_drop hS 1 rfl) ?_ ?_
               · intro K hK
                 first
                  | refine ow_v (x_loadA Try.underlying46 rfl (by exact ts_46) (tmP rfl rfl) (rangeRs hS.ok 0 rfl (fun _ => rfl) (by omega))) ?_
                 refine hK _ _ ?_; clear hK K
                 refine rg_step 13 rfl (by kernel_rfl) (want_0) (oks_drop hS 1 rfl) ?_; intro K hK
                 refine ow_v (x_loadA Try.underlying46 rfl (by exact ts_46) (tmP rfl rfl) (rangeRs hS.ok 0 rfl (fun _ => rfl) (by omega))) ?_
                 refine hK _ _ ?_; clear hK K
                 refine rg_take 14 rfl rfl (by kernel_rfl) (by kernel_rfl) (by kernel_rfl) (want_0) (fun w hok => x_ixs Try.underlying44 ts_46 (tmS rfl rfl) (tmI rfl rfl) (by omega)) ?_
                 refine rg_step 15 rfl (by kernel_rfl) (want_0) (oks_drop hS 1 rfl) ?_; intro K hK
                 refine ow_storeAR (o := j * 2) (cs := sv ((arrS P x j T).getD (j - 1) default)) hS 0 rfl ts_46 (tmP rfl rfl) (tmA rfl rfl) rfl rfl (by rw [flat_length sv_len]; omega) ?_
                 clear hS; intro w hS
                 rw [splice_flat sv_len _ _ (by omega)] at hS
                 refine hK _ _ ?_; clear hK K
                 refine rg_take 16 rfl rfl (by kernel_rfl) (by kernel_rfl) (by kernel_rfl) (want_0) (fun w hok => x_ixs Try.underlying44 ts_46 (tmS rfl rfl) (tmI rfl rfl) (by omega)) ?_
                 refine rg_step 17 rfl (by kernel_rfl) (want_0) (oks_drop hS 1 rfl) ?_; intro K hK
                 refine ow_storeAR (o := (j - 1) * 2) (cs := sv ((arrS P x j T).getD j default)) hS 0 rfl ts_46 (tmP rfl rfl) (tmA rfl rfl) rfl rfl (by rw [flat_length sv_len, List.length_set]; omega) ?_
                 clear hS; intro w hS
                 rw [splice_flat sv_len _ _ (by rw [List.length_set]; omega)] at hS
                 refine hK _ _ ?_; clear hK K
                 refine rg_done (oks_drop hS 1 rfl) (by kernel_rfl) ?_
                 refine inb_n ?_
                 refine then_n (hK8 _ _ ?_); clear hK8 K8
                 refine wlit ?_
                 refine wl_v (x_move (tmI rfl rfl)) ?_
                 first
                  | refine wl_v (x_subN (tmI rfl rfl) (ev_cN 1) (fit_i64 (by omega)) (by omega)) ?_
                  | refine wl_v (x_subI (tmI rfl rfl) (ev_cN 1) (IntWalk.i64_in _ (by omega))) ?_
                  | refine wl_v (x_sub (tmI rfl rfl) (ev_cN 1)) ?_
                 refine wl_v (x_assign (tmI rfl rfl)) ?_
                 refine wl_nil ?_
                 exact then_n ⟨_, _, rfl, (by show _ < _; omega), (by repeat (first | exact agree_self | exact agree_refl | refine agree_upd rfl ?_ | refine agree_mix rfl ?_)), j - 1, rfl, (by first | rfl | go_num | exact congrArg (Value.int _) (by first | omega | (simp; done) | (simp; omega))), (by rw [← hsw]; exact hS), (by omega), (by first | rfl | exact hp2)⟩
               · intro K hK
                 first
                  | refine ow_v (x_loadA Try.underlying46 rfl (by exact ts_46) (tmP rfl rfl) (rangeRs hS.ok 0 rfl (fun _ => rfl) (by omega))) ?_
                 refine hK _ _ ?_; clear hK K
                 refine rg_step 9 rfl (by kernel_rfl) (want_0) (oks_drop hS 1 rfl) ?_; intro K hK
                 refine ow_v (x_loadA Try.underlying46 rfl (by exact ts_46) (tmP rfl rfl) (rangeRs hS.ok 0 rfl (fun _ => rfl) (by omega))) ?_
                 refine hK _ _ ?_; clear hK K
                 refine rg_take 14 rfl rfl (by kernel_rfl) (by kernel_rfl) (by kernel_rfl) (want_0) (fun w hok => x_ixs Try.underlying44 ts_46 (tmS rfl rfl) (tmI rfl rfl) (by omega)) ?_
                 refine rg_step 15 rfl (by kernel_rfl) (want_0) (oks_drop hS 1 rfl) ?_; intro K hK
                 refine ow_storeAR (o := j * 2) (cs := sv ((arrS P x j T).getD (j - 1) default)) hS 0 rfl ts_46 (tmP rfl rfl) (tmA rfl rfl) rfl rfl (by rw [flat_length sv_len]; omega) ?_
                 clear hS; intro w hS
                 rw [splice_flat sv_len _ _ (by omega)] at hS
                 refine hK _ _ ?_; clear hK K
                 refine rg_take 16 rfl rfl (by kernel_rfl) (by kernel_rfl) (by kernel_rfl) (want_0) (fun w hok => x_ixs Try.underlying44 ts_46 (tmS rfl rfl) (tmI rfl rfl) (by omega)) ?_
                 refine rg_step 17 rfl (by kernel_rfl) (want_0) (oks_drop hS 1 rfl) ?_; intro K hK
                 refine ow_storeAR (o := (j - 1) * 2) (cs := sv ((arrS P x j T).getD j default)) hS 0 rfl ts_46 (tmP rfl rfl) (tmA rfl rfl) rfl rfl (by rw [flat_length sv_len, List.length_set]; omega) ?_
                 clear hS; intro w hS
                 rw [splice_flat sv_len _ _ (by rw [List.length_set]; omega)] at hS
                 refine hK _ _ ?_; clear hK K
                 refine rg_done (oks_drop hS 1 rfl) (by kernel_rfl) ?_
                 refine inb_n ?_
                 refine then_n (hK8 _ _ ?_); clear hK8 K8
                 refine wlit ?_
                 refine wl_v (x_move (tmI rfl rfl)) ?_
                 first
                  | refine wl_v (x_subN (tmI rfl rfl) (ev_cN 1) (fit_i64 (by omega)) (by omega)) ?_
                  | refine wl_v (x_subI (tmI rfl rfl) (ev_cN 1) (IntWalk.i64_in _ (by omega))) ?_
                  | refine wl_v (x_sub (tmI rfl rfl) (ev_cN 1)) ?_
                 refine wl_v (x_assign (tmI rfl rfl)) ?_
                 refine wl_nil ?_
                 exact then_n ⟨_, _, rfl, (by show _ < _; omega), (by repeat (first | exact agree_self | exact agree_refl | refine agree_upd rfl ?_ | refine agree_mix rfl ?_)), j - 1, rfl, (by first | rfl | go_num | exact congrArg (Value.int _) (by first | omega | (simp; done) | (simp; omega))), (by rw [← hsw]; exact hS), (by omega), (by first | rfl | exact hp2)⟩
            try (exfalso; first | with_reducible exact absurd hc1 Bool.false_ne_true | with_reducible exact absurd hc1.symm Bool.false_ne_true | (simp only [nrm] at hc1; omega) | (simp at hc1; done))
            all_goals
             try simp only [nrm] at hc1
             refine wp_exit ?_
             refine then_x ?_; clear hK6 K6
             refine then_x ?_
             refine inb_x ?_
             refine inb_n ?_
             refine then_n (hK4 _ _ ?_); clear hK4 K4
             have hst : plc P x j = j := by
               first
                 | exact plc_stop (.inr fun h => by have := hz.2 h; first | omega | (simp at hc1; omega))
                 | exact plc_stop (.inl (by first | omega | (simp at hg4_3; omega)))
             rw [arrS_ins (hp.trans hst)] at hS
             refine wlit ?_
             refine wl_v (x_move (tmI rfl rfl)) ?_
             first
              | refine wl_v (x_addN (tmI rfl rfl) (ev_cN 1) (fit_i64 (by omega))) ?_
              | refine wl_v (x_addI (tmI rfl rfl) (ev_cN 1) (IntWalk.i64_in _ (by omega))) ?_
              | refine wl_v (x_add (tmI rfl rfl) (ev_cN 1)) ?_
             refine wl_v (x_assign (tmI rfl rfl)) ?_
             refine wl_nil ?_
             exact then_n ⟨_, _, rfl, (by show _ < _; omega), (by repeat (first | exact agree_self | exact agree_refl | refine agree_upd rfl ?_ | refine agree_mix rfl ?_)), P.length + 1, rfl, (by first | rfl | go_num | exact congrArg (Value.int _) (by first | omega | (simp; done) | (simp; omega))), (by rw [hx2]; exact hS), (by omega)⟩
         have hg4_3' := hg4_3; (try simp only [nrm] at hg4_3'); try (exfalso; first | with_reducible exact absurd hg4_3 Bool.false_ne_true | with_reducible exact absurd hg4_3.symm Bool.false_ne_true | omega | (simp at hg4_3; done))
         all_goals
          refine rg_skip 4 rfl rfl (by kernel_rfl) (by kernel_rfl) (by kernel_rfl) (want_n rfl rfl rfl rfl (by rw [hg4_3]; rfl)) ?_
          refine rg_skip 5 rfl rfl (by kernel_rfl) (by kernel_rfl) (by kernel_rfl) (want_n rfl rfl rfl rfl (by rw [hg4_3]; rfl)) ?_
          refine rg_skip 6 rfl rfl (by kernel_rfl) (by kernel_rfl) (by kernel_rfl) (want_n rfl rfl rfl rfl (by rw [hg4_3]; rfl)) ?_
          refine rg_skip 7 rfl rfl (by kernel_rfl) (by kernel_rfl) (by kernel_rfl) (want_n rfl rfl rfl rfl (by rw [hg4_3]; rfl)) ?_
          refine rg_skip 8 rfl rfl (by kernel_rfl) (by kernel_rfl) (by kernel_rfl) (want_n rfl rfl rfl rfl (by rw [hg4_3]; rfl)) ?_
          refine rg_skip 9 rfl rfl (by kernel_rfl) (by kernel_rfl) (by kernel_rfl) (want_n rfl rfl rfl rfl (by rw [hg4_3]; rfl)) ?_
          refine rg_skip 10 rfl rfl (by kernel_rfl) (by kernel_rfl) (by kernel_rfl) (want_n rfl rfl rfl rfl (by rw [hg4_3]; rfl)) ?_
          refine rg_skip 11 rfl rfl (by kernel_rfl) (by kernel_rfl) (by kernel_rfl) (want_n rfl rfl rfl rfl (by rw [hg4_3]; rfl)) ?_
          refine rg_skip 12 rfl rfl (by kernel_rfl) (by kernel_rfl) (by kernel_rfl) (want_n rfl rfl rfl rfl (by rw [hg4_3]; rfl)) ?_
          refine rg_skip 13 rfl rfl (by kernel_rfl) (by kernel_rfl) (by kernel_rfl) (want_n rfl rfl rfl rfl (by rw [hg4_3]; rfl)) ?_
          refine rg_skip 14 rfl rfl (by kernel_rfl) (by kernel_rfl) (by kernel_rfl) (want_n rfl rfl rfl rfl (by rw [hg4_3]; rfl)) ?_
          refine rg_skip 15 rfl rfl (by kernel_rfl) (by kernel_rfl) (by kernel_rfl) (want_n rfl rfl rfl rfl (by rw [hg4_3]; rfl)) ?_
          refine rg_take 16 rfl rfl (by kernel_rfl) (by kernel_rfl) (by kernel_rfl) (want_0) (fun w hok => x_pickF (tmB rfl rfl) hg4_3 ev_c) ?_
          refine rg_done (oks_drop hS 0 rfl) (by kernel_rfl) ?_
          refine then_n (hK7 _ _ ?_); clear hK7 K7
          refine cnd_f (tmB rfl rfl) rfl ?_
          refine wp_exit ?_
          refine then_x ?_; clear hK6 K6
          refine then_x ?_
          refine inb_x ?_
          refine inb_n ?_
          refine then_n (hK4 _ _ ?_); clear hK4 K4
          have hst : plc P x j = j := by
            first
              | exact plc_stop (.inr fun h => by have := hz.2 h; first | omega | (simp at hc1; omega))
              | exact plc_stop (.inl (by first | omega | (simp at hg4_3; omega)))
          rw [arrS_ins (hp.trans hst)] at hS
          refine wlit ?_
          refine wl_v (x_move (tmI rfl rfl)) ?_
          first
           | refine wl_v (x_addN (tmI rfl rfl) (ev_cN 1) (fit_i64 (by omega))) ?_
           | refine wl_v (x_addI (tmI rfl rfl) (ev_cN 1) (IntWalk.i64_in _ (by omega))) ?_
           | refine wl_v (x_add (tmI rfl rfl) (ev_cN 1)) ?_
          refine wl_v (x_assign (tmI rfl rfl)) ?_
          refine wl_nil ?_
          exact then_n ⟨_, _, rfl, (by show _ < _; omega), (by repeat (first | exact agree_self | exact agree_refl | refine agree_upd rfl ?_ | refine agree_mix rfl ?_)), P.length + 1, rfl, (by first | rfl | go_num | exact congrArg (Value.int _) (by first | omega | (simp; done) | (simp; omega))), (by rw [hx2]; exact hS), (by omega)⟩
    try (exfalso; first | with_reducible exact absurd hc0 Bool.false_ne_true | with_reducible exact absurd hc0.symm Bool.false_ne_true | (simp only [nrm] at hc0; omega) | (simp at hc0; done))
    all_goals
     try simp only [nrm] at hc0
     refine wp_exit ?_
     refine then_x ?_; clear hK2 K2
     refine then_x ?_
     refine inb_x ?_
     refine end_n ?_
     refine ret0 rfl ?_
     rw [List.take_of_length_le (by omega), List.drop_of_length_le (by omega), List.append_nil] at hS
     exact ⟨rfl, hS⟩
set_option maxRecDepth 100000 in
set_option maxHeartbeats 4000000 in
theorem pdq_c (n lim : Nat) (A : Option Addr) (c : Nat) (S : List Sc) (F : List Nat) (w0 : World)
    (hS : St F w0 [.row (.slice A n c) 46 2 n (flat sv S)] w0) (hl : S.length = n) (hn : n ≤ 12) :
    Calls Try.prog 20 #[.slice A n c, .int .i64 ((0 : Nat) : Int), .int .i64 (n : Int), .int .i64 (lim : Int), .func (.func 14) #[] #[]] w0 fun e w' => e = .returned (.tuple #[]) ∧ St F w0 [.row (.slice A n c) 46 2 n (flat sv (srt S))] w' := by
  refine ent (n := 148) Try.func20 rfl rfl ?_
  refine wp_seq_k ?_; intro K1 hK1
  refine wlit ?_
  refine wl_v (x_assign ev_c) ?_
  refine wl_nil ?_
  refine then_n (hK1 _ _ ?_); clear hK1 K1
  refine wp_seq_k ?_; intro K2 hK2
  refine wlit ?_
  refine wl_v (x_assign ev_c) ?_
  refine wl_nil ?_
  refine then_n (hK2 _ _ ?_); clear hK2 K2
  refine wp_block ?_
  refine lp [1, 2, 3, 10, 11, 12, 13, 14, 15, 16, 17, 18, 19, 20, 21, 22, 23, 24, 25, 26, 27, 28, 29, 30, 31, 32, 33, 34, 35, 36, 37, 38, 39, 40, 41, 42, 43, 44, 45, 46, 47, 48, 49, 50, 51, 52, 53, 54, 55, 56, 57, 58, 59, 60, 61, 62, 63, 64, 65, 66, 67, 68, 69, 70, 71, 72, 73, 74, 75, 76, 77, 78, 79, 80, 81, 82, 83, 84, 85, 86, 87, 88, 89, 90, 91, 92, 93, 94, 95, 96, 97, 98, 99, 100, 101, 102, 103, 104, 105, 106, 107, 108, 109, 110, 111, 112, 113, 114, 115, 116, 117, 118, 119, 120, 121, 122, 123, 124, 125, 126, 127, 128, 129, 130, 131, 132, 133, 134, 135, 136, 137, 138, 139, 140, 141, 142, 143, 144, 145, 146, 147] (fun mz g w => ∃ (z : Nat), mz = 2 * z ∧ g 1 = .int .i64 ((0 : Nat) : Int) ∧ g 2 = .int .i64 (n : Int) ∧ St F w0 [.row (.slice A n c) 46 2 n (flat sv S)] w) ?_ ?_
  · exact ⟨_, 0, rfl, (by first | rfl | go_num | exact congrArg (Value.int _) (by first | omega | (simp; done) | (simp; omega))), (by first | rfl | go_num | exact congrArg (Value.int _) (by first | omega | (simp; done) | (simp; omega))), hS⟩
  · clear hS; intro mz g w hI
    obtain ⟨z, rfl, hs1, hs2, hS⟩ := hI
    refine fr_know (d := 1) hs1 ?_; clear hs1
    refine fr_know (d := 2) hs2 ?_; clear hs2
    refine wp_block ?_
    refine wp_seq_k ?_; intro K3 hK3
    refine wlit ?_
    refine wl_v (x_move (tmI rfl rfl)) ?_
    refine wl_v (x_move (tmI rfl rfl)) ?_
    first
     | refine wl_v (x_subN (tmI rfl rfl) (tmI rfl rfl) (fit_i64 (by omega)) (by omega)) ?_
     | refine wl_v (x_subI (tmI rfl rfl) (tmI rfl rfl) (IntWalk.i64_in _ (by omega))) ?_
     | refine wl_v (x_sub (tmI rfl rfl) (tmI rfl rfl)) ?_
    refine wl_v (x_assign (tmI rfl rfl)) ?_
    refine wl_nil ?_
    refine then_n (hK3 _ _ ?_); clear hK3 K3
    refine wp_seq_k ?_; intro K4 hK4
    refine wp_seq_k ?_; intro K5 hK5
    refine wlit ?_
    refine wl_v (x_move (tmI rfl rfl)) ?_
    refine wl_v (x_leq (tmI rfl rfl) (ev_cN 12)) ?_
    refine wl_nil ?_
    refine then_n (hK5 _ _ ?_); clear hK5 K5
    refine cnds (tm rfl) (fun hc0 => ?_) (fun hc0 => ?_)
    · exfalso
      simp at hc0
      omega
    try (exfalso; first | with_reducible exact absurd hc0 Bool.false_ne_true | with_reducible exact absurd hc0.symm Bool.false_ne_true | (simp only [nrm] at hc0; omega) | (simp at hc0; done))
    all_goals
     try simp only [nrm] at hc0
     refine wp_seq_k ?_; intro K6 hK6
     refine wlit ?_
     refine wl_v (x_move (tmS rfl rfl)) ?_
     refine wl_v (x_move (tmI rfl rfl)) ?_
     refine wl_v (x_move (tmI rfl rfl)) ?_
     refine wl_v (x_move (tm rfl)) ?_
     refine wl_e rfl ?_; intro K hK
     refine ow_call Try.func31 rfl rfl (evs_cons (tmS rfl rfl) <| evs_cons (tmI rfl rfl) <| evs_cons (tmI rfl rfl) <| evs_cons (tm rfl) <| evs_nil) (isort_c n A c S _ _ (hS.enter [0] [] rfl rfl) hl hn) ?_
     rintro e w ⟨rfl, hS2⟩
     refine ⟨_, rfl, ?_⟩
     replace hS := hS.leave [0] [] rfl rfl rfl hS2 rfl
     clear hS2
     try replace hS := St.nm (M' := [.row _ _ _ _ _]) hS rfl
     refine hK _ _ ?_; clear hK K
     refine wl_nil ?_
     refine then_n (hK6 _ _ ?_); clear hK6 K6
     refine wp_ret ?_
     refine then_r ?_
     refine inb_r ?_
     refine then_r ?_
     refine inb_r ?_
     refine ret0 rfl ?_
     exact ⟨rfl, hS⟩
set_option maxRecDepth 100000 in
set_option maxHeartbeats 4000000 in
theorem blen_c (x : Nat) (w0 : World) (hx : x < 18446744073709551616) :
    Calls Try.prog 21 #[.int .u64 (x : Int)] w0 fun e w' => e = .returned (.int .i64 ((bl x : Nat) : Int)) ∧ Kp [] w0 w' := by
  have hS := St.sv w0
  refine ent (n := 8) Try.func21 rfl rfl ?_
  refine wp_seq_k ?_; intro K1 hK1
  refine wlit ?_
  refine wl_v (x_assign (ev_cN 0)) ?_
  refine wl_nil ?_
  refine then_n (hK1 _ _ ?_); clear hK1 K1
  refine wp_seq_k ?_; intro K2 hK2
  refine cnd rfl (fun hc0 => ?_) (fun hc0 => ?_)
  · exfalso
    simp at hc0
  try (exfalso; first | with_reducible exact absurd hc0 Bool.false_ne_true | with_reducible exact absurd hc0.symm Bool.false_ne_true | (simp only [nrm] at hc0; omega) | (simp at hc0; done))
  all_goals
   try simp only [nrm] at hc0
   refine wp_skip ?_
   refine then_n (hK2 _ _ ?_); clear hK2 K2
   refine wp_seq_k ?_; intro K3 hK3
   refine wlit ?_
   refine wl_v (x_move (tmI rfl rfl)) ?_
   refine wl_e rfl ?_; intro K hK
   refine ow_call Try.func40 rfl rfl (evs_cons (tmI rfl rfl) <| evs_nil) (HistC.len64_c x _ hx) ?_
   rintro e w ⟨rfl, hk⟩
   refine ⟨_, rfl, ?_⟩
   replace hS := hS.kept hk
   clear hk
   refine hK _ _ ?_; clear hK K
   refine wl_v (x_assign (tmI rfl rfl)) ?_
   refine wl_nil ?_
   refine then_n (hK3 _ _ ?_); clear hK3 K3
   refine wp_ret ?_
   refine ret1 rfl (.tmp rfl (show _ = Value.int _ _ from rfl)) ?_
   exact ⟨rfl, hS.kp⟩
set_option maxRecDepth 100000 in
set_option maxHeartbeats 4000000 in
theorem sortf_c (n : Nat) (A : Option Addr) (c : Nat) (S : List Sc) (F : List Nat) (w0 : World)
    (hS : St F w0 [.row (.slice A n c) 46 2 n (flat sv S)] w0) (hl : S.length = n) (hn : n ≤ 12) :
    Calls Try.prog 13 #[.slice A n c, .func (.func 14) #[] #[]] w0 fun e w' => e = .returned (.tuple #[]) ∧ St F w0 [.row (.slice A n c) 46 2 n (flat sv (srt S))] w' := by
  refine ent (n := 14) Try.func13 rfl rfl ?_
  refine wp_seq_k ?_; intro K1 hK1
  refine wlit ?_
  refine wl_v (x_move (tmS rfl rfl)) ?_
  refine wl_v (x_len Try.underlying44 (tmS rfl rfl)) ?_
  refine wl_v (x_assign (tmI rfl rfl)) ?_
  refine wl_nil ?_
  refine then_n (hK1 _ _ ?_); clear hK1 K1
  refine wlit ?_
  refine wl_v (x_move (tmS rfl rfl)) ?_
  refine wl_v (x_move (tmI rfl rfl)) ?_
  refine wl_v (x_move (tmI rfl rfl)) ?_
  first
   | refine wl_v (x_convN Try.underlying3 Try.underlying42 (tmI rfl rfl) (fit_u64 (by omega))) ?_
   | refine wl_v (x_convU Try.underlying3 Try.underlying42 (tmI rfl rfl) rfl) ?_
   | refine wl_v (x_conv Try.underlying3 Try.underlying42 (tmI rfl rfl)) ?_
  refine wl_e rfl ?_; intro K hK
  refine ow_call Try.func21 rfl rfl (evs_cons (tmI rfl rfl) <| evs_nil) (blen_c n _ (by omega)) ?_
  rintro e w ⟨rfl, hk⟩
  refine ⟨_, rfl, ?_⟩
  replace hS := hS.kept hk
  clear hk
  refine hK _ _ ?_; clear hK K
  refine wl_v (x_move (tm rfl)) ?_
  refine wl_e rfl ?_; intro K hK
  refine ow_call Try.func20 rfl rfl (evs_cons (tmS rfl rfl) <| evs_cons (ev_cN 0) <| evs_cons (tmI rfl rfl) <| evs_cons (tmI rfl rfl) <| evs_cons (tm rfl) <| evs_nil) (pdq_c n _ A c S _ _ (hS.enter [0] [] rfl rfl) hl hn) ?_
  rintro e w ⟨rfl, hS2⟩
  refine ⟨_, rfl, ?_⟩
  replace hS := hS.leave [0] [] rfl rfl rfl hS2 rfl
  clear hS2
  try replace hS := St.nm (M' := [.row _ _ _ _ _]) hS rfl
  refine hK _ _ ?_; clear hK K
  refine wl_nil ?_
  refine end_n ?_
  refine ret0 rfl ?_
  exact ⟨rfl, hS⟩
end Go.Proofs.Ytgfmjgfeiokcdaa
