
/- follow: what Bytes writes is read as it was. Any program. -/
import Derived.Test.YtmokaeflnlajgaaFwF
namespace Go.Proofs.Ytmokaeflnlajgaa
open Go.ChangeShapes Go.WideShapes Go.ChangeAt Go.RowKit
theorem fsplit (rows : List Row3) (i : Nat) (h : i < rows.length) : fbody rows = fbody (rows.take i) ++ (be (rows.getD i default).2.1.length 2 ++ ((rows.getD i default).2.1 ++ fbody (rows.drop (i + 1)))) := by
  have h1 : fbody rows = fbody (rows.take (i + 1)) ++ fbody (rows.drop (i + 1)) := by
    unfold fbody
    rw [← List.flatten_append, ← List.map_append, List.take_append_drop]
  rw [h1, fbody_snoc _ _ h]
  unfold fone
  simp only [List.append_assoc]
section
variable {kn num : Nat} {rows : List Row3} {l : List Nat} {N : Nat}
theorem adv_at {n p k : Nat} (h : p + k ≤ n) : adv n k (some p) = some (p + k) := if_pos h
theorem rdN_at {n p k : Nat} (h : p + k ≤ n) : rdN l n k (some p) = getN l p k := if_pos h
theorem rdB_at {n p k : Nat} (h : p + k ≤ n) : rdB l n k (some p) = (l.drop p).take k := if_pos h
theorem back_q (hl : l = fenc kn num rows rows.length) (hN : l.length = N) (hf : frP (kn : Int) rows) (i : Nat) (hi : i ≤ rows.length) : fq l N (some 10) i = some (10 + (fbody (rows.take i)).length) := by
  have hl' : l = fhd kn num rows.length ++ fbody rows := by rw [hl]; unfold fenc; rw [List.take_length]
  have hNl : N = 10 + (fbody rows).length := by rw [← hN, hl', List.length_append, fhd_len]
  induction i with
  | zero => rfl
  | succ i ih =>
    have hx := hf.1 _ (frow_mem (rows := rows) (k := i) (by omega))
    have hs := fsplit rows i (by omega)
    have hle : (fbody rows).length = (fbody (rows.take i)).length + (2 + ((rows.getD i default).2.1.length + (fbody (rows.drop (i + 1))).length)) := by
      rw [hs]; simp only [List.length_append, be_length]
    have hg : getN l (10 + (fbody (rows.take i)).length) 2 = (rows.getD i default).2.1.length := by
      rw [getN_at (l := l) (P := fhd kn num rows.length ++ fbody (rows.take i)) (Q := (rows.getD i default).2.1 ++ fbody (rows.drop (i + 1))) (v := (rows.getD i default).2.1.length) (by rw [hl', hs, List.append_assoc]) (by rw [List.length_append, fhd_len])]
      exact Nat.mod_eq_of_lt (by omega)
    show adv N (rdN l N 2 (fq l N (some 10) i)) (adv N 2 (fq l N (some 10) i)) = _
    rw [ih (by omega), rdN_at (by omega), hg, adv_at (by omega), adv_at (by omega), fbody_snoc _ _ (by omega), List.length_append, fone_len]
    exact congrArg some (by omega)
theorem back_x (hl : l = fenc kn num rows rows.length) (hN : l.length = N) (hf : frP (kn : Int) rows) (i : Nat) (hi : i < rows.length) : fx l N (some 10) i = (rows.getD i default).2.1 := by
  have hl' : l = fhd kn num rows.length ++ fbody rows := by rw [hl]; unfold fenc; rw [List.take_length]
  have hNl : N = 10 + (fbody rows).length := by rw [← hN, hl', List.length_append, fhd_len]
  have hx := hf.1 _ (frow_mem (rows := rows) (k := i) (by omega))
  have hs := fsplit rows i (by omega)
  have hle : (fbody rows).length = (fbody (rows.take i)).length + (2 + ((rows.getD i default).2.1.length + (fbody (rows.drop (i + 1))).length)) := by
    rw [hs]; simp only [List.length_append, be_length]
  have hg : getN l (10 + (fbody (rows.take i)).length) 2 = (rows.getD i default).2.1.length := by
    rw [getN_at (l := l) (P := fhd kn num rows.length ++ fbody (rows.take i)) (Q := (rows.getD i default).2.1 ++ fbody (rows.drop (i + 1))) (v := (rows.getD i default).2.1.length) (by rw [hl', hs, List.append_assoc]) (by rw [List.length_append, fhd_len])]
    exact Nat.mod_eq_of_lt (by omega)
  unfold fx
  rw [back_q hl hN hf i (by omega), rdN_at (by omega), hg, adv_at (by omega), rdB_at (by omega)]
  exact part_at (P := fhd kn num rows.length ++ (fbody (rows.take i) ++ be (rows.getD i default).2.1.length 2)) (Q := fbody (rows.drop (i + 1))) (by rw [hl', hs]; simp only [List.append_assoc]) (by simp only [List.length_append, fhd_len, be_length]; omega) rfl
theorem back_all (hl : l = fenc kn num rows rows.length) (hN : l.length = N) (hf : frP (kn : Int) rows) (hnum : num ≤ 18446744073709551615) :
    fOk l N ∧ fkind l N = kn ∧ fnum l N = num ∧ fparts l N (q10 N) (fcnt l N) = rows.map (·.2.1) := by
  have hl' : l = fhd kn num rows.length ++ fbody rows := by rw [hl]; unfold fenc; rw [List.take_length]
  have hNl : N = 10 + (fbody rows).length := by rw [← hN, hl', List.length_append, fhd_len]
  obtain ⟨e1, e9, e10⟩ := q10_some (n := N) (by omega)
  have hc := hf.2
  rw [cntP_iff] at hc
  have h1 : fkind l N = kn := by
    unfold fkind
    rw [rdN_at (by omega), getN_at (l := l) (k := 0) (s := 1) (P := []) (Q := be num 8 ++ (be rows.length 1 ++ fbody rows)) (v := kn) (by rw [hl']; unfold fhd; simp only [List.append_assoc, List.nil_append]) rfl]
    exact Nat.mod_eq_of_lt (by omega)
  have h2 : fnum l N = num := by
    unfold fnum
    rw [e1, rdN_at (by omega), getN_at (l := l) (k := 1) (s := 8) (P := be kn 1) (Q := be rows.length 1 ++ fbody rows) (v := num) (by rw [hl']; unfold fhd; simp only [List.append_assoc]) (be_length _ _)]
    exact Nat.mod_eq_of_lt (by omega)
  have h3 : fcnt l N = rows.length := by
    unfold fcnt
    rw [e9, rdN_at (by omega), getN_at (l := l) (k := 9) (s := 1) (P := be kn 1 ++ be num 8) (Q := fbody rows) (v := rows.length) (by rw [hl']; unfold fhd; simp only [List.append_assoc]) (by simp [be_length])]
    exact Nat.mod_eq_of_lt (by omega)
  have h4 : fparts l N (q10 N) (fcnt l N) = rows.map (·.2.1) := by
    rw [h3, e10]
    have hr : rows.map (·.2.1) = (List.range rows.length).map (fun i => (rows.getD i default).2.1) := by
      apply List.ext_getElem?
      intro i
      rw [List.getElem?_map, List.getElem?_map]
      by_cases h : i < rows.length
      · rw [List.getElem?_range h, List.getElem?_eq_getElem h]
        simp [List.getD_eq_getElem?_getD, List.getElem?_eq_getElem h]
      · rw [List.getElem?_eq_none (by omega), List.getElem?_eq_none (by rw [List.length_range]; omega)]
        rfl
    rw [hr]
    unfold fparts
    exact List.map_congr_left fun i hi => back_x hl hN hf i (List.mem_range.1 hi)
  refine ⟨⟨?_, ?_⟩, h1, h2, h4⟩
  · rw [h1, h4]
    exact (frP_lens _ _).1 hf
  · unfold fend
    rw [e10, h3, back_q hl hN hf rows.length (Nat.le_refl _), List.take_length, ← hNl]
end
theorem fenc_bytes (kn num : Nat) (rows : List Row3) (k : Nat) (hby : ∀ r ∈ rows, Bytes r.2.1) : Bytes (fenc kn num rows k) := by
  unfold fenc fhd
  refine (((be_bytes _ _).append (be_bytes _ _)).append (be_bytes _ _)).append ?_
  intro x hx
  unfold fbody at hx
  obtain ⟨y, hy, hxy⟩ := List.mem_flatten.1 hx
  obtain ⟨r, hr, rfl⟩ := List.mem_map.1 hy
  unfold fone at hxy
  rcases List.mem_append.1 hxy with h | h
  · exact be_bytes _ _ x h
  · exact hby r (List.mem_of_mem_take hr) x h
end Go.Proofs.Ytmokaeflnlajgaa
