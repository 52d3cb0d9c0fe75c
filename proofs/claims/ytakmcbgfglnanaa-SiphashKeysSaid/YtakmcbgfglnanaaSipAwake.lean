
/- The chapter's example of siphash, and a key as an argument. Conditions: none. -/
import Derived.Test.YtakmcbgfglnanaaSipRefMain
import Derived.Test.YtakmcbgfglnanaaKit
namespace Go.Proofs.Ytakmcbgfglnanaa
open Go.RowKit

def exK (k : Nat) : List Nat := List.range k ++ List.replicate (16 - k) 0
theorem exK_set : ∀ k, k < 16 → (exK k).set k k = exK (k + 1) := by decide
theorem exK_at : ∀ k, k < 16 → (exK k)[k]? = some 0 := by decide
theorem range_snoc (k : Nat) : List.range k ++ [k] = List.range (k + 1) := (List.range_succ).symm
theorem ex_sum : sipV (List.range 16) (List.range 15) = 11613035633349379557 := by decide +kernel

set_option maxRecDepth 100000 in
set_option maxHeartbeats 1000000 in
theorem sip_awake_c (w : World) : Calls Try.prog 57 #[] w fun e w' => e = .returned (.bool true) ∧ Below w.heap.size w w' := by
  have hK0 := hid_arr (Arr.new w 109 ((exK 0).map u8v))
  have hb0 := (Below.refl w.heap.size w).alloc (Nat.le_refl _) (.cells ((exK 0).map u8v).toArray 109)
  have hsz : w.heap.size < (w.alloc (.cells ((exK 0).map u8v).toArray 109)).heap.size := by simp
  rw [show ((exK 0).map u8v).toArray = #[.int .u8 0, .int .u8 0, .int .u8 0, .int .u8 0, .int .u8 0, .int .u8 0, .int .u8 0, .int .u8 0, .int .u8 0, .int .u8 0, .int .u8 0, .int .u8 0, .int .u8 0, .int .u8 0, .int .u8 0, .int .u8 0] from rfl] at hK0 hb0 hsz
  go_enter Try.func57, Try.ntmps57
  go_upto_region 4 with (fail)
  generalize w.alloc (.cells #[.int .u8 0, .int .u8 0, .int .u8 0, .int .u8 0, .int .u8 0, .int .u8 0, .int .u8 0, .int .u8 0, .int .u8 0, .int .u8 0, .int .u8 0, .int .u8 0, .int .u8 0, .int .u8 0, .int .u8 0, .int .u8 0] 109) = w1 at hK0 hb0 hsz ⊢
  go_loopw [2, 3] (fun v2 v3 wr => ∃ (k : Nat) (A : Option Addr) (c : Nat), k ≤ 16 ∧ v3 = .int .i64 (k : Int) ∧ v2 = .slice A (min k 15) c ∧ Hid (Arr wr w.heap.size 109 ((exK k).map u8v)) ∧ Hid (Own wr (w.heap.size + 1) 5 A (min k 15) c ((List.range (min k 15)).map u8v)) ∧ Below w.heap.size w wr) (fun _ i _ => 16 - (intOf i).toNat)
  case atStart => exact ⟨0, none, 0, by omega, rfl, rfl, hK0, Own.nil_ _ _ _, hb0⟩
  case round =>
    clear hK0 hb0 hsz
    rename World => wr
    obtain ⟨k, A, c, hk, rfl, rfl, hK, hO, hbel⟩ := hrel
    have hKl := hK.out.lt
    have hws := hbel.size
    by_cases hlt : k < 16
    · have hki : (0 : Int) ≤ (k : Int) ∧ (k : Int) < 16 := by omega
      have q0 := hK.out.cell k
      rw [List.getElem?_map, exK_at k hlt] at q0
      simp only [Option.map_some, u8v] at q0
      have f0 := hK.out.frozen k
      have hK2 : Hid (Arr (wr.setCell ⟨w.heap.size, k, none⟩ (.int .u8 (k : Int))) w.heap.size 109 ((exK (k + 1)).map u8v)) := by
        have h := hK.out.set_ k (u8v k)
        rw [← List.map_set, exK_set k hlt] at h
        exact hid_arr h
      have hO2 := own_keep hO.out ((Mod.refl w.heap.size wr).set k (.int .u8 (k : Int))) (by intro g' e e2; have := (World.ownsRow.lt hO.out g' (by rw [e]; rfl)).1; injection e2 with e2; omega)
      have HO2 : Hid (Own (wr.setCell ⟨w.heap.size, k, none⟩ (.int .u8 (k : Int))) (w.heap.size + 1) 5 A (min k 15) c ((List.range (min k 15)).map u8v)) := hO2
      have hb2 : Below w.heap.size w (wr.setCell ⟨w.heap.size, k, none⟩ (.int .u8 (k : Int))) := hbel.setCell (by simp) _
      clear hO2 hK hO hbel
      by_cases h15 : k < 15
      · have h15i : (k : Int) < 15 := by omega
        obtain ⟨m, hm⟩ : ∃ m, min k 15 = m := ⟨_, rfl⟩
        have hmk : m = k := by omega
        rw [hm] at HO2 ⊢
        subst hmk
        go_upto_region 7 with (fail)
        clear q0 f0
        generalize wr.setCell ⟨w.heap.size, m, none⟩ (.int .u8 (m : Int)) = w2 at hK2 HO2 hb2 ⊢
        have hK2l := hK2.out.lt
        go_wp2_with (at_builtin; (refine wp_append1 rfl _ _ _ rfl (w.heap.size + 1) 5 (.int .u8 0) 1 rfl Try.underlying80 u8info A m c _ rfl (Own.alloc HO2.out _) (w2.heap.size + 1) (some ⟨w2.heap.size, 0, none⟩) 1 1 ([m].map u8v) rfl ((Arr.new w2 5 ([m].map u8v)).view (by simp)) rfl (by intro h; cases h) (u8v_one [_]) (by unfold maxLen; omega) (by omega) (by simp; omega) (w.heap.size + 1) (w2.alloc (.cells #[.int .u8 (m : Int)] 5)) (Below.refl _ _) (Nat.le_refl _) ?_); intro A5 c5 w5 hown5 hbel5)
        go_roundw
        case rel => exact ⟨m + 1, A5, c5, by omega, by go_num, by rw [show min (m + 1) 15 = m + 1 by omega], hid_arr ((hK2.out.alloc _).below hbel5 (by omega)), by have h := hown5.out; rw [← List.map_append, range_snoc] at h; rw [show min (m + 1) 15 = m + 1 by omega]; exact h, (hb2.alloc hb2.size _).trans (hbel5.mono (by omega))⟩
        case measure => (simp [intOf] <;> omega)
      · have h15i : ¬ (k : Int) < 15 := by omega
        obtain rfl : k = 15 := by omega
        go_wp2_with fail
        go_roundw
        case rel => exact ⟨16, A, c, by omega, rfl, rfl, hK2, HO2, hb2⟩
        case measure => (simp [intOf] <;> omega)
    · obtain rfl : k = 16 := by omega
      have hv : BView wr wr.heap.size A (List.range 15) := Own.bview hO.out (by intro x hx; have := List.mem_range.1 hx; omega)
      have hc : 15 ≤ c := hO.out.le_cap
      have HV := Lib.hid hv
      have hK' := hK.out
      rw [show (exK 16).map u8v = [.int .u8 0, .int .u8 1, .int .u8 2, .int .u8 3, .int .u8 4, .int .u8 5, .int .u8 6, .int .u8 7, .int .u8 8, .int .u8 9, .int .u8 10, .int .u8 11, .int .u8 12, .int .u8 13, .int .u8 14, .int .u8 15] from rfl] at hK'
      have q0 := hK'.cell 0
      have q1 := hK'.cell 1
      have q2 := hK'.cell 2
      have q3 := hK'.cell 3
      have q4 := hK'.cell 4
      have q5 := hK'.cell 5
      have q6 := hK'.cell 6
      have q7 := hK'.cell 7
      have q8 := hK'.cell 8
      have q9 := hK'.cell 9
      have q10 := hK'.cell 10
      have q11 := hK'.cell 11
      have q12 := hK'.cell 12
      have q13 := hK'.cell 13
      have q14 := hK'.cell 14
      have q15 := hK'.cell 15
      simp only [List.getElem?_cons_zero, List.getElem?_cons_succ] at q0 q1 q2 q3 q4 q5 q6 q7 q8 q9 q10 q11 q12 q13 q14 q15
      clear hK' hv
      go_wp2_with fail
      refine (sip_sum_c (List.range 16) A c (List.range 15) _ (by decide) (by intro x hx; have := List.mem_range.1 hx; omega) HV.out (by simp) (by simpa using hc)).mono ?_
      rintro e w9 ⟨rfl, hb9⟩
      rw [ex_sum]
      go_wp2
      go_ret
      exact ⟨rfl, hbel.trans (hb9.mono hws)⟩

open Go.ChangeShapes Go.WideShapes Go.ChangeAt in
set_option maxRecDepth 100000 in
/-- A key as an argument. -/
theorem open_key {H : Type} {enc : TypeId × Value → H} {r : Reach} {b0 : Nat} {v : Value} {d : DataW H} {ps : List MemPlace} {w : World}
    (hval : Value.okWide Try.prog w r b0 105 v) (hd : DataW.Trod enc Try.prog w 0 (fun _ => true) true 105 v d ps) : ∃ kl : List Nat, v = keyV kl ∧ kl.length = 16 ∧ Bytes kl := by
  have hC : Try.prog.cellsOf 105 = 16 := by kernel_rfl
  have hC1 : Try.prog.cellsOf 5 = 1 := by kernel_rfl
  simp only [Value.okWide, Try.underlying105] at hval
  obtain ⟨cs, rfl, h2, _⟩ := hval
  obtain ⟨fuel, hf⟩ := hd
  obtain ⟨xs, m, _, _, hl, hx, hi⟩ := DataW.trod_array Try.underlying105 hf
  rw [hC] at hl
  simp only [Value.cells] at hl hi
  obtain ⟨kl, hkl, hok⟩ := list_decode u8v (fun n => n < 256) cs.toList (by
    intro c hc
    obtain ⟨i, hil, rfl⟩ := List.getElem_of_mem hc
    have h := hi i (by omega)
    rw [hC1, Nat.mul_one, List.drop_eq_getElem_cons hil] at h
    rw [List.getElem?_eq_getElem (by omega)] at h
    obtain ⟨a, ea, _, wa⟩ := DataW.trod_int Try.underlying5 h
    have e2 : cs.toList[i] = .int .u8 a := by simpa using ea
    have wa := wf_u8 wa
    exact ⟨a.toNat, by rw [e2]; simp [u8v]; omega, by omega⟩)
  refine ⟨kl, ?_, ?_, hok⟩
  · unfold keyV
    rw [← hkl]
  · have := congrArg List.length hkl
    simp at this hl
    omega
end Go.Proofs.Ytakmcbgfglnanaa
