/- sum: Of, Right and the reference's Of, by contract. Conditions: none but bounds. -/
import Derived.Test.YtcobjneobdihkaaJoin
namespace Go.Proofs.Ytcobjneobdihkaa
open Go.RowKit

def foldN (n : Nat) : Nat := if n = 0 then 0 else (n - 1) % 65535 + 1
theorem foldN_step (m : Nat) (h : 65535 < m) : foldN (m % 65536 + m / 65536) = foldN m := by
  unfold foldN; rw [if_neg (by omega), if_neg (by omega)]; omega
theorem foldN_small (m : Nat) (h : m ≤ 65535) : foldN m = m := by unfold foldN; split <;> omega
theorem foldN_bd (m : Nat) : foldN m ≤ 65535 := by unfold foldN; split <;> omega
theorem xor_ones (n x : Nat) (h : x < 2 ^ n) : (2 ^ n - 1) ^^^ x = 2 ^ n - 1 - x := by
  have h1 : (BitVec.allOnes n ^^^ BitVec.ofNat n x).toNat = (2 ^ n - 1) ^^^ x := by
    rw [BitVec.toNat_xor, BitVec.toNat_allOnes, BitVec.toNat_ofNat, Nat.mod_eq_of_lt h]
  rw [← h1, BitVec.allOnes_xor, BitVec.toNat_not, BitVec.toNat_ofNat, Nat.mod_eq_of_lt h]
theorem x_not16 {P : Program} {a : Act} {w : World} {x : Operand} {d : Option Tmp} {t ty : TypeId} {pos : String} {aft : Array Edge} {g : Option (Nat × Bool)} {m : Nat} (hx : a.eval x = .int .u16 (m : Int)) (hm : m ≤ 65535) : (execOp a.eval ⟨d, .unOp .xor t x, ty, pos, aft, g⟩).run P w = .ok (.value (.int .u16 ((65535 - m : Nat) : Int))) w := by
  have e : (if IntKind.u16.signed = true then (-1 : Int) else IntKind.u16.max) = ((65535 : Nat) : Int) := by decide
  unfold execOp
  simp only [hx, Op.unary, Sem.run_bind, Sem.run_pure, Result.andThen_ok]
  rw [e]
  simp only [Op.intBits, BitVec.toNat_xor, ofInt_nat (fit_u16 (by omega) : fitsN .u16 65535), ofInt_nat (fit_u16 hm)]
  rw [show (65535 ^^^ m : Nat) = 65535 - m from xor_ones 16 m (by omega)]
  rw [show IntKind.u16.wrap ((65535 - m : Nat) : Int) = ((65535 - m : Nat) : Int) from fit_u16 (by omega)]
  rfl

theorem St.vadd {F : List Nat} {w0 w : World} {M : List Ent} (h : St F w0 M w) (hro : M.all (·.ro) = true) {A : Option Addr} {xs : List Value} (hv : View w w.heap.size A xs) : St F w0 (.vw A xs :: M) w :=
  h.addv hv fun e' he' => .inl (by rw [List.all_eq_true.1 hro e' he']; rfl)
/-- The words of l up to place k, added up. -/
def psum (l : List Nat) : Nat → Nat
  | 0 => 0
  | k + 1 => psum l k + (if k % 2 = 0 then nth l k * 2 ^ 8 else nth l k)
theorem psum_bd {l : List Nat} (h : Bytes l) (k : Nat) : psum l k ≤ 65280 * k := by
  induction k with
  | zero => simp [psum]
  | succ k ih =>
    have := nth_lt h k
    simp only [psum]
    split <;> omega
def rsum (rows : List (Option Addr × List Nat × Nat)) : Nat → Nat
  | 0 => 0
  | k + 1 => rsum rows k + psum (rows.getD k default).2.1 (rows.getD k default).2.1.length
def BytesRows (rows : List (Option Addr × List Nat × Nat)) : Prop := ∀ k, k < rows.length → Bytes (rows.getD k default).2.1
theorem brows_nil : BytesRows [] := fun k hk => by simp at hk
theorem brows_cons {A : Option Addr} {l : List Nat} {c : Nat} {rows : List (Option Addr × List Nat × Nat)} (h : Bytes l) (hs : BytesRows rows) : BytesRows ((A, l, c) :: rows) := fun k hk => by
  cases k with
  | zero => exact h
  | succ k => exact hs k (by simpa using hk)
theorem rsum_bd {rows : List (Option Addr × List Nat × Nat)} (h : BytesRows rows) (k : Nat) (hk : k ≤ rows.length) : rsum rows k ≤ 65280 * (joined (rows.take k)).length := by
  induction k with
  | zero => simp [rsum]
  | succ k ih =>
    have h1 := psum_bd (h k (by omega)) (rows.getD k default).2.1.length
    rw [joined_snoc rows k (by omega), List.length_append]
    simp only [rsum]
    have := ih (by omega)
    omega

set_option maxRecDepth 100000 in
set_option maxHeartbeats 4000000 in
theorem fold_c (n : Nat) (w0 : World) (hn : n ≤ 1000000000000) :
    Calls Try.prog 70 #[.int .u64 (n : Int)] w0 fun e w' => e = .returned (.int .u16 ((foldN n : Nat) : Int)) ∧ Kp [] w0 w' := by
  have hS := St.sv w0
  refine ent (n := 12) Try.func70 rfl rfl ?_
  refine wp_seq_k ?_; intro K1 hK1
  refine wlit ?_
  refine wl_v (x_assign (ev_cN 0)) ?_
  refine wl_nil ?_
  refine then_n (hK1 _ _ ?_); clear hK1 K1
  refine wp_seq_k ?_; intro K2 hK2
  refine wp_block ?_
  refine lp [0, 3, 4, 5, 6, 7, 8, 9] (fun mz g w => ∃ (m : Nat), mz = 2 * m ∧ g 0 = .int .u64 (m : Int) ∧ St [] w0 [] w ∧ (m ≤ 1000000000000) ∧ (foldN m = foldN n)) ?_ ?_
  · exact ⟨_, n, rfl, (by first | rfl | go_num | exact congrArg (Value.int _) (by first | omega | (simp; done) | (simp; omega))), hS, (by omega), (by first | rfl | (rw [← hf]; exact foldN_step m (by omega)))⟩
  · clear hS; intro mz g w hI
    obtain ⟨m, rfl, hs0, hS, hm, hf⟩ := hI
    refine fr_know (d := 0) hs0 ?_; clear hs0
    refine wp_seq_k ?_; intro K3 hK3
    refine wp_seq_k ?_; intro K4 hK4
    refine wlit ?_
    refine wl_v (x_move (tmI rfl rfl)) ?_
    refine wl_v (x_gtr (tmI rfl rfl) (ev_cN 65535)) ?_
    refine wl_nil ?_
    refine then_n (hK4 _ _ ?_); clear hK4 K4
    refine cnd (tm rfl) (fun hc0 => ?_) (fun hc0 => ?_)
    · skip
      all_goals
       try simp only [nrm] at hc0
       have hand : m &&& 65535 = m % 65536 := Nat.and_two_pow_sub_one_eq_mod _ 16
       have hle : m &&& 65535 ≤ 65535 := Nat.and_le_right
       refine wp_skip ?_
       refine then_n (hK3 _ _ ?_); clear hK3 K3
       refine wp_block ?_
       refine wlit ?_
       refine wl_v (x_move (tmI rfl rfl)) ?_
       refine wl_v (x_andN (tmI rfl rfl) (ev_cN 65535) (fit_u64 (by omega)) (fit_u64 (by omega))) ?_
       refine wl_v (x_move (tmI rfl rfl)) ?_
       refine wl_v (x_shrN (tmI rfl rfl) (ev_cN 16) (fit_u64 (by omega))) ?_
       refine wl_v (x_addN (tmI rfl rfl) (tmI rfl rfl) (fit_u64 (by omega))) ?_
       refine wl_v (x_assign (tmI rfl rfl)) ?_
       refine wl_nil ?_
       refine inb_n ?_
       exact then_n ⟨_, _, rfl, (by show _ < _; omega), (by repeat (first | exact agree_self | exact agree_refl | refine agree_upd rfl ?_ | refine agree_mix rfl ?_)), m % 65536 + m / 65536, rfl, (by first | rfl | (rw [hand]; done) | (rw [hand]; rfl) | (rw [hand]; go_num)), hS, (by omega), (by first | rfl | (rw [← hf]; exact foldN_step m (by omega)))⟩
    all_goals
     try simp only [nrm] at hc0
     refine wp_exit ?_
     refine then_x ?_; clear hK3 K3
     refine then_x ?_
     refine inb_x ?_
     refine then_n (hK2 _ _ ?_); clear hK2 K2
     refine wp_seq_k ?_; intro K5 hK5
     refine wlit ?_
     refine wl_v (x_move (tmI rfl rfl)) ?_
     refine wl_v (x_convN Try.underlying24 Try.underlying27 (tmI rfl rfl) (fit_u16 (by omega))) ?_
     refine wl_v (x_assign (tmI rfl rfl)) ?_
     refine wl_nil ?_
     refine then_n (hK5 _ _ ?_); clear hK5 K5
     refine wp_ret ?_
     refine ret1 rfl (.tmp rfl (show _ = Value.int _ _ from rfl)) ?_
     rw [← hf, foldN_small m (by omega)]
     exact ⟨rfl, hS.kp⟩

set_option maxRecDepth 100000 in
set_option maxHeartbeats 4000000 in
theorem sum_of_c (n : Nat) (A : Option Addr) (c : Nat) (rows : List (Option Addr × List Nat × Nat)) (w0 : World) (hv : View w0 w0.heap.size A (rows.map rowV)) (hr : SeenRows w0 rows) (hb : BytesRows rows) (hl : rows.length = n) (hn4 : n ≤ 1000000) (hj4 : (joined rows).length ≤ 1000000) :
    Calls Try.prog 52 #[.slice A n c] w0 fun e w' => e = .returned (.int .u16 ((65535 - foldN (rsum rows n) : Nat) : Int)) ∧ Kp [] w0 w' := by
  have hS := (St.sv w0).vcons rfl hv
  have hbd : ∀ k, k ≤ n → rsum rows k ≤ 65280000000 := fun k hk => by
    have := rsum_bd hb k (by omega)
    have := joined_le rows k
    omega
  have hfb := foldN_bd (rsum rows n)
  refine ent (n := 38) Try.func52 rfl rfl ?_
  refine wp_seq_k ?_; intro K1 hK1
  refine wlit ?_
  refine wl_v (x_assign (ev_cN 0)) ?_
  refine wl_nil ?_
  refine then_n (hK1 _ _ ?_); clear hK1 K1
  refine wp_seq_k ?_; intro K2 hK2
  refine wlit ?_
  refine wl_v (x_assign (ev_cN 0)) ?_
  refine wl_nil ?_
  refine then_n (hK2 _ _ ?_); clear hK2 K2
  refine wp_seq_k ?_; intro K3 hK3
  refine wp_seq_k ?_; intro K4 hK4
  refine wlit ?_
  refine wl_v (x_move (tmS rfl rfl)) ?_
  refine wl_v (x_len Try.underlying126 (tmS rfl rfl)) ?_
  refine wl_v (x_move (ev_cN 0)) ?_
  refine wl_nil ?_
  refine then_n (hK4 _ _ ?_); clear hK4 K4
  refine wp_block ?_
  refine lp [3, 5, 6, 7, 10, 11, 12, 13, 14, 15, 16, 17, 18, 19, 20, 21, 22, 23, 24, 25, 26, 27, 28, 29, 30, 31, 32, 33, 34] (fun mz g w => ∃ (k : Nat), mz = n - k ∧ g 10 = .int .i64 (k : Int) ∧ g 3 = .int .u64 ((rsum rows k : Nat) : Int) ∧ St [] w0 [.vw A (rows.map rowV)] w ∧ (k ≤ n)) ?_ ?_
  · exact ⟨_, 0, rfl, (by first | rfl | go_num | exact congrArg (Value.int _) (by first | omega | (simp; done) | (simp; omega))), (by first | rfl | go_num | exact congrArg (Value.int _) (by first | omega | (simp; done) | (simp; omega))), hS, (by omega)⟩
  · clear hS; intro mz g w hI
    obtain ⟨k, rfl, hs10, hs3, hS, hk⟩ := hI
    refine fr_know (d := 10) hs10 ?_; clear hs10
    refine fr_know (d := 3) hs3 ?_; clear hs3
    refine wp_seq_k ?_; intro K5 hK5
    refine wlit ?_
    refine wl_v (x_lss (tmI rfl rfl) (tmI rfl rfl)) ?_
    refine wl_nil ?_
    refine then_n (hK5 _ _ ?_); clear hK5 K5
    refine wp_seq_k ?_; intro K6 hK6
    refine cnd (tm rfl) (fun hc0 => ?_) (fun hc0 => ?_)
    · skip
      all_goals
       try simp only [nrm] at hc0
       obtain ⟨b4, o4, rfl⟩ := view_some hv (by rw [List.length_map]; omega)
       have hvk := hr.kept hS.kp k (by omega)
       have hbk := hb k (by omega)
       have hxk : rsum rows (k + 1) = rsum rows k + psum (rows.getD k default).2.1 (rows.getD k default).2.1.length := rfl
       have hbk1 := hbd (k + 1) (by omega)
       have hrow : (rows.map rowV)[0 + k]? = some (.slice (rows.getD k default).1 (rows.getD k default).2.1.length (rows.getD k default).2.2) := by
         rw [Nat.zero_add, List.getElem?_map, List.getD_eq_getElem?_getD, List.getElem?_eq_getElem (by omega)]; rfl
       have hjk := joined_snoc rows k (by omega)
       have hjj := joined_le rows (k + 1)
       rw [hjk, List.length_append] at hjj
       clear hjk
       generalize (rows.getD k default).1 = ra at *
       generalize (rows.getD k default).2.1 = rl at *
       generalize (rows.getD k default).2.2 = rc at *
       refine wp_skip ?_
       refine then_n (hK6 _ _ ?_); clear hK6 K6
       refine wp_seq_k ?_; intro K7 hK7
       refine wp_block ?_
       refine wp_seq_k ?_; intro K8 hK8
       refine wlit ?_
       refine wl_v (x_ixs1 Try.underlying126 ts_22 (tmS rfl rfl) (tmI rfl rfl) (by omega)) ?_
       refine wl_v (x_load Try.underlying22 rfl (tmP rfl rfl) (cellV hS.ok 0 rfl (by rw [← hrow, Nat.zero_add]))) ?_
       refine wl_v (x_assign (tmS rfl rfl)) ?_
       refine wl_nil ?_
       refine then_n (hK8 _ _ ?_); clear hK8 K8
       refine wp_seq_k ?_; intro K9 hK9
       refine wlit ?_
       refine wl_v (x_move (tmS rfl rfl)) ?_
       refine wl_v (x_len Try.underlying22 (tmS rfl rfl)) ?_
       refine wl_v (x_move (ev_cN 0)) ?_
       refine wl_nil ?_
       refine then_n (hK9 _ _ ?_); clear hK9 K9
       refine wp_block ?_
       replace hS := hS.vadd rfl (hvk : View _ _ ra (rl.map u8v))
       refine lp [3, 6, 7, 16, 17, 18, 19, 20, 21, 22, 23, 24, 25, 26, 27, 28, 29, 30, 31, 32, 33] (fun mz g w => ∃ (j : Nat), mz = rl.length - j ∧ g 16 = .int .i64 (j : Int) ∧ g 3 = .int .u64 ((rsum rows k + psum rl j : Nat) : Int) ∧ St [] w0 [.vw ra (rl.map u8v), .vw (some ⟨b4, o4, none⟩) (rows.map rowV)] w ∧ (j ≤ rl.length)) ?_ ?_
       · exact ⟨_, 0, rfl, (by first | rfl | go_num | exact congrArg (Value.int _) (by first | omega | (simp; done) | (simp; omega))), (by first | rfl | go_num | exact congrArg (Value.int _) (by first | omega | (simp; done) | (simp; omega))), hS, (by omega)⟩
       · clear hS; intro mz g w hI
         obtain ⟨j, rfl, hs16, hs3, hS, hj⟩ := hI
         refine fr_know (d := 16) hs16 ?_; clear hs16
         refine fr_know (d := 3) hs3 ?_; clear hs3
         refine wp_seq_k ?_; intro K10 hK10
         refine wlit ?_
         refine wl_v (x_lss (tmI rfl rfl) (tmI rfl rfl)) ?_
         refine wl_nil ?_
         refine then_n (hK10 _ _ ?_); clear hK10 K10
         refine wp_seq_k ?_; intro K11 hK11
         refine cnd (tm rfl) (fun hc1 => ?_) (fun hc1 => ?_)
         · skip
           all_goals
            try simp only [nrm] at hc1
            obtain ⟨b5, o5, e5⟩ := view_some (viewV hS.ok 0 rfl) (by rw [List.length_map]; omega)
            have hpj := psum_bd hbk j
            have hbj : rl.getD j 0 < 256 := nth_lt hbk j
            have hnj : nth rl j = rl.getD j 0 := rfl
            have hpj2 : psum rl (j + 1) ≤ 65280 * (j + 1) := psum_bd hbk (j + 1)
            subst e5
            refine wp_skip ?_
            refine then_n (hK11 _ _ ?_); clear hK11 K11
            refine wp_seq_k ?_; intro K12 hK12
            refine wp_block ?_
            refine wp_seq_k ?_; intro K13 hK13
            refine wlit ?_
            refine wl_v (x_move (tmI rfl rfl)) ?_
            refine wl_v (x_ixs1 Try.underlying22 ts_5 (tmS rfl rfl) (tmI rfl rfl) (by omega)) ?_
            refine wl_v (x_load Try.underlying5 rfl (tmP rfl rfl) (cellV hS.ok 0 rfl (getm (by omega)))) ?_
            refine wl_v (x_assign (tmI rfl rfl)) ?_
            refine wl_v (x_assign (tmI rfl rfl)) ?_
            refine wl_nil ?_
            refine then_n (hK13 _ _ ?_); clear hK13 K13
            refine wp_seq_k ?_; intro K14 hK14
            refine wlit ?_
            refine wl_v (x_move (tmI rfl rfl)) ?_
            refine wl_v (x_remN (tmI rfl rfl) (ev_cN 2) (by omega)) ?_
            refine wl_v (x_eql (tmI rfl rfl) (ev_cN 0)) ?_
            refine wl_nil ?_
            refine then_n (hK14 _ _ ?_); clear hK14 K14
            refine cnd (tm rfl) (fun hc2 => ?_) (fun hc2 => ?_)
            · skip
              all_goals
               try simp only [nrm] at hc2
               have hxj : rsum rows k + psum rl (j + 1) = rsum rows k + psum rl j + rl.getD j 0 * 2 ^ 8 := by simp only [psum]; rw [if_pos (by omega), hnj]; omega
               refine wlit ?_
               refine wl_v (x_move (tmI rfl rfl)) ?_
               refine wl_v (x_move (tmI rfl rfl)) ?_
               refine wl_v (x_convN Try.underlying5 Try.underlying24 (tmI rfl rfl) (fit_u64 (by omega))) ?_
               refine wl_v (x_shlN (tmI rfl rfl) (ev_cN 8) (by decide) (fit_u64 (by omega))) ?_
               refine wl_v (x_addN (tmI rfl rfl) (tmI rfl rfl) (fit_u64 (by omega))) ?_
               refine wl_v (x_assign (tmI rfl rfl)) ?_
               refine wl_nil ?_
               refine inb_n ?_
               refine then_n (hK12 _ _ ?_); clear hK12 K12
               refine wlit ?_
               refine wl_v (x_addN (tmI rfl rfl) (ev_cN 1) (fit_i64 (by omega))) ?_
               refine wl_v (x_move (tmI rfl rfl)) ?_
               refine wl_nil ?_
               exact then_n ⟨_, _, rfl, (by show _ < _; omega), (by repeat (first | exact agree_self | exact agree_refl | refine agree_upd rfl ?_ | refine agree_mix rfl ?_)), j + 1, rfl, (by first | rfl | go_num | exact congrArg (Value.int _) (by first | omega | (simp; done) | (simp; omega))), (by first | rfl | (rw [hxj]; done) | (rw [hxj]; rfl) | (rw [hxj]; go_num)), hS, (by omega)⟩
            all_goals
             try simp only [nrm] at hc2
             have hxj : rsum rows k + psum rl (j + 1) = rsum rows k + psum rl j + rl.getD j 0 := by simp only [psum]; rw [if_neg (by omega), hnj]; omega
             refine wlit ?_
             refine wl_v (x_move (tmI rfl rfl)) ?_
             refine wl_v (x_move (tmI rfl rfl)) ?_
             refine wl_v (x_convN Try.underlying5 Try.underlying24 (tmI rfl rfl) (fit_u64 (by omega))) ?_
             refine wl_v (x_addN (tmI rfl rfl) (tmI rfl rfl) (fit_u64 (by omega))) ?_
             refine wl_v (x_assign (tmI rfl rfl)) ?_
             refine wl_nil ?_
             refine inb_n ?_
             refine then_n (hK12 _ _ ?_); clear hK12 K12
             refine wlit ?_
             refine wl_v (x_addN (tmI rfl rfl) (ev_cN 1) (fit_i64 (by omega))) ?_
             refine wl_v (x_move (tmI rfl rfl)) ?_
             refine wl_nil ?_
             exact then_n ⟨_, _, rfl, (by show _ < _; omega), (by repeat (first | exact agree_self | exact agree_refl | refine agree_upd rfl ?_ | refine agree_mix rfl ?_)), j + 1, rfl, (by first | rfl | go_num | exact congrArg (Value.int _) (by first | omega | (simp; done) | (simp; omega))), (by first | rfl | (rw [hxj]; done) | (rw [hxj]; rfl) | (rw [hxj]; go_num)), hS, (by omega)⟩
         all_goals
          try simp only [nrm] at hc1
          obtain rfl : rl.length = j := by omega
          refine wp_exit ?_
          refine then_x ?_; clear hK11 K11
          refine then_x ?_
          refine inb_x ?_
          refine inb_n ?_
          refine then_n (hK7 _ _ ?_); clear hK7 K7
          refine wlit ?_
          refine wl_v (x_addN (tmI rfl rfl) (ev_cN 1) (fit_i64 (by omega))) ?_
          refine wl_v (x_move (tmI rfl rfl)) ?_
          refine wl_nil ?_
          exact then_n ⟨_, _, rfl, (by show _ < _; omega), (by repeat (first | exact agree_self | exact agree_refl | refine agree_upd rfl ?_ | refine agree_mix rfl ?_)), k + 1, rfl, (by first | rfl | go_num | exact congrArg (Value.int _) (by first | omega | (simp; done) | (simp; omega))), (by first | rfl | (rw [hxk]; done) | (rw [hxk]; rfl) | (rw [hxk]; go_num)), (hS.pick [1] rfl rfl), (by omega)⟩
    all_goals
     try simp only [nrm] at hc0
     refine wp_exit ?_
     refine then_x ?_; clear hK6 K6
     refine then_x ?_
     refine inb_x ?_
     refine then_n (hK3 _ _ ?_); clear hK3 K3
     refine wp_seq_k ?_; intro K15 hK15
     obtain rfl : k = n := by omega
     refine wlit ?_
     refine wl_v (x_move (tmI rfl rfl)) ?_
     refine wl_e rfl ?_; intro K hK
     refine ow_call Try.func70 rfl rfl (evs_cons (tmI rfl rfl) <| evs_nil) (fold_c _ _ (by have := hbd k (by omega); omega)) ?_
     rintro e w ⟨rfl, hk⟩
     refine ⟨_, rfl, ?_⟩
     replace hS := hS.kept hk
     clear hk
     refine hK _ _ ?_; clear hK K
     refine wl_v (x_not16 (tmI rfl rfl) hfb) ?_
     refine wl_v (x_assign (tmI rfl rfl)) ?_
     refine wl_nil ?_
     refine then_n (hK15 _ _ ?_); clear hK15 K15
     refine wp_ret ?_
     refine ret1 rfl (.tmp rfl (show _ = Value.int _ _ from rfl)) ?_
     exact ⟨rfl, hS.kp⟩

end Go.Proofs.Ytcobjneobdihkaa
