
/- CRC-32C by both, by contract. Conditions: none but bounds. -/
import Derived.Test.YtcimbinkjepkcaaJoin
namespace Go.Proofs.Ytcimbinkjepkcaa
open Go.ChangeShapes Go.WideShapes Go.ChangeAt Go.RowKit
def cst (c : Nat) : Nat := c / 2 ^^^ (if c % 2 = 1 then 2197175160 else 0)
def cstN : Nat → Nat → Nat
  | 0, c => c
  | n + 1, c => cst (cstN n c)
def crcB (c b : Nat) : Nat := cstN 8 (c ^^^ b)
def crcL (c : Nat) (l : List Nat) : Nat := l.foldl crcB c
def crc (l : List Nat) : Nat := 4294967295 ^^^ crcL 4294967295 l
theorem cst_p (c : Nat) : c / 2 ^ 1 ^^^ (c &&& 1) * 2197175160 = cst c := by
  rw [Nat.and_one_is_mod, Nat.pow_one]
  unfold cst
  rcases Nat.mod_two_eq_zero_or_one c with h | h <;> rw [h] <;> rfl
theorem cst_one {c : Nat} (h : c % 2 = 1) : c / 2 ^^^ 2197175160 = cst c := by unfold cst; rw [if_pos h]
theorem cst_zero {c : Nat} (h : ¬ c % 2 = 1) : c / 2 = cst c := by unfold cst; rw [if_neg h, Nat.xor_zero]
theorem cst_lt {c : Nat} (h : c < 4294967296) : cst c < 4294967296 := by
  unfold cst
  refine Nat.xor_lt_two_pow (n := 32) (by omega) ?_
  split <;> decide
theorem cstN_lt {c : Nat} (h : c < 4294967296) : ∀ n, cstN n c < 4294967296
  | 0 => h
  | n + 1 => cst_lt (cstN_lt h n)
theorem crcx_lt {c b : Nat} (h : c < 4294967296) (hb : b < 256) : c ^^^ b < 4294967296 := Nat.xor_lt_two_pow (n := 32) h (by omega)
theorem crcL_lt {l : List Nat} (hb : Bytes l) : ∀ {c : Nat}, c < 4294967296 → crcL c l < 4294967296 := by
  unfold crcL
  induction l with
  | nil => intro c h; exact h
  | cons x l ih =>
    intro c h
    rw [List.foldl_cons]
    exact ih (fun y hy => hb y (List.mem_cons_of_mem _ hy)) (cstN_lt (crcx_lt h (hb x (List.mem_cons_self ..))) 8)
theorem crcL_snoc (c : Nat) (l : List Nat) (k : Nat) (h : k < l.length) : crcL c (l.take (k + 1)) = cstN 8 (crcL c (l.take k) ^^^ l.getD k 0) := by
  unfold crcL
  rw [List.take_succ_eq_append_getElem h, List.foldl_append, List.getD_eq_getElem?_getD, List.getElem?_eq_getElem h]
  rfl
theorem crcL_append (c : Nat) (l m : List Nat) : crcL c (l ++ m) = crcL (crcL c l) m := by unfold crcL; rw [List.foldl_append]
theorem crc_lt {l : List Nat} (hb : Bytes l) : crc l < 4294967296 := Nat.xor_lt_two_pow (n := 32) (by decide) (crcL_lt hb (by decide))
theorem x_xor {P : Program} {a : Act} {w : World} {d : Option Tmp} {x : Operand} {t ty : TypeId} {pos : String} {aft : Array Edge} {g : Option (Nat × Bool)} {m : Nat} (hx : a.eval x = .int .u32 (m : Int)) (hm : fitsN .u32 m) : (execOp a.eval ⟨d, .unOp .xor t x, ty, pos, aft, g⟩).run P w = .ok (.value (.int .u32 ((4294967295 ^^^ m : Nat) : Int))) w := by
  have h1 : fitsN .u32 4294967295 := fit_u32 (by omega)
  have hm' := (fits_iff .u32 m).1 hm
  have hr : fitsN .u32 (4294967295 ^^^ m) := (fits_iff .u32 _).2 (Nat.xor_lt_two_pow (n := 32) (by decide) hm')
  have e1 : (BitVec.ofInt (IntKind.bits .u32) (if IntKind.signed .u32 = true then -1 else IntKind.max .u32)).toNat = 4294967295 := by decide
  unfold execOp
  simp only [hx, Op.unary, Op.intBits, Sem.run_bind, Sem.run_pure, Result.andThen_ok, BitVec.toNat_xor, e1, ofInt_nat hm]
  rw [show IntKind.wrap .u32 ((4294967295 ^^^ m : Nat) : Int) = ((4294967295 ^^^ m : Nat) : Int) from hr]
theorem joined_bytes {rows : List (Option Addr × List Nat × Nat)} (h : ∀ r ∈ rows, Bytes r.2.1) : Bytes (joined rows) := by
  unfold joined
  intro x hx
  obtain ⟨l, hl, hxl⟩ := List.mem_flatten.1 hx
  obtain ⟨r, hr, rfl⟩ := List.mem_map.1 hl
  exact h r hr x hxl
set_option maxRecDepth 100000 in
set_option maxHeartbeats 4000000 in
theorem check_c (n : Nat) (A : Option Addr) (c : Nat) (rows : List (Option Addr × List Nat × Nat)) (w0 : World) (hv : View w0 w0.heap.size A (rows.map rowV)) (hr : SeenRows w0 rows) (hl : rows.length = n) (hn4 : n ≤ 1000000) (hby : ∀ r ∈ rows, Bytes r.2.1) (hle : ∀ r ∈ rows, r.2.1.length ≤ 1000000) :
    Calls Try.prog 23 #[.slice A n c] w0 fun e w' => e = .returned (.int .u32 ((crc (joined rows) : Nat) : Int)) ∧ Kp [] w0 w' := by
  have hS := (St.sv w0).vcons rfl hv
  refine ent (n := 39) Try.func23 rfl rfl ?_
  refine wp_seq_k ?_; intro K1 hK1
  refine wlit ?_
  refine wl_v (x_assign (ev_cN 0)) ?_
  refine wl_nil ?_
  refine then_n (hK1 _ _ ?_); clear hK1 K1
  refine wp_seq_k ?_; intro K2 hK2
  refine wlit ?_
  refine wl_v (x_assign (ev_cN 4294967295)) ?_
  refine wl_nil ?_
  refine then_n (hK2 _ _ ?_); clear hK2 K2
  refine wp_seq_k ?_; intro K3 hK3
  refine wp_seq_k ?_; intro K4 hK4
  refine wlit ?_
  refine wl_v (x_move (tmS rfl rfl)) ?_
  refine wl_v (x_len Try.underlying25 (tmS rfl rfl)) ?_
  refine wl_v (x_move (ev_cN 0)) ?_
  refine wl_nil ?_
  refine then_n (hK4 _ _ ?_); clear hK4 K4
  refine wp_block ?_
  refine lp [3, 5, 7, 8, 11, 12, 13, 14, 15, 16, 17, 18, 19, 20, 21, 22, 23, 24, 25, 26, 27, 28, 29, 30, 31, 32, 33, 34, 35, 36] (fun mz g w => ∃ (k : Nat), mz = n - k ∧ g 11 = .int .i64 (k : Int) ∧ g 3 = .int .u32 ((crcL 4294967295 (joined (rows.take k)) : Nat) : Int) ∧ St [] w0 [.vw A (rows.map rowV)] w ∧ (k ≤ n)) ?_ ?_
  · exact ⟨_, 0, rfl, (by first | rfl | go_num | exact congrArg (Value.int _) (by first | omega | (simp; done) | (simp; omega))), (by first | rfl | go_num | exact congrArg (Value.int _) (by first | omega | (simp; done) | (simp; omega))), hS, (by omega)⟩
  · clear hS; intro mz g w hI
    obtain ⟨k, rfl, hs11, hs3, hS, hk⟩ := hI
    refine fr_know (d := 11) hs11 ?_; clear hs11
    refine fr_know (d := 3) hs3 ?_; clear hs3
    refine wp_seq_k ?_; intro K5 hK5
    refine wlit ?_
    refine wl_v (x_lss (tmI rfl rfl) (tmI rfl rfl)) ?_
    refine wl_nil ?_
    refine then_n (hK5 _ _ ?_); clear hK5 K5
    refine wp_seq_k ?_; intro K6 hK6
    refine cnd (tm rfl) (fun hc0 => ?_) (fun hc0 => ?_)
    · try (exfalso; first | with_reducible exact absurd hc0 Bool.false_ne_true | with_reducible exact absurd hc0.symm Bool.false_ne_true | (simp only [nrm] at hc0; omega) | (simp at hc0; done))
      all_goals
       try simp only [nrm] at hc0
       obtain ⟨b4, o4, rfl⟩ := view_some (viewV hS.ok 0 rfl) (by rw [List.length_map]; omega)
       have hvk := hr.kept hS.kp k (by omega)
       have hjn := joined_snoc rows k (by omega)
       have hbt : Bytes (joined (rows.take k)) := joined_bytes fun r hr => hby r (List.mem_of_mem_take hr)
       have hm1 : rows.getD k default ∈ rows := by
         rw [List.getD_eq_getElem?_getD, List.getElem?_eq_getElem (by omega)]
         exact List.getElem_mem _
       have hbr := hby _ hm1
       have hlr := hle _ hm1
       have hrow : (rows.map rowV)[k]? = some (.slice (rows.getD k default).1 (rows.getD k default).2.1.length (rows.getD k default).2.2) := by
         rw [List.getElem?_map, List.getD_eq_getElem?_getD, List.getElem?_eq_getElem (by omega)]; rfl
       have hq0 := crcL_lt hbt (c := 4294967295) (by decide)
       have hx : crcL 4294967295 (joined (rows.take (k + 1))) = crcL (crcL 4294967295 (joined (rows.take k))) (rows.getD k default).2.1 := by rw [hjn, crcL_append]
       clear hbt hm1
       generalize crcL 4294967295 (joined (rows.take k)) = q0 at *
       generalize rows.getD k default = r at *
       obtain ⟨Ar, lr, cr⟩ := r
       replace hx : crcL 4294967295 (joined (rows.take (k + 1))) = crcL q0 lr := hx
       replace hbr : Bytes lr := hbr
       replace hlr : lr.length ≤ 1000000 := hlr
       replace hvk : View w w.heap.size Ar (lr.map u8v) := hvk
       replace hrow : (rows.map rowV)[k]? = some (.slice Ar lr.length cr) := hrow
       refine wp_skip ?_
       refine then_n (hK6 _ _ ?_); clear hK6 K6
       refine wp_seq_k ?_; intro K7 hK7
       refine wp_block ?_
       refine wp_seq_k ?_; intro K8 hK8
       refine wlit ?_
       refine wl_v (x_ixs1 Try.underlying25 ts_22 (tmS rfl rfl) (tmI rfl rfl) (by omega)) ?_
       refine wl_v (x_load (v := .slice Ar lr.length cr) Try.underlying22 rfl (tmP rfl rfl) (cellV hS.ok 0 rfl hrow)) ?_
       refine wl_v (x_assign (tmS rfl rfl)) ?_
       refine wl_nil ?_
       refine then_n (hK8 _ _ ?_); clear hK8 K8
       refine wp_seq_k ?_; intro K9 hK9
       replace hS := hS.addv hvk (fun e he => .inl (by rcases List.mem_cons.1 he with rfl | he; rfl; cases he))
       refine wlit ?_
       refine wl_v (x_move (tmS rfl rfl)) ?_
       refine wl_v (x_len Try.underlying22 (tmS rfl rfl)) ?_
       refine wl_v (x_move (ev_cN 0)) ?_
       refine wl_nil ?_
       refine then_n (hK9 _ _ ?_); clear hK9 K9
       refine wp_block ?_
       refine lp [3, 7, 8, 17, 18, 19, 20, 21, 22, 23, 24, 25, 26, 27, 28, 29, 30, 31, 32, 33, 34, 35] (fun mz g w => ∃ (j : Nat), mz = lr.length - j ∧ g 17 = .int .i64 (j : Int) ∧ g 3 = .int .u32 ((crcL q0 (lr.take j) : Nat) : Int) ∧ St [] w0 [.vw Ar (lr.map u8v), .vw (some ⟨b4, o4, none⟩) (rows.map rowV)] w ∧ (j ≤ lr.length)) ?_ ?_
       · exact ⟨_, 0, rfl, (by first | rfl | go_num | exact congrArg (Value.int _) (by first | omega | (simp; done) | (simp; omega))), (by first | rfl | go_num | exact congrArg (Value.int _) (by first | omega | (simp; done) | (simp; omega))), hS, (by omega)⟩
       · clear hS; intro mz g w hI
         obtain ⟨j, rfl, hs17, hs3, hS, hj⟩ := hI
         refine fr_know (d := 17) hs17 ?_; clear hs17
         refine fr_know (d := 3) hs3 ?_; clear hs3
         refine wp_seq_k ?_; intro K10 hK10
         refine wlit ?_
         refine wl_v (x_lss (tmI rfl rfl) (tmI rfl rfl)) ?_
         refine wl_nil ?_
         refine then_n (hK10 _ _ ?_); clear hK10 K10
         refine wp_seq_k ?_; intro K11 hK11
         refine cnd (tm rfl) (fun hc1 => ?_) (fun hc1 => ?_)
         · try (exfalso; first | with_reducible exact absurd hc1 Bool.false_ne_true | with_reducible exact absurd hc1.symm Bool.false_ne_true | (simp only [nrm] at hc1; omega) | (simp at hc1; done))
           all_goals
            try simp only [nrm] at hc1
            obtain ⟨b5, o5, rfl⟩ := view_some (viewV hS.ok 0 rfl) (by rw [List.length_map]; omega)
            have hbj : lr.getD j 0 < 256 := nth_lt hbr j
            have hx2 := crcL_snoc q0 lr j (by omega)
            have hq1 := crcL_lt (hbr.take j) hq0
            have hq2 := crcx_lt hq1 hbj
            generalize crcL q0 (lr.take j) = q1 at *
            have hqn := cstN_lt hq2
            refine wp_skip ?_
            refine then_n (hK11 _ _ ?_); clear hK11 K11
            refine wp_seq_k ?_; intro K12 hK12
            refine wp_block ?_
            refine wp_seq_k ?_; intro K13 hK13
            refine wlit ?_
            refine wl_v (x_ixs1 Try.underlying22 ts_5 (tmS rfl rfl) (tmI rfl rfl) (by omega)) ?_
            first
             | refine wl_v (x_load Try.underlying5 rfl (tmP rfl rfl) (cellV hS.ok 0 rfl rfl)) ?_
             | refine wl_v (x_load Try.underlying5 rfl (tmP rfl rfl) (cellV hS.ok 0 rfl (getm (by omega)))) ?_
             | refine wl_v (x_load Try.underlying5 rfl (tmP rfl rfl) (cellVs hS.ok 0 rfl (fun _ => rfl) rfl (by omega) rfl)) ?_
             | refine wl_v (x_load Try.underlying5 rfl (tmP rfl rfl) (cellV hS.ok 1 rfl rfl)) ?_
             | refine wl_v (x_load Try.underlying5 rfl (tmP rfl rfl) (cellV hS.ok 1 rfl (getm (by omega)))) ?_
             | refine wl_v (x_load Try.underlying5 rfl (tmP rfl rfl) (cellVs hS.ok 1 rfl (fun _ => rfl) rfl (by omega) rfl)) ?_
            refine wl_v (x_assign (tmI rfl rfl)) ?_
            refine wl_nil ?_
            refine then_n (hK13 _ _ ?_); clear hK13 K13
            refine wp_seq_k ?_; intro K14 hK14
            refine wlit ?_
            refine wl_v (x_move (tmI rfl rfl)) ?_
            refine wl_v (x_move (tmI rfl rfl)) ?_
            first
             | refine wl_v (x_convN Try.underlying5 Try.underlying48 (tmI rfl rfl) (fit_u32 (by omega))) ?_
             | refine wl_v (x_convU Try.underlying5 Try.underlying48 (tmI rfl rfl) rfl) ?_
             | refine wl_v (x_conv Try.underlying5 Try.underlying48 (tmI rfl rfl)) ?_
            refine wl_v (x_xorN (tmI rfl rfl) (tmI rfl rfl) (fit_u32 (by omega)) (fit_u32 (by omega))) ?_
            refine wl_v (x_assign (tmI rfl rfl)) ?_
            refine wl_nil ?_
            refine then_n (hK14 _ _ ?_); clear hK14 K14
            refine wp_seq_k ?_; intro K15 hK15
            refine wlit ?_
            refine wl_v (x_move (ev_cN 0)) ?_
            refine wl_nil ?_
            refine then_n (hK15 _ _ ?_); clear hK15 K15
            refine wp_block ?_
            refine lp [3, 8, 25, 26, 27, 28, 29, 30, 31, 32, 33, 34] (fun mz g w => ∃ (i : Nat), mz = 8 - i ∧ g 25 = .int .i64 (i : Int) ∧ g 3 = .int .u32 ((cstN i (q1 ^^^ lr.getD j 0) : Nat) : Int) ∧ St [] w0 [.vw (some ⟨b5, o5, none⟩) (lr.map u8v), .vw (some ⟨b4, o4, none⟩) (rows.map rowV)] w ∧ (i ≤ 8)) ?_ ?_
            · exact ⟨_, 0, rfl, (by first | rfl | go_num | exact congrArg (Value.int _) (by first | omega | (simp; done) | (simp; omega))), (by first | rfl | go_num | exact congrArg (Value.int _) (by first | omega | (simp; done) | (simp; omega))), hS, (by omega)⟩
            · clear hS; intro mz g w hI
              obtain ⟨i, rfl, hs25, hs3, hS, hi⟩ := hI
              refine fr_know (d := 25) hs25 ?_; clear hs25
              refine fr_know (d := 3) hs3 ?_; clear hs3
              refine wp_seq_k ?_; intro K16 hK16
              refine wlit ?_
              refine wl_v (x_lss (tmI rfl rfl) (ev_cN 8)) ?_
              refine wl_nil ?_
              refine then_n (hK16 _ _ ?_); clear hK16 K16
              refine wp_seq_k ?_; intro K17 hK17
              refine cnd (tm rfl) (fun hc2 => ?_) (fun hc2 => ?_)
              · try (exfalso; first | with_reducible exact absurd hc2 Bool.false_ne_true | with_reducible exact absurd hc2.symm Bool.false_ne_true | (simp only [nrm] at hc2; omega) | (simp at hc2; done))
                all_goals
                 try simp only [nrm] at hc2
                 have hqi := hqn i
                 have han : cstN i (q1 ^^^ lr.getD j 0) &&& 1 = cstN i (q1 ^^^ lr.getD j 0) % 2 := Nat.and_one_is_mod _
                 have hm2 : cstN i (q1 ^^^ lr.getD j 0) % 2 < 2 := Nat.mod_lt _ (by omega)
                 refine wp_skip ?_
                 refine then_n (hK17 _ _ ?_); clear hK17 K17
                 refine wp_seq_k ?_; intro K18 hK18
                 refine wp_block ?_
                 refine wp_seq_k ?_; intro K19 hK19
                 refine wlit ?_
                 refine wl_v (x_move (tmI rfl rfl)) ?_
                 refine wl_v (x_andN (tmI rfl rfl) (ev_cN 1) (fit_u32 (by omega)) (fit_u32 (by omega))) ?_
                 refine wl_v (x_assign (tmI rfl rfl)) ?_
                 refine wl_nil ?_
                 refine then_n (hK19 _ _ ?_); clear hK19 K19
                 refine wlit ?_
                 refine wl_v (x_move (tmI rfl rfl)) ?_
                 refine wl_v (x_shrN (tmI rfl rfl) (ev_cN 1) (fit_u32 (by omega))) ?_
                 refine wl_v (x_move (tmI rfl rfl)) ?_
                 first
                  | refine wl_v (x_mulN (tmI rfl rfl) (ev_cN 2197175160) (fit_u32 (by omega))) ?_
                  | refine wl_v (x_mulI (tmI rfl rfl) (ev_cN 2197175160) (IntWalk.u32_in _ (by omega))) ?_
                  | refine wl_v (x_mulU (tmI rfl rfl) (ev_cN 2197175160) rfl) ?_
                  | refine wl_v (x_mul (tmI rfl rfl) (ev_cN 2197175160)) ?_
                 refine wl_v (x_xorN (tmI rfl rfl) (tmI rfl rfl) (fit_u32 (by omega)) (fit_u32 (by omega))) ?_
                 refine wl_v (x_assign (tmI rfl rfl)) ?_
                 refine wl_nil ?_
                 refine inb_n ?_
                 refine then_n (hK18 _ _ ?_); clear hK18 K18
                 refine wlit ?_
                 first
                  | refine wl_v (x_addN (tmI rfl rfl) (ev_cN 1) (fit_i64 (by omega))) ?_
                  | refine wl_v (x_addI (tmI rfl rfl) (ev_cN 1) (IntWalk.i64_in _ (by omega))) ?_
                  | refine wl_v (x_add (tmI rfl rfl) (ev_cN 1)) ?_
                 refine wl_v (x_move (tmI rfl rfl)) ?_
                 refine wl_nil ?_
                 exact then_n ⟨_, _, rfl, (by show _ < _; omega), (by repeat (first | exact agree_self | exact agree_refl | refine agree_upd rfl ?_ | refine agree_mix rfl ?_)), i + 1, rfl, (by first | rfl | go_num | exact congrArg (Value.int _) (by first | omega | (simp; done) | (simp; omega))), (by first | rfl | ((rw [cst_p]; rfl); done) | ((rw [cst_p]; rfl); rfl) | ((rw [cst_p]; rfl); go_num)), hS, (by omega)⟩
              try (exfalso; first | with_reducible exact absurd hc2 Bool.false_ne_true | with_reducible exact absurd hc2.symm Bool.false_ne_true | (simp only [nrm] at hc2; omega) | (simp at hc2; done))
              all_goals
               try simp only [nrm] at hc2
               refine wp_exit ?_
               refine then_x ?_; clear hK17 K17
               refine then_x ?_
               refine inb_x ?_
               refine inb_n ?_
               refine then_n (hK12 _ _ ?_); clear hK12 K12
               obtain rfl : i = 8 := by omega
               refine wlit ?_
               first
                | refine wl_v (x_addN (tmI rfl rfl) (ev_cN 1) (fit_i64 (by omega))) ?_
                | refine wl_v (x_addI (tmI rfl rfl) (ev_cN 1) (IntWalk.i64_in _ (by omega))) ?_
                | refine wl_v (x_add (tmI rfl rfl) (ev_cN 1)) ?_
               refine wl_v (x_move (tmI rfl rfl)) ?_
               refine wl_nil ?_
               exact then_n ⟨_, _, rfl, (by show _ < _; omega), (by repeat (first | exact agree_self | exact agree_refl | refine agree_upd rfl ?_ | refine agree_mix rfl ?_)), j + 1, rfl, (by first | rfl | go_num | exact congrArg (Value.int _) (by first | omega | (simp; done) | (simp; omega))), (by first | rfl | (rw [hx2]; done) | (rw [hx2]; rfl) | (rw [hx2]; go_num)), hS, (by omega)⟩
         try (exfalso; first | with_reducible exact absurd hc1 Bool.false_ne_true | with_reducible exact absurd hc1.symm Bool.false_ne_true | (simp only [nrm] at hc1; omega) | (simp at hc1; done))
         all_goals
          try simp only [nrm] at hc1
          refine wp_exit ?_
          refine then_x ?_; clear hK11 K11
          refine then_x ?_
          refine inb_x ?_
          refine inb_n ?_
          refine then_n (hK7 _ _ ?_); clear hK7 K7
          obtain rfl : j = lr.length := by omega
          refine wlit ?_
          first
           | refine wl_v (x_addN (tmI rfl rfl) (ev_cN 1) (fit_i64 (by omega))) ?_
           | refine wl_v (x_addI (tmI rfl rfl) (ev_cN 1) (IntWalk.i64_in _ (by omega))) ?_
           | refine wl_v (x_add (tmI rfl rfl) (ev_cN 1)) ?_
          refine wl_v (x_move (tmI rfl rfl)) ?_
          refine wl_nil ?_
          exact then_n ⟨_, _, rfl, (by show _ < _; omega), (by repeat (first | exact agree_self | exact agree_refl | refine agree_upd rfl ?_ | refine agree_mix rfl ?_)), k + 1, rfl, (by first | rfl | go_num | exact congrArg (Value.int _) (by first | omega | (simp; done) | (simp; omega))), (by first | rfl | ((rw [List.take_length, ← hx]); done) | ((rw [List.take_length, ← hx]); rfl) | ((rw [List.take_length, ← hx]); go_num)), hS.pick [1] rfl rfl, (by omega)⟩
    try (exfalso; first | with_reducible exact absurd hc0 Bool.false_ne_true | with_reducible exact absurd hc0.symm Bool.false_ne_true | (simp only [nrm] at hc0; omega) | (simp at hc0; done))
    all_goals
     try simp only [nrm] at hc0
     refine wp_exit ?_
     refine then_x ?_; clear hK6 K6
     refine then_x ?_
     refine inb_x ?_
     refine then_n (hK3 _ _ ?_); clear hK3 K3
     refine wp_seq_k ?_; intro K20 hK20
     have hbt : Bytes (joined (rows.take k)) := joined_bytes fun r hr => hby r (List.mem_of_mem_take hr)
     have hcl := crcL_lt hbt (c := 4294967295) (by decide)
     refine wlit ?_
     refine wl_v (x_move (tmI rfl rfl)) ?_
     refine wl_v (x_xor (tmI rfl rfl) (fit_u32 (by omega))) ?_
     refine wl_v (x_assign (tmI rfl rfl)) ?_
     refine wl_nil ?_
     refine then_n (hK20 _ _ ?_); clear hK20 K20
     refine wp_ret ?_
     refine ret1 rfl (.tmp rfl (show _ = Value.int _ _ from rfl)) ?_
     obtain rfl : n = k := by omega
     rw [List.take_of_length_le (by omega)]
     exact ⟨rfl, hS.kp⟩
set_option maxRecDepth 100000 in
set_option maxHeartbeats 4000000 in
theorem rcrc_c (n : Nat) (A : Option Addr) (c : Nat) (l : List Nat) (w0 : World) (hv : View w0 w0.heap.size A (l.map u8v)) (hl : l.length = n) (hn4 : n ≤ 1000000) (hb : Bytes l) :
    Calls Try.prog 25 #[.slice A n c] w0 fun e w' => e = .returned (.int .u32 ((crc l : Nat) : Int)) ∧ Kp [] w0 w' := by
  have hS := (St.sv w0).vcons rfl hv
  refine ent (n := 33) Try.func25 rfl rfl ?_
  refine wp_seq_k ?_; intro K1 hK1
  refine wlit ?_
  refine wl_v (x_assign (ev_cN 0)) ?_
  refine wl_nil ?_
  refine then_n (hK1 _ _ ?_); clear hK1 K1
  refine wp_seq_k ?_; intro K2 hK2
  refine wlit ?_
  refine wl_v (x_assign (ev_cN 4294967295)) ?_
  refine wl_nil ?_
  refine then_n (hK2 _ _ ?_); clear hK2 K2
  refine wp_seq_k ?_; intro K3 hK3
  refine wp_seq_k ?_; intro K4 hK4
  refine wlit ?_
  refine wl_v (x_assign (ev_cN 0)) ?_
  refine wl_nil ?_
  refine then_n (hK4 _ _ ?_); clear hK4 K4
  refine wp_block ?_
  refine lp [3, 4, 5, 6, 7, 8, 9, 10, 11, 12, 13, 14, 15, 16, 17, 18, 19, 20, 21, 22, 23, 24, 25, 26, 27, 28, 29, 30] (fun mz g w => ∃ (j : Nat), mz = n - j ∧ g 4 = .int .i64 (j : Int) ∧ g 3 = .int .u32 ((crcL 4294967295 (l.take j) : Nat) : Int) ∧ St [] w0 [.vw A (l.map u8v)] w ∧ (j ≤ n)) ?_ ?_
  · exact ⟨_, 0, rfl, (by first | rfl | go_num | exact congrArg (Value.int _) (by first | omega | (simp; done) | (simp; omega))), (by first | rfl | go_num | exact congrArg (Value.int _) (by first | omega | (simp; done) | (simp; omega))), hS, (by omega)⟩
  · clear hS; intro mz g w hI
    obtain ⟨j, rfl, hs4, hs3, hS, hj⟩ := hI
    refine fr_know (d := 4) hs4 ?_; clear hs4
    refine fr_know (d := 3) hs3 ?_; clear hs3
    refine wp_seq_k ?_; intro K5 hK5
    refine wp_seq_k ?_; intro K6 hK6
    refine wlit ?_
    refine wl_v (x_move (tmI rfl rfl)) ?_
    refine wl_v (x_move (tmS rfl rfl)) ?_
    refine wl_v (x_len Try.underlying22 (tmS rfl rfl)) ?_
    refine wl_v (x_lss (tmI rfl rfl) (tmI rfl rfl)) ?_
    refine wl_nil ?_
    refine then_n (hK6 _ _ ?_); clear hK6 K6
    refine cnd (tm rfl) (fun hc0 => ?_) (fun hc0 => ?_)
    · try (exfalso; first | with_reducible exact absurd hc0 Bool.false_ne_true | with_reducible exact absurd hc0.symm Bool.false_ne_true | (simp only [nrm] at hc0; omega) | (simp at hc0; done))
      all_goals
       try simp only [nrm] at hc0
       obtain ⟨b5, o5, rfl⟩ := view_some (viewV hS.ok 0 rfl) (by rw [List.length_map]; omega)
       have hbj : l.getD j 0 < 256 := nth_lt hb j
       have hx2 := crcL_snoc 4294967295 l j (by omega)
       have hq1 := crcL_lt (hb.take j) (c := 4294967295) (by decide)
       have hq2 := crcx_lt hq1 hbj
       generalize crcL 4294967295 (l.take j) = q1 at *
       have hqn := cstN_lt hq2
       refine wp_skip ?_
       refine then_n (hK5 _ _ ?_); clear hK5 K5
       refine wp_seq_k ?_; intro K7 hK7
       refine wp_block ?_
       refine wp_seq_k ?_; intro K8 hK8
       refine wlit ?_
       refine wl_v (x_move (tmI rfl rfl)) ?_
       refine wl_v (x_move (tmS rfl rfl)) ?_
       refine wl_v (x_move (tmI rfl rfl)) ?_
       refine wl_v (x_ixs1 Try.underlying22 ts_5 (tmS rfl rfl) (tmI rfl rfl) (by omega)) ?_
       first
        | refine wl_v (x_load Try.underlying5 rfl (tmP rfl rfl) (cellV hS.ok 0 rfl rfl)) ?_
        | refine wl_v (x_load Try.underlying5 rfl (tmP rfl rfl) (cellV hS.ok 0 rfl (getm (by omega)))) ?_
        | refine wl_v (x_load Try.underlying5 rfl (tmP rfl rfl) (cellVs hS.ok 0 rfl (fun _ => rfl) rfl (by omega) rfl)) ?_
       first
        | refine wl_v (x_convN Try.underlying5 Try.underlying48 (tmI rfl rfl) (fit_u32 (by omega))) ?_
        | refine wl_v (x_convU Try.underlying5 Try.underlying48 (tmI rfl rfl) rfl) ?_
        | refine wl_v (x_conv Try.underlying5 Try.underlying48 (tmI rfl rfl)) ?_
       refine wl_v (x_xorN (tmI rfl rfl) (tmI rfl rfl) (fit_u32 (by omega)) (fit_u32 (by omega))) ?_
       refine wl_v (x_assign (tmI rfl rfl)) ?_
       refine wl_nil ?_
       refine then_n (hK8 _ _ ?_); clear hK8 K8
       refine wp_seq_k ?_; intro K9 hK9
       refine wlit ?_
       refine wl_v (x_assign (ev_cN 0)) ?_
       refine wl_nil ?_
       refine then_n (hK9 _ _ ?_); clear hK9 K9
       refine wp_block ?_
       refine lp [3, 5, 19, 20, 21, 22, 23, 24, 25, 26, 27, 28, 29, 30] (fun mz g w => ∃ (i : Nat), mz = 8 - i ∧ g 5 = .int .i64 (i : Int) ∧ g 3 = .int .u32 ((cstN i (q1 ^^^ l.getD j 0) : Nat) : Int) ∧ St [] w0 [.vw (some ⟨b5, o5, none⟩) (l.map u8v)] w ∧ (i ≤ 8)) ?_ ?_
       · exact ⟨_, 0, rfl, (by first | rfl | go_num | exact congrArg (Value.int _) (by first | omega | (simp; done) | (simp; omega))), (by first | rfl | go_num | exact congrArg (Value.int _) (by first | omega | (simp; done) | (simp; omega))), hS, (by omega)⟩
       · clear hS; intro mz g w hI
         obtain ⟨i, rfl, hs5, hs3, hS, hi⟩ := hI
         refine fr_know (d := 5) hs5 ?_; clear hs5
         refine fr_know (d := 3) hs3 ?_; clear hs3
         refine wp_seq_k ?_; intro K10 hK10
         refine wp_seq_k ?_; intro K11 hK11
         refine wlit ?_
         refine wl_v (x_move (tmI rfl rfl)) ?_
         refine wl_v (x_lss (tmI rfl rfl) (ev_cN 8)) ?_
         refine wl_nil ?_
         refine then_n (hK11 _ _ ?_); clear hK11 K11
         refine cnd (tm rfl) (fun hc1 => ?_) (fun hc1 => ?_)
         · try (exfalso; first | with_reducible exact absurd hc1 Bool.false_ne_true | with_reducible exact absurd hc1.symm Bool.false_ne_true | (simp only [nrm] at hc1; omega) | (simp at hc1; done))
           all_goals
            try simp only [nrm] at hc1
            have hqi := hqn i
            have hqd : cstN i (q1 ^^^ l.getD j 0) / 2 ≤ cstN i (q1 ^^^ l.getD j 0) := Nat.div_le_self _ _
            refine wp_skip ?_
            refine then_n (hK10 _ _ ?_); clear hK10 K10
            refine wp_seq_k ?_; intro K12 hK12
            refine wp_block ?_
            refine wp_seq_k ?_; intro K13 hK13
            refine wlit ?_
            refine wl_v (x_move (tmI rfl rfl)) ?_
            first
             | refine wl_v (x_remN (tmI rfl rfl) (ev_cN 2) (by omega)) ?_
             | refine wl_v (x_rem (tmI rfl rfl) (ev_cN 2) (by omega)) ?_
            refine wl_v (x_eql (tmI rfl rfl) (ev_cN 1)) ?_
            refine wl_nil ?_
            refine then_n (hK13 _ _ ?_); clear hK13 K13
            refine cnd (tm rfl) (fun hc2 => ?_) (fun hc2 => ?_)
            · try (exfalso; first | with_reducible exact absurd hc2 Bool.false_ne_true | with_reducible exact absurd hc2.symm Bool.false_ne_true | (simp only [nrm] at hc2; omega) | (simp at hc2; done))
              all_goals
               try simp only [nrm] at hc2
               have hc2' : cstN i (q1 ^^^ l.getD j 0) % 2 = 1 := by first | exact hc2 | (simp at hc2; omega)
               refine wlit ?_
               refine wl_v (x_move (tmI rfl rfl)) ?_
               first
                | refine wl_v (x_quoN (tmI rfl rfl) (ev_cN 2) (by omega) (fit_u32 (by omega))) ?_
                | refine wl_v (x_quo (tmI rfl rfl) (ev_cN 2) (by omega)) ?_
               refine wl_v (x_xorN (tmI rfl rfl) (ev_cN 2197175160) (fit_u32 (by omega)) (fit_u32 (by omega))) ?_
               refine wl_v (x_assign (tmI rfl rfl)) ?_
               refine wl_nil ?_
               refine inb_n ?_
               refine then_n (hK12 _ _ ?_); clear hK12 K12
               refine wlit ?_
               refine wl_v (x_move (tmI rfl rfl)) ?_
               first
                | refine wl_v (x_addN (tmI rfl rfl) (ev_cN 1) (fit_i64 (by omega))) ?_
                | refine wl_v (x_addI (tmI rfl rfl) (ev_cN 1) (IntWalk.i64_in _ (by omega))) ?_
                | refine wl_v (x_add (tmI rfl rfl) (ev_cN 1)) ?_
               refine wl_v (x_assign (tmI rfl rfl)) ?_
               refine wl_nil ?_
               exact then_n ⟨_, _, rfl, (by show _ < _; omega), (by repeat (first | exact agree_self | exact agree_refl | refine agree_upd rfl ?_ | refine agree_mix rfl ?_)), i + 1, rfl, (by first | rfl | go_num | exact congrArg (Value.int _) (by first | omega | (simp; done) | (simp; omega))), (by first | rfl | (first | (rw [cst_one hc2']; rfl) | (rw [cst_zero hc2']; rfl); done) | (first | (rw [cst_one hc2']; rfl) | (rw [cst_zero hc2']; rfl); rfl) | (first | (rw [cst_one hc2']; rfl) | (rw [cst_zero hc2']; rfl); go_num)), hS, (by omega)⟩
            try (exfalso; first | with_reducible exact absurd hc2 Bool.false_ne_true | with_reducible exact absurd hc2.symm Bool.false_ne_true | (simp only [nrm] at hc2; omega) | (simp at hc2; done))
            all_goals
             try simp only [nrm] at hc2
             have hc2' : ¬ cstN i (q1 ^^^ l.getD j 0) % 2 = 1 := by first | exact hc2 | (simp at hc2; omega)
             refine wlit ?_
             refine wl_v (x_move (tmI rfl rfl)) ?_
             first
              | refine wl_v (x_quoN (tmI rfl rfl) (ev_cN 2) (by omega) (fit_u32 (by omega))) ?_
              | refine wl_v (x_quo (tmI rfl rfl) (ev_cN 2) (by omega)) ?_
             refine wl_v (x_assign (tmI rfl rfl)) ?_
             refine wl_nil ?_
             refine inb_n ?_
             refine then_n (hK12 _ _ ?_); clear hK12 K12
             refine wlit ?_
             refine wl_v (x_move (tmI rfl rfl)) ?_
             first
              | refine wl_v (x_addN (tmI rfl rfl) (ev_cN 1) (fit_i64 (by omega))) ?_
              | refine wl_v (x_addI (tmI rfl rfl) (ev_cN 1) (IntWalk.i64_in _ (by omega))) ?_
              | refine wl_v (x_add (tmI rfl rfl) (ev_cN 1)) ?_
             refine wl_v (x_assign (tmI rfl rfl)) ?_
             refine wl_nil ?_
             exact then_n ⟨_, _, rfl, (by show _ < _; omega), (by repeat (first | exact agree_self | exact agree_refl | refine agree_upd rfl ?_ | refine agree_mix rfl ?_)), i + 1, rfl, (by first | rfl | go_num | exact congrArg (Value.int _) (by first | omega | (simp; done) | (simp; omega))), (by first | rfl | (first | (rw [cst_one hc2']; rfl) | (rw [cst_zero hc2']; rfl); done) | (first | (rw [cst_one hc2']; rfl) | (rw [cst_zero hc2']; rfl); rfl) | (first | (rw [cst_one hc2']; rfl) | (rw [cst_zero hc2']; rfl); go_num)), hS, (by omega)⟩
         try (exfalso; first | with_reducible exact absurd hc1 Bool.false_ne_true | with_reducible exact absurd hc1.symm Bool.false_ne_true | (simp only [nrm] at hc1; omega) | (simp at hc1; done))
         all_goals
          try simp only [nrm] at hc1
          refine wp_exit ?_
          refine then_x ?_; clear hK10 K10
          refine then_x ?_
          refine inb_x ?_
          refine inb_n ?_
          refine then_n (hK7 _ _ ?_); clear hK7 K7
          obtain rfl : i = 8 := by omega
          refine wlit ?_
          refine wl_v (x_move (tmI rfl rfl)) ?_
          first
           | refine wl_v (x_addN (tmI rfl rfl) (ev_cN 1) (fit_i64 (by omega))) ?_
           | refine wl_v (x_addI (tmI rfl rfl) (ev_cN 1) (IntWalk.i64_in _ (by omega))) ?_
           | refine wl_v (x_add (tmI rfl rfl) (ev_cN 1)) ?_
          refine wl_v (x_assign (tmI rfl rfl)) ?_
          refine wl_nil ?_
          exact then_n ⟨_, _, rfl, (by show _ < _; omega), (by repeat (first | exact agree_self | exact agree_refl | refine agree_upd rfl ?_ | refine agree_mix rfl ?_)), j + 1, rfl, (by first | rfl | go_num | exact congrArg (Value.int _) (by first | omega | (simp; done) | (simp; omega))), (by first | rfl | (rw [hx2]; done) | (rw [hx2]; rfl) | (rw [hx2]; go_num)), hS, (by omega)⟩
    try (exfalso; first | with_reducible exact absurd hc0 Bool.false_ne_true | with_reducible exact absurd hc0.symm Bool.false_ne_true | (simp only [nrm] at hc0; omega) | (simp at hc0; done))
    all_goals
     try simp only [nrm] at hc0
     refine wp_exit ?_
     refine then_x ?_; clear hK5 K5
     refine then_x ?_
     refine inb_x ?_
     refine then_n (hK3 _ _ ?_); clear hK3 K3
     refine wp_seq_k ?_; intro K14 hK14
     have hcl := crcL_lt (hb.take j) (c := 4294967295) (by decide)
     refine wlit ?_
     refine wl_v (x_move (tmI rfl rfl)) ?_
     refine wl_v (x_xor (tmI rfl rfl) (fit_u32 (by omega))) ?_
     refine wl_v (x_assign (tmI rfl rfl)) ?_
     refine wl_nil ?_
     refine then_n (hK14 _ _ ?_); clear hK14 K14
     refine wp_ret ?_
     refine ret1 rfl (.tmp rfl (show _ = Value.int _ _ from rfl)) ?_
     obtain rfl : n = j := by omega
     rw [List.take_of_length_le (by omega)]
     exact ⟨rfl, hS.kp⟩
end Go.Proofs.Ytcimbinkjepkcaa
