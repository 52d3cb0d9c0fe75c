
/- follow: what is read, by both. Conditions: none but bounds. -/
import Derived.Test.YtmokaeflnlajgaaFwA
namespace Go.Proofs.Ytmokaeflnlajgaa
open Go.ChangeShapes Go.WideShapes Go.ChangeAt Go.RowKit
/-- The Reader's place behind i parts. -/
def fq (l : List Nat) (n : Nat) (q : Option Nat) : Nat → Option Nat
  | 0 => q
  | i + 1 => adv n (rdN l n 2 (fq l n q i)) (adv n 2 (fq l n q i))
/-- The i-th part. -/
def fx (l : List Nat) (n : Nat) (q : Option Nat) (i : Nat) : List Nat := rdB l n (rdN l n 2 (fq l n q i)) (adv n 2 (fq l n q i))
def fparts (l : List Nat) (n : Nat) (q : Option Nat) (k : Nat) : List (List Nat) := (List.range k).map (fx l n q)
theorem fparts_succ (l : List Nat) (n : Nat) (q : Option Nat) (k : Nat) : fparts l n q (k + 1) = fparts l n q k ++ [fx l n q k] := by
  unfold fparts
  rw [List.range_succ, List.map_append]
  rfl
theorem fparts_len (l : List Nat) (n : Nat) (q : Option Nat) (k : Nat) : (fparts l n q k).length = k := by unfold fparts; simp
def q1 (n : Nat) : Option Nat := adv n 1 (some 0)
def q9 (n : Nat) : Option Nat := adv n 8 (q1 n)
def q10 (n : Nat) : Option Nat := adv n 1 (q9 n)
def fkind (l : List Nat) (n : Nat) : Nat := rdN l n 1 (some 0)
def fnum (l : List Nat) (n : Nat) : Nat := rdN l n 8 (q1 n)
def fcnt (l : List Nat) (n : Nat) : Nat := rdN l n 1 (q9 n)
def fend (l : List Nat) (n : Nat) : Option Nat := fq l n (q10 n) (fcnt l n)
/-- Are the bytes a message? -/
def frLens (kind : Int) (xs : List (List Nat)) : Prop := (∀ x ∈ xs, x.length ≤ 65535) ∧ cntP kind xs.length
theorem frP_lens (kind : Int) (rows : List Row3) : frP kind rows ↔ frLens kind (rows.map (·.2.1)) := by
  unfold frP frLens
  rw [List.length_map]
  constructor
  · rintro ⟨h1, h2⟩
    refine ⟨fun x hx => ?_, h2⟩
    obtain ⟨r, hr, rfl⟩ := List.mem_map.1 hx
    exact h1 r hr
  · rintro ⟨h1, h2⟩
    exact ⟨fun r hr => h1 _ (List.mem_map_of_mem hr), h2⟩
def fOk (l : List Nat) (n : Nat) : Prop := frLens (fkind l n : Int) (fparts l n (q10 n) (fcnt l n)) ∧ fend l n = some n
/-- What reading gives: the message, or the zero message. -/
def FwR (w w' : World) (l : List Nat) (n : Nat) (kind : Int) (num : Nat) (L : Option Addr) (nr cr : Nat) (rows : List Row3) : Prop :=
  rows.length = nr ∧ NewV w w' L (rows.map rowV) ∧ Vws w' rows ∧ (∀ r ∈ rows, Bytes r.2.1) ∧
    ((fOk l n ∧ kind = (fkind l n : Int) ∧ num = fnum l n ∧ rows.map (·.2.1) = fparts l n (q10 n) (fcnt l n)) ∨ (¬ fOk l n ∧ kind = 0 ∧ num = 0 ∧ rows = []))
theorem fx_len {l : List Nat} {n : Nat} (hl : l.length = n) (hb : Bytes l) (q : Option Nat) (i : Nat) : (fx l n q i).length ≤ 65535 := by
  have h1 := rdB_len (k := rdN l n 2 (fq l n q i)) hl (adv n 2 (fq l n q i))
  have h2 := rdN_lt (n := n) (k := 2) hb (fq l n q i)
  unfold fx
  omega
theorem fparts_mem {l : List Nat} {n : Nat} {q : Option Nat} {k : Nat} {x : List Nat} (h : x ∈ fparts l n q k) : ∃ i, x = fx l n q i := by
  obtain ⟨i, _, rfl⟩ := List.mem_map.1 h
  exact ⟨i, rfl⟩
theorem rows_mem {rows : List Row3} {l : List Nat} {n : Nat} {q : Option Nat} {k : Nat} (hM : rows.map (·.2.1) = fparts l n q k) {r : Row3} (hr : r ∈ rows) : ∃ i, r.2.1 = fx l n q i :=
  fparts_mem (k := k) (by rw [← hM]; exact List.mem_map_of_mem hr)
theorem fx_bytes {l : List Nat} {n : Nat} (hb : Bytes l) (q : Option Nat) (i : Nat) : Bytes (fx l n q i) := rdB_bytes hb _
theorem rd_end {A0 A : Option Addr} {n m c : Nat} {q : Option Nat} {bad : Bool} (h : RdO A0 n q A m c bad) : q = some n ↔ bad = false ∧ m = 0 := by
  cases q with
  | none =>
    obtain ⟨rfl, _⟩ := h
    constructor
    · intro h; cases h
    · rintro ⟨h, _⟩; cases h
  | some p =>
    obtain ⟨rfl, h1, h2, _⟩ := h
    constructor
    · intro h
      injection h with h
      exact ⟨rfl, by omega⟩
    · rintro ⟨_, h⟩
      exact congrArg some (by omega)
theorem rows_snoc (rows : List Row3) (r : Row3) : (rows ++ [r]).map rowV = rows.map rowV ++ [rowV r] := by rw [List.map_append]; rfl
set_option maxRecDepth 100000 in
set_option maxHeartbeats 8000000 in
theorem fparse_c (n : Nat) (A : Option Addr) (c : Nat) (l : List Nat) (w0 : World) (hv : View w0 w0.heap.size A (l.map u8v)) (hl : l.length = n) (hn4 : n ≤ 1000000) (hb : Bytes l) :
    Calls Try.prog 6 #[.slice A n c] w0 fun e w' => ∃ kind num L nr cr rows er, e = .returned (.tuple #[.agg (fmV kind num L nr cr).toArray, .int .i64 er]) ∧ FwR w0 w' l n kind num L nr cr rows ∧ (fOk l n → er = 0) ∧ (¬ fOk l n → er = 21) ∧ nr ≤ cr ∧ Kp [] w0 w' := by
  have hS := (St.sv w0).vcons rfl hv
  refine ent (n := 43) Try.func6 rfl rfl ?_
  refine wp_seq_k ?_; intro K1 hK1
  refine wlit ?_
  refine wl_e rfl ?_; intro K hK
  refine ow_alloc hS tz_29 rfl ?_
  clear hS; intro g0_0 w hg0_0 hS
  refine hK _ _ ?_; clear hK K
  refine wl_v (x_assign (ev_cN 0)) ?_
  refine wl_nil ?_
  refine then_n (hK1 _ _ ?_); clear hK1 K1
  refine wp_seq_k ?_; intro K2 hK2
  refine wlit ?_
  refine wl_v (x_move (tmS rfl rfl)) ?_
  refine wl_e rfl ?_; intro K hK
  refine ow_call Try.func15 rfl rfl (evs_cons (tmS rfl rfl) <| evs_nil) (read_c n A c l _ (viewV hS.ok 1 rfl) hl hn4) ?_
  rintro e w ⟨gr, A0, rfl, hS2⟩
  refine ⟨_, rfl, ?_⟩
  replace hS := hS.leave [] [0] rfl rfl rfl hS2 rfl --ents gr,row0,g0_0
  clear hS2
  replace hS := (hS.freeze 1 rfl) --ents gr,va,g0_0
  try replace hS := St.nm (M' := [_, .vw _ _, .blk _ _ [_, _, _]]) hS rfl
  refine hK _ _ ?_; clear hK K
  refine wl_v (x_assign (tmP rfl rfl)) ?_
  refine wl_nil ?_
  refine then_n (hK2 _ _ ?_); clear hK2 K2
  refine wp_seq_k ?_; intro K3 hK3
  refine wlit ?_
  refine wl_v (x_move (tmP rfl rfl)) ?_
  refine wl_e rfl ?_; intro K hK
  refine ow_call Try.func16 rfl rfl (evs_cons (tmP rfl rfl) <| evs_nil) (byteT_c gr A0 A0 (some 0) n n n l false _ _ (hS.enter [0] [1] rfl rfl) ⟨rfl, Nat.zero_le _, rfl, off_zero, Nat.le_refl _⟩ hl hb) ?_
  rintro e w ⟨A1, m1, c1, b1, rfl, hS2, hR1⟩
  refine ⟨_, rfl, ?_⟩
  replace hS := hS.leave [0] [1, 2] rfl rfl rfl hS2 rfl --ents gr,va,g0_0
  clear hS2
  have hkb : rdN l n 1 (some 0) < 256 := rdN_lt hb _
  try replace hS := St.nm (M' := [_, .vw _ _, .blk _ _ [_, _, _]]) hS rfl
  refine hK _ _ ?_; clear hK K
  first
   | refine wl_v (x_convN Try.underlying5 Try.underlying3 (tmI rfl rfl) (fit_i64 (by omega))) ?_
   | refine wl_v (x_conv Try.underlying5 Try.underlying3 (tmI rfl rfl)) ?_
  refine wl_v (x_move (tmP rfl rfl)) ?_
  refine wl_e rfl ?_; intro K hK
  refine ow_call Try.func17 rfl rfl (evs_cons (tmP rfl rfl) <| evs_cons (ev_cN 8) <| evs_nil) (numT_c gr A0 A1 (q1 n) 8 n m1 c1 l b1 _ _ (hS.enter [0] [1] rfl rfl) hR1 hl hb (by omega)) ?_
  rintro e w ⟨A2, m2, c2, b2, rfl, hS2, hR2⟩
  refine ⟨_, rfl, ?_⟩
  replace hS := hS.leave [0] [1, 2] rfl rfl rfl hS2 rfl --ents gr,va,g0_0
  clear hS2
  have hnb : rdN l n 8 (q1 n) < 18446744073709551616 := rdN_lt hb _
  try replace hS := St.nm (M' := [_, .vw _ _, .blk _ _ [_, _, _]]) hS rfl
  refine hK _ _ ?_; clear hK K
  refine wl_v (x_build (bc_take (tmI rfl rfl) <| bc_take (tmI rfl rfl) <| bc_skip (.slice none 0 0) <| bc_nil) (by kernel_rfl)) ?_
  refine wl_e rfl ?_; intro K hK
  refine ow_alloc hS tz_29 rfl ?_
  clear hS; intro g2_6 w hg2_6 hS
  refine hK _ _ ?_; clear hK K
  refine wl_e rfl ?_; intro K hK
  refine ow_storeA hS 0 rfl ts_29 (tmP rfl rfl) (tmA rfl rfl) rfl rfl rfl ?_
  clear hS; intro w hS
  try replace hS := St.nm (M' := [.blk _ _ [_, _, _], _, .vw _ _, .blk _ _ [_, _, _]]) hS rfl
  refine hK _ _ ?_; clear hK K
  refine wl_nil ?_
  refine then_n (hK3 _ _ ?_); clear hK3 K3
  refine wp_seq_k ?_; intro K4 hK4
  refine wp_seq_k ?_; intro K5 hK5
  refine wlit ?_
  refine wl_v (x_move (tmP rfl rfl)) ?_
  refine wl_e rfl ?_; intro K hK
  refine ow_call Try.func16 rfl rfl (evs_cons (tmP rfl rfl) <| evs_nil) (byteT_c gr A0 A2 (q9 n) n m2 c2 l b2 _ _ (hS.enter [1] [2] rfl rfl) hR2 hl hb) ?_
  rintro e w ⟨A3, m3, c3, b3, rfl, hS2, hR3⟩
  refine ⟨_, rfl, ?_⟩
  replace hS := hS.leave [1] [2, 0, 3] rfl rfl rfl hS2 rfl --ents gr,va,g2_6,g0_0
  clear hS2
  have hcb : rdN l n 1 (q9 n) < 256 := rdN_lt hb _
  have hfc : fcnt l n = rdN l n 1 (q9 n) := rfl
  have hfk : fkind l n = rdN l n 1 (some 0) := rfl
  have hfn : fnum l n = rdN l n 8 (q1 n) := rfl
  try replace hS := St.nm (M' := [_, .vw _ _, .blk _ _ [_, _, _], .blk _ _ [_, _, _]]) hS rfl
  refine hK _ _ ?_; clear hK K
  refine wl_v (x_move (ev_cN 0)) ?_
  refine wl_nil ?_
  refine then_n (hK5 _ _ ?_); clear hK5 K5
  refine wp_block ?_
  have hS := (hS.nilrow 26 1).pick [0, 3, 1, 2, 4] rfl rfl --ents row,g2_6,gr,va,g0_0
  refine lp [16, 17, 18, 19, 20, 21, 22, 23, 24, 25, 26, 27, 28] (fun mz g w => ∃ (k : Nat), ∃ (L : Option Addr), ∃ (cr : Nat), ∃ (rows : List Row3), ∃ (A4 : Option Addr), ∃ (m4 c4 : Nat), ∃ (b4 : Bool), mz = fcnt l n - k ∧ g 16 = .int .u8 (k : Int) ∧ St [] w0 [.row (.slice L k cr) 26 1 k (rows.map rowV), .blk g2_6 29 (fmV (fkind l n : Int) (fnum l n) L k cr), .blk gr 60 (rdV A4 m4 c4 b4), .vw A0 (l.map u8v), .blk g0_0 29 (fmV 0 0 none 0 0)] w ∧ (k ≤ fcnt l n) ∧ (RdO A0 n (fq l n (q10 n) k) A4 m4 c4 b4) ∧ (rows.map (·.2.1) = fparts l n (q10 n) k) ∧ (∀ r ∈ rows, Sub A0 l r.1 r.2.1)) ?_ ?_
  · exact ⟨_, 0, none, 0, [], A3, m3, c3, b3, rfl, (by first | rfl | go_num | exact congrArg (Value.int _) (by first | omega | (simp; done) | (simp; omega))), hS, (by omega), (by first | exact hR5 | exact hR3), (by first | exact hM2 | rfl), (by first | exact hsub2 | exact (fun r hr => absurd hr (List.not_mem_nil)))⟩
  · clear hS; intro mz g w hI
    obtain ⟨k, L, cr, rows, A4, m4, c4, b4, rfl, hs16, hS, hk, hR, hM, hsub⟩ := hI
    refine fr_know (d := 16) hs16 ?_; clear hs16
    refine wp_seq_k ?_; intro K6 hK6
    refine wlit ?_
    refine wl_v (x_lss (tmI rfl rfl) (tmI rfl rfl)) ?_
    refine wl_nil ?_
    refine then_n (hK6 _ _ ?_); clear hK6 K6
    refine wp_seq_k ?_; intro K7 hK7
    refine cnd (tm rfl) (fun hc0 => ?_) (fun hc0 => ?_)
    · try (exfalso; first | with_reducible exact absurd hc0 Bool.false_ne_true | with_reducible exact absurd hc0.symm Bool.false_ne_true | (simp only [nrm] at hc0; omega) | (simp at hc0; done))
      all_goals
       try simp only [nrm] at hc0
       refine wp_skip ?_
       refine then_n (hK7 _ _ ?_); clear hK7 K7
       refine wp_seq_k ?_; intro K8 hK8
       refine wp_block ?_
       refine cutc [18, 19, 20, 21, 22, 23, 24, 25, 26, 27] (fun g w => ∃ (L2 : Option Addr), ∃ (cr2 : Nat), ∃ (rows2 : List Row3), ∃ (A5 : Option Addr), ∃ (m5 c5 : Nat), ∃ (b5 : Bool), St [] w0 [.row (.slice L2 (k + 1) cr2) 26 1 (k + 1) (rows2.map rowV), .blk g2_6 29 (fmV (fkind l n : Int) (fnum l n) L2 (k + 1) cr2), .blk gr 60 (rdV A5 m5 c5 b5), .vw A0 (l.map u8v), .blk g0_0 29 (fmV 0 0 none 0 0)] w ∧ (RdO A0 n (fq l n (q10 n) (k + 1)) A5 m5 c5 b5) ∧ (rows2.map (·.2.1) = fparts l n (q10 n) (k + 1)) ∧ (∀ r ∈ rows2, Sub A0 l r.1 r.2.1)) ?_ ?_
       · skip
         refine rg_startk 3 hS mixed_ ?_
         clear hS; intro w hS
         refine rg_take 0 rfl rfl (by kernel_rfl) (by kernel_rfl) (by kernel_rfl) (want_0) (fun w hok => x_fa 2 Try.underlying29 rfl rfl ts_23 (tmP rfl rfl)) ?_
         refine rg_take 2 rfl rfl (by kernel_rfl) (by kernel_rfl) (by kernel_rfl) (want_0) (fun w hok => x_move (tmP rfl rfl)) ?_
         refine rg_take 3 rfl rfl (by kernel_rfl) (by kernel_rfl) (by kernel_rfl) (want_0) (fun w hok => x_move (tmP rfl rfl)) ?_
         refine rg_step2 1 4 rfl rfl (by kernel_rfl) (want_0) (want_0) (oks_drop hS 3 rfl) ?_ ?_
         · intro K hK
           first
            | refine ow_v (x_load Try.underlying23 rfl (tmP rfl rfl) (cellB hS.ok 1 rfl rfl)) ?_
            | refine ow_v (x_load Try.underlying23 rfl (tmP rfl rfl) (cellB hS.ok 1 rfl (getm (by omega)))) ?_
           refine hK _ _ ?_; clear hK K
           refine rg_step 4 rfl (by kernel_rfl) (want_0) (oks_drop hS 3 rfl) ?_; intro K hK
           refine ow_call Try.func19 rfl rfl (evs_cons (tmP rfl rfl) <| evs_nil) (wordT_c gr A0 A4 (fq l n (q10 n) k) n m4 c4 l b4 _ _ (hS.enter [2] [3] rfl rfl) hR hl hb) ?_
           rintro e w ⟨A5, m5, c5, b5, rfl, hS2, hR5⟩
           refine ⟨_, rfl, ?_⟩
           replace hS := hS.leave [2] [0, 1, 3, 4] rfl rfl rfl hS2 rfl
           replace hS := hS.pick [1, 2, 0, 3, 4] rfl rfl --ents row,g2_6,gr,va,g0_0
           clear hS2
           have hwb : rdN l n 2 (fq l n (q10 n) k) < 65536 := rdN_lt hb _
           try replace hS := St.nm (M' := [.row _ _ _ _ _, .blk _ _ [_, _, _], _, .vw _ _, .blk _ _ [_, _, _]]) hS rfl
           refine hK _ _ ?_; clear hK K
           first
            | refine rg_take 5 rfl rfl (by kernel_rfl) (by kernel_rfl) (by kernel_rfl) (want_0) (fun w hok => x_convN Try.underlying50 Try.underlying3 (tmI rfl rfl) (fit_i64 (by omega))) ?_
            | refine rg_take 5 rfl rfl (by kernel_rfl) (by kernel_rfl) (by kernel_rfl) (want_0) (fun w hok => x_conv Try.underlying50 Try.underlying3 (tmI rfl rfl)) ?_
           refine rg_step 6 rfl (by kernel_rfl) (want_0) (oks_drop hS 3 rfl) ?_; intro K hK
           refine ow_call Try.func18 rfl rfl (evs_cons (tmP rfl rfl) <| evs_cons (tmI rfl rfl) <| evs_nil) (bytesT_c gr A0 A5 (adv n 2 (fq l n (q10 n) k)) (rdN l n 2 (fq l n (q10 n) k)) n m5 c5 l b5 _ _ (hS.enter [2] [3] rfl rfl) hR5 hl) ?_
           rintro e w ⟨B, nb, A6, m6, c6, b6, hnB, rfl, hsB, hS2, hR6⟩
           refine ⟨_, rfl, ?_⟩
           replace hS := hS.leave [2] [0, 1, 3, 4] rfl rfl rfl hS2 rfl
           replace hS := hS.pick [1, 2, 0, 3, 4] rfl rfl --ents row,g2_6,gr,va,g0_0
           clear hS2
           subst hnB
           try replace hS := St.nm (M' := [.row _ _ _ _ _, .blk _ _ [_, _, _], _, .vw _ _, .blk _ _ [_, _, _]]) hS rfl
           refine hK _ _ ?_; clear hK K
           refine rg_step 7 rfl (by kernel_rfl) (want_0) (oks_drop hS 3 rfl) ?_; intro K hK
           refine ow_build hS Try.underlying23 tz_26 (bc_take (tmS rfl rfl) <| bc_nil) rfl rfl (by kernel_rfl) ?_
           clear hS; intro g5_7 w hg5_7 hS
           refine hK _ _ ?_; clear hK K
           refine rg_step 8 rfl (by kernel_rfl) (want_0) (oks_drop hS 4 rfl) ?_; intro K hK
           (refine ow_append hS 1 0 rfl rfl Try.underlying23 tz_26 rfl (tmS rfl rfl) (tmS rfl rfl) rfl ⟨by decide, by decide, rfl⟩ (by simp only [maxLen]; omega) (by omega) ?_; clear hS; intro g5_8 cg5_8 w hS)
           refine hK _ _ ?_; clear hK K
           refine rg_take 9 rfl rfl (by kernel_rfl) (by kernel_rfl) (by kernel_rfl) (want_0) (fun w hok => x_fa 2 Try.underlying29 rfl rfl ts_23 (tmP rfl rfl)) ?_
           refine rg_step 10 rfl (by kernel_rfl) (want_0) (oks_drop hS 4 rfl) ?_; intro K hK
           first
            | refine ow_store hS 2 rfl ts_23 (tmP rfl rfl) (tmS rfl rfl) rfl rfl ?_
            | refine ow_storeX hS 2 rfl ts_23 (tmP rfl rfl) (tmS rfl rfl) rfl (by simp; omega) ?_
           clear hS; intro w hS
           try replace hS := St.nm (M' := [_, .row _ _ _ _ _, .blk _ _ [_, _, _], _, .vw _ _, .blk _ _ [_, _, _]]) hS rfl
           refine hK _ _ ?_; clear hK K
           refine rg_done (oks_drop hS 4 rfl) (by kernel_rfl) ?_
           exact then_n ⟨_, rfl, (by repeat (first | exact agree_self | exact agree_refl | refine agree_upd rfl ?_ | refine agree_mix rfl ?_)), _, _, rows ++ [(B, fx l n (q10 n) k, (fx l n (q10 n) k).length)], A6, m6, c6, b6, (by rw [rows_snoc]; exact hS.pick [1, 2, 3, 4, 5] rfl rfl), (by exact hR6), (by (rw [List.map_append, hM, fparts_succ]; rfl)), (by (intro r hr; rcases List.mem_append.1 hr with hr | hr; exact hsub r hr; obtain rfl := List.mem_singleton.1 hr; exact hsB))⟩
         · intro K hK
           refine ow_call Try.func19 rfl rfl (evs_cons (tmP rfl rfl) <| evs_nil) (wordT_c gr A0 A4 (fq l n (q10 n) k) n m4 c4 l b4 _ _ (hS.enter [2] [3] rfl rfl) hR hl hb) ?_
           rintro e w ⟨A5, m5, c5, b5, rfl, hS2, hR5⟩
           refine ⟨_, rfl, ?_⟩
           replace hS := hS.leave [2] [0, 1, 3, 4] rfl rfl rfl hS2 rfl
           replace hS := hS.pick [1, 2, 0, 3, 4] rfl rfl --ents row,g2_6,gr,va,g0_0
           clear hS2
           have hwb : rdN l n 2 (fq l n (q10 n) k) < 65536 := rdN_lt hb _
           try replace hS := St.nm (M' := [.row _ _ _ _ _, .blk _ _ [_, _, _], _, .vw _ _, .blk _ _ [_, _, _]]) hS rfl
           refine hK _ _ ?_; clear hK K
           first
            | refine rg_take 5 rfl rfl (by kernel_rfl) (by kernel_rfl) (by kernel_rfl) (want_0) (fun w hok => x_convN Try.underlying50 Try.underlying3 (tmI rfl rfl) (fit_i64 (by omega))) ?_
            | refine rg_take 5 rfl rfl (by kernel_rfl) (by kernel_rfl) (by kernel_rfl) (want_0) (fun w hok => x_conv Try.underlying50 Try.underlying3 (tmI rfl rfl)) ?_
           refine rg_step2 1 6 rfl rfl (by kernel_rfl) (want_0) (want_0) (oks_drop hS 3 rfl) ?_ ?_
           · intro K hK
             first
              | refine ow_v (x_load Try.underlying23 rfl (tmP rfl rfl) (cellB hS.ok 1 rfl rfl)) ?_
              | refine ow_v (x_load Try.underlying23 rfl (tmP rfl rfl) (cellB hS.ok 1 rfl (getm (by omega)))) ?_
             refine hK _ _ ?_; clear hK K
             refine rg_step 6 rfl (by kernel_rfl) (want_0) (oks_drop hS 3 rfl) ?_; intro K hK
             refine ow_call Try.func18 rfl rfl (evs_cons (tmP rfl rfl) <| evs_cons (tmI rfl rfl) <| evs_nil) (bytesT_c gr A0 A5 (adv n 2 (fq l n (q10 n) k)) (rdN l n 2 (fq l n (q10 n) k)) n m5 c5 l b5 _ _ (hS.enter [2] [3] rfl rfl) hR5 hl) ?_
             rintro e w ⟨B, nb, A6, m6, c6, b6, hnB, rfl, hsB, hS2, hR6⟩
             refine ⟨_, rfl, ?_⟩
             replace hS := hS.leave [2] [0, 1, 3, 4] rfl rfl rfl hS2 rfl
             replace hS := hS.pick [1, 2, 0, 3, 4] rfl rfl --ents row,g2_6,gr,va,g0_0
             clear hS2
             subst hnB
             try replace hS := St.nm (M' := [.row _ _ _ _ _, .blk _ _ [_, _, _], _, .vw _ _, .blk _ _ [_, _, _]]) hS rfl
             refine hK _ _ ?_; clear hK K
             refine rg_step 7 rfl (by kernel_rfl) (want_0) (oks_drop hS 3 rfl) ?_; intro K hK
             refine ow_build hS Try.underlying23 tz_26 (bc_take (tmS rfl rfl) <| bc_nil) rfl rfl (by kernel_rfl) ?_
             clear hS; intro g5_7 w hg5_7 hS
             refine hK _ _ ?_; clear hK K
             refine rg_step 8 rfl (by kernel_rfl) (want_0) (oks_drop hS 4 rfl) ?_; intro K hK
             (refine ow_append hS 1 0 rfl rfl Try.underlying23 tz_26 rfl (tmS rfl rfl) (tmS rfl rfl) rfl ⟨by decide, by decide, rfl⟩ (by simp only [maxLen]; omega) (by omega) ?_; clear hS; intro g5_8 cg5_8 w hS)
             refine hK _ _ ?_; clear hK K
             refine rg_take 9 rfl rfl (by kernel_rfl) (by kernel_rfl) (by kernel_rfl) (want_0) (fun w hok => x_fa 2 Try.underlying29 rfl rfl ts_23 (tmP rfl rfl)) ?_
             refine rg_step 10 rfl (by kernel_rfl) (want_0) (oks_drop hS 4 rfl) ?_; intro K hK
             first
              | refine ow_store hS 2 rfl ts_23 (tmP rfl rfl) (tmS rfl rfl) rfl rfl ?_
              | refine ow_storeX hS 2 rfl ts_23 (tmP rfl rfl) (tmS rfl rfl) rfl (by simp; omega) ?_
             clear hS; intro w hS
             try replace hS := St.nm (M' := [_, .row _ _ _ _ _, .blk _ _ [_, _, _], _, .vw _ _, .blk _ _ [_, _, _]]) hS rfl
             refine hK _ _ ?_; clear hK K
             refine rg_done (oks_drop hS 4 rfl) (by kernel_rfl) ?_
             exact then_n ⟨_, rfl, (by repeat (first | exact agree_self | exact agree_refl | refine agree_upd rfl ?_ | refine agree_mix rfl ?_)), _, _, rows ++ [(B, fx l n (q10 n) k, (fx l n (q10 n) k).length)], A6, m6, c6, b6, (by rw [rows_snoc]; exact hS.pick [1, 2, 3, 4, 5] rfl rfl), (by exact hR6), (by (rw [List.map_append, hM, fparts_succ]; rfl)), (by (intro r hr; rcases List.mem_append.1 hr with hr | hr; exact hsub r hr; obtain rfl := List.mem_singleton.1 hr; exact hsB))⟩
           · intro K hK
             refine ow_call Try.func18 rfl rfl (evs_cons (tmP rfl rfl) <| evs_cons (tmI rfl rfl) <| evs_nil) (bytesT_c gr A0 A5 (adv n 2 (fq l n (q10 n) k)) (rdN l n 2 (fq l n (q10 n) k)) n m5 c5 l b5 _ _ (hS.enter [2] [3] rfl rfl) hR5 hl) ?_
             rintro e w ⟨B, nb, A6, m6, c6, b6, hnB, rfl, hsB, hS2, hR6⟩
             refine ⟨_, rfl, ?_⟩
             replace hS := hS.leave [2] [0, 1, 3, 4] rfl rfl rfl hS2 rfl
             replace hS := hS.pick [1, 2, 0, 3, 4] rfl rfl --ents row,g2_6,gr,va,g0_0
             clear hS2
             subst hnB
             try replace hS := St.nm (M' := [.row _ _ _ _ _, .blk _ _ [_, _, _], _, .vw _ _, .blk _ _ [_, _, _]]) hS rfl
             refine hK _ _ ?_; clear hK K
             refine rg_step2 1 7 rfl rfl (by kernel_rfl) (want_0) (want_0) (oks_drop hS 3 rfl) ?_ ?_
             · intro K hK
               first
                | refine ow_v (x_load Try.underlying23 rfl (tmP rfl rfl) (cellB hS.ok 1 rfl rfl)) ?_
                | refine ow_v (x_load Try.underlying23 rfl (tmP rfl rfl) (cellB hS.ok 1 rfl (getm (by omega)))) ?_
               refine hK _ _ ?_; clear hK K
               refine rg_step 7 rfl (by kernel_rfl) (want_0) (oks_drop hS 3 rfl) ?_; intro K hK
               refine ow_build hS Try.underlying23 tz_26 (bc_take (tmS rfl rfl) <| bc_nil) rfl rfl (by kernel_rfl) ?_
               clear hS; intro g5_7 w hg5_7 hS
               refine hK _ _ ?_; clear hK K
               refine rg_step 8 rfl (by kernel_rfl) (want_0) (oks_drop hS 4 rfl) ?_; intro K hK
               (refine ow_append hS 1 0 rfl rfl Try.underlying23 tz_26 rfl (tmS rfl rfl) (tmS rfl rfl) rfl ⟨by decide, by decide, rfl⟩ (by simp only [maxLen]; omega) (by omega) ?_; clear hS; intro g5_8 cg5_8 w hS)
               refine hK _ _ ?_; clear hK K
               refine rg_take 9 rfl rfl (by kernel_rfl) (by kernel_rfl) (by kernel_rfl) (want_0) (fun w hok => x_fa 2 Try.underlying29 rfl rfl ts_23 (tmP rfl rfl)) ?_
               refine rg_step 10 rfl (by kernel_rfl) (want_0) (oks_drop hS 4 rfl) ?_; intro K hK
               first
                | refine ow_store hS 2 rfl ts_23 (tmP rfl rfl) (tmS rfl rfl) rfl rfl ?_
                | refine ow_storeX hS 2 rfl ts_23 (tmP rfl rfl) (tmS rfl rfl) rfl (by simp; omega) ?_
               clear hS; intro w hS
               try replace hS := St.nm (M' := [_, .row _ _ _ _ _, .blk _ _ [_, _, _], _, .vw _ _, .blk _ _ [_, _, _]]) hS rfl
               refine hK _ _ ?_; clear hK K
               refine rg_done (oks_drop hS 4 rfl) (by kernel_rfl) ?_
               exact then_n ⟨_, rfl, (by repeat (first | exact agree_self | exact agree_refl | refine agree_upd rfl ?_ | refine agree_mix rfl ?_)), _, _, rows ++ [(B, fx l n (q10 n) k, (fx l n (q10 n) k).length)], A6, m6, c6, b6, (by rw [rows_snoc]; exact hS.pick [1, 2, 3, 4, 5] rfl rfl), (by exact hR6), (by (rw [List.map_append, hM, fparts_succ]; rfl)), (by (intro r hr; rcases List.mem_append.1 hr with hr | hr; exact hsub r hr; obtain rfl := List.mem_singleton.1 hr; exact hsB))⟩
             · intro K hK
               refine ow_build hS Try.underlying23 tz_26 (bc_take (tmS rfl rfl) <| bc_nil) rfl rfl (by kernel_rfl) ?_
               clear hS; intro g5_7 w hg5_7 hS
               refine hK _ _ ?_; clear hK K
               refine rg_step 1 rfl (by kernel_rfl) (want_0) (oks_drop hS 4 rfl) ?_; intro K hK
               first
                | refine ow_v (x_load Try.underlying23 rfl (tmP rfl rfl) (cellB hS.ok 2 rfl rfl)) ?_
                | refine ow_v (x_load Try.underlying23 rfl (tmP rfl rfl) (cellB hS.ok 2 rfl (getm (by omega)))) ?_
               refine hK _ _ ?_; clear hK K
               refine rg_step 8 rfl (by kernel_rfl) (want_0) (oks_drop hS 4 rfl) ?_; intro K hK
               (refine ow_append hS 1 0 rfl rfl Try.underlying23 tz_26 rfl (tmS rfl rfl) (tmS rfl rfl) rfl ⟨by decide, by decide, rfl⟩ (by simp only [maxLen]; omega) (by omega) ?_; clear hS; intro g5_8 cg5_8 w hS)
               refine hK _ _ ?_; clear hK K
               refine rg_take 9 rfl rfl (by kernel_rfl) (by kernel_rfl) (by kernel_rfl) (want_0) (fun w hok => x_fa 2 Try.underlying29 rfl rfl ts_23 (tmP rfl rfl)) ?_
               refine rg_step 10 rfl (by kernel_rfl) (want_0) (oks_drop hS 4 rfl) ?_; intro K hK
               first
                | refine ow_store hS 2 rfl ts_23 (tmP rfl rfl) (tmS rfl rfl) rfl rfl ?_
                | refine ow_storeX hS 2 rfl ts_23 (tmP rfl rfl) (tmS rfl rfl) rfl (by simp; omega) ?_
               clear hS; intro w hS
               try replace hS := St.nm (M' := [_, .row _ _ _ _ _, .blk _ _ [_, _, _], _, .vw _ _, .blk _ _ [_, _, _]]) hS rfl
               refine hK _ _ ?_; clear hK K
               refine rg_done (oks_drop hS 4 rfl) (by kernel_rfl) ?_
               exact then_n ⟨_, rfl, (by repeat (first | exact agree_self | exact agree_refl | refine agree_upd rfl ?_ | refine agree_mix rfl ?_)), _, _, rows ++ [(B, fx l n (q10 n) k, (fx l n (q10 n) k).length)], A6, m6, c6, b6, (by rw [rows_snoc]; exact hS.pick [1, 2, 3, 4, 5] rfl rfl), (by exact hR6), (by (rw [List.map_append, hM, fparts_succ]; rfl)), (by (intro r hr; rcases List.mem_append.1 hr with hr | hr; exact hsub r hr; obtain rfl := List.mem_singleton.1 hr; exact hsB))⟩
       · clear hS; intro g w hI
         obtain ⟨L2, cr2, rows2, A5, m5, c5, b5, hS, hR5, hM2, hsub2⟩ := hI
         refine inb_n ?_
         refine then_n (hK8 _ _ ?_); clear hK8 K8
         refine wlit ?_
         first
          | refine wl_v (x_addN (tmI rfl rfl) (ev_cN 1) (fit_u8 (by omega))) ?_
          | refine wl_v (x_addI (tmI rfl rfl) (ev_cN 1) (IntWalk.u8_in _ (by omega))) ?_
          | refine wl_v (x_addU (tmI rfl rfl) (ev_cN 1) rfl) ?_
          | refine wl_v (x_add (tmI rfl rfl) (ev_cN 1)) ?_
         refine wl_v (x_move (tmI rfl rfl)) ?_
         refine wl_nil ?_
         exact then_n ⟨_, _, rfl, (by show _ < _; omega), (by repeat (first | exact agree_self | exact agree_refl | refine agree_upd rfl ?_ | refine agree_mix rfl ?_)), k + 1, L2, cr2, rows2, A5, m5, c5, b5, rfl, (by first | rfl | go_num | exact congrArg (Value.int _) (by first | omega | (simp; done) | (simp; omega))), hS, (by omega), (by first | exact hR5 | exact hR3), (by first | exact hM2 | rfl), (by first | exact hsub2 | exact (fun r hr => absurd hr (List.not_mem_nil)))⟩
    try (exfalso; first | with_reducible exact absurd hc0 Bool.false_ne_true | with_reducible exact absurd hc0.symm Bool.false_ne_true | (simp only [nrm] at hc0; omega) | (simp at hc0; done))
    all_goals
     try simp only [nrm] at hc0
     refine wp_exit ?_
     refine then_x ?_; clear hK7 K7
     refine then_x ?_
     refine inb_x ?_
     refine then_n (hK4 _ _ ?_); clear hK4 K4
     refine wp_seq_k ?_; intro K10 hK10
     refine wp_seq_k ?_; intro K11 hK11
     obtain rfl : fcnt l n = k := by omega
     have hrl : rows.length = fcnt l n := by have := congrArg List.length hM; rwa [List.length_map, fparts_len] at this
     have hle : ∀ r ∈ rows, r.2.1.length ≤ 65535 := fun r hr => by obtain ⟨i, hi⟩ := rows_mem hM hr; rw [hi]; exact fx_len hl hb _ _
     have hby : ∀ r ∈ rows, Bytes r.2.1 := fun r hr => by obtain ⟨i, hi⟩ := rows_mem hM hr; rw [hi]; exact fx_bytes hb _ _
     have hcap := row_cap (hS.rowOk 0 rfl) (by decide)
     have hiff : frP (fkind l n : Int) rows ↔ frLens (fkind l n : Int) (fparts l n (q10 n) (fcnt l n)) := by rw [frP_lens, hM]
     refine wlit ?_
     refine wl_v (x_loadA (cs := [_, _, _]) Try.underlying29 rfl ts_29 (tmP rfl rfl) (rangeB hS.ok 1 rfl rfl)) ?_
     refine wl_e rfl ?_; intro K hK
     refine ow_call Try.func10 rfl rfl (evs_cons (tmA rfl rfl) <| evs_nil) (fright_c (fkind l n : Int) (fnum l n) L (fcnt l n) cr rows _ (viewR hS.ok 0 rfl) hrl (by omega) (fun r hr => Nat.le_trans (hle r hr) (by decide))) ?_
     rintro e w ⟨rfl, hk2⟩
     refine ⟨_, rfl, ?_⟩
     replace hS := hS.kept hk2
     clear hk2
     refine hK _ _ ?_; clear hK K
     refine wl_v (x_not (tmB rfl rfl)) ?_
     refine wl_v (x_move (tmB rfl rfl)) ?_
     refine gs_wl (tm (t := 32) rfl) (fun hg7_3 => ?_) (fun hg7_3 => ?_)
     · have hg7_3' := hg7_3; (try simp only [nrm] at hg7_3'); try (exfalso; first | with_reducible exact absurd hg7_3 Bool.false_ne_true | with_reducible exact absurd hg7_3.symm Bool.false_ne_true | omega | (simp at hg7_3; done))
       all_goals
        refine wl_s rfl (want_n rfl rfl rfl rfl (by rw [hg7_3]; rfl)) ?_
        refine wl_s rfl (want_n rfl rfl rfl rfl (by rw [hg7_3]; rfl)) ?_
        refine wl_v (x_pickT (tmB rfl rfl) hg7_3 ev_c) ?_
        refine wl_v (x_move (tmB rfl rfl)) ?_
        refine wl_s rfl (want_n rfl rfl rfl rfl rfl) ?_
        refine wl_s rfl (want_n rfl rfl rfl rfl rfl) ?_
        refine wl_s rfl (want_n rfl rfl rfl rfl rfl) ?_
        refine wl_v (x_pickT (tmB rfl rfl) rfl ev_c) ?_
        refine wl_nil ?_
        refine then_n (hK11 _ _ ?_); clear hK11 K11
        refine cnd_t (tmB rfl rfl) rfl ?_
        refine wp_seq_k ?_; intro K12 hK12
        refine wlit ?_
        refine wl_v (x_build (bc_skip (.int .i64 0) <| bc_skip (.int .u64 0) <| bc_skip (.slice none 0 0) <| bc_nil) (by kernel_rfl)) ?_
        refine wl_e rfl ?_; intro K hK
        refine ow_storeA hS 4 rfl ts_29 (tmP rfl rfl) (tmA rfl rfl) rfl rfl rfl ?_
        clear hS; intro w hS
        try replace hS := St.nm (M' := [.row _ _ _ _ _, .blk _ _ [_, _, _], _, .vw _ _, .blk _ _ [_, _, _]]) hS rfl
        refine hK _ _ ?_; clear hK K
        refine wl_v (x_assign (ev_cN 21)) ?_
        refine wl_nil ?_
        refine then_n (hK12 _ _ ?_); clear hK12 K12
        refine wp_ret ?_
        refine then_r ?_
        refine ret2 rfl (.cell rfl rfl (load_rowB (cs := [_, _, _]) hS.ok 4 rfl Try.underlying29 rfl ts_29 rfl)) (.tmp rfl (show _ = Value.int _ _ from rfl)) ?_
        first
          | (have hno : ¬ fOk l n := by
               rintro ⟨h1, h2⟩
               have h3 := (rd_end hR).1 h2
               first
                 | exact hg7_3' (hiff.2 h1)
                 | (rw [h3.1] at hg7_7; cases hg7_7; done)
                 | omega
             exact ⟨0, 0, none, 0, 0, [], 21, rfl, ⟨rfl, NewV.nil_ _ _ _, (fun r hr => absurd hr List.not_mem_nil), (fun r hr => absurd hr List.not_mem_nil), .inr ⟨hno, rfl, rfl, rfl⟩⟩, fun h => absurd h hno, fun _ => rfl, Nat.le_refl _, hS.kp⟩)
          | (have hyes : fOk l n := ⟨hiff.1 hg7_3', (rd_end hR).2 ⟨hg7_7, by omega⟩⟩
             exact ⟨_, _, L, fcnt l n, cr, rows, 0, rfl, ⟨hrl, hS.newv 0 rfl, (fun r hr => (hsub r hr).1 _ _ (viewV hS.ok 3 rfl)), hby, .inl ⟨hyes, rfl, rfl, hM⟩⟩, fun _ => rfl, fun h => absurd hyes h, hcap, hS.kp⟩)
     have hg7_3' := hg7_3; (try simp only [nrm] at hg7_3'); try (exfalso; first | with_reducible exact absurd hg7_3 Bool.false_ne_true | with_reducible exact absurd hg7_3.symm Bool.false_ne_true | omega | (simp at hg7_3; done))
     all_goals
      refine wl_gv (want_y rfl rfl rfl rfl (by rw [hg7_3]; rfl)) (x_move (tmP rfl rfl)) ?_
      refine wl_g (want_y rfl rfl rfl rfl (by rw [hg7_3]; rfl)) ?_; intro K hK
      refine ow_call Try.func20 rfl rfl (evs_cons (tmP rfl rfl) <| evs_nil) (bad_c gr A4 m4 c4 b4 _ (viewB hS.ok 2 rfl)) ?_
      rintro e w ⟨rfl, hk2⟩
      refine ⟨_, rfl, ?_⟩
      replace hS := hS.kept hk2
      clear hk2
      refine hK _ _ ?_; clear hK K
      refine wl_v (x_pickF (tmB rfl rfl) hg7_3 (tmB rfl rfl)) ?_
      refine wl_v (x_move (tmB rfl rfl)) ?_
      refine gs_wl (tm (t := 36) rfl) (fun hg7_7 => ?_) (fun hg7_7 => ?_)
      · have hg7_7' := hg7_7; (try simp only [nrm] at hg7_7'); try (exfalso; first | with_reducible exact absurd hg7_7 Bool.false_ne_true | with_reducible exact absurd hg7_7.symm Bool.false_ne_true | omega | (simp at hg7_7; done))
        all_goals
         refine wl_s rfl (want_n rfl rfl rfl rfl (by rw [hg7_7]; rfl)) ?_
         refine wl_s rfl (want_n rfl rfl rfl rfl (by rw [hg7_7]; rfl)) ?_
         refine wl_s rfl (want_n rfl rfl rfl rfl (by rw [hg7_7]; rfl)) ?_
         refine wl_v (x_pickT (tmB rfl rfl) hg7_7 ev_c) ?_
         refine wl_nil ?_
         refine then_n (hK11 _ _ ?_); clear hK11 K11
         refine cnd_t (tmB rfl rfl) rfl ?_
         refine wp_seq_k ?_; intro K14 hK14
         refine wlit ?_
         refine wl_v (x_build (bc_skip (.int .i64 0) <| bc_skip (.int .u64 0) <| bc_skip (.slice none 0 0) <| bc_nil) (by kernel_rfl)) ?_
         refine wl_e rfl ?_; intro K hK
         refine ow_storeA hS 4 rfl ts_29 (tmP rfl rfl) (tmA rfl rfl) rfl rfl rfl ?_
         clear hS; intro w hS
         try replace hS := St.nm (M' := [.row _ _ _ _ _, .blk _ _ [_, _, _], _, .vw _ _, .blk _ _ [_, _, _]]) hS rfl
         refine hK _ _ ?_; clear hK K
         refine wl_v (x_assign (ev_cN 21)) ?_
         refine wl_nil ?_
         refine then_n (hK14 _ _ ?_); clear hK14 K14
         refine wp_ret ?_
         refine then_r ?_
         refine ret2 rfl (.cell rfl rfl (load_rowB (cs := [_, _, _]) hS.ok 4 rfl Try.underlying29 rfl ts_29 rfl)) (.tmp rfl (show _ = Value.int _ _ from rfl)) ?_
         first
           | (have hno : ¬ fOk l n := by
                rintro ⟨h1, h2⟩
                have h3 := (rd_end hR).1 h2
                first
                  | exact hg7_3' (hiff.2 h1)
                  | (rw [h3.1] at hg7_7; cases hg7_7; done)
                  | omega
              exact ⟨0, 0, none, 0, 0, [], 21, rfl, ⟨rfl, NewV.nil_ _ _ _, (fun r hr => absurd hr List.not_mem_nil), (fun r hr => absurd hr List.not_mem_nil), .inr ⟨hno, rfl, rfl, rfl⟩⟩, fun h => absurd h hno, fun _ => rfl, Nat.le_refl _, hS.kp⟩)
           | (have hyes : fOk l n := ⟨hiff.1 hg7_3', (rd_end hR).2 ⟨hg7_7, by omega⟩⟩
              exact ⟨_, _, L, fcnt l n, cr, rows, 0, rfl, ⟨hrl, hS.newv 0 rfl, (fun r hr => (hsub r hr).1 _ _ (viewV hS.ok 3 rfl)), hby, .inl ⟨hyes, rfl, rfl, hM⟩⟩, fun _ => rfl, fun h => absurd hyes h, hcap, hS.kp⟩)
      have hg7_7' := hg7_7; (try simp only [nrm] at hg7_7'); try (exfalso; first | with_reducible exact absurd hg7_7 Bool.false_ne_true | with_reducible exact absurd hg7_7.symm Bool.false_ne_true | omega | (simp at hg7_7; done))
      all_goals
       refine wl_gv (want_y rfl rfl rfl rfl (by rw [hg7_7]; rfl)) (x_move (tmP rfl rfl)) ?_
       refine wl_g (want_y rfl rfl rfl rfl (by rw [hg7_7]; rfl)) ?_; intro K hK
       refine ow_call Try.func21 rfl rfl (evs_cons (tmP rfl rfl) <| evs_nil) (left_c gr A4 m4 c4 b4 _ (viewB hS.ok 2 rfl)) ?_
       rintro e w ⟨rfl, hk2⟩
       refine ⟨_, rfl, ?_⟩
       replace hS := hS.kept hk2
       clear hk2
       refine hK _ _ ?_; clear hK K
       refine wl_gv (want_y rfl rfl rfl rfl (by rw [hg7_7]; rfl)) (x_gtr (tmI rfl rfl) (ev_cN 0)) ?_
       refine wl_v (x_pickF (tmB rfl rfl) hg7_7 (tmB rfl rfl)) ?_
       refine wl_nil ?_
       refine then_n (hK11 _ _ ?_); clear hK11 K11
       refine cnd (tm rfl) (fun hc1 => ?_) (fun hc1 => ?_)
       · try (exfalso; first | with_reducible exact absurd hc1 Bool.false_ne_true | with_reducible exact absurd hc1.symm Bool.false_ne_true | (simp only [nrm] at hc1; omega) | (simp at hc1; done))
         all_goals
          try simp only [nrm] at hc1
          refine wp_seq_k ?_; intro K16 hK16
          refine wlit ?_
          refine wl_v (x_build (bc_skip (.int .i64 0) <| bc_skip (.int .u64 0) <| bc_skip (.slice none 0 0) <| bc_nil) (by kernel_rfl)) ?_
          refine wl_e rfl ?_; intro K hK
          refine ow_storeA hS 4 rfl ts_29 (tmP rfl rfl) (tmA rfl rfl) rfl rfl rfl ?_
          clear hS; intro w hS
          try replace hS := St.nm (M' := [.row _ _ _ _ _, .blk _ _ [_, _, _], _, .vw _ _, .blk _ _ [_, _, _]]) hS rfl
          refine hK _ _ ?_; clear hK K
          refine wl_v (x_assign (ev_cN 21)) ?_
          refine wl_nil ?_
          refine then_n (hK16 _ _ ?_); clear hK16 K16
          refine wp_ret ?_
          refine then_r ?_
          refine ret2 rfl (.cell rfl rfl (load_rowB (cs := [_, _, _]) hS.ok 4 rfl Try.underlying29 rfl ts_29 rfl)) (.tmp rfl (show _ = Value.int _ _ from rfl)) ?_
          first
            | (have hno : ¬ fOk l n := by
                 rintro ⟨h1, h2⟩
                 have h3 := (rd_end hR).1 h2
                 first
                   | exact hg7_3' (hiff.2 h1)
                   | (rw [h3.1] at hg7_7; cases hg7_7; done)
                   | omega
               exact ⟨0, 0, none, 0, 0, [], 21, rfl, ⟨rfl, NewV.nil_ _ _ _, (fun r hr => absurd hr List.not_mem_nil), (fun r hr => absurd hr List.not_mem_nil), .inr ⟨hno, rfl, rfl, rfl⟩⟩, fun h => absurd h hno, fun _ => rfl, Nat.le_refl _, hS.kp⟩)
            | (have hyes : fOk l n := ⟨hiff.1 hg7_3', (rd_end hR).2 ⟨hg7_7, by omega⟩⟩
               exact ⟨_, _, L, fcnt l n, cr, rows, 0, rfl, ⟨hrl, hS.newv 0 rfl, (fun r hr => (hsub r hr).1 _ _ (viewV hS.ok 3 rfl)), hby, .inl ⟨hyes, rfl, rfl, hM⟩⟩, fun _ => rfl, fun h => absurd hyes h, hcap, hS.kp⟩)
       try (exfalso; first | with_reducible exact absurd hc1 Bool.false_ne_true | with_reducible exact absurd hc1.symm Bool.false_ne_true | (simp only [nrm] at hc1; omega) | (simp at hc1; done))
       all_goals
        try simp only [nrm] at hc1
        refine wp_skip ?_
        refine then_n (hK10 _ _ ?_); clear hK10 K10
        refine wp_seq_k ?_; intro K18 hK18
        refine wlit ?_
        refine wl_v (x_loadA (cs := [_, _, _]) Try.underlying29 rfl ts_29 (tmP rfl rfl) (rangeB hS.ok 1 rfl rfl)) ?_
        refine wl_e rfl ?_; intro K hK
        refine ow_storeA hS 4 rfl ts_29 (tmP rfl rfl) (tmA rfl rfl) rfl rfl rfl ?_
        clear hS; intro w hS
        try replace hS := St.nm (M' := [.row _ _ _ _ _, .blk _ _ [_, _, _], _, .vw _ _, .blk _ _ [_, _, _]]) hS rfl
        refine hK _ _ ?_; clear hK K
        refine wl_v (x_assign (ev_cN 0)) ?_
        refine wl_nil ?_
        refine then_n (hK18 _ _ ?_); clear hK18 K18
        refine wp_ret ?_
        refine ret2 rfl (.cell rfl rfl (load_rowB (cs := [_, _, _]) hS.ok 4 rfl Try.underlying29 rfl ts_29 rfl)) (.tmp rfl (show _ = Value.int _ _ from rfl)) ?_
        first
          | (have hno : ¬ fOk l n := by
               rintro ⟨h1, h2⟩
               have h3 := (rd_end hR).1 h2
               first
                 | exact hg7_3' (hiff.2 h1)
                 | (rw [h3.1] at hg7_7; cases hg7_7; done)
                 | omega
             exact ⟨0, 0, none, 0, 0, [], 21, rfl, ⟨rfl, NewV.nil_ _ _ _, (fun r hr => absurd hr List.not_mem_nil), (fun r hr => absurd hr List.not_mem_nil), .inr ⟨hno, rfl, rfl, rfl⟩⟩, fun h => absurd h hno, fun _ => rfl, Nat.le_refl _, hS.kp⟩)
          | (have hyes : fOk l n := ⟨hiff.1 hg7_3', (rd_end hR).2 ⟨hg7_7, by omega⟩⟩
             exact ⟨_, _, L, fcnt l n, cr, rows, 0, rfl, ⟨hrl, hS.newv 0 rfl, (fun r hr => (hsub r hr).1 _ _ (viewV hS.ok 3 rfl)), hby, .inl ⟨hyes, rfl, rfl, hM⟩⟩, fun _ => rfl, fun h => absurd hyes h, hcap, hS.kp⟩)
end Go.Proofs.Ytmokaeflnlajgaa
