
/- codec: ParseOp by contract. Conditions: none but bounds. -/
import Derived.Test.YtoaodcbfehfdoaaCoG
namespace Go.Proofs.Ytoaodcbfehfdoaa
open Go.ChangeShapes Go.WideShapes Go.ChangeAt Go.RowKit
theorem rd_end {A0 A : Option Addr} {n m c : Nat} {q : Option Nat} {bad : Bool} (h : RdO A0 n q A m c bad) : q = some n ↔ bad = false ∧ m = 0 := by
  cases q with
  | none =>
    obtain ⟨rfl, _⟩ := h
    constructor
    · intro h; cases h
    · rintro ⟨h, _⟩; cases h
  | some p =>
    obtain ⟨rfl, h1, h2, _⟩ := h
    constructor
    · intro h
      injection h with h
      exact ⟨rfl, by omega⟩
    · rintro ⟨_, h⟩
      exact congrArg some (by omega)
def k1 (n : Nat) : Option Nat := adv n 1 (some 0)
def k2 (n : Nat) : Option Nat := adv n 1 (k1 n)
def k3 (n : Nat) : Option Nat := adv n 1 (k2 n)
def k4 (n : Nat) : Option Nat := adv n 1 (k3 n)
def k6 (l : List Nat) (n : Nat) : Option Nat := qa l n (k4 n)
def k7 (l : List Nat) (n : Nat) : Option Nat := adv n 2 (k6 l n)
def k8 (l : List Nat) (n : Nat) : Option Nat := adv n 1 (k7 l n)
def k9 (l : List Nat) (n : Nat) : Option Nat := adv n 1 (k8 l n)
def k10 (l : List Nat) (n : Nat) : Option Nat := adv n 1 (k9 l n)
def pcnt (l : List Nat) (n : Nat) : Nat := rdN l n 1 (k9 l n)
def pend (l : List Nat) (n : Nat) : Option Nat := mq l n (k10 l n) (pcnt l n)
def pOk (l : List Nat) (n : Nat) : Prop := adGood (qx l n (k4 n)) ∧ pcnt l n ≤ 64 ∧ pend l n = some n
def hpOf (l : List Nat) (n : Nat) : Hp := ⟨(rdN l n 1 (some 0) : Int), (rdN l n 1 (k1 n) : Int), (rdN l n 1 (k2 n) : Int), (rdN l n 1 (k3 n) : Int), adOf (qx l n (k4 n)), rdN l n 2 (k6 l n), rdN l n 1 (k7 l n), (rdN l n 1 (k8 l n) : Int)⟩
def hp0 : Hp := ⟨0, 0, 0, 0, ⟨false, 0, 0⟩, 0, 0, 0⟩
def OpR (w w' : World) (l : List Nat) (n : Nat) (h : Hp) (L : Option Addr) (nr : Nat) (lm : List Mm) : Prop :=
  NewV w w' L (flat mmV lm) ∧ lm.length = nr ∧ ((pOk l n ∧ h = hpOf l n ∧ lm = pms l n (k10 l n) (pcnt l n)) ∨ (¬ pOk l n ∧ h = hp0 ∧ lm = []))
set_option maxRecDepth 100000 in
set_option maxHeartbeats 8000000 in
theorem coparse_c (n : Nat) (A : Option Addr) (c : Nat) (l : List Nat) (w0 : World) (hv : View w0 w0.heap.size A (l.map u8v)) (hl : l.length = n) (hn4 : n ≤ 1000000) (hb : Bytes l) :
    Calls Try.prog 6 #[.slice A n c] w0 fun e w' => ∃ h L nr cr lm er, e = .returned (.tuple #[.agg (opV h L nr cr).toArray, .int .i64 er]) ∧ OpR w0 w' l n h L nr lm ∧ (pOk l n → er = 0) ∧ (¬ pOk l n → er = 21) ∧ Kp [] w0 w' := by
  have hS := (St.sv w0).vcons rfl hv
  refine ent (n := 62) Try.func6 rfl rfl ?_
  refine wp_seq_k ?_; intro K1 hK1
  refine wlit ?_
  refine wl_e rfl ?_; intro K hK
  refine ow_alloc hS tz_35 rfl ?_
  clear hS; intro g0_0 w hg0_0 hS
  refine hK _ _ ?_; clear hK K
  refine wl_v (x_assign (ev_cN 0)) ?_
  refine wl_nil ?_
  refine then_n (hK1 _ _ ?_); clear hK1 K1
  refine wp_seq_k ?_; intro K2 hK2
  refine wlit ?_
  refine wl_v (x_move (tmS rfl rfl)) ?_
  refine wl_e rfl ?_; intro K hK
  refine ow_call Try.func14 rfl rfl (evs_cons (tmS rfl rfl) <| evs_nil) (read_c n A c l _ (viewV hS.ok 1 rfl) hl hn4) ?_
  rintro e w ⟨gr, A0, rfl, hS2⟩
  refine ⟨_, rfl, ?_⟩
  replace hS := hS.leave [] [0] rfl rfl rfl hS2 rfl --ents gr,row0,g0_0
  clear hS2
  replace hS := (hS.freeze 1 rfl) --ents gr,va,g0_0
  try replace hS := St.nm (M' := [_, .vw _ _, .blk _ _ [_, _, _, _, _, _, _, _, _, _, _]]) hS rfl
  refine hK _ _ ?_; clear hK K
  refine wl_v (x_assign (tmP rfl rfl)) ?_
  refine wl_nil ?_
  refine then_n (hK2 _ _ ?_); clear hK2 K2
  refine wp_seq_k ?_; intro K3 hK3
  refine wlit ?_
  refine wl_v (x_move (tmP rfl rfl)) ?_
  refine wl_e rfl ?_; intro K hK
  refine ow_call Try.func15 rfl rfl (evs_cons (tmP rfl rfl) <| evs_nil) (byteT_c gr A0 A0 (some 0) n n n l false _ _ (hS.enter [0] [1] rfl rfl) ⟨rfl, Nat.zero_le _, rfl, off_zero, Nat.le_refl _⟩ hl hb) ?_
  rintro e w ⟨A1, m1, c1, b1, rfl, hS2, hR1⟩
  refine ⟨_, rfl, ?_⟩
  replace hS := hS.leave [0] [1, 2] rfl rfl rfl hS2 rfl --ents gr,va,g0_0
  clear hS2
  have hu1 : rdN l n 1 (some 0) < 256 := rdN_lt hb _
  try replace hS := St.nm (M' := [_, .vw _ _, .blk _ _ [_, _, _, _, _, _, _, _, _, _, _]]) hS rfl
  refine hK _ _ ?_; clear hK K
  first
   | refine wl_v (x_convN Try.underlying5 Try.underlying3 (tmI rfl rfl) (fit_i64 (by omega))) ?_
   | refine wl_v (x_conv Try.underlying5 Try.underlying3 (tmI rfl rfl)) ?_
  refine wl_v (x_move (tmP rfl rfl)) ?_
  refine wl_e rfl ?_; intro K hK
  refine ow_call Try.func15 rfl rfl (evs_cons (tmP rfl rfl) <| evs_nil) (byteT_c gr A0 A1 (k1 n) n m1 c1 l b1 _ _ (hS.enter [0] [1] rfl rfl) hR1 hl hb) ?_
  rintro e w ⟨A2, m2, c2, b2, rfl, hS2, hR2⟩
  refine ⟨_, rfl, ?_⟩
  replace hS := hS.leave [0] [1, 2] rfl rfl rfl hS2 rfl --ents gr,va,g0_0
  clear hS2
  have hu2 : rdN l n 1 (k1 n) < 256 := rdN_lt hb _
  try replace hS := St.nm (M' := [_, .vw _ _, .blk _ _ [_, _, _, _, _, _, _, _, _, _, _]]) hS rfl
  refine hK _ _ ?_; clear hK K
  first
   | refine wl_v (x_convN Try.underlying5 Try.underlying3 (tmI rfl rfl) (fit_i64 (by omega))) ?_
   | refine wl_v (x_conv Try.underlying5 Try.underlying3 (tmI rfl rfl)) ?_
  refine wl_v (x_move (tmP rfl rfl)) ?_
  refine wl_e rfl ?_; intro K hK
  refine ow_call Try.func15 rfl rfl (evs_cons (tmP rfl rfl) <| evs_nil) (byteT_c gr A0 A2 (k2 n) n m2 c2 l b2 _ _ (hS.enter [0] [1] rfl rfl) hR2 hl hb) ?_
  rintro e w ⟨A3, m3, c3, b3, rfl, hS2, hR3⟩
  refine ⟨_, rfl, ?_⟩
  replace hS := hS.leave [0] [1, 2] rfl rfl rfl hS2 rfl --ents gr,va,g0_0
  clear hS2
  have hu3 : rdN l n 1 (k2 n) < 256 := rdN_lt hb _
  try replace hS := St.nm (M' := [_, .vw _ _, .blk _ _ [_, _, _, _, _, _, _, _, _, _, _]]) hS rfl
  refine hK _ _ ?_; clear hK K
  first
   | refine wl_v (x_convN Try.underlying5 Try.underlying3 (tmI rfl rfl) (fit_i64 (by omega))) ?_
   | refine wl_v (x_conv Try.underlying5 Try.underlying3 (tmI rfl rfl)) ?_
  refine wl_v (x_move (tmP rfl rfl)) ?_
  refine wl_e rfl ?_; intro K hK
  refine ow_call Try.func15 rfl rfl (evs_cons (tmP rfl rfl) <| evs_nil) (byteT_c gr A0 A3 (k3 n) n m3 c3 l b3 _ _ (hS.enter [0] [1] rfl rfl) hR3 hl hb) ?_
  rintro e w ⟨A4, m4, c4, b4, rfl, hS2, hR4⟩
  refine ⟨_, rfl, ?_⟩
  replace hS := hS.leave [0] [1, 2] rfl rfl rfl hS2 rfl --ents gr,va,g0_0
  clear hS2
  have hu4 : rdN l n 1 (k3 n) < 256 := rdN_lt hb _
  try replace hS := St.nm (M' := [_, .vw _ _, .blk _ _ [_, _, _, _, _, _, _, _, _, _, _]]) hS rfl
  refine hK _ _ ?_; clear hK K
  first
   | refine wl_v (x_convN Try.underlying5 Try.underlying3 (tmI rfl rfl) (fit_i64 (by omega))) ?_
   | refine wl_v (x_conv Try.underlying5 Try.underlying3 (tmI rfl rfl)) ?_
  refine wl_v (x_build (bc_take (tmI rfl rfl) <| bc_take (tmI rfl rfl) <| bc_take (tmI rfl rfl) <| bc_take (tmI rfl rfl) <| bc_skipL [.bool false, .int .u64 0, .int .u64 0] <| bc_skip (.int .u16 0) <| bc_skip (.int .u8 0) <| bc_skip (.int .i64 0) <| bc_skip (.slice none 0 0) <| bc_nil) (by kernel_rfl)) ?_
  refine wl_e rfl ?_; intro K hK
  refine ow_alloc hS tz_35 rfl ?_
  clear hS; intro g2_13 w hg2_13 hS
  refine hK _ _ ?_; clear hK K
  refine wl_e rfl ?_; intro K hK
  refine ow_storeA hS 0 rfl ts_35 (tmP rfl rfl) (tmA rfl rfl) rfl rfl rfl ?_
  clear hS; intro w hS
  try replace hS := St.nm (M' := [.blk _ _ [_, _, _, _, _, _, _, _, _, _, _], _, .vw _ _, .blk _ _ [_, _, _, _, _, _, _, _, _, _, _]]) hS rfl
  refine hK _ _ ?_; clear hK K
  refine wl_nil ?_
  refine then_n (hK3 _ _ ?_); clear hK3 K3
  refine wp_seq_k ?_; intro K4 hK4
  refine wlit ?_
  refine wl_v (x_move (tmP rfl rfl)) ?_
  refine wl_e rfl ?_; intro K hK
  refine ow_call Try.func16 rfl rfl (evs_cons (tmP rfl rfl) <| evs_nil) (taddr_c gr A0 A4 (k4 n) n m4 c4 l b4 _ _ (hS.enter [1] [2] rfl rfl) hR4 hl hb) ?_
  rintro e w ⟨a, okA, A6, m6, c6, b6, rfl, hga, hoka, hS2, hR6⟩
  refine ⟨_, rfl, ?_⟩
  replace hS := hS.leave [1] [0, 2, 3] rfl rfl rfl hS2 rfl --ents gr,g2_13,va,g0_0
  clear hS2
  try replace hS := St.nm (M' := [_, .blk _ _ [_, _, _, _, _, _, _, _, _, _, _], .vw _ _, .blk _ _ [_, _, _, _, _, _, _, _, _, _, _]]) hS rfl
  refine hK _ _ ?_; clear hK K
  refine wl_v (x_move (tmT rfl rfl)) ?_
  refine wl_v (x_ext (tmT rfl rfl) rfl) ?_
  refine wl_v (x_ext (tmT rfl rfl) rfl) ?_
  refine wl_e rfl ?_; intro K hK
  refine ow_alloc hS tz_24 rfl ?_
  clear hS; intro g3_5 w hg3_5 hS
  refine hK _ _ ?_; clear hK K
  refine wl_e rfl ?_; intro K hK
  refine ow_storeA hS 0 rfl ts_24 (tmP rfl rfl) (tmA rfl rfl) rfl rfl rfl ?_
  clear hS; intro w hS
  try replace hS := St.nm (M' := [.blk _ _ [_, _, _], _, .blk _ _ [_, _, _, _, _, _, _, _, _, _, _], .vw _ _, .blk _ _ [_, _, _, _, _, _, _, _, _, _, _]]) hS rfl
  refine hK _ _ ?_; clear hK K
  refine wl_v (x_assign (tmB rfl rfl)) ?_
  refine wl_nil ?_
  refine then_n (hK4 _ _ ?_); clear hK4 K4
  refine wp_seq_k ?_; intro K5 hK5
  replace hS := hS.pick [1, 2, 0, 3, 4] rfl rfl
  try replace hS := St.nm (M' := [_, .blk _ _ [_, _, _, _, _, _, _, _, _, _, _], .blk _ _ [_, _, _], .vw _ _, .blk _ _ [_, _, _, _, _, _, _, _, _, _, _]]) hS rfl
  refine rg_startk 2 hS mixed_ ?_
  clear hS; intro w hS
  refine rg_take 0 rfl rfl (by kernel_rfl) (by kernel_rfl) (by kernel_rfl) (want_0) (fun w hok => x_loadA (cs := [_, _, _]) Try.underlying24 rfl ts_24 (tmP rfl rfl) (rangeB hok 0 rfl rfl)) ?_
  refine rg_take 1 rfl rfl (by kernel_rfl) (by kernel_rfl) (by kernel_rfl) (want_0) (fun w hok => x_move (tmP rfl rfl)) ?_
  refine rg_take 3 rfl rfl (by kernel_rfl) (by kernel_rfl) (by kernel_rfl) (want_0) (fun w hok => x_move (tmP rfl rfl)) ?_
  refine rg_take 5 rfl rfl (by kernel_rfl) (by kernel_rfl) (by kernel_rfl) (want_0) (fun w hok => x_move (tmP rfl rfl)) ?_
  refine rg_take 8 rfl rfl (by kernel_rfl) (by kernel_rfl) (by kernel_rfl) (want_0) (fun w hok => x_fa 4 Try.underlying35 rfl rfl ts_24 (tmP rfl rfl)) ?_
  refine rg_step 2 rfl (by kernel_rfl) (want_0) (oks_drop hS 2 rfl) ?_; intro K hK
  refine ow_call Try.func17 rfl rfl (evs_cons (tmP rfl rfl) <| evs_nil) (wordT_c gr A0 A6 (k6 l n) n m6 c6 l b6 _ _ (hS.enter [0] [3] rfl rfl) hR6 hl hb) ?_
  rintro e w ⟨A7, m7, c7, b7, rfl, hS2, hR7⟩
  refine ⟨_, rfl, ?_⟩
  replace hS := hS.leave [0] [1, 2, 3, 4] rfl rfl rfl hS2 rfl --ents gr,g2_13,g3_5,va,g0_0
  clear hS2
  have hu7 : rdN l n 2 (k6 l n) < 65536 := rdN_lt hb _
  try replace hS := St.nm (M' := [_, .blk _ _ [_, _, _, _, _, _, _, _, _, _, _], .blk _ _ [_, _, _], .vw _ _, .blk _ _ [_, _, _, _, _, _, _, _, _, _, _]]) hS rfl
  refine hK _ _ ?_; clear hK K
  refine rg_step 4 rfl (by kernel_rfl) (want_0) (oks_drop hS 2 rfl) ?_; intro K hK
  refine ow_call Try.func15 rfl rfl (evs_cons (tmP rfl rfl) <| evs_nil) (byteT_c gr A0 A7 (k7 l n) n m7 c7 l b7 _ _ (hS.enter [0] [3] rfl rfl) hR7 hl hb) ?_
  rintro e w ⟨A8, m8, c8, b8, rfl, hS2, hR8⟩
  refine ⟨_, rfl, ?_⟩
  replace hS := hS.leave [0] [1, 2, 3, 4] rfl rfl rfl hS2 rfl --ents gr,g2_13,g3_5,va,g0_0
  clear hS2
  have hu8 : rdN l n 1 (k7 l n) < 256 := rdN_lt hb _
  try replace hS := St.nm (M' := [_, .blk _ _ [_, _, _, _, _, _, _, _, _, _, _], .blk _ _ [_, _, _], .vw _ _, .blk _ _ [_, _, _, _, _, _, _, _, _, _, _]]) hS rfl
  refine hK _ _ ?_; clear hK K
  refine rg_step 6 rfl (by kernel_rfl) (want_0) (oks_drop hS 2 rfl) ?_; intro K hK
  refine ow_call Try.func15 rfl rfl (evs_cons (tmP rfl rfl) <| evs_nil) (byteT_c gr A0 A8 (k8 l n) n m8 c8 l b8 _ _ (hS.enter [0] [3] rfl rfl) hR8 hl hb) ?_
  rintro e w ⟨A9, m9, c9, b9, rfl, hS2, hR9⟩
  refine ⟨_, rfl, ?_⟩
  replace hS := hS.leave [0] [1, 2, 3, 4] rfl rfl rfl hS2 rfl --ents gr,g2_13,g3_5,va,g0_0
  clear hS2
  have hu9 : rdN l n 1 (k8 l n) < 256 := rdN_lt hb _
  try replace hS := St.nm (M' := [_, .blk _ _ [_, _, _, _, _, _, _, _, _, _, _], .blk _ _ [_, _, _], .vw _ _, .blk _ _ [_, _, _, _, _, _, _, _, _, _, _]]) hS rfl
  refine hK _ _ ?_; clear hK K
  first
   | refine rg_take 7 rfl rfl (by kernel_rfl) (by kernel_rfl) (by kernel_rfl) (want_0) (fun w hok => x_convN Try.underlying5 Try.underlying3 (tmI rfl rfl) (fit_i64 (by omega))) ?_
   | refine rg_take 7 rfl rfl (by kernel_rfl) (by kernel_rfl) (by kernel_rfl) (want_0) (fun w hok => x_conv Try.underlying5 Try.underlying3 (tmI rfl rfl)) ?_
  refine rg_step 9 rfl (by kernel_rfl) (want_0) (oks_drop hS 2 rfl) ?_; intro K hK
  refine ow_storeA hS 1 rfl ts_24 (tmP rfl rfl) (tmA rfl rfl) rfl rfl rfl ?_
  clear hS; intro w hS
  try replace hS := St.nm (M' := [_, .blk _ _ [_, _, _, _, _, _, _, _, _, _, _], .blk _ _ [_, _, _], .vw _ _, .blk _ _ [_, _, _, _, _, _, _, _, _, _, _]]) hS rfl
  refine hK _ _ ?_; clear hK K
  refine rg_take 10 rfl rfl (by kernel_rfl) (by kernel_rfl) (by kernel_rfl) (want_0) (fun w hok => x_fa 7 Try.underlying35 rfl rfl ts_25 (tmP rfl rfl)) ?_
  refine rg_step 11 rfl (by kernel_rfl) (want_0) (oks_drop hS 2 rfl) ?_; intro K hK
  first
   | refine ow_store hS 1 rfl ts_25 (tmP rfl rfl) (tmI rfl rfl) rfl rfl ?_
   | refine ow_storeX hS 1 rfl ts_25 (tmP rfl rfl) (tmI rfl rfl) rfl (by simp; omega) ?_
  clear hS; intro w hS
  try replace hS := St.nm (M' := [_, .blk _ _ [_, _, _, _, _, _, _, _, _, _, _], .blk _ _ [_, _, _], .vw _ _, .blk _ _ [_, _, _, _, _, _, _, _, _, _, _]]) hS rfl
  refine hK _ _ ?_; clear hK K
  refine rg_take 12 rfl rfl (by kernel_rfl) (by kernel_rfl) (by kernel_rfl) (want_0) (fun w hok => x_fa 8 Try.underlying35 rfl rfl ts_5 (tmP rfl rfl)) ?_
  refine rg_step 13 rfl (by kernel_rfl) (want_0) (oks_drop hS 2 rfl) ?_; intro K hK
  first
   | refine ow_store hS 1 rfl ts_5 (tmP rfl rfl) (tmI rfl rfl) rfl rfl ?_
   | refine ow_storeX hS 1 rfl ts_5 (tmP rfl rfl) (tmI rfl rfl) rfl (by simp; omega) ?_
  clear hS; intro w hS
  try replace hS := St.nm (M' := [_, .blk _ _ [_, _, _, _, _, _, _, _, _, _, _], .blk _ _ [_, _, _], .vw _ _, .blk _ _ [_, _, _, _, _, _, _, _, _, _, _]]) hS rfl
  refine hK _ _ ?_; clear hK K
  refine rg_take 14 rfl rfl (by kernel_rfl) (by kernel_rfl) (by kernel_rfl) (want_0) (fun w hok => x_fa 9 Try.underlying35 rfl rfl ts_3 (tmP rfl rfl)) ?_
  refine rg_step 15 rfl (by kernel_rfl) (want_0) (oks_drop hS 2 rfl) ?_; intro K hK
  first
   | refine ow_store hS 1 rfl ts_3 (tmP rfl rfl) (tmI rfl rfl) rfl rfl ?_
   | refine ow_storeX hS 1 rfl ts_3 (tmP rfl rfl) (tmI rfl rfl) rfl (by simp; omega) ?_
  clear hS; intro w hS
  try replace hS := St.nm (M' := [_, .blk _ _ [_, _, _, _, _, _, _, _, _, _, _], .blk _ _ [_, _, _], .vw _ _, .blk _ _ [_, _, _, _, _, _, _, _, _, _, _]]) hS rfl
  refine hK _ _ ?_; clear hK K
  refine rg_done (oks_drop hS 2 rfl) (by kernel_rfl) ?_
  refine then_n (hK5 _ _ ?_); clear hK5 K5
  refine wp_seq_k ?_; intro K6 hK6
  refine wlit ?_
  refine wl_v (x_move (tmP rfl rfl)) ?_
  refine wl_e rfl ?_; intro K hK
  refine ow_call Try.func18 rfl rfl (evs_cons (tmP rfl rfl) <| evs_nil) (tmembers_c gr A0 A9 (k9 l n) n m9 c9 l b9 _ _ (hS.enter [0] [3] rfl rfl) hR9 hl hb) ?_
  rintro e w ⟨L, nr, cr, okM, lm, A10, m10, c10, b10, rfl, hokm, hlm, hm1, hm2, hS2⟩
  refine ⟨_, rfl, ?_⟩
  replace hS := hS.leave [0] [1, 2, 3, 4] rfl rfl rfl hS2 rfl --ents rowm,gr,g2_13,g3_5,va,g0_0
  clear hS2
  try replace hS := St.nm (M' := [.row _ _ _ _ _, _, .blk _ _ [_, _, _, _, _, _, _, _, _, _, _], .blk _ _ [_, _, _], .vw _ _, .blk _ _ [_, _, _, _, _, _, _, _, _, _, _]]) hS rfl
  refine hK _ _ ?_; clear hK K
  refine wl_v (x_move (tmT rfl rfl)) ?_
  refine wl_v (x_ext (tmT rfl rfl) rfl) ?_
  refine wl_v (x_ext (tmT rfl rfl) rfl) ?_
  refine wl_v (x_assign (tmS rfl rfl)) ?_
  refine wl_v (x_assign (tmB rfl rfl)) ?_
  refine wl_nil ?_
  refine then_n (hK6 _ _ ?_); clear hK6 K6
  refine wp_seq_k ?_; intro K7 hK7
  refine wlit ?_
  refine wl_v (x_move (tmS rfl rfl)) ?_
  refine wl_v (x_fa 10 Try.underlying35 rfl rfl ts_33 (tmP rfl rfl)) ?_
  refine wl_e rfl ?_; intro K hK
  first
   | refine ow_store hS 2 rfl ts_33 (tmP rfl rfl) (tmS rfl rfl) rfl rfl ?_
   | refine ow_storeX hS 2 rfl ts_33 (tmP rfl rfl) (tmS rfl rfl) rfl (by simp; omega) ?_
  clear hS; intro w hS
  try replace hS := St.nm (M' := [.row _ _ _ _ _, _, .blk _ _ [_, _, _, _, _, _, _, _, _, _, _], .blk _ _ [_, _, _], .vw _ _, .blk _ _ [_, _, _, _, _, _, _, _, _, _, _]]) hS rfl
  refine hK _ _ ?_; clear hK K
  refine wl_nil ?_
  refine then_n (hK7 _ _ ?_); clear hK7 K7
  refine wp_seq_k ?_; intro K8 hK8
  refine wp_seq_k ?_; intro K9 hK9
  refine wlit ?_
  refine wl_v (x_move (tmB rfl rfl)) ?_
  refine wl_v (x_not (tmB rfl rfl)) ?_
  refine wl_v (x_move (tmB rfl rfl)) ?_
  refine gs_wl (tm (t := 51) rfl) (fun hg7_2 => ?_) (fun hg7_2 => ?_)
  · have hg7_2' := hg7_2; (try simp only [nrm] at hg7_2'); try (exfalso; first | with_reducible exact absurd hg7_2 Bool.false_ne_true | with_reducible exact absurd hg7_2.symm Bool.false_ne_true | omega | (simp at hg7_2; done))
    all_goals
     refine wl_s rfl (want_n rfl rfl rfl rfl (by rw [hg7_2]; rfl)) ?_
     refine wl_s rfl (want_n rfl rfl rfl rfl (by rw [hg7_2]; rfl)) ?_
     refine wl_v (x_pickT (tmB rfl rfl) hg7_2 ev_c) ?_
     refine wl_v (x_move (tmB rfl rfl)) ?_
     refine wl_s rfl (want_n rfl rfl rfl rfl rfl) ?_
     refine wl_s rfl (want_n rfl rfl rfl rfl rfl) ?_
     refine wl_s rfl (want_n rfl rfl rfl rfl rfl) ?_
     refine wl_v (x_pickT (tmB rfl rfl) rfl ev_c) ?_
     refine wl_nil ?_
     refine then_n (hK9 _ _ ?_); clear hK9 K9
     refine cnd_t (tmB rfl rfl) rfl ?_
     refine wp_seq_k ?_; intro K10 hK10
     refine wlit ?_
     refine wl_v (x_build (bc_skip (.int .i64 0) <| bc_skip (.int .i64 0) <| bc_skip (.int .i64 0) <| bc_skip (.int .i64 0) <| bc_skipL [.bool false, .int .u64 0, .int .u64 0] <| bc_skip (.int .u16 0) <| bc_skip (.int .u8 0) <| bc_skip (.int .i64 0) <| bc_skip (.slice none 0 0) <| bc_nil) (by kernel_rfl)) ?_
     refine wl_e rfl ?_; intro K hK
     refine ow_storeA hS 5 rfl ts_35 (tmP rfl rfl) (tmA rfl rfl) rfl rfl rfl ?_
     clear hS; intro w hS
     try replace hS := St.nm (M' := [.row _ _ _ _ _, _, .blk _ _ [_, _, _, _, _, _, _, _, _, _, _], .blk _ _ [_, _, _], .vw _ _, .blk _ _ [_, _, _, _, _, _, _, _, _, _, _]]) hS rfl
     refine hK _ _ ?_; clear hK K
     refine wl_v (x_assign (ev_cN 21)) ?_
     refine wl_nil ?_
     refine then_n (hK10 _ _ ?_); clear hK10 K10
     refine wp_ret ?_
     refine then_r ?_
     refine ret2 rfl (.cell rfl rfl (load_rowB (cs := [_, _, _, _, _, _, _, _, _, _, _]) hS.ok 5 rfl Try.underlying35 rfl ts_35 rfl)) (.tmp rfl (show _ = Value.int _ _ from rfl)) ?_
     first
       | (have hno : ¬ pOk l n := by
            rintro ⟨o1, o2, o3⟩
            first
              | (rw [hoka.2 o1] at hg7_2'; cases hg7_2'; done)
              | (rw [hokm.2 o2] at hg7_6'; cases hg7_6'; done)
              | exact hc0 ((rd_end (hm1 o2).2).1 o3)
          exact ⟨hp0, none, 0, 0, [], 21, rfl, ⟨NewV.nil_ _ _ _, rfl, .inr ⟨hno, rfl, rfl⟩⟩, fun h => absurd h hno, fun _ => rfl, hS.kp⟩)
       | (have o1 := hoka.1 hg7_2'
          have o2 := hokm.1 hg7_6'
          have hyes : pOk l n := ⟨o1, o2, (rd_end (hm1 o2).2).2 hc0⟩
          obtain rfl := hga o1
          exact ⟨hpOf l n, L, nr, cr, lm, 0, rfl, ⟨hS.newv 0 rfl, hlm, .inl ⟨hyes, rfl, (hm1 o2).1⟩⟩, fun _ => rfl, fun h => absurd hyes h, hS.kp⟩)
  have hg7_2' := hg7_2; (try simp only [nrm] at hg7_2'); try (exfalso; first | with_reducible exact absurd hg7_2 Bool.false_ne_true | with_reducible exact absurd hg7_2.symm Bool.false_ne_true | omega | (simp at hg7_2; done))
  all_goals
   refine wl_gv (want_y rfl rfl rfl rfl (by rw [hg7_2]; rfl)) (x_move (tmB rfl rfl)) ?_
   refine wl_gv (want_y rfl rfl rfl rfl (by rw [hg7_2]; rfl)) (x_not (tmB rfl rfl)) ?_
   refine wl_v (x_pickF (tmB rfl rfl) hg7_2 (tmB rfl rfl)) ?_
   refine wl_v (x_move (tmB rfl rfl)) ?_
   refine gs_wl (tm (t := 55) rfl) (fun hg7_6 => ?_) (fun hg7_6 => ?_)
   · have hg7_6' := hg7_6; (try simp only [nrm] at hg7_6'); try (exfalso; first | with_reducible exact absurd hg7_6 Bool.false_ne_true | with_reducible exact absurd hg7_6.symm Bool.false_ne_true | omega | (simp at hg7_6; done))
     all_goals
      refine wl_s rfl (want_n rfl rfl rfl rfl (by rw [hg7_6]; rfl)) ?_
      refine wl_s rfl (want_n rfl rfl rfl rfl (by rw [hg7_6]; rfl)) ?_
      refine wl_s rfl (want_n rfl rfl rfl rfl (by rw [hg7_6]; rfl)) ?_
      refine wl_v (x_pickT (tmB rfl rfl) hg7_6 ev_c) ?_
      refine wl_nil ?_
      refine then_n (hK9 _ _ ?_); clear hK9 K9
      refine cnd_t (tmB rfl rfl) rfl ?_
      refine wp_seq_k ?_; intro K12 hK12
      refine wlit ?_
      refine wl_v (x_build (bc_skip (.int .i64 0) <| bc_skip (.int .i64 0) <| bc_skip (.int .i64 0) <| bc_skip (.int .i64 0) <| bc_skipL [.bool false, .int .u64 0, .int .u64 0] <| bc_skip (.int .u16 0) <| bc_skip (.int .u8 0) <| bc_skip (.int .i64 0) <| bc_skip (.slice none 0 0) <| bc_nil) (by kernel_rfl)) ?_
      refine wl_e rfl ?_; intro K hK
      refine ow_storeA hS 5 rfl ts_35 (tmP rfl rfl) (tmA rfl rfl) rfl rfl rfl ?_
      clear hS; intro w hS
      try replace hS := St.nm (M' := [.row _ _ _ _ _, _, .blk _ _ [_, _, _, _, _, _, _, _, _, _, _], .blk _ _ [_, _, _], .vw _ _, .blk _ _ [_, _, _, _, _, _, _, _, _, _, _]]) hS rfl
      refine hK _ _ ?_; clear hK K
      refine wl_v (x_assign (ev_cN 21)) ?_
      refine wl_nil ?_
      refine then_n (hK12 _ _ ?_); clear hK12 K12
      refine wp_ret ?_
      refine then_r ?_
      refine ret2 rfl (.cell rfl rfl (load_rowB (cs := [_, _, _, _, _, _, _, _, _, _, _]) hS.ok 5 rfl Try.underlying35 rfl ts_35 rfl)) (.tmp rfl (show _ = Value.int _ _ from rfl)) ?_
      first
        | (have hno : ¬ pOk l n := by
             rintro ⟨o1, o2, o3⟩
             first
               | (rw [hoka.2 o1] at hg7_2'; cases hg7_2'; done)
               | (rw [hokm.2 o2] at hg7_6'; cases hg7_6'; done)
               | exact hc0 ((rd_end (hm1 o2).2).1 o3)
           exact ⟨hp0, none, 0, 0, [], 21, rfl, ⟨NewV.nil_ _ _ _, rfl, .inr ⟨hno, rfl, rfl⟩⟩, fun h => absurd h hno, fun _ => rfl, hS.kp⟩)
        | (have o1 := hoka.1 hg7_2'
           have o2 := hokm.1 hg7_6'
           have hyes : pOk l n := ⟨o1, o2, (rd_end (hm1 o2).2).2 hc0⟩
           obtain rfl := hga o1
           exact ⟨hpOf l n, L, nr, cr, lm, 0, rfl, ⟨hS.newv 0 rfl, hlm, .inl ⟨hyes, rfl, (hm1 o2).1⟩⟩, fun _ => rfl, fun h => absurd hyes h, hS.kp⟩)
   have hg7_6' := hg7_6; (try simp only [nrm] at hg7_6'); try (exfalso; first | with_reducible exact absurd hg7_6 Bool.false_ne_true | with_reducible exact absurd hg7_6.symm Bool.false_ne_true | omega | (simp at hg7_6; done))
   all_goals
    refine wl_gv (want_y rfl rfl rfl rfl (by rw [hg7_6]; rfl)) (x_move (tmP rfl rfl)) ?_
    refine wl_g (want_y rfl rfl rfl rfl (by rw [hg7_6]; rfl)) ?_; intro K hK
    refine ow_call Try.func19 rfl rfl (evs_cons (tmP rfl rfl) <| evs_nil) (cwhole_c gr A10 m10 c10 b10 _ (viewB hS.ok 1 rfl)) ?_
    rintro e w ⟨rfl, hk⟩
    refine ⟨_, rfl, ?_⟩
    replace hS := hS.kept hk
    clear hk
    refine hK _ _ ?_; clear hK K
    refine wl_gv (want_y rfl rfl rfl rfl (by rw [hg7_6]; rfl)) (x_not (tmB rfl rfl)) ?_
    refine wl_v (x_pickF (tmB rfl rfl) hg7_6 (tmB rfl rfl)) ?_
    refine wl_nil ?_
    refine then_n (hK9 _ _ ?_); clear hK9 K9
    refine cnd (tm rfl) (fun hc0 => ?_) (fun hc0 => ?_)
    · try (exfalso; first | with_reducible exact absurd hc0 Bool.false_ne_true | with_reducible exact absurd hc0.symm Bool.false_ne_true | (simp only [nrm] at hc0; omega) | (simp at hc0; done))
      all_goals
       try simp only [nrm] at hc0
       refine wp_seq_k ?_; intro K14 hK14
       refine wlit ?_
       refine wl_v (x_build (bc_skip (.int .i64 0) <| bc_skip (.int .i64 0) <| bc_skip (.int .i64 0) <| bc_skip (.int .i64 0) <| bc_skipL [.bool false, .int .u64 0, .int .u64 0] <| bc_skip (.int .u16 0) <| bc_skip (.int .u8 0) <| bc_skip (.int .i64 0) <| bc_skip (.slice none 0 0) <| bc_nil) (by kernel_rfl)) ?_
       refine wl_e rfl ?_; intro K hK
       refine ow_storeA hS 5 rfl ts_35 (tmP rfl rfl) (tmA rfl rfl) rfl rfl rfl ?_
       clear hS; intro w hS
       try replace hS := St.nm (M' := [.row _ _ _ _ _, _, .blk _ _ [_, _, _, _, _, _, _, _, _, _, _], .blk _ _ [_, _, _], .vw _ _, .blk _ _ [_, _, _, _, _, _, _, _, _, _, _]]) hS rfl
       refine hK _ _ ?_; clear hK K
       refine wl_v (x_assign (ev_cN 21)) ?_
       refine wl_nil ?_
       refine then_n (hK14 _ _ ?_); clear hK14 K14
       refine wp_ret ?_
       refine then_r ?_
       refine ret2 rfl (.cell rfl rfl (load_rowB (cs := [_, _, _, _, _, _, _, _, _, _, _]) hS.ok 5 rfl Try.underlying35 rfl ts_35 rfl)) (.tmp rfl (show _ = Value.int _ _ from rfl)) ?_
       first
         | (have hno : ¬ pOk l n := by
              rintro ⟨o1, o2, o3⟩
              first
                | (rw [hoka.2 o1] at hg7_2'; cases hg7_2'; done)
                | (rw [hokm.2 o2] at hg7_6'; cases hg7_6'; done)
                | exact hc0 ((rd_end (hm1 o2).2).1 o3)
            exact ⟨hp0, none, 0, 0, [], 21, rfl, ⟨NewV.nil_ _ _ _, rfl, .inr ⟨hno, rfl, rfl⟩⟩, fun h => absurd h hno, fun _ => rfl, hS.kp⟩)
         | (have o1 := hoka.1 hg7_2'
            have o2 := hokm.1 hg7_6'
            have hyes : pOk l n := ⟨o1, o2, (rd_end (hm1 o2).2).2 hc0⟩
            obtain rfl := hga o1
            exact ⟨hpOf l n, L, nr, cr, lm, 0, rfl, ⟨hS.newv 0 rfl, hlm, .inl ⟨hyes, rfl, (hm1 o2).1⟩⟩, fun _ => rfl, fun h => absurd hyes h, hS.kp⟩)
    try (exfalso; first | with_reducible exact absurd hc0 Bool.false_ne_true | with_reducible exact absurd hc0.symm Bool.false_ne_true | (simp only [nrm] at hc0; omega) | (simp at hc0; done))
    all_goals
     try simp only [nrm] at hc0
     refine wp_skip ?_
     refine then_n (hK8 _ _ ?_); clear hK8 K8
     refine wp_seq_k ?_; intro K16 hK16
     refine wlit ?_
     refine wl_v (x_loadA (cs := [_, _, _, _, _, _, _, _, _, _, _]) Try.underlying35 rfl ts_35 (tmP rfl rfl) (rangeB hS.ok 2 rfl rfl)) ?_
     refine wl_e rfl ?_; intro K hK
     refine ow_storeA hS 5 rfl ts_35 (tmP rfl rfl) (tmA rfl rfl) rfl rfl rfl ?_
     clear hS; intro w hS
     try replace hS := St.nm (M' := [.row _ _ _ _ _, _, .blk _ _ [_, _, _, _, _, _, _, _, _, _, _], .blk _ _ [_, _, _], .vw _ _, .blk _ _ [_, _, _, _, _, _, _, _, _, _, _]]) hS rfl
     refine hK _ _ ?_; clear hK K
     refine wl_v (x_assign (ev_cN 0)) ?_
     refine wl_nil ?_
     refine then_n (hK16 _ _ ?_); clear hK16 K16
     refine wp_ret ?_
     refine ret2 rfl (.cell rfl rfl (load_rowB (cs := [_, _, _, _, _, _, _, _, _, _, _]) hS.ok 5 rfl Try.underlying35 rfl ts_35 rfl)) (.tmp rfl (show _ = Value.int _ _ from rfl)) ?_
     first
       | (have hno : ¬ pOk l n := by
            rintro ⟨o1, o2, o3⟩
            first
              | (rw [hoka.2 o1] at hg7_2'; cases hg7_2'; done)
              | (rw [hokm.2 o2] at hg7_6'; cases hg7_6'; done)
              | exact hc0 ((rd_end (hm1 o2).2).1 o3)
          exact ⟨hp0, none, 0, 0, [], 21, rfl, ⟨NewV.nil_ _ _ _, rfl, .inr ⟨hno, rfl, rfl⟩⟩, fun h => absurd h hno, fun _ => rfl, hS.kp⟩)
       | (have o1 := hoka.1 hg7_2'
          have o2 := hokm.1 hg7_6'
          have hyes : pOk l n := ⟨o1, o2, (rd_end (hm1 o2).2).2 hc0⟩
          obtain rfl := hga o1
          exact ⟨hpOf l n, L, nr, cr, lm, 0, rfl, ⟨hS.newv 0 rfl, hlm, .inl ⟨hyes, rfl, (hm1 o2).1⟩⟩, fun _ => rfl, fun h => absurd hyes h, hS.kp⟩)
end Go.Proofs.Ytoaodcbfehfdoaa
