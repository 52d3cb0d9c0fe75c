
/- a record's bytes, by both, by contract. Conditions: none but bounds. -/
import Derived.Test.YtcimbinkjepkcaaJrA
namespace Go.Proofs.Ytcimbinkjepkcaa
open Go.ChangeShapes Go.WideShapes Go.ChangeAt Go.RowKit
def hdr (num n : Nat) : List Nat := be num 8 ++ be n 2
def frm (num : Nat) (x : List Nat) : List Nat := hdr num x.length ++ (be (crc (hdr num x.length ++ x)) 4 ++ x)
theorem hdr_len (num n : Nat) : (hdr num n).length = 10 := by simp [hdr, be_length]
theorem hdr_bytes (num n : Nat) : Bytes (hdr num n) := (be_bytes _ _).append (be_bytes _ _)
theorem frm_len (num : Nat) (x : List Nat) : (frm num x).length = 14 + x.length := by simp [frm, hdr_len, be_length]; omega
theorem frm_bytes {num : Nat} {x : List Nat} (h : Bytes x) : Bytes (frm num x) := (hdr_bytes _ _).append ((be_bytes _ _).append h)
theorem joined2 {A B : Option Addr} {a b : List Nat} {c d : Nat} : joined [(A, a, c), (B, b, d)] = a ++ b := by
  simp only [joined, List.map_cons, List.map_nil, List.flatten_cons, List.flatten_nil, List.append_nil]
theorem joined3 {A B C : Option Addr} {a b x : List Nat} {c d e : Nat} : joined [(A, a, c), (B, b, d), (C, x, e)] = a ++ (b ++ x) := by
  simp only [joined, List.map_cons, List.map_nil, List.flatten_cons, List.flatten_nil, List.append_nil]
set_option maxRecDepth 100000 in
set_option maxHeartbeats 4000000 in
theorem front_c (num : Nat) (B : Option Addr) (n cb : Nat) (w0 : World) (hN : num ≤ 18446744073709551615) (hn4 : n ≤ 1000000) :
    Calls Try.prog 21 #[.int .u64 (num : Int), .slice B n cb] w0 fun e w' => ∃ g, e = .returned (.slice (some ⟨g, 0, none⟩) 10 10) ∧ New w0 w' (.row (.slice (some ⟨g, 0, none⟩) 10 10) 5 1 10 ((hdr num n).map u8v)) ∧ Kp [] w0 w' := by
  have hS := St.sv w0
  refine ent (n := 11) Try.func21 rfl rfl ?_
  refine wp_seq_k ?_; intro K1 hK1
  refine wlit ?_
  refine wl_v (x_assign ev_c) ?_
  refine wl_nil ?_
  refine then_n (hK1 _ _ ?_); clear hK1 K1
  refine wp_seq_k ?_; intro K2 hK2
  refine wlit ?_
  refine wl_v (x_move (tmI rfl rfl)) ?_
  refine wl_e rfl ?_; intro K hK
  refine ow_call Try.func22 rfl rfl (evs_cons ev_c <| evs_cons (tmI rfl rfl) <| evs_cons (ev_cN 8) <| evs_nil) (put_c 0 none 0 [] num 8 _ View.nil_ rfl (by omega) hN (by omega)) ?_
  rintro e w ⟨g1, rfl, hn, hk⟩
  refine ⟨_, rfl, ?_⟩
  rw [List.nil_append] at hn
  replace hS := hS.add hk hn -- +rowa
  clear hn hk
  refine hK _ _ ?_; clear hK K
  refine wl_v (x_move (tmS rfl rfl)) ?_
  refine wl_v (x_len Try.underlying22 (tmS rfl rfl)) ?_
  first
   | refine wl_v (x_convN Try.underlying3 Try.underlying23 (tmI rfl rfl) (fit_u64 (by omega))) ?_
   | refine wl_v (x_convU Try.underlying3 Try.underlying23 (tmI rfl rfl) rfl) ?_
   | refine wl_v (x_conv Try.underlying3 Try.underlying23 (tmI rfl rfl)) ?_
  refine wl_e rfl ?_; intro K hK
  refine ow_call Try.func22 rfl rfl (evs_cons (tmS rfl rfl) <| evs_cons (tmI rfl rfl) <| evs_cons (ev_cN 2) <| evs_nil) (put_c 8 _ 8 (be num 8) n 2 _ (viewR hS.ok 0 rfl) (be_length _ _) (by omega) (by omega) (by omega)) ?_
  rintro e w ⟨g2, rfl, hn, hk⟩
  refine ⟨_, rfl, ?_⟩
  replace hS := hS.add hk hn -- +rowb
  clear hn hk
  refine hK _ _ ?_; clear hK K
  refine wl_v (x_assign (tmS rfl rfl)) ?_
  refine wl_nil ?_
  refine then_n (hK2 _ _ ?_); clear hK2 K2
  refine wp_ret ?_
  refine ret1 rfl (.tmp rfl (show _ = Value.slice _ _ _ from rfl)) ?_
  exact ⟨_, rfl, hS.new 0 rfl rfl, hS.kp⟩
set_option maxRecDepth 100000 in
set_option maxHeartbeats 4000000 in
theorem frame_c (num : Nat) (B : Option Addr) (n cb : Nat) (x : List Nat) (w0 : World) (hv : View w0 w0.heap.size B (x.map u8v)) (hl : x.length = n) (hN : num ≤ 18446744073709551615) (hn4 : n ≤ 4096) (hb : Bytes x) :
    Calls Try.prog 7 #[.int .u64 (num : Int), .slice B n cb] w0 fun e w' => ∃ A' m c', m = (frm num x).length ∧ e = .returned (.slice A' m c') ∧ New w0 w' (.row (.slice A' m c') 5 1 m ((frm num x).map u8v)) ∧ Kp [] w0 w' := by
  subst hl
  have hS := (St.sv w0).vcons rfl hv
  have hhl := hdr_len num x.length
  have hhb := hdr_bytes num x.length
  have hcl := crc_lt (hhb.append hb)
  have hfl := frm_len num x
  have hfe : (hdr num x.length ++ be (crc (hdr num x.length ++ x)) 4) ++ x = frm num x := List.append_assoc ..
  generalize hfr : frm num x = fr at *
  clear hfr
  refine ent (n := 21) Try.func7 rfl rfl ?_
  refine wp_seq_k ?_; intro K1 hK1
  refine wlit ?_
  refine wl_v (x_assign ev_c) ?_
  refine wl_nil ?_
  refine then_n (hK1 _ _ ?_); clear hK1 K1
  refine wp_seq_k ?_; intro K2 hK2
  refine wp_seq_k ?_; intro K3 hK3
  refine wlit ?_
  refine wl_v (x_move (tmS rfl rfl)) ?_
  refine wl_v (x_len Try.underlying22 (tmS rfl rfl)) ?_
  refine wl_v (x_gtr (tmI rfl rfl) (ev_cN 4096)) ?_
  refine wl_nil ?_
  refine then_n (hK3 _ _ ?_); clear hK3 K3
  refine cnd (tm rfl) (fun hc0 => ?_) (fun hc0 => ?_)
  · exfalso
    simp at hc0
    omega
  try (exfalso; first | with_reducible exact absurd hc0 Bool.false_ne_true | with_reducible exact absurd hc0.symm Bool.false_ne_true | (simp only [nrm] at hc0; omega) | (simp at hc0; done))
  all_goals
   try simp only [nrm] at hc0
   refine wp_skip ?_
   refine then_n (hK2 _ _ ?_); clear hK2 K2
   refine wp_seq_k ?_; intro K4 hK4
   refine wlit ?_
   refine wl_v (x_move (tmI rfl rfl)) ?_
   refine wl_v (x_move (tmS rfl rfl)) ?_
   refine wl_e rfl ?_; intro K hK
   refine ow_call Try.func21 rfl rfl (evs_cons (tmI rfl rfl) <| evs_cons (tmS rfl rfl) <| evs_nil) (front_c num B x.length cb _ hN (by omega)) ?_
   rintro e w ⟨g1, rfl, hn, hk⟩
   refine ⟨_, rfl, ?_⟩
   replace hS := hS.add hk hn -- +rowa
   clear hn hk
   generalize hdr num x.length = hd at *
   refine hK _ _ ?_; clear hK K
   refine wl_v (x_assign (tmS rfl rfl)) ?_
   refine wl_nil ?_
   refine then_n (hK4 _ _ ?_); clear hK4 K4
   refine wp_seq_k ?_; intro K5 hK5
   refine wlit ?_
   refine wl_v (x_move (tmS rfl rfl)) ?_
   refine wl_v (x_move (tmS rfl rfl)) ?_
   refine wl_v (x_move (tmS rfl rfl)) ?_
   refine wl_e rfl ?_; intro K hK
   refine ow_build hS Try.underlying25 tz_22 (bc_take (tmS rfl rfl) <| bc_take (tmS rfl rfl) <| bc_nil) rfl rfl (by kernel_rfl) ?_
   clear hS; intro g4_3 w hg4_3 hS
   refine hK _ _ ?_; clear hK K
   refine wl_e rfl ?_; intro K hK
   refine ow_call Try.func23 rfl rfl (evs_cons (tmS rfl rfl) <| evs_nil) (check_c 2 _ 2 [(some ⟨g1, 0, none⟩, hd, 10), (B, x, cb)] _ (by have h := viewB hS.ok 0 rfl; simp only [List.map_cons, List.map_nil, rowV, hhl]; exact h) (seen_cons (viewR hS.ok 1 rfl) <| seen_cons (viewV hS.ok 2 rfl) seen_nil) rfl (by omega) (by intro r hr; rcases List.mem_cons.1 hr with rfl | hr; exact hhb; rcases List.mem_cons.1 hr with rfl | hr; exact hb; cases hr) (by intro r hr; rcases List.mem_cons.1 hr with rfl | hr; (show hd.length ≤ _; omega); rcases List.mem_cons.1 hr with rfl | hr; (show x.length ≤ _; omega); cases hr)) ?_
   rintro e w ⟨rfl, hk⟩
   refine ⟨_, rfl, ?_⟩
   rw [joined2]
   replace hS := hS.kept hk
   clear hk
   generalize crc (hd ++ x) = cr at *
   refine hK _ _ ?_; clear hK K
   first
    | refine wl_v (x_convN Try.underlying48 Try.underlying23 (tmI rfl rfl) (fit_u64 (by omega))) ?_
    | refine wl_v (x_convU Try.underlying48 Try.underlying23 (tmI rfl rfl) rfl) ?_
    | refine wl_v (x_conv Try.underlying48 Try.underlying23 (tmI rfl rfl)) ?_
   refine wl_e rfl ?_; intro K hK
   refine ow_call Try.func22 rfl rfl (evs_cons (tmS rfl rfl) <| evs_cons (tmI rfl rfl) <| evs_cons (ev_cN 4) <| evs_nil) (put_c 10 _ 10 hd cr 4 _ (viewR hS.ok 1 rfl) hhl (by omega) (by omega) (by omega)) ?_
   rintro e w ⟨g2, rfl, hn, hk⟩
   refine ⟨_, rfl, ?_⟩
   replace hS := hS.add hk hn -- +rowb
   clear hn hk
   refine hK _ _ ?_; clear hK K
   refine wl_v (x_move (tmS rfl rfl)) ?_
   refine wl_e rfl ?_; intro K hK
   first
    | (refine ow_append hS 0 1 rfl rfl Try.underlying22 tz_5 rfl (tmS rfl rfl) (tmS rfl rfl) rfl ⟨by decide, by decide, rfl⟩ (by simp only [maxLen]; omega) (by omega) ?_; clear hS; intro g4_8 cg4_8 w hS)
    | (refine ow_append hS 0 2 rfl rfl Try.underlying22 tz_5 rfl (tmS rfl rfl) (tmS rfl rfl) rfl ⟨by decide, by decide, rfl⟩ (by simp only [maxLen]; omega) (by omega) ?_; clear hS; intro g4_8 cg4_8 w hS)
    | (refine ow_append hS 0 3 rfl rfl Try.underlying22 tz_5 rfl (tmS rfl rfl) (tmS rfl rfl) rfl ⟨by decide, by decide, rfl⟩ (by simp only [maxLen]; omega) (by omega) ?_; clear hS; intro g4_8 cg4_8 w hS)
    | (refine ow_append hS 2 0 rfl rfl Try.underlying22 tz_5 rfl (tmS rfl rfl) (tmS rfl rfl) rfl ⟨by decide, by decide, rfl⟩ (by simp only [maxLen]; omega) (by omega) ?_; clear hS; intro g4_8 cg4_8 w hS)
    | (refine ow_append hS 2 1 rfl rfl Try.underlying22 tz_5 rfl (tmS rfl rfl) (tmS rfl rfl) rfl ⟨by decide, by decide, rfl⟩ (by simp only [maxLen]; omega) (by omega) ?_; clear hS; intro g4_8 cg4_8 w hS)
    | (refine ow_append hS 2 3 rfl rfl Try.underlying22 tz_5 rfl (tmS rfl rfl) (tmS rfl rfl) rfl ⟨by decide, by decide, rfl⟩ (by simp only [maxLen]; omega) (by omega) ?_; clear hS; intro g4_8 cg4_8 w hS)
    | (refine ow_appendV hS 0 rfl (viewR hS.ok 0 rfl) Try.underlying22 tz_5 rfl (tmS rfl rfl) (tmS rfl rfl) (by first | exact u8v_one _ | (intro u hu; simp at hu; first | (rcases hu with rfl | rfl <;> rfl) | (obtain ⟨_, _, rfl⟩ := hu; rfl))) ⟨by decide, by first | rfl | (simp; done) | (simp; omega)⟩ (by simp only [maxLen]; omega) (by omega) ?_; clear hS; intro g4_8 cg4_8 w hAg4_8 hCg4_8 hS)
    | (refine ow_appendV hS 0 rfl (viewB hS.ok 1 rfl) Try.underlying22 tz_5 rfl (tmS rfl rfl) (tmS rfl rfl) (by first | exact u8v_one _ | (intro u hu; simp at hu; first | (rcases hu with rfl | rfl <;> rfl) | (obtain ⟨_, _, rfl⟩ := hu; rfl))) ⟨by decide, by first | rfl | (simp; done) | (simp; omega)⟩ (by simp only [maxLen]; omega) (by omega) ?_; clear hS; intro g4_8 cg4_8 w hAg4_8 hCg4_8 hS)
    | (refine ow_appendV hS 0 rfl (viewR hS.ok 2 rfl) Try.underlying22 tz_5 rfl (tmS rfl rfl) (tmS rfl rfl) (by first | exact u8v_one _ | (intro u hu; simp at hu; first | (rcases hu with rfl | rfl <;> rfl) | (obtain ⟨_, _, rfl⟩ := hu; rfl))) ⟨by decide, by first | rfl | (simp; done) | (simp; omega)⟩ (by simp only [maxLen]; omega) (by omega) ?_; clear hS; intro g4_8 cg4_8 w hAg4_8 hCg4_8 hS)
    | (refine ow_appendV hS 0 rfl (viewV hS.ok 3 rfl) Try.underlying22 tz_5 rfl (tmS rfl rfl) (tmS rfl rfl) (by first | exact u8v_one _ | (intro u hu; simp at hu; first | (rcases hu with rfl | rfl <;> rfl) | (obtain ⟨_, _, rfl⟩ := hu; rfl))) ⟨by decide, by first | rfl | (simp; done) | (simp; omega)⟩ (by simp only [maxLen]; omega) (by omega) ?_; clear hS; intro g4_8 cg4_8 w hAg4_8 hCg4_8 hS)
    | (refine ow_appendV hS 0 rfl View.nil_ Try.underlying22 tz_5 rfl (tmS rfl rfl) (tmS rfl rfl) (by first | exact u8v_one _ | (intro u hu; simp at hu; first | (rcases hu with rfl | rfl <;> rfl) | (obtain ⟨_, _, rfl⟩ := hu; rfl))) ⟨by decide, by first | rfl | (simp; done) | (simp; omega)⟩ (by simp only [maxLen]; omega) (by omega) ?_; clear hS; intro g4_8 cg4_8 w hAg4_8 hCg4_8 hS)
    | (refine ow_appendV hS 2 rfl (viewR hS.ok 0 rfl) Try.underlying22 tz_5 rfl (tmS rfl rfl) (tmS rfl rfl) (by first | exact u8v_one _ | (intro u hu; simp at hu; first | (rcases hu with rfl | rfl <;> rfl) | (obtain ⟨_, _, rfl⟩ := hu; rfl))) ⟨by decide, by first | rfl | (simp; done) | (simp; omega)⟩ (by simp only [maxLen]; omega) (by omega) ?_; clear hS; intro g4_8 cg4_8 w hAg4_8 hCg4_8 hS)
    | (refine ow_appendV hS 2 rfl (viewB hS.ok 1 rfl) Try.underlying22 tz_5 rfl (tmS rfl rfl) (tmS rfl rfl) (by first | exact u8v_one _ | (intro u hu; simp at hu; first | (rcases hu with rfl | rfl <;> rfl) | (obtain ⟨_, _, rfl⟩ := hu; rfl))) ⟨by decide, by first | rfl | (simp; done) | (simp; omega)⟩ (by simp only [maxLen]; omega) (by omega) ?_; clear hS; intro g4_8 cg4_8 w hAg4_8 hCg4_8 hS)
    | (refine ow_appendV hS 2 rfl (viewR hS.ok 2 rfl) Try.underlying22 tz_5 rfl (tmS rfl rfl) (tmS rfl rfl) (by first | exact u8v_one _ | (intro u hu; simp at hu; first | (rcases hu with rfl | rfl <;> rfl) | (obtain ⟨_, _, rfl⟩ := hu; rfl))) ⟨by decide, by first | rfl | (simp; done) | (simp; omega)⟩ (by simp only [maxLen]; omega) (by omega) ?_; clear hS; intro g4_8 cg4_8 w hAg4_8 hCg4_8 hS)
    | (refine ow_appendV hS 2 rfl (viewV hS.ok 3 rfl) Try.underlying22 tz_5 rfl (tmS rfl rfl) (tmS rfl rfl) (by first | exact u8v_one _ | (intro u hu; simp at hu; first | (rcases hu with rfl | rfl <;> rfl) | (obtain ⟨_, _, rfl⟩ := hu; rfl))) ⟨by decide, by first | rfl | (simp; done) | (simp; omega)⟩ (by simp only [maxLen]; omega) (by omega) ?_; clear hS; intro g4_8 cg4_8 w hAg4_8 hCg4_8 hS)
    | (refine ow_appendV hS 2 rfl View.nil_ Try.underlying22 tz_5 rfl (tmS rfl rfl) (tmS rfl rfl) (by first | exact u8v_one _ | (intro u hu; simp at hu; first | (rcases hu with rfl | rfl <;> rfl) | (obtain ⟨_, _, rfl⟩ := hu; rfl))) ⟨by decide, by first | rfl | (simp; done) | (simp; omega)⟩ (by simp only [maxLen]; omega) (by omega) ?_; clear hS; intro g4_8 cg4_8 w hAg4_8 hCg4_8 hS)
   refine hK _ _ ?_; clear hK K
   refine wl_v (x_assign (tmS rfl rfl)) ?_
   refine wl_nil ?_
   refine then_n (hK5 _ _ ?_); clear hK5 K5
   refine wp_ret ?_
   refine ret1 rfl (.tmp rfl (show _ = Value.slice _ _ _ from rfl)) ?_
   rw [← List.map_append, hfe] at hS
   exact ⟨_, _, _, by omega, rfl, hS.new 0 rfl rfl, hS.kp⟩
set_option maxRecDepth 100000 in
set_option maxHeartbeats 4000000 in
theorem frame_long_c (num : Nat) (B : Option Addr) (n cb : Nat) (w0 : World) (hn4 : 4096 < n) :
    Calls Try.prog 7 #[.int .u64 (num : Int), .slice B n cb] w0 fun e w' => e = .returned (.slice none 0 0) ∧ Kp [] w0 w' := by
  have hS := St.sv w0
  refine ent (n := 21) Try.func7 rfl rfl ?_
  refine wp_seq_k ?_; intro K1 hK1
  refine wlit ?_
  refine wl_v (x_assign ev_c) ?_
  refine wl_nil ?_
  refine then_n (hK1 _ _ ?_); clear hK1 K1
  refine wp_seq_k ?_; intro K2 hK2
  refine wp_seq_k ?_; intro K3 hK3
  refine wlit ?_
  refine wl_v (x_move (tmS rfl rfl)) ?_
  refine wl_v (x_len Try.underlying22 (tmS rfl rfl)) ?_
  refine wl_v (x_gtr (tmI rfl rfl) (ev_cN 4096)) ?_
  refine wl_nil ?_
  refine then_n (hK3 _ _ ?_); clear hK3 K3
  refine cnds (tm rfl) (fun hc0 => ?_) (fun hc0 => ?_)
  · exfalso
    simp at hc0
    omega
  try (exfalso; first | with_reducible exact absurd hc0 Bool.false_ne_true | with_reducible exact absurd hc0.symm Bool.false_ne_true | (simp only [nrm] at hc0; omega) | (simp at hc0; done))
  all_goals
   try simp only [nrm] at hc0
   refine wp_seq_k ?_; intro K4 hK4
   refine wlit ?_
   refine wl_v (x_assign ev_c) ?_
   refine wl_nil ?_
   refine then_n (hK4 _ _ ?_); clear hK4 K4
   refine wp_ret ?_
   refine then_r ?_
   refine ret1 rfl (.tmp rfl (show _ = Value.slice _ _ _ from rfl)) ?_
   exact ⟨rfl, hS.kp⟩
set_option maxRecDepth 100000 in
set_option maxHeartbeats 4000000 in
theorem rframe_c (num : Nat) (B : Option Addr) (n cb : Nat) (x : List Nat) (w0 : World) (hv : View w0 w0.heap.size B (x.map u8v)) (hl : x.length = n) (hN : num ≤ 18446744073709551615) (hn4 : n ≤ 4096) (hb : Bytes x) :
    Calls Try.prog 8 #[.int .u64 (num : Int), .slice B n cb] w0 fun e w' => ∃ A' m c', m = (frm num x).length ∧ e = .returned (.slice A' m c') ∧ New w0 w' (.row (.slice A' m c') 5 1 m ((frm num x).map u8v)) ∧ Kp [] w0 w' := by
  subst hl
  have hS := (St.sv w0).vcons rfl hv
  have hhl := hdr_len num x.length
  have hhb := hdr_bytes num x.length
  have hcl := crc_lt (hhb.append hb)
  have hfl := frm_len num x
  have hfe : hdr num x.length ++ (be (crc (hdr num x.length ++ x)) 4 ++ x) = frm num x := rfl
  have hhe : be num 8 ++ be x.length 2 = hdr num x.length := rfl
  generalize hfr : frm num x = fr at *
  clear hfr
  refine ent (n := 27) Try.func8 rfl rfl ?_
  refine wp_seq_k ?_; intro K1 hK1
  refine wlit ?_
  refine wl_v (x_assign ev_c) ?_
  refine wl_nil ?_
  refine then_n (hK1 _ _ ?_); clear hK1 K1
  refine wp_seq_k ?_; intro K2 hK2
  refine wlit ?_
  refine wl_v (x_move (tmI rfl rfl)) ?_
  refine wl_e rfl ?_; intro K hK
  refine ow_call Try.func24 rfl rfl (evs_cons (tmI rfl rfl) <| evs_cons (ev_cN 8) <| evs_nil) (rbytes_c num 8 _ hN (by omega)) ?_
  rintro e w ⟨g1, rfl, hn, hk⟩
  refine ⟨_, rfl, ?_⟩
  replace hS := hS.add hk hn -- +rowa
  clear hn hk
  refine hK _ _ ?_; clear hK K
  refine wl_v (x_move (tmS rfl rfl)) ?_
  refine wl_v (x_len Try.underlying22 (tmS rfl rfl)) ?_
  first
   | refine wl_v (x_convN Try.underlying3 Try.underlying23 (tmI rfl rfl) (fit_u64 (by omega))) ?_
   | refine wl_v (x_convU Try.underlying3 Try.underlying23 (tmI rfl rfl) rfl) ?_
   | refine wl_v (x_conv Try.underlying3 Try.underlying23 (tmI rfl rfl)) ?_
  refine wl_e rfl ?_; intro K hK
  refine ow_call Try.func24 rfl rfl (evs_cons (tmI rfl rfl) <| evs_cons (ev_cN 2) <| evs_nil) (rbytes_c x.length 2 _ (by omega) (by omega)) ?_
  rintro e w ⟨g2, rfl, hn, hk⟩
  refine ⟨_, rfl, ?_⟩
  replace hS := (hS.add hk hn).freeze 0 rfl -- +va
  clear hn hk
  refine hK _ _ ?_; clear hK K
  refine wl_e rfl ?_; intro K hK
  first
   | (refine ow_append hS 1 0 rfl rfl Try.underlying22 tz_5 rfl (tmS rfl rfl) (tmS rfl rfl) rfl ⟨by decide, by decide, rfl⟩ (by simp only [maxLen]; omega) (by omega) ?_; clear hS; intro g1_6 cg1_6 w hS)
   | (refine ow_append hS 1 2 rfl rfl Try.underlying22 tz_5 rfl (tmS rfl rfl) (tmS rfl rfl) rfl ⟨by decide, by decide, rfl⟩ (by simp only [maxLen]; omega) (by omega) ?_; clear hS; intro g1_6 cg1_6 w hS)
   | (refine ow_appendV hS 1 rfl (viewV hS.ok 0 rfl) Try.underlying22 tz_5 rfl (tmS rfl rfl) (tmS rfl rfl) (by first | exact u8v_one _ | (intro u hu; simp at hu; first | (rcases hu with rfl | rfl <;> rfl) | (obtain ⟨_, _, rfl⟩ := hu; rfl))) ⟨by decide, by first | rfl | (simp; done) | (simp; omega)⟩ (by simp only [maxLen]; omega) (by omega) ?_; clear hS; intro g1_6 cg1_6 w hAg1_6 hCg1_6 hS)
   | (refine ow_appendV hS 1 rfl (viewR hS.ok 1 rfl) Try.underlying22 tz_5 rfl (tmS rfl rfl) (tmS rfl rfl) (by first | exact u8v_one _ | (intro u hu; simp at hu; first | (rcases hu with rfl | rfl <;> rfl) | (obtain ⟨_, _, rfl⟩ := hu; rfl))) ⟨by decide, by first | rfl | (simp; done) | (simp; omega)⟩ (by simp only [maxLen]; omega) (by omega) ?_; clear hS; intro g1_6 cg1_6 w hAg1_6 hCg1_6 hS)
   | (refine ow_appendV hS 1 rfl (viewV hS.ok 2 rfl) Try.underlying22 tz_5 rfl (tmS rfl rfl) (tmS rfl rfl) (by first | exact u8v_one _ | (intro u hu; simp at hu; first | (rcases hu with rfl | rfl <;> rfl) | (obtain ⟨_, _, rfl⟩ := hu; rfl))) ⟨by decide, by first | rfl | (simp; done) | (simp; omega)⟩ (by simp only [maxLen]; omega) (by omega) ?_; clear hS; intro g1_6 cg1_6 w hAg1_6 hCg1_6 hS)
   | (refine ow_appendV hS 1 rfl View.nil_ Try.underlying22 tz_5 rfl (tmS rfl rfl) (tmS rfl rfl) (by first | exact u8v_one _ | (intro u hu; simp at hu; first | (rcases hu with rfl | rfl <;> rfl) | (obtain ⟨_, _, rfl⟩ := hu; rfl))) ⟨by decide, by first | rfl | (simp; done) | (simp; omega)⟩ (by simp only [maxLen]; omega) (by omega) ?_; clear hS; intro g1_6 cg1_6 w hAg1_6 hCg1_6 hS)
  refine hK _ _ ?_; clear hK K
  refine wl_v (x_assign (tmS rfl rfl)) ?_
  refine wl_nil ?_
  rw [← List.map_append, hhe] at hS
  generalize hdr num x.length = hd at *
  replace hS := hS.pick [1, 2] rfl rfl
  try replace hS := St.nm (M' := [.row _ _ _ _ _, .vw _ _]) hS rfl
  refine then_n (hK2 _ _ ?_); clear hK2 K2
  refine wp_seq_k ?_; intro K3 hK3
  refine wlit ?_
  refine wl_e rfl ?_; intro K hK
  refine ow_build0 hS Try.underlying22 tz_5 rfl rfl ?_
  clear hS; intro g2_0 w hg2_0 hS
  refine hK _ _ ?_; clear hK K
  refine wl_v (x_move (tmS rfl rfl)) ?_
  refine wl_e rfl ?_; intro K hK
  refine ow_appendV hS 0 rfl (viewR hS.ok 1 rfl) Try.underlying22 tz_5 rfl (tmS rfl rfl) (tmS rfl rfl) (u8v_one _) ⟨by decide, by rw [List.length_map]; omega⟩ (by simp only [maxLen]; omega) (by omega) ?_
  clear hS; intro g2_2 cg2_2 w hA hC hS
  refine hK _ _ ?_; clear hK K
  refine wl_v (x_move (tmS rfl rfl)) ?_
  refine wl_e rfl ?_; intro K hK
  first
   | (refine ow_append hS 0 1 rfl rfl Try.underlying22 tz_5 rfl (tmS rfl rfl) (tmS rfl rfl) rfl ⟨by decide, by decide, rfl⟩ (by simp only [maxLen]; omega) (by omega) ?_; clear hS; intro g2_4 cg2_4 w hS)
   | (refine ow_append hS 0 2 rfl rfl Try.underlying22 tz_5 rfl (tmS rfl rfl) (tmS rfl rfl) rfl ⟨by decide, by decide, rfl⟩ (by simp only [maxLen]; omega) (by omega) ?_; clear hS; intro g2_4 cg2_4 w hS)
   | (refine ow_append hS 1 0 rfl rfl Try.underlying22 tz_5 rfl (tmS rfl rfl) (tmS rfl rfl) rfl ⟨by decide, by decide, rfl⟩ (by simp only [maxLen]; omega) (by omega) ?_; clear hS; intro g2_4 cg2_4 w hS)
   | (refine ow_append hS 1 2 rfl rfl Try.underlying22 tz_5 rfl (tmS rfl rfl) (tmS rfl rfl) rfl ⟨by decide, by decide, rfl⟩ (by simp only [maxLen]; omega) (by omega) ?_; clear hS; intro g2_4 cg2_4 w hS)
   | (refine ow_appendV hS 0 rfl (viewR hS.ok 0 rfl) Try.underlying22 tz_5 rfl (tmS rfl rfl) (tmS rfl rfl) (by first | exact u8v_one _ | (intro u hu; simp at hu; first | (rcases hu with rfl | rfl <;> rfl) | (obtain ⟨_, _, rfl⟩ := hu; rfl))) ⟨by decide, by first | rfl | (simp; done) | (simp; omega)⟩ (by simp only [maxLen]; omega) (by omega) ?_; clear hS; intro g2_4 cg2_4 w hAg2_4 hCg2_4 hS)
   | (refine ow_appendV hS 0 rfl (viewR hS.ok 1 rfl) Try.underlying22 tz_5 rfl (tmS rfl rfl) (tmS rfl rfl) (by first | exact u8v_one _ | (intro u hu; simp at hu; first | (rcases hu with rfl | rfl <;> rfl) | (obtain ⟨_, _, rfl⟩ := hu; rfl))) ⟨by decide, by first | rfl | (simp; done) | (simp; omega)⟩ (by simp only [maxLen]; omega) (by omega) ?_; clear hS; intro g2_4 cg2_4 w hAg2_4 hCg2_4 hS)
   | (refine ow_appendV hS 0 rfl (viewV hS.ok 2 rfl) Try.underlying22 tz_5 rfl (tmS rfl rfl) (tmS rfl rfl) (by first | exact u8v_one _ | (intro u hu; simp at hu; first | (rcases hu with rfl | rfl <;> rfl) | (obtain ⟨_, _, rfl⟩ := hu; rfl))) ⟨by decide, by first | rfl | (simp; done) | (simp; omega)⟩ (by simp only [maxLen]; omega) (by omega) ?_; clear hS; intro g2_4 cg2_4 w hAg2_4 hCg2_4 hS)
   | (refine ow_appendV hS 0 rfl View.nil_ Try.underlying22 tz_5 rfl (tmS rfl rfl) (tmS rfl rfl) (by first | exact u8v_one _ | (intro u hu; simp at hu; first | (rcases hu with rfl | rfl <;> rfl) | (obtain ⟨_, _, rfl⟩ := hu; rfl))) ⟨by decide, by first | rfl | (simp; done) | (simp; omega)⟩ (by simp only [maxLen]; omega) (by omega) ?_; clear hS; intro g2_4 cg2_4 w hAg2_4 hCg2_4 hS)
   | (refine ow_appendV hS 1 rfl (viewR hS.ok 0 rfl) Try.underlying22 tz_5 rfl (tmS rfl rfl) (tmS rfl rfl) (by first | exact u8v_one _ | (intro u hu; simp at hu; first | (rcases hu with rfl | rfl <;> rfl) | (obtain ⟨_, _, rfl⟩ := hu; rfl))) ⟨by decide, by first | rfl | (simp; done) | (simp; omega)⟩ (by simp only [maxLen]; omega) (by omega) ?_; clear hS; intro g2_4 cg2_4 w hAg2_4 hCg2_4 hS)
   | (refine ow_appendV hS 1 rfl (viewR hS.ok 1 rfl) Try.underlying22 tz_5 rfl (tmS rfl rfl) (tmS rfl rfl) (by first | exact u8v_one _ | (intro u hu; simp at hu; first | (rcases hu with rfl | rfl <;> rfl) | (obtain ⟨_, _, rfl⟩ := hu; rfl))) ⟨by decide, by first | rfl | (simp; done) | (simp; omega)⟩ (by simp only [maxLen]; omega) (by omega) ?_; clear hS; intro g2_4 cg2_4 w hAg2_4 hCg2_4 hS)
   | (refine ow_appendV hS 1 rfl (viewV hS.ok 2 rfl) Try.underlying22 tz_5 rfl (tmS rfl rfl) (tmS rfl rfl) (by first | exact u8v_one _ | (intro u hu; simp at hu; first | (rcases hu with rfl | rfl <;> rfl) | (obtain ⟨_, _, rfl⟩ := hu; rfl))) ⟨by decide, by first | rfl | (simp; done) | (simp; omega)⟩ (by simp only [maxLen]; omega) (by omega) ?_; clear hS; intro g2_4 cg2_4 w hAg2_4 hCg2_4 hS)
   | (refine ow_appendV hS 1 rfl View.nil_ Try.underlying22 tz_5 rfl (tmS rfl rfl) (tmS rfl rfl) (by first | exact u8v_one _ | (intro u hu; simp at hu; first | (rcases hu with rfl | rfl <;> rfl) | (obtain ⟨_, _, rfl⟩ := hu; rfl))) ⟨by decide, by first | rfl | (simp; done) | (simp; omega)⟩ (by simp only [maxLen]; omega) (by omega) ?_; clear hS; intro g2_4 cg2_4 w hAg2_4 hCg2_4 hS)
  refine hK _ _ ?_; clear hK K
  rw [List.nil_append, ← List.map_append] at hS
  replace hS : St [] w0 [.row (.slice g2_4 (0 + (8 + 2) + x.length) cg2_4) 5 1 (0 + (8 + 2) + x.length) ((hd ++ x).map u8v), .row (.slice g1_6 (8 + 2) cg1_6) 5 1 (8 + 2) (hd.map u8v), .vw B (x.map u8v)] w := hS
  refine wl_e rfl ?_; intro K hK
  refine ow_call Try.func25 rfl rfl (evs_cons (tmS rfl rfl) <| evs_nil) (rcrc_c _ _ _ (hd ++ x) _ (viewR hS.ok 0 rfl) (by rw [List.length_append]; omega) (by omega) (hhb.append hb)) ?_
  rintro e w ⟨rfl, hk⟩
  refine ⟨_, rfl, ?_⟩
  replace hS := hS.kept hk
  clear hk
  generalize crc (hd ++ x) = cr at *
  refine hK _ _ ?_; clear hK K
  refine wl_v (x_assign (tmI rfl rfl)) ?_
  refine wl_nil ?_
  refine then_n (hK3 _ _ ?_); clear hK3 K3
  refine wp_seq_k ?_; intro K4 hK4
  refine wlit ?_
  refine wl_v (x_move (tmS rfl rfl)) ?_
  refine wl_v (x_move (tmI rfl rfl)) ?_
  first
   | refine wl_v (x_convN Try.underlying48 Try.underlying23 (tmI rfl rfl) (fit_u64 (by omega))) ?_
   | refine wl_v (x_convU Try.underlying48 Try.underlying23 (tmI rfl rfl) rfl) ?_
   | refine wl_v (x_conv Try.underlying48 Try.underlying23 (tmI rfl rfl)) ?_
  refine wl_e rfl ?_; intro K hK
  refine ow_call Try.func24 rfl rfl (evs_cons (tmI rfl rfl) <| evs_cons (ev_cN 4) <| evs_nil) (rbytes_c cr 4 _ (by omega) (by omega)) ?_
  rintro e w ⟨g3, rfl, hn, hk⟩
  refine ⟨_, rfl, ?_⟩
  replace hS := hS.add hk hn -- +rowd
  clear hn hk
  refine hK _ _ ?_; clear hK K
  refine wl_v (x_move (tmS rfl rfl)) ?_
  refine wl_e rfl ?_; intro K hK
  refine ow_build hS Try.underlying25 tz_22 (bc_take (tmS rfl rfl) <| bc_take (tmS rfl rfl) <| bc_take (tmS rfl rfl) <| bc_nil) rfl rfl (by kernel_rfl) ?_
  clear hS; intro g3_5 w hg3_5 hS
  refine hK _ _ ?_; clear hK K
  refine wl_e rfl ?_; intro K hK
  refine ow_call Try.func26 rfl rfl (evs_cons (tmS rfl rfl) <| evs_nil) (join_c 3 _ _ [(g1_6, hd, cg1_6), (some ⟨g3, 0, none⟩, be cr 4, 4), (B, x, cb)] _ (by have h := viewB hS.ok 0 rfl; simp only [List.map_cons, List.map_nil, rowV, hhl]; exact h) (seen_cons (viewR hS.ok 3 rfl) <| seen_cons (viewR hS.ok 1 rfl) <| seen_cons (viewV hS.ok 4 rfl) seen_nil) rfl (by omega) (by rw [joined3, hfe]; omega)) ?_
  rintro e w ⟨Aj, mj, cj, hmj, rfl, hn, hk⟩
  refine ⟨_, rfl, ?_⟩
  rw [joined3, hfe] at hn hmj
  replace hS := hS.add hk hn -- +rowe
  clear hn hk
  refine hK _ _ ?_; clear hK K
  refine wl_v (x_assign (tmS rfl rfl)) ?_
  refine wl_nil ?_
  refine then_n (hK4 _ _ ?_); clear hK4 K4
  refine wp_ret ?_
  refine ret1 rfl (.tmp rfl (show _ = Value.slice _ _ _ from rfl)) ?_
  exact ⟨_, _, _, hmj, rfl, hS.new 0 rfl rfl, hS.kp⟩
end Go.Proofs.Ytcimbinkjepkcaa
