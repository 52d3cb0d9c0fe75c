
/- Flows: their bytes, by contract. Conditions: none but bounds. -/
import Derived.Test.YtilgolflpdpfnaaAd
import Derived.Test.YtilgolflpdpfnaaJF
namespace Go.Proofs.Ytilgolflpdpfnaa
open Go.RowKit
def flV (s d : Ad) (sp dp pr : Nat) : List Value := [.bool s.six, .int .u64 (s.high : Int), .int .u64 (s.low : Int), .bool d.six, .int .u64 (d.high : Int), .int .u64 (d.low : Int), .int .u16 (sp : Int), .int .u16 (dp : Int), .int .u8 (pr : Int)]
def flB (s d : Ad) (sp dp pr : Nat) : List Nat := adB s ++ adB d ++ be sp 2 ++ be dp 2 ++ be pr 1
def flN (s d : Ad) : Nat := adN s + adN d + 5
theorem flB_len (s d : Ad) (sp dp pr : Nat) : (flB s d sp dp pr).length = flN s d := by simp [flB, flN, adB_len, be_length]; omega
theorem adN_le (a : Ad) : adN a ≤ 16 := by unfold adN; cases a.six <;> simp
theorem flB_bytes (s d : Ad) (sp dp pr : Nat) : Bytes (flB s d sp dp pr) := by
  unfold flB
  repeat' (first | exact Bytes.nil | exact be_bytes _ _ | exact adB_bytes _ | apply Bytes.append)
set_option maxRecDepth 100000 in
set_option maxHeartbeats 4000000 in
theorem key_c (s d : Ad) (sp dp pr : Nat) (w0 : World) (h1 : adLim s) (h2 : adLim d) (q1 : sp < 65536) (q2 : dp < 65536) (q3 : pr < 256) :
    Calls Try.prog 122 #[.agg (flV s d sp dp pr).toArray] w0 fun e w' => ∃ g n, n = flN s d ∧ e = .returned (.slice (some ⟨g, 0, none⟩) n n) ∧ New w0 w' (.row (.slice (some ⟨g, 0, none⟩) n n) 5 1 n ((flB s d sp dp pr).map u8v)) ∧ Kp [] w0 w' := by
  have hS := St.sv w0
  have l1 := adN_le s
  have l2 := adN_le d
  have e0 : (adB s).map u8v ++ (adB d).map u8v = (adB s ++ adB d).map u8v := by simp
  refine ent (n := 26) Try.func122 rfl rfl ?_
  refine wp_seq_k ?_; intro K1 hK1
  refine wlit ?_
  refine wl_e rfl ?_; intro K hK
  refine ow_box hS (tmA rfl rfl) rfl ?_
  clear hS; intro g0_0 w hg0_0 hS
  refine hK _ _ ?_; clear hK K
  refine wl_v (x_assign ev_c) ?_
  refine wl_nil ?_
  refine then_n (hK1 _ _ ?_); clear hK1 K1
  refine wp_seq_k ?_; intro K2 hK2
  refine rg_startk 0 hS mixed_ ?_
  clear hS; intro w hS
  refine rg_take 0 rfl rfl (by kernel_rfl) (by kernel_rfl) (by kernel_rfl) (want_0) (fun w hok => x_fa 0 Try.underlying107 rfl rfl ts_26 (tmP rfl rfl)) ?_
  refine rg_take 1 rfl rfl (by kernel_rfl) (by kernel_rfl) (by kernel_rfl) (want_0) (fun w hok => x_loadA (cs := [_, _, _]) Try.underlying26 rfl ts_26 (tmP rfl rfl) (rangeB hok 0 rfl rfl)) ?_
  refine rg_take 3 rfl rfl (by kernel_rfl) (by kernel_rfl) (by kernel_rfl) (want_0) (fun w hok => x_fa 3 Try.underlying107 rfl rfl ts_26 (tmP rfl rfl)) ?_
  refine rg_take 4 rfl rfl (by kernel_rfl) (by kernel_rfl) (by kernel_rfl) (want_0) (fun w hok => x_loadA (cs := [_, _, _]) Try.underlying26 rfl ts_26 (tmP rfl rfl) (rangeB hok 0 rfl rfl)) ?_
  refine rg_step 2 rfl (by kernel_rfl) (want_0) (oks_drop hS 0 rfl) ?_; intro K hK
  refine ow_call Try.func150 rfl rfl (evs_cons (tmA rfl rfl) <| evs_nil) (ad_bytes_c s _ h1) ?_
  rintro e w ⟨A1, n1, c1, hn1, rfl, hn, hk⟩
  refine ⟨_, rfl, ?_⟩
  replace hS := hS.add hk hn -- +rowa
  clear hn hk
  refine hK _ _ ?_; clear hK K
  refine rg_step 5 rfl (by kernel_rfl) (want_0) (oks_drop hS 1 rfl) ?_; intro K hK
  refine ow_call Try.func150 rfl rfl (evs_cons (tmA rfl rfl) <| evs_nil) (ad_bytes_c d _ h2) ?_
  rintro e w ⟨A2, n2, c2, hn2, rfl, hn, hk⟩
  refine ⟨_, rfl, ?_⟩
  replace hS := (hS.add hk hn).freeze 0 rfl -- +vb
  have hbl : (adB d).length = n2 := by rw [adB_len, hn2]
  clear hn hk
  refine hK _ _ ?_; clear hK K
  refine rg_step 6 rfl (by kernel_rfl) (want_0) (oks_drop hS 2 rfl) ?_; intro K hK
  first
   | (refine ow_append hS 1 0 rfl rfl Try.underlying22 tz_5 rfl (tmS rfl rfl) (tmS rfl rfl) rfl ⟨by decide, by decide, rfl⟩ (by simp only [maxLen]; omega) (by omega) ?_; clear hS; intro g1_6 cg1_6 w hS)
   | (refine ow_append hS 1 2 rfl rfl Try.underlying22 tz_5 rfl (tmS rfl rfl) (tmS rfl rfl) rfl ⟨by decide, by decide, rfl⟩ (by simp only [maxLen]; omega) (by omega) ?_; clear hS; intro g1_6 cg1_6 w hS)
   | (refine ow_append hS 1 3 rfl rfl Try.underlying22 tz_5 rfl (tmS rfl rfl) (tmS rfl rfl) rfl ⟨by decide, by decide, rfl⟩ (by simp only [maxLen]; omega) (by omega) ?_; clear hS; intro g1_6 cg1_6 w hS)
   | (refine ow_appendV hS 1 rfl (viewV hS.ok 0 rfl) Try.underlying22 tz_5 rfl (tmS rfl rfl) (tmS rfl rfl) (by first | exact u8v_one _ | (intro u hu; simp at hu; first | (rcases hu with rfl | rfl <;> rfl) | (obtain ⟨_, _, rfl⟩ := hu; rfl))) ⟨by decide, by first | rfl | (simp; done) | (simp; omega)⟩ (by simp only [maxLen]; omega) (by omega) ?_; clear hS; intro g1_6 cg1_6 w hAg1_6 hCg1_6 hS)
   | (refine ow_appendV hS 1 rfl (viewR hS.ok 1 rfl) Try.underlying22 tz_5 rfl (tmS rfl rfl) (tmS rfl rfl) (by first | exact u8v_one _ | (intro u hu; simp at hu; first | (rcases hu with rfl | rfl <;> rfl) | (obtain ⟨_, _, rfl⟩ := hu; rfl))) ⟨by decide, by first | rfl | (simp; done) | (simp; omega)⟩ (by simp only [maxLen]; omega) (by omega) ?_; clear hS; intro g1_6 cg1_6 w hAg1_6 hCg1_6 hS)
   | (refine ow_appendV hS 1 rfl (viewB hS.ok 3 rfl) Try.underlying22 tz_5 rfl (tmS rfl rfl) (tmS rfl rfl) (by first | exact u8v_one _ | (intro u hu; simp at hu; first | (rcases hu with rfl | rfl <;> rfl) | (obtain ⟨_, _, rfl⟩ := hu; rfl))) ⟨by decide, by first | rfl | (simp; done) | (simp; omega)⟩ (by simp only [maxLen]; omega) (by omega) ?_; clear hS; intro g1_6 cg1_6 w hAg1_6 hCg1_6 hS)
   | (refine ow_appendV hS 1 rfl View.nil_ Try.underlying22 tz_5 rfl (tmS rfl rfl) (tmS rfl rfl) (by first | exact u8v_one _ | (intro u hu; simp at hu; first | (rcases hu with rfl | rfl <;> rfl) | (obtain ⟨_, _, rfl⟩ := hu; rfl))) ⟨by decide, by first | rfl | (simp; done) | (simp; omega)⟩ (by simp only [maxLen]; omega) (by omega) ?_; clear hS; intro g1_6 cg1_6 w hAg1_6 hCg1_6 hS)
  refine hK _ _ ?_; clear hK K
  refine rg_take 7 rfl rfl (by kernel_rfl) (by kernel_rfl) (by kernel_rfl) (want_0) (fun w hok => x_assign (tmS rfl rfl)) ?_
  refine rg_done (oks_drop hS 2 rfl) (by kernel_rfl) ?_
  refine then_n (hK2 _ _ ?_); clear hK2 K2
  refine wp_seq_k ?_; intro K3 hK3
  rw [e0] at hS
  refine wlit ?_
  refine wl_v (x_move (tmS rfl rfl)) ?_
  refine wl_v (x_fa 6 Try.underlying107 rfl rfl ts_40 (tmP rfl rfl)) ?_
  first
   | refine wl_v (x_load Try.underlying40 rfl (tmP rfl rfl) (cellB hS.ok 2 rfl rfl)) ?_
   | refine wl_v (x_load Try.underlying40 rfl (tmP rfl rfl) (cellB hS.ok 2 rfl (getm (by omega)))) ?_
  first
   | refine wl_v (x_convN Try.underlying40 Try.underlying24 (tmI rfl rfl) (fit_u64 (by omega))) ?_
   | refine wl_v (x_convU Try.underlying40 Try.underlying24 (tmI rfl rfl) rfl) ?_
   | refine wl_v (x_conv Try.underlying40 Try.underlying24 (tmI rfl rfl)) ?_
  refine wl_e rfl ?_; intro K hK
  refine ow_call Try.func105 rfl rfl (evs_cons (tmS rfl rfl) <| evs_cons (tmI rfl rfl) <| evs_cons (ev_cN 2) <| evs_nil) (put_c (n1 + n2) _ _ (adB s ++ adB d) sp 2 _ (viewR hS.ok 1 rfl) (by simp [adB_len, hn1, hn2]) (by omega) (by omega) (by omega)) ?_
  rintro e w ⟨g1, rfl, hn, hk⟩
  refine ⟨_, rfl, ?_⟩
  replace hS := hS.add hk hn -- +rowc
  clear hn hk
  refine hK _ _ ?_; clear hK K
  refine wl_v (x_assign (tmS rfl rfl)) ?_
  refine wl_nil ?_
  refine then_n (hK3 _ _ ?_); clear hK3 K3
  refine wp_seq_k ?_; intro K4 hK4
  refine wlit ?_
  refine wl_v (x_move (tmS rfl rfl)) ?_
  refine wl_v (x_fa 7 Try.underlying107 rfl rfl ts_40 (tmP rfl rfl)) ?_
  first
   | refine wl_v (x_load Try.underlying40 rfl (tmP rfl rfl) (cellB hS.ok 3 rfl rfl)) ?_
   | refine wl_v (x_load Try.underlying40 rfl (tmP rfl rfl) (cellB hS.ok 3 rfl (getm (by omega)))) ?_
  first
   | refine wl_v (x_convN Try.underlying40 Try.underlying24 (tmI rfl rfl) (fit_u64 (by omega))) ?_
   | refine wl_v (x_convU Try.underlying40 Try.underlying24 (tmI rfl rfl) rfl) ?_
   | refine wl_v (x_conv Try.underlying40 Try.underlying24 (tmI rfl rfl)) ?_
  refine wl_e rfl ?_; intro K hK
  refine ow_call Try.func105 rfl rfl (evs_cons (tmS rfl rfl) <| evs_cons (tmI rfl rfl) <| evs_cons (ev_cN 2) <| evs_nil) (put_c (n1 + n2 + 2) _ _ (adB s ++ adB d ++ be sp 2) dp 2 _ (viewR hS.ok 0 rfl) (by simp [adB_len, hn1, hn2, be_length]; omega) (by omega) (by omega) (by omega)) ?_
  rintro e w ⟨g2, rfl, hn, hk⟩
  refine ⟨_, rfl, ?_⟩
  replace hS := hS.add hk hn -- +rowd
  clear hn hk
  refine hK _ _ ?_; clear hK K
  refine wl_v (x_assign (tmS rfl rfl)) ?_
  refine wl_nil ?_
  refine then_n (hK4 _ _ ?_); clear hK4 K4
  refine wp_seq_k ?_; intro K5 hK5
  refine wlit ?_
  refine wl_v (x_move (tmS rfl rfl)) ?_
  refine wl_v (x_fa 8 Try.underlying107 rfl rfl ts_5 (tmP rfl rfl)) ?_
  first
   | refine wl_v (x_load Try.underlying5 rfl (tmP rfl rfl) (cellB hS.ok 4 rfl rfl)) ?_
   | refine wl_v (x_load Try.underlying5 rfl (tmP rfl rfl) (cellB hS.ok 4 rfl (getm (by omega)))) ?_
  first
   | refine wl_v (x_convN Try.underlying5 Try.underlying24 (tmI rfl rfl) (fit_u64 (by omega))) ?_
   | refine wl_v (x_convU Try.underlying5 Try.underlying24 (tmI rfl rfl) rfl) ?_
   | refine wl_v (x_conv Try.underlying5 Try.underlying24 (tmI rfl rfl)) ?_
  refine wl_e rfl ?_; intro K hK
  refine ow_call Try.func105 rfl rfl (evs_cons (tmS rfl rfl) <| evs_cons (tmI rfl rfl) <| evs_cons (ev_cN 1) <| evs_nil) (put_c (n1 + n2 + 2 + 2) _ _ (adB s ++ adB d ++ be sp 2 ++ be dp 2) pr 1 _ (viewR hS.ok 0 rfl) (by simp [adB_len, hn1, hn2, be_length]; omega) (by omega) (by omega) (by omega)) ?_
  rintro e w ⟨g3, rfl, hn, hk⟩
  refine ⟨_, rfl, ?_⟩
  replace hS := hS.add hk hn -- +rowe
  clear hn hk
  refine hK _ _ ?_; clear hK K
  refine wl_v (x_assign (tmS rfl rfl)) ?_
  refine wl_nil ?_
  refine then_n (hK5 _ _ ?_); clear hK5 K5
  refine wp_ret ?_
  refine ret1 rfl (.tmp rfl (show _ = Value.slice _ _ _ from rfl)) ?_
  exact ⟨_, _, by rw [flN, hn1, hn2], rfl, hS.new 0 rfl rfl, hS.kp⟩
end Go.Proofs.Ytilgolflpdpfnaa
