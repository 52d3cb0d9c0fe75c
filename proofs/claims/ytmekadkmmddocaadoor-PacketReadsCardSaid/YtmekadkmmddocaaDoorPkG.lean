/- What a packet is, as one structure; the parts' Parse of both sides at once. Conditions: none but bounds. -/
import Derived.Test.YtmekadkmmddocaaDoorPkF
import Derived.Test.YtmekadkmmddocaaDoorPkC
import Derived.Test.YtmekadkmmddocaaDoorPkO
import Derived.Test.YtmekadkmmddocaaDoorTcpR
namespace Go.Proofs.YtmekadkmmddocaaDoor
open Go.ChangeAt Go.ChangeShapes Go.RowKit Go.WideShapes
structure Sg where
  t1 : Nat
  t2 : Nat
  t3 : Nat
  t4 : Nat
  t5 : Nat
  t6 : Nat
  t7 : Nat
  t8 : Nat
  o : List Nat
  x : List Nat
structure Dg where
  u1 : Nat
  u2 : Nat
  u3 : Nat
  x : List Nat
structure Mg where
  m1 : Nat
  m2 : Nat
  m3 : Nat
  m4 : Nat
  x : List Nat
def Sg.Z : Sg := ⟨0, 0, 0, 0, 0, 0, 0, 0, [], []⟩
def Dg.Z : Dg := ⟨0, 0, 0, []⟩
def Mg.Z : Mg := ⟨0, 0, 0, 0, []⟩
/-- Where the parts' bytes lie. -/
structure Pl where
  O : Option Addr
  co : Nat
  X : Option Addr
  cx : Nat
  U : Option Addr
  cu : Nat
  M : Option Addr
  cm : Nat
def Pl.Z : Pl := ⟨none, 0, none, 0, none, 0, none, 0⟩
structure Inf where
  six : Bool
  stay : Bool
  ttl : Nat
  s : Ad
  d : Ad
  sp : Nat
  dp : Nat
  pr : Nat
  T : Sg
  D : Dg
  I : Mg
def Inf.Z : Inf := ⟨false, false, 0, ⟨false, 0, 0⟩, ⟨false, 0, 0⟩, 0, 0, 0, Sg.Z, Dg.Z, Mg.Z⟩
def Inf.V (i : Inf) (p : Pl) : List Value := [.bool i.six, .bool i.stay, .int .u8 (i.ttl : Int), .bool i.s.six, .int .u64 (i.s.high : Int), .int .u64 (i.s.low : Int), .bool i.d.six, .int .u64 (i.d.high : Int), .int .u64 (i.d.low : Int), .int .u16 (i.sp : Int), .int .u16 (i.dp : Int), .int .u8 (i.pr : Int),
  .int .u16 (i.T.t1 : Int), .int .u16 (i.T.t2 : Int), .int .u32 (i.T.t3 : Int), .int .u32 (i.T.t4 : Int), .int .u8 (i.T.t5 : Int), .int .u16 (i.T.t6 : Int), .int .u16 (i.T.t7 : Int), .int .u16 (i.T.t8 : Int), .slice p.O i.T.o.length p.co, .slice p.X i.T.x.length p.cx,
  .int .u16 (i.D.u1 : Int), .int .u16 (i.D.u2 : Int), .int .u16 (i.D.u3 : Int), .slice p.U i.D.x.length p.cu,
  .int .u8 (i.I.m1 : Int), .int .u8 (i.I.m2 : Int), .int .u16 (i.I.m3 : Int), .int .u32 (i.I.m4 : Int), .slice p.M i.I.x.length p.cm]
def Sg.V (t : Sg) (O : Option Addr) (co : Nat) (X : Option Addr) (cx : Nat) : List Value := segV t.t1 t.t2 t.t3 t.t4 t.t5 t.t6 t.t7 t.t8 O t.o.length co X t.x.length cx
def Dg.V (t : Dg) (U : Option Addr) (cu : Nat) : List Value := datV t.u1 t.u2 t.u3 U t.x.length cu
def Mg.V (t : Mg) (U : Option Addr) (cu : Nat) : List Value := msgV t.m1 t.m2 t.m3 t.m4 U t.x.length cu
def Sg.ok (t : Sg) : Prop := Bytes t.o ∧ Bytes t.x ∧ t.o.length ≤ 3000 ∧ t.x.length ≤ 3000
def Dg.ok (t : Dg) : Prop := Bytes t.x ∧ t.x.length ≤ 3000 ∧ t.u1 < 65536 ∧ t.u2 < 65536 ∧ t.u3 < 65536
def Mg.ok (t : Mg) : Prop := Bytes t.x ∧ t.x.length ≤ 3000 ∧ t.m1 ≤ 255 ∧ t.m2 ≤ 255 ∧ t.m3 ≤ 65535 ∧ t.m4 ≤ 4294967295
theorem Sg.Z_ok : Sg.Z.ok := ⟨Bytes.nil, Bytes.nil, Nat.zero_le _, Nat.zero_le _⟩
theorem Dg.Z_ok : Dg.Z.ok := ⟨Bytes.nil, Nat.zero_le _, by decide, by decide, by decide⟩
theorem Mg.Z_ok : Mg.Z.ok := ⟨Bytes.nil, Nat.zero_le _, by decide, by decide, by decide, by decide⟩
/-- Parse of TCP. -/
def PT (fn : Nat) (l : List Nat) (t : Sg) (er : Nat) : Prop := ∀ (w : World) (A : Option Addr) (c : Nat), View w w.heap.size A (l.map u8v) → l.length ≤ c →
  Calls Tryd.prog fn #[.slice A l.length c] w fun e w' => ∃ (O : Option Addr) (co : Nat) (X : Option Addr) (cx : Nat), e = .returned (.tuple #[.agg (t.V O co X cx).toArray, .int .i64 (er : Int)]) ∧ NewV w w' O (t.o.map u8v) ∧ NewV w w' X (t.x.map u8v) ∧ Kp [] w w'
theorem pt_ex (l : List Nat) (hb : Bytes l) (hn : l.length ≤ 3000) : ∃ t er, t.ok ∧ er < 100 ∧ PT 90 l t er ∧ PT 21 l t er := by
  obtain ⟨sz, hsz⟩ : ∃ sz, sz = nth l 12 / 16 * 4 := ⟨_, rfl⟩
  by_cases hg : 20 ≤ sz ∧ nth l 12 % 16 = 0 ∧ sz ≤ l.length
  · obtain ⟨h1, h2, h3⟩ := hg
    have lo : ((l.drop 20).take (sz - 20)).length = sz - 20 := by rw [List.length_take, List.length_drop]; omega
    have lx : (l.drop sz).length = l.length - sz := List.length_drop
    refine ⟨⟨getN l 0 2, getN l 2 2, getN l 4 4, getN l 8 4, getN l 13 1, getN l 14 2, getN l 16 2, getN l 18 2, (l.drop 20).take (sz - 20), l.drop sz⟩, 0, ⟨(hb.drop _).take _, hb.drop _, by show ((l.drop 20).take (sz - 20)).length ≤ _; omega, by show (l.drop sz).length ≤ _; omega⟩, by omega, fun w A c hv hc => ?_, fun w A c hv hc => ?_⟩
    · refine Calls.mono (tcp_parse_c l.length A c l w hv rfl hb (by omega) sz hsz h1 h2 h3) fun e w' ⟨O, L, e1, e2, e3, e4⟩ => ⟨O, sz - 20, L, l.length - sz, ?_, e2, e3, e4⟩
      unfold Sg.V
      dsimp only
      rw [lo, lx]
      exact e1
    · refine Calls.mono (rtcp_parse_c l.length A c l w hv rfl hc hb (by omega) sz hsz h1 h2 h3) fun e w' ⟨O, co, L, cl, e1, e2, e3, e4⟩ => ⟨O, co, L, cl, ?_, e2, e3, e4⟩
      unfold Sg.V
      dsimp only
      rw [lo, lx]
      exact e1
  · obtain ⟨er, her, h⟩ : ∃ er, er < 100 ∧ ((l.length < 20 ∧ er = 20) ∨ (20 ≤ l.length ∧ (sz < 20 ∨ nth l 12 % 16 ≠ 0) ∧ er = 21) ∨ (20 ≤ l.length ∧ 20 ≤ sz ∧ nth l 12 % 16 = 0 ∧ l.length < sz ∧ er = 20)) := by
      by_cases a1 : l.length < 20
      · exact ⟨20, by omega, .inl ⟨a1, rfl⟩⟩
      · by_cases a2 : sz < 20 ∨ nth l 12 % 16 ≠ 0
        · exact ⟨21, by omega, .inr (.inl ⟨by omega, a2, rfl⟩)⟩
        · exact ⟨20, by omega, .inr (.inr ⟨by omega, by omega, by omega, by omega, rfl⟩)⟩
    refine ⟨Sg.Z, er, Sg.Z_ok, her, fun w A c hv hc => ?_, fun w A c hv hc => ?_⟩
    · exact Calls.mono (tcp_parse_bad l.length A c l w hv rfl hb (by omega) sz er hsz h) fun e w' ⟨e1, e2⟩ => ⟨none, 0, none, 0, e1, newV_nil w w', newV_nil w w', e2⟩
    · exact Calls.mono (rtcp_parse_bad l.length A c l w hv rfl hb (by omega) sz er hsz h) fun e w' ⟨e1, e2⟩ => ⟨none, 0, none, 0, e1, newV_nil w w', newV_nil w w', e2⟩
/-- Parse of UDP. -/
def PU (fn : Nat) (l : List Nat) (t : Dg) (er : Nat) : Prop := ∀ (w : World) (A : Option Addr) (c : Nat), View w w.heap.size A (l.map u8v) → l.length ≤ c →
  Calls Tryd.prog fn #[.slice A l.length c] w fun e w' => ∃ (U : Option Addr) (cu : Nat), e = .returned (.tuple #[.agg (t.V U cu).toArray, .int .i64 (er : Int)]) ∧ NewV w w' U (t.x.map u8v) ∧ Kp [] w w'
theorem pu_ex (l : List Nat) (hb : Bytes l) (hn : l.length ≤ 3000) : ∃ t er, t.ok ∧ er < 100 ∧ PU 93 l t er ∧ PU 23 l t er := by
  obtain ⟨sz, hsz⟩ : ∃ sz, sz = getN l 4 2 := ⟨_, rfl⟩
  have b0 := getN_lt hb 0 2
  have b2 := getN_lt hb 2 2
  have b6 := getN_lt hb 6 2
  by_cases hg : 8 ≤ l.length ∧ 8 ≤ sz ∧ sz ≤ l.length
  · obtain ⟨h0, h1, h3⟩ := hg
    have lx : ((l.drop 8).take (sz - 8)).length = sz - 8 := by rw [List.length_take, List.length_drop]; omega
    refine ⟨⟨getN l 0 2, getN l 2 2, getN l 6 2, (l.drop 8).take (sz - 8)⟩, 0, ⟨(hb.drop _).take _, by show ((l.drop 8).take (sz - 8)).length ≤ _; omega, b0, b2, b6⟩, by omega, fun w A c hv hc => ?_, fun w A c hv hc => ?_⟩
    · refine Calls.mono (udp_parse_c l.length A c l w hv rfl hb (by omega) sz hsz h0 h1 h3) fun e w' ⟨L, e1, e2, e3⟩ => ⟨L, sz - 8, ?_, e2, e3⟩
      unfold Dg.V
      dsimp only
      rw [lx]
      exact e1
    · refine Calls.mono (rudp_parse_c l.length A c l w hv rfl hc hb (by omega) sz hsz h0 h1 h3) fun e w' ⟨L, cu, e1, e2, e3⟩ => ⟨L, cu, ?_, e2, e3⟩
      unfold Dg.V
      dsimp only
      rw [lx]
      exact e1
  · obtain ⟨er, her, h⟩ : ∃ er, er < 100 ∧ ((l.length < 8 ∧ er = 20) ∨ (8 ≤ l.length ∧ sz < 8 ∧ er = 21) ∨ (8 ≤ l.length ∧ 8 ≤ sz ∧ l.length < sz ∧ er = 20)) := by
      by_cases a1 : l.length < 8
      · exact ⟨20, by omega, .inl ⟨a1, rfl⟩⟩
      · by_cases a2 : sz < 8
        · exact ⟨21, by omega, .inr (.inl ⟨by omega, a2, rfl⟩)⟩
        · exact ⟨20, by omega, .inr (.inr ⟨by omega, by omega, by omega, rfl⟩)⟩
    refine ⟨Dg.Z, er, Dg.Z_ok, her, fun w A c hv hc => ?_, fun w A c hv hc => ?_⟩
    · exact Calls.mono (udp_parse_bad l.length A c l w hv rfl hc hb (by omega) sz er hsz h) fun e w' ⟨e1, e2⟩ => ⟨none, 0, e1, newV_nil w w', e2⟩
    · exact Calls.mono (rudp_parse_bad l.length A c l w hv rfl hc hb (by omega) sz er hsz h) fun e w' ⟨e1, e2⟩ => ⟨none, 0, e1, newV_nil w w', e2⟩
/-- Parse of ICMP: the program's error, the reference's truth. -/
def PM (l : List Nat) (t : Mg) (er : Nat) : Prop := ∀ (w : World) (A : Option Addr) (c : Nat), View w w.heap.size A (l.map u8v) → l.length ≤ c →
  Calls Tryd.prog 95 #[.slice A l.length c] w fun e w' => ∃ (U : Option Addr) (cu : Nat), e = .returned (.tuple #[.agg (t.V U cu).toArray, .int .i64 (er : Int)]) ∧ NewV w w' U (t.x.map u8v) ∧ Kp [] w w'
def PMr (l : List Nat) (t : Mg) (er : Nat) : Prop := ∀ (w : World) (A : Option Addr) (c : Nat), View w w.heap.size A (l.map u8v) → l.length ≤ c →
  Calls Tryd.prog 25 #[.slice A l.length c] w fun e w' => ∃ (U : Option Addr) (cu : Nat), e = .returned (.tuple #[.agg (t.V U cu).toArray, .bool (decide (er = 0))]) ∧ NewV w w' U (t.x.map u8v) ∧ Kp [] w w'
theorem pm_ex (l : List Nat) (hb : Bytes l) (hn : l.length ≤ 3000) : ∃ t er, t.ok ∧ (er = 0 ∨ er = 20) ∧ PM l t er ∧ PMr l t er := by
  have b0 := getN_lt hb 0 1
  have b1 := getN_lt hb 1 1
  have b2 := getN_lt hb 2 2
  have b4 := getN_lt hb 4 4
  by_cases h8 : 8 ≤ l.length
  · have lx : (l.drop 8).length = l.length - 8 := List.length_drop
    refine ⟨⟨getN l 0 1, getN l 1 1, getN l 2 2, getN l 4 4, l.drop 8⟩, 0, ⟨hb.drop _, by show (l.drop 8).length ≤ _; omega, by show getN l 0 1 ≤ _; omega, by show getN l 1 1 ≤ _; omega, by show getN l 2 2 ≤ _; omega, by show getN l 4 4 ≤ _; omega⟩, .inl rfl, fun w A c hv hc => ?_, fun w A c hv hc => ?_⟩
    · refine Calls.mono (icmp_parse_c l.length A c l w hv rfl hb (by omega) h8) fun e w' ⟨L, e1, e2, e3⟩ => ⟨L, l.length - 8, ?_, e2, e3⟩
      unfold Mg.V
      dsimp only
      rw [lx]
      exact e1
    · refine Calls.mono (ricmp_parse_c l.length A c l w hv rfl hc hb (by omega) h8) fun e w' ⟨L, cu, e1, e2, e3⟩ => ⟨L, cu, ?_, e2, e3⟩
      unfold Mg.V
      dsimp only
      rw [lx]
      exact e1
  · refine ⟨Mg.Z, 20, Mg.Z_ok, .inr rfl, fun w A c hv hc => ?_, fun w A c hv hc => ?_⟩
    · exact Calls.mono (icmp_parse_short l.length A c w (by omega)) fun e w' ⟨e1, e2⟩ => ⟨none, 0, e1, newV_nil w w', e2⟩
    · exact Calls.mono (ricmp_parse_short l.length A c w (by omega)) fun e w' ⟨e1, e2⟩ => ⟨none, 0, e1, newV_nil w w', e2⟩
/-- What lies there is new since the world w. -/
def NewB (w : World) (A : Option Addr) (l : List Nat) : Prop := ∀ b, (Ent.vw A (l.map u8v)).blk? = some b → w.heap.size ≤ b
theorem NewB.nil {w : World} : NewB w none [] := fun b hb => by cases hb
theorem NewV.newb {F : List Nat} {w0 w w' : World} {M : List Ent} {A : Option Addr} {l : List Nat} (h : NewV w w' A (l.map u8v)) (hS : St F w0 M w) : NewB w0 A l := fun b hb => Nat.le_trans hS.kp.size (h.2 b hb)
def chk (e : Int) (right : Bool) : Int := if e = 0 ∧ right = false then 3 else pkOf e
set_option maxRecDepth 100000 in
set_option maxHeartbeats 4000000 in
theorem checked_c (e : Int) (right : Bool) (w0 : World) : Calls Tryd.prog 91 #[.int .i64 e, .bool right] w0 fun x w' => x = .returned (.int .i64 (chk e right)) ∧ Kp [] w0 w' := by
  have hS := St.sv w0
  refine ent (n := 13) Tryd.func91 rfl rfl ?_
  refine wp_seq_k ?_; intro K1 hK1
  refine wlit ?_
  refine wl_v (x_assign (ev_cN 0)) ?_
  refine wl_nil ?_
  refine then_n (hK1 _ _ ?_); clear hK1 K1
  refine wp_seq_k ?_; intro K2 hK2
  refine wp_seq_k ?_; intro K3 hK3
  refine wlit ?_
  refine wl_v (x_move (tmI rfl rfl)) ?_
  refine wl_v (x_eql (tmI rfl rfl) (ev_cN 0)) ?_
  refine wl_v (x_move (tmB rfl rfl)) ?_
  refine gs_wl (tm (t := 7) rfl) (fun hg1_2 => ?_) (fun hg1_2 => ?_)
  · have hg1_2' := hg1_2; (try simp only [nrm] at hg1_2')
    all_goals
     refine wl_gv (want_y rfl rfl rfl rfl (by rw [hg1_2]; rfl)) (x_move (tmB rfl rfl)) ?_
     refine wl_gv (want_y rfl rfl rfl rfl (by rw [hg1_2]; rfl)) (x_not (tmB rfl rfl)) ?_
     refine wl_v (x_pickT (tmB rfl rfl) hg1_2 (tmB rfl rfl)) ?_
     refine wl_nil ?_
     refine then_n (hK3 _ _ ?_); clear hK3 K3
     refine cnd (tm rfl) (fun hc0 => ?_) (fun hc0 => ?_)
     · skip
       all_goals
        try simp only [nrm] at hc0
        refine wp_seq_k ?_; intro K4 hK4
        refine wlit ?_
        refine wl_v (x_assign (ev_cN 3)) ?_
        refine wl_nil ?_
        refine then_n (hK4 _ _ ?_); clear hK4 K4
        refine wp_ret ?_
        refine then_r ?_
        refine ret1 rfl (.tmp rfl (show _ = Value.int _ _ from rfl)) ?_
        unfold chk
        rw [if_pos (by first | (refine ⟨by omega, ?_⟩; simpa using hc0) | (simp_all; done))]; exact ⟨rfl, hS.kp⟩
     all_goals
      try simp only [nrm] at hc0
      refine wp_skip ?_
      refine then_n (hK2 _ _ ?_); clear hK2 K2
      refine wp_seq_k ?_; intro K5 hK5
      refine wlit ?_
      refine wl_v (x_move (tmI rfl rfl)) ?_
      refine wl_e rfl ?_; intro K hK
      refine ow_call Tryd.func14 rfl rfl (evs_cons (tmI rfl rfl) <| evs_nil) (of_c e _) ?_
      rintro e w ⟨rfl, hk⟩
      refine ⟨_, rfl, ?_⟩
      replace hS := hS.kept hk
      clear hk
      refine hK _ _ ?_; clear hK K
      refine wl_v (x_assign (tmI rfl rfl)) ?_
      refine wl_nil ?_
      refine then_n (hK5 _ _ ?_); clear hK5 K5
      refine wp_ret ?_
      refine ret1 rfl (.tmp rfl (show _ = Value.int _ _ from rfl)) ?_
      unfold chk
      rw [if_neg (by first | omega | (simp_all; done) | (intro h; simp [h.2] at hc0; done))]; exact ⟨rfl, hS.kp⟩
  have hg1_2' := hg1_2; (try simp only [nrm] at hg1_2')
  all_goals
   refine wl_s rfl (want_n rfl rfl rfl rfl (by rw [hg1_2]; rfl)) ?_
   refine wl_s rfl (want_n rfl rfl rfl rfl (by rw [hg1_2]; rfl)) ?_
   refine wl_v (x_pickF (tmB rfl rfl) hg1_2 ev_c) ?_
   refine wl_nil ?_
   refine then_n (hK3 _ _ ?_); clear hK3 K3
   refine cnd_f (tmB rfl rfl) rfl ?_
   refine wp_skip ?_
   refine then_n (hK2 _ _ ?_); clear hK2 K2
   refine wp_seq_k ?_; intro K6 hK6
   refine wlit ?_
   refine wl_v (x_move (tmI rfl rfl)) ?_
   refine wl_e rfl ?_; intro K hK
   refine ow_call Tryd.func14 rfl rfl (evs_cons (tmI rfl rfl) <| evs_nil) (of_c e _) ?_
   rintro e w ⟨rfl, hk⟩
   refine ⟨_, rfl, ?_⟩
   replace hS := hS.kept hk
   clear hk
   refine hK _ _ ?_; clear hK K
   refine wl_v (x_assign (tmI rfl rfl)) ?_
   refine wl_nil ?_
   refine then_n (hK6 _ _ ?_); clear hK6 K6
   refine wp_ret ?_
   refine ret1 rfl (.tmp rfl (show _ = Value.int _ _ from rfl)) ?_
   unfold chk
   rw [if_neg (by first | omega | (simp_all; done) | (intro h; simp [h.2] at hc0; done))]; exact ⟨rfl, hS.kp⟩
set_option maxRecDepth 100000 in
set_option maxHeartbeats 8000000 in
theorem carryTCP_c (g : Nat) (i : Inf) (p : Pl) (L : Option Addr) (cl : Nat) (x : List Nat) (t : Sg) (er : Nat) (F : List Nat) (w0 : World)
    (hS : St F w0 [.blk g 38 (i.V p), .vw L (x.map u8v)] w0) (hc : x.length ≤ cl) (hb : Bytes x) (hx : x.length ≤ 3000) (h6 : i.s.six = i.d.six) (hls : adLim i.s) (hld : adLim i.d) (hP : PT 90 x t er) :
    Calls Tryd.prog 73 #[.pointer (some ⟨g, 0, none⟩), .slice L x.length cl] w0 fun e w' => ∃ O co X cx, e = .returned (.int .i64 (chk (er : Int) (decide (foldN (gS i.s i.d 6 x) = 65535)))) ∧ NewB w0 O t.o ∧ NewB w0 X t.x ∧
      St F w0 [.blk g 38 (Inf.V ⟨i.six, i.stay, i.ttl, i.s, i.d, t.t1, t.t2, i.pr, t, i.D, i.I⟩ ⟨O, co, X, cx, p.U, p.cu, p.M, p.cm⟩), .vw O (t.o.map u8v), .vw X (t.x.map u8v)] w' := by
  refine ent (n := 42) Tryd.func73 rfl rfl ?_
  refine wp_seq_k ?_; intro K1 hK1
  refine wlit ?_
  refine wl_v (x_assign (ev_cN 0)) ?_
  refine wl_nil ?_
  refine then_n (hK1 _ _ ?_); clear hK1 K1
  refine wp_seq_k ?_; intro K2 hK2
  refine wlit ?_
  refine wl_v (x_move (tmS rfl rfl)) ?_
  refine wl_e rfl ?_; intro K hK
  refine ow_call Tryd.func90 rfl rfl (evs_cons (tmS rfl rfl) <| evs_nil) (hP _ L cl (viewV hS.ok 1 rfl) hc) ?_
  rintro e w ⟨O, co, X, cx, rfl, hn1, hn2, hk⟩
  refine ⟨_, rfl, ?_⟩
  have b1 := hn1.newb hS
  have b2 := hn2.newb hS
  replace hS := hS.addn2 hk hn1 hn2 -- +vo,vx
  clear hn1 hn2 hk
  refine hK _ _ ?_; clear hK K
  refine wl_v (x_move (tmT rfl rfl)) ?_
  refine wl_v (x_ext (tmT rfl rfl) rfl) ?_
  refine wl_v (x_ext (tmT rfl rfl) rfl) ?_
  refine wl_e rfl ?_; intro K hK
  refine ow_alloc hS tz_32 rfl ?_
  clear hS; intro g1_5 w hg1_5 hS
  refine hK _ _ ?_; clear hK K
  refine wl_e rfl ?_; intro K hK
  refine ow_storeA hS 0 rfl ts_32 (tmP rfl rfl) (tmA rfl rfl) rfl rfl rfl ?_
  clear hS; intro w hS
  try replace hS := St.nm (M' := [.blk _ _ [_, _, _, _, _, _, _, _, _, _], .vw _ _, .vw _ _, _, .vw _ _]) hS rfl
  refine hK _ _ ?_; clear hK K
  refine wl_v (x_assign (tmI rfl rfl)) ?_
  refine wl_nil ?_
  refine then_n (hK2 _ _ ?_); clear hK2 K2
  refine wp_seq_k ?_; intro K3 hK3
  refine wlit ?_
  refine wl_v (x_move (tmP rfl rfl)) ?_
  refine wl_v (x_loadA (cs := [_, _, _, _, _, _, _, _, _, _]) Tryd.underlying32 rfl ts_32 (tmP rfl rfl) (rangeB hS.ok 0 rfl rfl)) ?_
  refine wl_v (x_nil (A := none) (tmP rfl rfl)) ?_
  refine wl_v (x_fa 12 Tryd.underlying38 rfl rfl ts_32 (tmP rfl rfl)) ?_
  refine wl_e rfl ?_; intro K hK
  refine ow_storeA hS 3 rfl ts_32 (tmP rfl rfl) (tmA rfl rfl) rfl rfl rfl ?_
  clear hS; intro w hS
  refine hK _ _ ?_; clear hK K
  refine wl_nil ?_
  replace hS := hS.pick [3, 0, 1, 2, 4] rfl rfl
  replace hS : St F w0 [.blk g 38 (Inf.V ⟨i.six, i.stay, i.ttl, i.s, i.d, i.sp, i.dp, i.pr, t, i.D, i.I⟩ ⟨O, co, X, cx, p.U, p.cu, p.M, p.cm⟩), .blk g1_5 32 (t.V O co X cx), .vw O (t.o.map u8v), .vw X (t.x.map u8v), .vw L (x.map u8v)] w := hS
  try replace hS := St.nm (M' := [_, .blk _ _ [_, _, _, _, _, _, _, _, _, _], .vw _ _, .vw _ _, .vw _ _]) hS rfl
  refine then_n (hK3 _ _ ?_); clear hK3 K3
  refine wp_seq_k ?_; intro K4 hK4
  refine rg_startk 1 hS mixed_ ?_
  clear hS; intro w hS
  refine rg_take 0 rfl rfl (by kernel_rfl) (by kernel_rfl) (by kernel_rfl) (want_0) (fun w hok => x_move (tmP rfl rfl)) ?_
  refine rg_take 1 rfl rfl (by kernel_rfl) (by kernel_rfl) (by kernel_rfl) (want_0) (fun w hok => x_move (tmP rfl rfl)) ?_
  refine rg_take 2 rfl rfl (by kernel_rfl) (by kernel_rfl) (by kernel_rfl) (want_0) (fun w hok => x_fa 0 Tryd.underlying32 rfl rfl ts_27 (tmP rfl rfl)) ?_
  refine rg_take 3 rfl rfl (by kernel_rfl) (by kernel_rfl) (by kernel_rfl) (want_0) (fun w hok => x_load Tryd.underlying27 rfl (tmP rfl rfl) (cellB hok 0 rfl rfl)) ?_
  refine rg_take 4 rfl rfl (by kernel_rfl) (by kernel_rfl) (by kernel_rfl) (want_0) (fun w hok => x_fa 1 Tryd.underlying32 rfl rfl ts_27 (tmP rfl rfl)) ?_
  refine rg_take 5 rfl rfl (by kernel_rfl) (by kernel_rfl) (by kernel_rfl) (want_0) (fun w hok => x_load Tryd.underlying27 rfl (tmP rfl rfl) (cellB hok 0 rfl rfl)) ?_
  refine rg_take 6 rfl rfl (by kernel_rfl) (by kernel_rfl) (by kernel_rfl) (want_0) (fun w hok => x_nil (A := none) (tmP rfl rfl)) ?_
  refine rg_take 7 rfl rfl (by kernel_rfl) (by kernel_rfl) (by kernel_rfl) (want_0) (fun w hok => x_fa 3 Tryd.underlying38 rfl rfl ts_29 (tmP rfl rfl)) ?_
  refine rg_take 8 rfl rfl (by kernel_rfl) (by kernel_rfl) (by kernel_rfl) (want_0) (fun w hok => x_fa 6 Tryd.underlying29 rfl rfl ts_27 (tmP rfl rfl)) ?_
  refine rg_step 9 rfl (by kernel_rfl) (want_0) (oks_drop hS 1 rfl) ?_; intro K hK
  refine ow_store hS 0 rfl ts_27 (tmP rfl rfl) (tmI rfl rfl) rfl rfl ?_
  clear hS; intro w hS
  refine hK _ _ ?_; clear hK K
  refine rg_take 10 rfl rfl (by kernel_rfl) (by kernel_rfl) (by kernel_rfl) (want_0) (fun w hok => x_nil (A := none) (tmP rfl rfl)) ?_
  refine rg_take 11 rfl rfl (by kernel_rfl) (by kernel_rfl) (by kernel_rfl) (want_0) (fun w hok => x_fa 3 Tryd.underlying38 rfl rfl ts_29 (tmP rfl rfl)) ?_
  refine rg_take 12 rfl rfl (by kernel_rfl) (by kernel_rfl) (by kernel_rfl) (want_0) (fun w hok => x_fa 7 Tryd.underlying29 rfl rfl ts_27 (tmP rfl rfl)) ?_
  refine rg_step 13 rfl (by kernel_rfl) (want_0) (oks_drop hS 1 rfl) ?_; intro K hK
  refine ow_store hS 0 rfl ts_27 (tmP rfl rfl) (tmI rfl rfl) rfl rfl ?_
  clear hS; intro w hS
  refine hK _ _ ?_; clear hK K
  refine rg_done (oks_drop hS 1 rfl) (by kernel_rfl) ?_
  replace hS : St F w0 [.blk g 38 (Inf.V ⟨i.six, i.stay, i.ttl, i.s, i.d, t.t1, t.t2, i.pr, t, i.D, i.I⟩ ⟨O, co, X, cx, p.U, p.cu, p.M, p.cm⟩), .blk g1_5 32 (t.V O co X cx), .vw O (t.o.map u8v), .vw X (t.x.map u8v), .vw L (x.map u8v)] w := hS
  refine then_n (hK4 _ _ ?_); clear hK4 K4
  refine wp_seq_k ?_; intro K5 hK5
  refine rg_startk 0 hS mixed_ ?_
  clear hS; intro w hS
  refine rg_take 0 rfl rfl (by kernel_rfl) (by kernel_rfl) (by kernel_rfl) (want_0) (fun w hok => x_move (tmI rfl rfl)) ?_
  refine rg_take 1 rfl rfl (by kernel_rfl) (by kernel_rfl) (by kernel_rfl) (want_0) (fun w hok => x_move (tmS rfl rfl)) ?_
  refine rg_take 2 rfl rfl (by kernel_rfl) (by kernel_rfl) (by kernel_rfl) (want_0) (fun w hok => x_move (tmP rfl rfl)) ?_
  refine rg_take 3 rfl rfl (by kernel_rfl) (by kernel_rfl) (by kernel_rfl) (want_0) (fun w hok => x_nil (A := none) (tmP rfl rfl)) ?_
  refine rg_take 4 rfl rfl (by kernel_rfl) (by kernel_rfl) (by kernel_rfl) (want_0) (fun w hok => x_fa 3 Tryd.underlying38 rfl rfl ts_29 (tmP rfl rfl)) ?_
  refine rg_take 5 rfl rfl (by kernel_rfl) (by kernel_rfl) (by kernel_rfl) (want_0) (fun w hok => x_fa 0 Tryd.underlying29 rfl rfl ts_26 (tmP rfl rfl)) ?_
  refine rg_take 6 rfl rfl (by kernel_rfl) (by kernel_rfl) (by kernel_rfl) (want_0) (fun w hok => x_loadA (cs := [_, _, _]) Tryd.underlying26 rfl ts_26 (tmP rfl rfl) (rangeB hok 0 rfl rfl)) ?_
  refine rg_take 7 rfl rfl (by kernel_rfl) (by kernel_rfl) (by kernel_rfl) (want_0) (fun w hok => x_move (tmP rfl rfl)) ?_
  refine rg_take 8 rfl rfl (by kernel_rfl) (by kernel_rfl) (by kernel_rfl) (want_0) (fun w hok => x_nil (A := none) (tmP rfl rfl)) ?_
  refine rg_take 9 rfl rfl (by kernel_rfl) (by kernel_rfl) (by kernel_rfl) (want_0) (fun w hok => x_fa 3 Tryd.underlying38 rfl rfl ts_29 (tmP rfl rfl)) ?_
  refine rg_take 10 rfl rfl (by kernel_rfl) (by kernel_rfl) (by kernel_rfl) (want_0) (fun w hok => x_fa 3 Tryd.underlying29 rfl rfl ts_26 (tmP rfl rfl)) ?_
  refine rg_take 11 rfl rfl (by kernel_rfl) (by kernel_rfl) (by kernel_rfl) (want_0) (fun w hok => x_loadA (cs := [_, _, _]) Tryd.underlying26 rfl ts_26 (tmP rfl rfl) (rangeB hok 0 rfl rfl)) ?_
  refine rg_step 12 rfl (by kernel_rfl) (want_0) (oks_drop hS 0 rfl) ?_; intro K hK
  refine ow_call Tryd.func92 rfl rfl (evs_cons (tmS rfl rfl) <| evs_cons (tmA rfl rfl) <| evs_cons (tmA rfl rfl) <| evs_nil) (tcp_fine_c L cl x i.s i.d _ (viewV hS.ok 4 rfl) hb h6 hls hld (by omega)) ?_
  rintro e w ⟨rfl, hk⟩
  refine ⟨_, rfl, ?_⟩
  replace hS := hS.kept hk
  clear hk
  refine hK _ _ ?_; clear hK K
  refine rg_step 13 rfl (by kernel_rfl) (want_0) (oks_drop hS 0 rfl) ?_; intro K hK
  refine ow_call Tryd.func91 rfl rfl (evs_cons (tmI rfl rfl) <| evs_cons (tmB rfl rfl) <| evs_nil) (checked_c _ _ _) ?_
  rintro e w ⟨rfl, hk⟩
  refine ⟨_, rfl, ?_⟩
  replace hS := hS.kept hk
  clear hk
  refine hK _ _ ?_; clear hK K
  refine rg_take 14 rfl rfl (by kernel_rfl) (by kernel_rfl) (by kernel_rfl) (want_0) (fun w hok => x_assign (tmI rfl rfl)) ?_
  refine rg_done (oks_drop hS 0 rfl) (by kernel_rfl) ?_
  refine then_n (hK5 _ _ ?_); clear hK5 K5
  refine wp_ret ?_
  refine ret1 rfl (.tmp rfl (show _ = Value.int _ _ from rfl)) ?_
  exact ⟨O, co, X, cx, rfl, b1, b2, hS.pick [0, 2, 3] rfl rfl⟩
set_option maxRecDepth 100000 in
set_option maxHeartbeats 8000000 in
theorem carryUDP_c (g : Nat) (i : Inf) (p : Pl) (L : Option Addr) (cl : Nat) (x : List Nat) (t : Dg) (er : Nat) (F : List Nat) (w0 : World)
    (hS : St F w0 [.blk g 38 (i.V p), .vw L (x.map u8v)] w0) (hc : x.length ≤ cl) (hx : x.length ≤ 3000) (h6 : i.s.six = i.d.six) (hls : adLim i.s) (hld : adLim i.d) (ht : t.ok) (hP : PU 93 x t er) :
    Calls Tryd.prog 74 #[.pointer (some ⟨g, 0, none⟩), .slice L x.length cl] w0 fun e w' => ∃ U cu, e = .returned (.int .i64 (chk (er : Int) (udF t.u1 t.u2 t.u3 t.x i.s i.d))) ∧ NewB w0 U t.x ∧
      St F w0 [.blk g 38 (Inf.V ⟨i.six, i.stay, i.ttl, i.s, i.d, t.u1, t.u2, i.pr, i.T, t, i.I⟩ ⟨p.O, p.co, p.X, p.cx, U, cu, p.M, p.cm⟩), .vw U (t.x.map u8v)] w' := by
  obtain ⟨k1, k2, k3, k4, k5⟩ := ht
  refine ent (n := 42) Tryd.func74 rfl rfl ?_
  refine wp_seq_k ?_; intro K1 hK1
  refine wlit ?_
  refine wl_v (x_assign (ev_cN 0)) ?_
  refine wl_nil ?_
  refine then_n (hK1 _ _ ?_); clear hK1 K1
  refine wp_seq_k ?_; intro K2 hK2
  refine wlit ?_
  refine wl_v (x_move (tmS rfl rfl)) ?_
  refine wl_e rfl ?_; intro K hK
  refine ow_call Tryd.func93 rfl rfl (evs_cons (tmS rfl rfl) <| evs_nil) (hP _ L cl (viewV hS.ok 1 rfl) hc) ?_
  rintro e w ⟨U, cu, rfl, hn1, hk⟩
  refine ⟨_, rfl, ?_⟩
  have b1 := hn1.newb hS
  replace hS := hS.addn hk hn1 -- +vu
  clear hn1 hk
  refine hK _ _ ?_; clear hK K
  refine wl_v (x_move (tmT rfl rfl)) ?_
  refine wl_v (x_ext (tmT rfl rfl) rfl) ?_
  refine wl_v (x_ext (tmT rfl rfl) rfl) ?_
  refine wl_e rfl ?_; intro K hK
  refine ow_alloc hS tz_34 rfl ?_
  clear hS; intro g1_5 w hg1_5 hS
  refine hK _ _ ?_; clear hK K
  refine wl_e rfl ?_; intro K hK
  refine ow_storeA hS 0 rfl ts_34 (tmP rfl rfl) (tmA rfl rfl) rfl rfl rfl ?_
  clear hS; intro w hS
  try replace hS := St.nm (M' := [.blk _ _ [_, _, _, _], .vw _ _, _, .vw _ _]) hS rfl
  refine hK _ _ ?_; clear hK K
  refine wl_v (x_assign (tmI rfl rfl)) ?_
  refine wl_nil ?_
  refine then_n (hK2 _ _ ?_); clear hK2 K2
  refine wp_seq_k ?_; intro K3 hK3
  refine wlit ?_
  refine wl_v (x_move (tmP rfl rfl)) ?_
  refine wl_v (x_loadA (cs := [_, _, _, _]) Tryd.underlying34 rfl ts_34 (tmP rfl rfl) (rangeB hS.ok 0 rfl rfl)) ?_
  refine wl_v (x_nil (A := none) (tmP rfl rfl)) ?_
  refine wl_v (x_fa 22 Tryd.underlying38 rfl rfl ts_34 (tmP rfl rfl)) ?_
  refine wl_e rfl ?_; intro K hK
  refine ow_storeA hS 2 rfl ts_34 (tmP rfl rfl) (tmA rfl rfl) rfl rfl rfl ?_
  clear hS; intro w hS
  refine hK _ _ ?_; clear hK K
  refine wl_nil ?_
  replace hS := hS.pick [2, 0, 1, 3] rfl rfl
  replace hS : St F w0 [.blk g 38 (Inf.V ⟨i.six, i.stay, i.ttl, i.s, i.d, i.sp, i.dp, i.pr, i.T, t, i.I⟩ ⟨p.O, p.co, p.X, p.cx, U, cu, p.M, p.cm⟩), .blk g1_5 34 (t.V U cu), .vw U (t.x.map u8v), .vw L (x.map u8v)] w := hS
  try replace hS := St.nm (M' := [_, .blk _ _ [_, _, _, _], .vw _ _, .vw _ _]) hS rfl
  refine then_n (hK3 _ _ ?_); clear hK3 K3
  refine wp_seq_k ?_; intro K4 hK4
  refine rg_startk 1 hS mixed_ ?_
  clear hS; intro w hS
  refine rg_take 0 rfl rfl (by kernel_rfl) (by kernel_rfl) (by kernel_rfl) (want_0) (fun w hok => x_move (tmP rfl rfl)) ?_
  refine rg_take 1 rfl rfl (by kernel_rfl) (by kernel_rfl) (by kernel_rfl) (want_0) (fun w hok => x_move (tmP rfl rfl)) ?_
  refine rg_take 2 rfl rfl (by kernel_rfl) (by kernel_rfl) (by kernel_rfl) (want_0) (fun w hok => x_fa 0 Tryd.underlying34 rfl rfl ts_27 (tmP rfl rfl)) ?_
  refine rg_take 3 rfl rfl (by kernel_rfl) (by kernel_rfl) (by kernel_rfl) (want_0) (fun w hok => x_load Tryd.underlying27 rfl (tmP rfl rfl) (cellB hok 0 rfl rfl)) ?_
  refine rg_take 4 rfl rfl (by kernel_rfl) (by kernel_rfl) (by kernel_rfl) (want_0) (fun w hok => x_fa 1 Tryd.underlying34 rfl rfl ts_27 (tmP rfl rfl)) ?_
  refine rg_take 5 rfl rfl (by kernel_rfl) (by kernel_rfl) (by kernel_rfl) (want_0) (fun w hok => x_load Tryd.underlying27 rfl (tmP rfl rfl) (cellB hok 0 rfl rfl)) ?_
  refine rg_take 6 rfl rfl (by kernel_rfl) (by kernel_rfl) (by kernel_rfl) (want_0) (fun w hok => x_nil (A := none) (tmP rfl rfl)) ?_
  refine rg_take 7 rfl rfl (by kernel_rfl) (by kernel_rfl) (by kernel_rfl) (want_0) (fun w hok => x_fa 3 Tryd.underlying38 rfl rfl ts_29 (tmP rfl rfl)) ?_
  refine rg_take 8 rfl rfl (by kernel_rfl) (by kernel_rfl) (by kernel_rfl) (want_0) (fun w hok => x_fa 6 Tryd.underlying29 rfl rfl ts_27 (tmP rfl rfl)) ?_
  refine rg_step 9 rfl (by kernel_rfl) (want_0) (oks_drop hS 1 rfl) ?_; intro K hK
  refine ow_store hS 0 rfl ts_27 (tmP rfl rfl) (tmI rfl rfl) rfl rfl ?_
  clear hS; intro w hS
  refine hK _ _ ?_; clear hK K
  refine rg_take 10 rfl rfl (by kernel_rfl) (by kernel_rfl) (by kernel_rfl) (want_0) (fun w hok => x_nil (A := none) (tmP rfl rfl)) ?_
  refine rg_take 11 rfl rfl (by kernel_rfl) (by kernel_rfl) (by kernel_rfl) (want_0) (fun w hok => x_fa 3 Tryd.underlying38 rfl rfl ts_29 (tmP rfl rfl)) ?_
  refine rg_take 12 rfl rfl (by kernel_rfl) (by kernel_rfl) (by kernel_rfl) (want_0) (fun w hok => x_fa 7 Tryd.underlying29 rfl rfl ts_27 (tmP rfl rfl)) ?_
  refine rg_step 13 rfl (by kernel_rfl) (want_0) (oks_drop hS 1 rfl) ?_; intro K hK
  refine ow_store hS 0 rfl ts_27 (tmP rfl rfl) (tmI rfl rfl) rfl rfl ?_
  clear hS; intro w hS
  refine hK _ _ ?_; clear hK K
  refine rg_done (oks_drop hS 1 rfl) (by kernel_rfl) ?_
  replace hS : St F w0 [.blk g 38 (Inf.V ⟨i.six, i.stay, i.ttl, i.s, i.d, t.u1, t.u2, i.pr, i.T, t, i.I⟩ ⟨p.O, p.co, p.X, p.cx, U, cu, p.M, p.cm⟩), .blk g1_5 34 (t.V U cu), .vw U (t.x.map u8v), .vw L (x.map u8v)] w := hS
  refine then_n (hK4 _ _ ?_); clear hK4 K4
  refine wp_seq_k ?_; intro K5 hK5
  refine rg_startk 0 hS mixed_ ?_
  clear hS; intro w hS
  refine rg_take 0 rfl rfl (by kernel_rfl) (by kernel_rfl) (by kernel_rfl) (want_0) (fun w hok => x_move (tmI rfl rfl)) ?_
  refine rg_take 1 rfl rfl (by kernel_rfl) (by kernel_rfl) (by kernel_rfl) (want_0) (fun w hok => x_loadA (cs := [_, _, _, _]) Tryd.underlying34 rfl ts_34 (tmP rfl rfl) (rangeB hok 1 rfl rfl)) ?_
  refine rg_take 2 rfl rfl (by kernel_rfl) (by kernel_rfl) (by kernel_rfl) (want_0) (fun w hok => x_move (tmP rfl rfl)) ?_
  refine rg_take 3 rfl rfl (by kernel_rfl) (by kernel_rfl) (by kernel_rfl) (want_0) (fun w hok => x_nil (A := none) (tmP rfl rfl)) ?_
  refine rg_take 4 rfl rfl (by kernel_rfl) (by kernel_rfl) (by kernel_rfl) (want_0) (fun w hok => x_fa 3 Tryd.underlying38 rfl rfl ts_29 (tmP rfl rfl)) ?_
  refine rg_take 5 rfl rfl (by kernel_rfl) (by kernel_rfl) (by kernel_rfl) (want_0) (fun w hok => x_fa 0 Tryd.underlying29 rfl rfl ts_26 (tmP rfl rfl)) ?_
  refine rg_take 6 rfl rfl (by kernel_rfl) (by kernel_rfl) (by kernel_rfl) (want_0) (fun w hok => x_loadA (cs := [_, _, _]) Tryd.underlying26 rfl ts_26 (tmP rfl rfl) (rangeB hok 0 rfl rfl)) ?_
  refine rg_take 7 rfl rfl (by kernel_rfl) (by kernel_rfl) (by kernel_rfl) (want_0) (fun w hok => x_move (tmP rfl rfl)) ?_
  refine rg_take 8 rfl rfl (by kernel_rfl) (by kernel_rfl) (by kernel_rfl) (want_0) (fun w hok => x_nil (A := none) (tmP rfl rfl)) ?_
  refine rg_take 9 rfl rfl (by kernel_rfl) (by kernel_rfl) (by kernel_rfl) (want_0) (fun w hok => x_fa 3 Tryd.underlying38 rfl rfl ts_29 (tmP rfl rfl)) ?_
  refine rg_take 10 rfl rfl (by kernel_rfl) (by kernel_rfl) (by kernel_rfl) (want_0) (fun w hok => x_fa 3 Tryd.underlying29 rfl rfl ts_26 (tmP rfl rfl)) ?_
  refine rg_take 11 rfl rfl (by kernel_rfl) (by kernel_rfl) (by kernel_rfl) (want_0) (fun w hok => x_loadA (cs := [_, _, _]) Tryd.underlying26 rfl ts_26 (tmP rfl rfl) (rangeB hok 0 rfl rfl)) ?_
  refine rg_step 12 rfl (by kernel_rfl) (want_0) (oks_drop hS 0 rfl) ?_; intro K hK
  refine ow_call Tryd.func94 rfl rfl (evs_cons (tmA rfl rfl) <| evs_cons (tmA rfl rfl) <| evs_cons (tmA rfl rfl) <| evs_nil) (udp_fine_c t.u1 t.u2 t.u3 U t.x.length cu t.x i.s i.d _ (viewV hS.ok 2 rfl) rfl k1 h6 hls hld (by omega) k3 k4 k5) ?_
  rintro e w ⟨rfl, hk⟩
  refine ⟨_, rfl, ?_⟩
  replace hS := hS.kept hk
  clear hk
  refine hK _ _ ?_; clear hK K
  refine rg_step 13 rfl (by kernel_rfl) (want_0) (oks_drop hS 0 rfl) ?_; intro K hK
  refine ow_call Tryd.func91 rfl rfl (evs_cons (tmI rfl rfl) <| evs_cons (tmB rfl rfl) <| evs_nil) (checked_c _ _ _) ?_
  rintro e w ⟨rfl, hk⟩
  refine ⟨_, rfl, ?_⟩
  replace hS := hS.kept hk
  clear hk
  refine hK _ _ ?_; clear hK K
  refine rg_take 14 rfl rfl (by kernel_rfl) (by kernel_rfl) (by kernel_rfl) (want_0) (fun w hok => x_assign (tmI rfl rfl)) ?_
  refine rg_done (oks_drop hS 0 rfl) (by kernel_rfl) ?_
  refine then_n (hK5 _ _ ?_); clear hK5 K5
  refine wp_ret ?_
  refine ret1 rfl (.tmp rfl (show _ = Value.int _ _ from rfl)) ?_
  exact ⟨U, cu, rfl, b1, hS.pick [0, 2] rfl rfl⟩
set_option maxRecDepth 100000 in
set_option maxHeartbeats 8000000 in
theorem carryICMP_c (g : Nat) (i : Inf) (p : Pl) (L : Option Addr) (cl : Nat) (x : List Nat) (t : Mg) (er : Nat) (F : List Nat) (w0 : World)
    (hS : St F w0 [.blk g 38 (i.V p), .vw L (x.map u8v)] w0) (hc : x.length ≤ cl) (hx : x.length ≤ 3000) (h6 : i.s.six = i.d.six) (hls : adLim i.s) (hld : adLim i.d) (ht : t.ok) (hP : PM x t er) :
    Calls Tryd.prog 75 #[.pointer (some ⟨g, 0, none⟩), .slice L x.length cl] w0 fun e w' => ∃ U cu, e = .returned (.int .i64 (chk (er : Int) (decide (foldN (icS t.m1 t.m2 t.m3 t.m4 t.x i.s i.d) = 65535)))) ∧ NewB w0 U t.x ∧
      St F w0 [.blk g 38 (Inf.V ⟨i.six, i.stay, i.ttl, i.s, i.d, i.sp, i.dp, i.pr, i.T, i.D, t⟩ ⟨p.O, p.co, p.X, p.cx, p.U, p.cu, U, cu⟩), .vw U (t.x.map u8v)] w' := by
  obtain ⟨k1, k2, k3, k4, k5, k6⟩ := ht
  refine ent (n := 30) Tryd.func75 rfl rfl ?_
  refine wp_seq_k ?_; intro K1 hK1
  refine wlit ?_
  refine wl_v (x_assign (ev_cN 0)) ?_
  refine wl_nil ?_
  refine then_n (hK1 _ _ ?_); clear hK1 K1
  refine wp_seq_k ?_; intro K2 hK2
  refine wlit ?_
  refine wl_v (x_move (tmS rfl rfl)) ?_
  refine wl_e rfl ?_; intro K hK
  refine ow_call Tryd.func95 rfl rfl (evs_cons (tmS rfl rfl) <| evs_nil) (hP _ L cl (viewV hS.ok 1 rfl) hc) ?_
  rintro e w ⟨U, cu, rfl, hn1, hk⟩
  refine ⟨_, rfl, ?_⟩
  have b1 := hn1.newb hS
  replace hS := hS.addn hk hn1 -- +vu
  clear hn1 hk
  refine hK _ _ ?_; clear hK K
  refine wl_v (x_move (tmT rfl rfl)) ?_
  refine wl_v (x_ext (tmT rfl rfl) rfl) ?_
  refine wl_v (x_ext (tmT rfl rfl) rfl) ?_
  refine wl_e rfl ?_; intro K hK
  refine ow_alloc hS tz_36 rfl ?_
  clear hS; intro g1_5 w hg1_5 hS
  refine hK _ _ ?_; clear hK K
  refine wl_e rfl ?_; intro K hK
  refine ow_storeA hS 0 rfl ts_36 (tmP rfl rfl) (tmA rfl rfl) rfl rfl rfl ?_
  clear hS; intro w hS
  try replace hS := St.nm (M' := [.blk _ _ [_, _, _, _, _], .vw _ _, _, .vw _ _]) hS rfl
  refine hK _ _ ?_; clear hK K
  refine wl_v (x_assign (tmI rfl rfl)) ?_
  refine wl_nil ?_
  refine then_n (hK2 _ _ ?_); clear hK2 K2
  refine wp_seq_k ?_; intro K3 hK3
  refine wlit ?_
  refine wl_v (x_move (tmP rfl rfl)) ?_
  refine wl_v (x_loadA (cs := [_, _, _, _, _]) Tryd.underlying36 rfl ts_36 (tmP rfl rfl) (rangeB hS.ok 0 rfl rfl)) ?_
  refine wl_v (x_nil (A := none) (tmP rfl rfl)) ?_
  refine wl_v (x_fa 26 Tryd.underlying38 rfl rfl ts_36 (tmP rfl rfl)) ?_
  refine wl_e rfl ?_; intro K hK
  refine ow_storeA hS 2 rfl ts_36 (tmP rfl rfl) (tmA rfl rfl) rfl rfl rfl ?_
  clear hS; intro w hS
  refine hK _ _ ?_; clear hK K
  refine wl_nil ?_
  replace hS := hS.pick [2, 0, 1, 3] rfl rfl
  replace hS : St F w0 [.blk g 38 (Inf.V ⟨i.six, i.stay, i.ttl, i.s, i.d, i.sp, i.dp, i.pr, i.T, i.D, t⟩ ⟨p.O, p.co, p.X, p.cx, p.U, p.cu, U, cu⟩), .blk g1_5 36 (t.V U cu), .vw U (t.x.map u8v), .vw L (x.map u8v)] w := hS
  try replace hS := St.nm (M' := [_, .blk _ _ [_, _, _, _, _], .vw _ _, .vw _ _]) hS rfl
  refine then_n (hK3 _ _ ?_); clear hK3 K3
  refine wp_seq_k ?_; intro K4 hK4
  refine rg_startk 0 hS mixed_ ?_
  clear hS; intro w hS
  refine rg_take 0 rfl rfl (by kernel_rfl) (by kernel_rfl) (by kernel_rfl) (want_0) (fun w hok => x_move (tmI rfl rfl)) ?_
  refine rg_take 1 rfl rfl (by kernel_rfl) (by kernel_rfl) (by kernel_rfl) (want_0) (fun w hok => x_loadA (cs := [_, _, _, _, _]) Tryd.underlying36 rfl ts_36 (tmP rfl rfl) (rangeB hok 1 rfl rfl)) ?_
  refine rg_take 2 rfl rfl (by kernel_rfl) (by kernel_rfl) (by kernel_rfl) (want_0) (fun w hok => x_move (tmP rfl rfl)) ?_
  refine rg_take 3 rfl rfl (by kernel_rfl) (by kernel_rfl) (by kernel_rfl) (want_0) (fun w hok => x_nil (A := none) (tmP rfl rfl)) ?_
  refine rg_take 4 rfl rfl (by kernel_rfl) (by kernel_rfl) (by kernel_rfl) (want_0) (fun w hok => x_fa 3 Tryd.underlying38 rfl rfl ts_29 (tmP rfl rfl)) ?_
  refine rg_take 5 rfl rfl (by kernel_rfl) (by kernel_rfl) (by kernel_rfl) (want_0) (fun w hok => x_fa 0 Tryd.underlying29 rfl rfl ts_26 (tmP rfl rfl)) ?_
  refine rg_take 6 rfl rfl (by kernel_rfl) (by kernel_rfl) (by kernel_rfl) (want_0) (fun w hok => x_loadA (cs := [_, _, _]) Tryd.underlying26 rfl ts_26 (tmP rfl rfl) (rangeB hok 0 rfl rfl)) ?_
  refine rg_take 7 rfl rfl (by kernel_rfl) (by kernel_rfl) (by kernel_rfl) (want_0) (fun w hok => x_move (tmP rfl rfl)) ?_
  refine rg_take 8 rfl rfl (by kernel_rfl) (by kernel_rfl) (by kernel_rfl) (want_0) (fun w hok => x_nil (A := none) (tmP rfl rfl)) ?_
  refine rg_take 9 rfl rfl (by kernel_rfl) (by kernel_rfl) (by kernel_rfl) (want_0) (fun w hok => x_fa 3 Tryd.underlying38 rfl rfl ts_29 (tmP rfl rfl)) ?_
  refine rg_take 10 rfl rfl (by kernel_rfl) (by kernel_rfl) (by kernel_rfl) (want_0) (fun w hok => x_fa 3 Tryd.underlying29 rfl rfl ts_26 (tmP rfl rfl)) ?_
  refine rg_take 11 rfl rfl (by kernel_rfl) (by kernel_rfl) (by kernel_rfl) (want_0) (fun w hok => x_loadA (cs := [_, _, _]) Tryd.underlying26 rfl ts_26 (tmP rfl rfl) (rangeB hok 0 rfl rfl)) ?_
  refine rg_step 12 rfl (by kernel_rfl) (want_0) (oks_drop hS 0 rfl) ?_; intro K hK
  refine ow_call Tryd.func96 rfl rfl (evs_cons (tmA rfl rfl) <| evs_cons (tmA rfl rfl) <| evs_cons (tmA rfl rfl) <| evs_nil) (icmp_fine_c t.m1 t.m2 t.m3 t.m4 U t.x.length cu t.x i.s i.d _ (viewV hS.ok 2 rfl) rfl k1 h6 hls hld (by omega) k3 k4 k5 k6) ?_
  rintro e w ⟨rfl, hk⟩
  refine ⟨_, rfl, ?_⟩
  replace hS := hS.kept hk
  clear hk
  refine hK _ _ ?_; clear hK K
  refine rg_step 13 rfl (by kernel_rfl) (want_0) (oks_drop hS 0 rfl) ?_; intro K hK
  refine ow_call Tryd.func91 rfl rfl (evs_cons (tmI rfl rfl) <| evs_cons (tmB rfl rfl) <| evs_nil) (checked_c _ _ _) ?_
  rintro e w ⟨rfl, hk⟩
  refine ⟨_, rfl, ?_⟩
  replace hS := hS.kept hk
  clear hk
  refine hK _ _ ?_; clear hK K
  refine rg_take 14 rfl rfl (by kernel_rfl) (by kernel_rfl) (by kernel_rfl) (want_0) (fun w hok => x_assign (tmI rfl rfl)) ?_
  refine rg_done (oks_drop hS 0 rfl) (by kernel_rfl) ?_
  refine then_n (hK4 _ _ ?_); clear hK4 K4
  refine wp_ret ?_
  refine ret1 rfl (.tmp rfl (show _ = Value.int _ _ from rfl)) ?_
  exact ⟨U, cu, rfl, b1, hS.pick [0, 2] rfl rfl⟩
end Go.Proofs.YtmekadkmmddocaaDoor
