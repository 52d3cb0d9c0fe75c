/- packet: header of both sides at once; carry of everything. Conditions: none but bounds. -/
import Derived.Test.YtmekadkmmddocaaDoorPkR
namespace Go.Proofs.YtmekadkmmddocaaDoor
open Go.ChangeAt Go.ChangeShapes Go.RowKit Go.WideShapes
theorem hdr_ex (l : List Nat) (hb : Bytes l) (hn : l.length ≤ 3000) : ∃ (six stay : Bool) (ttl : Nat) (s d : Ad) (pr : Nat) (x : List Nat) (why : Int), ttl < 256 ∧ pr < 256 ∧ s.six = d.six ∧ adLim s ∧ adLim d ∧ Bytes x ∧ x.length ≤ 3000 ∧
    HdP 43 l (mkI six stay ttl s d pr) x why ∧ HdP 20 l (mkI six stay ttl s d pr) x why := by
  by_cases h0 : sixE l = 0
  · have hl : l.length ≠ 0 := fun h => by rw [(sx0 h).1] at h0; cases h0
    by_cases h6 : nth l 0 / 16 = 6
    · obtain ⟨_, e2, e3⟩ := sx6 hl h6
      obtain ⟨cl, lb, len, pr, ttl, s, d, x, er, q1, q2, q3, q4, q5, q6, q7, q8, q9, hP1, hP2⟩ := k6_ex l hb hn h6
      exact ⟨true, true, ttl, s, d, pr, x, pkOf (er : Int), q3, q2, q4, q5, q6, q7, q8, header_six l hb hn cl lb len pr ttl s d x er h0 e2 hP1, outer_six l hb hn cl lb len pr ttl s d x er e3 hP2⟩
    · have h4 : nth l 0 / 16 = 4 := by
        by_cases h4 : nth l 0 / 16 = 4
        · exact h4
        · rw [(sxo hl h4 h6).1] at h0; cases h0
      obtain ⟨_, e2, e3⟩ := sx4 hl h4
      obtain ⟨tos, len, id, stay, more, off, ttl, pr, sum, s, d, o, x, er, q1, q2, q3, q4, q5, q6, q7, q8, q9, q10, q11, q12, q13, _, hP1, hP2⟩ := k4_ex l hb hn
      exact ⟨false, stay, ttl, s, d, pr, x, why4 er more off, q3, q4, q11, q12, q13, q8, q9, header_four l hb hn tos len id stay more off ttl pr sum s d o x er h0 e2 hP1, outer_four l hb hn tos len id stay more off ttl pr sum s d o x er e3 hP2⟩
  · exact ⟨false, false, 0, ⟨false, 0, 0⟩, ⟨false, 0, 0⟩, 0, [], pkOf (sixE l : Int), by decide, by decide, rfl, ⟨Nat.zero_le _, Nat.zero_le _⟩, ⟨Nat.zero_le _, Nat.zero_le _⟩, Bytes.nil, Nat.zero_le _, header_bad l hb hn _ _ _ h0 rfl, outer_bad l hb hn _ _ _ h0 rfl⟩
def icmpQ (six : Bool) (pr : Nat) : Prop := (pr = 1 ∧ six = false) ∨ (pr = 58 ∧ six = true)
instance (six : Bool) (pr : Nat) : Decidable (icmpQ six pr) := by unfold icmpQ; exact inferInstance
/-- All four parts' bytes are seen. -/
def Inf.E (i : Inf) (p : Pl) : List Ent := [.vw p.O (i.T.o.map u8v), .vw p.X (i.T.x.map u8v), .vw p.U (i.D.x.map u8v), .vw p.M (i.I.x.map u8v)]
theorem St.nilv {F : List Nat} {w0 w : World} {M : List Ent} (h : St F w0 M w) : St F w0 (.vw none (([] : List Nat).map u8v) :: M) w := h.addv View.nil_ fun _ _ => .inr (.inl rfl)
theorem St.leave0 {F : List Nat} {w0 w w' : World} {M M' : List Ent} (h : St F w0 M w) (is : List Nat) (hl : is.all (fun i => Nat.blt i M.length) = true) (hn : nodupB is = true) (hw : (picks M is).all (fun e => !e.ro) = true)
    (hpost : St (blks (picks M is)) w M' w') : St F w0 M' w' := by
  have hp := h.pick is hl hn
  have hG : ∀ g ∈ blks (picks M is), g ∈ F ∨ w0.heap.size ≤ g := by
    intro g hg
    obtain ⟨e, he, hb⟩ := List.mem_filterMap.1 hg
    have := List.all_eq_true.1 hw e he
    exact hp.own e he (by simpa using this) g hb
  refine ⟨h.kp.step hpost.kp hG, hpost.ok, hpost.ap, fun e he hro g hg => ?_⟩
  rcases hpost.own e he hro g hg with h1 | h1
  · exact hG g h1
  · exact .inr (Nat.le_trans h.kp.size h1)
theorem St.addo {F G : List Nat} {w0 w w' : World} {L P : List Ent} (hbig : St F w0 L w') (hpost : St G w P w') {A : Option Addr} {xs : List Value} (i : Nat) (hP : P[i]? = some (.vw A xs)) (hnew : ∀ g, (Ent.vw A xs).blk? = some g → w.heap.size ≤ g)
    (hL : ∀ e' ∈ L, e'.ro = true ∨ (∃ j, j ≠ i ∧ P[j]? = some e') ∨ (∀ g, e'.blk? = some g → g < w.heap.size)) : St F w0 (.vw A xs :: L) w' := by
  refine hbig.addv (hpost.ok _ (mem_of_get hP)) fun e' he' => ?_
  rcases hL e' he' with h | ⟨j, hj, h⟩ | h
  · exact .inl (by rw [h]; rfl)
  · exact hpost.ap i j _ _ (fun e => hj e.symm) hP h
  · cases hx : (Ent.vw A xs).blk? with
    | none => exact .inr (.inl hx)
    | some g =>
      cases hy : e'.blk? with
      | none => exact .inr (.inr (.inl hy))
      | some g' =>
        refine .inr (.inr (.inr ?_))
        rw [hx, hy]
        intro he; injection he with he; subst he
        have h1 := hnew g hx
        have h2 := h g hy
        omega
/-- A call that wrote one block and answers four views that are new. -/
theorem St.leave4 {F : List Nat} {w0 w w' : World} {M : List Ent} (h : St F w0 M w) (i : Nat) (js : List Nat) (hl : ([i] ++ js).all (fun i => Nat.blt i M.length) = true) (hn : nodupB ([i] ++ js) = true) (hw : (picks M [i]).all (fun e => !e.ro) = true) {e0 : Ent} {A1 A2 A3 A4 : Option Addr} {l1 l2 l3 l4 : List Nat}
    (hpost : St (blks (picks M [i])) w [e0, .vw A1 (l1.map u8v), .vw A2 (l2.map u8v), .vw A3 (l3.map u8v), .vw A4 (l4.map u8v)] w') (h0 : e0.ro = false) (b1 : NewB w A1 l1) (b2 : NewB w A2 l2) (b3 : NewB w A3 l3) (b4 : NewB w A4 l4) :
    St F w0 ([.vw A1 (l1.map u8v), .vw A2 (l2.map u8v), .vw A3 (l3.map u8v), .vw A4 (l4.map u8v), e0] ++ picks M js) w' := by
  have hold : ∀ e ∈ picks M js, ∀ g, e.blk? = some g → g < w.heap.size := fun e he g hg => by
    have hjs : js.all (fun i => Nat.blt i M.length) = true := by
      rw [List.all_append, Bool.and_eq_true] at hl; exact hl.2
    obtain ⟨p, hp⟩ := List.getElem?_of_mem he
    obtain ⟨j, _, hj⟩ := picks_get M js hjs p e hp
    exact Ent.ok_lt (h.ok e (mem_of_get hj)) hg
  have hS := h.leave [i] js hl hn hw (hpost.pick [0] rfl rfl) (by show (!e0.ro && true) = true; rw [h0]; rfl)
  have hb : ∀ (L : List Ent), (∀ e ∈ L, e.ro = true) → ∀ (k : Nat), k ≠ 0 → ∀ e' ∈ L ++ (e0 :: picks M js), e'.ro = true ∨ (∃ j, j ≠ k ∧ ([e0, .vw A1 (l1.map u8v), .vw A2 (l2.map u8v), .vw A3 (l3.map u8v), .vw A4 (l4.map u8v)] : List Ent)[j]? = some e') ∨ (∀ g, e'.blk? = some g → g < w.heap.size) := fun L hL k hk e' he' => by
    rcases List.mem_append.1 he' with he' | he'
    · exact .inl (hL e' he')
    · rcases List.mem_cons.1 he' with rfl | he'
      · exact .inr (.inl ⟨0, fun e => hk e.symm, rfl⟩)
      · exact .inr (.inr (hold e' he'))
  have h4 := St.addo hS hpost 4 rfl b4 (hb [] (by simp) 4 (by decide))
  have h3 := St.addo h4 hpost 3 rfl b3 (hb [.vw A4 (l4.map u8v)] (by simp [Ent.ro]) 3 (by decide))
  have h2 := St.addo h3 hpost 2 rfl b2 (hb [.vw A3 (l3.map u8v), .vw A4 (l4.map u8v)] (by simp [Ent.ro]) 2 (by decide))
  exact St.addo h2 hpost 1 rfl b1 (hb [.vw A2 (l2.map u8v), .vw A3 (l3.map u8v), .vw A4 (l4.map u8v)] (by simp [Ent.ro]) 1 (by decide))
/-- What carry makes of a header and a load. -/
def CarP (i : Inf) (x : List Nat) (i' : Inf) (why : Int) : Prop := ∀ (g : Nat) (L : Option Addr) (cl : Nat) (F : List Nat) (w0 : World), St F w0 [.blk g 38 (i.V Pl.Z), .vw L (x.map u8v)] w0 → x.length ≤ cl →
  Calls Tryd.prog 44 #[.pointer (some ⟨g, 0, none⟩), .slice L x.length cl] w0 fun e w' => ∃ p, e = .returned (.int .i64 why) ∧ NewB w0 p.O i'.T.o ∧ NewB w0 p.X i'.T.x ∧ NewB w0 p.U i'.D.x ∧ NewB w0 p.M i'.I.x ∧ St F w0 (.blk g 38 (i'.V p) :: i'.E p) w'
set_option maxRecDepth 100000 in
set_option maxHeartbeats 8000000 in
theorem carry_tcp (i : Inf) (hT : i.T = Sg.Z) (hD : i.D = Dg.Z) (hI : i.I = Mg.Z) (x : List Nat) (t : Sg) (er : Nat) (hpr : i.pr = 6) (hb : Bytes x) (hx : x.length ≤ 3000) (h6 : i.s.six = i.d.six) (hls : adLim i.s) (hld : adLim i.d) (hP : PT 90 x t er) :
    CarP i x ⟨i.six, i.stay, i.ttl, i.s, i.d, t.t1, t.t2, i.pr, t, i.D, i.I⟩ (chk (er : Int) (decide (foldN (gS i.s i.d 6 x) = 65535))) := fun g L cl F w0 hS hc => by
  refine ent (n := 54) Tryd.func44 rfl rfl ?_
  refine wp_seq_k ?_; intro K1 hK1
  refine wlit ?_
  refine wl_v (x_assign (ev_cN 0)) ?_
  refine wl_nil ?_
  refine then_n (hK1 _ _ ?_); clear hK1 K1
  refine wp_seq_k ?_; intro K2 hK2
  refine wp_block ?_
  refine wp_seq_k ?_; intro K3 hK3
  refine wlit ?_
  refine wl_v (x_move (tmP rfl rfl)) ?_
  refine wl_v (x_nil (A := none) (tmP rfl rfl)) ?_
  refine wl_v (x_fa 3 Tryd.underlying38 rfl rfl ts_29 (tmP rfl rfl)) ?_
  refine wl_v (x_fa 8 Tryd.underlying29 rfl rfl ts_5 (tmP rfl rfl)) ?_
  refine wl_v (x_load Tryd.underlying5 rfl (tmP rfl rfl) (cellB hS.ok 0 rfl rfl)) ?_
  refine wl_v (x_eql (tmI rfl rfl) (ev_cN 6)) ?_
  refine wl_v (x_assign (tmB rfl rfl)) ?_
  refine wl_nil ?_
  refine then_n (hK3 _ _ ?_); clear hK3 K3
  refine cnds (tm rfl) (fun hc0 => ?_) (fun hc0 => ?_)
  · exfalso
    first | omega | (simp at hc0; omega)
  all_goals
   try simp only [nrm] at hc0
   refine wp_seq_k ?_; intro K4 hK4
   refine wlit ?_
   refine wl_v (x_move (tmP rfl rfl)) ?_
   refine wl_v (x_move (tmS rfl rfl)) ?_
   refine wl_e rfl ?_; intro K hK
   refine ow_call Tryd.func73 rfl rfl (evs_cons (tmP rfl rfl) <| evs_cons (tmS rfl rfl) <| evs_nil) (carryTCP_c g i Pl.Z L cl x t er _ _ (hS.enter [0] [1] rfl rfl) hc hb hx h6 hls hld hP) ?_
   rintro e w ⟨O, co, X, cx, rfl, b1, b2, hS2⟩
   refine ⟨_, rfl, ?_⟩
   replace b1 := fun b hb => Nat.le_trans hS.kp.size (b1 b hb)
   replace b2 := fun b hb => Nat.le_trans hS.kp.size (b2 b hb)
   replace hS := hS.leave0 [0] rfl rfl rfl hS2 --ents g,vo,vx
   clear hS2
   try replace hS := St.nm (M' := [_, .vw _ _, .vw _ _]) hS rfl
   refine hK _ _ ?_; clear hK K
   refine wl_v (x_assign (tmI rfl rfl)) ?_
   refine wl_nil ?_
   refine then_n (hK4 _ _ ?_); clear hK4 K4
   refine wp_ret ?_
   refine inb_r ?_
   refine then_r ?_
   refine ret1 rfl (.tmp rfl (show _ = Value.int _ _ from rfl)) ?_
   obtain ⟨six, stay, ttl, s, d, sp, dp, pr, T, D, I⟩ := i
   obtain rfl : T = Sg.Z := hT
   obtain rfl : D = Dg.Z := hD
   obtain rfl : I = Mg.Z := hI
   exact ⟨⟨O, co, X, cx, none, 0, none, 0⟩, rfl, b1, b2, NewB.nil, NewB.nil, hS.nilv.nilv.pick [2, 3, 4, 0, 1] rfl rfl⟩
set_option maxRecDepth 100000 in
set_option maxHeartbeats 8000000 in
theorem carry_udp (i : Inf) (hT : i.T = Sg.Z) (hD : i.D = Dg.Z) (hI : i.I = Mg.Z) (x : List Nat) (t : Dg) (er : Nat) (hpr : i.pr = 17) (hx : x.length ≤ 3000) (h6 : i.s.six = i.d.six) (hls : adLim i.s) (hld : adLim i.d) (ht : t.ok) (hP : PU 93 x t er) :
    CarP i x ⟨i.six, i.stay, i.ttl, i.s, i.d, t.u1, t.u2, i.pr, i.T, t, i.I⟩ (chk (er : Int) (udF t.u1 t.u2 t.u3 t.x i.s i.d)) := fun g L cl F w0 hS hc => by
  refine ent (n := 54) Tryd.func44 rfl rfl ?_
  refine wp_seq_k ?_; intro K1 hK1
  refine wlit ?_
  refine wl_v (x_assign (ev_cN 0)) ?_
  refine wl_nil ?_
  refine then_n (hK1 _ _ ?_); clear hK1 K1
  refine wp_seq_k ?_; intro K2 hK2
  refine wp_block ?_
  refine wp_seq_k ?_; intro K3 hK3
  refine wlit ?_
  refine wl_v (x_move (tmP rfl rfl)) ?_
  refine wl_v (x_nil (A := none) (tmP rfl rfl)) ?_
  refine wl_v (x_fa 3 Tryd.underlying38 rfl rfl ts_29 (tmP rfl rfl)) ?_
  refine wl_v (x_fa 8 Tryd.underlying29 rfl rfl ts_5 (tmP rfl rfl)) ?_
  refine wl_v (x_load Tryd.underlying5 rfl (tmP rfl rfl) (cellB hS.ok 0 rfl rfl)) ?_
  refine wl_v (x_eql (tmI rfl rfl) (ev_cN 6)) ?_
  refine wl_v (x_assign (tmB rfl rfl)) ?_
  refine wl_nil ?_
  refine then_n (hK3 _ _ ?_); clear hK3 K3
  refine cnd (tm rfl) (fun hc0 => ?_) (fun hc0 => ?_)
  · exfalso
    first | omega | (simp at hc0; omega)
  all_goals
   try simp only [nrm] at hc0
   refine wp_seq_k ?_; intro K4 hK4
   refine wlit ?_
   refine wl_v (x_move (tmP rfl rfl)) ?_
   refine wl_v (x_nil (A := none) (tmP rfl rfl)) ?_
   refine wl_v (x_fa 3 Tryd.underlying38 rfl rfl ts_29 (tmP rfl rfl)) ?_
   refine wl_v (x_fa 8 Tryd.underlying29 rfl rfl ts_5 (tmP rfl rfl)) ?_
   refine wl_v (x_load Tryd.underlying5 rfl (tmP rfl rfl) (cellB hS.ok 0 rfl rfl)) ?_
   refine wl_v (x_eql (tmI rfl rfl) (ev_cN 17)) ?_
   refine wl_v (x_assign (tmB rfl rfl)) ?_
   refine wl_nil ?_
   refine then_n (hK4 _ _ ?_); clear hK4 K4
   refine cnds (tm rfl) (fun hc1 => ?_) (fun hc1 => ?_)
   · exfalso
     first | omega | (simp at hc1; omega)
   all_goals
    try simp only [nrm] at hc1
    refine wp_seq_k ?_; intro K5 hK5
    refine wlit ?_
    refine wl_v (x_move (tmP rfl rfl)) ?_
    refine wl_v (x_move (tmS rfl rfl)) ?_
    refine wl_e rfl ?_; intro K hK
    refine ow_call Tryd.func74 rfl rfl (evs_cons (tmP rfl rfl) <| evs_cons (tmS rfl rfl) <| evs_nil) (carryUDP_c g i Pl.Z L cl x t er _ _ (hS.enter [0] [1] rfl rfl) hc hx h6 hls hld ht hP) ?_
    rintro e w ⟨U, cu, rfl, b1, hS2⟩
    refine ⟨_, rfl, ?_⟩
    replace b1 := fun b hb => Nat.le_trans hS.kp.size (b1 b hb)
    replace hS := hS.leave0 [0] rfl rfl rfl hS2 --ents g,vu
    clear hS2
    try replace hS := St.nm (M' := [_, .vw _ _]) hS rfl
    refine hK _ _ ?_; clear hK K
    refine wl_v (x_assign (tmI rfl rfl)) ?_
    refine wl_nil ?_
    refine then_n (hK5 _ _ ?_); clear hK5 K5
    refine wp_ret ?_
    refine inb_r ?_
    refine then_r ?_
    refine ret1 rfl (.tmp rfl (show _ = Value.int _ _ from rfl)) ?_
    obtain ⟨six, stay, ttl, s, d, sp, dp, pr, T, D, I⟩ := i
    obtain rfl : T = Sg.Z := hT
    obtain rfl : D = Dg.Z := hD
    obtain rfl : I = Mg.Z := hI
    exact ⟨⟨none, 0, none, 0, U, cu, none, 0⟩, rfl, NewB.nil, NewB.nil, b1, NewB.nil, hS.nilv.nilv.nilv.pick [3, 0, 1, 4, 2] rfl rfl⟩
set_option maxRecDepth 100000 in
set_option maxHeartbeats 8000000 in
theorem carry_icmp (i : Inf) (hT : i.T = Sg.Z) (hD : i.D = Dg.Z) (hI : i.I = Mg.Z) (x : List Nat) (t : Mg) (er : Nat) (hpr : (i.pr = 1 ∧ i.six = false) ∨ (i.pr = 58 ∧ i.six = true)) (hx : x.length ≤ 3000) (h6 : i.s.six = i.d.six) (hls : adLim i.s) (hld : adLim i.d) (ht : t.ok) (hP : PM x t er) :
    CarP i x ⟨i.six, i.stay, i.ttl, i.s, i.d, i.sp, i.dp, i.pr, i.T, i.D, t⟩ (chk (er : Int) (decide (foldN (icS t.m1 t.m2 t.m3 t.m4 t.x i.s i.d) = 65535))) := fun g L cl F w0 hS hc => by
  refine ent (n := 54) Tryd.func44 rfl rfl ?_
  refine wp_seq_k ?_; intro K1 hK1
  refine wlit ?_
  refine wl_v (x_assign (ev_cN 0)) ?_
  refine wl_nil ?_
  refine then_n (hK1 _ _ ?_); clear hK1 K1
  refine wp_seq_k ?_; intro K2 hK2
  refine wp_block ?_
  refine wp_seq_k ?_; intro K3 hK3
  refine wlit ?_
  refine wl_v (x_move (tmP rfl rfl)) ?_
  refine wl_v (x_nil (A := none) (tmP rfl rfl)) ?_
  refine wl_v (x_fa 3 Tryd.underlying38 rfl rfl ts_29 (tmP rfl rfl)) ?_
  refine wl_v (x_fa 8 Tryd.underlying29 rfl rfl ts_5 (tmP rfl rfl)) ?_
  refine wl_v (x_load Tryd.underlying5 rfl (tmP rfl rfl) (cellB hS.ok 0 rfl rfl)) ?_
  refine wl_v (x_eql (tmI rfl rfl) (ev_cN 6)) ?_
  refine wl_v (x_assign (tmB rfl rfl)) ?_
  refine wl_nil ?_
  refine then_n (hK3 _ _ ?_); clear hK3 K3
  refine cnd (tm rfl) (fun hc0 => ?_) (fun hc0 => ?_)
  · exfalso
    first | omega | (simp at hc0; omega)
  all_goals
   try simp only [nrm] at hc0
   refine wp_seq_k ?_; intro K4 hK4
   refine wlit ?_
   refine wl_v (x_move (tmP rfl rfl)) ?_
   refine wl_v (x_nil (A := none) (tmP rfl rfl)) ?_
   refine wl_v (x_fa 3 Tryd.underlying38 rfl rfl ts_29 (tmP rfl rfl)) ?_
   refine wl_v (x_fa 8 Tryd.underlying29 rfl rfl ts_5 (tmP rfl rfl)) ?_
   refine wl_v (x_load Tryd.underlying5 rfl (tmP rfl rfl) (cellB hS.ok 0 rfl rfl)) ?_
   refine wl_v (x_eql (tmI rfl rfl) (ev_cN 17)) ?_
   refine wl_v (x_assign (tmB rfl rfl)) ?_
   refine wl_nil ?_
   refine then_n (hK4 _ _ ?_); clear hK4 K4
   refine cnd (tm rfl) (fun hc1 => ?_) (fun hc1 => ?_)
   · exfalso
     first | omega | (simp at hc1; omega)
   all_goals
    try simp only [nrm] at hc1
    refine wp_seq_k ?_; intro K5 hK5
    refine wp_seq_k ?_; intro K6 hK6
    refine wlit ?_
    refine wl_v (x_move (tmP rfl rfl)) ?_
    refine wl_v (x_nil (A := none) (tmP rfl rfl)) ?_
    refine wl_v (x_fa 3 Tryd.underlying38 rfl rfl ts_29 (tmP rfl rfl)) ?_
    refine wl_v (x_fa 8 Tryd.underlying29 rfl rfl ts_5 (tmP rfl rfl)) ?_
    refine wl_v (x_load Tryd.underlying5 rfl (tmP rfl rfl) (cellB hS.ok 0 rfl rfl)) ?_
    refine wl_v (x_eql (tmI rfl rfl) (ev_cN 1)) ?_
    refine wl_v (x_move (tmB rfl rfl)) ?_
    refine gs_wl (tm (t := 32) rfl) (fun hg5_6 => ?_) (fun hg5_6 => ?_)
    · have hg5_6' := hg5_6; (try simp only [nrm] at hg5_6')
      all_goals
       refine wl_gv (want_y rfl rfl rfl rfl (by rw [hg5_6]; rfl)) (x_move (tmP rfl rfl)) ?_
       refine wl_gv (want_y rfl rfl rfl rfl (by rw [hg5_6]; rfl)) (x_nil (A := none) (tmP rfl rfl)) ?_
       refine wl_gv (want_y rfl rfl rfl rfl (by rw [hg5_6]; rfl)) (x_fa 0 Tryd.underlying38 rfl rfl ts_4 (tmP rfl rfl)) ?_
       refine wl_gv (want_y rfl rfl rfl rfl (by rw [hg5_6]; rfl)) (x_load Tryd.underlying4 rfl (tmP rfl rfl) (cellB hS.ok 0 rfl rfl)) ?_
       refine wl_gv (want_y rfl rfl rfl rfl (by rw [hg5_6]; rfl)) (x_not (tmB rfl rfl)) ?_
       refine wl_v (x_pickT (tmB rfl rfl) hg5_6 (tmB rfl rfl)) ?_
       refine wl_v (x_assign (tmB rfl rfl)) ?_
       refine wl_nil ?_
       refine then_n (hK6 _ _ ?_); clear hK6 K6
       refine cnd (tm rfl) (fun hc2 => ?_) (fun hc2 => ?_)
       · skip
         all_goals
          try simp only [nrm] at hc2
          refine wp_skip ?_
          refine then_n (hK5 _ _ ?_); clear hK5 K5
          refine cnd (tm rfl) (fun hc3 => ?_) (fun hc3 => ?_)
          · skip
            all_goals
             try simp only [nrm] at hc3
             refine wp_seq_k ?_; intro K7 hK7
             refine wlit ?_
             refine wl_v (x_move (tmP rfl rfl)) ?_
             refine wl_v (x_move (tmS rfl rfl)) ?_
             refine wl_e rfl ?_; intro K hK
             refine ow_call Tryd.func75 rfl rfl (evs_cons (tmP rfl rfl) <| evs_cons (tmS rfl rfl) <| evs_nil) (carryICMP_c g i Pl.Z L cl x t er _ _ (hS.enter [0] [1] rfl rfl) hc hx h6 hls hld ht hP) ?_
             rintro e w ⟨U, cu, rfl, b1, hS2⟩
             refine ⟨_, rfl, ?_⟩
             replace b1 := fun b hb => Nat.le_trans hS.kp.size (b1 b hb)
             replace hS := hS.leave0 [0] rfl rfl rfl hS2 --ents g,vu
             clear hS2
             try replace hS := St.nm (M' := [_, .vw _ _]) hS rfl
             refine hK _ _ ?_; clear hK K
             refine wl_v (x_assign (tmI rfl rfl)) ?_
             refine wl_nil ?_
             refine then_n (hK7 _ _ ?_); clear hK7 K7
             refine wp_ret ?_
             refine inb_r ?_
             refine then_r ?_
             refine ret1 rfl (.tmp rfl (show _ = Value.int _ _ from rfl)) ?_
             first
               | (obtain ⟨six, stay, ttl, s, d, sp, dp, pr, T, D, I⟩ := i
                  obtain rfl : T = Sg.Z := hT
                  obtain rfl : D = Dg.Z := hD
                  obtain rfl : I = Mg.Z := hI
                  exact ⟨⟨none, 0, none, 0, none, 0, U, cu⟩, rfl, NewB.nil, NewB.nil, NewB.nil, b1, hS.nilv.nilv.nilv.pick [3, 0, 1, 2, 4] rfl rfl⟩)
               | (exfalso; rcases hpr with ⟨h1, h2⟩ | ⟨h1, h2⟩ <;> simp_all)
          all_goals
           try simp only [nrm] at hc3
           refine wp_skip ?_
           refine inb_n ?_
           refine then_n (hK2 _ _ ?_); clear hK2 K2
           refine wp_seq_k ?_; intro K8 hK8
           refine wlit ?_
           refine wl_v (x_assign (ev_cN 6)) ?_
           refine wl_nil ?_
           refine then_n (hK8 _ _ ?_); clear hK8 K8
           refine wp_ret ?_
           refine ret1 rfl (.tmp rfl (show _ = Value.int _ _ from rfl)) ?_
           first
             | (obtain ⟨six, stay, ttl, s, d, sp, dp, pr, T, D, I⟩ := i
                obtain rfl : T = Sg.Z := hT
                obtain rfl : D = Dg.Z := hD
                obtain rfl : I = Mg.Z := hI
                exact ⟨⟨none, 0, none, 0, none, 0, U, cu⟩, rfl, NewB.nil, NewB.nil, NewB.nil, b1, hS.nilv.nilv.nilv.pick [3, 0, 1, 2, 4] rfl rfl⟩)
             | (exfalso; rcases hpr with ⟨h1, h2⟩ | ⟨h1, h2⟩ <;> simp_all)
       all_goals
        try simp only [nrm] at hc2
        refine wlit ?_
        refine wl_v (x_move (tmP rfl rfl)) ?_
        refine wl_v (x_nil (A := none) (tmP rfl rfl)) ?_
        refine wl_v (x_fa 3 Tryd.underlying38 rfl rfl ts_29 (tmP rfl rfl)) ?_
        refine wl_v (x_fa 8 Tryd.underlying29 rfl rfl ts_5 (tmP rfl rfl)) ?_
        refine wl_v (x_load Tryd.underlying5 rfl (tmP rfl rfl) (cellB hS.ok 0 rfl rfl)) ?_
        refine wl_v (x_eql (tmI rfl rfl) (ev_cN 58)) ?_
        refine wl_v (x_move (tmB rfl rfl)) ?_
        refine gs_wl (tm (t := 45) rfl) (fun hg6_6 => ?_) (fun hg6_6 => ?_)
        · have hg6_6' := hg6_6; (try simp only [nrm] at hg6_6'); try (exfalso; first | with_reducible exact absurd hg6_6 Bool.false_ne_true | with_reducible exact absurd hg6_6.symm Bool.false_ne_true | omega | (simp at hg6_6; done))
          all_goals
           refine wl_gv (want_y rfl rfl rfl rfl (by rw [hg6_6]; rfl)) (x_move (tmP rfl rfl)) ?_
           refine wl_gv (want_y rfl rfl rfl rfl (by rw [hg6_6]; rfl)) (x_nil (A := none) (tmP rfl rfl)) ?_
           refine wl_gv (want_y rfl rfl rfl rfl (by rw [hg6_6]; rfl)) (x_fa 0 Tryd.underlying38 rfl rfl ts_4 (tmP rfl rfl)) ?_
           first
            | refine wl_gv (want_y rfl rfl rfl rfl (by rw [hg6_6]; rfl)) (x_load Tryd.underlying4 rfl (tmP rfl rfl) (cellB hS.ok 0 rfl rfl)) ?_
            | refine wl_gv (want_y rfl rfl rfl rfl (by rw [hg6_6]; rfl)) (x_load Tryd.underlying4 rfl (tmP rfl rfl) (cellV hS.ok 1 rfl rfl)) ?_
            | refine wl_gv (want_y rfl rfl rfl rfl (by rw [hg6_6]; rfl)) (x_load Tryd.underlying4 rfl (tmP rfl rfl) (cellV hS.ok 1 rfl (getm (by omega)))) ?_
            | refine wl_gv (want_y rfl rfl rfl rfl (by rw [hg6_6]; rfl)) (x_load Tryd.underlying4 rfl (tmP rfl rfl) (cellVs hS.ok 1 rfl (fun _ => rfl) rfl (by omega) rfl)) ?_
           refine wl_v (x_pickT (tmB rfl rfl) hg6_6 (tmB rfl rfl)) ?_
           refine wl_v (x_assign (tmB rfl rfl)) ?_
           refine wl_nil ?_
           refine then_n (hK5 _ _ ?_); clear hK5 K5
           refine cnd (tm rfl) (fun hc3 => ?_) (fun hc3 => ?_)
           · skip
             all_goals
              try simp only [nrm] at hc3
              refine wp_seq_k ?_; intro K9 hK9
              refine wlit ?_
              refine wl_v (x_move (tmP rfl rfl)) ?_
              refine wl_v (x_move (tmS rfl rfl)) ?_
              refine wl_e rfl ?_; intro K hK
              refine ow_call Tryd.func75 rfl rfl (evs_cons (tmP rfl rfl) <| evs_cons (tmS rfl rfl) <| evs_nil) (carryICMP_c g i Pl.Z L cl x t er _ _ (hS.enter [0] [1] rfl rfl) hc hx h6 hls hld ht hP) ?_
              rintro e w ⟨U, cu, rfl, b1, hS2⟩
              refine ⟨_, rfl, ?_⟩
              replace b1 := fun b hb => Nat.le_trans hS.kp.size (b1 b hb)
              replace hS := hS.leave0 [0] rfl rfl rfl hS2 --ents g,vu
              clear hS2
              try replace hS := St.nm (M' := [_, .vw _ _]) hS rfl
              refine hK _ _ ?_; clear hK K
              refine wl_v (x_assign (tmI rfl rfl)) ?_
              refine wl_nil ?_
              refine then_n (hK9 _ _ ?_); clear hK9 K9
              refine wp_ret ?_
              refine inb_r ?_
              refine then_r ?_
              refine ret1 rfl (.tmp rfl (show _ = Value.int _ _ from rfl)) ?_
              first
                | (obtain ⟨six, stay, ttl, s, d, sp, dp, pr, T, D, I⟩ := i
                   obtain rfl : T = Sg.Z := hT
                   obtain rfl : D = Dg.Z := hD
                   obtain rfl : I = Mg.Z := hI
                   exact ⟨⟨none, 0, none, 0, none, 0, U, cu⟩, rfl, NewB.nil, NewB.nil, NewB.nil, b1, hS.nilv.nilv.nilv.pick [3, 0, 1, 2, 4] rfl rfl⟩)
                | (exfalso; rcases hpr with ⟨h1, h2⟩ | ⟨h1, h2⟩ <;> simp_all)
           all_goals
            try simp only [nrm] at hc3
            refine wp_skip ?_
            refine inb_n ?_
            refine then_n (hK2 _ _ ?_); clear hK2 K2
            refine wp_seq_k ?_; intro K10 hK10
            refine wlit ?_
            refine wl_v (x_assign (ev_cN 6)) ?_
            refine wl_nil ?_
            refine then_n (hK10 _ _ ?_); clear hK10 K10
            refine wp_ret ?_
            refine ret1 rfl (.tmp rfl (show _ = Value.int _ _ from rfl)) ?_
            first
              | (obtain ⟨six, stay, ttl, s, d, sp, dp, pr, T, D, I⟩ := i
                 obtain rfl : T = Sg.Z := hT
                 obtain rfl : D = Dg.Z := hD
                 obtain rfl : I = Mg.Z := hI
                 exact ⟨⟨none, 0, none, 0, none, 0, U, cu⟩, rfl, NewB.nil, NewB.nil, NewB.nil, b1, hS.nilv.nilv.nilv.pick [3, 0, 1, 2, 4] rfl rfl⟩)
              | (exfalso; rcases hpr with ⟨h1, h2⟩ | ⟨h1, h2⟩ <;> simp_all)
        have hg6_6' := hg6_6; (try simp only [nrm] at hg6_6')
        all_goals
         refine wl_s rfl (want_n rfl rfl rfl rfl (by rw [hg6_6]; rfl)) ?_
         refine wl_s rfl (want_n rfl rfl rfl rfl (by rw [hg6_6]; rfl)) ?_
         refine wl_s rfl (want_n rfl rfl rfl rfl (by rw [hg6_6]; rfl)) ?_
         refine wl_s rfl (want_n rfl rfl rfl rfl (by rw [hg6_6]; rfl)) ?_
         refine wl_v (x_pickF (tmB rfl rfl) hg6_6 ev_c) ?_
         refine wl_v (x_assign (tmB rfl rfl)) ?_
         refine wl_nil ?_
         refine then_n (hK5 _ _ ?_); clear hK5 K5
         refine cnd_f (tmB rfl rfl) rfl ?_
         refine wp_skip ?_
         refine inb_n ?_
         refine then_n (hK2 _ _ ?_); clear hK2 K2
         refine wp_seq_k ?_; intro K11 hK11
         refine wlit ?_
         refine wl_v (x_assign (ev_cN 6)) ?_
         refine wl_nil ?_
         refine then_n (hK11 _ _ ?_); clear hK11 K11
         refine wp_ret ?_
         refine ret1 rfl (.tmp rfl (show _ = Value.int _ _ from rfl)) ?_
         first
           | (obtain ⟨six, stay, ttl, s, d, sp, dp, pr, T, D, I⟩ := i
              obtain rfl : T = Sg.Z := hT
              obtain rfl : D = Dg.Z := hD
              obtain rfl : I = Mg.Z := hI
              exact ⟨⟨none, 0, none, 0, none, 0, U, cu⟩, rfl, NewB.nil, NewB.nil, NewB.nil, b1, hS.nilv.nilv.nilv.pick [3, 0, 1, 2, 4] rfl rfl⟩)
           | (exfalso; rcases hpr with ⟨h1, h2⟩ | ⟨h1, h2⟩ <;> simp_all)
    have hg5_6' := hg5_6; (try simp only [nrm] at hg5_6')
    all_goals
     refine wl_s rfl (want_n rfl rfl rfl rfl (by rw [hg5_6]; rfl)) ?_
     refine wl_s rfl (want_n rfl rfl rfl rfl (by rw [hg5_6]; rfl)) ?_
     refine wl_s rfl (want_n rfl rfl rfl rfl (by rw [hg5_6]; rfl)) ?_
     refine wl_s rfl (want_n rfl rfl rfl rfl (by rw [hg5_6]; rfl)) ?_
     refine wl_s rfl (want_n rfl rfl rfl rfl (by rw [hg5_6]; rfl)) ?_
     refine wl_v (x_pickF (tmB rfl rfl) hg5_6 ev_c) ?_
     refine wl_v (x_assign (tmB rfl rfl)) ?_
     refine wl_nil ?_
     refine then_n (hK6 _ _ ?_); clear hK6 K6
     refine cnd_f (tmB rfl rfl) rfl ?_
     refine wlit ?_
     refine wl_v (x_move (tmP rfl rfl)) ?_
     refine wl_v (x_nil (A := none) (tmP rfl rfl)) ?_
     refine wl_v (x_fa 3 Tryd.underlying38 rfl rfl ts_29 (tmP rfl rfl)) ?_
     refine wl_v (x_fa 8 Tryd.underlying29 rfl rfl ts_5 (tmP rfl rfl)) ?_
     refine wl_v (x_load Tryd.underlying5 rfl (tmP rfl rfl) (cellB hS.ok 0 rfl rfl)) ?_
     refine wl_v (x_eql (tmI rfl rfl) (ev_cN 58)) ?_
     refine wl_v (x_move (tmB rfl rfl)) ?_
     refine gs_wl (tm (t := 45) rfl) (fun hg6_6 => ?_) (fun hg6_6 => ?_)
     · have hg6_6' := hg6_6; (try simp only [nrm] at hg6_6')
       all_goals
        refine wl_gv (want_y rfl rfl rfl rfl (by rw [hg6_6]; rfl)) (x_move (tmP rfl rfl)) ?_
        refine wl_gv (want_y rfl rfl rfl rfl (by rw [hg6_6]; rfl)) (x_nil (A := none) (tmP rfl rfl)) ?_
        refine wl_gv (want_y rfl rfl rfl rfl (by rw [hg6_6]; rfl)) (x_fa 0 Tryd.underlying38 rfl rfl ts_4 (tmP rfl rfl)) ?_
        refine wl_gv (want_y rfl rfl rfl rfl (by rw [hg6_6]; rfl)) (x_load Tryd.underlying4 rfl (tmP rfl rfl) (cellB hS.ok 0 rfl rfl)) ?_
        refine wl_v (x_pickT (tmB rfl rfl) hg6_6 (tmB rfl rfl)) ?_
        refine wl_v (x_assign (tmB rfl rfl)) ?_
        refine wl_nil ?_
        refine then_n (hK5 _ _ ?_); clear hK5 K5
        refine cnd (tm rfl) (fun hc3 => ?_) (fun hc3 => ?_)
        · skip
          all_goals
           try simp only [nrm] at hc3
           refine wp_seq_k ?_; intro K12 hK12
           refine wlit ?_
           refine wl_v (x_move (tmP rfl rfl)) ?_
           refine wl_v (x_move (tmS rfl rfl)) ?_
           refine wl_e rfl ?_; intro K hK
           refine ow_call Tryd.func75 rfl rfl (evs_cons (tmP rfl rfl) <| evs_cons (tmS rfl rfl) <| evs_nil) (carryICMP_c g i Pl.Z L cl x t er _ _ (hS.enter [0] [1] rfl rfl) hc hx h6 hls hld ht hP) ?_
           rintro e w ⟨U, cu, rfl, b1, hS2⟩
           refine ⟨_, rfl, ?_⟩
           replace b1 := fun b hb => Nat.le_trans hS.kp.size (b1 b hb)
           replace hS := hS.leave0 [0] rfl rfl rfl hS2 --ents g,vu
           clear hS2
           try replace hS := St.nm (M' := [_, .vw _ _]) hS rfl
           refine hK _ _ ?_; clear hK K
           refine wl_v (x_assign (tmI rfl rfl)) ?_
           refine wl_nil ?_
           refine then_n (hK12 _ _ ?_); clear hK12 K12
           refine wp_ret ?_
           refine inb_r ?_
           refine then_r ?_
           refine ret1 rfl (.tmp rfl (show _ = Value.int _ _ from rfl)) ?_
           first
             | (obtain ⟨six, stay, ttl, s, d, sp, dp, pr, T, D, I⟩ := i
                obtain rfl : T = Sg.Z := hT
                obtain rfl : D = Dg.Z := hD
                obtain rfl : I = Mg.Z := hI
                exact ⟨⟨none, 0, none, 0, none, 0, U, cu⟩, rfl, NewB.nil, NewB.nil, NewB.nil, b1, hS.nilv.nilv.nilv.pick [3, 0, 1, 2, 4] rfl rfl⟩)
             | (exfalso; rcases hpr with ⟨h1, h2⟩ | ⟨h1, h2⟩ <;> simp_all)
        all_goals
         try simp only [nrm] at hc3
         refine wp_skip ?_
         refine inb_n ?_
         refine then_n (hK2 _ _ ?_); clear hK2 K2
         refine wp_seq_k ?_; intro K13 hK13
         refine wlit ?_
         refine wl_v (x_assign (ev_cN 6)) ?_
         refine wl_nil ?_
         refine then_n (hK13 _ _ ?_); clear hK13 K13
         refine wp_ret ?_
         refine ret1 rfl (.tmp rfl (show _ = Value.int _ _ from rfl)) ?_
         first
           | (obtain ⟨six, stay, ttl, s, d, sp, dp, pr, T, D, I⟩ := i
              obtain rfl : T = Sg.Z := hT
              obtain rfl : D = Dg.Z := hD
              obtain rfl : I = Mg.Z := hI
              exact ⟨⟨none, 0, none, 0, none, 0, U, cu⟩, rfl, NewB.nil, NewB.nil, NewB.nil, b1, hS.nilv.nilv.nilv.pick [3, 0, 1, 2, 4] rfl rfl⟩)
           | (exfalso; rcases hpr with ⟨h1, h2⟩ | ⟨h1, h2⟩ <;> simp_all)
     have hg6_6' := hg6_6; (try simp only [nrm] at hg6_6'); try (exfalso; first | with_reducible exact absurd hg6_6 Bool.false_ne_true | with_reducible exact absurd hg6_6.symm Bool.false_ne_true | omega | (simp at hg6_6; done))
     all_goals
      refine wl_s rfl (want_n rfl rfl rfl rfl (by rw [hg6_6]; rfl)) ?_
      refine wl_s rfl (want_n rfl rfl rfl rfl (by rw [hg6_6]; rfl)) ?_
      refine wl_s rfl (want_n rfl rfl rfl rfl (by rw [hg6_6]; rfl)) ?_
      refine wl_s rfl (want_n rfl rfl rfl rfl (by rw [hg6_6]; rfl)) ?_
      refine wl_v (x_pickF (tmB rfl rfl) hg6_6 ev_c) ?_
      refine wl_v (x_assign (tmB rfl rfl)) ?_
      refine wl_nil ?_
      refine then_n (hK5 _ _ ?_); clear hK5 K5
      refine cnd_f (tmB rfl rfl) rfl ?_
      refine wp_skip ?_
      refine inb_n ?_
      refine then_n (hK2 _ _ ?_); clear hK2 K2
      refine wp_seq_k ?_; intro K14 hK14
      refine wlit ?_
      refine wl_v (x_assign (ev_cN 6)) ?_
      refine wl_nil ?_
      refine then_n (hK14 _ _ ?_); clear hK14 K14
      refine wp_ret ?_
      refine ret1 rfl (.tmp rfl (show _ = Value.int _ _ from rfl)) ?_
      first
        | (obtain ⟨six, stay, ttl, s, d, sp, dp, pr, T, D, I⟩ := i
           obtain rfl : T = Sg.Z := hT
           obtain rfl : D = Dg.Z := hD
           obtain rfl : I = Mg.Z := hI
           exact ⟨⟨none, 0, none, 0, none, 0, U, cu⟩, rfl, NewB.nil, NewB.nil, NewB.nil, b1, hS.nilv.nilv.nilv.pick [3, 0, 1, 2, 4] rfl rfl⟩)
        | (exfalso; rcases hpr with ⟨h1, h2⟩ | ⟨h1, h2⟩ <;> simp_all)
set_option maxRecDepth 100000 in
set_option maxHeartbeats 8000000 in
theorem carry_none (i : Inf) (hT : i.T = Sg.Z) (hD : i.D = Dg.Z) (hI : i.I = Mg.Z) (x : List Nat) (h6 : i.pr ≠ 6) (h17 : i.pr ≠ 17) (hpr : ¬ ((i.pr = 1 ∧ i.six = false) ∨ (i.pr = 58 ∧ i.six = true))) :
    CarP i x i 6 := fun g L cl F w0 hS hc => by
  refine ent (n := 54) Tryd.func44 rfl rfl ?_
  refine wp_seq_k ?_; intro K1 hK1
  refine wlit ?_
  refine wl_v (x_assign (ev_cN 0)) ?_
  refine wl_nil ?_
  refine then_n (hK1 _ _ ?_); clear hK1 K1
  refine wp_seq_k ?_; intro K2 hK2
  refine wp_block ?_
  refine wp_seq_k ?_; intro K3 hK3
  refine wlit ?_
  refine wl_v (x_move (tmP rfl rfl)) ?_
  refine wl_v (x_nil (A := none) (tmP rfl rfl)) ?_
  refine wl_v (x_fa 3 Tryd.underlying38 rfl rfl ts_29 (tmP rfl rfl)) ?_
  refine wl_v (x_fa 8 Tryd.underlying29 rfl rfl ts_5 (tmP rfl rfl)) ?_
  refine wl_v (x_load Tryd.underlying5 rfl (tmP rfl rfl) (cellB hS.ok 0 rfl rfl)) ?_
  refine wl_v (x_eql (tmI rfl rfl) (ev_cN 6)) ?_
  refine wl_v (x_assign (tmB rfl rfl)) ?_
  refine wl_nil ?_
  refine then_n (hK3 _ _ ?_); clear hK3 K3
  refine cnd (tm rfl) (fun hc0 => ?_) (fun hc0 => ?_)
  · exfalso
    first | omega | (simp at hc0; omega)
  all_goals
   try simp only [nrm] at hc0
   refine wp_seq_k ?_; intro K4 hK4
   refine wlit ?_
   refine wl_v (x_move (tmP rfl rfl)) ?_
   refine wl_v (x_nil (A := none) (tmP rfl rfl)) ?_
   refine wl_v (x_fa 3 Tryd.underlying38 rfl rfl ts_29 (tmP rfl rfl)) ?_
   refine wl_v (x_fa 8 Tryd.underlying29 rfl rfl ts_5 (tmP rfl rfl)) ?_
   refine wl_v (x_load Tryd.underlying5 rfl (tmP rfl rfl) (cellB hS.ok 0 rfl rfl)) ?_
   refine wl_v (x_eql (tmI rfl rfl) (ev_cN 17)) ?_
   refine wl_v (x_assign (tmB rfl rfl)) ?_
   refine wl_nil ?_
   refine then_n (hK4 _ _ ?_); clear hK4 K4
   refine cnd (tm rfl) (fun hc1 => ?_) (fun hc1 => ?_)
   · exfalso
     first | omega | (simp at hc1; omega)
   all_goals
    try simp only [nrm] at hc1
    refine wp_seq_k ?_; intro K5 hK5
    refine wp_seq_k ?_; intro K6 hK6
    refine wlit ?_
    refine wl_v (x_move (tmP rfl rfl)) ?_
    refine wl_v (x_nil (A := none) (tmP rfl rfl)) ?_
    refine wl_v (x_fa 3 Tryd.underlying38 rfl rfl ts_29 (tmP rfl rfl)) ?_
    refine wl_v (x_fa 8 Tryd.underlying29 rfl rfl ts_5 (tmP rfl rfl)) ?_
    refine wl_v (x_load Tryd.underlying5 rfl (tmP rfl rfl) (cellB hS.ok 0 rfl rfl)) ?_
    refine wl_v (x_eql (tmI rfl rfl) (ev_cN 1)) ?_
    refine wl_v (x_move (tmB rfl rfl)) ?_
    refine gs_wl (tm (t := 32) rfl) (fun hg5_6 => ?_) (fun hg5_6 => ?_)
    · have hg5_6' := hg5_6; (try simp only [nrm] at hg5_6')
      all_goals
       have h58 : i.pr ≠ 58 := by omega
       refine wl_gv (want_y rfl rfl rfl rfl (by rw [hg5_6]; rfl)) (x_move (tmP rfl rfl)) ?_
       refine wl_gv (want_y rfl rfl rfl rfl (by rw [hg5_6]; rfl)) (x_nil (A := none) (tmP rfl rfl)) ?_
       refine wl_gv (want_y rfl rfl rfl rfl (by rw [hg5_6]; rfl)) (x_fa 0 Tryd.underlying38 rfl rfl ts_4 (tmP rfl rfl)) ?_
       refine wl_gv (want_y rfl rfl rfl rfl (by rw [hg5_6]; rfl)) (x_load Tryd.underlying4 rfl (tmP rfl rfl) (cellB hS.ok 0 rfl rfl)) ?_
       refine wl_gv (want_y rfl rfl rfl rfl (by rw [hg5_6]; rfl)) (x_not (tmB rfl rfl)) ?_
       refine wl_v (x_pickT (tmB rfl rfl) hg5_6 (tmB rfl rfl)) ?_
       refine wl_v (x_assign (tmB rfl rfl)) ?_
       refine wl_nil ?_
       refine then_n (hK6 _ _ ?_); clear hK6 K6
       refine cnd (tm rfl) (fun hc2 => ?_) (fun hc2 => ?_)
       · exfalso
         exact hpr (.inl ⟨by first | assumption | omega | simp_all, by first | assumption | simp_all⟩)
       all_goals
        try simp only [nrm] at hc2
        refine wlit ?_
        refine wl_v (x_move (tmP rfl rfl)) ?_
        refine wl_v (x_nil (A := none) (tmP rfl rfl)) ?_
        refine wl_v (x_fa 3 Tryd.underlying38 rfl rfl ts_29 (tmP rfl rfl)) ?_
        refine wl_v (x_fa 8 Tryd.underlying29 rfl rfl ts_5 (tmP rfl rfl)) ?_
        refine wl_v (x_load Tryd.underlying5 rfl (tmP rfl rfl) (cellB hS.ok 0 rfl rfl)) ?_
        refine wl_v (x_eql (tmI rfl rfl) (ev_cN 58)) ?_
        refine wl_v (x_move (tmB rfl rfl)) ?_
        refine gs_wl (tm (t := 45) rfl) (fun hg6_6 => ?_) (fun hg6_6 => ?_)
        · have hg6_6' := hg6_6; (try simp only [nrm] at hg6_6'); try (exfalso; first | with_reducible exact absurd hg6_6 Bool.false_ne_true | with_reducible exact absurd hg6_6.symm Bool.false_ne_true | omega | (simp at hg6_6; done))
          all_goals
           refine wl_gv (want_y rfl rfl rfl rfl (by rw [hg6_6]; rfl)) (x_move (tmP rfl rfl)) ?_
           refine wl_gv (want_y rfl rfl rfl rfl (by rw [hg6_6]; rfl)) (x_nil (A := none) (tmP rfl rfl)) ?_
           refine wl_gv (want_y rfl rfl rfl rfl (by rw [hg6_6]; rfl)) (x_fa 0 Tryd.underlying38 rfl rfl ts_4 (tmP rfl rfl)) ?_
           first
            | refine wl_gv (want_y rfl rfl rfl rfl (by rw [hg6_6]; rfl)) (x_load Tryd.underlying4 rfl (tmP rfl rfl) (cellB hS.ok 0 rfl rfl)) ?_
            | refine wl_gv (want_y rfl rfl rfl rfl (by rw [hg6_6]; rfl)) (x_load Tryd.underlying4 rfl (tmP rfl rfl) (cellV hS.ok 1 rfl rfl)) ?_
            | refine wl_gv (want_y rfl rfl rfl rfl (by rw [hg6_6]; rfl)) (x_load Tryd.underlying4 rfl (tmP rfl rfl) (cellV hS.ok 1 rfl (getm (by omega)))) ?_
            | refine wl_gv (want_y rfl rfl rfl rfl (by rw [hg6_6]; rfl)) (x_load Tryd.underlying4 rfl (tmP rfl rfl) (cellVs hS.ok 1 rfl (fun _ => rfl) rfl (by omega) rfl)) ?_
           refine wl_v (x_pickT (tmB rfl rfl) hg6_6 (tmB rfl rfl)) ?_
           refine wl_v (x_assign (tmB rfl rfl)) ?_
           refine wl_nil ?_
           refine then_n (hK5 _ _ ?_); clear hK5 K5
           refine cnd (tm rfl) (fun hc3 => ?_) (fun hc3 => ?_)
           · exfalso
             exact hpr (.inr ⟨by first | assumption | omega | simp_all, by first | assumption | simp_all⟩)
           all_goals
            try simp only [nrm] at hc3
            refine wp_skip ?_
            refine inb_n ?_
            refine then_n (hK2 _ _ ?_); clear hK2 K2
            refine wp_seq_k ?_; intro K7 hK7
            refine wlit ?_
            refine wl_v (x_assign (ev_cN 6)) ?_
            refine wl_nil ?_
            refine then_n (hK7 _ _ ?_); clear hK7 K7
            refine wp_ret ?_
            refine ret1 rfl (.tmp rfl (show _ = Value.int _ _ from rfl)) ?_
            obtain ⟨six, stay, ttl, s, d, sp, dp, pr, T, D, I⟩ := i
            obtain rfl : T = Sg.Z := hT
            obtain rfl : D = Dg.Z := hD
            obtain rfl : I = Mg.Z := hI
            exact ⟨Pl.Z, rfl, NewB.nil, NewB.nil, NewB.nil, NewB.nil, (hS.pick [0] rfl rfl).nilv.nilv.nilv.nilv.pick [4, 0, 1, 2, 3] rfl rfl⟩
        have hg6_6' := hg6_6; (try simp only [nrm] at hg6_6')
        all_goals
         refine wl_s rfl (want_n rfl rfl rfl rfl (by rw [hg6_6]; rfl)) ?_
         refine wl_s rfl (want_n rfl rfl rfl rfl (by rw [hg6_6]; rfl)) ?_
         refine wl_s rfl (want_n rfl rfl rfl rfl (by rw [hg6_6]; rfl)) ?_
         refine wl_s rfl (want_n rfl rfl rfl rfl (by rw [hg6_6]; rfl)) ?_
         refine wl_v (x_pickF (tmB rfl rfl) hg6_6 ev_c) ?_
         refine wl_v (x_assign (tmB rfl rfl)) ?_
         refine wl_nil ?_
         refine then_n (hK5 _ _ ?_); clear hK5 K5
         refine cnd_f (tmB rfl rfl) rfl ?_
         refine wp_skip ?_
         refine inb_n ?_
         refine then_n (hK2 _ _ ?_); clear hK2 K2
         refine wp_seq_k ?_; intro K8 hK8
         refine wlit ?_
         refine wl_v (x_assign (ev_cN 6)) ?_
         refine wl_nil ?_
         refine then_n (hK8 _ _ ?_); clear hK8 K8
         refine wp_ret ?_
         refine ret1 rfl (.tmp rfl (show _ = Value.int _ _ from rfl)) ?_
         obtain ⟨six, stay, ttl, s, d, sp, dp, pr, T, D, I⟩ := i
         obtain rfl : T = Sg.Z := hT
         obtain rfl : D = Dg.Z := hD
         obtain rfl : I = Mg.Z := hI
         exact ⟨Pl.Z, rfl, NewB.nil, NewB.nil, NewB.nil, NewB.nil, (hS.pick [0] rfl rfl).nilv.nilv.nilv.nilv.pick [4, 0, 1, 2, 3] rfl rfl⟩
    have hg5_6' := hg5_6; (try simp only [nrm] at hg5_6')
    all_goals
     refine wl_s rfl (want_n rfl rfl rfl rfl (by rw [hg5_6]; rfl)) ?_
     refine wl_s rfl (want_n rfl rfl rfl rfl (by rw [hg5_6]; rfl)) ?_
     refine wl_s rfl (want_n rfl rfl rfl rfl (by rw [hg5_6]; rfl)) ?_
     refine wl_s rfl (want_n rfl rfl rfl rfl (by rw [hg5_6]; rfl)) ?_
     refine wl_s rfl (want_n rfl rfl rfl rfl (by rw [hg5_6]; rfl)) ?_
     refine wl_v (x_pickF (tmB rfl rfl) hg5_6 ev_c) ?_
     refine wl_v (x_assign (tmB rfl rfl)) ?_
     refine wl_nil ?_
     refine then_n (hK6 _ _ ?_); clear hK6 K6
     refine cnd_f (tmB rfl rfl) rfl ?_
     refine wlit ?_
     refine wl_v (x_move (tmP rfl rfl)) ?_
     refine wl_v (x_nil (A := none) (tmP rfl rfl)) ?_
     refine wl_v (x_fa 3 Tryd.underlying38 rfl rfl ts_29 (tmP rfl rfl)) ?_
     refine wl_v (x_fa 8 Tryd.underlying29 rfl rfl ts_5 (tmP rfl rfl)) ?_
     refine wl_v (x_load Tryd.underlying5 rfl (tmP rfl rfl) (cellB hS.ok 0 rfl rfl)) ?_
     refine wl_v (x_eql (tmI rfl rfl) (ev_cN 58)) ?_
     refine wl_v (x_move (tmB rfl rfl)) ?_
     refine gs_wl (tm (t := 45) rfl) (fun hg6_6 => ?_) (fun hg6_6 => ?_)
     · have hg6_6' := hg6_6; (try simp only [nrm] at hg6_6')
       all_goals
        refine wl_gv (want_y rfl rfl rfl rfl (by rw [hg6_6]; rfl)) (x_move (tmP rfl rfl)) ?_
        refine wl_gv (want_y rfl rfl rfl rfl (by rw [hg6_6]; rfl)) (x_nil (A := none) (tmP rfl rfl)) ?_
        refine wl_gv (want_y rfl rfl rfl rfl (by rw [hg6_6]; rfl)) (x_fa 0 Tryd.underlying38 rfl rfl ts_4 (tmP rfl rfl)) ?_
        refine wl_gv (want_y rfl rfl rfl rfl (by rw [hg6_6]; rfl)) (x_load Tryd.underlying4 rfl (tmP rfl rfl) (cellB hS.ok 0 rfl rfl)) ?_
        refine wl_v (x_pickT (tmB rfl rfl) hg6_6 (tmB rfl rfl)) ?_
        refine wl_v (x_assign (tmB rfl rfl)) ?_
        refine wl_nil ?_
        refine then_n (hK5 _ _ ?_); clear hK5 K5
        refine cnd (tm rfl) (fun hc3 => ?_) (fun hc3 => ?_)
        · exfalso
          exact hpr (.inr ⟨by first | assumption | omega | simp_all, by first | assumption | simp_all⟩)
        all_goals
         try simp only [nrm] at hc3
         refine wp_skip ?_
         refine inb_n ?_
         refine then_n (hK2 _ _ ?_); clear hK2 K2
         refine wp_seq_k ?_; intro K9 hK9
         refine wlit ?_
         refine wl_v (x_assign (ev_cN 6)) ?_
         refine wl_nil ?_
         refine then_n (hK9 _ _ ?_); clear hK9 K9
         refine wp_ret ?_
         refine ret1 rfl (.tmp rfl (show _ = Value.int _ _ from rfl)) ?_
         obtain ⟨six, stay, ttl, s, d, sp, dp, pr, T, D, I⟩ := i
         obtain rfl : T = Sg.Z := hT
         obtain rfl : D = Dg.Z := hD
         obtain rfl : I = Mg.Z := hI
         exact ⟨Pl.Z, rfl, NewB.nil, NewB.nil, NewB.nil, NewB.nil, (hS.pick [0] rfl rfl).nilv.nilv.nilv.nilv.pick [4, 0, 1, 2, 3] rfl rfl⟩
     have hg6_6' := hg6_6; (try simp only [nrm] at hg6_6')
     all_goals
      refine wl_s rfl (want_n rfl rfl rfl rfl (by rw [hg6_6]; rfl)) ?_
      refine wl_s rfl (want_n rfl rfl rfl rfl (by rw [hg6_6]; rfl)) ?_
      refine wl_s rfl (want_n rfl rfl rfl rfl (by rw [hg6_6]; rfl)) ?_
      refine wl_s rfl (want_n rfl rfl rfl rfl (by rw [hg6_6]; rfl)) ?_
      refine wl_v (x_pickF (tmB rfl rfl) hg6_6 ev_c) ?_
      refine wl_v (x_assign (tmB rfl rfl)) ?_
      refine wl_nil ?_
      refine then_n (hK5 _ _ ?_); clear hK5 K5
      refine cnd_f (tmB rfl rfl) rfl ?_
      refine wp_skip ?_
      refine inb_n ?_
      refine then_n (hK2 _ _ ?_); clear hK2 K2
      refine wp_seq_k ?_; intro K10 hK10
      refine wlit ?_
      refine wl_v (x_assign (ev_cN 6)) ?_
      refine wl_nil ?_
      refine then_n (hK10 _ _ ?_); clear hK10 K10
      refine wp_ret ?_
      refine ret1 rfl (.tmp rfl (show _ = Value.int _ _ from rfl)) ?_
      obtain ⟨six, stay, ttl, s, d, sp, dp, pr, T, D, I⟩ := i
      obtain rfl : T = Sg.Z := hT
      obtain rfl : D = Dg.Z := hD
      obtain rfl : I = Mg.Z := hI
      exact ⟨Pl.Z, rfl, NewB.nil, NewB.nil, NewB.nil, NewB.nil, (hS.pick [0] rfl rfl).nilv.nilv.nilv.nilv.pick [4, 0, 1, 2, 3] rfl rfl⟩
/-- What reading answers. -/
def outI (least : Nat) (i i' : Inf) (why why2 : Int) : Inf := if why ≠ 0 then Inf.Z else if i.ttl < least then Inf.Z else if why2 ≠ 0 then Inf.Z else i'
def outW (least : Nat) (i : Inf) (why why2 : Int) : Int := if why ≠ 0 then why else if i.ttl < least then 5 else why2
def GiP (fn : Nat) (as_ : List Value) (l : List Nat) (i : Inf) (why : Int) : Prop := ∀ (w : World) (A : Option Addr) (c : Nat), View w w.heap.size A (l.map u8v) → l.length ≤ c →
  Calls Tryd.prog fn (.slice A l.length c :: as_).toArray w fun e w' => ∃ (p : Pl), e = .returned (.tuple #[.agg (i.V p).toArray, .int .i64 why]) ∧ NewV w w' p.O (i.T.o.map u8v) ∧ NewV w w' p.X (i.T.x.map u8v) ∧ NewV w w' p.U (i.D.x.map u8v) ∧ NewV w w' p.M (i.I.x.map u8v) ∧ Kp [] w w'
theorem GiP.z {w w' : World} : NewV w w' Pl.Z.O (Inf.Z.T.o.map u8v) ∧ NewV w w' Pl.Z.X (Inf.Z.T.x.map u8v) ∧ NewV w w' Pl.Z.U (Inf.Z.D.x.map u8v) ∧ NewV w w' Pl.Z.M (Inf.Z.I.x.map u8v) := ⟨newV_nil w w', newV_nil w w', newV_nil w w', newV_nil w w'⟩
theorem out1 {least : Nat} {i i' : Inf} {why why2 : Int} (h : why ≠ 0) : outI least i i' why why2 = Inf.Z ∧ outW least i why why2 = why := ⟨if_pos h, if_pos h⟩
theorem out2 {least : Nat} {i i' : Inf} {why why2 : Int} (h : why = 0) (ht : i.ttl < least) : outI least i i' why why2 = Inf.Z ∧ outW least i why why2 = 5 := by
  unfold outI outW
  rw [if_neg (by omega), if_pos ht, if_neg (by omega), if_pos ht]; exact ⟨rfl, rfl⟩
theorem out3 {least : Nat} {i i' : Inf} {why why2 : Int} (h : why = 0) (ht : ¬ i.ttl < least) (h2 : why2 ≠ 0) : outI least i i' why why2 = Inf.Z ∧ outW least i why why2 = why2 := by
  unfold outI outW
  rw [if_neg (by omega), if_neg ht, if_pos h2, if_neg (by omega), if_neg ht]; exact ⟨rfl, rfl⟩
theorem out4 {least : Nat} {i i' : Inf} {why why2 : Int} (h : why = 0) (ht : ¬ i.ttl < least) (h2 : why2 = 0) : outI least i i' why why2 = i' ∧ outW least i why why2 = 0 := by
  unfold outI outW
  rw [if_neg (by omega), if_neg ht, if_neg (by omega), if_neg (by omega), if_neg ht, h2]; exact ⟨rfl, rfl⟩
set_option maxRecDepth 100000 in
set_option maxHeartbeats 8000000 in
theorem pread_c (least : Nat) (l : List Nat) (i i' : Inf) (x : List Nat) (why why2 : Int) (hH : HdP 43 l i x why) (hC : CarP i x i' why2) :
    GiP 19 [.int .u8 (least : Int)] l (outI least i i' why why2) (outW least i why why2) := fun w0 A c hv hc => by
  have hS := (St.sv w0).vcons rfl hv
  refine ent (n := 32) Tryd.func19 rfl rfl ?_
  refine wp_seq_k ?_; intro K1 hK1
  refine wlit ?_
  refine wl_e rfl ?_; intro K hK
  refine ow_alloc hS tz_38 rfl ?_
  clear hS; intro g0_0 w hg0_0 hS
  refine hK _ _ ?_; clear hK K
  refine wl_v (x_assign (ev_cN 0)) ?_
  refine wl_nil ?_
  refine then_n (hK1 _ _ ?_); clear hK1 K1
  refine wp_seq_k ?_; intro K2 hK2
  refine wlit ?_
  refine wl_v (x_move (tmS rfl rfl)) ?_
  refine wl_e rfl ?_; intro K hK
  refine ow_call Tryd.func43 rfl rfl (evs_cons (tmS rfl rfl) <| evs_nil) (hH _ A c (viewV hS.ok 1 rfl) hc) ?_
  rintro e w ⟨i0, x0, L, cl, hi, hcl, rfl, hn, hk⟩
  refine ⟨_, rfl, ?_⟩
  replace hS := hS.addn hk hn -- +vx
  clear hn hk
  refine hK _ _ ?_; clear hK K
  refine wl_v (x_move (tmT rfl rfl)) ?_
  refine wl_v (x_ext (tmT rfl rfl) rfl) ?_
  refine wl_v (x_ext (tmT rfl rfl) rfl) ?_
  refine wl_v (x_ext (tmT rfl rfl) rfl) ?_
  refine wl_e rfl ?_; intro K hK
  refine ow_alloc hS tz_38 rfl ?_
  clear hS; intro g1_6 w hg1_6 hS
  refine hK _ _ ?_; clear hK K
  refine wl_e rfl ?_; intro K hK
  refine ow_storeA hS 0 rfl ts_38 (tmP rfl rfl) (tmA rfl rfl) rfl rfl rfl ?_
  clear hS; intro w hS
  try replace hS := St.nm (M' := [.blk _ _ [_, _, _, _, _, _, _, _, _, _, _, _, _, _, _, _, _, _, _, _, _, _, _, _, _, _, _, _, _, _, _], .vw _ _, .blk _ _ [_, _, _, _, _, _, _, _, _, _, _, _, _, _, _, _, _, _, _, _, _, _, _, _, _, _, _, _, _, _, _], .vw _ _]) hS rfl
  refine hK _ _ ?_; clear hK K
  refine wl_v (x_assign (tmS rfl rfl)) ?_
  refine wl_v (x_assign (tmI rfl rfl)) ?_
  refine wl_nil ?_
  refine then_n (hK2 _ _ ?_); clear hK2 K2
  refine wp_seq_k ?_; intro K3 hK3
  refine wp_seq_k ?_; intro K4 hK4
  refine wlit ?_
  refine wl_v (x_move (tmI rfl rfl)) ?_
  refine wl_v (x_eql (tmI rfl rfl) (ev_cN 0)) ?_
  refine wl_v (x_move (tmB rfl rfl)) ?_
  refine gs_wl (tm (t := 17) rfl) (fun hg2_2 => ?_) (fun hg2_2 => ?_)
  · have hg2_2' := hg2_2; (try simp only [nrm] at hg2_2')
    all_goals
     refine wl_gv (want_y rfl rfl rfl rfl (by rw [hg2_2]; rfl)) (x_fa 2 Tryd.underlying38 rfl rfl ts_5 (tmP rfl rfl)) ?_
     refine wl_gv (want_y rfl rfl rfl rfl (by rw [hg2_2]; rfl)) (x_load Tryd.underlying5 rfl (tmP rfl rfl) (cellB hS.ok 0 rfl rfl)) ?_
     refine wl_gv (want_y rfl rfl rfl rfl (by rw [hg2_2]; rfl)) (x_move (tmI rfl rfl)) ?_
     refine wl_gv (want_y rfl rfl rfl rfl (by rw [hg2_2]; rfl)) (x_lss (tmI rfl rfl) (tmI rfl rfl)) ?_
     refine wl_v (x_pickT (tmB rfl rfl) hg2_2 (tmB rfl rfl)) ?_
     refine wl_nil ?_
     refine then_n (hK4 _ _ ?_); clear hK4 K4
     refine cnd (tm rfl) (fun hc0 => ?_) (fun hc0 => ?_)
     · skip
       all_goals
        try simp only [nrm] at hc0
        refine wlit ?_
        refine wl_v (x_assign (ev_cN 5)) ?_
        refine wl_nil ?_
        refine then_n (hK3 _ _ ?_); clear hK3 K3
        refine wp_seq_k ?_; intro K5 hK5
        refine wp_seq_k ?_; intro K6 hK6
        refine wlit ?_
        refine wl_v (x_move (tmI rfl rfl)) ?_
        refine wl_v (x_eql (tmI rfl rfl) (ev_cN 0)) ?_
        refine wl_nil ?_
        refine then_n (hK6 _ _ ?_); clear hK6 K6
        refine cnd (tm rfl) (fun hc1 => ?_) (fun hc1 => ?_)
        · try (exfalso; first | with_reducible exact absurd hc1 Bool.false_ne_true | with_reducible exact absurd hc1.symm Bool.false_ne_true | (simp only [nrm] at hc1; omega) | (simp at hc1; done))
          all_goals
           try simp only [nrm] at hc1
           have h0 : why = 0 := by first | omega | (simp at hc1; omega)
           obtain ⟨rfl, rfl⟩ := hi h0
           have htl : ¬ i0.ttl < least := by first | omega | (simp at hc0; omega)
           refine wlit ?_
           refine wl_v (x_move (tmS rfl rfl)) ?_
           refine wl_e rfl ?_; intro K hK
           refine ow_call Tryd.func44 rfl rfl (evs_cons (tmP rfl rfl) <| evs_cons (tmS rfl rfl) <| evs_nil) (hC g1_6 L cl _ _ (hS.enter [0] [1] rfl rfl) hcl) ?_
           rintro e w ⟨p, rfl, b1, b2, b3, b4, hS2⟩
           refine ⟨_, rfl, ?_⟩
           have d1 : NewB w0 p.O i'.T.o := fun b hb => Nat.le_trans hS.kp.size (b1 b hb)
           have d2 : NewB w0 p.X i'.T.x := fun b hb => Nat.le_trans hS.kp.size (b2 b hb)
           have d3 : NewB w0 p.U i'.D.x := fun b hb => Nat.le_trans hS.kp.size (b3 b hb)
           have d4 : NewB w0 p.M i'.I.x := fun b hb => Nat.le_trans hS.kp.size (b4 b hb)
           replace hS := hS.leave4 0 [2] rfl rfl rfl hS2 rfl b1 b2 b3 b4 --ents v1,v2,v3,v4,g1_6,g0_0
           clear hS2 b1 b2 b3 b4
           try replace hS := St.nm (M' := [.vw _ _, .vw _ _, .vw _ _, .vw _ _, .blk _ _ [_, _, _, _, _, _, _, _, _, _, _, _, _, _, _, _, _, _, _, _, _, _, _, _, _, _, _, _, _, _, _], .blk _ _ [_, _, _, _, _, _, _, _, _, _, _, _, _, _, _, _, _, _, _, _, _, _, _, _, _, _, _, _, _, _, _]]) hS rfl
           refine hK _ _ ?_; clear hK K
           refine wl_v (x_assign (tmI rfl rfl)) ?_
           refine wl_nil ?_
           refine then_n (hK5 _ _ ?_); clear hK5 K5
           refine wp_seq_k ?_; intro K7 hK7
           refine wp_seq_k ?_; intro K8 hK8
           refine wlit ?_
           refine wl_v (x_move (tmI rfl rfl)) ?_
           refine wl_v (x_neq (tmI rfl rfl) (ev_cN 0)) ?_
           refine wl_nil ?_
           refine then_n (hK8 _ _ ?_); clear hK8 K8
           refine cnd (tm rfl) (fun hc2 => ?_) (fun hc2 => ?_)
           · skip
             all_goals
              try simp only [nrm] at hc2
              refine wp_seq_k ?_; intro K9 hK9
              refine wlit ?_
              refine wl_v (x_build (bc_skip (.bool false) <| bc_skip (.bool false) <| bc_skip (.int .u8 0) <| bc_skipL [.bool false, .int .u64 0, .int .u64 0, .bool false, .int .u64 0, .int .u64 0, .int .u16 0, .int .u16 0, .int .u8 0] <| bc_skipL [.int .u16 0, .int .u16 0, .int .u32 0, .int .u32 0, .int .u8 0, .int .u16 0, .int .u16 0, .int .u16 0, .slice none 0 0, .slice none 0 0] <| bc_skipL [.int .u16 0, .int .u16 0, .int .u16 0, .slice none 0 0] <| bc_skipL [.int .u8 0, .int .u8 0, .int .u16 0, .int .u32 0, .slice none 0 0] <| bc_nil) (by kernel_rfl)) ?_
              refine wl_v (x_move (tmI rfl rfl)) ?_
              refine wl_e rfl ?_; intro K hK
              refine ow_storeA hS 5 rfl ts_38 (tmP rfl rfl) (tmA rfl rfl) rfl rfl rfl ?_
              clear hS; intro w hS
              try replace hS := St.nm (M' := [.vw _ _, .vw _ _, .vw _ _, .vw _ _, .blk _ _ [_, _, _, _, _, _, _, _, _, _, _, _, _, _, _, _, _, _, _, _, _, _, _, _, _, _, _, _, _, _, _], .blk _ _ [_, _, _, _, _, _, _, _, _, _, _, _, _, _, _, _, _, _, _, _, _, _, _, _, _, _, _, _, _, _, _]]) hS rfl
              refine hK _ _ ?_; clear hK K
              refine wl_v (x_assign (tmI rfl rfl)) ?_
              refine wl_nil ?_
              refine then_n (hK9 _ _ ?_); clear hK9 K9
              refine wp_ret ?_
              refine then_r ?_
              refine ret2 rfl (.cell rfl rfl (load_rowB (cs := [_, _, _, _, _, _, _, _, _, _, _, _, _, _, _, _, _, _, _, _, _, _, _, _, _, _, _, _, _, _, _]) hS.ok 5 rfl Tryd.underlying38 rfl ts_38 rfl)) (.tmp rfl (show _ = Value.int _ _ from rfl)) ?_
              have hz := GiP.z (w := w0) (w' := w)
              first
                | (obtain ⟨e1, e2⟩ := out2 (least := least) (i := i) (i' := i') (why := why) (why2 := why2) (by first | omega | (simp at hg2_2; omega)) (by first | (rw [← (hi (by omega)).1]; omega) | omega)
                   rw [e1, e2]
                   exact ⟨Pl.Z, rfl, hz.1, hz.2.1, hz.2.2.1, hz.2.2.2, hS.kp⟩)
                | (obtain ⟨e1, e2⟩ := out4 (least := least) (i' := i') h0 htl (by first | omega | (simp at hc2; omega))
                   rw [e1, e2]
                   exact ⟨p, rfl, ⟨viewV hS.ok 0 rfl, d1⟩, ⟨viewV hS.ok 1 rfl, d2⟩, ⟨viewV hS.ok 2 rfl, d3⟩, ⟨viewV hS.ok 3 rfl, d4⟩, hS.kp⟩)
                | (obtain ⟨e1, e2⟩ := out3 (least := least) (i' := i') h0 htl (by first | omega | (simp at hc2; omega))
                   rw [e1, e2]
                   exact ⟨Pl.Z, rfl, hz.1, hz.2.1, hz.2.2.1, hz.2.2.2, hS.kp⟩)
                | (obtain ⟨e1, e2⟩ := out1 (least := least) (i := i) (i' := i') (why := why) (why2 := why2) (by first | omega | (simp at hc2; omega))
                   rw [e1, e2]
                   exact ⟨Pl.Z, rfl, hz.1, hz.2.1, hz.2.2.1, hz.2.2.2, hS.kp⟩)
           all_goals
            try simp only [nrm] at hc2
            refine wp_skip ?_
            refine then_n (hK7 _ _ ?_); clear hK7 K7
            refine wp_seq_k ?_; intro K11 hK11
            refine wlit ?_
            refine wl_v (x_loadA (cs := [_, _, _, _, _, _, _, _, _, _, _, _, _, _, _, _, _, _, _, _, _, _, _, _, _, _, _, _, _, _, _]) Tryd.underlying38 rfl ts_38 (tmP rfl rfl) (rangeB hS.ok 4 rfl rfl)) ?_
            refine wl_e rfl ?_; intro K hK
            refine ow_storeA hS 5 rfl ts_38 (tmP rfl rfl) (tmA rfl rfl) rfl rfl rfl ?_
            clear hS; intro w hS
            try replace hS := St.nm (M' := [.vw _ _, .vw _ _, .vw _ _, .vw _ _, .blk _ _ [_, _, _, _, _, _, _, _, _, _, _, _, _, _, _, _, _, _, _, _, _, _, _, _, _, _, _, _, _, _, _], .blk _ _ [_, _, _, _, _, _, _, _, _, _, _, _, _, _, _, _, _, _, _, _, _, _, _, _, _, _, _, _, _, _, _]]) hS rfl
            refine hK _ _ ?_; clear hK K
            refine wl_v (x_assign (ev_cN 0)) ?_
            refine wl_nil ?_
            refine then_n (hK11 _ _ ?_); clear hK11 K11
            refine wp_ret ?_
            refine ret2 rfl (.cell rfl rfl (load_rowB (cs := [_, _, _, _, _, _, _, _, _, _, _, _, _, _, _, _, _, _, _, _, _, _, _, _, _, _, _, _, _, _, _]) hS.ok 5 rfl Tryd.underlying38 rfl ts_38 rfl)) (.tmp rfl (show _ = Value.int _ _ from rfl)) ?_
            have hz := GiP.z (w := w0) (w' := w)
            first
              | (obtain ⟨e1, e2⟩ := out2 (least := least) (i := i) (i' := i') (why := why) (why2 := why2) (by first | omega | (simp at hg2_2; omega)) (by first | (rw [← (hi (by omega)).1]; omega) | omega)
                 rw [e1, e2]
                 exact ⟨Pl.Z, rfl, hz.1, hz.2.1, hz.2.2.1, hz.2.2.2, hS.kp⟩)
              | (obtain ⟨e1, e2⟩ := out4 (least := least) (i' := i') h0 htl (by first | omega | (simp at hc2; omega))
                 rw [e1, e2]
                 exact ⟨p, rfl, ⟨viewV hS.ok 0 rfl, d1⟩, ⟨viewV hS.ok 1 rfl, d2⟩, ⟨viewV hS.ok 2 rfl, d3⟩, ⟨viewV hS.ok 3 rfl, d4⟩, hS.kp⟩)
              | (obtain ⟨e1, e2⟩ := out3 (least := least) (i' := i') h0 htl (by first | omega | (simp at hc2; omega))
                 rw [e1, e2]
                 exact ⟨Pl.Z, rfl, hz.1, hz.2.1, hz.2.2.1, hz.2.2.2, hS.kp⟩)
              | (obtain ⟨e1, e2⟩ := out1 (least := least) (i := i) (i' := i') (why := why) (why2 := why2) (by first | omega | (simp at hc2; omega))
                 rw [e1, e2]
                 exact ⟨Pl.Z, rfl, hz.1, hz.2.1, hz.2.2.1, hz.2.2.2, hS.kp⟩)
        all_goals
         try simp only [nrm] at hc1
         refine wp_skip ?_
         refine then_n (hK5 _ _ ?_); clear hK5 K5
         refine wp_seq_k ?_; intro K13 hK13
         refine wp_seq_k ?_; intro K14 hK14
         refine wlit ?_
         refine wl_v (x_move (tmI rfl rfl)) ?_
         refine wl_v (x_neq (tmI rfl rfl) (ev_cN 0)) ?_
         refine wl_nil ?_
         refine then_n (hK14 _ _ ?_); clear hK14 K14
         refine cnd (tm rfl) (fun hc2 => ?_) (fun hc2 => ?_)
         · skip
           all_goals
            try simp only [nrm] at hc2
            refine wp_seq_k ?_; intro K15 hK15
            refine wlit ?_
            refine wl_v (x_build (bc_skip (.bool false) <| bc_skip (.bool false) <| bc_skip (.int .u8 0) <| bc_skipL [.bool false, .int .u64 0, .int .u64 0, .bool false, .int .u64 0, .int .u64 0, .int .u16 0, .int .u16 0, .int .u8 0] <| bc_skipL [.int .u16 0, .int .u16 0, .int .u32 0, .int .u32 0, .int .u8 0, .int .u16 0, .int .u16 0, .int .u16 0, .slice none 0 0, .slice none 0 0] <| bc_skipL [.int .u16 0, .int .u16 0, .int .u16 0, .slice none 0 0] <| bc_skipL [.int .u8 0, .int .u8 0, .int .u16 0, .int .u32 0, .slice none 0 0] <| bc_nil) (by kernel_rfl)) ?_
            refine wl_v (x_move (tmI rfl rfl)) ?_
            refine wl_e rfl ?_; intro K hK
            refine ow_storeA hS 2 rfl ts_38 (tmP rfl rfl) (tmA rfl rfl) rfl rfl rfl ?_
            clear hS; intro w hS
            try replace hS := St.nm (M' := [.blk _ _ [_, _, _, _, _, _, _, _, _, _, _, _, _, _, _, _, _, _, _, _, _, _, _, _, _, _, _, _, _, _, _], .vw _ _, .blk _ _ [_, _, _, _, _, _, _, _, _, _, _, _, _, _, _, _, _, _, _, _, _, _, _, _, _, _, _, _, _, _, _], .vw _ _]) hS rfl
            refine hK _ _ ?_; clear hK K
            refine wl_v (x_assign (tmI rfl rfl)) ?_
            refine wl_nil ?_
            refine then_n (hK15 _ _ ?_); clear hK15 K15
            refine wp_ret ?_
            refine then_r ?_
            refine ret2 rfl (.cell rfl rfl (load_rowB (cs := [_, _, _, _, _, _, _, _, _, _, _, _, _, _, _, _, _, _, _, _, _, _, _, _, _, _, _, _, _, _, _]) hS.ok 2 rfl Tryd.underlying38 rfl ts_38 rfl)) (.tmp rfl (show _ = Value.int _ _ from rfl)) ?_
            have hz := GiP.z (w := w0) (w' := w)
            first
              | (obtain ⟨e1, e2⟩ := out2 (least := least) (i := i) (i' := i') (why := why) (why2 := why2) (by first | omega | (simp at hg2_2; omega)) (by first | (rw [← (hi (by omega)).1]; omega) | omega)
                 rw [e1, e2]
                 exact ⟨Pl.Z, rfl, hz.1, hz.2.1, hz.2.2.1, hz.2.2.2, hS.kp⟩)
              | (obtain ⟨e1, e2⟩ := out4 (least := least) (i' := i') h0 htl (by first | omega | (simp at hc2; omega))
                 rw [e1, e2]
                 exact ⟨p, rfl, ⟨viewV hS.ok (no_label_v1) rfl, d1⟩, ⟨viewV hS.ok (no_label_v2) rfl, d2⟩, ⟨viewV hS.ok (no_label_v3) rfl, d3⟩, ⟨viewV hS.ok (no_label_v4) rfl, d4⟩, hS.kp⟩)
              | (obtain ⟨e1, e2⟩ := out3 (least := least) (i' := i') h0 htl (by first | omega | (simp at hc2; omega))
                 rw [e1, e2]
                 exact ⟨Pl.Z, rfl, hz.1, hz.2.1, hz.2.2.1, hz.2.2.2, hS.kp⟩)
              | (obtain ⟨e1, e2⟩ := out1 (least := least) (i := i) (i' := i') (why := why) (why2 := why2) (by first | omega | (simp at hc2; omega))
                 rw [e1, e2]
                 exact ⟨Pl.Z, rfl, hz.1, hz.2.1, hz.2.2.1, hz.2.2.2, hS.kp⟩)
         try (exfalso; first | with_reducible exact absurd hc2 Bool.false_ne_true | with_reducible exact absurd hc2.symm Bool.false_ne_true | (simp only [nrm] at hc2; omega) | (simp at hc2; done))
         all_goals
          try simp only [nrm] at hc2
          refine wp_skip ?_
          refine then_n (hK13 _ _ ?_); clear hK13 K13
          refine wp_seq_k ?_; intro K17 hK17
          refine wlit ?_
          refine wl_v (x_loadA (cs := [_, _, _, _, _, _, _, _, _, _, _, _, _, _, _, _, _, _, _, _, _, _, _, _, _, _, _, _, _, _, _]) Tryd.underlying38 rfl ts_38 (tmP rfl rfl) (rangeB hS.ok 0 rfl rfl)) ?_
          refine wl_e rfl ?_; intro K hK
          refine ow_storeA hS 2 rfl ts_38 (tmP rfl rfl) (tmA rfl rfl) rfl rfl rfl ?_
          clear hS; intro w hS
          try replace hS := St.nm (M' := [.blk _ _ [_, _, _, _, _, _, _, _, _, _, _, _, _, _, _, _, _, _, _, _, _, _, _, _, _, _, _, _, _, _, _], .vw _ _, .blk _ _ [_, _, _, _, _, _, _, _, _, _, _, _, _, _, _, _, _, _, _, _, _, _, _, _, _, _, _, _, _, _, _], .vw _ _]) hS rfl
          refine hK _ _ ?_; clear hK K
          refine wl_v (x_assign (ev_cN 0)) ?_
          refine wl_nil ?_
          refine then_n (hK17 _ _ ?_); clear hK17 K17
          refine wp_ret ?_
          refine ret2 rfl (.cell rfl rfl (load_rowB (cs := [_, _, _, _, _, _, _, _, _, _, _, _, _, _, _, _, _, _, _, _, _, _, _, _, _, _, _, _, _, _, _]) hS.ok 2 rfl Tryd.underlying38 rfl ts_38 rfl)) (.tmp rfl (show _ = Value.int _ _ from rfl)) ?_
          have hz := GiP.z (w := w0) (w' := w)
          first
            | (obtain ⟨e1, e2⟩ := out2 (least := least) (i := i) (i' := i') (why := why) (why2 := why2) (by first | omega | (simp at hg2_2; omega)) (by first | (rw [← (hi (by omega)).1]; omega) | omega)
               rw [e1, e2]
               exact ⟨Pl.Z, rfl, hz.1, hz.2.1, hz.2.2.1, hz.2.2.2, hS.kp⟩)
            | (obtain ⟨e1, e2⟩ := out4 (least := least) (i' := i') h0 htl (by first | omega | (simp at hc2; omega))
               rw [e1, e2]
               exact ⟨p, rfl, ⟨viewV hS.ok (no_label_v1) rfl, d1⟩, ⟨viewV hS.ok (no_label_v2) rfl, d2⟩, ⟨viewV hS.ok (no_label_v3) rfl, d3⟩, ⟨viewV hS.ok (no_label_v4) rfl, d4⟩, hS.kp⟩)
            | (obtain ⟨e1, e2⟩ := out3 (least := least) (i' := i') h0 htl (by first | omega | (simp at hc2; omega))
               rw [e1, e2]
               exact ⟨Pl.Z, rfl, hz.1, hz.2.1, hz.2.2.1, hz.2.2.2, hS.kp⟩)
            | (obtain ⟨e1, e2⟩ := out1 (least := least) (i := i) (i' := i') (why := why) (why2 := why2) (by first | omega | (simp at hc2; omega))
               rw [e1, e2]
               exact ⟨Pl.Z, rfl, hz.1, hz.2.1, hz.2.2.1, hz.2.2.2, hS.kp⟩)
     all_goals
      try simp only [nrm] at hc0
      refine wp_skip ?_
      refine then_n (hK3 _ _ ?_); clear hK3 K3
      refine wp_seq_k ?_; intro K19 hK19
      refine wp_seq_k ?_; intro K20 hK20
      refine wlit ?_
      refine wl_v (x_move (tmI rfl rfl)) ?_
      refine wl_v (x_eql (tmI rfl rfl) (ev_cN 0)) ?_
      refine wl_nil ?_
      refine then_n (hK20 _ _ ?_); clear hK20 K20
      refine cnd (tm rfl) (fun hc1 => ?_) (fun hc1 => ?_)
      · skip
        all_goals
         try simp only [nrm] at hc1
         have h0 : why = 0 := by first | omega | (simp at hc1; omega)
         obtain ⟨rfl, rfl⟩ := hi h0
         have htl : ¬ i0.ttl < least := by first | omega | (simp at hc0; omega)
         refine wlit ?_
         refine wl_v (x_move (tmS rfl rfl)) ?_
         refine wl_e rfl ?_; intro K hK
         refine ow_call Tryd.func44 rfl rfl (evs_cons (tmP rfl rfl) <| evs_cons (tmS rfl rfl) <| evs_nil) (hC g1_6 L cl _ _ (hS.enter [0] [1] rfl rfl) hcl) ?_
         rintro e w ⟨p, rfl, b1, b2, b3, b4, hS2⟩
         refine ⟨_, rfl, ?_⟩
         have d1 : NewB w0 p.O i'.T.o := fun b hb => Nat.le_trans hS.kp.size (b1 b hb)
         have d2 : NewB w0 p.X i'.T.x := fun b hb => Nat.le_trans hS.kp.size (b2 b hb)
         have d3 : NewB w0 p.U i'.D.x := fun b hb => Nat.le_trans hS.kp.size (b3 b hb)
         have d4 : NewB w0 p.M i'.I.x := fun b hb => Nat.le_trans hS.kp.size (b4 b hb)
         replace hS := hS.leave4 0 [2] rfl rfl rfl hS2 rfl b1 b2 b3 b4 --ents v1,v2,v3,v4,g1_6,g0_0
         clear hS2 b1 b2 b3 b4
         try replace hS := St.nm (M' := [.vw _ _, .vw _ _, .vw _ _, .vw _ _, .blk _ _ [_, _, _, _, _, _, _, _, _, _, _, _, _, _, _, _, _, _, _, _, _, _, _, _, _, _, _, _, _, _, _], .blk _ _ [_, _, _, _, _, _, _, _, _, _, _, _, _, _, _, _, _, _, _, _, _, _, _, _, _, _, _, _, _, _, _]]) hS rfl
         refine hK _ _ ?_; clear hK K
         refine wl_v (x_assign (tmI rfl rfl)) ?_
         refine wl_nil ?_
         refine then_n (hK19 _ _ ?_); clear hK19 K19
         refine wp_seq_k ?_; intro K21 hK21
         refine wp_seq_k ?_; intro K22 hK22
         refine wlit ?_
         refine wl_v (x_move (tmI rfl rfl)) ?_
         refine wl_v (x_neq (tmI rfl rfl) (ev_cN 0)) ?_
         refine wl_nil ?_
         refine then_n (hK22 _ _ ?_); clear hK22 K22
         refine cnd (tm rfl) (fun hc2 => ?_) (fun hc2 => ?_)
         · skip
           all_goals
            try simp only [nrm] at hc2
            refine wp_seq_k ?_; intro K23 hK23
            refine wlit ?_
            refine wl_v (x_build (bc_skip (.bool false) <| bc_skip (.bool false) <| bc_skip (.int .u8 0) <| bc_skipL [.bool false, .int .u64 0, .int .u64 0, .bool false, .int .u64 0, .int .u64 0, .int .u16 0, .int .u16 0, .int .u8 0] <| bc_skipL [.int .u16 0, .int .u16 0, .int .u32 0, .int .u32 0, .int .u8 0, .int .u16 0, .int .u16 0, .int .u16 0, .slice none 0 0, .slice none 0 0] <| bc_skipL [.int .u16 0, .int .u16 0, .int .u16 0, .slice none 0 0] <| bc_skipL [.int .u8 0, .int .u8 0, .int .u16 0, .int .u32 0, .slice none 0 0] <| bc_nil) (by kernel_rfl)) ?_
            refine wl_v (x_move (tmI rfl rfl)) ?_
            refine wl_e rfl ?_; intro K hK
            refine ow_storeA hS 5 rfl ts_38 (tmP rfl rfl) (tmA rfl rfl) rfl rfl rfl ?_
            clear hS; intro w hS
            try replace hS := St.nm (M' := [.vw _ _, .vw _ _, .vw _ _, .vw _ _, .blk _ _ [_, _, _, _, _, _, _, _, _, _, _, _, _, _, _, _, _, _, _, _, _, _, _, _, _, _, _, _, _, _, _], .blk _ _ [_, _, _, _, _, _, _, _, _, _, _, _, _, _, _, _, _, _, _, _, _, _, _, _, _, _, _, _, _, _, _]]) hS rfl
            refine hK _ _ ?_; clear hK K
            refine wl_v (x_assign (tmI rfl rfl)) ?_
            refine wl_nil ?_
            refine then_n (hK23 _ _ ?_); clear hK23 K23
            refine wp_ret ?_
            refine then_r ?_
            refine ret2 rfl (.cell rfl rfl (load_rowB (cs := [_, _, _, _, _, _, _, _, _, _, _, _, _, _, _, _, _, _, _, _, _, _, _, _, _, _, _, _, _, _, _]) hS.ok 5 rfl Tryd.underlying38 rfl ts_38 rfl)) (.tmp rfl (show _ = Value.int _ _ from rfl)) ?_
            have hz := GiP.z (w := w0) (w' := w)
            first
              | (obtain ⟨e1, e2⟩ := out2 (least := least) (i := i) (i' := i') (why := why) (why2 := why2) (by first | omega | (simp at hg2_2; omega)) (by first | (rw [← (hi (by omega)).1]; omega) | omega)
                 rw [e1, e2]
                 exact ⟨Pl.Z, rfl, hz.1, hz.2.1, hz.2.2.1, hz.2.2.2, hS.kp⟩)
              | (obtain ⟨e1, e2⟩ := out4 (least := least) (i' := i') h0 htl (by first | omega | (simp at hc2; omega))
                 rw [e1, e2]
                 exact ⟨p, rfl, ⟨viewV hS.ok 0 rfl, d1⟩, ⟨viewV hS.ok 1 rfl, d2⟩, ⟨viewV hS.ok 2 rfl, d3⟩, ⟨viewV hS.ok 3 rfl, d4⟩, hS.kp⟩)
              | (obtain ⟨e1, e2⟩ := out3 (least := least) (i' := i') h0 htl (by first | omega | (simp at hc2; omega))
                 rw [e1, e2]
                 exact ⟨Pl.Z, rfl, hz.1, hz.2.1, hz.2.2.1, hz.2.2.2, hS.kp⟩)
              | (obtain ⟨e1, e2⟩ := out1 (least := least) (i := i) (i' := i') (why := why) (why2 := why2) (by first | omega | (simp at hc2; omega))
                 rw [e1, e2]
                 exact ⟨Pl.Z, rfl, hz.1, hz.2.1, hz.2.2.1, hz.2.2.2, hS.kp⟩)
         all_goals
          try simp only [nrm] at hc2
          refine wp_skip ?_
          refine then_n (hK21 _ _ ?_); clear hK21 K21
          refine wp_seq_k ?_; intro K25 hK25
          refine wlit ?_
          refine wl_v (x_loadA (cs := [_, _, _, _, _, _, _, _, _, _, _, _, _, _, _, _, _, _, _, _, _, _, _, _, _, _, _, _, _, _, _]) Tryd.underlying38 rfl ts_38 (tmP rfl rfl) (rangeB hS.ok 4 rfl rfl)) ?_
          refine wl_e rfl ?_; intro K hK
          refine ow_storeA hS 5 rfl ts_38 (tmP rfl rfl) (tmA rfl rfl) rfl rfl rfl ?_
          clear hS; intro w hS
          try replace hS := St.nm (M' := [.vw _ _, .vw _ _, .vw _ _, .vw _ _, .blk _ _ [_, _, _, _, _, _, _, _, _, _, _, _, _, _, _, _, _, _, _, _, _, _, _, _, _, _, _, _, _, _, _], .blk _ _ [_, _, _, _, _, _, _, _, _, _, _, _, _, _, _, _, _, _, _, _, _, _, _, _, _, _, _, _, _, _, _]]) hS rfl
          refine hK _ _ ?_; clear hK K
          refine wl_v (x_assign (ev_cN 0)) ?_
          refine wl_nil ?_
          refine then_n (hK25 _ _ ?_); clear hK25 K25
          refine wp_ret ?_
          refine ret2 rfl (.cell rfl rfl (load_rowB (cs := [_, _, _, _, _, _, _, _, _, _, _, _, _, _, _, _, _, _, _, _, _, _, _, _, _, _, _, _, _, _, _]) hS.ok 5 rfl Tryd.underlying38 rfl ts_38 rfl)) (.tmp rfl (show _ = Value.int _ _ from rfl)) ?_
          have hz := GiP.z (w := w0) (w' := w)
          first
            | (obtain ⟨e1, e2⟩ := out2 (least := least) (i := i) (i' := i') (why := why) (why2 := why2) (by first | omega | (simp at hg2_2; omega)) (by first | (rw [← (hi (by omega)).1]; omega) | omega)
               rw [e1, e2]
               exact ⟨Pl.Z, rfl, hz.1, hz.2.1, hz.2.2.1, hz.2.2.2, hS.kp⟩)
            | (obtain ⟨e1, e2⟩ := out4 (least := least) (i' := i') h0 htl (by first | omega | (simp at hc2; omega))
               rw [e1, e2]
               exact ⟨p, rfl, ⟨viewV hS.ok 0 rfl, d1⟩, ⟨viewV hS.ok 1 rfl, d2⟩, ⟨viewV hS.ok 2 rfl, d3⟩, ⟨viewV hS.ok 3 rfl, d4⟩, hS.kp⟩)
            | (obtain ⟨e1, e2⟩ := out3 (least := least) (i' := i') h0 htl (by first | omega | (simp at hc2; omega))
               rw [e1, e2]
               exact ⟨Pl.Z, rfl, hz.1, hz.2.1, hz.2.2.1, hz.2.2.2, hS.kp⟩)
            | (obtain ⟨e1, e2⟩ := out1 (least := least) (i := i) (i' := i') (why := why) (why2 := why2) (by first | omega | (simp at hc2; omega))
               rw [e1, e2]
               exact ⟨Pl.Z, rfl, hz.1, hz.2.1, hz.2.2.1, hz.2.2.2, hS.kp⟩)
      try (exfalso; first | with_reducible exact absurd hc1 Bool.false_ne_true | with_reducible exact absurd hc1.symm Bool.false_ne_true | (simp only [nrm] at hc1; omega) | (simp at hc1; done))
      all_goals
       try simp only [nrm] at hc1
       refine wp_skip ?_
       refine then_n (hK19 _ _ ?_); clear hK19 K19
       refine wp_seq_k ?_; intro K27 hK27
       refine wp_seq_k ?_; intro K28 hK28
       refine wlit ?_
       refine wl_v (x_move (tmI rfl rfl)) ?_
       refine wl_v (x_neq (tmI rfl rfl) (ev_cN 0)) ?_
       refine wl_nil ?_
       refine then_n (hK28 _ _ ?_); clear hK28 K28
       refine cnd (tm rfl) (fun hc2 => ?_) (fun hc2 => ?_)
       · skip
         all_goals
          try simp only [nrm] at hc2
          refine wp_seq_k ?_; intro K29 hK29
          refine wlit ?_
          refine wl_v (x_build (bc_skip (.bool false) <| bc_skip (.bool false) <| bc_skip (.int .u8 0) <| bc_skipL [.bool false, .int .u64 0, .int .u64 0, .bool false, .int .u64 0, .int .u64 0, .int .u16 0, .int .u16 0, .int .u8 0] <| bc_skipL [.int .u16 0, .int .u16 0, .int .u32 0, .int .u32 0, .int .u8 0, .int .u16 0, .int .u16 0, .int .u16 0, .slice none 0 0, .slice none 0 0] <| bc_skipL [.int .u16 0, .int .u16 0, .int .u16 0, .slice none 0 0] <| bc_skipL [.int .u8 0, .int .u8 0, .int .u16 0, .int .u32 0, .slice none 0 0] <| bc_nil) (by kernel_rfl)) ?_
          refine wl_v (x_move (tmI rfl rfl)) ?_
          refine wl_e rfl ?_; intro K hK
          refine ow_storeA hS 2 rfl ts_38 (tmP rfl rfl) (tmA rfl rfl) rfl rfl rfl ?_
          clear hS; intro w hS
          try replace hS := St.nm (M' := [.blk _ _ [_, _, _, _, _, _, _, _, _, _, _, _, _, _, _, _, _, _, _, _, _, _, _, _, _, _, _, _, _, _, _], .vw _ _, .blk _ _ [_, _, _, _, _, _, _, _, _, _, _, _, _, _, _, _, _, _, _, _, _, _, _, _, _, _, _, _, _, _, _], .vw _ _]) hS rfl
          refine hK _ _ ?_; clear hK K
          refine wl_v (x_assign (tmI rfl rfl)) ?_
          refine wl_nil ?_
          refine then_n (hK29 _ _ ?_); clear hK29 K29
          refine wp_ret ?_
          refine then_r ?_
          refine ret2 rfl (.cell rfl rfl (load_rowB (cs := [_, _, _, _, _, _, _, _, _, _, _, _, _, _, _, _, _, _, _, _, _, _, _, _, _, _, _, _, _, _, _]) hS.ok 2 rfl Tryd.underlying38 rfl ts_38 rfl)) (.tmp rfl (show _ = Value.int _ _ from rfl)) ?_
          have hz := GiP.z (w := w0) (w' := w)
          first
            | (obtain ⟨e1, e2⟩ := out2 (least := least) (i := i) (i' := i') (why := why) (why2 := why2) (by first | omega | (simp at hg2_2; omega)) (by first | (rw [← (hi (by omega)).1]; omega) | omega)
               rw [e1, e2]
               exact ⟨Pl.Z, rfl, hz.1, hz.2.1, hz.2.2.1, hz.2.2.2, hS.kp⟩)
            | (obtain ⟨e1, e2⟩ := out4 (least := least) (i' := i') h0 htl (by first | omega | (simp at hc2; omega))
               rw [e1, e2]
               exact ⟨p, rfl, ⟨viewV hS.ok (no_label_v1) rfl, d1⟩, ⟨viewV hS.ok (no_label_v2) rfl, d2⟩, ⟨viewV hS.ok (no_label_v3) rfl, d3⟩, ⟨viewV hS.ok (no_label_v4) rfl, d4⟩, hS.kp⟩)
            | (obtain ⟨e1, e2⟩ := out3 (least := least) (i' := i') h0 htl (by first | omega | (simp at hc2; omega))
               rw [e1, e2]
               exact ⟨Pl.Z, rfl, hz.1, hz.2.1, hz.2.2.1, hz.2.2.2, hS.kp⟩)
            | (obtain ⟨e1, e2⟩ := out1 (least := least) (i := i) (i' := i') (why := why) (why2 := why2) (by first | omega | (simp at hc2; omega))
               rw [e1, e2]
               exact ⟨Pl.Z, rfl, hz.1, hz.2.1, hz.2.2.1, hz.2.2.2, hS.kp⟩)
       all_goals
        try simp only [nrm] at hc2
        refine wp_skip ?_
        refine then_n (hK27 _ _ ?_); clear hK27 K27
        refine wp_seq_k ?_; intro K31 hK31
        refine wlit ?_
        refine wl_v (x_loadA (cs := [_, _, _, _, _, _, _, _, _, _, _, _, _, _, _, _, _, _, _, _, _, _, _, _, _, _, _, _, _, _, _]) Tryd.underlying38 rfl ts_38 (tmP rfl rfl) (rangeB hS.ok 0 rfl rfl)) ?_
        refine wl_e rfl ?_; intro K hK
        refine ow_storeA hS 2 rfl ts_38 (tmP rfl rfl) (tmA rfl rfl) rfl rfl rfl ?_
        clear hS; intro w hS
        try replace hS := St.nm (M' := [.blk _ _ [_, _, _, _, _, _, _, _, _, _, _, _, _, _, _, _, _, _, _, _, _, _, _, _, _, _, _, _, _, _, _], .vw _ _, .blk _ _ [_, _, _, _, _, _, _, _, _, _, _, _, _, _, _, _, _, _, _, _, _, _, _, _, _, _, _, _, _, _, _], .vw _ _]) hS rfl
        refine hK _ _ ?_; clear hK K
        refine wl_v (x_assign (ev_cN 0)) ?_
        refine wl_nil ?_
        refine then_n (hK31 _ _ ?_); clear hK31 K31
        refine wp_ret ?_
        refine ret2 rfl (.cell rfl rfl (load_rowB (cs := [_, _, _, _, _, _, _, _, _, _, _, _, _, _, _, _, _, _, _, _, _, _, _, _, _, _, _, _, _, _, _]) hS.ok 2 rfl Tryd.underlying38 rfl ts_38 rfl)) (.tmp rfl (show _ = Value.int _ _ from rfl)) ?_
        have hz := GiP.z (w := w0) (w' := w)
        first
          | (obtain ⟨e1, e2⟩ := out2 (least := least) (i := i) (i' := i') (why := why) (why2 := why2) (by first | omega | (simp at hg2_2; omega)) (by first | (rw [← (hi (by omega)).1]; omega) | omega)
             rw [e1, e2]
             exact ⟨Pl.Z, rfl, hz.1, hz.2.1, hz.2.2.1, hz.2.2.2, hS.kp⟩)
          | (obtain ⟨e1, e2⟩ := out4 (least := least) (i' := i') h0 htl (by first | omega | (simp at hc2; omega))
             rw [e1, e2]
             exact ⟨p, rfl, ⟨viewV hS.ok (no_label_v1) rfl, d1⟩, ⟨viewV hS.ok (no_label_v2) rfl, d2⟩, ⟨viewV hS.ok (no_label_v3) rfl, d3⟩, ⟨viewV hS.ok (no_label_v4) rfl, d4⟩, hS.kp⟩)
          | (obtain ⟨e1, e2⟩ := out3 (least := least) (i' := i') h0 htl (by first | omega | (simp at hc2; omega))
             rw [e1, e2]
             exact ⟨Pl.Z, rfl, hz.1, hz.2.1, hz.2.2.1, hz.2.2.2, hS.kp⟩)
          | (obtain ⟨e1, e2⟩ := out1 (least := least) (i := i) (i' := i') (why := why) (why2 := why2) (by first | omega | (simp at hc2; omega))
             rw [e1, e2]
             exact ⟨Pl.Z, rfl, hz.1, hz.2.1, hz.2.2.1, hz.2.2.2, hS.kp⟩)
  have hg2_2' := hg2_2; (try simp only [nrm] at hg2_2')
  all_goals
   refine wl_s rfl (want_n rfl rfl rfl rfl (by rw [hg2_2]; rfl)) ?_
   refine wl_s rfl (want_n rfl rfl rfl rfl (by rw [hg2_2]; rfl)) ?_
   refine wl_s rfl (want_n rfl rfl rfl rfl (by rw [hg2_2]; rfl)) ?_
   refine wl_s rfl (want_n rfl rfl rfl rfl (by rw [hg2_2]; rfl)) ?_
   refine wl_v (x_pickF (tmB rfl rfl) hg2_2 ev_c) ?_
   refine wl_nil ?_
   refine then_n (hK4 _ _ ?_); clear hK4 K4
   refine cnd_f (tmB rfl rfl) rfl ?_
   refine wp_skip ?_
   refine then_n (hK3 _ _ ?_); clear hK3 K3
   refine wp_seq_k ?_; intro K33 hK33
   refine wp_seq_k ?_; intro K34 hK34
   refine wlit ?_
   refine wl_v (x_move (tmI rfl rfl)) ?_
   refine wl_v (x_eql (tmI rfl rfl) (ev_cN 0)) ?_
   refine wl_nil ?_
   refine then_n (hK34 _ _ ?_); clear hK34 K34
   refine cnd (tm rfl) (fun hc1 => ?_) (fun hc1 => ?_)
   · try (exfalso; first | with_reducible exact absurd hc1 Bool.false_ne_true | with_reducible exact absurd hc1.symm Bool.false_ne_true | (simp only [nrm] at hc1; omega) | (simp at hc1; done))
     all_goals
      try simp only [nrm] at hc1
      have h0 : why = 0 := by first | omega | (simp at hc1; omega)
      obtain ⟨rfl, rfl⟩ := hi h0
      have htl : ¬ i0.ttl < least := by first | omega | (simp at hc0; omega)
      refine wlit ?_
      refine wl_v (x_move (tmS rfl rfl)) ?_
      refine wl_e rfl ?_; intro K hK
      refine ow_call Tryd.func44 rfl rfl (evs_cons (tmP rfl rfl) <| evs_cons (tmS rfl rfl) <| evs_nil) (hC g1_6 L cl _ _ (hS.enter [0] [1] rfl rfl) hcl) ?_
      rintro e w ⟨p, rfl, b1, b2, b3, b4, hS2⟩
      refine ⟨_, rfl, ?_⟩
      have d1 : NewB w0 p.O i'.T.o := fun b hb => Nat.le_trans hS.kp.size (b1 b hb)
      have d2 : NewB w0 p.X i'.T.x := fun b hb => Nat.le_trans hS.kp.size (b2 b hb)
      have d3 : NewB w0 p.U i'.D.x := fun b hb => Nat.le_trans hS.kp.size (b3 b hb)
      have d4 : NewB w0 p.M i'.I.x := fun b hb => Nat.le_trans hS.kp.size (b4 b hb)
      replace hS := hS.leave4 0 [2] rfl rfl rfl hS2 rfl b1 b2 b3 b4 --ents v1,v2,v3,v4,g1_6,g0_0
      clear hS2 b1 b2 b3 b4
      try replace hS := St.nm (M' := [.vw _ _, .vw _ _, .vw _ _, .vw _ _, .blk _ _ [_, _, _, _, _, _, _, _, _, _, _, _, _, _, _, _, _, _, _, _, _, _, _, _, _, _, _, _, _, _, _], .blk _ _ [_, _, _, _, _, _, _, _, _, _, _, _, _, _, _, _, _, _, _, _, _, _, _, _, _, _, _, _, _, _, _]]) hS rfl
      refine hK _ _ ?_; clear hK K
      refine wl_v (x_assign (tmI rfl rfl)) ?_
      refine wl_nil ?_
      refine then_n (hK33 _ _ ?_); clear hK33 K33
      refine wp_seq_k ?_; intro K35 hK35
      refine wp_seq_k ?_; intro K36 hK36
      refine wlit ?_
      refine wl_v (x_move (tmI rfl rfl)) ?_
      refine wl_v (x_neq (tmI rfl rfl) (ev_cN 0)) ?_
      refine wl_nil ?_
      refine then_n (hK36 _ _ ?_); clear hK36 K36
      refine cnd (tm rfl) (fun hc2 => ?_) (fun hc2 => ?_)
      · skip
        all_goals
         try simp only [nrm] at hc2
         refine wp_seq_k ?_; intro K37 hK37
         refine wlit ?_
         refine wl_v (x_build (bc_skip (.bool false) <| bc_skip (.bool false) <| bc_skip (.int .u8 0) <| bc_skipL [.bool false, .int .u64 0, .int .u64 0, .bool false, .int .u64 0, .int .u64 0, .int .u16 0, .int .u16 0, .int .u8 0] <| bc_skipL [.int .u16 0, .int .u16 0, .int .u32 0, .int .u32 0, .int .u8 0, .int .u16 0, .int .u16 0, .int .u16 0, .slice none 0 0, .slice none 0 0] <| bc_skipL [.int .u16 0, .int .u16 0, .int .u16 0, .slice none 0 0] <| bc_skipL [.int .u8 0, .int .u8 0, .int .u16 0, .int .u32 0, .slice none 0 0] <| bc_nil) (by kernel_rfl)) ?_
         refine wl_v (x_move (tmI rfl rfl)) ?_
         refine wl_e rfl ?_; intro K hK
         refine ow_storeA hS 5 rfl ts_38 (tmP rfl rfl) (tmA rfl rfl) rfl rfl rfl ?_
         clear hS; intro w hS
         try replace hS := St.nm (M' := [.vw _ _, .vw _ _, .vw _ _, .vw _ _, .blk _ _ [_, _, _, _, _, _, _, _, _, _, _, _, _, _, _, _, _, _, _, _, _, _, _, _, _, _, _, _, _, _, _], .blk _ _ [_, _, _, _, _, _, _, _, _, _, _, _, _, _, _, _, _, _, _, _, _, _, _, _, _, _, _, _, _, _, _]]) hS rfl
         refine hK _ _ ?_; clear hK K
         refine wl_v (x_assign (tmI rfl rfl)) ?_
         refine wl_nil ?_
         refine then_n (hK37 _ _ ?_); clear hK37 K37
         refine wp_ret ?_
         refine then_r ?_
         refine ret2 rfl (.cell rfl rfl (load_rowB (cs := [_, _, _, _, _, _, _, _, _, _, _, _, _, _, _, _, _, _, _, _, _, _, _, _, _, _, _, _, _, _, _]) hS.ok 5 rfl Tryd.underlying38 rfl ts_38 rfl)) (.tmp rfl (show _ = Value.int _ _ from rfl)) ?_
         have hz := GiP.z (w := w0) (w' := w)
         first
           | (obtain ⟨e1, e2⟩ := out2 (least := least) (i := i) (i' := i') (why := why) (why2 := why2) (by first | omega | (simp at hg2_2; omega)) (by first | (rw [← (hi (by omega)).1]; omega) | omega)
              rw [e1, e2]
              exact ⟨Pl.Z, rfl, hz.1, hz.2.1, hz.2.2.1, hz.2.2.2, hS.kp⟩)
           | (obtain ⟨e1, e2⟩ := out4 (least := least) (i' := i') h0 htl (by first | omega | (simp at hc2; omega))
              rw [e1, e2]
              exact ⟨p, rfl, ⟨viewV hS.ok 0 rfl, d1⟩, ⟨viewV hS.ok 1 rfl, d2⟩, ⟨viewV hS.ok 2 rfl, d3⟩, ⟨viewV hS.ok 3 rfl, d4⟩, hS.kp⟩)
           | (obtain ⟨e1, e2⟩ := out3 (least := least) (i' := i') h0 htl (by first | omega | (simp at hc2; omega))
              rw [e1, e2]
              exact ⟨Pl.Z, rfl, hz.1, hz.2.1, hz.2.2.1, hz.2.2.2, hS.kp⟩)
           | (obtain ⟨e1, e2⟩ := out1 (least := least) (i := i) (i' := i') (why := why) (why2 := why2) (by first | omega | (simp at hc2; omega))
              rw [e1, e2]
              exact ⟨Pl.Z, rfl, hz.1, hz.2.1, hz.2.2.1, hz.2.2.2, hS.kp⟩)
      all_goals
       try simp only [nrm] at hc2
       refine wp_skip ?_
       refine then_n (hK35 _ _ ?_); clear hK35 K35
       refine wp_seq_k ?_; intro K39 hK39
       refine wlit ?_
       refine wl_v (x_loadA (cs := [_, _, _, _, _, _, _, _, _, _, _, _, _, _, _, _, _, _, _, _, _, _, _, _, _, _, _, _, _, _, _]) Tryd.underlying38 rfl ts_38 (tmP rfl rfl) (rangeB hS.ok 4 rfl rfl)) ?_
       refine wl_e rfl ?_; intro K hK
       refine ow_storeA hS 5 rfl ts_38 (tmP rfl rfl) (tmA rfl rfl) rfl rfl rfl ?_
       clear hS; intro w hS
       try replace hS := St.nm (M' := [.vw _ _, .vw _ _, .vw _ _, .vw _ _, .blk _ _ [_, _, _, _, _, _, _, _, _, _, _, _, _, _, _, _, _, _, _, _, _, _, _, _, _, _, _, _, _, _, _], .blk _ _ [_, _, _, _, _, _, _, _, _, _, _, _, _, _, _, _, _, _, _, _, _, _, _, _, _, _, _, _, _, _, _]]) hS rfl
       refine hK _ _ ?_; clear hK K
       refine wl_v (x_assign (ev_cN 0)) ?_
       refine wl_nil ?_
       refine then_n (hK39 _ _ ?_); clear hK39 K39
       refine wp_ret ?_
       refine ret2 rfl (.cell rfl rfl (load_rowB (cs := [_, _, _, _, _, _, _, _, _, _, _, _, _, _, _, _, _, _, _, _, _, _, _, _, _, _, _, _, _, _, _]) hS.ok 5 rfl Tryd.underlying38 rfl ts_38 rfl)) (.tmp rfl (show _ = Value.int _ _ from rfl)) ?_
       have hz := GiP.z (w := w0) (w' := w)
       first
         | (obtain ⟨e1, e2⟩ := out2 (least := least) (i := i) (i' := i') (why := why) (why2 := why2) (by first | omega | (simp at hg2_2; omega)) (by first | (rw [← (hi (by omega)).1]; omega) | omega)
            rw [e1, e2]
            exact ⟨Pl.Z, rfl, hz.1, hz.2.1, hz.2.2.1, hz.2.2.2, hS.kp⟩)
         | (obtain ⟨e1, e2⟩ := out4 (least := least) (i' := i') h0 htl (by first | omega | (simp at hc2; omega))
            rw [e1, e2]
            exact ⟨p, rfl, ⟨viewV hS.ok 0 rfl, d1⟩, ⟨viewV hS.ok 1 rfl, d2⟩, ⟨viewV hS.ok 2 rfl, d3⟩, ⟨viewV hS.ok 3 rfl, d4⟩, hS.kp⟩)
         | (obtain ⟨e1, e2⟩ := out3 (least := least) (i' := i') h0 htl (by first | omega | (simp at hc2; omega))
            rw [e1, e2]
            exact ⟨Pl.Z, rfl, hz.1, hz.2.1, hz.2.2.1, hz.2.2.2, hS.kp⟩)
         | (obtain ⟨e1, e2⟩ := out1 (least := least) (i := i) (i' := i') (why := why) (why2 := why2) (by first | omega | (simp at hc2; omega))
            rw [e1, e2]
            exact ⟨Pl.Z, rfl, hz.1, hz.2.1, hz.2.2.1, hz.2.2.2, hS.kp⟩)
   all_goals
    try simp only [nrm] at hc1
    refine wp_skip ?_
    refine then_n (hK33 _ _ ?_); clear hK33 K33
    refine wp_seq_k ?_; intro K41 hK41
    refine wp_seq_k ?_; intro K42 hK42
    refine wlit ?_
    refine wl_v (x_move (tmI rfl rfl)) ?_
    refine wl_v (x_neq (tmI rfl rfl) (ev_cN 0)) ?_
    refine wl_nil ?_
    refine then_n (hK42 _ _ ?_); clear hK42 K42
    refine cnd (tm rfl) (fun hc2 => ?_) (fun hc2 => ?_)
    · skip
      all_goals
       try simp only [nrm] at hc2
       refine wp_seq_k ?_; intro K43 hK43
       refine wlit ?_
       refine wl_v (x_build (bc_skip (.bool false) <| bc_skip (.bool false) <| bc_skip (.int .u8 0) <| bc_skipL [.bool false, .int .u64 0, .int .u64 0, .bool false, .int .u64 0, .int .u64 0, .int .u16 0, .int .u16 0, .int .u8 0] <| bc_skipL [.int .u16 0, .int .u16 0, .int .u32 0, .int .u32 0, .int .u8 0, .int .u16 0, .int .u16 0, .int .u16 0, .slice none 0 0, .slice none 0 0] <| bc_skipL [.int .u16 0, .int .u16 0, .int .u16 0, .slice none 0 0] <| bc_skipL [.int .u8 0, .int .u8 0, .int .u16 0, .int .u32 0, .slice none 0 0] <| bc_nil) (by kernel_rfl)) ?_
       refine wl_v (x_move (tmI rfl rfl)) ?_
       refine wl_e rfl ?_; intro K hK
       refine ow_storeA hS 2 rfl ts_38 (tmP rfl rfl) (tmA rfl rfl) rfl rfl rfl ?_
       clear hS; intro w hS
       try replace hS := St.nm (M' := [.blk _ _ [_, _, _, _, _, _, _, _, _, _, _, _, _, _, _, _, _, _, _, _, _, _, _, _, _, _, _, _, _, _, _], .vw _ _, .blk _ _ [_, _, _, _, _, _, _, _, _, _, _, _, _, _, _, _, _, _, _, _, _, _, _, _, _, _, _, _, _, _, _], .vw _ _]) hS rfl
       refine hK _ _ ?_; clear hK K
       refine wl_v (x_assign (tmI rfl rfl)) ?_
       refine wl_nil ?_
       refine then_n (hK43 _ _ ?_); clear hK43 K43
       refine wp_ret ?_
       refine then_r ?_
       refine ret2 rfl (.cell rfl rfl (load_rowB (cs := [_, _, _, _, _, _, _, _, _, _, _, _, _, _, _, _, _, _, _, _, _, _, _, _, _, _, _, _, _, _, _]) hS.ok 2 rfl Tryd.underlying38 rfl ts_38 rfl)) (.tmp rfl (show _ = Value.int _ _ from rfl)) ?_
       have hz := GiP.z (w := w0) (w' := w)
       first
         | (obtain ⟨e1, e2⟩ := out2 (least := least) (i := i) (i' := i') (why := why) (why2 := why2) (by first | omega | (simp at hg2_2; omega)) (by first | (rw [← (hi (by omega)).1]; omega) | omega)
            rw [e1, e2]
            exact ⟨Pl.Z, rfl, hz.1, hz.2.1, hz.2.2.1, hz.2.2.2, hS.kp⟩)
         | (obtain ⟨e1, e2⟩ := out4 (least := least) (i' := i') h0 htl (by first | omega | (simp at hc2; omega))
            rw [e1, e2]
            exact ⟨p, rfl, ⟨viewV hS.ok (no_label_v1) rfl, d1⟩, ⟨viewV hS.ok (no_label_v2) rfl, d2⟩, ⟨viewV hS.ok (no_label_v3) rfl, d3⟩, ⟨viewV hS.ok (no_label_v4) rfl, d4⟩, hS.kp⟩)
         | (obtain ⟨e1, e2⟩ := out3 (least := least) (i' := i') h0 htl (by first | omega | (simp at hc2; omega))
            rw [e1, e2]
            exact ⟨Pl.Z, rfl, hz.1, hz.2.1, hz.2.2.1, hz.2.2.2, hS.kp⟩)
         | (obtain ⟨e1, e2⟩ := out1 (least := least) (i := i) (i' := i') (why := why) (why2 := why2) (by first | omega | (simp at hc2; omega))
            rw [e1, e2]
            exact ⟨Pl.Z, rfl, hz.1, hz.2.1, hz.2.2.1, hz.2.2.2, hS.kp⟩)
    try (exfalso; first | with_reducible exact absurd hc2 Bool.false_ne_true | with_reducible exact absurd hc2.symm Bool.false_ne_true | (simp only [nrm] at hc2; omega) | (simp at hc2; done))
    all_goals
     try simp only [nrm] at hc2
     refine wp_skip ?_
     refine then_n (hK41 _ _ ?_); clear hK41 K41
     refine wp_seq_k ?_; intro K45 hK45
     refine wlit ?_
     refine wl_v (x_loadA (cs := [_, _, _, _, _, _, _, _, _, _, _, _, _, _, _, _, _, _, _, _, _, _, _, _, _, _, _, _, _, _, _]) Tryd.underlying38 rfl ts_38 (tmP rfl rfl) (rangeB hS.ok 0 rfl rfl)) ?_
     refine wl_e rfl ?_; intro K hK
     refine ow_storeA hS 2 rfl ts_38 (tmP rfl rfl) (tmA rfl rfl) rfl rfl rfl ?_
     clear hS; intro w hS
     try replace hS := St.nm (M' := [.blk _ _ [_, _, _, _, _, _, _, _, _, _, _, _, _, _, _, _, _, _, _, _, _, _, _, _, _, _, _, _, _, _, _], .vw _ _, .blk _ _ [_, _, _, _, _, _, _, _, _, _, _, _, _, _, _, _, _, _, _, _, _, _, _, _, _, _, _, _, _, _, _], .vw _ _]) hS rfl
     refine hK _ _ ?_; clear hK K
     refine wl_v (x_assign (ev_cN 0)) ?_
     refine wl_nil ?_
     refine then_n (hK45 _ _ ?_); clear hK45 K45
     refine wp_ret ?_
     refine ret2 rfl (.cell rfl rfl (load_rowB (cs := [_, _, _, _, _, _, _, _, _, _, _, _, _, _, _, _, _, _, _, _, _, _, _, _, _, _, _, _, _, _, _]) hS.ok 2 rfl Tryd.underlying38 rfl ts_38 rfl)) (.tmp rfl (show _ = Value.int _ _ from rfl)) ?_
     have hz := GiP.z (w := w0) (w' := w)
     first
       | (obtain ⟨e1, e2⟩ := out2 (least := least) (i := i) (i' := i') (why := why) (why2 := why2) (by first | omega | (simp at hg2_2; omega)) (by first | (rw [← (hi (by omega)).1]; omega) | omega)
          rw [e1, e2]
          exact ⟨Pl.Z, rfl, hz.1, hz.2.1, hz.2.2.1, hz.2.2.2, hS.kp⟩)
       | (obtain ⟨e1, e2⟩ := out4 (least := least) (i' := i') h0 htl (by first | omega | (simp at hc2; omega))
          rw [e1, e2]
          exact ⟨p, rfl, ⟨viewV hS.ok (no_label_v1) rfl, d1⟩, ⟨viewV hS.ok (no_label_v2) rfl, d2⟩, ⟨viewV hS.ok (no_label_v3) rfl, d3⟩, ⟨viewV hS.ok (no_label_v4) rfl, d4⟩, hS.kp⟩)
       | (obtain ⟨e1, e2⟩ := out3 (least := least) (i' := i') h0 htl (by first | omega | (simp at hc2; omega))
          rw [e1, e2]
          exact ⟨Pl.Z, rfl, hz.1, hz.2.1, hz.2.2.1, hz.2.2.2, hS.kp⟩)
       | (obtain ⟨e1, e2⟩ := out1 (least := least) (i := i) (i' := i') (why := why) (why2 := why2) (by first | omega | (simp at hc2; omega))
          rw [e1, e2]
          exact ⟨Pl.Z, rfl, hz.1, hz.2.1, hz.2.2.1, hz.2.2.2, hS.kp⟩)
theorem St.addn4 {F : List Nat} {w0 w w' : World} {M : List Ent} (h : St F w0 M w) {A B C D : Option Addr} {xs ys zs us : List Value} (hk : Kp [] w w') (hn : NewV w w' A xs) (hm : NewV w w' B ys) (hq : NewV w w' C zs) (hr : NewV w w' D us) : St F w0 (.vw A xs :: .vw B ys :: .vw C zs :: .vw D us :: M) w' := by
  refine (h.addn3 hk hm hq hr).addv hn.1 fun e' he' => ?_
  rcases List.mem_cons.1 he' with rfl | h1
  · exact .inl rfl
  · rcases List.mem_cons.1 h1 with rfl | h2
    · exact .inl rfl
    · rcases List.mem_cons.1 h2 with rfl | h3
      · exact .inl rfl
      · exact hn.apart h e' h3
set_option maxRecDepth 100000 in
set_option maxHeartbeats 8000000 in
theorem pRead_c (l : List Nat) (i : Inf) (why : Int) (hR : GiP 19 [.int .u8 ((2 : Nat) : Int)] l i why) : GiP 7 [] l i why := fun w0 A c hv hc => by
  have hS := (St.sv w0).vcons rfl hv
  refine ent (n := 8) Tryd.func7 rfl rfl ?_
  refine wp_seq_k ?_; intro K1 hK1
  refine wlit ?_
  refine wl_e rfl ?_; intro K hK
  refine ow_alloc hS tz_38 rfl ?_
  clear hS; intro g0_0 w hg0_0 hS
  refine hK _ _ ?_; clear hK K
  refine wl_v (x_assign (ev_cN 0)) ?_
  refine wl_nil ?_
  refine then_n (hK1 _ _ ?_); clear hK1 K1
  refine wp_seq_k ?_; intro K2 hK2
  refine wlit ?_
  refine wl_v (x_move (tmS rfl rfl)) ?_
  refine wl_e rfl ?_; intro K hK
  refine ow_call Tryd.func19 rfl rfl (evs_cons (tmS rfl rfl) <| evs_cons (ev_cN 2) <| evs_nil) (hR _ A c (viewV hS.ok 1 rfl) hc) ?_
  rintro e w ⟨p, rfl, n1, n2, n3, n4, hk⟩
  refine ⟨_, rfl, ?_⟩
  have m1 := n1.newb hS
  have m2 := n2.newb hS
  have m3 := n3.newb hS
  have m4 := n4.newb hS
  replace hS := (hS.addn4 hk n1 n2 n3 n4) -- +v1,v2,v3,v4
  clear hk n1 n2 n3 n4
  refine hK _ _ ?_; clear hK K
  refine wl_v (x_ext (tmT rfl rfl) rfl) ?_
  refine wl_v (x_ext (tmT rfl rfl) rfl) ?_
  refine wl_e rfl ?_; intro K hK
  refine ow_storeA hS 4 rfl ts_38 (tmP rfl rfl) (tmA rfl rfl) rfl rfl rfl ?_
  clear hS; intro w hS
  try replace hS := St.nm (M' := [.vw _ _, .vw _ _, .vw _ _, .vw _ _, .blk _ _ [_, _, _, _, _, _, _, _, _, _, _, _, _, _, _, _, _, _, _, _, _, _, _, _, _, _, _, _, _, _, _], .vw _ _]) hS rfl
  refine hK _ _ ?_; clear hK K
  refine wl_v (x_assign (tmI rfl rfl)) ?_
  refine wl_nil ?_
  refine then_n (hK2 _ _ ?_); clear hK2 K2
  refine wp_ret ?_
  refine ret2 rfl (.cell rfl rfl (load_rowB (cs := [_, _, _, _, _, _, _, _, _, _, _, _, _, _, _, _, _, _, _, _, _, _, _, _, _, _, _, _, _, _, _]) hS.ok 4 rfl Tryd.underlying38 rfl ts_38 rfl)) (.tmp rfl (show _ = Value.int _ _ from rfl)) ?_
  exact ⟨p, rfl, ⟨viewV hS.ok 0 rfl, m1⟩, ⟨viewV hS.ok 1 rfl, m2⟩, ⟨viewV hS.ok 2 rfl, m3⟩, ⟨viewV hS.ok 3 rfl, m4⟩, hS.kp⟩
set_option maxRecDepth 100000 in
set_option maxHeartbeats 8000000 in
theorem pHost_c (l : List Nat) (i : Inf) (why : Int) (hR : GiP 19 [.int .u8 ((0 : Nat) : Int)] l i why) : GiP 9 [] l i why := fun w0 A c hv hc => by
  have hS := (St.sv w0).vcons rfl hv
  refine ent (n := 8) Tryd.func9 rfl rfl ?_
  refine wp_seq_k ?_; intro K1 hK1
  refine wlit ?_
  refine wl_e rfl ?_; intro K hK
  refine ow_alloc hS tz_38 rfl ?_
  clear hS; intro g0_0 w hg0_0 hS
  refine hK _ _ ?_; clear hK K
  refine wl_v (x_assign (ev_cN 0)) ?_
  refine wl_nil ?_
  refine then_n (hK1 _ _ ?_); clear hK1 K1
  refine wp_seq_k ?_; intro K2 hK2
  refine wlit ?_
  refine wl_v (x_move (tmS rfl rfl)) ?_
  refine wl_e rfl ?_; intro K hK
  refine ow_call Tryd.func19 rfl rfl (evs_cons (tmS rfl rfl) <| evs_cons (ev_cN 0) <| evs_nil) (hR _ A c (viewV hS.ok 1 rfl) hc) ?_
  rintro e w ⟨p, rfl, n1, n2, n3, n4, hk⟩
  refine ⟨_, rfl, ?_⟩
  have m1 := n1.newb hS
  have m2 := n2.newb hS
  have m3 := n3.newb hS
  have m4 := n4.newb hS
  replace hS := (hS.addn4 hk n1 n2 n3 n4) -- +v1,v2,v3,v4
  clear hk n1 n2 n3 n4
  refine hK _ _ ?_; clear hK K
  refine wl_v (x_ext (tmT rfl rfl) rfl) ?_
  refine wl_v (x_ext (tmT rfl rfl) rfl) ?_
  refine wl_e rfl ?_; intro K hK
  refine ow_storeA hS 4 rfl ts_38 (tmP rfl rfl) (tmA rfl rfl) rfl rfl rfl ?_
  clear hS; intro w hS
  try replace hS := St.nm (M' := [.vw _ _, .vw _ _, .vw _ _, .vw _ _, .blk _ _ [_, _, _, _, _, _, _, _, _, _, _, _, _, _, _, _, _, _, _, _, _, _, _, _, _, _, _, _, _, _, _], .vw _ _]) hS rfl
  refine hK _ _ ?_; clear hK K
  refine wl_v (x_assign (tmI rfl rfl)) ?_
  refine wl_nil ?_
  refine then_n (hK2 _ _ ?_); clear hK2 K2
  refine wp_ret ?_
  refine ret2 rfl (.cell rfl rfl (load_rowB (cs := [_, _, _, _, _, _, _, _, _, _, _, _, _, _, _, _, _, _, _, _, _, _, _, _, _, _, _, _, _, _, _]) hS.ok 4 rfl Tryd.underlying38 rfl ts_38 rfl)) (.tmp rfl (show _ = Value.int _ _ from rfl)) ?_
  exact ⟨p, rfl, ⟨viewV hS.ok 0 rfl, m1⟩, ⟨viewV hS.ok 1 rfl, m2⟩, ⟨viewV hS.ok 2 rfl, m3⟩, ⟨viewV hS.ok 3 rfl, m4⟩, hS.kp⟩
def finI (i' : Inf) (z : Int) : Inf := if z ≠ 0 then Inf.Z else i'
theorem chk_bad {er : Nat} {f : Bool} (h : er ≠ 0) : chk (er : Int) f = pkOf (er : Int) := by unfold chk; rw [if_neg (by omega)]
theorem chk_sum {er : Nat} {f : Bool} (h : er = 0) (hf : f = false) : chk (er : Int) f = 3 := by unfold chk; rw [if_pos ⟨by omega, hf⟩]
theorem chk_ok {er : Nat} {f : Bool} (h : er = 0) (hf : f = true) : chk (er : Int) f = 0 := by unfold chk; rw [if_neg (by rw [hf]; simp), h]; rfl
theorem finI_bad {er : Nat} {f : Bool} {i' : Inf} (h : er ≠ 0) : finI i' (chk (er : Int) f) = Inf.Z ∧ chk (er : Int) f = pkOf (er : Int) := by
  rw [chk_bad h]; exact ⟨if_pos (pkOf_ne h), rfl⟩
theorem finI_sum {er : Nat} {f : Bool} {i' : Inf} (h : er = 0) (hf : f = false) : finI i' (chk (er : Int) f) = Inf.Z ∧ chk (er : Int) f = 3 := by
  rw [chk_sum h hf]; exact ⟨if_pos (by decide), rfl⟩
theorem finI_ok {er : Nat} {f : Bool} {i' : Inf} (h : er = 0) (hf : f = true) : finI i' (chk (er : Int) f) = i' ∧ chk (er : Int) f = 0 := by
  rw [chk_ok h hf]; exact ⟨if_neg (by decide), rfl⟩
set_option maxRecDepth 100000 in
set_option maxHeartbeats 8000000 in
theorem rhost_bad (l : List Nat) (i : Inf) (x : List Nat) (why : Int) (h0 : why ≠ 0) (hH : HdP 20 l i x why) : GiP 10 [] l Inf.Z why := fun w0 A c hv hc => by
  have hS := (St.sv w0).vcons rfl hv
  refine ent (n := 128) Tryd.func10 rfl rfl ?_
  refine wp_seq_k ?_; intro K1 hK1
  refine wlit ?_
  refine wl_e rfl ?_; intro K hK
  refine ow_alloc hS tz_46 rfl ?_
  clear hS; intro g0_0 w hg0_0 hS
  refine hK _ _ ?_; clear hK K
  refine wl_v (x_assign (ev_cN 0)) ?_
  refine wl_nil ?_
  refine then_n (hK1 _ _ ?_); clear hK1 K1
  refine wp_seq_k ?_; intro K2 hK2
  refine wlit ?_
  refine wl_v (x_move (tmS rfl rfl)) ?_
  refine wl_e rfl ?_; intro K hK
  refine ow_call Tryd.func20 rfl rfl (evs_cons (tmS rfl rfl) <| evs_nil) (hH _ A c (viewV hS.ok 1 rfl) hc) ?_
  rintro e w ⟨i0, x0, L, cl, hi, hcl, rfl, hn, hk⟩
  refine ⟨_, rfl, ?_⟩
  replace hS := hS.addn hk hn -- +vx
  clear hn hk
  refine hK _ _ ?_; clear hK K
  refine wl_v (x_move (tmT rfl rfl)) ?_
  refine wl_v (x_ext (tmT rfl rfl) rfl) ?_
  refine wl_v (x_ext (tmT rfl rfl) rfl) ?_
  refine wl_v (x_ext (tmT rfl rfl) rfl) ?_
  refine wl_e rfl ?_; intro K hK
  refine ow_alloc hS tz_46 rfl ?_
  clear hS; intro g1_6 w hg1_6 hS
  refine hK _ _ ?_; clear hK K
  refine wl_e rfl ?_; intro K hK
  refine ow_storeA hS 0 rfl ts_46 (tmP rfl rfl) (tmA rfl rfl) rfl rfl rfl ?_
  clear hS; intro w hS
  try replace hS := St.nm (M' := [.blk _ _ [_, _, _, _, _, _, _, _, _, _, _, _, _, _, _, _, _, _, _, _, _, _, _, _, _, _, _, _, _, _, _], .vw _ _, .blk _ _ [_, _, _, _, _, _, _, _, _, _, _, _, _, _, _, _, _, _, _, _, _, _, _, _, _, _, _, _, _, _, _], .vw _ _]) hS rfl
  refine hK _ _ ?_; clear hK K
  refine wl_v (x_assign (tmS rfl rfl)) ?_
  refine wl_v (x_assign (tmI rfl rfl)) ?_
  refine wl_nil ?_
  refine then_n (hK2 _ _ ?_); clear hK2 K2
  refine wp_seq_k ?_; intro K3 hK3
  refine wp_seq_k ?_; intro K4 hK4
  refine wlit ?_
  refine wl_v (x_move (tmI rfl rfl)) ?_
  refine wl_v (x_neq (tmI rfl rfl) (ev_cN 0)) ?_
  refine wl_nil ?_
  refine then_n (hK4 _ _ ?_); clear hK4 K4
  refine cnds (tm rfl) (fun hc0 => ?_) (fun hc0 => ?_)
  · exfalso
    first | omega | (simp at hc0; omega)
  all_goals
   try simp only [nrm] at hc0
   refine wp_seq_k ?_; intro K5 hK5
   refine wlit ?_
   refine wl_v (x_build (bc_skip (.bool false) <| bc_skip (.bool false) <| bc_skip (.int .u8 0) <| bc_skipL [.bool false, .int .u64 0, .int .u64 0, .bool false, .int .u64 0, .int .u64 0, .int .u16 0, .int .u16 0, .int .u8 0] <| bc_skipL [.int .u16 0, .int .u16 0, .int .u32 0, .int .u32 0, .int .u8 0, .int .u16 0, .int .u16 0, .int .u16 0, .slice none 0 0, .slice none 0 0] <| bc_skipL [.int .u16 0, .int .u16 0, .int .u16 0, .slice none 0 0] <| bc_skipL [.int .u8 0, .int .u8 0, .int .u16 0, .int .u32 0, .slice none 0 0] <| bc_nil) (by kernel_rfl)) ?_
   refine wl_v (x_move (tmI rfl rfl)) ?_
   refine wl_e rfl ?_; intro K hK
   refine ow_storeA hS 2 rfl ts_46 (tmP rfl rfl) (tmA rfl rfl) rfl rfl rfl ?_
   clear hS; intro w hS
   try replace hS := St.nm (M' := [.blk _ _ [_, _, _, _, _, _, _, _, _, _, _, _, _, _, _, _, _, _, _, _, _, _, _, _, _, _, _, _, _, _, _], .vw _ _, .blk _ _ [_, _, _, _, _, _, _, _, _, _, _, _, _, _, _, _, _, _, _, _, _, _, _, _, _, _, _, _, _, _, _], .vw _ _]) hS rfl
   refine hK _ _ ?_; clear hK K
   refine wl_v (x_assign (tmI rfl rfl)) ?_
   refine wl_nil ?_
   refine then_n (hK5 _ _ ?_); clear hK5 K5
   refine wp_ret ?_
   refine then_r ?_
   refine ret2 rfl (.cell rfl rfl (load_rowB (cs := [_, _, _, _, _, _, _, _, _, _, _, _, _, _, _, _, _, _, _, _, _, _, _, _, _, _, _, _, _, _, _]) hS.ok 2 rfl Tryd.underlying46 rfl ts_46 rfl)) (.tmp rfl (show _ = Value.int _ _ from rfl)) ?_
   have hz := GiP.z (w := w0) (w' := w)
   exact ⟨Pl.Z, rfl, hz.1, hz.2.1, hz.2.2.1, hz.2.2.2, hS.kp⟩
set_option maxRecDepth 100000 in
set_option maxHeartbeats 8000000 in
theorem rhost_tcp (l : List Nat) (i : Inf) (hT : i.T = Sg.Z) (hD : i.D = Dg.Z) (hI : i.I = Mg.Z) (x : List Nat) (t : Sg) (er : Nat) (hpr : i.pr = 6) (hb : Bytes x) (hx : x.length ≤ 3000) (h6 : i.s.six = i.d.six) (hls : adLim i.s) (hld : adLim i.d) (hH : HdP 20 l i x 0) (hP : PT 21 x t er) (f : Bool) (hf : f = decide (foldN (gS i.s i.d 6 x) = 65535)) :
    GiP 10 [] l (finI ⟨i.six, i.stay, i.ttl, i.s, i.d, t.t1, t.t2, i.pr, t, i.D, i.I⟩ (chk (er : Int) f)) (chk (er : Int) f) := fun w0 A c hv hc => by
  have hS := (St.sv w0).vcons rfl hv
  refine ent (n := 128) Tryd.func10 rfl rfl ?_
  refine wp_seq_k ?_; intro K1 hK1
  refine wlit ?_
  refine wl_e rfl ?_; intro K hK
  refine ow_alloc hS tz_46 rfl ?_
  clear hS; intro g0_0 w hg0_0 hS
  refine hK _ _ ?_; clear hK K
  refine wl_v (x_assign (ev_cN 0)) ?_
  refine wl_nil ?_
  refine then_n (hK1 _ _ ?_); clear hK1 K1
  refine wp_seq_k ?_; intro K2 hK2
  refine wlit ?_
  refine wl_v (x_move (tmS rfl rfl)) ?_
  refine wl_e rfl ?_; intro K hK
  refine ow_call Tryd.func20 rfl rfl (evs_cons (tmS rfl rfl) <| evs_nil) (hH _ A c (viewV hS.ok 1 rfl) hc) ?_
  rintro e w ⟨i0, x0, L, cl, hi, hcl, rfl, hn, hk⟩
  refine ⟨_, rfl, ?_⟩
  replace hS := hS.addn hk hn -- +vx
  clear hn hk
  obtain ⟨rfl, rfl⟩ := hi rfl
  refine hK _ _ ?_; clear hK K
  refine wl_v (x_move (tmT rfl rfl)) ?_
  refine wl_v (x_ext (tmT rfl rfl) rfl) ?_
  refine wl_v (x_ext (tmT rfl rfl) rfl) ?_
  refine wl_v (x_ext (tmT rfl rfl) rfl) ?_
  refine wl_e rfl ?_; intro K hK
  refine ow_alloc hS tz_46 rfl ?_
  clear hS; intro g1_6 w hg1_6 hS
  refine hK _ _ ?_; clear hK K
  refine wl_e rfl ?_; intro K hK
  refine ow_storeA hS 0 rfl ts_46 (tmP rfl rfl) (tmA rfl rfl) rfl rfl rfl ?_
  clear hS; intro w hS
  try replace hS := St.nm (M' := [.blk _ _ [_, _, _, _, _, _, _, _, _, _, _, _, _, _, _, _, _, _, _, _, _, _, _, _, _, _, _, _, _, _, _], .vw _ _, .blk _ _ [_, _, _, _, _, _, _, _, _, _, _, _, _, _, _, _, _, _, _, _, _, _, _, _, _, _, _, _, _, _, _], .vw _ _]) hS rfl
  refine hK _ _ ?_; clear hK K
  refine wl_v (x_assign (tmS rfl rfl)) ?_
  refine wl_v (x_assign (tmI rfl rfl)) ?_
  refine wl_nil ?_
  refine then_n (hK2 _ _ ?_); clear hK2 K2
  refine wp_seq_k ?_; intro K3 hK3
  refine wp_seq_k ?_; intro K4 hK4
  refine wlit ?_
  refine wl_v (x_move (tmI rfl rfl)) ?_
  refine wl_v (x_neq (tmI rfl rfl) (ev_cN 0)) ?_
  refine wl_nil ?_
  refine then_n (hK4 _ _ ?_); clear hK4 K4
  refine cnd (tm rfl) (fun hc0 => ?_) (fun hc0 => ?_)
  · exfalso
    simp at hc0
  all_goals
   try simp only [nrm] at hc0
   refine wp_skip ?_
   refine then_n (hK3 _ _ ?_); clear hK3 K3
   refine wp_seq_k ?_; intro K5 hK5
   refine wlit ?_
   refine wl_v (x_assign (ev_cN 0)) ?_
   refine wl_v (x_assign ev_c) ?_
   refine wl_nil ?_
   refine then_n (hK5 _ _ ?_); clear hK5 K5
   refine wp_seq_k ?_; intro K6 hK6
   refine wp_block ?_
   refine wp_seq_k ?_; intro K7 hK7
   refine wlit ?_
   refine wl_v (x_fa 3 Tryd.underlying46 rfl rfl ts_29 (tmP rfl rfl)) ?_
   refine wl_v (x_fa 8 Tryd.underlying29 rfl rfl ts_5 (tmP rfl rfl)) ?_
   refine wl_v (x_load Tryd.underlying5 rfl (tmP rfl rfl) (cellB hS.ok 0 rfl rfl)) ?_
   refine wl_v (x_eql (tmI rfl rfl) (ev_cN 6)) ?_
   refine wl_v (x_assign (tmB rfl rfl)) ?_
   refine wl_nil ?_
   refine then_n (hK7 _ _ ?_); clear hK7 K7
   refine cnds (tm rfl) (fun hc1 => ?_) (fun hc1 => ?_)
   · exfalso
     first | omega | (simp at hc1; omega)
   all_goals
    try simp only [nrm] at hc1
    refine wp_seq_k ?_; intro K8 hK8
    refine wlit ?_
    refine wl_v (x_move (tmS rfl rfl)) ?_
    refine wl_e rfl ?_; intro K hK
    refine ow_call Tryd.func21 rfl rfl (evs_cons (tmS rfl rfl) <| evs_nil) (hP _ L cl (viewV hS.ok 1 rfl) hcl) ?_
    rintro e w ⟨O, co, X, cx, rfl, hn1, hn2, hk⟩
    refine ⟨_, rfl, ?_⟩
    have d1 := hn1.newb hS
    have d2 := hn2.newb hS
    replace hS := hS.addn2 hk hn1 hn2 -- +v1,v2
    clear hn1 hn2 hk
    refine hK _ _ ?_; clear hK K
    refine wl_v (x_move (tmT rfl rfl)) ?_
    refine wl_v (x_ext (tmT rfl rfl) rfl) ?_
    refine wl_v (x_ext (tmT rfl rfl) rfl) ?_
    refine wl_v (x_fa 12 Tryd.underlying46 rfl rfl ts_42 (tmP rfl rfl)) ?_
    refine wl_e rfl ?_; intro K hK
    refine ow_storeA hS 2 rfl ts_42 (tmP rfl rfl) (tmA rfl rfl) rfl rfl rfl ?_
    clear hS; intro w hS
    try replace hS := St.nm (M' := [.vw _ _, .vw _ _, .blk _ _ [_, _, _, _, _, _, _, _, _, _, _, _, _, _, _, _, _, _, _, _, _, _, _, _, _, _, _, _, _, _, _], .vw _ _, .blk _ _ [_, _, _, _, _, _, _, _, _, _, _, _, _, _, _, _, _, _, _, _, _, _, _, _, _, _, _, _, _, _, _], .vw _ _]) hS rfl
    refine hK _ _ ?_; clear hK K
    refine wl_v (x_assign (tmI rfl rfl)) ?_
    refine wl_nil ?_
    refine then_n (hK8 _ _ ?_); clear hK8 K8
    refine wp_seq_k ?_; intro K9 hK9
    refine wlit ?_
    refine wl_v (x_move (tmS rfl rfl)) ?_
    refine wl_v (x_fa 3 Tryd.underlying46 rfl rfl ts_29 (tmP rfl rfl)) ?_
    refine wl_v (x_fa 0 Tryd.underlying29 rfl rfl ts_26 (tmP rfl rfl)) ?_
    refine wl_v (x_loadA (cs := [_, _, _]) Tryd.underlying26 rfl ts_26 (tmP rfl rfl) (rangeB hS.ok 2 rfl rfl)) ?_
    refine wl_v (x_fa 3 Tryd.underlying46 rfl rfl ts_29 (tmP rfl rfl)) ?_
    refine wl_v (x_fa 3 Tryd.underlying29 rfl rfl ts_26 (tmP rfl rfl)) ?_
    refine wl_v (x_loadA (cs := [_, _, _]) Tryd.underlying26 rfl ts_26 (tmP rfl rfl) (rangeB hS.ok 2 rfl rfl)) ?_
    refine wl_e rfl ?_; intro K hK
    refine ow_call Tryd.func22 rfl rfl (evs_cons (tmS rfl rfl) <| evs_cons (tmA rfl rfl) <| evs_cons (tmA rfl rfl) <| evs_nil) (rtcp_fine_c L cl x0 i0.s i0.d _ (viewV hS.ok 3 rfl) hb h6 hls hld (by omega)) ?_
    rintro e w ⟨rfl, hk⟩
    refine ⟨_, rfl, ?_⟩
    rw [← hf]
    replace hS := hS.kept hk
    clear hk
    refine hK _ _ ?_; clear hK K
    refine wl_v (x_assign (tmB rfl rfl)) ?_
    refine wl_nil ?_
    refine then_n (hK9 _ _ ?_); clear hK9 K9
    refine wlit ?_
    refine wl_v (x_fa 12 Tryd.underlying46 rfl rfl ts_42 (tmP rfl rfl)) ?_
    refine wl_v (x_fa 0 Tryd.underlying42 rfl rfl ts_27 (tmP rfl rfl)) ?_
    refine wl_v (x_load Tryd.underlying27 rfl (tmP rfl rfl) (cellB hS.ok 2 rfl rfl)) ?_
    refine wl_v (x_fa 12 Tryd.underlying46 rfl rfl ts_42 (tmP rfl rfl)) ?_
    refine wl_v (x_fa 1 Tryd.underlying42 rfl rfl ts_27 (tmP rfl rfl)) ?_
    refine wl_v (x_load Tryd.underlying27 rfl (tmP rfl rfl) (cellB hS.ok 2 rfl rfl)) ?_
    refine wl_v (x_fa 3 Tryd.underlying46 rfl rfl ts_29 (tmP rfl rfl)) ?_
    refine wl_v (x_fa 6 Tryd.underlying29 rfl rfl ts_27 (tmP rfl rfl)) ?_
    refine wl_e rfl ?_; intro K hK
    refine ow_store hS 2 rfl ts_27 (tmP rfl rfl) (tmI rfl rfl) rfl rfl ?_
    clear hS; intro w hS
    try replace hS := St.nm (M' := [.vw _ _, .vw _ _, .blk _ _ [_, _, _, _, _, _, _, _, _, _, _, _, _, _, _, _, _, _, _, _, _, _, _, _, _, _, _, _, _, _, _], .vw _ _, .blk _ _ [_, _, _, _, _, _, _, _, _, _, _, _, _, _, _, _, _, _, _, _, _, _, _, _, _, _, _, _, _, _, _], .vw _ _]) hS rfl
    refine hK _ _ ?_; clear hK K
    refine wl_v (x_fa 3 Tryd.underlying46 rfl rfl ts_29 (tmP rfl rfl)) ?_
    refine wl_v (x_fa 7 Tryd.underlying29 rfl rfl ts_27 (tmP rfl rfl)) ?_
    refine wl_e rfl ?_; intro K hK
    refine ow_store hS 2 rfl ts_27 (tmP rfl rfl) (tmI rfl rfl) rfl rfl ?_
    clear hS; intro w hS
    try replace hS := St.nm (M' := [.vw _ _, .vw _ _, .blk _ _ [_, _, _, _, _, _, _, _, _, _, _, _, _, _, _, _, _, _, _, _, _, _, _, _, _, _, _, _, _, _, _], .vw _ _, .blk _ _ [_, _, _, _, _, _, _, _, _, _, _, _, _, _, _, _, _, _, _, _, _, _, _, _, _, _, _, _, _, _, _], .vw _ _]) hS rfl
    refine hK _ _ ?_; clear hK K
    refine wl_nil ?_
    refine inb_n ?_
    refine then_n (hK6 _ _ ?_); clear hK6 K6
    refine wp_seq_k ?_; intro K10 hK10
    refine wp_seq_k ?_; intro K11 hK11
    refine wlit ?_
    refine wl_v (x_move (tmI rfl rfl)) ?_
    refine wl_v (x_neq (tmI rfl rfl) (ev_cN 0)) ?_
    refine wl_nil ?_
    refine then_n (hK11 _ _ ?_); clear hK11 K11
    refine cnd (tm rfl) (fun hc5 => ?_) (fun hc5 => ?_)
    · skip
      all_goals
       try simp only [nrm] at hc5
       refine wp_seq_k ?_; intro K12 hK12
       refine wlit ?_
       refine wl_v (x_build (bc_skip (.bool false) <| bc_skip (.bool false) <| bc_skip (.int .u8 0) <| bc_skipL [.bool false, .int .u64 0, .int .u64 0, .bool false, .int .u64 0, .int .u64 0, .int .u16 0, .int .u16 0, .int .u8 0] <| bc_skipL [.int .u16 0, .int .u16 0, .int .u32 0, .int .u32 0, .int .u8 0, .int .u16 0, .int .u16 0, .int .u16 0, .slice none 0 0, .slice none 0 0] <| bc_skipL [.int .u16 0, .int .u16 0, .int .u16 0, .slice none 0 0] <| bc_skipL [.int .u8 0, .int .u8 0, .int .u16 0, .int .u32 0, .slice none 0 0] <| bc_nil) (by kernel_rfl)) ?_
       refine wl_v (x_move (tmI rfl rfl)) ?_
       refine wl_e rfl ?_; intro K hK
       refine ow_call Tryd.func15 rfl rfl (evs_cons (tmI rfl rfl) <| evs_nil) (rof_c (er : Int) _) ?_
       rintro e w ⟨rfl, hk⟩
       refine ⟨_, rfl, ?_⟩
       replace hS := hS.kept hk
       clear hk
       refine hK _ _ ?_; clear hK K
       refine wl_e rfl ?_; intro K hK
       refine ow_storeA hS 4 rfl ts_46 (tmP rfl rfl) (tmA rfl rfl) rfl rfl rfl ?_
       clear hS; intro w hS
       try replace hS := St.nm (M' := [.vw _ _, .vw _ _, .blk _ _ [_, _, _, _, _, _, _, _, _, _, _, _, _, _, _, _, _, _, _, _, _, _, _, _, _, _, _, _, _, _, _], .vw _ _, .blk _ _ [_, _, _, _, _, _, _, _, _, _, _, _, _, _, _, _, _, _, _, _, _, _, _, _, _, _, _, _, _, _, _], .vw _ _]) hS rfl
       refine hK _ _ ?_; clear hK K
       refine wl_v (x_assign (tmI rfl rfl)) ?_
       refine wl_nil ?_
       refine then_n (hK12 _ _ ?_); clear hK12 K12
       refine wp_ret ?_
       refine then_r ?_
       refine ret2 rfl (.cell rfl rfl (load_rowB (cs := [_, _, _, _, _, _, _, _, _, _, _, _, _, _, _, _, _, _, _, _, _, _, _, _, _, _, _, _, _, _, _]) hS.ok 4 rfl Tryd.underlying46 rfl ts_46 rfl)) (.tmp rfl (show _ = Value.int _ _ from rfl)) ?_
       have hz := GiP.z (w := w0) (w' := w)
       first
         | (rw [(finI_bad (er := er) hc5).1, chk_bad hc5]
            exact ⟨Pl.Z, rfl, hz.1, hz.2.1, hz.2.2.1, hz.2.2.2, hS.kp⟩)
         | (have hff : f = false := by first | exact hc6 | simpa using hc6
            rw [(finI_sum (er := er) hc5 hff).1, chk_sum hc5 hff]
            exact ⟨Pl.Z, rfl, hz.1, hz.2.1, hz.2.2.1, hz.2.2.2, hS.kp⟩)
         | (have hff : f = true := by first | exact hc6 | simpa using hc6
            rw [(finI_ok (er := er) hc5 hff).1, chk_ok hc5 hff]
            obtain ⟨six, stay, ttl, s, d, sp, dp, pr, T, D, I⟩ := i0
            obtain rfl : T = Sg.Z := hT
            obtain rfl : D = Dg.Z := hD
            obtain rfl : I = Mg.Z := hI
            exact ⟨⟨O, co, X, cx, none, 0, none, 0⟩, rfl, ⟨viewV hS.ok 0 rfl, d1⟩, ⟨viewV hS.ok 1 rfl, d2⟩, newV_nil _ _, newV_nil _ _, hS.kp⟩)
    all_goals
     try simp only [nrm] at hc5
     refine wp_skip ?_
     refine then_n (hK10 _ _ ?_); clear hK10 K10
     refine wp_seq_k ?_; intro K14 hK14
     refine wp_seq_k ?_; intro K15 hK15
     refine wlit ?_
     refine wl_v (x_move (tmB rfl rfl)) ?_
     refine wl_v (x_not (tmB rfl rfl)) ?_
     refine wl_nil ?_
     refine then_n (hK15 _ _ ?_); clear hK15 K15
     refine cnd (tm rfl) (fun hc6 => ?_) (fun hc6 => ?_)
     · skip
       all_goals
        try simp only [nrm] at hc6
        refine wp_seq_k ?_; intro K16 hK16
        refine wlit ?_
        refine wl_v (x_build (bc_skip (.bool false) <| bc_skip (.bool false) <| bc_skip (.int .u8 0) <| bc_skipL [.bool false, .int .u64 0, .int .u64 0, .bool false, .int .u64 0, .int .u64 0, .int .u16 0, .int .u16 0, .int .u8 0] <| bc_skipL [.int .u16 0, .int .u16 0, .int .u32 0, .int .u32 0, .int .u8 0, .int .u16 0, .int .u16 0, .int .u16 0, .slice none 0 0, .slice none 0 0] <| bc_skipL [.int .u16 0, .int .u16 0, .int .u16 0, .slice none 0 0] <| bc_skipL [.int .u8 0, .int .u8 0, .int .u16 0, .int .u32 0, .slice none 0 0] <| bc_nil) (by kernel_rfl)) ?_
        refine wl_e rfl ?_; intro K hK
        refine ow_storeA hS 4 rfl ts_46 (tmP rfl rfl) (tmA rfl rfl) rfl rfl rfl ?_
        clear hS; intro w hS
        try replace hS := St.nm (M' := [.vw _ _, .vw _ _, .blk _ _ [_, _, _, _, _, _, _, _, _, _, _, _, _, _, _, _, _, _, _, _, _, _, _, _, _, _, _, _, _, _, _], .vw _ _, .blk _ _ [_, _, _, _, _, _, _, _, _, _, _, _, _, _, _, _, _, _, _, _, _, _, _, _, _, _, _, _, _, _, _], .vw _ _]) hS rfl
        refine hK _ _ ?_; clear hK K
        refine wl_v (x_assign (ev_cN 3)) ?_
        refine wl_nil ?_
        refine then_n (hK16 _ _ ?_); clear hK16 K16
        refine wp_ret ?_
        refine then_r ?_
        refine ret2 rfl (.cell rfl rfl (load_rowB (cs := [_, _, _, _, _, _, _, _, _, _, _, _, _, _, _, _, _, _, _, _, _, _, _, _, _, _, _, _, _, _, _]) hS.ok 4 rfl Tryd.underlying46 rfl ts_46 rfl)) (.tmp rfl (show _ = Value.int _ _ from rfl)) ?_
        have hz := GiP.z (w := w0) (w' := w)
        first
          | (rw [(finI_bad (er := er) hc5).1, chk_bad hc5]
             exact ⟨Pl.Z, rfl, hz.1, hz.2.1, hz.2.2.1, hz.2.2.2, hS.kp⟩)
          | (have hff : f = false := by first | exact hc6 | simpa using hc6
             rw [(finI_sum (er := er) hc5 hff).1, chk_sum hc5 hff]
             exact ⟨Pl.Z, rfl, hz.1, hz.2.1, hz.2.2.1, hz.2.2.2, hS.kp⟩)
          | (have hff : f = true := by first | exact hc6 | simpa using hc6
             rw [(finI_ok (er := er) hc5 hff).1, chk_ok hc5 hff]
             obtain ⟨six, stay, ttl, s, d, sp, dp, pr, T, D, I⟩ := i0
             obtain rfl : T = Sg.Z := hT
             obtain rfl : D = Dg.Z := hD
             obtain rfl : I = Mg.Z := hI
             exact ⟨⟨O, co, X, cx, none, 0, none, 0⟩, rfl, ⟨viewV hS.ok 0 rfl, d1⟩, ⟨viewV hS.ok 1 rfl, d2⟩, newV_nil _ _, newV_nil _ _, hS.kp⟩)
     all_goals
      try simp only [nrm] at hc6
      refine wp_skip ?_
      refine then_n (hK14 _ _ ?_); clear hK14 K14
      refine wp_seq_k ?_; intro K18 hK18
      refine wlit ?_
      refine wl_v (x_loadA (cs := [_, _, _, _, _, _, _, _, _, _, _, _, _, _, _, _, _, _, _, _, _, _, _, _, _, _, _, _, _, _, _]) Tryd.underlying46 rfl ts_46 (tmP rfl rfl) (rangeB hS.ok 2 rfl rfl)) ?_
      refine wl_e rfl ?_; intro K hK
      refine ow_storeA hS 4 rfl ts_46 (tmP rfl rfl) (tmA rfl rfl) rfl rfl rfl ?_
      clear hS; intro w hS
      try replace hS := St.nm (M' := [.vw _ _, .vw _ _, .blk _ _ [_, _, _, _, _, _, _, _, _, _, _, _, _, _, _, _, _, _, _, _, _, _, _, _, _, _, _, _, _, _, _], .vw _ _, .blk _ _ [_, _, _, _, _, _, _, _, _, _, _, _, _, _, _, _, _, _, _, _, _, _, _, _, _, _, _, _, _, _, _], .vw _ _]) hS rfl
      refine hK _ _ ?_; clear hK K
      refine wl_v (x_assign (ev_cN 0)) ?_
      refine wl_nil ?_
      refine then_n (hK18 _ _ ?_); clear hK18 K18
      refine wp_ret ?_
      refine ret2 rfl (.cell rfl rfl (load_rowB (cs := [_, _, _, _, _, _, _, _, _, _, _, _, _, _, _, _, _, _, _, _, _, _, _, _, _, _, _, _, _, _, _]) hS.ok 4 rfl Tryd.underlying46 rfl ts_46 rfl)) (.tmp rfl (show _ = Value.int _ _ from rfl)) ?_
      have hz := GiP.z (w := w0) (w' := w)
      first
        | (rw [(finI_bad (er := er) hc5).1, chk_bad hc5]
           exact ⟨Pl.Z, rfl, hz.1, hz.2.1, hz.2.2.1, hz.2.2.2, hS.kp⟩)
        | (have hff : f = false := by first | exact hc6 | simpa using hc6
           rw [(finI_sum (er := er) hc5 hff).1, chk_sum hc5 hff]
           exact ⟨Pl.Z, rfl, hz.1, hz.2.1, hz.2.2.1, hz.2.2.2, hS.kp⟩)
        | (have hff : f = true := by first | exact hc6 | simpa using hc6
           rw [(finI_ok (er := er) hc5 hff).1, chk_ok hc5 hff]
           obtain ⟨six, stay, ttl, s, d, sp, dp, pr, T, D, I⟩ := i0
           obtain rfl : T = Sg.Z := hT
           obtain rfl : D = Dg.Z := hD
           obtain rfl : I = Mg.Z := hI
           exact ⟨⟨O, co, X, cx, none, 0, none, 0⟩, rfl, ⟨viewV hS.ok 0 rfl, d1⟩, ⟨viewV hS.ok 1 rfl, d2⟩, newV_nil _ _, newV_nil _ _, hS.kp⟩)
set_option maxRecDepth 100000 in
set_option maxHeartbeats 8000000 in
theorem rhost_udp (l : List Nat) (i : Inf) (hT : i.T = Sg.Z) (hD : i.D = Dg.Z) (hI : i.I = Mg.Z) (x : List Nat) (t : Dg) (er : Nat) (hpr : i.pr = 17) (hx : x.length ≤ 3000) (h6 : i.s.six = i.d.six) (hls : adLim i.s) (hld : adLim i.d) (ht : t.ok) (hH : HdP 20 l i x 0) (hP : PU 23 x t er) (f : Bool) (hf : f = udF t.u1 t.u2 t.u3 t.x i.s i.d) :
    GiP 10 [] l (finI ⟨i.six, i.stay, i.ttl, i.s, i.d, t.u1, t.u2, i.pr, i.T, t, i.I⟩ (chk (er : Int) f)) (chk (er : Int) f) := fun w0 A c hv hc => by
  have hS := (St.sv w0).vcons rfl hv
  obtain ⟨k1, k2, k3, k4, k5⟩ := ht
  refine ent (n := 128) Tryd.func10 rfl rfl ?_
  refine wp_seq_k ?_; intro K1 hK1
  refine wlit ?_
  refine wl_e rfl ?_; intro K hK
  refine ow_alloc hS tz_46 rfl ?_
  clear hS; intro g0_0 w hg0_0 hS
  refine hK _ _ ?_; clear hK K
  refine wl_v (x_assign (ev_cN 0)) ?_
  refine wl_nil ?_
  refine then_n (hK1 _ _ ?_); clear hK1 K1
  refine wp_seq_k ?_; intro K2 hK2
  refine wlit ?_
  refine wl_v (x_move (tmS rfl rfl)) ?_
  refine wl_e rfl ?_; intro K hK
  refine ow_call Tryd.func20 rfl rfl (evs_cons (tmS rfl rfl) <| evs_nil) (hH _ A c (viewV hS.ok 1 rfl) hc) ?_
  rintro e w ⟨i0, x0, L, cl, hi, hcl, rfl, hn, hk⟩
  refine ⟨_, rfl, ?_⟩
  replace hS := hS.addn hk hn -- +vx
  clear hn hk
  obtain ⟨rfl, rfl⟩ := hi rfl
  refine hK _ _ ?_; clear hK K
  refine wl_v (x_move (tmT rfl rfl)) ?_
  refine wl_v (x_ext (tmT rfl rfl) rfl) ?_
  refine wl_v (x_ext (tmT rfl rfl) rfl) ?_
  refine wl_v (x_ext (tmT rfl rfl) rfl) ?_
  refine wl_e rfl ?_; intro K hK
  refine ow_alloc hS tz_46 rfl ?_
  clear hS; intro g1_6 w hg1_6 hS
  refine hK _ _ ?_; clear hK K
  refine wl_e rfl ?_; intro K hK
  refine ow_storeA hS 0 rfl ts_46 (tmP rfl rfl) (tmA rfl rfl) rfl rfl rfl ?_
  clear hS; intro w hS
  try replace hS := St.nm (M' := [.blk _ _ [_, _, _, _, _, _, _, _, _, _, _, _, _, _, _, _, _, _, _, _, _, _, _, _, _, _, _, _, _, _, _], .vw _ _, .blk _ _ [_, _, _, _, _, _, _, _, _, _, _, _, _, _, _, _, _, _, _, _, _, _, _, _, _, _, _, _, _, _, _], .vw _ _]) hS rfl
  refine hK _ _ ?_; clear hK K
  refine wl_v (x_assign (tmS rfl rfl)) ?_
  refine wl_v (x_assign (tmI rfl rfl)) ?_
  refine wl_nil ?_
  refine then_n (hK2 _ _ ?_); clear hK2 K2
  refine wp_seq_k ?_; intro K3 hK3
  refine wp_seq_k ?_; intro K4 hK4
  refine wlit ?_
  refine wl_v (x_move (tmI rfl rfl)) ?_
  refine wl_v (x_neq (tmI rfl rfl) (ev_cN 0)) ?_
  refine wl_nil ?_
  refine then_n (hK4 _ _ ?_); clear hK4 K4
  refine cnd (tm rfl) (fun hc0 => ?_) (fun hc0 => ?_)
  · exfalso
    simp at hc0
  all_goals
   try simp only [nrm] at hc0
   refine wp_skip ?_
   refine then_n (hK3 _ _ ?_); clear hK3 K3
   refine wp_seq_k ?_; intro K5 hK5
   refine wlit ?_
   refine wl_v (x_assign (ev_cN 0)) ?_
   refine wl_v (x_assign ev_c) ?_
   refine wl_nil ?_
   refine then_n (hK5 _ _ ?_); clear hK5 K5
   refine wp_seq_k ?_; intro K6 hK6
   refine wp_block ?_
   refine wp_seq_k ?_; intro K7 hK7
   refine wlit ?_
   refine wl_v (x_fa 3 Tryd.underlying46 rfl rfl ts_29 (tmP rfl rfl)) ?_
   refine wl_v (x_fa 8 Tryd.underlying29 rfl rfl ts_5 (tmP rfl rfl)) ?_
   refine wl_v (x_load Tryd.underlying5 rfl (tmP rfl rfl) (cellB hS.ok 0 rfl rfl)) ?_
   refine wl_v (x_eql (tmI rfl rfl) (ev_cN 6)) ?_
   refine wl_v (x_assign (tmB rfl rfl)) ?_
   refine wl_nil ?_
   refine then_n (hK7 _ _ ?_); clear hK7 K7
   refine cnd (tm rfl) (fun hc1 => ?_) (fun hc1 => ?_)
   · exfalso
     first | omega | (simp at hc1; omega)
   all_goals
    try simp only [nrm] at hc1
    refine wp_seq_k ?_; intro K8 hK8
    refine wlit ?_
    refine wl_v (x_fa 3 Tryd.underlying46 rfl rfl ts_29 (tmP rfl rfl)) ?_
    refine wl_v (x_fa 8 Tryd.underlying29 rfl rfl ts_5 (tmP rfl rfl)) ?_
    refine wl_v (x_load Tryd.underlying5 rfl (tmP rfl rfl) (cellB hS.ok 0 rfl rfl)) ?_
    refine wl_v (x_eql (tmI rfl rfl) (ev_cN 17)) ?_
    refine wl_v (x_assign (tmB rfl rfl)) ?_
    refine wl_nil ?_
    refine then_n (hK8 _ _ ?_); clear hK8 K8
    refine cnds (tm rfl) (fun hc2 => ?_) (fun hc2 => ?_)
    · exfalso
      first | omega | (simp at hc2; omega)
    all_goals
     try simp only [nrm] at hc2
     refine wp_seq_k ?_; intro K9 hK9
     refine wlit ?_
     refine wl_v (x_move (tmS rfl rfl)) ?_
     refine wl_e rfl ?_; intro K hK
     refine ow_call Tryd.func23 rfl rfl (evs_cons (tmS rfl rfl) <| evs_nil) (hP _ L cl (viewV hS.ok 1 rfl) hcl) ?_
     rintro e w ⟨U, cu, rfl, hn1, hk⟩
     refine ⟨_, rfl, ?_⟩
     have d1 := hn1.newb hS
     replace hS := hS.addn hk hn1 -- +v1
     clear hn1 hk
     refine hK _ _ ?_; clear hK K
     refine wl_v (x_move (tmT rfl rfl)) ?_
     refine wl_v (x_ext (tmT rfl rfl) rfl) ?_
     refine wl_v (x_ext (tmT rfl rfl) rfl) ?_
     refine wl_v (x_fa 22 Tryd.underlying46 rfl rfl ts_43 (tmP rfl rfl)) ?_
     refine wl_e rfl ?_; intro K hK
     refine ow_storeA hS 1 rfl ts_43 (tmP rfl rfl) (tmA rfl rfl) rfl rfl rfl ?_
     clear hS; intro w hS
     try replace hS := St.nm (M' := [.vw _ _, .blk _ _ [_, _, _, _, _, _, _, _, _, _, _, _, _, _, _, _, _, _, _, _, _, _, _, _, _, _, _, _, _, _, _], .vw _ _, .blk _ _ [_, _, _, _, _, _, _, _, _, _, _, _, _, _, _, _, _, _, _, _, _, _, _, _, _, _, _, _, _, _, _], .vw _ _]) hS rfl
     refine hK _ _ ?_; clear hK K
     refine wl_v (x_assign (tmI rfl rfl)) ?_
     refine wl_nil ?_
     refine then_n (hK9 _ _ ?_); clear hK9 K9
     refine wp_seq_k ?_; intro K10 hK10
     refine wlit ?_
     refine wl_v (x_fa 22 Tryd.underlying46 rfl rfl ts_43 (tmP rfl rfl)) ?_
     refine wl_v (x_loadA (cs := [_, _, _, _]) Tryd.underlying43 rfl ts_43 (tmP rfl rfl) (rangeB hS.ok 1 rfl rfl)) ?_
     refine wl_v (x_fa 3 Tryd.underlying46 rfl rfl ts_29 (tmP rfl rfl)) ?_
     refine wl_v (x_fa 0 Tryd.underlying29 rfl rfl ts_26 (tmP rfl rfl)) ?_
     refine wl_v (x_loadA (cs := [_, _, _]) Tryd.underlying26 rfl ts_26 (tmP rfl rfl) (rangeB hS.ok 1 rfl rfl)) ?_
     refine wl_v (x_fa 3 Tryd.underlying46 rfl rfl ts_29 (tmP rfl rfl)) ?_
     refine wl_v (x_fa 3 Tryd.underlying29 rfl rfl ts_26 (tmP rfl rfl)) ?_
     refine wl_v (x_loadA (cs := [_, _, _]) Tryd.underlying26 rfl ts_26 (tmP rfl rfl) (rangeB hS.ok 1 rfl rfl)) ?_
     refine wl_e rfl ?_; intro K hK
     refine ow_call Tryd.func24 rfl rfl (evs_cons (tmA rfl rfl) <| evs_cons (tmA rfl rfl) <| evs_cons (tmA rfl rfl) <| evs_nil) (rudp_fine_c t.u1 t.u2 t.u3 U t.x.length cu t.x i0.s i0.d _ (viewV hS.ok 0 rfl) rfl k1 h6 hls hld (by omega) k3 k4 k5) ?_
     rintro e w ⟨rfl, hk⟩
     refine ⟨_, rfl, ?_⟩
     rw [← hf]
     replace hS := hS.kept hk
     clear hk
     refine hK _ _ ?_; clear hK K
     refine wl_v (x_assign (tmB rfl rfl)) ?_
     refine wl_nil ?_
     refine then_n (hK10 _ _ ?_); clear hK10 K10
     refine wlit ?_
     refine wl_v (x_fa 22 Tryd.underlying46 rfl rfl ts_43 (tmP rfl rfl)) ?_
     refine wl_v (x_fa 0 Tryd.underlying43 rfl rfl ts_27 (tmP rfl rfl)) ?_
     refine wl_v (x_load Tryd.underlying27 rfl (tmP rfl rfl) (cellB hS.ok 1 rfl rfl)) ?_
     refine wl_v (x_fa 22 Tryd.underlying46 rfl rfl ts_43 (tmP rfl rfl)) ?_
     refine wl_v (x_fa 1 Tryd.underlying43 rfl rfl ts_27 (tmP rfl rfl)) ?_
     refine wl_v (x_load Tryd.underlying27 rfl (tmP rfl rfl) (cellB hS.ok 1 rfl rfl)) ?_
     refine wl_v (x_fa 3 Tryd.underlying46 rfl rfl ts_29 (tmP rfl rfl)) ?_
     refine wl_v (x_fa 6 Tryd.underlying29 rfl rfl ts_27 (tmP rfl rfl)) ?_
     refine wl_e rfl ?_; intro K hK
     refine ow_store hS 1 rfl ts_27 (tmP rfl rfl) (tmI rfl rfl) rfl rfl ?_
     clear hS; intro w hS
     try replace hS := St.nm (M' := [.vw _ _, .blk _ _ [_, _, _, _, _, _, _, _, _, _, _, _, _, _, _, _, _, _, _, _, _, _, _, _, _, _, _, _, _, _, _], .vw _ _, .blk _ _ [_, _, _, _, _, _, _, _, _, _, _, _, _, _, _, _, _, _, _, _, _, _, _, _, _, _, _, _, _, _, _], .vw _ _]) hS rfl
     refine hK _ _ ?_; clear hK K
     refine wl_v (x_fa 3 Tryd.underlying46 rfl rfl ts_29 (tmP rfl rfl)) ?_
     refine wl_v (x_fa 7 Tryd.underlying29 rfl rfl ts_27 (tmP rfl rfl)) ?_
     refine wl_e rfl ?_; intro K hK
     refine ow_store hS 1 rfl ts_27 (tmP rfl rfl) (tmI rfl rfl) rfl rfl ?_
     clear hS; intro w hS
     try replace hS := St.nm (M' := [.vw _ _, .blk _ _ [_, _, _, _, _, _, _, _, _, _, _, _, _, _, _, _, _, _, _, _, _, _, _, _, _, _, _, _, _, _, _], .vw _ _, .blk _ _ [_, _, _, _, _, _, _, _, _, _, _, _, _, _, _, _, _, _, _, _, _, _, _, _, _, _, _, _, _, _, _], .vw _ _]) hS rfl
     refine hK _ _ ?_; clear hK K
     refine wl_nil ?_
     refine inb_n ?_
     refine then_n (hK6 _ _ ?_); clear hK6 K6
     refine wp_seq_k ?_; intro K11 hK11
     refine wp_seq_k ?_; intro K12 hK12
     refine wlit ?_
     refine wl_v (x_move (tmI rfl rfl)) ?_
     refine wl_v (x_neq (tmI rfl rfl) (ev_cN 0)) ?_
     refine wl_nil ?_
     refine then_n (hK12 _ _ ?_); clear hK12 K12
     refine cnd (tm rfl) (fun hc5 => ?_) (fun hc5 => ?_)
     · skip
       all_goals
        try simp only [nrm] at hc5
        refine wp_seq_k ?_; intro K13 hK13
        refine wlit ?_
        refine wl_v (x_build (bc_skip (.bool false) <| bc_skip (.bool false) <| bc_skip (.int .u8 0) <| bc_skipL [.bool false, .int .u64 0, .int .u64 0, .bool false, .int .u64 0, .int .u64 0, .int .u16 0, .int .u16 0, .int .u8 0] <| bc_skipL [.int .u16 0, .int .u16 0, .int .u32 0, .int .u32 0, .int .u8 0, .int .u16 0, .int .u16 0, .int .u16 0, .slice none 0 0, .slice none 0 0] <| bc_skipL [.int .u16 0, .int .u16 0, .int .u16 0, .slice none 0 0] <| bc_skipL [.int .u8 0, .int .u8 0, .int .u16 0, .int .u32 0, .slice none 0 0] <| bc_nil) (by kernel_rfl)) ?_
        refine wl_v (x_move (tmI rfl rfl)) ?_
        refine wl_e rfl ?_; intro K hK
        refine ow_call Tryd.func15 rfl rfl (evs_cons (tmI rfl rfl) <| evs_nil) (rof_c (er : Int) _) ?_
        rintro e w ⟨rfl, hk⟩
        refine ⟨_, rfl, ?_⟩
        replace hS := hS.kept hk
        clear hk
        refine hK _ _ ?_; clear hK K
        refine wl_e rfl ?_; intro K hK
        refine ow_storeA hS 3 rfl ts_46 (tmP rfl rfl) (tmA rfl rfl) rfl rfl rfl ?_
        clear hS; intro w hS
        try replace hS := St.nm (M' := [.vw _ _, .blk _ _ [_, _, _, _, _, _, _, _, _, _, _, _, _, _, _, _, _, _, _, _, _, _, _, _, _, _, _, _, _, _, _], .vw _ _, .blk _ _ [_, _, _, _, _, _, _, _, _, _, _, _, _, _, _, _, _, _, _, _, _, _, _, _, _, _, _, _, _, _, _], .vw _ _]) hS rfl
        refine hK _ _ ?_; clear hK K
        refine wl_v (x_assign (tmI rfl rfl)) ?_
        refine wl_nil ?_
        refine then_n (hK13 _ _ ?_); clear hK13 K13
        refine wp_ret ?_
        refine then_r ?_
        refine ret2 rfl (.cell rfl rfl (load_rowB (cs := [_, _, _, _, _, _, _, _, _, _, _, _, _, _, _, _, _, _, _, _, _, _, _, _, _, _, _, _, _, _, _]) hS.ok 3 rfl Tryd.underlying46 rfl ts_46 rfl)) (.tmp rfl (show _ = Value.int _ _ from rfl)) ?_
        have hz := GiP.z (w := w0) (w' := w)
        first
          | (rw [(finI_bad (er := er) hc5).1, chk_bad hc5]
             exact ⟨Pl.Z, rfl, hz.1, hz.2.1, hz.2.2.1, hz.2.2.2, hS.kp⟩)
          | (have hff : f = false := by first | exact hc6 | simpa using hc6
             rw [(finI_sum (er := er) hc5 hff).1, chk_sum hc5 hff]
             exact ⟨Pl.Z, rfl, hz.1, hz.2.1, hz.2.2.1, hz.2.2.2, hS.kp⟩)
          | (have hff : f = true := by first | exact hc6 | simpa using hc6
             rw [(finI_ok (er := er) hc5 hff).1, chk_ok hc5 hff]
             obtain ⟨six, stay, ttl, s, d, sp, dp, pr, T, D, I⟩ := i0
             obtain rfl : T = Sg.Z := hT
             obtain rfl : D = Dg.Z := hD
             obtain rfl : I = Mg.Z := hI
             exact ⟨⟨none, 0, none, 0, U, cu, none, 0⟩, rfl, newV_nil _ _, newV_nil _ _, ⟨viewV hS.ok 0 rfl, d1⟩, newV_nil _ _, hS.kp⟩)
     all_goals
      try simp only [nrm] at hc5
      refine wp_skip ?_
      refine then_n (hK11 _ _ ?_); clear hK11 K11
      refine wp_seq_k ?_; intro K15 hK15
      refine wp_seq_k ?_; intro K16 hK16
      refine wlit ?_
      refine wl_v (x_move (tmB rfl rfl)) ?_
      refine wl_v (x_not (tmB rfl rfl)) ?_
      refine wl_nil ?_
      refine then_n (hK16 _ _ ?_); clear hK16 K16
      refine cnd (tm rfl) (fun hc6 => ?_) (fun hc6 => ?_)
      · skip
        all_goals
         try simp only [nrm] at hc6
         refine wp_seq_k ?_; intro K17 hK17
         refine wlit ?_
         refine wl_v (x_build (bc_skip (.bool false) <| bc_skip (.bool false) <| bc_skip (.int .u8 0) <| bc_skipL [.bool false, .int .u64 0, .int .u64 0, .bool false, .int .u64 0, .int .u64 0, .int .u16 0, .int .u16 0, .int .u8 0] <| bc_skipL [.int .u16 0, .int .u16 0, .int .u32 0, .int .u32 0, .int .u8 0, .int .u16 0, .int .u16 0, .int .u16 0, .slice none 0 0, .slice none 0 0] <| bc_skipL [.int .u16 0, .int .u16 0, .int .u16 0, .slice none 0 0] <| bc_skipL [.int .u8 0, .int .u8 0, .int .u16 0, .int .u32 0, .slice none 0 0] <| bc_nil) (by kernel_rfl)) ?_
         refine wl_e rfl ?_; intro K hK
         refine ow_storeA hS 3 rfl ts_46 (tmP rfl rfl) (tmA rfl rfl) rfl rfl rfl ?_
         clear hS; intro w hS
         try replace hS := St.nm (M' := [.vw _ _, .blk _ _ [_, _, _, _, _, _, _, _, _, _, _, _, _, _, _, _, _, _, _, _, _, _, _, _, _, _, _, _, _, _, _], .vw _ _, .blk _ _ [_, _, _, _, _, _, _, _, _, _, _, _, _, _, _, _, _, _, _, _, _, _, _, _, _, _, _, _, _, _, _], .vw _ _]) hS rfl
         refine hK _ _ ?_; clear hK K
         refine wl_v (x_assign (ev_cN 3)) ?_
         refine wl_nil ?_
         refine then_n (hK17 _ _ ?_); clear hK17 K17
         refine wp_ret ?_
         refine then_r ?_
         refine ret2 rfl (.cell rfl rfl (load_rowB (cs := [_, _, _, _, _, _, _, _, _, _, _, _, _, _, _, _, _, _, _, _, _, _, _, _, _, _, _, _, _, _, _]) hS.ok 3 rfl Tryd.underlying46 rfl ts_46 rfl)) (.tmp rfl (show _ = Value.int _ _ from rfl)) ?_
         have hz := GiP.z (w := w0) (w' := w)
         first
           | (rw [(finI_bad (er := er) hc5).1, chk_bad hc5]
              exact ⟨Pl.Z, rfl, hz.1, hz.2.1, hz.2.2.1, hz.2.2.2, hS.kp⟩)
           | (have hff : f = false := by first | exact hc6 | simpa using hc6
              rw [(finI_sum (er := er) hc5 hff).1, chk_sum hc5 hff]
              exact ⟨Pl.Z, rfl, hz.1, hz.2.1, hz.2.2.1, hz.2.2.2, hS.kp⟩)
           | (have hff : f = true := by first | exact hc6 | simpa using hc6
              rw [(finI_ok (er := er) hc5 hff).1, chk_ok hc5 hff]
              obtain ⟨six, stay, ttl, s, d, sp, dp, pr, T, D, I⟩ := i0
              obtain rfl : T = Sg.Z := hT
              obtain rfl : D = Dg.Z := hD
              obtain rfl : I = Mg.Z := hI
              exact ⟨⟨none, 0, none, 0, U, cu, none, 0⟩, rfl, newV_nil _ _, newV_nil _ _, ⟨viewV hS.ok 0 rfl, d1⟩, newV_nil _ _, hS.kp⟩)
      all_goals
       try simp only [nrm] at hc6
       refine wp_skip ?_
       refine then_n (hK15 _ _ ?_); clear hK15 K15
       refine wp_seq_k ?_; intro K19 hK19
       refine wlit ?_
       refine wl_v (x_loadA (cs := [_, _, _, _, _, _, _, _, _, _, _, _, _, _, _, _, _, _, _, _, _, _, _, _, _, _, _, _, _, _, _]) Tryd.underlying46 rfl ts_46 (tmP rfl rfl) (rangeB hS.ok 1 rfl rfl)) ?_
       refine wl_e rfl ?_; intro K hK
       refine ow_storeA hS 3 rfl ts_46 (tmP rfl rfl) (tmA rfl rfl) rfl rfl rfl ?_
       clear hS; intro w hS
       try replace hS := St.nm (M' := [.vw _ _, .blk _ _ [_, _, _, _, _, _, _, _, _, _, _, _, _, _, _, _, _, _, _, _, _, _, _, _, _, _, _, _, _, _, _], .vw _ _, .blk _ _ [_, _, _, _, _, _, _, _, _, _, _, _, _, _, _, _, _, _, _, _, _, _, _, _, _, _, _, _, _, _, _], .vw _ _]) hS rfl
       refine hK _ _ ?_; clear hK K
       refine wl_v (x_assign (ev_cN 0)) ?_
       refine wl_nil ?_
       refine then_n (hK19 _ _ ?_); clear hK19 K19
       refine wp_ret ?_
       refine ret2 rfl (.cell rfl rfl (load_rowB (cs := [_, _, _, _, _, _, _, _, _, _, _, _, _, _, _, _, _, _, _, _, _, _, _, _, _, _, _, _, _, _, _]) hS.ok 3 rfl Tryd.underlying46 rfl ts_46 rfl)) (.tmp rfl (show _ = Value.int _ _ from rfl)) ?_
       have hz := GiP.z (w := w0) (w' := w)
       first
         | (rw [(finI_bad (er := er) hc5).1, chk_bad hc5]
            exact ⟨Pl.Z, rfl, hz.1, hz.2.1, hz.2.2.1, hz.2.2.2, hS.kp⟩)
         | (have hff : f = false := by first | exact hc6 | simpa using hc6
            rw [(finI_sum (er := er) hc5 hff).1, chk_sum hc5 hff]
            exact ⟨Pl.Z, rfl, hz.1, hz.2.1, hz.2.2.1, hz.2.2.2, hS.kp⟩)
         | (have hff : f = true := by first | exact hc6 | simpa using hc6
            rw [(finI_ok (er := er) hc5 hff).1, chk_ok hc5 hff]
            obtain ⟨six, stay, ttl, s, d, sp, dp, pr, T, D, I⟩ := i0
            obtain rfl : T = Sg.Z := hT
            obtain rfl : D = Dg.Z := hD
            obtain rfl : I = Mg.Z := hI
            exact ⟨⟨none, 0, none, 0, U, cu, none, 0⟩, rfl, newV_nil _ _, newV_nil _ _, ⟨viewV hS.ok 0 rfl, d1⟩, newV_nil _ _, hS.kp⟩)
set_option maxRecDepth 100000 in
set_option maxHeartbeats 8000000 in
theorem rhost_icmp (l : List Nat) (i : Inf) (hT : i.T = Sg.Z) (hD : i.D = Dg.Z) (hI : i.I = Mg.Z) (x : List Nat) (t : Mg) (er : Nat) (her : er = 0 ∨ er = 20) (hpr : (i.pr = 1 ∧ i.six = false) ∨ (i.pr = 58 ∧ i.six = true)) (hx : x.length ≤ 3000) (h6 : i.s.six = i.d.six) (hls : adLim i.s) (hld : adLim i.d) (ht : t.ok) (hH : HdP 20 l i x 0) (hP : PMr x t er) (f : Bool) (hf : f = decide (foldN (icS t.m1 t.m2 t.m3 t.m4 t.x i.s i.d) = 65535)) :
    GiP 10 [] l (finI ⟨i.six, i.stay, i.ttl, i.s, i.d, i.sp, i.dp, i.pr, i.T, i.D, t⟩ (chk (er : Int) f)) (chk (er : Int) f) := fun w0 A c hv hc => by
  have hS := (St.sv w0).vcons rfl hv
  obtain ⟨k1, k2, k3, k4, k5, k6⟩ := ht
  have hfb := foldN_bd (icS t.m1 t.m2 t.m3 t.m4 t.x i.s i.d)
  refine ent (n := 128) Tryd.func10 rfl rfl ?_
  refine wp_seq_k ?_; intro K1 hK1
  refine wlit ?_
  refine wl_e rfl ?_; intro K hK
  refine ow_alloc hS tz_46 rfl ?_
  clear hS; intro g0_0 w hg0_0 hS
  refine hK _ _ ?_; clear hK K
  refine wl_v (x_assign (ev_cN 0)) ?_
  refine wl_nil ?_
  refine then_n (hK1 _ _ ?_); clear hK1 K1
  refine wp_seq_k ?_; intro K2 hK2
  refine wlit ?_
  refine wl_v (x_move (tmS rfl rfl)) ?_
  refine wl_e rfl ?_; intro K hK
  refine ow_call Tryd.func20 rfl rfl (evs_cons (tmS rfl rfl) <| evs_nil) (hH _ A c (viewV hS.ok 1 rfl) hc) ?_
  rintro e w ⟨i0, x0, L, cl, hi, hcl, rfl, hn, hk⟩
  refine ⟨_, rfl, ?_⟩
  replace hS := hS.addn hk hn -- +vx
  clear hn hk
  obtain ⟨rfl, rfl⟩ := hi rfl
  refine hK _ _ ?_; clear hK K
  refine wl_v (x_move (tmT rfl rfl)) ?_
  refine wl_v (x_ext (tmT rfl rfl) rfl) ?_
  refine wl_v (x_ext (tmT rfl rfl) rfl) ?_
  refine wl_v (x_ext (tmT rfl rfl) rfl) ?_
  refine wl_e rfl ?_; intro K hK
  refine ow_alloc hS tz_46 rfl ?_
  clear hS; intro g1_6 w hg1_6 hS
  refine hK _ _ ?_; clear hK K
  refine wl_e rfl ?_; intro K hK
  refine ow_storeA hS 0 rfl ts_46 (tmP rfl rfl) (tmA rfl rfl) rfl rfl rfl ?_
  clear hS; intro w hS
  try replace hS := St.nm (M' := [.blk _ _ [_, _, _, _, _, _, _, _, _, _, _, _, _, _, _, _, _, _, _, _, _, _, _, _, _, _, _, _, _, _, _], .vw _ _, .blk _ _ [_, _, _, _, _, _, _, _, _, _, _, _, _, _, _, _, _, _, _, _, _, _, _, _, _, _, _, _, _, _, _], .vw _ _]) hS rfl
  refine hK _ _ ?_; clear hK K
  refine wl_v (x_assign (tmS rfl rfl)) ?_
  refine wl_v (x_assign (tmI rfl rfl)) ?_
  refine wl_nil ?_
  refine then_n (hK2 _ _ ?_); clear hK2 K2
  refine wp_seq_k ?_; intro K3 hK3
  refine wp_seq_k ?_; intro K4 hK4
  refine wlit ?_
  refine wl_v (x_move (tmI rfl rfl)) ?_
  refine wl_v (x_neq (tmI rfl rfl) (ev_cN 0)) ?_
  refine wl_nil ?_
  refine then_n (hK4 _ _ ?_); clear hK4 K4
  refine cnd (tm rfl) (fun hc0 => ?_) (fun hc0 => ?_)
  · exfalso
    simp at hc0
  all_goals
   try simp only [nrm] at hc0
   refine wp_skip ?_
   refine then_n (hK3 _ _ ?_); clear hK3 K3
   refine wp_seq_k ?_; intro K5 hK5
   refine wlit ?_
   refine wl_v (x_assign (ev_cN 0)) ?_
   refine wl_v (x_assign ev_c) ?_
   refine wl_nil ?_
   refine then_n (hK5 _ _ ?_); clear hK5 K5
   refine wp_seq_k ?_; intro K6 hK6
   refine wp_block ?_
   refine wp_seq_k ?_; intro K7 hK7
   refine wlit ?_
   refine wl_v (x_fa 3 Tryd.underlying46 rfl rfl ts_29 (tmP rfl rfl)) ?_
   refine wl_v (x_fa 8 Tryd.underlying29 rfl rfl ts_5 (tmP rfl rfl)) ?_
   refine wl_v (x_load Tryd.underlying5 rfl (tmP rfl rfl) (cellB hS.ok 0 rfl rfl)) ?_
   refine wl_v (x_eql (tmI rfl rfl) (ev_cN 6)) ?_
   refine wl_v (x_assign (tmB rfl rfl)) ?_
   refine wl_nil ?_
   refine then_n (hK7 _ _ ?_); clear hK7 K7
   refine cnd (tm rfl) (fun hc1 => ?_) (fun hc1 => ?_)
   · exfalso
     first | omega | (simp at hc1; omega)
   all_goals
    try simp only [nrm] at hc1
    refine wp_seq_k ?_; intro K8 hK8
    refine wlit ?_
    refine wl_v (x_fa 3 Tryd.underlying46 rfl rfl ts_29 (tmP rfl rfl)) ?_
    refine wl_v (x_fa 8 Tryd.underlying29 rfl rfl ts_5 (tmP rfl rfl)) ?_
    refine wl_v (x_load Tryd.underlying5 rfl (tmP rfl rfl) (cellB hS.ok 0 rfl rfl)) ?_
    refine wl_v (x_eql (tmI rfl rfl) (ev_cN 17)) ?_
    refine wl_v (x_assign (tmB rfl rfl)) ?_
    refine wl_nil ?_
    refine then_n (hK8 _ _ ?_); clear hK8 K8
    refine cnd (tm rfl) (fun hc2 => ?_) (fun hc2 => ?_)
    · exfalso
      first | omega | (simp at hc2; omega)
    all_goals
     try simp only [nrm] at hc2
     refine wp_seq_k ?_; intro K9 hK9
     refine wlit ?_
     refine wl_v (x_fa 0 Tryd.underlying46 rfl rfl ts_4 (tmP rfl rfl)) ?_
     refine wl_v (x_load Tryd.underlying4 rfl (tmP rfl rfl) (cellB hS.ok 0 rfl rfl)) ?_
     refine wl_v (x_not (tmB rfl rfl)) ?_
     refine wl_v (x_move (tmB rfl rfl)) ?_
     refine gs_wl (tm (t := 85) rfl) (fun hg14_3 => ?_) (fun hg14_3 => ?_)
     · have hg14_3' := hg14_3; (try simp only [nrm] at hg14_3')
       all_goals
        refine wl_gv (want_y rfl rfl rfl rfl (by rw [hg14_3]; rfl)) (x_fa 3 Tryd.underlying46 rfl rfl ts_29 (tmP rfl rfl)) ?_
        refine wl_gv (want_y rfl rfl rfl rfl (by rw [hg14_3]; rfl)) (x_fa 8 Tryd.underlying29 rfl rfl ts_5 (tmP rfl rfl)) ?_
        refine wl_gv (want_y rfl rfl rfl rfl (by rw [hg14_3]; rfl)) (x_load Tryd.underlying5 rfl (tmP rfl rfl) (cellB hS.ok 0 rfl rfl)) ?_
        refine wl_gv (want_y rfl rfl rfl rfl (by rw [hg14_3]; rfl)) (x_eql (tmI rfl rfl) (ev_cN 1)) ?_
        refine wl_v (x_pickT (tmB rfl rfl) hg14_3 (tmB rfl rfl)) ?_
        refine wl_v (x_move (tmB rfl rfl)) ?_
        refine gs_wls (tm (t := 91) rfl) (fun hg14_9 => ?_) (fun hg14_9 => ?_)
        · exfalso
          rcases hpr with ⟨h1, h2⟩ | ⟨h1, h2⟩
          · rw [h1] at hg14_9
            exact absurd hg14_9 (by decide)
          · exact Bool.noConfusion (h2.symm.trans hg14_3')
        have hg14_9' := hg14_9; (try simp only [nrm] at hg14_9')
        all_goals
         refine wl_s rfl (want_n rfl rfl rfl rfl (by rw [hg14_9]; rfl)) ?_
         refine wl_s rfl (want_n rfl rfl rfl rfl (by rw [hg14_9]; rfl)) ?_
         refine wl_s rfl (want_n rfl rfl rfl rfl (by rw [hg14_9]; rfl)) ?_
         refine wl_s rfl (want_u rfl rfl rfl rfl) ?_
         refine wl_s rfl (want_u rfl rfl rfl rfl) ?_
         refine wl_s rfl (want_u rfl rfl rfl rfl) ?_
         refine wl_s rfl (want_u rfl rfl rfl rfl) ?_
         refine wl_s rfl (want_n rfl rfl rfl rfl (by rw [hg14_9]; rfl)) ?_
         refine wl_v (x_pickT (tmB rfl rfl) hg14_9 ev_c) ?_
         refine wl_v (x_assign (tmB rfl rfl)) ?_
         refine wl_nil ?_
         refine then_n (hK9 _ _ ?_); clear hK9 K9
         refine cnd_t (tmB rfl rfl) rfl ?_
         refine wp_seq_k ?_; intro K10 hK10
         refine wlit ?_
         refine wl_v (x_move (tmS rfl rfl)) ?_
         refine wl_e rfl ?_; intro K hK
         refine ow_call Tryd.func25 rfl rfl (evs_cons (tmS rfl rfl) <| evs_nil) (hP _ L cl (viewV hS.ok 1 rfl) hcl) ?_
         rintro e w ⟨U, cu, rfl, hn1, hk⟩
         refine ⟨_, rfl, ?_⟩
         have d1 := hn1.newb hS
         replace hS := hS.addn hk hn1 -- +v1
         clear hn1 hk
         refine hK _ _ ?_; clear hK K
         refine wl_v (x_move (tmT rfl rfl)) ?_
         refine wl_v (x_ext (tmT rfl rfl) rfl) ?_
         refine wl_v (x_ext (tmT rfl rfl) rfl) ?_
         refine wl_e rfl ?_; intro K hK
         refine ow_alloc hS tz_44 rfl ?_
         clear hS; intro g15_5 w hg15_5 hS
         refine hK _ _ ?_; clear hK K
         refine wl_e rfl ?_; intro K hK
         refine ow_storeA hS 0 rfl ts_44 (tmP rfl rfl) (tmA rfl rfl) rfl rfl rfl ?_
         clear hS; intro w hS
         try replace hS := St.nm (M' := [.blk _ _ [_, _, _, _, _], .vw _ _, .blk _ _ [_, _, _, _, _, _, _, _, _, _, _, _, _, _, _, _, _, _, _, _, _, _, _, _, _, _, _, _, _, _, _], .vw _ _, .blk _ _ [_, _, _, _, _, _, _, _, _, _, _, _, _, _, _, _, _, _, _, _, _, _, _, _, _, _, _, _, _, _, _], .vw _ _]) hS rfl
         refine hK _ _ ?_; clear hK K
         refine wl_v (x_assign (tmB rfl rfl)) ?_
         refine wl_nil ?_
         refine then_n (hK10 _ _ ?_); clear hK10 K10
         refine wp_seq_k ?_; intro K11 hK11
         refine wlit ?_
         refine wl_v (x_loadA (cs := [_, _, _, _, _]) Tryd.underlying44 rfl ts_44 (tmP rfl rfl) (rangeB hS.ok 0 rfl rfl)) ?_
         refine wl_v (x_fa 26 Tryd.underlying46 rfl rfl ts_44 (tmP rfl rfl)) ?_
         refine wl_e rfl ?_; intro K hK
         refine ow_storeA hS 2 rfl ts_44 (tmP rfl rfl) (tmA rfl rfl) rfl rfl rfl ?_
         clear hS; intro w hS
         try replace hS := St.nm (M' := [.blk _ _ [_, _, _, _, _], .vw _ _, .blk _ _ [_, _, _, _, _, _, _, _, _, _, _, _, _, _, _, _, _, _, _, _, _, _, _, _, _, _, _, _, _, _, _], .vw _ _, .blk _ _ [_, _, _, _, _, _, _, _, _, _, _, _, _, _, _, _, _, _, _, _, _, _, _, _, _, _, _, _, _, _, _], .vw _ _]) hS rfl
         refine hK _ _ ?_; clear hK K
         refine wl_nil ?_
         refine then_n (hK11 _ _ ?_); clear hK11 K11
         refine wp_seq_k ?_; intro K12 hK12
         refine wp_seq_k ?_; intro K13 hK13
         refine wlit ?_
         refine wl_v (x_move (tmB rfl rfl)) ?_
         refine wl_v (x_not (tmB rfl rfl)) ?_
         refine wl_nil ?_
         refine then_n (hK13 _ _ ?_); clear hK13 K13
         refine cnd (tm rfl) (fun hc4 => ?_) (fun hc4 => ?_)
         · skip
           all_goals
            try simp only [nrm] at hc4
            refine wlit ?_
            refine wl_v (x_assign (ev_cN 20)) ?_
            refine wl_nil ?_
            refine then_n (hK12 _ _ ?_); clear hK12 K12
            refine wlit ?_
            refine wl_v (x_loadA (cs := [_, _, _, _, _]) Tryd.underlying44 rfl ts_44 (tmP rfl rfl) (rangeB hS.ok 0 rfl rfl)) ?_
            refine wl_v (x_fa 3 Tryd.underlying46 rfl rfl ts_29 (tmP rfl rfl)) ?_
            refine wl_v (x_fa 0 Tryd.underlying29 rfl rfl ts_26 (tmP rfl rfl)) ?_
            refine wl_v (x_loadA (cs := [_, _, _]) Tryd.underlying26 rfl ts_26 (tmP rfl rfl) (rangeB hS.ok 2 rfl rfl)) ?_
            refine wl_v (x_fa 3 Tryd.underlying46 rfl rfl ts_29 (tmP rfl rfl)) ?_
            refine wl_v (x_fa 3 Tryd.underlying29 rfl rfl ts_26 (tmP rfl rfl)) ?_
            refine wl_v (x_loadA (cs := [_, _, _]) Tryd.underlying26 rfl ts_26 (tmP rfl rfl) (rangeB hS.ok 2 rfl rfl)) ?_
            refine wl_e rfl ?_; intro K hK
            refine ow_call Tryd.func26 rfl rfl (evs_cons (tmA rfl rfl) <| evs_cons (tmA rfl rfl) <| evs_cons (tmA rfl rfl) <| evs_nil) (ricmp_check_c t.m1 t.m2 t.m3 t.m4 U t.x.length cu t.x i0.s i0.d _ (viewV hS.ok 1 rfl) rfl k1 h6 hls hld (by omega) k3 k4 k5 k6) ?_
            rintro e w ⟨rfl, hk⟩
            refine ⟨_, rfl, ?_⟩
            replace hS := hS.kept hk
            clear hk
            refine hK _ _ ?_; clear hK K
            refine wl_v (x_eql (tmI rfl rfl) (ev_cN 0)) ?_
            refine wl_v (x_assign (tmB rfl rfl)) ?_
            refine wl_nil ?_
            refine inb_n ?_
            refine then_n (hK6 _ _ ?_); clear hK6 K6
            refine wp_seq_k ?_; intro K14 hK14
            refine wp_seq_k ?_; intro K15 hK15
            refine wlit ?_
            refine wl_v (x_move (tmI rfl rfl)) ?_
            refine wl_v (x_neq (tmI rfl rfl) (ev_cN 0)) ?_
            refine wl_nil ?_
            refine then_n (hK15 _ _ ?_); clear hK15 K15
            refine cnd (tm rfl) (fun hc5 => ?_) (fun hc5 => ?_)
            · skip
              all_goals
               try simp only [nrm] at hc5
               refine wp_seq_k ?_; intro K16 hK16
               refine wlit ?_
               refine wl_v (x_build (bc_skip (.bool false) <| bc_skip (.bool false) <| bc_skip (.int .u8 0) <| bc_skipL [.bool false, .int .u64 0, .int .u64 0, .bool false, .int .u64 0, .int .u64 0, .int .u16 0, .int .u16 0, .int .u8 0] <| bc_skipL [.int .u16 0, .int .u16 0, .int .u32 0, .int .u32 0, .int .u8 0, .int .u16 0, .int .u16 0, .int .u16 0, .slice none 0 0, .slice none 0 0] <| bc_skipL [.int .u16 0, .int .u16 0, .int .u16 0, .slice none 0 0] <| bc_skipL [.int .u8 0, .int .u8 0, .int .u16 0, .int .u32 0, .slice none 0 0] <| bc_nil) (by kernel_rfl)) ?_
               refine wl_v (x_move (tmI rfl rfl)) ?_
               refine wl_e rfl ?_; intro K hK
               refine ow_call Tryd.func15 rfl rfl (evs_cons (tmI rfl rfl) <| evs_nil) (rof_c _ _) ?_
               rintro e w ⟨rfl, hk⟩
               refine ⟨_, rfl, ?_⟩
               replace hS := hS.kept hk
               clear hk
               refine hK _ _ ?_; clear hK K
               refine wl_e rfl ?_; intro K hK
               refine ow_storeA hS 4 rfl ts_46 (tmP rfl rfl) (tmA rfl rfl) rfl rfl rfl ?_
               clear hS; intro w hS
               try replace hS := St.nm (M' := [.blk _ _ [_, _, _, _, _], .vw _ _, .blk _ _ [_, _, _, _, _, _, _, _, _, _, _, _, _, _, _, _, _, _, _, _, _, _, _, _, _, _, _, _, _, _, _], .vw _ _, .blk _ _ [_, _, _, _, _, _, _, _, _, _, _, _, _, _, _, _, _, _, _, _, _, _, _, _, _, _, _, _, _, _, _], .vw _ _]) hS rfl
               refine hK _ _ ?_; clear hK K
               refine wl_v (x_assign (tmI rfl rfl)) ?_
               refine wl_nil ?_
               refine then_n (hK16 _ _ ?_); clear hK16 K16
               refine wp_ret ?_
               refine then_r ?_
               refine ret2 rfl (.cell rfl rfl (load_rowB (cs := [_, _, _, _, _, _, _, _, _, _, _, _, _, _, _, _, _, _, _, _, _, _, _, _, _, _, _, _, _, _, _]) hS.ok 4 rfl Tryd.underlying46 rfl ts_46 rfl)) (.tmp rfl (show _ = Value.int _ _ from rfl)) ?_
               have hz := GiP.z (w := w0) (w' := w)
               first
                 | (obtain rfl : er = 20 := by omega
                    rw [(finI_bad (er := 20) (by omega)).1, chk_bad (er := 20) (by omega)]
                    exact ⟨Pl.Z, rfl, hz.1, hz.2.1, hz.2.2.1, hz.2.2.2, hS.kp⟩)
                 | (have hff : f = false := by rw [hf]; exact decide_eq_false (by omega)
                    rw [(finI_sum (er := er) hc4 hff).1, chk_sum hc4 hff]
                    exact ⟨Pl.Z, rfl, hz.1, hz.2.1, hz.2.2.1, hz.2.2.2, hS.kp⟩)
                 | (have hff : f = true := by rw [hf]; exact decide_eq_true (by omega)
                    rw [(finI_ok (er := er) hc4 hff).1, chk_ok hc4 hff]
                    obtain ⟨six, stay, ttl, s, d, sp, dp, pr, T, D, I⟩ := i0
                    obtain rfl : T = Sg.Z := hT
                    obtain rfl : D = Dg.Z := hD
                    obtain rfl : I = Mg.Z := hI
                    exact ⟨⟨none, 0, none, 0, none, 0, U, cu⟩, rfl, newV_nil _ _, newV_nil _ _, newV_nil _ _, ⟨viewV hS.ok 1 rfl, d1⟩, hS.kp⟩)
            try (exfalso; first | with_reducible exact absurd hc5 Bool.false_ne_true | with_reducible exact absurd hc5.symm Bool.false_ne_true | (simp only [nrm] at hc5; omega) | (simp at hc5; done))
            all_goals
             try simp only [nrm] at hc5
             refine wp_skip ?_
             refine then_n (hK14 _ _ ?_); clear hK14 K14
             refine wp_seq_k ?_; intro K18 hK18
             refine wp_seq_k ?_; intro K19 hK19
             refine wlit ?_
             refine wl_v (x_move (tmB rfl rfl)) ?_
             refine wl_v (x_not (tmB rfl rfl)) ?_
             refine wl_nil ?_
             refine then_n (hK19 _ _ ?_); clear hK19 K19
             refine cnd (tm rfl) (fun hc6 => ?_) (fun hc6 => ?_)
             · skip
               all_goals
                try simp only [nrm] at hc6
                refine wp_seq_k ?_; intro K20 hK20
                refine wlit ?_
                refine wl_v (x_build (bc_skip (.bool false) <| bc_skip (.bool false) <| bc_skip (.int .u8 0) <| bc_skipL [.bool false, .int .u64 0, .int .u64 0, .bool false, .int .u64 0, .int .u64 0, .int .u16 0, .int .u16 0, .int .u8 0] <| bc_skipL [.int .u16 0, .int .u16 0, .int .u32 0, .int .u32 0, .int .u8 0, .int .u16 0, .int .u16 0, .int .u16 0, .slice none 0 0, .slice none 0 0] <| bc_skipL [.int .u16 0, .int .u16 0, .int .u16 0, .slice none 0 0] <| bc_skipL [.int .u8 0, .int .u8 0, .int .u16 0, .int .u32 0, .slice none 0 0] <| bc_nil) (by kernel_rfl)) ?_
                refine wl_e rfl ?_; intro K hK
                refine ow_storeA hS 4 rfl ts_46 (tmP rfl rfl) (tmA rfl rfl) rfl rfl rfl ?_
                clear hS; intro w hS
                try replace hS := St.nm (M' := [.blk _ _ [_, _, _, _, _], .vw _ _, .blk _ _ [_, _, _, _, _, _, _, _, _, _, _, _, _, _, _, _, _, _, _, _, _, _, _, _, _, _, _, _, _, _, _], .vw _ _, .blk _ _ [_, _, _, _, _, _, _, _, _, _, _, _, _, _, _, _, _, _, _, _, _, _, _, _, _, _, _, _, _, _, _], .vw _ _]) hS rfl
                refine hK _ _ ?_; clear hK K
                refine wl_v (x_assign (ev_cN 3)) ?_
                refine wl_nil ?_
                refine then_n (hK20 _ _ ?_); clear hK20 K20
                refine wp_ret ?_
                refine then_r ?_
                refine ret2 rfl (.cell rfl rfl (load_rowB (cs := [_, _, _, _, _, _, _, _, _, _, _, _, _, _, _, _, _, _, _, _, _, _, _, _, _, _, _, _, _, _, _]) hS.ok 4 rfl Tryd.underlying46 rfl ts_46 rfl)) (.tmp rfl (show _ = Value.int _ _ from rfl)) ?_
                have hz := GiP.z (w := w0) (w' := w)
                first
                  | (obtain rfl : er = 20 := by omega
                     rw [(finI_bad (er := 20) (by omega)).1, chk_bad (er := 20) (by omega)]
                     exact ⟨Pl.Z, rfl, hz.1, hz.2.1, hz.2.2.1, hz.2.2.2, hS.kp⟩)
                  | (have hff : f = false := by rw [hf]; exact decide_eq_false (by omega)
                     rw [(finI_sum (er := er) hc4 hff).1, chk_sum hc4 hff]
                     exact ⟨Pl.Z, rfl, hz.1, hz.2.1, hz.2.2.1, hz.2.2.2, hS.kp⟩)
                  | (have hff : f = true := by rw [hf]; exact decide_eq_true (by omega)
                     rw [(finI_ok (er := er) hc4 hff).1, chk_ok hc4 hff]
                     obtain ⟨six, stay, ttl, s, d, sp, dp, pr, T, D, I⟩ := i0
                     obtain rfl : T = Sg.Z := hT
                     obtain rfl : D = Dg.Z := hD
                     obtain rfl : I = Mg.Z := hI
                     exact ⟨⟨none, 0, none, 0, none, 0, U, cu⟩, rfl, newV_nil _ _, newV_nil _ _, newV_nil _ _, ⟨viewV hS.ok 1 rfl, d1⟩, hS.kp⟩)
             all_goals
              try simp only [nrm] at hc6
              refine wp_skip ?_
              refine then_n (hK18 _ _ ?_); clear hK18 K18
              refine wp_seq_k ?_; intro K22 hK22
              refine wlit ?_
              refine wl_v (x_loadA (cs := [_, _, _, _, _, _, _, _, _, _, _, _, _, _, _, _, _, _, _, _, _, _, _, _, _, _, _, _, _, _, _]) Tryd.underlying46 rfl ts_46 (tmP rfl rfl) (rangeB hS.ok 2 rfl rfl)) ?_
              refine wl_e rfl ?_; intro K hK
              refine ow_storeA hS 4 rfl ts_46 (tmP rfl rfl) (tmA rfl rfl) rfl rfl rfl ?_
              clear hS; intro w hS
              try replace hS := St.nm (M' := [.blk _ _ [_, _, _, _, _], .vw _ _, .blk _ _ [_, _, _, _, _, _, _, _, _, _, _, _, _, _, _, _, _, _, _, _, _, _, _, _, _, _, _, _, _, _, _], .vw _ _, .blk _ _ [_, _, _, _, _, _, _, _, _, _, _, _, _, _, _, _, _, _, _, _, _, _, _, _, _, _, _, _, _, _, _], .vw _ _]) hS rfl
              refine hK _ _ ?_; clear hK K
              refine wl_v (x_assign (ev_cN 0)) ?_
              refine wl_nil ?_
              refine then_n (hK22 _ _ ?_); clear hK22 K22
              refine wp_ret ?_
              refine ret2 rfl (.cell rfl rfl (load_rowB (cs := [_, _, _, _, _, _, _, _, _, _, _, _, _, _, _, _, _, _, _, _, _, _, _, _, _, _, _, _, _, _, _]) hS.ok 4 rfl Tryd.underlying46 rfl ts_46 rfl)) (.tmp rfl (show _ = Value.int _ _ from rfl)) ?_
              have hz := GiP.z (w := w0) (w' := w)
              first
                | (obtain rfl : er = 20 := by omega
                   rw [(finI_bad (er := 20) (by omega)).1, chk_bad (er := 20) (by omega)]
                   exact ⟨Pl.Z, rfl, hz.1, hz.2.1, hz.2.2.1, hz.2.2.2, hS.kp⟩)
                | (have hff : f = false := by rw [hf]; exact decide_eq_false (by omega)
                   rw [(finI_sum (er := er) hc4 hff).1, chk_sum hc4 hff]
                   exact ⟨Pl.Z, rfl, hz.1, hz.2.1, hz.2.2.1, hz.2.2.2, hS.kp⟩)
                | (have hff : f = true := by rw [hf]; exact decide_eq_true (by omega)
                   rw [(finI_ok (er := er) hc4 hff).1, chk_ok hc4 hff]
                   obtain ⟨six, stay, ttl, s, d, sp, dp, pr, T, D, I⟩ := i0
                   obtain rfl : T = Sg.Z := hT
                   obtain rfl : D = Dg.Z := hD
                   obtain rfl : I = Mg.Z := hI
                   exact ⟨⟨none, 0, none, 0, none, 0, U, cu⟩, rfl, newV_nil _ _, newV_nil _ _, newV_nil _ _, ⟨viewV hS.ok 1 rfl, d1⟩, hS.kp⟩)
         all_goals
          try simp only [nrm] at hc4
          refine wp_skip ?_
          refine then_n (hK12 _ _ ?_); clear hK12 K12
          refine wlit ?_
          refine wl_v (x_loadA (cs := [_, _, _, _, _]) Tryd.underlying44 rfl ts_44 (tmP rfl rfl) (rangeB hS.ok 0 rfl rfl)) ?_
          refine wl_v (x_fa 3 Tryd.underlying46 rfl rfl ts_29 (tmP rfl rfl)) ?_
          refine wl_v (x_fa 0 Tryd.underlying29 rfl rfl ts_26 (tmP rfl rfl)) ?_
          refine wl_v (x_loadA (cs := [_, _, _]) Tryd.underlying26 rfl ts_26 (tmP rfl rfl) (rangeB hS.ok 2 rfl rfl)) ?_
          refine wl_v (x_fa 3 Tryd.underlying46 rfl rfl ts_29 (tmP rfl rfl)) ?_
          refine wl_v (x_fa 3 Tryd.underlying29 rfl rfl ts_26 (tmP rfl rfl)) ?_
          refine wl_v (x_loadA (cs := [_, _, _]) Tryd.underlying26 rfl ts_26 (tmP rfl rfl) (rangeB hS.ok 2 rfl rfl)) ?_
          refine wl_e rfl ?_; intro K hK
          refine ow_call Tryd.func26 rfl rfl (evs_cons (tmA rfl rfl) <| evs_cons (tmA rfl rfl) <| evs_cons (tmA rfl rfl) <| evs_nil) (ricmp_check_c t.m1 t.m2 t.m3 t.m4 U t.x.length cu t.x i0.s i0.d _ (viewV hS.ok 1 rfl) rfl k1 h6 hls hld (by omega) k3 k4 k5 k6) ?_
          rintro e w ⟨rfl, hk⟩
          refine ⟨_, rfl, ?_⟩
          replace hS := hS.kept hk
          clear hk
          refine hK _ _ ?_; clear hK K
          refine wl_v (x_eql (tmI rfl rfl) (ev_cN 0)) ?_
          refine wl_v (x_assign (tmB rfl rfl)) ?_
          refine wl_nil ?_
          refine inb_n ?_
          refine then_n (hK6 _ _ ?_); clear hK6 K6
          refine wp_seq_k ?_; intro K24 hK24
          refine wp_seq_k ?_; intro K25 hK25
          refine wlit ?_
          refine wl_v (x_move (tmI rfl rfl)) ?_
          refine wl_v (x_neq (tmI rfl rfl) (ev_cN 0)) ?_
          refine wl_nil ?_
          refine then_n (hK25 _ _ ?_); clear hK25 K25
          refine cnd (tm rfl) (fun hc5 => ?_) (fun hc5 => ?_)
          · try (exfalso; first | with_reducible exact absurd hc5 Bool.false_ne_true | with_reducible exact absurd hc5.symm Bool.false_ne_true | (simp only [nrm] at hc5; omega) | (simp at hc5; done))
            all_goals
             try simp only [nrm] at hc5
             refine wp_seq_k ?_; intro K26 hK26
             refine wlit ?_
             refine wl_v (x_build (bc_skip (.bool false) <| bc_skip (.bool false) <| bc_skip (.int .u8 0) <| bc_skipL [.bool false, .int .u64 0, .int .u64 0, .bool false, .int .u64 0, .int .u64 0, .int .u16 0, .int .u16 0, .int .u8 0] <| bc_skipL [.int .u16 0, .int .u16 0, .int .u32 0, .int .u32 0, .int .u8 0, .int .u16 0, .int .u16 0, .int .u16 0, .slice none 0 0, .slice none 0 0] <| bc_skipL [.int .u16 0, .int .u16 0, .int .u16 0, .slice none 0 0] <| bc_skipL [.int .u8 0, .int .u8 0, .int .u16 0, .int .u32 0, .slice none 0 0] <| bc_nil) (by kernel_rfl)) ?_
             refine wl_v (x_move (tmI rfl rfl)) ?_
             refine wl_e rfl ?_; intro K hK
             refine ow_call Tryd.func15 rfl rfl (evs_cons (tmI rfl rfl) <| evs_nil) (rof_c _ _) ?_
             rintro e w ⟨rfl, hk⟩
             refine ⟨_, rfl, ?_⟩
             replace hS := hS.kept hk
             clear hk
             refine hK _ _ ?_; clear hK K
             refine wl_e rfl ?_; intro K hK
             refine ow_storeA hS 4 rfl ts_46 (tmP rfl rfl) (tmA rfl rfl) rfl rfl rfl ?_
             clear hS; intro w hS
             try replace hS := St.nm (M' := [.blk _ _ [_, _, _, _, _], .vw _ _, .blk _ _ [_, _, _, _, _, _, _, _, _, _, _, _, _, _, _, _, _, _, _, _, _, _, _, _, _, _, _, _, _, _, _], .vw _ _, .blk _ _ [_, _, _, _, _, _, _, _, _, _, _, _, _, _, _, _, _, _, _, _, _, _, _, _, _, _, _, _, _, _, _], .vw _ _]) hS rfl
             refine hK _ _ ?_; clear hK K
             refine wl_v (x_assign (tmI rfl rfl)) ?_
             refine wl_nil ?_
             refine then_n (hK26 _ _ ?_); clear hK26 K26
             refine wp_ret ?_
             refine then_r ?_
             refine ret2 rfl (.cell rfl rfl (load_rowB (cs := [_, _, _, _, _, _, _, _, _, _, _, _, _, _, _, _, _, _, _, _, _, _, _, _, _, _, _, _, _, _, _]) hS.ok 4 rfl Tryd.underlying46 rfl ts_46 rfl)) (.tmp rfl (show _ = Value.int _ _ from rfl)) ?_
             have hz := GiP.z (w := w0) (w' := w)
             first
               | (obtain rfl : er = 20 := by omega
                  rw [(finI_bad (er := 20) (by omega)).1, chk_bad (er := 20) (by omega)]
                  exact ⟨Pl.Z, rfl, hz.1, hz.2.1, hz.2.2.1, hz.2.2.2, hS.kp⟩)
               | (have hff : f = false := by rw [hf]; exact decide_eq_false (by omega)
                  rw [(finI_sum (er := er) hc4 hff).1, chk_sum hc4 hff]
                  exact ⟨Pl.Z, rfl, hz.1, hz.2.1, hz.2.2.1, hz.2.2.2, hS.kp⟩)
               | (have hff : f = true := by rw [hf]; exact decide_eq_true (by omega)
                  rw [(finI_ok (er := er) hc4 hff).1, chk_ok hc4 hff]
                  obtain ⟨six, stay, ttl, s, d, sp, dp, pr, T, D, I⟩ := i0
                  obtain rfl : T = Sg.Z := hT
                  obtain rfl : D = Dg.Z := hD
                  obtain rfl : I = Mg.Z := hI
                  exact ⟨⟨none, 0, none, 0, none, 0, U, cu⟩, rfl, newV_nil _ _, newV_nil _ _, newV_nil _ _, ⟨viewV hS.ok 1 rfl, d1⟩, hS.kp⟩)
          all_goals
           try simp only [nrm] at hc5
           refine wp_skip ?_
           refine then_n (hK24 _ _ ?_); clear hK24 K24
           refine wp_seq_k ?_; intro K28 hK28
           refine wp_seq_k ?_; intro K29 hK29
           refine wlit ?_
           refine wl_v (x_move (tmB rfl rfl)) ?_
           refine wl_v (x_not (tmB rfl rfl)) ?_
           refine wl_nil ?_
           refine then_n (hK29 _ _ ?_); clear hK29 K29
           refine cnd (tm rfl) (fun hc6 => ?_) (fun hc6 => ?_)
           · skip
             all_goals
              try simp only [nrm] at hc6
              refine wp_seq_k ?_; intro K30 hK30
              refine wlit ?_
              refine wl_v (x_build (bc_skip (.bool false) <| bc_skip (.bool false) <| bc_skip (.int .u8 0) <| bc_skipL [.bool false, .int .u64 0, .int .u64 0, .bool false, .int .u64 0, .int .u64 0, .int .u16 0, .int .u16 0, .int .u8 0] <| bc_skipL [.int .u16 0, .int .u16 0, .int .u32 0, .int .u32 0, .int .u8 0, .int .u16 0, .int .u16 0, .int .u16 0, .slice none 0 0, .slice none 0 0] <| bc_skipL [.int .u16 0, .int .u16 0, .int .u16 0, .slice none 0 0] <| bc_skipL [.int .u8 0, .int .u8 0, .int .u16 0, .int .u32 0, .slice none 0 0] <| bc_nil) (by kernel_rfl)) ?_
              refine wl_e rfl ?_; intro K hK
              refine ow_storeA hS 4 rfl ts_46 (tmP rfl rfl) (tmA rfl rfl) rfl rfl rfl ?_
              clear hS; intro w hS
              try replace hS := St.nm (M' := [.blk _ _ [_, _, _, _, _], .vw _ _, .blk _ _ [_, _, _, _, _, _, _, _, _, _, _, _, _, _, _, _, _, _, _, _, _, _, _, _, _, _, _, _, _, _, _], .vw _ _, .blk _ _ [_, _, _, _, _, _, _, _, _, _, _, _, _, _, _, _, _, _, _, _, _, _, _, _, _, _, _, _, _, _, _], .vw _ _]) hS rfl
              refine hK _ _ ?_; clear hK K
              refine wl_v (x_assign (ev_cN 3)) ?_
              refine wl_nil ?_
              refine then_n (hK30 _ _ ?_); clear hK30 K30
              refine wp_ret ?_
              refine then_r ?_
              refine ret2 rfl (.cell rfl rfl (load_rowB (cs := [_, _, _, _, _, _, _, _, _, _, _, _, _, _, _, _, _, _, _, _, _, _, _, _, _, _, _, _, _, _, _]) hS.ok 4 rfl Tryd.underlying46 rfl ts_46 rfl)) (.tmp rfl (show _ = Value.int _ _ from rfl)) ?_
              have hz := GiP.z (w := w0) (w' := w)
              first
                | (obtain rfl : er = 20 := by omega
                   rw [(finI_bad (er := 20) (by omega)).1, chk_bad (er := 20) (by omega)]
                   exact ⟨Pl.Z, rfl, hz.1, hz.2.1, hz.2.2.1, hz.2.2.2, hS.kp⟩)
                | (have hff : f = false := by rw [hf]; exact decide_eq_false (by omega)
                   rw [(finI_sum (er := er) hc4 hff).1, chk_sum hc4 hff]
                   exact ⟨Pl.Z, rfl, hz.1, hz.2.1, hz.2.2.1, hz.2.2.2, hS.kp⟩)
                | (have hff : f = true := by rw [hf]; exact decide_eq_true (by omega)
                   rw [(finI_ok (er := er) hc4 hff).1, chk_ok hc4 hff]
                   obtain ⟨six, stay, ttl, s, d, sp, dp, pr, T, D, I⟩ := i0
                   obtain rfl : T = Sg.Z := hT
                   obtain rfl : D = Dg.Z := hD
                   obtain rfl : I = Mg.Z := hI
                   exact ⟨⟨none, 0, none, 0, none, 0, U, cu⟩, rfl, newV_nil _ _, newV_nil _ _, newV_nil _ _, ⟨viewV hS.ok 1 rfl, d1⟩, hS.kp⟩)
           all_goals
            try simp only [nrm] at hc6
            refine wp_skip ?_
            refine then_n (hK28 _ _ ?_); clear hK28 K28
            refine wp_seq_k ?_; intro K32 hK32
            refine wlit ?_
            refine wl_v (x_loadA (cs := [_, _, _, _, _, _, _, _, _, _, _, _, _, _, _, _, _, _, _, _, _, _, _, _, _, _, _, _, _, _, _]) Tryd.underlying46 rfl ts_46 (tmP rfl rfl) (rangeB hS.ok 2 rfl rfl)) ?_
            refine wl_e rfl ?_; intro K hK
            refine ow_storeA hS 4 rfl ts_46 (tmP rfl rfl) (tmA rfl rfl) rfl rfl rfl ?_
            clear hS; intro w hS
            try replace hS := St.nm (M' := [.blk _ _ [_, _, _, _, _], .vw _ _, .blk _ _ [_, _, _, _, _, _, _, _, _, _, _, _, _, _, _, _, _, _, _, _, _, _, _, _, _, _, _, _, _, _, _], .vw _ _, .blk _ _ [_, _, _, _, _, _, _, _, _, _, _, _, _, _, _, _, _, _, _, _, _, _, _, _, _, _, _, _, _, _, _], .vw _ _]) hS rfl
            refine hK _ _ ?_; clear hK K
            refine wl_v (x_assign (ev_cN 0)) ?_
            refine wl_nil ?_
            refine then_n (hK32 _ _ ?_); clear hK32 K32
            refine wp_ret ?_
            refine ret2 rfl (.cell rfl rfl (load_rowB (cs := [_, _, _, _, _, _, _, _, _, _, _, _, _, _, _, _, _, _, _, _, _, _, _, _, _, _, _, _, _, _, _]) hS.ok 4 rfl Tryd.underlying46 rfl ts_46 rfl)) (.tmp rfl (show _ = Value.int _ _ from rfl)) ?_
            have hz := GiP.z (w := w0) (w' := w)
            first
              | (obtain rfl : er = 20 := by omega
                 rw [(finI_bad (er := 20) (by omega)).1, chk_bad (er := 20) (by omega)]
                 exact ⟨Pl.Z, rfl, hz.1, hz.2.1, hz.2.2.1, hz.2.2.2, hS.kp⟩)
              | (have hff : f = false := by rw [hf]; exact decide_eq_false (by omega)
                 rw [(finI_sum (er := er) hc4 hff).1, chk_sum hc4 hff]
                 exact ⟨Pl.Z, rfl, hz.1, hz.2.1, hz.2.2.1, hz.2.2.2, hS.kp⟩)
              | (have hff : f = true := by rw [hf]; exact decide_eq_true (by omega)
                 rw [(finI_ok (er := er) hc4 hff).1, chk_ok hc4 hff]
                 obtain ⟨six, stay, ttl, s, d, sp, dp, pr, T, D, I⟩ := i0
                 obtain rfl : T = Sg.Z := hT
                 obtain rfl : D = Dg.Z := hD
                 obtain rfl : I = Mg.Z := hI
                 exact ⟨⟨none, 0, none, 0, none, 0, U, cu⟩, rfl, newV_nil _ _, newV_nil _ _, newV_nil _ _, ⟨viewV hS.ok 1 rfl, d1⟩, hS.kp⟩)
     have hg14_3' := hg14_3; (try simp only [nrm] at hg14_3')
     all_goals
      refine wl_s rfl (want_n rfl rfl rfl rfl (by rw [hg14_3]; rfl)) ?_
      refine wl_s rfl (want_n rfl rfl rfl rfl (by rw [hg14_3]; rfl)) ?_
      refine wl_s rfl (want_n rfl rfl rfl rfl (by rw [hg14_3]; rfl)) ?_
      refine wl_s rfl (want_n rfl rfl rfl rfl (by rw [hg14_3]; rfl)) ?_
      refine wl_v (x_pickF (tmB rfl rfl) hg14_3 ev_c) ?_
      refine wl_v (x_move (tmB rfl rfl)) ?_
      refine wl_gv (want_y rfl rfl rfl rfl rfl) (x_fa 0 Tryd.underlying46 rfl rfl ts_4 (tmP rfl rfl)) ?_
      refine wl_gv (want_y rfl rfl rfl rfl rfl) (x_load Tryd.underlying4 rfl (tmP rfl rfl) (cellB hS.ok 0 rfl rfl)) ?_
      refine wl_gv (want_y rfl rfl rfl rfl rfl) (x_move (tmB rfl rfl)) ?_
      refine gs_wls (tm (t := 94) rfl) (fun hg14_12 => ?_) (fun hg14_12 => ?_)
      · exfalso
        exact Bool.noConfusion (hg14_3'.symm.trans hg14_12)
      have hg14_12' := hg14_12; (try simp only [nrm] at hg14_12')
      all_goals
       refine wl_gv (want_y rfl rfl rfl rfl (by rw [hg14_12]; rfl)) (x_fa 3 Tryd.underlying46 rfl rfl ts_29 (tmP rfl rfl)) ?_
       refine wl_gv (want_y rfl rfl rfl rfl (by rw [hg14_12]; rfl)) (x_fa 8 Tryd.underlying29 rfl rfl ts_5 (tmP rfl rfl)) ?_
       refine wl_gv (want_y rfl rfl rfl rfl (by rw [hg14_12]; rfl)) (x_load Tryd.underlying5 rfl (tmP rfl rfl) (cellB hS.ok 0 rfl rfl)) ?_
       refine wl_gv (want_y rfl rfl rfl rfl (by rw [hg14_12]; rfl)) (x_eql (tmI rfl rfl) (ev_cN 58)) ?_
       refine wl_gv (want_y rfl rfl rfl rfl rfl) (x_pickT (tmB rfl rfl) hg14_12 (tmB rfl rfl)) ?_
       refine wl_v (x_pickF (tmB rfl rfl) rfl (tmB rfl rfl)) ?_
       refine wl_v (x_assign (tmB rfl rfl)) ?_
       refine wl_nil ?_
       refine then_n (hK9 _ _ ?_); clear hK9 K9
       refine cnds (tm rfl) (fun hc3 => ?_) (fun hc3 => ?_)
       · exfalso
         rcases hpr with ⟨h1, h2⟩ | ⟨h1, h2⟩
         · exact Bool.noConfusion (h2.symm.trans hg14_3')
         · rw [h1] at hc3
           exact absurd hc3 (by decide)
       all_goals
        try simp only [nrm] at hc3
        refine wp_seq_k ?_; intro K34 hK34
        refine wlit ?_
        refine wl_v (x_move (tmS rfl rfl)) ?_
        refine wl_e rfl ?_; intro K hK
        refine ow_call Tryd.func25 rfl rfl (evs_cons (tmS rfl rfl) <| evs_nil) (hP _ L cl (viewV hS.ok 1 rfl) hcl) ?_
        rintro e w ⟨U, cu, rfl, hn1, hk⟩
        refine ⟨_, rfl, ?_⟩
        have d1 := hn1.newb hS
        replace hS := hS.addn hk hn1 -- +v1
        clear hn1 hk
        refine hK _ _ ?_; clear hK K
        refine wl_v (x_move (tmT rfl rfl)) ?_
        refine wl_v (x_ext (tmT rfl rfl) rfl) ?_
        refine wl_v (x_ext (tmT rfl rfl) rfl) ?_
        refine wl_e rfl ?_; intro K hK
        refine ow_alloc hS tz_44 rfl ?_
        clear hS; intro g15_5 w hg15_5 hS
        refine hK _ _ ?_; clear hK K
        refine wl_e rfl ?_; intro K hK
        refine ow_storeA hS 0 rfl ts_44 (tmP rfl rfl) (tmA rfl rfl) rfl rfl rfl ?_
        clear hS; intro w hS
        try replace hS := St.nm (M' := [.blk _ _ [_, _, _, _, _], .vw _ _, .blk _ _ [_, _, _, _, _, _, _, _, _, _, _, _, _, _, _, _, _, _, _, _, _, _, _, _, _, _, _, _, _, _, _], .vw _ _, .blk _ _ [_, _, _, _, _, _, _, _, _, _, _, _, _, _, _, _, _, _, _, _, _, _, _, _, _, _, _, _, _, _, _], .vw _ _]) hS rfl
        refine hK _ _ ?_; clear hK K
        refine wl_v (x_assign (tmB rfl rfl)) ?_
        refine wl_nil ?_
        refine then_n (hK34 _ _ ?_); clear hK34 K34
        refine wp_seq_k ?_; intro K35 hK35
        refine wlit ?_
        refine wl_v (x_loadA (cs := [_, _, _, _, _]) Tryd.underlying44 rfl ts_44 (tmP rfl rfl) (rangeB hS.ok 0 rfl rfl)) ?_
        refine wl_v (x_fa 26 Tryd.underlying46 rfl rfl ts_44 (tmP rfl rfl)) ?_
        refine wl_e rfl ?_; intro K hK
        refine ow_storeA hS 2 rfl ts_44 (tmP rfl rfl) (tmA rfl rfl) rfl rfl rfl ?_
        clear hS; intro w hS
        try replace hS := St.nm (M' := [.blk _ _ [_, _, _, _, _], .vw _ _, .blk _ _ [_, _, _, _, _, _, _, _, _, _, _, _, _, _, _, _, _, _, _, _, _, _, _, _, _, _, _, _, _, _, _], .vw _ _, .blk _ _ [_, _, _, _, _, _, _, _, _, _, _, _, _, _, _, _, _, _, _, _, _, _, _, _, _, _, _, _, _, _, _], .vw _ _]) hS rfl
        refine hK _ _ ?_; clear hK K
        refine wl_nil ?_
        refine then_n (hK35 _ _ ?_); clear hK35 K35
        refine wp_seq_k ?_; intro K36 hK36
        refine wp_seq_k ?_; intro K37 hK37
        refine wlit ?_
        refine wl_v (x_move (tmB rfl rfl)) ?_
        refine wl_v (x_not (tmB rfl rfl)) ?_
        refine wl_nil ?_
        refine then_n (hK37 _ _ ?_); clear hK37 K37
        refine cnd (tm rfl) (fun hc4 => ?_) (fun hc4 => ?_)
        · skip
          all_goals
           try simp only [nrm] at hc4
           refine wlit ?_
           refine wl_v (x_assign (ev_cN 20)) ?_
           refine wl_nil ?_
           refine then_n (hK36 _ _ ?_); clear hK36 K36
           refine wlit ?_
           refine wl_v (x_loadA (cs := [_, _, _, _, _]) Tryd.underlying44 rfl ts_44 (tmP rfl rfl) (rangeB hS.ok 0 rfl rfl)) ?_
           refine wl_v (x_fa 3 Tryd.underlying46 rfl rfl ts_29 (tmP rfl rfl)) ?_
           refine wl_v (x_fa 0 Tryd.underlying29 rfl rfl ts_26 (tmP rfl rfl)) ?_
           refine wl_v (x_loadA (cs := [_, _, _]) Tryd.underlying26 rfl ts_26 (tmP rfl rfl) (rangeB hS.ok 2 rfl rfl)) ?_
           refine wl_v (x_fa 3 Tryd.underlying46 rfl rfl ts_29 (tmP rfl rfl)) ?_
           refine wl_v (x_fa 3 Tryd.underlying29 rfl rfl ts_26 (tmP rfl rfl)) ?_
           refine wl_v (x_loadA (cs := [_, _, _]) Tryd.underlying26 rfl ts_26 (tmP rfl rfl) (rangeB hS.ok 2 rfl rfl)) ?_
           refine wl_e rfl ?_; intro K hK
           refine ow_call Tryd.func26 rfl rfl (evs_cons (tmA rfl rfl) <| evs_cons (tmA rfl rfl) <| evs_cons (tmA rfl rfl) <| evs_nil) (ricmp_check_c t.m1 t.m2 t.m3 t.m4 U t.x.length cu t.x i0.s i0.d _ (viewV hS.ok 1 rfl) rfl k1 h6 hls hld (by omega) k3 k4 k5 k6) ?_
           rintro e w ⟨rfl, hk⟩
           refine ⟨_, rfl, ?_⟩
           replace hS := hS.kept hk
           clear hk
           refine hK _ _ ?_; clear hK K
           refine wl_v (x_eql (tmI rfl rfl) (ev_cN 0)) ?_
           refine wl_v (x_assign (tmB rfl rfl)) ?_
           refine wl_nil ?_
           refine inb_n ?_
           refine then_n (hK6 _ _ ?_); clear hK6 K6
           refine wp_seq_k ?_; intro K38 hK38
           refine wp_seq_k ?_; intro K39 hK39
           refine wlit ?_
           refine wl_v (x_move (tmI rfl rfl)) ?_
           refine wl_v (x_neq (tmI rfl rfl) (ev_cN 0)) ?_
           refine wl_nil ?_
           refine then_n (hK39 _ _ ?_); clear hK39 K39
           refine cnd (tm rfl) (fun hc5 => ?_) (fun hc5 => ?_)
           · skip
             all_goals
              try simp only [nrm] at hc5
              refine wp_seq_k ?_; intro K40 hK40
              refine wlit ?_
              refine wl_v (x_build (bc_skip (.bool false) <| bc_skip (.bool false) <| bc_skip (.int .u8 0) <| bc_skipL [.bool false, .int .u64 0, .int .u64 0, .bool false, .int .u64 0, .int .u64 0, .int .u16 0, .int .u16 0, .int .u8 0] <| bc_skipL [.int .u16 0, .int .u16 0, .int .u32 0, .int .u32 0, .int .u8 0, .int .u16 0, .int .u16 0, .int .u16 0, .slice none 0 0, .slice none 0 0] <| bc_skipL [.int .u16 0, .int .u16 0, .int .u16 0, .slice none 0 0] <| bc_skipL [.int .u8 0, .int .u8 0, .int .u16 0, .int .u32 0, .slice none 0 0] <| bc_nil) (by kernel_rfl)) ?_
              refine wl_v (x_move (tmI rfl rfl)) ?_
              refine wl_e rfl ?_; intro K hK
              refine ow_call Tryd.func15 rfl rfl (evs_cons (tmI rfl rfl) <| evs_nil) (rof_c _ _) ?_
              rintro e w ⟨rfl, hk⟩
              refine ⟨_, rfl, ?_⟩
              replace hS := hS.kept hk
              clear hk
              refine hK _ _ ?_; clear hK K
              refine wl_e rfl ?_; intro K hK
              refine ow_storeA hS 4 rfl ts_46 (tmP rfl rfl) (tmA rfl rfl) rfl rfl rfl ?_
              clear hS; intro w hS
              try replace hS := St.nm (M' := [.blk _ _ [_, _, _, _, _], .vw _ _, .blk _ _ [_, _, _, _, _, _, _, _, _, _, _, _, _, _, _, _, _, _, _, _, _, _, _, _, _, _, _, _, _, _, _], .vw _ _, .blk _ _ [_, _, _, _, _, _, _, _, _, _, _, _, _, _, _, _, _, _, _, _, _, _, _, _, _, _, _, _, _, _, _], .vw _ _]) hS rfl
              refine hK _ _ ?_; clear hK K
              refine wl_v (x_assign (tmI rfl rfl)) ?_
              refine wl_nil ?_
              refine then_n (hK40 _ _ ?_); clear hK40 K40
              refine wp_ret ?_
              refine then_r ?_
              refine ret2 rfl (.cell rfl rfl (load_rowB (cs := [_, _, _, _, _, _, _, _, _, _, _, _, _, _, _, _, _, _, _, _, _, _, _, _, _, _, _, _, _, _, _]) hS.ok 4 rfl Tryd.underlying46 rfl ts_46 rfl)) (.tmp rfl (show _ = Value.int _ _ from rfl)) ?_
              have hz := GiP.z (w := w0) (w' := w)
              first
                | (obtain rfl : er = 20 := by omega
                   rw [(finI_bad (er := 20) (by omega)).1, chk_bad (er := 20) (by omega)]
                   exact ⟨Pl.Z, rfl, hz.1, hz.2.1, hz.2.2.1, hz.2.2.2, hS.kp⟩)
                | (have hff : f = false := by rw [hf]; exact decide_eq_false (by omega)
                   rw [(finI_sum (er := er) hc4 hff).1, chk_sum hc4 hff]
                   exact ⟨Pl.Z, rfl, hz.1, hz.2.1, hz.2.2.1, hz.2.2.2, hS.kp⟩)
                | (have hff : f = true := by rw [hf]; exact decide_eq_true (by omega)
                   rw [(finI_ok (er := er) hc4 hff).1, chk_ok hc4 hff]
                   obtain ⟨six, stay, ttl, s, d, sp, dp, pr, T, D, I⟩ := i0
                   obtain rfl : T = Sg.Z := hT
                   obtain rfl : D = Dg.Z := hD
                   obtain rfl : I = Mg.Z := hI
                   exact ⟨⟨none, 0, none, 0, none, 0, U, cu⟩, rfl, newV_nil _ _, newV_nil _ _, newV_nil _ _, ⟨viewV hS.ok 1 rfl, d1⟩, hS.kp⟩)
           try (exfalso; first | with_reducible exact absurd hc5 Bool.false_ne_true | with_reducible exact absurd hc5.symm Bool.false_ne_true | (simp only [nrm] at hc5; omega) | (simp at hc5; done))
           all_goals
            try simp only [nrm] at hc5
            refine wp_skip ?_
            refine then_n (hK38 _ _ ?_); clear hK38 K38
            refine wp_seq_k ?_; intro K42 hK42
            refine wp_seq_k ?_; intro K43 hK43
            refine wlit ?_
            refine wl_v (x_move (tmB rfl rfl)) ?_
            refine wl_v (x_not (tmB rfl rfl)) ?_
            refine wl_nil ?_
            refine then_n (hK43 _ _ ?_); clear hK43 K43
            refine cnd (tm rfl) (fun hc6 => ?_) (fun hc6 => ?_)
            · skip
              all_goals
               try simp only [nrm] at hc6
               refine wp_seq_k ?_; intro K44 hK44
               refine wlit ?_
               refine wl_v (x_build (bc_skip (.bool false) <| bc_skip (.bool false) <| bc_skip (.int .u8 0) <| bc_skipL [.bool false, .int .u64 0, .int .u64 0, .bool false, .int .u64 0, .int .u64 0, .int .u16 0, .int .u16 0, .int .u8 0] <| bc_skipL [.int .u16 0, .int .u16 0, .int .u32 0, .int .u32 0, .int .u8 0, .int .u16 0, .int .u16 0, .int .u16 0, .slice none 0 0, .slice none 0 0] <| bc_skipL [.int .u16 0, .int .u16 0, .int .u16 0, .slice none 0 0] <| bc_skipL [.int .u8 0, .int .u8 0, .int .u16 0, .int .u32 0, .slice none 0 0] <| bc_nil) (by kernel_rfl)) ?_
               refine wl_e rfl ?_; intro K hK
               refine ow_storeA hS 4 rfl ts_46 (tmP rfl rfl) (tmA rfl rfl) rfl rfl rfl ?_
               clear hS; intro w hS
               try replace hS := St.nm (M' := [.blk _ _ [_, _, _, _, _], .vw _ _, .blk _ _ [_, _, _, _, _, _, _, _, _, _, _, _, _, _, _, _, _, _, _, _, _, _, _, _, _, _, _, _, _, _, _], .vw _ _, .blk _ _ [_, _, _, _, _, _, _, _, _, _, _, _, _, _, _, _, _, _, _, _, _, _, _, _, _, _, _, _, _, _, _], .vw _ _]) hS rfl
               refine hK _ _ ?_; clear hK K
               refine wl_v (x_assign (ev_cN 3)) ?_
               refine wl_nil ?_
               refine then_n (hK44 _ _ ?_); clear hK44 K44
               refine wp_ret ?_
               refine then_r ?_
               refine ret2 rfl (.cell rfl rfl (load_rowB (cs := [_, _, _, _, _, _, _, _, _, _, _, _, _, _, _, _, _, _, _, _, _, _, _, _, _, _, _, _, _, _, _]) hS.ok 4 rfl Tryd.underlying46 rfl ts_46 rfl)) (.tmp rfl (show _ = Value.int _ _ from rfl)) ?_
               have hz := GiP.z (w := w0) (w' := w)
               first
                 | (obtain rfl : er = 20 := by omega
                    rw [(finI_bad (er := 20) (by omega)).1, chk_bad (er := 20) (by omega)]
                    exact ⟨Pl.Z, rfl, hz.1, hz.2.1, hz.2.2.1, hz.2.2.2, hS.kp⟩)
                 | (have hff : f = false := by rw [hf]; exact decide_eq_false (by omega)
                    rw [(finI_sum (er := er) hc4 hff).1, chk_sum hc4 hff]
                    exact ⟨Pl.Z, rfl, hz.1, hz.2.1, hz.2.2.1, hz.2.2.2, hS.kp⟩)
                 | (have hff : f = true := by rw [hf]; exact decide_eq_true (by omega)
                    rw [(finI_ok (er := er) hc4 hff).1, chk_ok hc4 hff]
                    obtain ⟨six, stay, ttl, s, d, sp, dp, pr, T, D, I⟩ := i0
                    obtain rfl : T = Sg.Z := hT
                    obtain rfl : D = Dg.Z := hD
                    obtain rfl : I = Mg.Z := hI
                    exact ⟨⟨none, 0, none, 0, none, 0, U, cu⟩, rfl, newV_nil _ _, newV_nil _ _, newV_nil _ _, ⟨viewV hS.ok 1 rfl, d1⟩, hS.kp⟩)
            all_goals
             try simp only [nrm] at hc6
             refine wp_skip ?_
             refine then_n (hK42 _ _ ?_); clear hK42 K42
             refine wp_seq_k ?_; intro K46 hK46
             refine wlit ?_
             refine wl_v (x_loadA (cs := [_, _, _, _, _, _, _, _, _, _, _, _, _, _, _, _, _, _, _, _, _, _, _, _, _, _, _, _, _, _, _]) Tryd.underlying46 rfl ts_46 (tmP rfl rfl) (rangeB hS.ok 2 rfl rfl)) ?_
             refine wl_e rfl ?_; intro K hK
             refine ow_storeA hS 4 rfl ts_46 (tmP rfl rfl) (tmA rfl rfl) rfl rfl rfl ?_
             clear hS; intro w hS
             try replace hS := St.nm (M' := [.blk _ _ [_, _, _, _, _], .vw _ _, .blk _ _ [_, _, _, _, _, _, _, _, _, _, _, _, _, _, _, _, _, _, _, _, _, _, _, _, _, _, _, _, _, _, _], .vw _ _, .blk _ _ [_, _, _, _, _, _, _, _, _, _, _, _, _, _, _, _, _, _, _, _, _, _, _, _, _, _, _, _, _, _, _], .vw _ _]) hS rfl
             refine hK _ _ ?_; clear hK K
             refine wl_v (x_assign (ev_cN 0)) ?_
             refine wl_nil ?_
             refine then_n (hK46 _ _ ?_); clear hK46 K46
             refine wp_ret ?_
             refine ret2 rfl (.cell rfl rfl (load_rowB (cs := [_, _, _, _, _, _, _, _, _, _, _, _, _, _, _, _, _, _, _, _, _, _, _, _, _, _, _, _, _, _, _]) hS.ok 4 rfl Tryd.underlying46 rfl ts_46 rfl)) (.tmp rfl (show _ = Value.int _ _ from rfl)) ?_
             have hz := GiP.z (w := w0) (w' := w)
             first
               | (obtain rfl : er = 20 := by omega
                  rw [(finI_bad (er := 20) (by omega)).1, chk_bad (er := 20) (by omega)]
                  exact ⟨Pl.Z, rfl, hz.1, hz.2.1, hz.2.2.1, hz.2.2.2, hS.kp⟩)
               | (have hff : f = false := by rw [hf]; exact decide_eq_false (by omega)
                  rw [(finI_sum (er := er) hc4 hff).1, chk_sum hc4 hff]
                  exact ⟨Pl.Z, rfl, hz.1, hz.2.1, hz.2.2.1, hz.2.2.2, hS.kp⟩)
               | (have hff : f = true := by rw [hf]; exact decide_eq_true (by omega)
                  rw [(finI_ok (er := er) hc4 hff).1, chk_ok hc4 hff]
                  obtain ⟨six, stay, ttl, s, d, sp, dp, pr, T, D, I⟩ := i0
                  obtain rfl : T = Sg.Z := hT
                  obtain rfl : D = Dg.Z := hD
                  obtain rfl : I = Mg.Z := hI
                  exact ⟨⟨none, 0, none, 0, none, 0, U, cu⟩, rfl, newV_nil _ _, newV_nil _ _, newV_nil _ _, ⟨viewV hS.ok 1 rfl, d1⟩, hS.kp⟩)
        all_goals
         try simp only [nrm] at hc4
         refine wp_skip ?_
         refine then_n (hK36 _ _ ?_); clear hK36 K36
         refine wlit ?_
         refine wl_v (x_loadA (cs := [_, _, _, _, _]) Tryd.underlying44 rfl ts_44 (tmP rfl rfl) (rangeB hS.ok 0 rfl rfl)) ?_
         refine wl_v (x_fa 3 Tryd.underlying46 rfl rfl ts_29 (tmP rfl rfl)) ?_
         refine wl_v (x_fa 0 Tryd.underlying29 rfl rfl ts_26 (tmP rfl rfl)) ?_
         refine wl_v (x_loadA (cs := [_, _, _]) Tryd.underlying26 rfl ts_26 (tmP rfl rfl) (rangeB hS.ok 2 rfl rfl)) ?_
         refine wl_v (x_fa 3 Tryd.underlying46 rfl rfl ts_29 (tmP rfl rfl)) ?_
         refine wl_v (x_fa 3 Tryd.underlying29 rfl rfl ts_26 (tmP rfl rfl)) ?_
         refine wl_v (x_loadA (cs := [_, _, _]) Tryd.underlying26 rfl ts_26 (tmP rfl rfl) (rangeB hS.ok 2 rfl rfl)) ?_
         refine wl_e rfl ?_; intro K hK
         refine ow_call Tryd.func26 rfl rfl (evs_cons (tmA rfl rfl) <| evs_cons (tmA rfl rfl) <| evs_cons (tmA rfl rfl) <| evs_nil) (ricmp_check_c t.m1 t.m2 t.m3 t.m4 U t.x.length cu t.x i0.s i0.d _ (viewV hS.ok 1 rfl) rfl k1 h6 hls hld (by omega) k3 k4 k5 k6) ?_
         rintro e w ⟨rfl, hk⟩
         refine ⟨_, rfl, ?_⟩
         replace hS := hS.kept hk
         clear hk
         refine hK _ _ ?_; clear hK K
         refine wl_v (x_eql (tmI rfl rfl) (ev_cN 0)) ?_
         refine wl_v (x_assign (tmB rfl rfl)) ?_
         refine wl_nil ?_
         refine inb_n ?_
         refine then_n (hK6 _ _ ?_); clear hK6 K6
         refine wp_seq_k ?_; intro K48 hK48
         refine wp_seq_k ?_; intro K49 hK49
         refine wlit ?_
         refine wl_v (x_move (tmI rfl rfl)) ?_
         refine wl_v (x_neq (tmI rfl rfl) (ev_cN 0)) ?_
         refine wl_nil ?_
         refine then_n (hK49 _ _ ?_); clear hK49 K49
         refine cnd (tm rfl) (fun hc5 => ?_) (fun hc5 => ?_)
         · try (exfalso; first | with_reducible exact absurd hc5 Bool.false_ne_true | with_reducible exact absurd hc5.symm Bool.false_ne_true | (simp only [nrm] at hc5; omega) | (simp at hc5; done))
           all_goals
            try simp only [nrm] at hc5
            refine wp_seq_k ?_; intro K50 hK50
            refine wlit ?_
            refine wl_v (x_build (bc_skip (.bool false) <| bc_skip (.bool false) <| bc_skip (.int .u8 0) <| bc_skipL [.bool false, .int .u64 0, .int .u64 0, .bool false, .int .u64 0, .int .u64 0, .int .u16 0, .int .u16 0, .int .u8 0] <| bc_skipL [.int .u16 0, .int .u16 0, .int .u32 0, .int .u32 0, .int .u8 0, .int .u16 0, .int .u16 0, .int .u16 0, .slice none 0 0, .slice none 0 0] <| bc_skipL [.int .u16 0, .int .u16 0, .int .u16 0, .slice none 0 0] <| bc_skipL [.int .u8 0, .int .u8 0, .int .u16 0, .int .u32 0, .slice none 0 0] <| bc_nil) (by kernel_rfl)) ?_
            refine wl_v (x_move (tmI rfl rfl)) ?_
            refine wl_e rfl ?_; intro K hK
            refine ow_call Tryd.func15 rfl rfl (evs_cons (tmI rfl rfl) <| evs_nil) (rof_c _ _) ?_
            rintro e w ⟨rfl, hk⟩
            refine ⟨_, rfl, ?_⟩
            replace hS := hS.kept hk
            clear hk
            refine hK _ _ ?_; clear hK K
            refine wl_e rfl ?_; intro K hK
            refine ow_storeA hS 4 rfl ts_46 (tmP rfl rfl) (tmA rfl rfl) rfl rfl rfl ?_
            clear hS; intro w hS
            try replace hS := St.nm (M' := [.blk _ _ [_, _, _, _, _], .vw _ _, .blk _ _ [_, _, _, _, _, _, _, _, _, _, _, _, _, _, _, _, _, _, _, _, _, _, _, _, _, _, _, _, _, _, _], .vw _ _, .blk _ _ [_, _, _, _, _, _, _, _, _, _, _, _, _, _, _, _, _, _, _, _, _, _, _, _, _, _, _, _, _, _, _], .vw _ _]) hS rfl
            refine hK _ _ ?_; clear hK K
            refine wl_v (x_assign (tmI rfl rfl)) ?_
            refine wl_nil ?_
            refine then_n (hK50 _ _ ?_); clear hK50 K50
            refine wp_ret ?_
            refine then_r ?_
            refine ret2 rfl (.cell rfl rfl (load_rowB (cs := [_, _, _, _, _, _, _, _, _, _, _, _, _, _, _, _, _, _, _, _, _, _, _, _, _, _, _, _, _, _, _]) hS.ok 4 rfl Tryd.underlying46 rfl ts_46 rfl)) (.tmp rfl (show _ = Value.int _ _ from rfl)) ?_
            have hz := GiP.z (w := w0) (w' := w)
            first
              | (obtain rfl : er = 20 := by omega
                 rw [(finI_bad (er := 20) (by omega)).1, chk_bad (er := 20) (by omega)]
                 exact ⟨Pl.Z, rfl, hz.1, hz.2.1, hz.2.2.1, hz.2.2.2, hS.kp⟩)
              | (have hff : f = false := by rw [hf]; exact decide_eq_false (by omega)
                 rw [(finI_sum (er := er) hc4 hff).1, chk_sum hc4 hff]
                 exact ⟨Pl.Z, rfl, hz.1, hz.2.1, hz.2.2.1, hz.2.2.2, hS.kp⟩)
              | (have hff : f = true := by rw [hf]; exact decide_eq_true (by omega)
                 rw [(finI_ok (er := er) hc4 hff).1, chk_ok hc4 hff]
                 obtain ⟨six, stay, ttl, s, d, sp, dp, pr, T, D, I⟩ := i0
                 obtain rfl : T = Sg.Z := hT
                 obtain rfl : D = Dg.Z := hD
                 obtain rfl : I = Mg.Z := hI
                 exact ⟨⟨none, 0, none, 0, none, 0, U, cu⟩, rfl, newV_nil _ _, newV_nil _ _, newV_nil _ _, ⟨viewV hS.ok 1 rfl, d1⟩, hS.kp⟩)
         all_goals
          try simp only [nrm] at hc5
          refine wp_skip ?_
          refine then_n (hK48 _ _ ?_); clear hK48 K48
          refine wp_seq_k ?_; intro K52 hK52
          refine wp_seq_k ?_; intro K53 hK53
          refine wlit ?_
          refine wl_v (x_move (tmB rfl rfl)) ?_
          refine wl_v (x_not (tmB rfl rfl)) ?_
          refine wl_nil ?_
          refine then_n (hK53 _ _ ?_); clear hK53 K53
          refine cnd (tm rfl) (fun hc6 => ?_) (fun hc6 => ?_)
          · skip
            all_goals
             try simp only [nrm] at hc6
             refine wp_seq_k ?_; intro K54 hK54
             refine wlit ?_
             refine wl_v (x_build (bc_skip (.bool false) <| bc_skip (.bool false) <| bc_skip (.int .u8 0) <| bc_skipL [.bool false, .int .u64 0, .int .u64 0, .bool false, .int .u64 0, .int .u64 0, .int .u16 0, .int .u16 0, .int .u8 0] <| bc_skipL [.int .u16 0, .int .u16 0, .int .u32 0, .int .u32 0, .int .u8 0, .int .u16 0, .int .u16 0, .int .u16 0, .slice none 0 0, .slice none 0 0] <| bc_skipL [.int .u16 0, .int .u16 0, .int .u16 0, .slice none 0 0] <| bc_skipL [.int .u8 0, .int .u8 0, .int .u16 0, .int .u32 0, .slice none 0 0] <| bc_nil) (by kernel_rfl)) ?_
             refine wl_e rfl ?_; intro K hK
             refine ow_storeA hS 4 rfl ts_46 (tmP rfl rfl) (tmA rfl rfl) rfl rfl rfl ?_
             clear hS; intro w hS
             try replace hS := St.nm (M' := [.blk _ _ [_, _, _, _, _], .vw _ _, .blk _ _ [_, _, _, _, _, _, _, _, _, _, _, _, _, _, _, _, _, _, _, _, _, _, _, _, _, _, _, _, _, _, _], .vw _ _, .blk _ _ [_, _, _, _, _, _, _, _, _, _, _, _, _, _, _, _, _, _, _, _, _, _, _, _, _, _, _, _, _, _, _], .vw _ _]) hS rfl
             refine hK _ _ ?_; clear hK K
             refine wl_v (x_assign (ev_cN 3)) ?_
             refine wl_nil ?_
             refine then_n (hK54 _ _ ?_); clear hK54 K54
             refine wp_ret ?_
             refine then_r ?_
             refine ret2 rfl (.cell rfl rfl (load_rowB (cs := [_, _, _, _, _, _, _, _, _, _, _, _, _, _, _, _, _, _, _, _, _, _, _, _, _, _, _, _, _, _, _]) hS.ok 4 rfl Tryd.underlying46 rfl ts_46 rfl)) (.tmp rfl (show _ = Value.int _ _ from rfl)) ?_
             have hz := GiP.z (w := w0) (w' := w)
             first
               | (obtain rfl : er = 20 := by omega
                  rw [(finI_bad (er := 20) (by omega)).1, chk_bad (er := 20) (by omega)]
                  exact ⟨Pl.Z, rfl, hz.1, hz.2.1, hz.2.2.1, hz.2.2.2, hS.kp⟩)
               | (have hff : f = false := by rw [hf]; exact decide_eq_false (by omega)
                  rw [(finI_sum (er := er) hc4 hff).1, chk_sum hc4 hff]
                  exact ⟨Pl.Z, rfl, hz.1, hz.2.1, hz.2.2.1, hz.2.2.2, hS.kp⟩)
               | (have hff : f = true := by rw [hf]; exact decide_eq_true (by omega)
                  rw [(finI_ok (er := er) hc4 hff).1, chk_ok hc4 hff]
                  obtain ⟨six, stay, ttl, s, d, sp, dp, pr, T, D, I⟩ := i0
                  obtain rfl : T = Sg.Z := hT
                  obtain rfl : D = Dg.Z := hD
                  obtain rfl : I = Mg.Z := hI
                  exact ⟨⟨none, 0, none, 0, none, 0, U, cu⟩, rfl, newV_nil _ _, newV_nil _ _, newV_nil _ _, ⟨viewV hS.ok 1 rfl, d1⟩, hS.kp⟩)
          all_goals
           try simp only [nrm] at hc6
           refine wp_skip ?_
           refine then_n (hK52 _ _ ?_); clear hK52 K52
           refine wp_seq_k ?_; intro K56 hK56
           refine wlit ?_
           refine wl_v (x_loadA (cs := [_, _, _, _, _, _, _, _, _, _, _, _, _, _, _, _, _, _, _, _, _, _, _, _, _, _, _, _, _, _, _]) Tryd.underlying46 rfl ts_46 (tmP rfl rfl) (rangeB hS.ok 2 rfl rfl)) ?_
           refine wl_e rfl ?_; intro K hK
           refine ow_storeA hS 4 rfl ts_46 (tmP rfl rfl) (tmA rfl rfl) rfl rfl rfl ?_
           clear hS; intro w hS
           try replace hS := St.nm (M' := [.blk _ _ [_, _, _, _, _], .vw _ _, .blk _ _ [_, _, _, _, _, _, _, _, _, _, _, _, _, _, _, _, _, _, _, _, _, _, _, _, _, _, _, _, _, _, _], .vw _ _, .blk _ _ [_, _, _, _, _, _, _, _, _, _, _, _, _, _, _, _, _, _, _, _, _, _, _, _, _, _, _, _, _, _, _], .vw _ _]) hS rfl
           refine hK _ _ ?_; clear hK K
           refine wl_v (x_assign (ev_cN 0)) ?_
           refine wl_nil ?_
           refine then_n (hK56 _ _ ?_); clear hK56 K56
           refine wp_ret ?_
           refine ret2 rfl (.cell rfl rfl (load_rowB (cs := [_, _, _, _, _, _, _, _, _, _, _, _, _, _, _, _, _, _, _, _, _, _, _, _, _, _, _, _, _, _, _]) hS.ok 4 rfl Tryd.underlying46 rfl ts_46 rfl)) (.tmp rfl (show _ = Value.int _ _ from rfl)) ?_
           have hz := GiP.z (w := w0) (w' := w)
           first
             | (obtain rfl : er = 20 := by omega
                rw [(finI_bad (er := 20) (by omega)).1, chk_bad (er := 20) (by omega)]
                exact ⟨Pl.Z, rfl, hz.1, hz.2.1, hz.2.2.1, hz.2.2.2, hS.kp⟩)
             | (have hff : f = false := by rw [hf]; exact decide_eq_false (by omega)
                rw [(finI_sum (er := er) hc4 hff).1, chk_sum hc4 hff]
                exact ⟨Pl.Z, rfl, hz.1, hz.2.1, hz.2.2.1, hz.2.2.2, hS.kp⟩)
             | (have hff : f = true := by rw [hf]; exact decide_eq_true (by omega)
                rw [(finI_ok (er := er) hc4 hff).1, chk_ok hc4 hff]
                obtain ⟨six, stay, ttl, s, d, sp, dp, pr, T, D, I⟩ := i0
                obtain rfl : T = Sg.Z := hT
                obtain rfl : D = Dg.Z := hD
                obtain rfl : I = Mg.Z := hI
                exact ⟨⟨none, 0, none, 0, none, 0, U, cu⟩, rfl, newV_nil _ _, newV_nil _ _, newV_nil _ _, ⟨viewV hS.ok 1 rfl, d1⟩, hS.kp⟩)
set_option maxRecDepth 100000 in
set_option maxHeartbeats 8000000 in
theorem rhost_none (l : List Nat) (i : Inf) (x : List Nat) (h6 : i.pr ≠ 6) (h17 : i.pr ≠ 17) (hpr : ¬ ((i.pr = 1 ∧ i.six = false) ∨ (i.pr = 58 ∧ i.six = true))) (hH : HdP 20 l i x 0) :
    GiP 10 [] l Inf.Z 6 := fun w0 A c hv hc => by
  have hS := (St.sv w0).vcons rfl hv
  refine ent (n := 128) Tryd.func10 rfl rfl ?_
  refine wp_seq_k ?_; intro K1 hK1
  refine wlit ?_
  refine wl_e rfl ?_; intro K hK
  refine ow_alloc hS tz_46 rfl ?_
  clear hS; intro g0_0 w hg0_0 hS
  refine hK _ _ ?_; clear hK K
  refine wl_v (x_assign (ev_cN 0)) ?_
  refine wl_nil ?_
  refine then_n (hK1 _ _ ?_); clear hK1 K1
  refine wp_seq_k ?_; intro K2 hK2
  refine wlit ?_
  refine wl_v (x_move (tmS rfl rfl)) ?_
  refine wl_e rfl ?_; intro K hK
  refine ow_call Tryd.func20 rfl rfl (evs_cons (tmS rfl rfl) <| evs_nil) (hH _ A c (viewV hS.ok 1 rfl) hc) ?_
  rintro e w ⟨i0, x0, L, cl, hi, hcl, rfl, hn, hk⟩
  refine ⟨_, rfl, ?_⟩
  replace hS := hS.addn hk hn -- +vx
  clear hn hk
  obtain ⟨rfl, rfl⟩ := hi rfl
  refine hK _ _ ?_; clear hK K
  refine wl_v (x_move (tmT rfl rfl)) ?_
  refine wl_v (x_ext (tmT rfl rfl) rfl) ?_
  refine wl_v (x_ext (tmT rfl rfl) rfl) ?_
  refine wl_v (x_ext (tmT rfl rfl) rfl) ?_
  refine wl_e rfl ?_; intro K hK
  refine ow_alloc hS tz_46 rfl ?_
  clear hS; intro g1_6 w hg1_6 hS
  refine hK _ _ ?_; clear hK K
  refine wl_e rfl ?_; intro K hK
  refine ow_storeA hS 0 rfl ts_46 (tmP rfl rfl) (tmA rfl rfl) rfl rfl rfl ?_
  clear hS; intro w hS
  try replace hS := St.nm (M' := [.blk _ _ [_, _, _, _, _, _, _, _, _, _, _, _, _, _, _, _, _, _, _, _, _, _, _, _, _, _, _, _, _, _, _], .vw _ _, .blk _ _ [_, _, _, _, _, _, _, _, _, _, _, _, _, _, _, _, _, _, _, _, _, _, _, _, _, _, _, _, _, _, _], .vw _ _]) hS rfl
  refine hK _ _ ?_; clear hK K
  refine wl_v (x_assign (tmS rfl rfl)) ?_
  refine wl_v (x_assign (tmI rfl rfl)) ?_
  refine wl_nil ?_
  refine then_n (hK2 _ _ ?_); clear hK2 K2
  refine wp_seq_k ?_; intro K3 hK3
  refine wp_seq_k ?_; intro K4 hK4
  refine wlit ?_
  refine wl_v (x_move (tmI rfl rfl)) ?_
  refine wl_v (x_neq (tmI rfl rfl) (ev_cN 0)) ?_
  refine wl_nil ?_
  refine then_n (hK4 _ _ ?_); clear hK4 K4
  refine cnd (tm rfl) (fun hc0 => ?_) (fun hc0 => ?_)
  · exfalso
    simp at hc0
  all_goals
   try simp only [nrm] at hc0
   refine wp_skip ?_
   refine then_n (hK3 _ _ ?_); clear hK3 K3
   refine wp_seq_k ?_; intro K5 hK5
   refine wlit ?_
   refine wl_v (x_assign (ev_cN 0)) ?_
   refine wl_v (x_assign ev_c) ?_
   refine wl_nil ?_
   refine then_n (hK5 _ _ ?_); clear hK5 K5
   refine wp_seq_k ?_; intro K6 hK6
   refine wp_block ?_
   refine wp_seq_k ?_; intro K7 hK7
   refine wlit ?_
   refine wl_v (x_fa 3 Tryd.underlying46 rfl rfl ts_29 (tmP rfl rfl)) ?_
   refine wl_v (x_fa 8 Tryd.underlying29 rfl rfl ts_5 (tmP rfl rfl)) ?_
   refine wl_v (x_load Tryd.underlying5 rfl (tmP rfl rfl) (cellB hS.ok 0 rfl rfl)) ?_
   refine wl_v (x_eql (tmI rfl rfl) (ev_cN 6)) ?_
   refine wl_v (x_assign (tmB rfl rfl)) ?_
   refine wl_nil ?_
   refine then_n (hK7 _ _ ?_); clear hK7 K7
   refine cnd (tm rfl) (fun hc1 => ?_) (fun hc1 => ?_)
   · exfalso
     first | omega | (simp at hc1; omega)
   all_goals
    try simp only [nrm] at hc1
    refine wp_seq_k ?_; intro K8 hK8
    refine wlit ?_
    refine wl_v (x_fa 3 Tryd.underlying46 rfl rfl ts_29 (tmP rfl rfl)) ?_
    refine wl_v (x_fa 8 Tryd.underlying29 rfl rfl ts_5 (tmP rfl rfl)) ?_
    refine wl_v (x_load Tryd.underlying5 rfl (tmP rfl rfl) (cellB hS.ok 0 rfl rfl)) ?_
    refine wl_v (x_eql (tmI rfl rfl) (ev_cN 17)) ?_
    refine wl_v (x_assign (tmB rfl rfl)) ?_
    refine wl_nil ?_
    refine then_n (hK8 _ _ ?_); clear hK8 K8
    refine cnd (tm rfl) (fun hc2 => ?_) (fun hc2 => ?_)
    · exfalso
      first | omega | (simp at hc2; omega)
    all_goals
     try simp only [nrm] at hc2
     refine wp_seq_k ?_; intro K9 hK9
     refine wlit ?_
     refine wl_v (x_fa 0 Tryd.underlying46 rfl rfl ts_4 (tmP rfl rfl)) ?_
     refine wl_v (x_load Tryd.underlying4 rfl (tmP rfl rfl) (cellB hS.ok 0 rfl rfl)) ?_
     refine wl_v (x_not (tmB rfl rfl)) ?_
     refine wl_v (x_move (tmB rfl rfl)) ?_
     refine gs_wl (tm (t := 85) rfl) (fun hg14_3 => ?_) (fun hg14_3 => ?_)
     · have hg14_3' := hg14_3; (try simp only [nrm] at hg14_3')
       all_goals
        refine wl_gv (want_y rfl rfl rfl rfl (by rw [hg14_3]; rfl)) (x_fa 3 Tryd.underlying46 rfl rfl ts_29 (tmP rfl rfl)) ?_
        refine wl_gv (want_y rfl rfl rfl rfl (by rw [hg14_3]; rfl)) (x_fa 8 Tryd.underlying29 rfl rfl ts_5 (tmP rfl rfl)) ?_
        refine wl_gv (want_y rfl rfl rfl rfl (by rw [hg14_3]; rfl)) (x_load Tryd.underlying5 rfl (tmP rfl rfl) (cellB hS.ok 0 rfl rfl)) ?_
        refine wl_gv (want_y rfl rfl rfl rfl (by rw [hg14_3]; rfl)) (x_eql (tmI rfl rfl) (ev_cN 1)) ?_
        refine wl_v (x_pickT (tmB rfl rfl) hg14_3 (tmB rfl rfl)) ?_
        refine wl_v (x_move (tmB rfl rfl)) ?_
        refine gs_wl (tm (t := 91) rfl) (fun hg14_9 => ?_) (fun hg14_9 => ?_)
        · exfalso
          exact hpr (.inl ⟨by have := of_decide_eq_true hg14_9; omega, hg14_3'⟩)
        have hg14_9' := hg14_9; (try simp only [nrm] at hg14_9')
        all_goals
         refine wl_gv (want_y rfl rfl rfl rfl (by rw [hg14_9]; rfl)) (x_fa 0 Tryd.underlying46 rfl rfl ts_4 (tmP rfl rfl)) ?_
         refine wl_gv (want_y rfl rfl rfl rfl (by rw [hg14_9]; rfl)) (x_load Tryd.underlying4 rfl (tmP rfl rfl) (cellB hS.ok 0 rfl rfl)) ?_
         refine wl_gv (want_y rfl rfl rfl rfl (by rw [hg14_9]; rfl)) (x_move (tmB rfl rfl)) ?_
         refine gs_wl (tm (t := 94) rfl) (fun hg14_12 => ?_) (fun hg14_12 => ?_)
         · have hg14_12' := hg14_12; (try simp only [nrm] at hg14_12')
           all_goals
            refine wl_gv (want_y rfl rfl rfl rfl (by rw [hg14_12]; rfl)) (x_fa 3 Tryd.underlying46 rfl rfl ts_29 (tmP rfl rfl)) ?_
            refine wl_gv (want_y rfl rfl rfl rfl (by rw [hg14_12]; rfl)) (x_fa 8 Tryd.underlying29 rfl rfl ts_5 (tmP rfl rfl)) ?_
            refine wl_gv (want_y rfl rfl rfl rfl (by rw [hg14_12]; rfl)) (x_load Tryd.underlying5 rfl (tmP rfl rfl) (cellB hS.ok 0 rfl rfl)) ?_
            refine wl_gv (want_y rfl rfl rfl rfl (by rw [hg14_12]; rfl)) (x_eql (tmI rfl rfl) (ev_cN 58)) ?_
            refine wl_gv (want_y rfl rfl rfl rfl (by rw [hg14_9]; rfl)) (x_pickT (tmB rfl rfl) hg14_12 (tmB rfl rfl)) ?_
            refine wl_v (x_pickF (tmB rfl rfl) hg14_9 (tmB rfl rfl)) ?_
            refine wl_v (x_assign (tmB rfl rfl)) ?_
            refine wl_nil ?_
            refine then_n (hK9 _ _ ?_); clear hK9 K9
            refine cnd (tm rfl) (fun hc3 => ?_) (fun hc3 => ?_)
            · exfalso
              exact hpr (.inr ⟨by have := of_decide_eq_true hc3; omega, by first | exact hg14_12' | exact hg14_3'⟩)
            all_goals
             try simp only [nrm] at hc3
             refine wp_seq_k ?_; intro K10 hK10
             refine wlit ?_
             refine wl_v (x_build (bc_skip (.bool false) <| bc_skip (.bool false) <| bc_skip (.int .u8 0) <| bc_skipL [.bool false, .int .u64 0, .int .u64 0, .bool false, .int .u64 0, .int .u64 0, .int .u16 0, .int .u16 0, .int .u8 0] <| bc_skipL [.int .u16 0, .int .u16 0, .int .u32 0, .int .u32 0, .int .u8 0, .int .u16 0, .int .u16 0, .int .u16 0, .slice none 0 0, .slice none 0 0] <| bc_skipL [.int .u16 0, .int .u16 0, .int .u16 0, .slice none 0 0] <| bc_skipL [.int .u8 0, .int .u8 0, .int .u16 0, .int .u32 0, .slice none 0 0] <| bc_nil) (by kernel_rfl)) ?_
             refine wl_e rfl ?_; intro K hK
             refine ow_storeA hS 2 rfl ts_46 (tmP rfl rfl) (tmA rfl rfl) rfl rfl rfl ?_
             clear hS; intro w hS
             try replace hS := St.nm (M' := [.blk _ _ [_, _, _, _, _, _, _, _, _, _, _, _, _, _, _, _, _, _, _, _, _, _, _, _, _, _, _, _, _, _, _], .vw _ _, .blk _ _ [_, _, _, _, _, _, _, _, _, _, _, _, _, _, _, _, _, _, _, _, _, _, _, _, _, _, _, _, _, _, _], .vw _ _]) hS rfl
             refine hK _ _ ?_; clear hK K
             refine wl_v (x_assign (ev_cN 6)) ?_
             refine wl_nil ?_
             refine then_n (hK10 _ _ ?_); clear hK10 K10
             refine wp_ret ?_
             refine inb_r ?_
             refine then_r ?_
             refine ret2 rfl (.cell rfl rfl (load_rowB (cs := [_, _, _, _, _, _, _, _, _, _, _, _, _, _, _, _, _, _, _, _, _, _, _, _, _, _, _, _, _, _, _]) hS.ok 2 rfl Tryd.underlying46 rfl ts_46 rfl)) (.tmp rfl (show _ = Value.int _ _ from rfl)) ?_
             have hz := GiP.z (w := w0) (w' := w)
             exact ⟨Pl.Z, rfl, hz.1, hz.2.1, hz.2.2.1, hz.2.2.2, hS.kp⟩
         have hg14_12' := hg14_12; (try simp only [nrm] at hg14_12')
         all_goals
          refine wl_s rfl (want_n rfl rfl rfl rfl (by rw [hg14_12]; rfl)) ?_
          refine wl_s rfl (want_n rfl rfl rfl rfl (by rw [hg14_12]; rfl)) ?_
          refine wl_s rfl (want_n rfl rfl rfl rfl (by rw [hg14_12]; rfl)) ?_
          refine wl_s rfl (want_n rfl rfl rfl rfl (by rw [hg14_12]; rfl)) ?_
          refine wl_gv (want_y rfl rfl rfl rfl (by rw [hg14_9]; rfl)) (x_pickF (tmB rfl rfl) hg14_12 ev_c) ?_
          refine wl_v (x_pickF (tmB rfl rfl) hg14_9 (tmB rfl rfl)) ?_
          refine wl_v (x_assign (tmB rfl rfl)) ?_
          refine wl_nil ?_
          refine then_n (hK9 _ _ ?_); clear hK9 K9
          refine cnd_f (tmB rfl rfl) rfl ?_
          refine wp_seq_k ?_; intro K12 hK12
          refine wlit ?_
          refine wl_v (x_build (bc_skip (.bool false) <| bc_skip (.bool false) <| bc_skip (.int .u8 0) <| bc_skipL [.bool false, .int .u64 0, .int .u64 0, .bool false, .int .u64 0, .int .u64 0, .int .u16 0, .int .u16 0, .int .u8 0] <| bc_skipL [.int .u16 0, .int .u16 0, .int .u32 0, .int .u32 0, .int .u8 0, .int .u16 0, .int .u16 0, .int .u16 0, .slice none 0 0, .slice none 0 0] <| bc_skipL [.int .u16 0, .int .u16 0, .int .u16 0, .slice none 0 0] <| bc_skipL [.int .u8 0, .int .u8 0, .int .u16 0, .int .u32 0, .slice none 0 0] <| bc_nil) (by kernel_rfl)) ?_
          refine wl_e rfl ?_; intro K hK
          refine ow_storeA hS 2 rfl ts_46 (tmP rfl rfl) (tmA rfl rfl) rfl rfl rfl ?_
          clear hS; intro w hS
          try replace hS := St.nm (M' := [.blk _ _ [_, _, _, _, _, _, _, _, _, _, _, _, _, _, _, _, _, _, _, _, _, _, _, _, _, _, _, _, _, _, _], .vw _ _, .blk _ _ [_, _, _, _, _, _, _, _, _, _, _, _, _, _, _, _, _, _, _, _, _, _, _, _, _, _, _, _, _, _, _], .vw _ _]) hS rfl
          refine hK _ _ ?_; clear hK K
          refine wl_v (x_assign (ev_cN 6)) ?_
          refine wl_nil ?_
          refine then_n (hK12 _ _ ?_); clear hK12 K12
          refine wp_ret ?_
          refine inb_r ?_
          refine then_r ?_
          refine ret2 rfl (.cell rfl rfl (load_rowB (cs := [_, _, _, _, _, _, _, _, _, _, _, _, _, _, _, _, _, _, _, _, _, _, _, _, _, _, _, _, _, _, _]) hS.ok 2 rfl Tryd.underlying46 rfl ts_46 rfl)) (.tmp rfl (show _ = Value.int _ _ from rfl)) ?_
          have hz := GiP.z (w := w0) (w' := w)
          exact ⟨Pl.Z, rfl, hz.1, hz.2.1, hz.2.2.1, hz.2.2.2, hS.kp⟩
     have hg14_3' := hg14_3; (try simp only [nrm] at hg14_3')
     all_goals
      refine wl_s rfl (want_n rfl rfl rfl rfl (by rw [hg14_3]; rfl)) ?_
      refine wl_s rfl (want_n rfl rfl rfl rfl (by rw [hg14_3]; rfl)) ?_
      refine wl_s rfl (want_n rfl rfl rfl rfl (by rw [hg14_3]; rfl)) ?_
      refine wl_s rfl (want_n rfl rfl rfl rfl (by rw [hg14_3]; rfl)) ?_
      refine wl_v (x_pickF (tmB rfl rfl) hg14_3 ev_c) ?_
      refine wl_v (x_move (tmB rfl rfl)) ?_
      refine wl_gv (want_y rfl rfl rfl rfl rfl) (x_fa 0 Tryd.underlying46 rfl rfl ts_4 (tmP rfl rfl)) ?_
      refine wl_gv (want_y rfl rfl rfl rfl rfl) (x_load Tryd.underlying4 rfl (tmP rfl rfl) (cellB hS.ok 0 rfl rfl)) ?_
      refine wl_gv (want_y rfl rfl rfl rfl rfl) (x_move (tmB rfl rfl)) ?_
      refine gs_wl (tm (t := 94) rfl) (fun hg14_12 => ?_) (fun hg14_12 => ?_)
      · have hg14_12' := hg14_12; (try simp only [nrm] at hg14_12')
        all_goals
         refine wl_gv (want_y rfl rfl rfl rfl (by rw [hg14_12]; rfl)) (x_fa 3 Tryd.underlying46 rfl rfl ts_29 (tmP rfl rfl)) ?_
         refine wl_gv (want_y rfl rfl rfl rfl (by rw [hg14_12]; rfl)) (x_fa 8 Tryd.underlying29 rfl rfl ts_5 (tmP rfl rfl)) ?_
         refine wl_gv (want_y rfl rfl rfl rfl (by rw [hg14_12]; rfl)) (x_load Tryd.underlying5 rfl (tmP rfl rfl) (cellB hS.ok 0 rfl rfl)) ?_
         refine wl_gv (want_y rfl rfl rfl rfl (by rw [hg14_12]; rfl)) (x_eql (tmI rfl rfl) (ev_cN 58)) ?_
         refine wl_gv (want_y rfl rfl rfl rfl rfl) (x_pickT (tmB rfl rfl) hg14_12 (tmB rfl rfl)) ?_
         refine wl_v (x_pickF (tmB rfl rfl) rfl (tmB rfl rfl)) ?_
         refine wl_v (x_assign (tmB rfl rfl)) ?_
         refine wl_nil ?_
         refine then_n (hK9 _ _ ?_); clear hK9 K9
         refine cnd (tm rfl) (fun hc3 => ?_) (fun hc3 => ?_)
         · exfalso
           exact hpr (.inr ⟨by have := of_decide_eq_true hc3; omega, by first | exact hg14_12' | exact hg14_3'⟩)
         all_goals
          try simp only [nrm] at hc3
          refine wp_seq_k ?_; intro K14 hK14
          refine wlit ?_
          refine wl_v (x_build (bc_skip (.bool false) <| bc_skip (.bool false) <| bc_skip (.int .u8 0) <| bc_skipL [.bool false, .int .u64 0, .int .u64 0, .bool false, .int .u64 0, .int .u64 0, .int .u16 0, .int .u16 0, .int .u8 0] <| bc_skipL [.int .u16 0, .int .u16 0, .int .u32 0, .int .u32 0, .int .u8 0, .int .u16 0, .int .u16 0, .int .u16 0, .slice none 0 0, .slice none 0 0] <| bc_skipL [.int .u16 0, .int .u16 0, .int .u16 0, .slice none 0 0] <| bc_skipL [.int .u8 0, .int .u8 0, .int .u16 0, .int .u32 0, .slice none 0 0] <| bc_nil) (by kernel_rfl)) ?_
          refine wl_e rfl ?_; intro K hK
          refine ow_storeA hS 2 rfl ts_46 (tmP rfl rfl) (tmA rfl rfl) rfl rfl rfl ?_
          clear hS; intro w hS
          try replace hS := St.nm (M' := [.blk _ _ [_, _, _, _, _, _, _, _, _, _, _, _, _, _, _, _, _, _, _, _, _, _, _, _, _, _, _, _, _, _, _], .vw _ _, .blk _ _ [_, _, _, _, _, _, _, _, _, _, _, _, _, _, _, _, _, _, _, _, _, _, _, _, _, _, _, _, _, _, _], .vw _ _]) hS rfl
          refine hK _ _ ?_; clear hK K
          refine wl_v (x_assign (ev_cN 6)) ?_
          refine wl_nil ?_
          refine then_n (hK14 _ _ ?_); clear hK14 K14
          refine wp_ret ?_
          refine inb_r ?_
          refine then_r ?_
          refine ret2 rfl (.cell rfl rfl (load_rowB (cs := [_, _, _, _, _, _, _, _, _, _, _, _, _, _, _, _, _, _, _, _, _, _, _, _, _, _, _, _, _, _, _]) hS.ok 2 rfl Tryd.underlying46 rfl ts_46 rfl)) (.tmp rfl (show _ = Value.int _ _ from rfl)) ?_
          have hz := GiP.z (w := w0) (w' := w)
          exact ⟨Pl.Z, rfl, hz.1, hz.2.1, hz.2.2.1, hz.2.2.2, hS.kp⟩
      have hg14_12' := hg14_12; (try simp only [nrm] at hg14_12')
      all_goals
       refine wl_s rfl (want_n rfl rfl rfl rfl (by rw [hg14_12]; rfl)) ?_
       refine wl_s rfl (want_n rfl rfl rfl rfl (by rw [hg14_12]; rfl)) ?_
       refine wl_s rfl (want_n rfl rfl rfl rfl (by rw [hg14_12]; rfl)) ?_
       refine wl_s rfl (want_n rfl rfl rfl rfl (by rw [hg14_12]; rfl)) ?_
       refine wl_gv (want_y rfl rfl rfl rfl rfl) (x_pickF (tmB rfl rfl) hg14_12 ev_c) ?_
       refine wl_v (x_pickF (tmB rfl rfl) rfl (tmB rfl rfl)) ?_
       refine wl_v (x_assign (tmB rfl rfl)) ?_
       refine wl_nil ?_
       refine then_n (hK9 _ _ ?_); clear hK9 K9
       refine cnd_f (tmB rfl rfl) rfl ?_
       refine wp_seq_k ?_; intro K16 hK16
       refine wlit ?_
       refine wl_v (x_build (bc_skip (.bool false) <| bc_skip (.bool false) <| bc_skip (.int .u8 0) <| bc_skipL [.bool false, .int .u64 0, .int .u64 0, .bool false, .int .u64 0, .int .u64 0, .int .u16 0, .int .u16 0, .int .u8 0] <| bc_skipL [.int .u16 0, .int .u16 0, .int .u32 0, .int .u32 0, .int .u8 0, .int .u16 0, .int .u16 0, .int .u16 0, .slice none 0 0, .slice none 0 0] <| bc_skipL [.int .u16 0, .int .u16 0, .int .u16 0, .slice none 0 0] <| bc_skipL [.int .u8 0, .int .u8 0, .int .u16 0, .int .u32 0, .slice none 0 0] <| bc_nil) (by kernel_rfl)) ?_
       refine wl_e rfl ?_; intro K hK
       refine ow_storeA hS 2 rfl ts_46 (tmP rfl rfl) (tmA rfl rfl) rfl rfl rfl ?_
       clear hS; intro w hS
       try replace hS := St.nm (M' := [.blk _ _ [_, _, _, _, _, _, _, _, _, _, _, _, _, _, _, _, _, _, _, _, _, _, _, _, _, _, _, _, _, _, _], .vw _ _, .blk _ _ [_, _, _, _, _, _, _, _, _, _, _, _, _, _, _, _, _, _, _, _, _, _, _, _, _, _, _, _, _, _, _], .vw _ _]) hS rfl
       refine hK _ _ ?_; clear hK K
       refine wl_v (x_assign (ev_cN 6)) ?_
       refine wl_nil ?_
       refine then_n (hK16 _ _ ?_); clear hK16 K16
       refine wp_ret ?_
       refine inb_r ?_
       refine then_r ?_
       refine ret2 rfl (.cell rfl rfl (load_rowB (cs := [_, _, _, _, _, _, _, _, _, _, _, _, _, _, _, _, _, _, _, _, _, _, _, _, _, _, _, _, _, _, _]) hS.ok 2 rfl Tryd.underlying46 rfl ts_46 rfl)) (.tmp rfl (show _ = Value.int _ _ from rfl)) ?_
       have hz := GiP.z (w := w0) (w' := w)
       exact ⟨Pl.Z, rfl, hz.1, hz.2.1, hz.2.2.1, hz.2.2.2, hS.kp⟩
set_option maxRecDepth 100000 in
set_option maxHeartbeats 8000000 in
theorem rread_c (l : List Nat) (i : Inf) (x : List Nat) (why : Int) (hi_ : Inf) (hw : Int) (hH : HdP 20 l i x why) (hG : GiP 10 [] l hi_ hw) (ri : Inf) (rw_ : Int) (h1 : why = 0 → i.ttl ≤ 1 → ri = Inf.Z ∧ rw_ = 5) (h2 : ¬ (why = 0 ∧ i.ttl ≤ 1) → ri = hi_ ∧ rw_ = hw) :
    GiP 8 [] l ri rw_ := fun w0 A c hv hc => by
  have hS := (St.sv w0).vcons rfl hv
  refine ent (n := 25) Tryd.func8 rfl rfl ?_
  refine wp_seq_k ?_; intro K1 hK1
  refine wlit ?_
  refine wl_e rfl ?_; intro K hK
  refine ow_alloc hS tz_46 rfl ?_
  clear hS; intro g0_0 w hg0_0 hS
  refine hK _ _ ?_; clear hK K
  refine wl_v (x_assign (ev_cN 0)) ?_
  refine wl_nil ?_
  refine then_n (hK1 _ _ ?_); clear hK1 K1
  refine wp_seq_k ?_; intro K2 hK2
  refine wlit ?_
  refine wl_v (x_move (tmS rfl rfl)) ?_
  refine wl_e rfl ?_; intro K hK
  refine ow_call Tryd.func20 rfl rfl (evs_cons (tmS rfl rfl) <| evs_nil) (hH _ A c (viewV hS.ok 1 rfl) hc) ?_
  rintro e w ⟨i0, x0, L, cl, hi, hcl, rfl, hn, hk⟩
  refine ⟨_, rfl, ?_⟩
  replace hS := hS.addn hk hn -- +vx
  clear hn hk
  refine hK _ _ ?_; clear hK K
  refine wl_v (x_move (tmT rfl rfl)) ?_
  refine wl_v (x_ext (tmT rfl rfl) rfl) ?_
  refine wl_v (x_ext (tmT rfl rfl) rfl) ?_
  refine wl_v (x_ext (tmT rfl rfl) rfl) ?_
  refine wl_e rfl ?_; intro K hK
  refine ow_alloc hS tz_46 rfl ?_
  clear hS; intro g1_6 w hg1_6 hS
  refine hK _ _ ?_; clear hK K
  refine wl_e rfl ?_; intro K hK
  refine ow_storeA hS 0 rfl ts_46 (tmP rfl rfl) (tmA rfl rfl) rfl rfl rfl ?_
  clear hS; intro w hS
  try replace hS := St.nm (M' := [.blk _ _ [_, _, _, _, _, _, _, _, _, _, _, _, _, _, _, _, _, _, _, _, _, _, _, _, _, _, _, _, _, _, _], .vw _ _, .blk _ _ [_, _, _, _, _, _, _, _, _, _, _, _, _, _, _, _, _, _, _, _, _, _, _, _, _, _, _, _, _, _, _], .vw _ _]) hS rfl
  refine hK _ _ ?_; clear hK K
  refine wl_v (x_assign (tmS rfl rfl)) ?_
  refine wl_v (x_assign (tmI rfl rfl)) ?_
  refine wl_nil ?_
  refine then_n (hK2 _ _ ?_); clear hK2 K2
  refine wp_seq_k ?_; intro K3 hK3
  refine wp_seq_k ?_; intro K4 hK4
  refine wlit ?_
  refine wl_v (x_move (tmI rfl rfl)) ?_
  refine wl_v (x_eql (tmI rfl rfl) (ev_cN 0)) ?_
  refine wl_v (x_move (tmB rfl rfl)) ?_
  refine gs_wl (tm (t := 15) rfl) (fun hg2_2 => ?_) (fun hg2_2 => ?_)
  · have hg2_2' := hg2_2; (try simp only [nrm] at hg2_2')
    all_goals
     refine wl_gv (want_y rfl rfl rfl rfl (by rw [hg2_2]; rfl)) (x_fa 2 Tryd.underlying46 rfl rfl ts_5 (tmP rfl rfl)) ?_
     refine wl_gv (want_y rfl rfl rfl rfl (by rw [hg2_2]; rfl)) (x_load Tryd.underlying5 rfl (tmP rfl rfl) (cellB hS.ok 0 rfl rfl)) ?_
     refine wl_gv (want_y rfl rfl rfl rfl (by rw [hg2_2]; rfl)) (x_leq (tmI rfl rfl) (ev_cN 1)) ?_
     refine wl_v (x_pickT (tmB rfl rfl) hg2_2 (tmB rfl rfl)) ?_
     refine wl_nil ?_
     refine then_n (hK4 _ _ ?_); clear hK4 K4
     refine cnd (tm rfl) (fun hc0 => ?_) (fun hc0 => ?_)
     · skip
       all_goals
        try simp only [nrm] at hc0
        refine wp_seq_k ?_; intro K5 hK5
        refine wlit ?_
        refine wl_v (x_build (bc_skip (.bool false) <| bc_skip (.bool false) <| bc_skip (.int .u8 0) <| bc_skipL [.bool false, .int .u64 0, .int .u64 0, .bool false, .int .u64 0, .int .u64 0, .int .u16 0, .int .u16 0, .int .u8 0] <| bc_skipL [.int .u16 0, .int .u16 0, .int .u32 0, .int .u32 0, .int .u8 0, .int .u16 0, .int .u16 0, .int .u16 0, .slice none 0 0, .slice none 0 0] <| bc_skipL [.int .u16 0, .int .u16 0, .int .u16 0, .slice none 0 0] <| bc_skipL [.int .u8 0, .int .u8 0, .int .u16 0, .int .u32 0, .slice none 0 0] <| bc_nil) (by kernel_rfl)) ?_
        refine wl_e rfl ?_; intro K hK
        refine ow_storeA hS 2 rfl ts_46 (tmP rfl rfl) (tmA rfl rfl) rfl rfl rfl ?_
        clear hS; intro w hS
        try replace hS := St.nm (M' := [.blk _ _ [_, _, _, _, _, _, _, _, _, _, _, _, _, _, _, _, _, _, _, _, _, _, _, _, _, _, _, _, _, _, _], .vw _ _, .blk _ _ [_, _, _, _, _, _, _, _, _, _, _, _, _, _, _, _, _, _, _, _, _, _, _, _, _, _, _, _, _, _, _], .vw _ _]) hS rfl
        refine hK _ _ ?_; clear hK K
        refine wl_v (x_assign (ev_cN 5)) ?_
        refine wl_nil ?_
        refine then_n (hK5 _ _ ?_); clear hK5 K5
        refine wp_ret ?_
        refine then_r ?_
        refine ret2 rfl (.cell rfl rfl (load_rowB (cs := [_, _, _, _, _, _, _, _, _, _, _, _, _, _, _, _, _, _, _, _, _, _, _, _, _, _, _, _, _, _, _]) hS.ok 2 rfl Tryd.underlying46 rfl ts_46 rfl)) (.tmp rfl (show _ = Value.int _ _ from rfl)) ?_
        have hz := GiP.z (w := w0) (w' := w)
        first
          | (have hy : why = 0 := by first | omega | (simp at hg2_2; omega)
             obtain ⟨rfl, rfl⟩ := h1 hy (by rw [← (hi hy).1]; first | omega | (simp at hc0; omega))
             exact ⟨Pl.Z, rfl, hz.1, hz.2.1, hz.2.2.1, hz.2.2.2, hS.kp⟩)
          | (obtain ⟨rfl, rfl⟩ := h2 (fun h => by
               have := (hi h.1).1
               subst this
               first | omega | (simp at hc0; omega) | (simp at hg2_2; omega))
             exact ⟨p, rfl, ⟨viewV hS.ok (no_label_v1) rfl, m1⟩, ⟨viewV hS.ok (no_label_v2) rfl, m2⟩, ⟨viewV hS.ok (no_label_v3) rfl, m3⟩, ⟨viewV hS.ok (no_label_v4) rfl, m4⟩, hS.kp⟩)
     all_goals
      try simp only [nrm] at hc0
      refine wp_skip ?_
      refine then_n (hK3 _ _ ?_); clear hK3 K3
      refine wp_seq_k ?_; intro K7 hK7
      refine wlit ?_
      refine wl_v (x_move (tmS rfl rfl)) ?_
      refine wl_e rfl ?_; intro K hK
      refine ow_call Tryd.func10 rfl rfl (evs_cons (tmS rfl rfl) <| evs_nil) (hG _ A c (viewV hS.ok 3 rfl) hc) ?_
      rintro e w ⟨p, rfl, n1, n2, n3, n4, hk⟩
      refine ⟨_, rfl, ?_⟩
      have m1 := n1.newb hS
      have m2 := n2.newb hS
      have m3 := n3.newb hS
      have m4 := n4.newb hS
      replace hS := (hS.addn4 hk n1 n2 n3 n4) -- +v1,v2,v3,v4
      clear hk n1 n2 n3 n4
      refine hK _ _ ?_; clear hK K
      refine wl_v (x_ext (tmT rfl rfl) rfl) ?_
      refine wl_v (x_ext (tmT rfl rfl) rfl) ?_
      refine wl_e rfl ?_; intro K hK
      refine ow_storeA hS 6 rfl ts_46 (tmP rfl rfl) (tmA rfl rfl) rfl rfl rfl ?_
      clear hS; intro w hS
      try replace hS := St.nm (M' := [.vw _ _, .vw _ _, .vw _ _, .vw _ _, .blk _ _ [_, _, _, _, _, _, _, _, _, _, _, _, _, _, _, _, _, _, _, _, _, _, _, _, _, _, _, _, _, _, _], .vw _ _, .blk _ _ [_, _, _, _, _, _, _, _, _, _, _, _, _, _, _, _, _, _, _, _, _, _, _, _, _, _, _, _, _, _, _], .vw _ _]) hS rfl
      refine hK _ _ ?_; clear hK K
      refine wl_v (x_assign (tmI rfl rfl)) ?_
      refine wl_nil ?_
      refine then_n (hK7 _ _ ?_); clear hK7 K7
      refine wp_ret ?_
      refine ret2 rfl (.cell rfl rfl (load_rowB (cs := [_, _, _, _, _, _, _, _, _, _, _, _, _, _, _, _, _, _, _, _, _, _, _, _, _, _, _, _, _, _, _]) hS.ok 6 rfl Tryd.underlying46 rfl ts_46 rfl)) (.tmp rfl (show _ = Value.int _ _ from rfl)) ?_
      have hz := GiP.z (w := w0) (w' := w)
      first
        | (have hy : why = 0 := by first | omega | (simp at hg2_2; omega)
           obtain ⟨rfl, rfl⟩ := h1 hy (by rw [← (hi hy).1]; first | omega | (simp at hc0; omega))
           exact ⟨Pl.Z, rfl, hz.1, hz.2.1, hz.2.2.1, hz.2.2.2, hS.kp⟩)
        | (obtain ⟨rfl, rfl⟩ := h2 (fun h => by
             have := (hi h.1).1
             subst this
             first | omega | (simp at hc0; omega) | (simp at hg2_2; omega))
           exact ⟨p, rfl, ⟨viewV hS.ok 0 rfl, m1⟩, ⟨viewV hS.ok 1 rfl, m2⟩, ⟨viewV hS.ok 2 rfl, m3⟩, ⟨viewV hS.ok 3 rfl, m4⟩, hS.kp⟩)
  have hg2_2' := hg2_2; (try simp only [nrm] at hg2_2')
  all_goals
   refine wl_s rfl (want_n rfl rfl rfl rfl (by rw [hg2_2]; rfl)) ?_
   refine wl_s rfl (want_n rfl rfl rfl rfl (by rw [hg2_2]; rfl)) ?_
   refine wl_s rfl (want_n rfl rfl rfl rfl (by rw [hg2_2]; rfl)) ?_
   refine wl_v (x_pickF (tmB rfl rfl) hg2_2 ev_c) ?_
   refine wl_nil ?_
   refine then_n (hK4 _ _ ?_); clear hK4 K4
   refine cnd_f (tmB rfl rfl) rfl ?_
   refine wp_skip ?_
   refine then_n (hK3 _ _ ?_); clear hK3 K3
   refine wp_seq_k ?_; intro K9 hK9
   refine wlit ?_
   refine wl_v (x_move (tmS rfl rfl)) ?_
   refine wl_e rfl ?_; intro K hK
   refine ow_call Tryd.func10 rfl rfl (evs_cons (tmS rfl rfl) <| evs_nil) (hG _ A c (viewV hS.ok 3 rfl) hc) ?_
   rintro e w ⟨p, rfl, n1, n2, n3, n4, hk⟩
   refine ⟨_, rfl, ?_⟩
   have m1 := n1.newb hS
   have m2 := n2.newb hS
   have m3 := n3.newb hS
   have m4 := n4.newb hS
   replace hS := (hS.addn4 hk n1 n2 n3 n4) -- +v1,v2,v3,v4
   clear hk n1 n2 n3 n4
   refine hK _ _ ?_; clear hK K
   refine wl_v (x_ext (tmT rfl rfl) rfl) ?_
   refine wl_v (x_ext (tmT rfl rfl) rfl) ?_
   refine wl_e rfl ?_; intro K hK
   refine ow_storeA hS 6 rfl ts_46 (tmP rfl rfl) (tmA rfl rfl) rfl rfl rfl ?_
   clear hS; intro w hS
   try replace hS := St.nm (M' := [.vw _ _, .vw _ _, .vw _ _, .vw _ _, .blk _ _ [_, _, _, _, _, _, _, _, _, _, _, _, _, _, _, _, _, _, _, _, _, _, _, _, _, _, _, _, _, _, _], .vw _ _, .blk _ _ [_, _, _, _, _, _, _, _, _, _, _, _, _, _, _, _, _, _, _, _, _, _, _, _, _, _, _, _, _, _, _], .vw _ _]) hS rfl
   refine hK _ _ ?_; clear hK K
   refine wl_v (x_assign (tmI rfl rfl)) ?_
   refine wl_nil ?_
   refine then_n (hK9 _ _ ?_); clear hK9 K9
   refine wp_ret ?_
   refine ret2 rfl (.cell rfl rfl (load_rowB (cs := [_, _, _, _, _, _, _, _, _, _, _, _, _, _, _, _, _, _, _, _, _, _, _, _, _, _, _, _, _, _, _]) hS.ok 6 rfl Tryd.underlying46 rfl ts_46 rfl)) (.tmp rfl (show _ = Value.int _ _ from rfl)) ?_
   have hz := GiP.z (w := w0) (w' := w)
   first
     | (have hy : why = 0 := by first | omega | (simp at hg2_2; omega)
        obtain ⟨rfl, rfl⟩ := h1 hy (by rw [← (hi hy).1]; first | omega | (simp at hc0; omega))
        exact ⟨Pl.Z, rfl, hz.1, hz.2.1, hz.2.2.1, hz.2.2.2, hS.kp⟩)
     | (obtain ⟨rfl, rfl⟩ := h2 (fun h => by
          have := (hi h.1).1
          subst this
          first | omega | (simp at hc0; omega) | (simp at hg2_2; omega))
        exact ⟨p, rfl, ⟨viewV hS.ok 0 rfl, m1⟩, ⟨viewV hS.ok 1 rfl, m2⟩, ⟨viewV hS.ok 2 rfl, m3⟩, ⟨viewV hS.ok 3 rfl, m4⟩, hS.kp⟩)
def Inf.ok (i : Inf) : Prop := i.T.ok ∧ i.D.ok ∧ i.I.ok
theorem Inf.Z_ok : Inf.Z.ok := ⟨Sg.Z_ok, Dg.Z_ok, Mg.Z_ok⟩
theorem car_ex (l : List Nat) (i : Inf) (hT : i.T = Sg.Z) (hD : i.D = Dg.Z) (hI : i.I = Mg.Z) (x : List Nat) (hb : Bytes x) (hx : x.length ≤ 3000) (h6 : i.s.six = i.d.six) (hls : adLim i.s) (hld : adLim i.d) :
    ∃ i' why2, i'.ok ∧ CarP i x i' why2 ∧ (HdP 20 l i x 0 → GiP 10 [] l (finI i' why2) why2) := by
  have okT : i.T.ok := by rw [hT]; exact Sg.Z_ok
  have okD : i.D.ok := by rw [hD]; exact Dg.Z_ok
  have okI : i.I.ok := by rw [hI]; exact Mg.Z_ok
  by_cases p6 : i.pr = 6
  · obtain ⟨t, er, ht, her, hP1, hP2⟩ := pt_ex x hb hx
    refine ⟨_, _, ?_, carry_tcp i hT hD hI x t er p6 hb hx h6 hls hld hP1, fun hH => ?_⟩
    · exact ⟨ht, okD, okI⟩
    · exact rhost_tcp l i hT hD hI x t er p6 hb hx h6 hls hld hH hP2 _ rfl
  · by_cases p17 : i.pr = 17
    · obtain ⟨t, er, ht, her, hP1, hP2⟩ := pu_ex x hb hx
      refine ⟨_, _, ?_, carry_udp i hT hD hI x t er p17 hx h6 hls hld ht hP1, fun hH => ?_⟩
      · exact ⟨okT, ht, okI⟩
      · exact rhost_udp l i hT hD hI x t er p17 hx h6 hls hld ht hH hP2 _ rfl
    · by_cases q : (i.pr = 1 ∧ i.six = false) ∨ (i.pr = 58 ∧ i.six = true)
      · obtain ⟨t, er, ht, her, hP1, hP2⟩ := pm_ex x hb hx
        refine ⟨_, _, ?_, carry_icmp i hT hD hI x t er q hx h6 hls hld ht hP1, fun hH => ?_⟩
        · exact ⟨okT, okD, ht⟩
        · exact rhost_icmp l i hT hD hI x t er her q hx h6 hls hld ht hH hP2 _ rfl
      · exact ⟨i, 6, ⟨okT, okD, okI⟩, carry_none i hT hD hI x p6 p17 q, fun hH => rhost_none l i x p6 p17 q hH⟩
/-- Both sides' Read and Host of the same bytes answer the same. -/
theorem read_ex (l : List Nat) (hb : Bytes l) (hn : l.length ≤ 3000) : ∃ ri rw_ hi hw, ri.ok ∧ hi.ok ∧ GiP 7 [] l ri rw_ ∧ GiP 8 [] l ri rw_ ∧ GiP 9 [] l hi hw ∧ GiP 10 [] l hi hw := by
  obtain ⟨six, stay, ttl, s, d, pr, x, why, q1, q2, q3, q4, q5, q6, q7, hH1, hH2⟩ := hdr_ex l hb hn
  obtain ⟨i, hi⟩ : ∃ i, i = mkI six stay ttl s d pr := ⟨_, rfl⟩
  obtain ⟨i', why2, hok, hC, hG⟩ := car_ex l (mkI six stay ttl s d pr) rfl rfl rfl x q6 q7 q3 q4 q5
  have r2 := pRead_c l _ _ (pread_c 2 l _ i' x why why2 hH1 hC)
  have r0 := pHost_c l _ _ (pread_c 0 l _ i' x why why2 hH1 hC)
  rw [← hi] at hH2 hG r2 r0
  by_cases h0 : why = 0
  · subst h0
    have g0 := hG hH2
    have e0 : outI 0 i i' 0 why2 = finI i' why2 ∧ outW 0 i 0 why2 = why2 := by
      refine ⟨?_, ?_⟩
      · show (if (0 : Int) ≠ 0 then _ else _) = _
        rw [if_neg (by decide), if_neg (Nat.not_lt_zero _)]; rfl
      · show (if (0 : Int) ≠ 0 then _ else _) = _
        rw [if_neg (by decide), if_neg (Nat.not_lt_zero _)]
    rw [e0.1, e0.2] at r0
    have hfok : (finI i' why2).ok := by unfold finI; split; exact Inf.Z_ok; exact hok
    by_cases ht : i.ttl < 2
    · obtain ⟨e1, e2⟩ := out2 (least := 2) (i := i) (i' := i') (why := 0) (why2 := why2) rfl ht
      rw [e1, e2] at r2
      exact ⟨Inf.Z, 5, _, _, Inf.Z_ok, hfok, r2, rread_c l i x 0 _ _ hH2 g0 _ _ (fun _ _ => ⟨rfl, rfl⟩) (fun h => absurd ⟨rfl, by omega⟩ h), r0, g0⟩
    · have e2 : outI 2 i i' 0 why2 = finI i' why2 ∧ outW 2 i 0 why2 = why2 := by
        refine ⟨?_, ?_⟩
        · show (if (0 : Int) ≠ 0 then _ else _) = _
          rw [if_neg (by decide), if_neg ht]; rfl
        · show (if (0 : Int) ≠ 0 then _ else _) = _
          rw [if_neg (by decide), if_neg ht]
      rw [e2.1, e2.2] at r2
      exact ⟨_, _, _, _, hfok, hfok, r2, rread_c l i x 0 _ _ hH2 g0 _ _ (fun _ h => absurd h (by omega)) (fun _ => ⟨rfl, rfl⟩), r0, g0⟩
  · obtain ⟨e1, e2⟩ := out1 (least := 2) (i := i) (i' := i') (why2 := why2) h0
    obtain ⟨e3, e4⟩ := out1 (least := 0) (i := i) (i' := i') (why2 := why2) h0
    rw [e1, e2] at r2
    rw [e3, e4] at r0
    have g0 := rhost_bad l i x why h0 hH2
    exact ⟨_, _, _, _, Inf.Z_ok, Inf.Z_ok, r2, rread_c l i x why _ _ hH2 g0 _ _ (fun h _ => absurd h h0) (fun _ => ⟨rfl, rfl⟩), r0, g0⟩
set_option maxRecDepth 100000 in
set_option maxHeartbeats 8000000 in
theorem is28_c (i : Inf) (p q : Pl) (w0 : World) (hk : i.ok)
    (h1 : View w0 w0.heap.size p.O (i.T.o.map u8v)) (h2 : View w0 w0.heap.size p.X (i.T.x.map u8v)) (h3 : View w0 w0.heap.size p.U (i.D.x.map u8v)) (h4 : View w0 w0.heap.size p.M (i.I.x.map u8v))
    (h5 : View w0 w0.heap.size q.O (i.T.o.map u8v)) (h6 : View w0 w0.heap.size q.X (i.T.x.map u8v)) (h7 : View w0 w0.heap.size q.U (i.D.x.map u8v)) (h8 : View w0 w0.heap.size q.M (i.I.x.map u8v)) :
    Calls Tryd.prog 11 #[.agg (i.V p).toArray, .agg (i.V q).toArray] w0 fun e w' => e = .returned (.bool true) ∧ Kp [] w0 w' := by
  have hS := ((((((((St.sv w0).vcons rfl h1).vcons rfl h2).vcons rfl h3).vcons rfl h4).vcons rfl h5).vcons rfl h6).vcons rfl h7).vcons rfl h8
  obtain ⟨⟨k1, k2, k3, k4⟩, ⟨k5, k6, k7, k8, k9⟩, ⟨k10, k11, k12, k13, k14, k15⟩⟩ := hk
  refine ent (n := 128) Tryd.func11 rfl rfl ?_
  refine wp_seq_k ?_; intro K1 hK1
  refine wlit ?_
  refine wl_e rfl ?_; intro K hK
  refine ow_box hS (tmA rfl rfl) rfl ?_
  clear hS; intro g0_0 w hg0_0 hS
  refine hK _ _ ?_; clear hK K
  refine wl_e rfl ?_; intro K hK
  refine ow_box hS (tmA rfl rfl) rfl ?_
  clear hS; intro g0_1 w hg0_1 hS
  refine hK _ _ ?_; clear hK K
  refine wl_v (x_assign ev_c) ?_
  refine wl_nil ?_
  refine then_n (hK1 _ _ ?_); clear hK1 K1
  refine wp_seq_k ?_; intro K2 hK2
  refine wlit ?_
  refine wl_v (x_fa 12 Tryd.underlying38 rfl rfl ts_32 (tmP rfl rfl)) ?_
  refine wl_v (x_fa 0 Tryd.underlying32 rfl rfl ts_27 (tmP rfl rfl)) ?_
  refine wl_v (x_load Tryd.underlying27 rfl (tmP rfl rfl) (cellB hS.ok 1 rfl rfl)) ?_
  refine wl_v (x_fa 12 Tryd.underlying38 rfl rfl ts_32 (tmP rfl rfl)) ?_
  refine wl_v (x_fa 1 Tryd.underlying32 rfl rfl ts_27 (tmP rfl rfl)) ?_
  refine wl_v (x_load Tryd.underlying27 rfl (tmP rfl rfl) (cellB hS.ok 1 rfl rfl)) ?_
  refine wl_v (x_fa 12 Tryd.underlying38 rfl rfl ts_32 (tmP rfl rfl)) ?_
  refine wl_v (x_fa 2 Tryd.underlying32 rfl rfl ts_30 (tmP rfl rfl)) ?_
  refine wl_v (x_load Tryd.underlying30 rfl (tmP rfl rfl) (cellB hS.ok 1 rfl rfl)) ?_
  refine wl_v (x_fa 12 Tryd.underlying38 rfl rfl ts_32 (tmP rfl rfl)) ?_
  refine wl_v (x_fa 3 Tryd.underlying32 rfl rfl ts_30 (tmP rfl rfl)) ?_
  refine wl_v (x_load Tryd.underlying30 rfl (tmP rfl rfl) (cellB hS.ok 1 rfl rfl)) ?_
  refine wl_v (x_fa 12 Tryd.underlying38 rfl rfl ts_32 (tmP rfl rfl)) ?_
  refine wl_v (x_fa 4 Tryd.underlying32 rfl rfl ts_5 (tmP rfl rfl)) ?_
  refine wl_v (x_load Tryd.underlying5 rfl (tmP rfl rfl) (cellB hS.ok 1 rfl rfl)) ?_
  refine wl_v (x_fa 12 Tryd.underlying38 rfl rfl ts_32 (tmP rfl rfl)) ?_
  refine wl_v (x_fa 5 Tryd.underlying32 rfl rfl ts_27 (tmP rfl rfl)) ?_
  refine wl_v (x_load Tryd.underlying27 rfl (tmP rfl rfl) (cellB hS.ok 1 rfl rfl)) ?_
  refine wl_v (x_fa 12 Tryd.underlying38 rfl rfl ts_32 (tmP rfl rfl)) ?_
  refine wl_v (x_fa 6 Tryd.underlying32 rfl rfl ts_27 (tmP rfl rfl)) ?_
  refine wl_v (x_load Tryd.underlying27 rfl (tmP rfl rfl) (cellB hS.ok 1 rfl rfl)) ?_
  refine wl_v (x_fa 12 Tryd.underlying38 rfl rfl ts_32 (tmP rfl rfl)) ?_
  refine wl_v (x_fa 7 Tryd.underlying32 rfl rfl ts_27 (tmP rfl rfl)) ?_
  refine wl_v (x_load Tryd.underlying27 rfl (tmP rfl rfl) (cellB hS.ok 1 rfl rfl)) ?_
  refine wl_v (x_fa 12 Tryd.underlying38 rfl rfl ts_32 (tmP rfl rfl)) ?_
  refine wl_v (x_fa 8 Tryd.underlying32 rfl rfl ts_22 (tmP rfl rfl)) ?_
  refine wl_v (x_load Tryd.underlying22 rfl (tmP rfl rfl) (cellB hS.ok 1 rfl rfl)) ?_
  refine wl_v (x_fa 12 Tryd.underlying38 rfl rfl ts_32 (tmP rfl rfl)) ?_
  refine wl_v (x_fa 9 Tryd.underlying32 rfl rfl ts_22 (tmP rfl rfl)) ?_
  refine wl_v (x_load Tryd.underlying22 rfl (tmP rfl rfl) (cellB hS.ok 1 rfl rfl)) ?_
  refine wl_v (x_build (bc_take (tmI rfl rfl) <| bc_take (tmI rfl rfl) <| bc_take (tmI rfl rfl) <| bc_take (tmI rfl rfl) <| bc_take (tmI rfl rfl) <| bc_take (tmI rfl rfl) <| bc_take (tmI rfl rfl) <| bc_take (tmI rfl rfl) <| bc_take (tmS rfl rfl) <| bc_take (tmS rfl rfl) <| bc_nil) (by kernel_rfl)) ?_
  refine wl_e rfl ?_; intro K hK
  refine ow_alloc hS tz_42 rfl ?_
  clear hS; intro g1_31 w hg1_31 hS
  refine hK _ _ ?_; clear hK K
  refine wl_e rfl ?_; intro K hK
  refine ow_storeA hS 0 rfl ts_42 (tmP rfl rfl) (tmA rfl rfl) rfl rfl rfl ?_
  clear hS; intro w hS
  try replace hS := St.nm (M' := [.blk _ _ [_, _, _, _, _, _, _, _, _, _], .blk _ _ [_, _, _, _, _, _, _, _, _, _, _, _, _, _, _, _, _, _, _, _, _, _, _, _, _, _, _, _, _, _, _], .blk _ _ [_, _, _, _, _, _, _, _, _, _, _, _, _, _, _, _, _, _, _, _, _, _, _, _, _, _, _, _, _, _, _], _, _, _, _, _, _, _, _]) hS rfl
  refine hK _ _ ?_; clear hK K
  refine wl_nil ?_
  refine then_n (hK2 _ _ ?_); clear hK2 K2
  refine wp_seq_k ?_; intro K3 hK3
  refine wlit ?_
  refine wl_v (x_fa 26 Tryd.underlying38 rfl rfl ts_36 (tmP rfl rfl)) ?_
  refine wl_v (x_fa 0 Tryd.underlying36 rfl rfl ts_5 (tmP rfl rfl)) ?_
  refine wl_v (x_load Tryd.underlying5 rfl (tmP rfl rfl) (cellB hS.ok 2 rfl rfl)) ?_
  refine wl_v (x_fa 26 Tryd.underlying38 rfl rfl ts_36 (tmP rfl rfl)) ?_
  refine wl_v (x_fa 1 Tryd.underlying36 rfl rfl ts_5 (tmP rfl rfl)) ?_
  refine wl_v (x_load Tryd.underlying5 rfl (tmP rfl rfl) (cellB hS.ok 2 rfl rfl)) ?_
  refine wl_v (x_fa 26 Tryd.underlying38 rfl rfl ts_36 (tmP rfl rfl)) ?_
  refine wl_v (x_fa 2 Tryd.underlying36 rfl rfl ts_27 (tmP rfl rfl)) ?_
  refine wl_v (x_load Tryd.underlying27 rfl (tmP rfl rfl) (cellB hS.ok 2 rfl rfl)) ?_
  refine wl_v (x_fa 26 Tryd.underlying38 rfl rfl ts_36 (tmP rfl rfl)) ?_
  refine wl_v (x_fa 3 Tryd.underlying36 rfl rfl ts_30 (tmP rfl rfl)) ?_
  refine wl_v (x_load Tryd.underlying30 rfl (tmP rfl rfl) (cellB hS.ok 2 rfl rfl)) ?_
  refine wl_v (x_fa 26 Tryd.underlying38 rfl rfl ts_36 (tmP rfl rfl)) ?_
  refine wl_v (x_fa 4 Tryd.underlying36 rfl rfl ts_22 (tmP rfl rfl)) ?_
  refine wl_v (x_load Tryd.underlying22 rfl (tmP rfl rfl) (cellB hS.ok 2 rfl rfl)) ?_
  refine wl_v (x_build (bc_take (tmI rfl rfl) <| bc_take (tmI rfl rfl) <| bc_take (tmI rfl rfl) <| bc_take (tmI rfl rfl) <| bc_take (tmS rfl rfl) <| bc_nil) (by kernel_rfl)) ?_
  refine wl_e rfl ?_; intro K hK
  refine ow_alloc hS tz_44 rfl ?_
  clear hS; intro g2_16 w hg2_16 hS
  refine hK _ _ ?_; clear hK K
  refine wl_e rfl ?_; intro K hK
  refine ow_storeA hS 0 rfl ts_44 (tmP rfl rfl) (tmA rfl rfl) rfl rfl rfl ?_
  clear hS; intro w hS
  try replace hS := St.nm (M' := [.blk _ _ [_, _, _, _, _], .blk _ _ [_, _, _, _, _, _, _, _, _, _], .blk _ _ [_, _, _, _, _, _, _, _, _, _, _, _, _, _, _, _, _, _, _, _, _, _, _, _, _, _, _, _, _, _, _], .blk _ _ [_, _, _, _, _, _, _, _, _, _, _, _, _, _, _, _, _, _, _, _, _, _, _, _, _, _, _, _, _, _, _], _, _, _, _, _, _, _, _]) hS rfl
  refine hK _ _ ?_; clear hK K
  refine wl_nil ?_
  refine then_n (hK3 _ _ ?_); clear hK3 K3
  refine wp_seq_k ?_; intro K4 hK4
  refine rg_startk 0 hS mixed_ ?_
  clear hS; intro w hS
  refine rg_take 0 rfl rfl (by kernel_rfl) (by kernel_rfl) (by kernel_rfl) (want_0) (fun w hok => x_fa 22 Tryd.underlying38 rfl rfl ts_34 (tmP rfl rfl)) ?_
  refine rg_take 1 rfl rfl (by kernel_rfl) (by kernel_rfl) (by kernel_rfl) (want_0) (fun w hok => x_loadA (cs := [_, _, _, _]) Tryd.underlying34 rfl ts_34 (tmP rfl rfl) (rangeB hok 3 rfl rfl)) ?_
  refine rg_take 2 rfl rfl (by kernel_rfl) (by kernel_rfl) (by kernel_rfl) (want_0) (fun w hok => x_fa 22 Tryd.underlying46 rfl rfl ts_43 (tmP rfl rfl)) ?_
  refine rg_take 3 rfl rfl (by kernel_rfl) (by kernel_rfl) (by kernel_rfl) (want_0) (fun w hok => x_loadA (cs := [_, _, _, _]) Tryd.underlying43 rfl ts_43 (tmP rfl rfl) (rangeB hok 2 rfl rfl)) ?_
  refine rg_step2 4 5 rfl rfl (by kernel_rfl) (want_0) (want_0) (oks_drop hS 0 rfl) ?_ ?_
  · intro K hK
    refine ow_alloc hS tz_34 rfl ?_
    clear hS; intro g3_4 w hg3_4 hS
    refine hK _ _ ?_; clear hK K
    refine rg_step 5 rfl (by kernel_rfl) (want_0) (oks_drop hS 1 rfl) ?_; intro K hK
    refine ow_alloc hS tz_43 rfl ?_
    clear hS; intro g3_5 w hg3_5 hS
    refine hK _ _ ?_; clear hK K
    refine rg_step 6 rfl (by kernel_rfl) (want_0) (oks_drop hS 2 rfl) ?_; intro K hK
    refine ow_storeA hS 1 rfl ts_34 (tmP rfl rfl) (tmA rfl rfl) rfl rfl rfl ?_
    clear hS; intro w hS
    try replace hS := St.nm (M' := [.blk _ _ [_, _, _, _], .blk _ _ [_, _, _, _], .blk _ _ [_, _, _, _, _], .blk _ _ [_, _, _, _, _, _, _, _, _, _], .blk _ _ [_, _, _, _, _, _, _, _, _, _, _, _, _, _, _, _, _, _, _, _, _, _, _, _, _, _, _, _, _, _, _], .blk _ _ [_, _, _, _, _, _, _, _, _, _, _, _, _, _, _, _, _, _, _, _, _, _, _, _, _, _, _, _, _, _, _], _, _, _, _, _, _, _, _]) hS rfl
    refine hK _ _ ?_; clear hK K
    refine rg_step 7 rfl (by kernel_rfl) (want_0) (oks_drop hS 2 rfl) ?_; intro K hK
    refine ow_storeA hS 0 rfl ts_43 (tmP rfl rfl) (tmA rfl rfl) rfl rfl rfl ?_
    clear hS; intro w hS
    try replace hS := St.nm (M' := [.blk _ _ [_, _, _, _], .blk _ _ [_, _, _, _], .blk _ _ [_, _, _, _, _], .blk _ _ [_, _, _, _, _, _, _, _, _, _], .blk _ _ [_, _, _, _, _, _, _, _, _, _, _, _, _, _, _, _, _, _, _, _, _, _, _, _, _, _, _, _, _, _, _], .blk _ _ [_, _, _, _, _, _, _, _, _, _, _, _, _, _, _, _, _, _, _, _, _, _, _, _, _, _, _, _, _, _, _], _, _, _, _, _, _, _, _]) hS rfl
    refine hK _ _ ?_; clear hK K
    refine rg_done (oks_drop hS 2 rfl) (by kernel_rfl) ?_
    refine then_n (hK4 _ _ ?_); clear hK4 K4
    refine wp_seq_k ?_; intro K5 hK5
    refine wlit ?_
    refine wl_v (x_fa 0 Tryd.underlying38 rfl rfl ts_4 (tmP rfl rfl)) ?_
    refine wl_v (x_load Tryd.underlying4 rfl (tmP rfl rfl) (cellB hS.ok 5 rfl rfl)) ?_
    refine wl_v (x_fa 0 Tryd.underlying46 rfl rfl ts_4 (tmP rfl rfl)) ?_
    refine wl_v (x_load Tryd.underlying4 rfl (tmP rfl rfl) (cellB hS.ok 4 rfl rfl)) ?_
    refine wl_v (x_beql Tryd.underlying4 (tmB rfl rfl) (tmB rfl rfl)) ?_
    refine wl_v (x_move (tmB rfl rfl)) ?_
    refine gs_wls (tm (t := 65) rfl) (fun hg4_5 => ?_) (fun hg4_5 => ?_)
    · exfalso
      simp at hg4_5
    have hg4_5' := hg4_5; (try simp only [nrm] at hg4_5')
    all_goals
     refine wl_gv (want_y rfl rfl rfl rfl (by rw [hg4_5]; rfl)) (x_fa 1 Tryd.underlying38 rfl rfl ts_4 (tmP rfl rfl)) ?_
     refine wl_gv (want_y rfl rfl rfl rfl (by rw [hg4_5]; rfl)) (x_load Tryd.underlying4 rfl (tmP rfl rfl) (cellB hS.ok 5 rfl rfl)) ?_
     refine wl_gv (want_y rfl rfl rfl rfl (by rw [hg4_5]; rfl)) (x_fa 1 Tryd.underlying46 rfl rfl ts_4 (tmP rfl rfl)) ?_
     refine wl_gv (want_y rfl rfl rfl rfl (by rw [hg4_5]; rfl)) (x_load Tryd.underlying4 rfl (tmP rfl rfl) (cellB hS.ok 4 rfl rfl)) ?_
     refine wl_gv (want_y rfl rfl rfl rfl (by rw [hg4_5]; rfl)) (x_beql Tryd.underlying4 (tmB rfl rfl) (tmB rfl rfl)) ?_
     refine wl_v (x_pickT (tmB rfl rfl) hg4_5 (tmB rfl rfl)) ?_
     refine wl_v (x_move (tmB rfl rfl)) ?_
     refine gs_wls (tm (t := 72) rfl) (fun hg4_12 => ?_) (fun hg4_12 => ?_)
     · exfalso
       simp at hg4_12
     have hg4_12' := hg4_12; (try simp only [nrm] at hg4_12')
     all_goals
      refine wl_gv (want_y rfl rfl rfl rfl (by rw [hg4_12]; rfl)) (x_fa 2 Tryd.underlying38 rfl rfl ts_5 (tmP rfl rfl)) ?_
      refine wl_gv (want_y rfl rfl rfl rfl (by rw [hg4_12]; rfl)) (x_load Tryd.underlying5 rfl (tmP rfl rfl) (cellB hS.ok 5 rfl rfl)) ?_
      refine wl_gv (want_y rfl rfl rfl rfl (by rw [hg4_12]; rfl)) (x_fa 2 Tryd.underlying46 rfl rfl ts_5 (tmP rfl rfl)) ?_
      refine wl_gv (want_y rfl rfl rfl rfl (by rw [hg4_12]; rfl)) (x_load Tryd.underlying5 rfl (tmP rfl rfl) (cellB hS.ok 4 rfl rfl)) ?_
      refine wl_gv (want_y rfl rfl rfl rfl (by rw [hg4_12]; rfl)) (x_eql (tmI rfl rfl) (tmI rfl rfl)) ?_
      refine wl_v (x_pickT (tmB rfl rfl) hg4_12 (tmB rfl rfl)) ?_
      refine wl_v (x_move (tmB rfl rfl)) ?_
      refine gs_wls (tm (t := 79) rfl) (fun hg4_19 => ?_) (fun hg4_19 => ?_)
      · exfalso
        simp at hg4_19
      have hg4_19' := hg4_19; (try simp only [nrm] at hg4_19')
      all_goals
       refine wl_gv (want_y rfl rfl rfl rfl (by rw [hg4_19]; rfl)) (x_fa 3 Tryd.underlying38 rfl rfl ts_29 (tmP rfl rfl)) ?_
       refine wl_gv (want_y rfl rfl rfl rfl (by rw [hg4_19]; rfl)) (x_loadA (cs := [_, _, _, _, _, _, _, _, _]) Tryd.underlying29 rfl ts_29 (tmP rfl rfl) (rangeB hS.ok 5 rfl rfl)) ?_
       refine wl_gv (want_y rfl rfl rfl rfl (by rw [hg4_19]; rfl)) (x_fa 3 Tryd.underlying46 rfl rfl ts_29 (tmP rfl rfl)) ?_
       refine wl_gv (want_y rfl rfl rfl rfl (by rw [hg4_19]; rfl)) (x_loadA (cs := [_, _, _, _, _, _, _, _, _]) Tryd.underlying29 rfl ts_29 (tmP rfl rfl) (rangeB hS.ok 4 rfl rfl)) ?_
       refine wl_gv (want_y rfl rfl rfl rfl (by rw [hg4_19]; rfl)) (x_Aeql (by kernel_rfl) (tmA rfl rfl) (tmA rfl rfl) (eqv_A Tryd.underlying29 (by kernel_rfl) (fe_cons rfl (pt_A (cs := [_, _, _]) Tryd.underlying26 rfl ts_26 rfl) (pt_A (cs := [_, _, _]) Tryd.underlying26 rfl ts_26 rfl) (eqv_A Tryd.underlying26 (by kernel_rfl) (fe_cons rfl (pt_1 Tryd.underlying4 rfl rfl) (pt_1 Tryd.underlying4 rfl rfl) (eqv_b Tryd.underlying4) <| fe_cons rfl (pt_1 Tryd.underlying24 rfl rfl) (pt_1 Tryd.underlying24 rfl rfl) (eqv_i Tryd.underlying24) <| fe_cons rfl (pt_1 Tryd.underlying24 rfl rfl) (pt_1 Tryd.underlying24 rfl rfl) (eqv_i Tryd.underlying24) <| fe_nil)) <| fe_cons rfl (pt_A (cs := [_, _, _]) Tryd.underlying26 rfl ts_26 rfl) (pt_A (cs := [_, _, _]) Tryd.underlying26 rfl ts_26 rfl) (eqv_A Tryd.underlying26 (by kernel_rfl) (fe_cons rfl (pt_1 Tryd.underlying4 rfl rfl) (pt_1 Tryd.underlying4 rfl rfl) (eqv_b Tryd.underlying4) <| fe_cons rfl (pt_1 Tryd.underlying24 rfl rfl) (pt_1 Tryd.underlying24 rfl rfl) (eqv_i Tryd.underlying24) <| fe_cons rfl (pt_1 Tryd.underlying24 rfl rfl) (pt_1 Tryd.underlying24 rfl rfl) (eqv_i Tryd.underlying24) <| fe_nil)) <| fe_cons rfl (pt_1 Tryd.underlying27 rfl rfl) (pt_1 Tryd.underlying27 rfl rfl) (eqv_i Tryd.underlying27) <| fe_cons rfl (pt_1 Tryd.underlying27 rfl rfl) (pt_1 Tryd.underlying27 rfl rfl) (eqv_i Tryd.underlying27) <| fe_cons rfl (pt_1 Tryd.underlying5 rfl rfl) (pt_1 Tryd.underlying5 rfl rfl) (eqv_i Tryd.underlying5) <| fe_nil))) ?_
       refine wl_v (x_pickT (tmB rfl rfl) hg4_19 (tmB rfl rfl)) ?_
       refine wl_v (x_move (tmB rfl rfl)) ?_
       refine gs_wls (tm (t := 86) rfl) (fun hg4_26 => ?_) (fun hg4_26 => ?_)
       · exfalso
         simp at hg4_26
       have hg4_26' := hg4_26; (try simp only [nrm] at hg4_26')
       all_goals
        refine wl_gv (want_y rfl rfl rfl rfl (by rw [hg4_26]; rfl)) (x_loadA (cs := [_, _, _, _, _, _, _, _, _, _]) Tryd.underlying42 rfl ts_42 (tmP rfl rfl) (rangeB hS.ok 3 rfl rfl)) ?_
        refine wl_gv (want_y rfl rfl rfl rfl (by rw [hg4_26]; rfl)) (x_fa 12 Tryd.underlying46 rfl rfl ts_42 (tmP rfl rfl)) ?_
        refine wl_gv (want_y rfl rfl rfl rfl (by rw [hg4_26]; rfl)) (x_loadA (cs := [_, _, _, _, _, _, _, _, _, _]) Tryd.underlying42 rfl ts_42 (tmP rfl rfl) (rangeB hS.ok 4 rfl rfl)) ?_
        refine wl_g (want_y rfl rfl rfl rfl (by rw [hg4_26]; rfl)) ?_; intro K hK
        refine ow_call Tryd.func27 rfl rfl (evs_cons (tmA rfl rfl) <| evs_cons (tmA rfl rfl) <| evs_nil) (same06_c i.T.t1 i.T.t2 i.T.t3 i.T.t4 i.T.t5 i.T.t6 i.T.t7 i.T.t8 p.O i.T.o.length p.co p.X i.T.x.length p.cx i.T.t1 i.T.t2 i.T.t3 i.T.t4 i.T.t5 i.T.t6 i.T.t7 i.T.t8 q.O i.T.o.length q.co q.X i.T.x.length q.cx _ _ _ _ _ (viewV hS.ok 13 rfl) rfl k1 (viewV hS.ok 12 rfl) rfl k2 (viewV hS.ok 9 rfl) rfl k1 (viewV hS.ok 8 rfl) rfl k2) ?_
        rintro e w ⟨rfl, hk⟩
        refine ⟨_, rfl, ?_⟩
        rw [decide_eq_true (by simp)]
        replace hS := hS.kept hk
        clear hk
        refine hK _ _ ?_; clear hK K
        refine wl_v (x_pickT (tmB rfl rfl) hg4_26 (tmB rfl rfl)) ?_
        refine wl_v (x_move (tmB rfl rfl)) ?_
        refine gs_wls (tm (t := 92) rfl) (fun hg4_32 => ?_) (fun hg4_32 => ?_)
        · exfalso
          simp at hg4_32
        have hg4_32' := hg4_32; (try simp only [nrm] at hg4_32')
        all_goals
         refine wl_gv (want_y rfl rfl rfl rfl (by rw [hg4_32]; rfl)) (x_loadA (cs := [_, _, _, _, _]) Tryd.underlying44 rfl ts_44 (tmP rfl rfl) (rangeB hS.ok 2 rfl rfl)) ?_
         refine wl_gv (want_y rfl rfl rfl rfl (by rw [hg4_32]; rfl)) (x_fa 26 Tryd.underlying46 rfl rfl ts_44 (tmP rfl rfl)) ?_
         refine wl_gv (want_y rfl rfl rfl rfl (by rw [hg4_32]; rfl)) (x_loadA (cs := [_, _, _, _, _]) Tryd.underlying44 rfl ts_44 (tmP rfl rfl) (rangeB hS.ok 4 rfl rfl)) ?_
         refine wl_g (want_y rfl rfl rfl rfl (by rw [hg4_32]; rfl)) ?_; intro K hK
         refine ow_call Tryd.func28 rfl rfl (evs_cons (tmA rfl rfl) <| evs_cons (tmA rfl rfl) <| evs_nil) (same08_c i.I.m1 i.I.m2 i.I.m3 i.I.m4 i.I.m1 i.I.m2 i.I.m3 i.I.m4 p.M i.I.x.length p.cm q.M i.I.x.length q.cm _ _ _ (viewV hS.ok 10 rfl) rfl k10 (viewV hS.ok 6 rfl) rfl k10) ?_
         rintro e w ⟨rfl, hk⟩
         refine ⟨_, rfl, ?_⟩
         rw [decide_eq_true (by simp)]
         replace hS := hS.kept hk
         clear hk
         refine hK _ _ ?_; clear hK K
         refine wl_v (x_pickT (tmB rfl rfl) hg4_32 (tmB rfl rfl)) ?_
         refine wl_v (x_move (tmB rfl rfl)) ?_
         refine gs_wls (tm (t := 98) rfl) (fun hg4_38 => ?_) (fun hg4_38 => ?_)
         · exfalso
           simp at hg4_38
         have hg4_38' := hg4_38; (try simp only [nrm] at hg4_38')
         all_goals
          refine wl_gv (want_y rfl rfl rfl rfl (by rw [hg4_38]; rfl)) (x_fa 0 Tryd.underlying34 rfl rfl ts_27 (tmP rfl rfl)) ?_
          refine wl_gv (want_y rfl rfl rfl rfl (by rw [hg4_38]; rfl)) (x_load Tryd.underlying27 rfl (tmP rfl rfl) (cellB hS.ok 1 rfl rfl)) ?_
          refine wl_gv (want_y rfl rfl rfl rfl (by rw [hg4_38]; rfl)) (x_fa 0 Tryd.underlying43 rfl rfl ts_27 (tmP rfl rfl)) ?_
          refine wl_gv (want_y rfl rfl rfl rfl (by rw [hg4_38]; rfl)) (x_load Tryd.underlying27 rfl (tmP rfl rfl) (cellB hS.ok 0 rfl rfl)) ?_
          refine wl_gv (want_y rfl rfl rfl rfl (by rw [hg4_38]; rfl)) (x_eql (tmI rfl rfl) (tmI rfl rfl)) ?_
          refine wl_v (x_pickT (tmB rfl rfl) hg4_38 (tmB rfl rfl)) ?_
          refine wl_v (x_move (tmB rfl rfl)) ?_
          refine gs_wls (tm (t := 105) rfl) (fun hg4_45 => ?_) (fun hg4_45 => ?_)
          · exfalso
            simp at hg4_45
          have hg4_45' := hg4_45; (try simp only [nrm] at hg4_45')
          all_goals
           refine wl_gv (want_y rfl rfl rfl rfl (by rw [hg4_45]; rfl)) (x_fa 1 Tryd.underlying34 rfl rfl ts_27 (tmP rfl rfl)) ?_
           refine wl_gv (want_y rfl rfl rfl rfl (by rw [hg4_45]; rfl)) (x_load Tryd.underlying27 rfl (tmP rfl rfl) (cellB hS.ok 1 rfl rfl)) ?_
           refine wl_gv (want_y rfl rfl rfl rfl (by rw [hg4_45]; rfl)) (x_fa 1 Tryd.underlying43 rfl rfl ts_27 (tmP rfl rfl)) ?_
           refine wl_gv (want_y rfl rfl rfl rfl (by rw [hg4_45]; rfl)) (x_load Tryd.underlying27 rfl (tmP rfl rfl) (cellB hS.ok 0 rfl rfl)) ?_
           refine wl_gv (want_y rfl rfl rfl rfl (by rw [hg4_45]; rfl)) (x_eql (tmI rfl rfl) (tmI rfl rfl)) ?_
           refine wl_v (x_pickT (tmB rfl rfl) hg4_45 (tmB rfl rfl)) ?_
           refine wl_v (x_move (tmB rfl rfl)) ?_
           refine gs_wls (tm (t := 112) rfl) (fun hg4_52 => ?_) (fun hg4_52 => ?_)
           · exfalso
             simp at hg4_52
           have hg4_52' := hg4_52; (try simp only [nrm] at hg4_52')
           all_goals
            refine wl_gv (want_y rfl rfl rfl rfl (by rw [hg4_52]; rfl)) (x_fa 2 Tryd.underlying34 rfl rfl ts_27 (tmP rfl rfl)) ?_
            refine wl_gv (want_y rfl rfl rfl rfl (by rw [hg4_52]; rfl)) (x_load Tryd.underlying27 rfl (tmP rfl rfl) (cellB hS.ok 1 rfl rfl)) ?_
            refine wl_gv (want_y rfl rfl rfl rfl (by rw [hg4_52]; rfl)) (x_fa 2 Tryd.underlying43 rfl rfl ts_27 (tmP rfl rfl)) ?_
            refine wl_gv (want_y rfl rfl rfl rfl (by rw [hg4_52]; rfl)) (x_load Tryd.underlying27 rfl (tmP rfl rfl) (cellB hS.ok 0 rfl rfl)) ?_
            refine wl_gv (want_y rfl rfl rfl rfl (by rw [hg4_52]; rfl)) (x_eql (tmI rfl rfl) (tmI rfl rfl)) ?_
            refine wl_v (x_pickT (tmB rfl rfl) hg4_52 (tmB rfl rfl)) ?_
            refine wl_v (x_move (tmB rfl rfl)) ?_
            refine gs_wls (tm (t := 119) rfl) (fun hg4_59 => ?_) (fun hg4_59 => ?_)
            · exfalso
              simp at hg4_59
            have hg4_59' := hg4_59; (try simp only [nrm] at hg4_59')
            all_goals
             refine wl_gv (want_y rfl rfl rfl rfl (by rw [hg4_59]; rfl)) (x_fa 3 Tryd.underlying34 rfl rfl ts_22 (tmP rfl rfl)) ?_
             refine wl_gv (want_y rfl rfl rfl rfl (by rw [hg4_59]; rfl)) (x_load Tryd.underlying22 rfl (tmP rfl rfl) (cellB hS.ok 1 rfl rfl)) ?_
             refine wl_gv (want_y rfl rfl rfl rfl (by rw [hg4_59]; rfl)) (x_bstr Tryd.underlying22 Tryd.underlying5 Tryd.underlying9 (tmS rfl rfl) (viewV hS.ok 11 rfl) k5 rfl) ?_
             refine wl_gv (want_y rfl rfl rfl rfl (by rw [hg4_59]; rfl)) (x_fa 3 Tryd.underlying43 rfl rfl ts_22 (tmP rfl rfl)) ?_
             refine wl_gv (want_y rfl rfl rfl rfl (by rw [hg4_59]; rfl)) (x_load Tryd.underlying22 rfl (tmP rfl rfl) (cellB hS.ok 0 rfl rfl)) ?_
             refine wl_gv (want_y rfl rfl rfl rfl (by rw [hg4_59]; rfl)) (x_bstr Tryd.underlying22 Tryd.underlying5 Tryd.underlying9 (tmS rfl rfl) (viewV hS.ok 7 rfl) k5 rfl) ?_
             refine wl_gv (want_y rfl rfl rfl rfl (by rw [hg4_59]; rfl)) (x_Geql (tmG rfl rfl) (tmG rfl rfl) (by first | assumption | exact Bytes.nil | (repeat' (first | assumption | exact Bytes.nil | exact be_bytes _ _ | apply Bytes.append | apply Bytes.take | apply Bytes.drop | apply Bytes.replicate))) (by first | assumption | exact Bytes.nil | (repeat' (first | assumption | exact Bytes.nil | exact be_bytes _ _ | apply Bytes.append | apply Bytes.take | apply Bytes.drop | apply Bytes.replicate)))) ?_
             refine wl_v (x_pickT (tmB rfl rfl) hg4_59 (tmB rfl rfl)) ?_
             refine wl_v (x_assign (tmB rfl rfl)) ?_
             refine wl_nil ?_
             refine then_n (hK5 _ _ ?_); clear hK5 K5
             refine wp_ret ?_
             refine ret1 rfl (.tmp rfl (show _ = Value.bool _ from rfl)) ?_
             exact ⟨by simp, hS.kp⟩
  · intro K hK
    refine ow_alloc hS tz_43 rfl ?_
    clear hS; intro g3_5 w hg3_5 hS
    refine hK _ _ ?_; clear hK K
    refine rg_step 4 rfl (by kernel_rfl) (want_0) (oks_drop hS 1 rfl) ?_; intro K hK
    refine ow_alloc hS tz_34 rfl ?_
    clear hS; intro g3_4 w hg3_4 hS
    refine hK _ _ ?_; clear hK K
    refine rg_step 6 rfl (by kernel_rfl) (want_0) (oks_drop hS 2 rfl) ?_; intro K hK
    refine ow_storeA hS 0 rfl ts_34 (tmP rfl rfl) (tmA rfl rfl) rfl rfl rfl ?_
    clear hS; intro w hS
    try replace hS := St.nm (M' := [.blk _ _ [_, _, _, _], .blk _ _ [_, _, _, _], .blk _ _ [_, _, _, _, _], .blk _ _ [_, _, _, _, _, _, _, _, _, _], .blk _ _ [_, _, _, _, _, _, _, _, _, _, _, _, _, _, _, _, _, _, _, _, _, _, _, _, _, _, _, _, _, _, _], .blk _ _ [_, _, _, _, _, _, _, _, _, _, _, _, _, _, _, _, _, _, _, _, _, _, _, _, _, _, _, _, _, _, _], _, _, _, _, _, _, _, _]) hS rfl
    refine hK _ _ ?_; clear hK K
    refine rg_step 7 rfl (by kernel_rfl) (want_0) (oks_drop hS 2 rfl) ?_; intro K hK
    refine ow_storeA hS 1 rfl ts_43 (tmP rfl rfl) (tmA rfl rfl) rfl rfl rfl ?_
    clear hS; intro w hS
    try replace hS := St.nm (M' := [.blk _ _ [_, _, _, _], .blk _ _ [_, _, _, _], .blk _ _ [_, _, _, _, _], .blk _ _ [_, _, _, _, _, _, _, _, _, _], .blk _ _ [_, _, _, _, _, _, _, _, _, _, _, _, _, _, _, _, _, _, _, _, _, _, _, _, _, _, _, _, _, _, _], .blk _ _ [_, _, _, _, _, _, _, _, _, _, _, _, _, _, _, _, _, _, _, _, _, _, _, _, _, _, _, _, _, _, _], _, _, _, _, _, _, _, _]) hS rfl
    refine hK _ _ ?_; clear hK K
    refine rg_done (oks_drop hS 2 rfl) (by kernel_rfl) ?_
    refine then_n (hK4 _ _ ?_); clear hK4 K4
    refine wp_seq_k ?_; intro K6 hK6
    refine wlit ?_
    refine wl_v (x_fa 0 Tryd.underlying38 rfl rfl ts_4 (tmP rfl rfl)) ?_
    refine wl_v (x_load Tryd.underlying4 rfl (tmP rfl rfl) (cellB hS.ok 5 rfl rfl)) ?_
    refine wl_v (x_fa 0 Tryd.underlying46 rfl rfl ts_4 (tmP rfl rfl)) ?_
    refine wl_v (x_load Tryd.underlying4 rfl (tmP rfl rfl) (cellB hS.ok 4 rfl rfl)) ?_
    refine wl_v (x_beql Tryd.underlying4 (tmB rfl rfl) (tmB rfl rfl)) ?_
    refine wl_v (x_move (tmB rfl rfl)) ?_
    refine gs_wls (tm (t := 65) rfl) (fun hg4_5 => ?_) (fun hg4_5 => ?_)
    · exfalso
      simp at hg4_5
    have hg4_5' := hg4_5; (try simp only [nrm] at hg4_5')
    all_goals
     refine wl_gv (want_y rfl rfl rfl rfl (by rw [hg4_5]; rfl)) (x_fa 1 Tryd.underlying38 rfl rfl ts_4 (tmP rfl rfl)) ?_
     refine wl_gv (want_y rfl rfl rfl rfl (by rw [hg4_5]; rfl)) (x_load Tryd.underlying4 rfl (tmP rfl rfl) (cellB hS.ok 5 rfl rfl)) ?_
     refine wl_gv (want_y rfl rfl rfl rfl (by rw [hg4_5]; rfl)) (x_fa 1 Tryd.underlying46 rfl rfl ts_4 (tmP rfl rfl)) ?_
     refine wl_gv (want_y rfl rfl rfl rfl (by rw [hg4_5]; rfl)) (x_load Tryd.underlying4 rfl (tmP rfl rfl) (cellB hS.ok 4 rfl rfl)) ?_
     refine wl_gv (want_y rfl rfl rfl rfl (by rw [hg4_5]; rfl)) (x_beql Tryd.underlying4 (tmB rfl rfl) (tmB rfl rfl)) ?_
     refine wl_v (x_pickT (tmB rfl rfl) hg4_5 (tmB rfl rfl)) ?_
     refine wl_v (x_move (tmB rfl rfl)) ?_
     refine gs_wls (tm (t := 72) rfl) (fun hg4_12 => ?_) (fun hg4_12 => ?_)
     · exfalso
       simp at hg4_12
     have hg4_12' := hg4_12; (try simp only [nrm] at hg4_12')
     all_goals
      refine wl_gv (want_y rfl rfl rfl rfl (by rw [hg4_12]; rfl)) (x_fa 2 Tryd.underlying38 rfl rfl ts_5 (tmP rfl rfl)) ?_
      refine wl_gv (want_y rfl rfl rfl rfl (by rw [hg4_12]; rfl)) (x_load Tryd.underlying5 rfl (tmP rfl rfl) (cellB hS.ok 5 rfl rfl)) ?_
      refine wl_gv (want_y rfl rfl rfl rfl (by rw [hg4_12]; rfl)) (x_fa 2 Tryd.underlying46 rfl rfl ts_5 (tmP rfl rfl)) ?_
      refine wl_gv (want_y rfl rfl rfl rfl (by rw [hg4_12]; rfl)) (x_load Tryd.underlying5 rfl (tmP rfl rfl) (cellB hS.ok 4 rfl rfl)) ?_
      refine wl_gv (want_y rfl rfl rfl rfl (by rw [hg4_12]; rfl)) (x_eql (tmI rfl rfl) (tmI rfl rfl)) ?_
      refine wl_v (x_pickT (tmB rfl rfl) hg4_12 (tmB rfl rfl)) ?_
      refine wl_v (x_move (tmB rfl rfl)) ?_
      refine gs_wls (tm (t := 79) rfl) (fun hg4_19 => ?_) (fun hg4_19 => ?_)
      · exfalso
        simp at hg4_19
      have hg4_19' := hg4_19; (try simp only [nrm] at hg4_19')
      all_goals
       refine wl_gv (want_y rfl rfl rfl rfl (by rw [hg4_19]; rfl)) (x_fa 3 Tryd.underlying38 rfl rfl ts_29 (tmP rfl rfl)) ?_
       refine wl_gv (want_y rfl rfl rfl rfl (by rw [hg4_19]; rfl)) (x_loadA (cs := [_, _, _, _, _, _, _, _, _]) Tryd.underlying29 rfl ts_29 (tmP rfl rfl) (rangeB hS.ok 5 rfl rfl)) ?_
       refine wl_gv (want_y rfl rfl rfl rfl (by rw [hg4_19]; rfl)) (x_fa 3 Tryd.underlying46 rfl rfl ts_29 (tmP rfl rfl)) ?_
       refine wl_gv (want_y rfl rfl rfl rfl (by rw [hg4_19]; rfl)) (x_loadA (cs := [_, _, _, _, _, _, _, _, _]) Tryd.underlying29 rfl ts_29 (tmP rfl rfl) (rangeB hS.ok 4 rfl rfl)) ?_
       refine wl_gv (want_y rfl rfl rfl rfl (by rw [hg4_19]; rfl)) (x_Aeql (by kernel_rfl) (tmA rfl rfl) (tmA rfl rfl) (eqv_A Tryd.underlying29 (by kernel_rfl) (fe_cons rfl (pt_A (cs := [_, _, _]) Tryd.underlying26 rfl ts_26 rfl) (pt_A (cs := [_, _, _]) Tryd.underlying26 rfl ts_26 rfl) (eqv_A Tryd.underlying26 (by kernel_rfl) (fe_cons rfl (pt_1 Tryd.underlying4 rfl rfl) (pt_1 Tryd.underlying4 rfl rfl) (eqv_b Tryd.underlying4) <| fe_cons rfl (pt_1 Tryd.underlying24 rfl rfl) (pt_1 Tryd.underlying24 rfl rfl) (eqv_i Tryd.underlying24) <| fe_cons rfl (pt_1 Tryd.underlying24 rfl rfl) (pt_1 Tryd.underlying24 rfl rfl) (eqv_i Tryd.underlying24) <| fe_nil)) <| fe_cons rfl (pt_A (cs := [_, _, _]) Tryd.underlying26 rfl ts_26 rfl) (pt_A (cs := [_, _, _]) Tryd.underlying26 rfl ts_26 rfl) (eqv_A Tryd.underlying26 (by kernel_rfl) (fe_cons rfl (pt_1 Tryd.underlying4 rfl rfl) (pt_1 Tryd.underlying4 rfl rfl) (eqv_b Tryd.underlying4) <| fe_cons rfl (pt_1 Tryd.underlying24 rfl rfl) (pt_1 Tryd.underlying24 rfl rfl) (eqv_i Tryd.underlying24) <| fe_cons rfl (pt_1 Tryd.underlying24 rfl rfl) (pt_1 Tryd.underlying24 rfl rfl) (eqv_i Tryd.underlying24) <| fe_nil)) <| fe_cons rfl (pt_1 Tryd.underlying27 rfl rfl) (pt_1 Tryd.underlying27 rfl rfl) (eqv_i Tryd.underlying27) <| fe_cons rfl (pt_1 Tryd.underlying27 rfl rfl) (pt_1 Tryd.underlying27 rfl rfl) (eqv_i Tryd.underlying27) <| fe_cons rfl (pt_1 Tryd.underlying5 rfl rfl) (pt_1 Tryd.underlying5 rfl rfl) (eqv_i Tryd.underlying5) <| fe_nil))) ?_
       refine wl_v (x_pickT (tmB rfl rfl) hg4_19 (tmB rfl rfl)) ?_
       refine wl_v (x_move (tmB rfl rfl)) ?_
       refine gs_wls (tm (t := 86) rfl) (fun hg4_26 => ?_) (fun hg4_26 => ?_)
       · exfalso
         simp at hg4_26
       have hg4_26' := hg4_26; (try simp only [nrm] at hg4_26')
       all_goals
        refine wl_gv (want_y rfl rfl rfl rfl (by rw [hg4_26]; rfl)) (x_loadA (cs := [_, _, _, _, _, _, _, _, _, _]) Tryd.underlying42 rfl ts_42 (tmP rfl rfl) (rangeB hS.ok 3 rfl rfl)) ?_
        refine wl_gv (want_y rfl rfl rfl rfl (by rw [hg4_26]; rfl)) (x_fa 12 Tryd.underlying46 rfl rfl ts_42 (tmP rfl rfl)) ?_
        refine wl_gv (want_y rfl rfl rfl rfl (by rw [hg4_26]; rfl)) (x_loadA (cs := [_, _, _, _, _, _, _, _, _, _]) Tryd.underlying42 rfl ts_42 (tmP rfl rfl) (rangeB hS.ok 4 rfl rfl)) ?_
        refine wl_g (want_y rfl rfl rfl rfl (by rw [hg4_26]; rfl)) ?_; intro K hK
        refine ow_call Tryd.func27 rfl rfl (evs_cons (tmA rfl rfl) <| evs_cons (tmA rfl rfl) <| evs_nil) (same06_c i.T.t1 i.T.t2 i.T.t3 i.T.t4 i.T.t5 i.T.t6 i.T.t7 i.T.t8 p.O i.T.o.length p.co p.X i.T.x.length p.cx i.T.t1 i.T.t2 i.T.t3 i.T.t4 i.T.t5 i.T.t6 i.T.t7 i.T.t8 q.O i.T.o.length q.co q.X i.T.x.length q.cx _ _ _ _ _ (viewV hS.ok 13 rfl) rfl k1 (viewV hS.ok 12 rfl) rfl k2 (viewV hS.ok 9 rfl) rfl k1 (viewV hS.ok 8 rfl) rfl k2) ?_
        rintro e w ⟨rfl, hk⟩
        refine ⟨_, rfl, ?_⟩
        rw [decide_eq_true (by simp)]
        replace hS := hS.kept hk
        clear hk
        refine hK _ _ ?_; clear hK K
        refine wl_v (x_pickT (tmB rfl rfl) hg4_26 (tmB rfl rfl)) ?_
        refine wl_v (x_move (tmB rfl rfl)) ?_
        refine gs_wls (tm (t := 92) rfl) (fun hg4_32 => ?_) (fun hg4_32 => ?_)
        · exfalso
          simp at hg4_32
        have hg4_32' := hg4_32; (try simp only [nrm] at hg4_32')
        all_goals
         refine wl_gv (want_y rfl rfl rfl rfl (by rw [hg4_32]; rfl)) (x_loadA (cs := [_, _, _, _, _]) Tryd.underlying44 rfl ts_44 (tmP rfl rfl) (rangeB hS.ok 2 rfl rfl)) ?_
         refine wl_gv (want_y rfl rfl rfl rfl (by rw [hg4_32]; rfl)) (x_fa 26 Tryd.underlying46 rfl rfl ts_44 (tmP rfl rfl)) ?_
         refine wl_gv (want_y rfl rfl rfl rfl (by rw [hg4_32]; rfl)) (x_loadA (cs := [_, _, _, _, _]) Tryd.underlying44 rfl ts_44 (tmP rfl rfl) (rangeB hS.ok 4 rfl rfl)) ?_
         refine wl_g (want_y rfl rfl rfl rfl (by rw [hg4_32]; rfl)) ?_; intro K hK
         refine ow_call Tryd.func28 rfl rfl (evs_cons (tmA rfl rfl) <| evs_cons (tmA rfl rfl) <| evs_nil) (same08_c i.I.m1 i.I.m2 i.I.m3 i.I.m4 i.I.m1 i.I.m2 i.I.m3 i.I.m4 p.M i.I.x.length p.cm q.M i.I.x.length q.cm _ _ _ (viewV hS.ok 10 rfl) rfl k10 (viewV hS.ok 6 rfl) rfl k10) ?_
         rintro e w ⟨rfl, hk⟩
         refine ⟨_, rfl, ?_⟩
         rw [decide_eq_true (by simp)]
         replace hS := hS.kept hk
         clear hk
         refine hK _ _ ?_; clear hK K
         refine wl_v (x_pickT (tmB rfl rfl) hg4_32 (tmB rfl rfl)) ?_
         refine wl_v (x_move (tmB rfl rfl)) ?_
         refine gs_wls (tm (t := 98) rfl) (fun hg4_38 => ?_) (fun hg4_38 => ?_)
         · exfalso
           simp at hg4_38
         have hg4_38' := hg4_38; (try simp only [nrm] at hg4_38')
         all_goals
          refine wl_gv (want_y rfl rfl rfl rfl (by rw [hg4_38]; rfl)) (x_fa 0 Tryd.underlying34 rfl rfl ts_27 (tmP rfl rfl)) ?_
          refine wl_gv (want_y rfl rfl rfl rfl (by rw [hg4_38]; rfl)) (x_load Tryd.underlying27 rfl (tmP rfl rfl) (cellB hS.ok 0 rfl rfl)) ?_
          refine wl_gv (want_y rfl rfl rfl rfl (by rw [hg4_38]; rfl)) (x_fa 0 Tryd.underlying43 rfl rfl ts_27 (tmP rfl rfl)) ?_
          refine wl_gv (want_y rfl rfl rfl rfl (by rw [hg4_38]; rfl)) (x_load Tryd.underlying27 rfl (tmP rfl rfl) (cellB hS.ok 1 rfl rfl)) ?_
          refine wl_gv (want_y rfl rfl rfl rfl (by rw [hg4_38]; rfl)) (x_eql (tmI rfl rfl) (tmI rfl rfl)) ?_
          refine wl_v (x_pickT (tmB rfl rfl) hg4_38 (tmB rfl rfl)) ?_
          refine wl_v (x_move (tmB rfl rfl)) ?_
          refine gs_wls (tm (t := 105) rfl) (fun hg4_45 => ?_) (fun hg4_45 => ?_)
          · exfalso
            simp at hg4_45
          have hg4_45' := hg4_45; (try simp only [nrm] at hg4_45')
          all_goals
           refine wl_gv (want_y rfl rfl rfl rfl (by rw [hg4_45]; rfl)) (x_fa 1 Tryd.underlying34 rfl rfl ts_27 (tmP rfl rfl)) ?_
           refine wl_gv (want_y rfl rfl rfl rfl (by rw [hg4_45]; rfl)) (x_load Tryd.underlying27 rfl (tmP rfl rfl) (cellB hS.ok 0 rfl rfl)) ?_
           refine wl_gv (want_y rfl rfl rfl rfl (by rw [hg4_45]; rfl)) (x_fa 1 Tryd.underlying43 rfl rfl ts_27 (tmP rfl rfl)) ?_
           refine wl_gv (want_y rfl rfl rfl rfl (by rw [hg4_45]; rfl)) (x_load Tryd.underlying27 rfl (tmP rfl rfl) (cellB hS.ok 1 rfl rfl)) ?_
           refine wl_gv (want_y rfl rfl rfl rfl (by rw [hg4_45]; rfl)) (x_eql (tmI rfl rfl) (tmI rfl rfl)) ?_
           refine wl_v (x_pickT (tmB rfl rfl) hg4_45 (tmB rfl rfl)) ?_
           refine wl_v (x_move (tmB rfl rfl)) ?_
           refine gs_wls (tm (t := 112) rfl) (fun hg4_52 => ?_) (fun hg4_52 => ?_)
           · exfalso
             simp at hg4_52
           have hg4_52' := hg4_52; (try simp only [nrm] at hg4_52')
           all_goals
            refine wl_gv (want_y rfl rfl rfl rfl (by rw [hg4_52]; rfl)) (x_fa 2 Tryd.underlying34 rfl rfl ts_27 (tmP rfl rfl)) ?_
            refine wl_gv (want_y rfl rfl rfl rfl (by rw [hg4_52]; rfl)) (x_load Tryd.underlying27 rfl (tmP rfl rfl) (cellB hS.ok 0 rfl rfl)) ?_
            refine wl_gv (want_y rfl rfl rfl rfl (by rw [hg4_52]; rfl)) (x_fa 2 Tryd.underlying43 rfl rfl ts_27 (tmP rfl rfl)) ?_
            refine wl_gv (want_y rfl rfl rfl rfl (by rw [hg4_52]; rfl)) (x_load Tryd.underlying27 rfl (tmP rfl rfl) (cellB hS.ok 1 rfl rfl)) ?_
            refine wl_gv (want_y rfl rfl rfl rfl (by rw [hg4_52]; rfl)) (x_eql (tmI rfl rfl) (tmI rfl rfl)) ?_
            refine wl_v (x_pickT (tmB rfl rfl) hg4_52 (tmB rfl rfl)) ?_
            refine wl_v (x_move (tmB rfl rfl)) ?_
            refine gs_wls (tm (t := 119) rfl) (fun hg4_59 => ?_) (fun hg4_59 => ?_)
            · exfalso
              simp at hg4_59
            have hg4_59' := hg4_59; (try simp only [nrm] at hg4_59')
            all_goals
             refine wl_gv (want_y rfl rfl rfl rfl (by rw [hg4_59]; rfl)) (x_fa 3 Tryd.underlying34 rfl rfl ts_22 (tmP rfl rfl)) ?_
             refine wl_gv (want_y rfl rfl rfl rfl (by rw [hg4_59]; rfl)) (x_load Tryd.underlying22 rfl (tmP rfl rfl) (cellB hS.ok 0 rfl rfl)) ?_
             refine wl_gv (want_y rfl rfl rfl rfl (by rw [hg4_59]; rfl)) (x_bstr Tryd.underlying22 Tryd.underlying5 Tryd.underlying9 (tmS rfl rfl) (viewV hS.ok 11 rfl) k5 rfl) ?_
             refine wl_gv (want_y rfl rfl rfl rfl (by rw [hg4_59]; rfl)) (x_fa 3 Tryd.underlying43 rfl rfl ts_22 (tmP rfl rfl)) ?_
             refine wl_gv (want_y rfl rfl rfl rfl (by rw [hg4_59]; rfl)) (x_load Tryd.underlying22 rfl (tmP rfl rfl) (cellB hS.ok 1 rfl rfl)) ?_
             refine wl_gv (want_y rfl rfl rfl rfl (by rw [hg4_59]; rfl)) (x_bstr Tryd.underlying22 Tryd.underlying5 Tryd.underlying9 (tmS rfl rfl) (viewV hS.ok 7 rfl) k5 rfl) ?_
             refine wl_gv (want_y rfl rfl rfl rfl (by rw [hg4_59]; rfl)) (x_Geql (tmG rfl rfl) (tmG rfl rfl) (by first | assumption | exact Bytes.nil | (repeat' (first | assumption | exact Bytes.nil | exact be_bytes _ _ | apply Bytes.append | apply Bytes.take | apply Bytes.drop | apply Bytes.replicate))) (by first | assumption | exact Bytes.nil | (repeat' (first | assumption | exact Bytes.nil | exact be_bytes _ _ | apply Bytes.append | apply Bytes.take | apply Bytes.drop | apply Bytes.replicate)))) ?_
             refine wl_v (x_pickT (tmB rfl rfl) hg4_59 (tmB rfl rfl)) ?_
             refine wl_v (x_assign (tmB rfl rfl)) ?_
             refine wl_nil ?_
             refine then_n (hK6 _ _ ?_); clear hK6 K6
             refine wp_ret ?_
             refine ret1 rfl (.tmp rfl (show _ = Value.bool _ from rfl)) ?_
             exact ⟨by simp, hS.kp⟩
end Go.Proofs.YtmekadkmmddocaaDoor
