
/- lpm: reading the acts. Conditions: none. -/
import Derived.Test.YtlpgedncnefaoaaLpT
import Derived.Test.YtlpgedncnefaoaaArgs
namespace Go.Proofs.Ytlpgedncnefaoaa
open Go.ChangeShapes Go.WideShapes Go.ChangeAt Go.RowKit
structure GEn where
  a : Ad
  len_ : Int
  val : Int
def GEn.V (s : GEn) : List Value := [.bool s.a.six, .int .u64 (s.a.high : Int), .int .u64 (s.a.low : Int), .int .i64 s.len_, .int .i64 s.val]
theorem GEn.len (s : GEn) : s.V.length = 5 := rfl
def GEn.ok (w : World) (s : GEn) : Prop := s.a.ok w ∧ (-9223372036854775808 ≤ s.len_ ∧ s.len_ ≤ 9223372036854775807) ∧ (-9223372036854775808 ≤ s.val ∧ s.val ≤ 9223372036854775807)
instance : Inhabited GEn := ⟨⟨default, 0, 0⟩⟩
set_option maxRecDepth 100000 in
theorem GEn.open_t {H : Type} {enc : TypeId × Value → H} {w : World} {fuel : Nat} {cs : List Value} {x : DataW H × List MemPlace} (hf : DataW.trod enc Try.prog w 0 (fun _ => true) true fuel 37 cs = some x) (hlt : ∀ p ∈ x.2, p.block < w.heap.size) : ∃ s : GEn, cs = s.V ∧ s.ok w := by
  have hC : Try.prog.cellsOf 37 = 5 := by kernel_rfl
  have hl := (DataW.trod_struct Try.underlying37 hf).choose_spec.choose_spec.2.2.1
  rw [hC] at hl
  obtain ⟨y0, k0, t0, b0⟩ := field_t Try.underlying37 hf hlt 0 _ rfl
  have hC0 : Try.prog.cellsOf 25 = 3 := by kernel_rfl
  obtain ⟨s0, e0, o0⟩ := Ad.open_t t0 b0
  have d0 := split_drop cs 0 3 (hC0 ▸ e0)
  obtain ⟨y1, k1, t1, b1⟩ := field_t Try.underlying37 hf hlt 1 _ rfl
  have hC1 : Try.prog.cellsOf 3 = 1 := by kernel_rfl
  obtain ⟨s1, e1, o1⟩ := t_i64 Try.underlying3 t1 b1
  have d1 := split_drop cs 3 1 (hC1 ▸ e1)
  obtain ⟨y2, k2, t2, b2⟩ := field_t Try.underlying37 hf hlt 2 _ rfl
  have hC2 : Try.prog.cellsOf 3 = 1 := by kernel_rfl
  obtain ⟨s2, e2, o2⟩ := t_i64 Try.underlying3 t2 b2
  have d2 := split_drop cs 4 1 (hC2 ▸ e2)
  refine ⟨⟨s0, s1, s2⟩, ?_, ⟨o0, o1, o2⟩⟩
  have dn : cs.drop 5 = [] := List.drop_eq_nil_of_le (by omega)
  rw [← List.drop_zero (l := cs)]
  refine d0.trans ?_
  rw [show cs.drop (0 + 3) = _ from d1]
  rw [show cs.drop (3 + 1) = _ from d2]
  rw [show cs.drop (4 + 1) = [] from dn]
  rfl
set_option maxRecDepth 100000 in
theorem GEn.open_a {H : Type} {enc : TypeId × Value → H} {w : World} {r : Reach} {b0 : Nat} {v : Value} {d : DataW H} {ps : List MemPlace} (hval : Value.okWide Try.prog w r b0 37 v) (hd : DataW.Trod enc Try.prog w 0 (fun _ => true) true 37 v d ps) (hlt : ∀ p ∈ ps, p.block < w.heap.size) : ∃ s : GEn, v = .agg s.V.toArray ∧ s.ok w := by
  obtain ⟨cs, rfl, _⟩ := okWide_struct Try.underlying37 hval
  obtain ⟨fuel, hf⟩ := hd
  obtain ⟨s, e, h⟩ := GEn.open_t hf hlt
  exact ⟨s, by rw [← e]; simp [Value.cells], h⟩
structure GAc where
  kind : Int
  x : GEn
def GAc.V (s : GAc) : List Value := [.int .i64 s.kind, .bool s.x.a.six, .int .u64 (s.x.a.high : Int), .int .u64 (s.x.a.low : Int), .int .i64 s.x.len_, .int .i64 s.x.val]
theorem GAc.len (s : GAc) : s.V.length = 6 := rfl
def GAc.ok (w : World) (s : GAc) : Prop := (-9223372036854775808 ≤ s.kind ∧ s.kind ≤ 9223372036854775807) ∧ s.x.ok w
instance : Inhabited GAc := ⟨⟨0, default⟩⟩
set_option maxRecDepth 100000 in
theorem GAc.open_t {H : Type} {enc : TypeId × Value → H} {w : World} {fuel : Nat} {cs : List Value} {x : DataW H × List MemPlace} (hf : DataW.trod enc Try.prog w 0 (fun _ => true) true fuel 51 cs = some x) (hlt : ∀ p ∈ x.2, p.block < w.heap.size) : ∃ s : GAc, cs = s.V ∧ s.ok w := by
  have hC : Try.prog.cellsOf 51 = 6 := by kernel_rfl
  have hl := (DataW.trod_struct Try.underlying51 hf).choose_spec.choose_spec.2.2.1
  rw [hC] at hl
  obtain ⟨y0, k0, t0, b0⟩ := field_t Try.underlying51 hf hlt 0 _ rfl
  have hC0 : Try.prog.cellsOf 3 = 1 := by kernel_rfl
  obtain ⟨s0, e0, o0⟩ := t_i64 Try.underlying3 t0 b0
  have d0 := split_drop cs 0 1 (hC0 ▸ e0)
  obtain ⟨y1, k1, t1, b1⟩ := field_t Try.underlying51 hf hlt 1 _ rfl
  have hC1 : Try.prog.cellsOf 37 = 5 := by kernel_rfl
  obtain ⟨s1, e1, o1⟩ := GEn.open_t t1 b1
  have d1 := split_drop cs 1 5 (hC1 ▸ e1)
  refine ⟨⟨s0, s1⟩, ?_, ⟨o0, o1⟩⟩
  have dn : cs.drop 6 = [] := List.drop_eq_nil_of_le (by omega)
  rw [← List.drop_zero (l := cs)]
  refine d0.trans ?_
  rw [show cs.drop (0 + 1) = _ from d1]
  rw [show cs.drop (1 + 5) = [] from dn]
  rfl
set_option maxRecDepth 100000 in
theorem GAc.open_a {H : Type} {enc : TypeId × Value → H} {w : World} {r : Reach} {b0 : Nat} {v : Value} {d : DataW H} {ps : List MemPlace} (hval : Value.okWide Try.prog w r b0 51 v) (hd : DataW.Trod enc Try.prog w 0 (fun _ => true) true 51 v d ps) (hlt : ∀ p ∈ ps, p.block < w.heap.size) : ∃ s : GAc, v = .agg s.V.toArray ∧ s.ok w := by
  obtain ⟨cs, rfl, _⟩ := okWide_struct Try.underlying51 hval
  obtain ⟨fuel, hf⟩ := hd
  obtain ⟨s, e, h⟩ := GAc.open_t hf hlt
  exact ⟨s, by rw [← e]; simp [Value.cells], h⟩
def GAc.la (s : GAc) : LA := ⟨s.kind, ⟨s.x.a, s.x.len_, s.x.val⟩⟩
theorem flat_gac (l : List GAc) : flat GAc.V l = flat laV (l.map GAc.la) := by
  unfold flat
  rw [List.map_map]
  rfl
theorem ad_lim {w : World} {a : Ad} (h : a.ok w) : adLim a := ⟨by have := h; simp [Ad.ok] at this; omega, by have := h; simp [Ad.ok] at this; omega⟩
set_option maxRecDepth 100000 in
theorem open_acts {H : Type} {enc : TypeId × Value → H} {r : Reach} {b0 : Nat} {d : DataW H} {ps : List MemPlace} {v : Value} {w0 : World}
    (hval : Value.okWide Try.prog w0 r b0 22 v) (hd : DataW.Trod enc Try.prog w0 0 (fun _ => true) true 22 v d ps) (hlt : ∀ x ∈ ps, x.block < w0.heap.size) :
    ∃ A n c l, v = .slice A n c ∧ View w0 w0.heap.size A (flat laV l) ∧ l.length = n ∧ ∀ x ∈ l, adLim x.e.a := by
  obtain ⟨s, rfl, hnc, hcm, hv, hall⟩ := arg_sl (V := GAc.V) (ok := fun r => r.ok w0) Try.underlying22 6 (by kernel_rfl) (by omega) GAc.open_t hval hd hlt
  refine ⟨s.a, s.l.length, s.c, s.l.map GAc.la, rfl, by rw [← flat_gac]; exact hv, List.length_map .., fun x hx => ?_⟩
  obtain ⟨y, hy, rfl⟩ := List.mem_map.1 hx
  exact ad_lim (hall y hy).2.1
end Go.Proofs.Ytlpgedncnefaoaa
