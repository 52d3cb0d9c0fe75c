/- Packets put together and taken apart, both sides at once. Conditions: none but bounds. -/
import Derived.Test.YtmekadkmmddocaaDoorTunB
import Derived.Test.YtmekadkmmddocaaDoorIp4Q
import Derived.Test.YtmekadkmmddocaaDoorTcpW
namespace Go.Proofs.YtmekadkmmddocaaDoor
open Go.RowKit
theorem right4_form {a : Ad} (h : right4P a) : ∃ low, a = ⟨false, 0, low⟩ ∧ low < 4294967296 := by
  obtain ⟨six, high, low⟩ := a
  obtain ⟨h1, h2⟩ := h
  have h2' : six = false := h2
  subst h2'
  rcases h1 with h | h
  · cases h
  · have h3 : high = 0 := h.1
    have h4 : low ≤ 4294967295 := h.2
    subst h3
    exact ⟨low, rfl, by omega⟩

def Packs (fn : Nat) (H : Option Addr → Nat → List Value) (o x pp : List Nat) (er : Nat) : Prop := ∀ (w : World) (O : Option Addr) (c : Nat) (L : Option Addr) (cl : Nat), View w w.heap.size O (o.map u8v) → View w w.heap.size L (x.map u8v) →
  Calls Tryd.prog fn #[.agg (H O c).toArray, .slice L x.length cl] w fun e w' => ∃ A n c', n = pp.length ∧ e = .returned (.tuple #[.slice A n c', .int .i64 (er : Int)]) ∧ New w w' (.row (.slice A n c') 5 1 n (pp.map u8v)) ∧ Kp [] w w'
theorem p4_ex (tos : Nat) (len : Int) (id : Nat) (stay more : Bool) (off ttl proto sum : Nat) (s d : Ad) (o x : List Nat) (q1 : tos < 256) (q3 : id < 65536) (q7 : ttl < 256) (q8 : proto < 256) (hob : Bytes o) (hm : o.length ≤ 100) (hx3 : x.length ≤ 3000) (hxb : Bytes x) :
    ∃ (pp : List Nat) (er : Nat), Bytes pp ∧ Packs 35 (fun O c => hdV tos len id stay more (off : Int) ttl proto sum s d O o.length c) o x pp er ∧ Packs 42 (fun O c => hdV tos len id stay more (off : Int) ttl proto sum s d O o.length c) o x pp er := by
  by_cases hr : hdRight ((20 + o.length + x.length : Nat) : Int) (off : Int) s d o.length
  · have hr' := hr
    obtain ⟨r1, r2, r3, r4, r5, r6, r7, r8⟩ := hr'
    obtain ⟨sl, rfl, hsl⟩ := right4_form r7
    obtain ⟨dl, rfl, hdl⟩ := right4_form r8
    obtain ⟨pp, hpp⟩ : ∃ pp, pp = hd4B tos (20 + o.length + x.length) id (flN off stay more) ttl proto (hd4C tos (20 + o.length + x.length) id (flN off stay more) ttl proto sl dl o) sl dl o ++ x := ⟨_, rfl⟩
    have hppl : pp.length = 20 + o.length + x.length := by rw [hpp, List.length_append, hd4B_len]
    have hppb : Bytes pp := by rw [hpp]; exact (hd4B_bytes _ _ _ _ _ _ _ _ _ hob).append hxb
    refine ⟨pp, 0, hppb, fun w O c L cl h1 h2 => ?_, fun w O c L cl h1 h2 => ?_⟩
    · rw [hppl, hpp]; exact ip4_packet_c tos len id stay more off ttl proto sum sl dl O c o L cl x w h1 hob h2 q1 q3 q7 q8 hr
    · rw [hppl, hpp]; exact rip4_packet_c tos len id stay more off ttl proto sum sl dl O c o L cl x w h1 hob h2 q1 q3 q7 q8 hr
  · refine ⟨[], 1, Bytes.nil, fun w O c L cl h1 h2 => ?_, fun w O c L cl h1 h2 => ?_⟩
    · exact Calls.mono (ip4_packet_bad tos len id stay more off ttl proto sum s d O o.length c L x.length cl w (by omega) (by omega) 1 (.inr ⟨by omega, hr, rfl⟩)) fun e w' h => ⟨none, 0, 0, rfl, h.1, ⟨World.ownsRow_nil w' 0 _ 1, rfl, fun g hg => by cases hg⟩, h.2⟩
    · exact Calls.mono (rip4_packet_bad tos len id stay more off ttl proto sum s d O o.length c L x.length cl w (by omega) (by omega) 1 (.inr ⟨by omega, hr, rfl⟩)) fun e w' h => ⟨none, 0, 0, rfl, h.1, ⟨World.ownsRow_nil w' 0 _ 1, rfl, fun g hg => by cases hg⟩, h.2⟩
theorem p6_ex (cl lb : Nat) (len : Int) (nx hp : Nat) (s d : Ad) (x : List Nat) (q1 : cl < 256) (q4 : nx < 256) (q5 : hp < 256) (hls : adLim s) (hld : adLim d) (hx3 : x.length ≤ 3000) (hxb : Bytes x) :
    ∃ (pp : List Nat) (er : Nat), Bytes pp ∧ Packs 32 (fun _ _ => hd6V cl lb len nx hp s d) [] x pp er ∧ Packs 40 (fun _ _ => hd6V cl lb len nx hp s d) [] x pp er := by
  by_cases hr : hd6Right lb (x.length : Int) s d
  · have hr' := hr
    obtain ⟨r1, r2, r3, r4, r5⟩ := hr'
    obtain ⟨pp, hpp⟩ : ∃ pp, pp = hd6B cl lb x.length nx hp s d ++ x := ⟨_, rfl⟩
    have hppl : pp.length = 40 + x.length := by rw [hpp, List.length_append, hd6B_len r4 r5]
    have hppb : Bytes pp := by rw [hpp]; exact (hd6B_bytes _ _ _ _ _ _ _).append hxb
    refine ⟨pp, 0, hppb, fun w O c L k h1 h2 => ?_, fun w O c L k h1 h2 => ?_⟩
    · rw [hppl, hpp]; exact ip6_packet_c cl lb len nx hp s d L x.length k x w h2 rfl q1 q4 q5 hls hld hr
    · rw [hppl, hpp]; exact rip6_packet_c cl lb len nx hp s d L x.length k x w h2 rfl q1 q4 q5 hls hld hr
  · refine ⟨[], 1, Bytes.nil, fun w O c L k h1 h2 => ?_, fun w O c L k h1 h2 => ?_⟩
    · exact Calls.mono (ip6_packet_bad cl lb len nx hp s d L x.length k w (by omega) hr) fun e w' h => ⟨none, 0, 0, rfl, h.1, ⟨World.ownsRow_nil w' 0 _ 1, rfl, fun g hg => by cases hg⟩, h.2⟩
    · exact Calls.mono (rip6_packet_bad cl lb len nx hp s d L x.length k w (by omega) hr) fun e w' h => ⟨none, 0, 0, rfl, h.1, ⟨World.ownsRow_nil w' 0 _ 1, rfl, fun g hg => by cases hg⟩, h.2⟩
/-- What a Parse answers: its header, with options o, and whatever load. -/
def Parts4 (fn : Nat) (l : List Nat) (H : Option Addr → Nat → List Value) (o x : List Nat) (er : Nat) : Prop := ∀ (w : World) (A : Option Addr) (c : Nat), View w w.heap.size A (l.map u8v) → l.length ≤ c →
  Calls Tryd.prog fn #[.slice A l.length c] w fun e w' => ∃ (O : Option Addr) (co : Nat) (L : Option Addr) (k c' : Nat), k = x.length ∧ e = .returned (.tuple #[.agg (H O co).toArray, .slice L k c', .int .i64 (er : Int)]) ∧ NewV w w' O (o.map u8v) ∧ NewV w w' L (x.map u8v) ∧ Kp [] w w'
theorem j4_ex (l : List Nat) (hb : Bytes l) (hn : l.length ≤ 3000) : ∃ (tos : Nat) (len : Int) (id : Nat) (stay more : Bool) (off ttl pr sum : Nat) (s d : Ad) (o x : List Nat) (er : Nat), tos < 256 ∧ id < 65536 ∧ ttl < 256 ∧ pr < 256 ∧ off < 8192 ∧ Bytes o ∧ o.length ≤ 100 ∧ Bytes x ∧ x.length ≤ 3000 ∧ er < 100 ∧ (er = 0 → sixN l = 4) ∧
    Parts4 34 l (fun O c => hdV tos len id stay more (off : Int) ttl pr sum s d O o.length c) o x er ∧ Parts4 41 l (fun O c => hdV tos len id stay more (off : Int) ttl pr sum s d O o.length c) o x er := by
  rcases ip4_all l l.length with ⟨sz, len, hf, hle, hs⟩ | ⟨er, hbad⟩
  · have hsl := hf.szlen
    have h20 := hf.n20
    have hs20 := hf.sz20
    have hsz := hf.size
    have hlx : ((l.drop sz).take (len - sz)).length = len - sz := by rw [List.length_take, List.length_drop]; omega
    have hlo : ((l.drop 20).take (sz - 20)).length = sz - 20 := by rw [List.length_take, List.length_drop]; omega
    have b1 : getN l 1 1 < 256 := getN_lt hb 1 1
    have b4 : getN l 4 2 < 65536 := getN_lt hb 4 2
    have b8 : getN l 8 1 < 256 := getN_lt hb 8 1
    have b9 : getN l 9 1 < 256 := getN_lt hb 9 1
    refine ⟨getN l 1 1, len, getN l 4 2, decide (getN l 6 2 / 2 ^ 14 % 2 = 1), decide (getN l 6 2 / 2 ^ 13 % 2 = 1), getN l 6 2 % 8192, getN l 8 1, getN l 9 1, getN l 10 2, ⟨false, 0, getN l 12 4⟩, ⟨false, 0, getN l 16 4⟩, (l.drop 20).take (sz - 20), (l.drop sz).take (len - sz), 0, b1, b4, b8, b9, by omega, (hb.drop _).take _, by rw [hlo]; omega, (hb.drop _).take _, by rw [hlx]; omega, by omega, fun _ => ?_, fun w A c hv hc => ?_, fun w A c hv hc => ?_⟩
    · unfold sixN
      rw [if_neg (by omega), if_pos hf.four]
    · exact Calls.mono (ip4_parse_c l.length A c l w hv rfl hc hb (by omega) sz len hf hle hs) fun e w' ⟨O, L, h1, h2, h3, h4⟩ => ⟨O, sz - 20, L, len - sz, len - sz, hlx.symm, by rw [hlo]; exact h1, h2, h3, h4⟩
    · exact Calls.mono (rip4_parse_c l.length A c l w hv rfl hc hb (by omega) sz len hf hle hs) fun e w' ⟨O, co, L, cl, h1, h2, h3, h4⟩ => ⟨O, co, L, len - sz, cl, hlx.symm, by rw [hlo]; exact h1, h2, h3, h4⟩
  · have her : er < 100 ∧ er ≠ 0 := by cases hbad <;> omega
    refine ⟨0, 0, 0, false, false, 0, 0, 0, 0, ad0, ad0, [], [], er, by omega, by omega, by omega, by omega, by omega, Bytes.nil, by simp, Bytes.nil, by simp, her.1, fun h => absurd h her.2, fun w A c hv hc => ?_, fun w A c hv hc => ?_⟩
    · exact Calls.mono (ip4_parse_bad l.length A c l w hv rfl hc hb (by omega) er hbad) fun e w' ⟨h1, h3⟩ => ⟨none, 0, none, 0, 0, rfl, h1, newV_nil w w', newV_nil w w', h3⟩
    · exact Calls.mono (rip4_parse_bad l.length A c l w hv rfl hc hb (by omega) er hbad) fun e w' ⟨h1, h3⟩ => ⟨none, 0, none, 0, 0, rfl, h1, newV_nil w w', newV_nil w w', h3⟩
theorem adLim6 {l : List Nat} (hb : Bytes l) (p : Nat) : adLim (ad6 l p) := by
  have h1 := getN_lt ((hb.drop p).take 16) 0 8
  have h2 := getN_lt ((hb.drop p).take 16) 8 8
  constructor
  · show getN ((l.drop p).take 16) 0 8 ≤ _
    omega
  · show getN ((l.drop p).take 16) 8 8 ≤ _
    omega
theorem first4 {l : List Nat} (h : 4 ≤ l.length) : getN l 0 4 = ((nth l 0 * 256 + nth l 1) * 256 + nth l 2) * 256 + nth l 3 ∧ getN l 2 2 = nth l 2 * 256 + nth l 3 := by
  have h1 := getN_split l 0 1 3 (by omega)
  have h2 := getN_split l 1 1 2 (by omega)
  have h3 := getN_split l 2 1 1 (by omega)
  rw [getN_one (by omega)] at h1 h2 h3
  rw [getN_one (by omega)] at h3
  have e1 : getN l 0 4 = nth l 0 * 256 ^ 3 + getN l 1 3 := h1
  have e2 : getN l 1 3 = nth l 1 * 256 ^ 2 + getN l 2 2 := h2
  have e3 : getN l 2 2 = nth l 2 * 256 ^ 1 + nth l 3 := h3
  omega
theorem j6_ex (l : List Nat) (hb : Bytes l) (hn : l.length ≤ 3000) (h6 : nth l 0 / 16 = 6) : ∃ (cl lb : Nat) (len : Int) (pr ttl : Nat) (s d : Ad) (x : List Nat) (er : Nat), cl < 256 ∧ pr < 256 ∧ ttl < 256 ∧ adLim s ∧ adLim d ∧ Bytes x ∧ x.length ≤ 3000 ∧ er < 100 ∧
    Parts4 31 l (fun _ _ => hd6V cl lb len pr ttl s d) [] x er ∧ Parts4 39 l (fun _ _ => hd6V cl lb len pr ttl s d) [] x er := by
  rcases ip6_all l hb h6 with ⟨len, hf⟩ | hbad
  · have hlx : ((l.drop 40).take len).length = len := by rw [List.length_take, List.length_drop]; have := hf.room; have := hf.n40; omega
    have b6 : getN l 6 1 < 256 := getN_lt hb 6 1
    have b7 : getN l 7 1 < 256 := getN_lt hb 7 1
    have hro := hf.room
    have h40 := hf.n40
    obtain ⟨f1, f2⟩ := first4 (l := l) (by omega)
    have n0 := nth_lt hb 0
    have n1 := nth_lt hb 1
    have n2 := nth_lt hb 2
    have n3 := nth_lt hb 3
    have e1 : l.getD 0 0 % 16 * 16 + l.getD 1 0 / 16 = getN l 0 4 / 2 ^ 20 % 256 := by
      show nth l 0 % 16 * 16 + nth l 1 / 16 = _
      omega
    have e2 : l.getD 1 0 % 16 * 65536 + getN l 2 2 = getN l 0 4 % 1048576 := by
      show nth l 1 % 16 * 65536 + _ = _
      omega
    refine ⟨getN l 0 4 / 2 ^ 20 % 256, getN l 0 4 % 1048576, len, getN l 6 1, getN l 7 1, ad6 l 8, ad6 l 24, (l.drop 40).take len, 0, by omega, b6, b7, adLim6 hb 8, adLim6 hb 24, (hb.drop _).take _, by rw [hlx]; omega, by omega, fun w A c hv hc => ?_, fun w A c hv hc => ?_⟩
    · exact Calls.mono (ip6_parse_c l.length A c l w hv rfl hc hb (by omega) len hf) fun e w' ⟨L, h1, h2, h3⟩ => ⟨none, 0, L, len, len, hlx.symm, h1, newV_nil w w', h2, h3⟩
    · exact Calls.mono (rip6_parse_x l.length A c l w hv rfl hc hb (by omega) len hf) fun e w' ⟨L, cc, h1, h2, h3⟩ => ⟨none, 0, L, len, cc, hlx.symm, by rw [← e1, ← e2]; exact h1, newV_nil w w', h2, h3⟩
  · refine ⟨0, 0, 0, 0, 0, ad0_, ad0_, [], 20, by omega, by omega, by omega, ⟨Nat.zero_le _, Nat.zero_le _⟩, ⟨Nat.zero_le _, Nat.zero_le _⟩, Bytes.nil, by simp, by omega, fun w A c hv hc => ?_, fun w A c hv hc => ?_⟩
    · exact Calls.mono (ip6_parse_bad l.length A c l w hv rfl hc hb (by omega) hbad) fun e w' ⟨h1, h3⟩ => ⟨none, 0, none, 0, 0, rfl, h1, newV_nil w w', newV_nil w w', h3⟩
    · exact Calls.mono (rip6_parse_bad l.length A c l w hv rfl hc hb (by omega) hbad) fun e w' ⟨h1, h3⟩ => ⟨none, 0, none, 0, 0, rfl, h1, newV_nil w w', newV_nil w w', h3⟩
end Go.Proofs.YtmekadkmmddocaaDoor
