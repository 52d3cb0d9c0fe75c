/- ip4: Parse, by contract. Conditions: none but bounds. -/
import Derived.Test.YtcobjneobdihkaaAd
import Derived.Test.YtcobjneobdihkaaSumB
namespace Go.Proofs.Ytcobjneobdihkaa
open Go.RowKit

def hdV (tos : Nat) (len : Int) (id : Nat) (stay more : Bool) (off : Int) (ttl proto sum : Nat) (src dst : Ad) (O : Option Addr) (m c : Nat) : List Value :=
  [.int .u8 (tos : Int), .int .i64 len, .int .u16 (id : Int), .bool stay, .bool more, .int .i64 off, .int .u8 (ttl : Int), .int .u8 (proto : Int), .int .u16 (sum : Int), .bool src.six, .int .u64 (src.high : Int), .int .u64 (src.low : Int), .bool dst.six, .int .u64 (dst.high : Int), .int .u64 (dst.low : Int), .slice O m c]
/-- The form of a header that may be read. -/
structure Ip4Form (l : List Nat) (n sz len : Nat) : Prop where
  n20 : 20 ≤ n
  four : nth l 0 / 16 = 4
  size : nth l 0 % 16 * 4 = sz
  sz20 : 20 ≤ sz
  flags : getN l 6 2 < 32768
  len_ : getN l 2 2 = len
  szlen : sz ≤ len
theorem seen_one {w : World} {A : Option Addr} {l : List Nat} {c : Nat} (h : View w w.heap.size A (l.map u8v)) : SeenRows w [(A, l, c)] := seen_cons h seen_nil
theorem joined_one (A : Option Addr) (l : List Nat) (c : Nat) : joined [(A, l, c)] = l := by simp [joined]
theorem rsum_one (A : Option Addr) (l : List Nat) (c : Nat) : rsum [(A, l, c)] 1 = psum l l.length := by simp [rsum]
def SumOk (l : List Nat) (sz : Nat) : Prop := foldN (psum (l.take sz) sz) = 65535

/-- Why a header may not be read. -/
inductive Ip4Bad (l : List Nat) (n : Nat) : Nat → Prop
  | short (h : n < 20) : Ip4Bad l n 20
  | form (h : 20 ≤ n) (h2 : nth l 0 / 16 ≠ 4 ∨ nth l 0 % 16 * 4 < 20 ∨ 32768 ≤ getN l 6 2 ∨ getN l 2 2 < nth l 0 % 16 * 4) : Ip4Bad l n 21
  | cut {sz len : Nat} (hf : Ip4Form l n sz len) (h : n < len) : Ip4Bad l n 20
  | sum {sz len : Nat} (hf : Ip4Form l n sz len) (h : len ≤ n) (hs : ¬ SumOk l sz) : Ip4Bad l n 22
end Go.Proofs.Ytcobjneobdihkaa
