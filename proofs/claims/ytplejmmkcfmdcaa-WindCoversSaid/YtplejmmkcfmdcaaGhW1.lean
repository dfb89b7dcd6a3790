/- What the given bands are checked for: one number an error. Conditions: none. -/
import Derived.Test.YtplejmmkcfmdcaaGhCd
import Derived.Test.YtplejmmkcfmdcaaProg
namespace Go.Proofs.Ytplejmmkcfmdcaa
open Go.Gh Go.RowKit
noncomputable section

abbrev L6 : List Leaf := [.int .i64, .int .i64, .int .i64, .int .i64, .int .i64, .int .i64]
def Good (c : Array Value) (off n : Nat) : Prop := c.toList.all g0 = true ∧ ∀ k, k < n → rdOk c L6 (off + k * 6) = true

def wnd (n : Int) : Bool := decide (-20000 ≤ n) && decide (n ≤ 20000)
def wsp (a b : Int) : Bool := decide (a ≤ b) && (wnd a && wnd b)
/-- The error of the band at a place, which has to begin at a height. -/
def ckB (c : Array Value) (x : Nat) (fr : Int) : Int :=
  if getInt c x ≠ fr then 2
  else if getInt c (x + 1) ≤ getInt c x ∨ 100000000 < getInt c (x + 1) ∨ wsp (getInt c (x + 2)) (getInt c (x + 3)) = false ∨ wsp (getInt c (x + 4)) (getInt c (x + 5)) = false then 7 else 0
/-- The first band with an error, of some that are left, and the error. -/
def cb (c : Array Value) (off : Nat) : Nat → Nat → Int → Option (Int × Int)
  | 0, _, _ => none
  | m + 1, i, fr => if ckB c (off + i * 6) fr = 0 then cb c off m (i + 1) (getInt c (off + i * 6 + 1)) else some (i, ckB c (off + i * 6) fr)

def cbB (c : Array Value) (off : Nat) (m i : Nat) (fr : Int) : Bool := (cb c off m i fr).isSome
def cbI (c : Array Value) (off : Nat) (m i : Nat) (fr : Int) : Int := ((cb c off m i fr).getD (0, 0)).1
def cbE (c : Array Value) (off : Nat) (m i : Nat) (fr : Int) : Int := ((cb c off m i fr).getD (0, 0)).2

/-! ### wind.CheckBands: its loop -/
def ok25 (off : Nat) (c : Array Value) (n : Nat) (i m : Int) : Bool := dec (Good c off n ∧ 0 ≤ i ∧ n ≤ 20 ∧ m = n)
def sh25 : Shape
  | .code none (.loop code) ⟨t, [], ⟨.cells c true :: G, 1, []⟩⟩ =>
    match lget t 16, lget t 17, lget t 18, lget t 4 with
    | .slice (some ⟨0, off, none⟩) n 6, .int .i64 m, .int .i64 i, .int .i64 fr => some fun j =>
      .br (eqCode code (theLoop Try.prog 25 0)) (.br (Nat.beq t.length 33) (.br (ok25 off c n i m)
        (.br (cbB c off (n - i.toNat) i.toNat fr)
          (loopEnd 33 .ret [(2, .int .i64 (cbI c off (n - i.toNat) i.toNat fr)), (3, .int .i64 (cbE c off (n - i.toNat) i.toNat fr))] ⟨.cells c true :: G, 1, []⟩ j)
          (loopEnd 33 (.exit 0) [] ⟨.cells c true :: G, 1, []⟩ j)) .no) .no) .no
    | _, _, _, _ => none
  | _ => none
def mes25 : Task → Nat
  | .code _ _ s => match lget s.t 17, lget s.t 18 with
    | .int _ n, .int _ i => Nat.sub n.toNat i.toNat
    | _, _ => 0
  | _ => 0
/-! ### hangfireref01.CheckBands: its loop -/
def frOfI (c : Array Value) (off : Nat) (i : Nat) : Int := if i = 0 then 0 else getInt c (off + (i - 1) * 6 + 1)
def ok26 (off : Nat) (c : Array Value) (n : Nat) (i : Int) : Bool := dec (Good c off n ∧ 0 ≤ i ∧ n ≤ 20)
def sh26 : Shape
  | .code none (.loop code) ⟨t, [], ⟨.cells c true :: G, 1, []⟩⟩ =>
    match lget t 0, lget t 4 with
    | .slice (some ⟨0, off, none⟩) n 6, .int .i64 i => some fun j =>
      .br (eqCode code (theLoop Try.prog 26 0)) (.br (Nat.beq t.length 70) (.br (ok26 off c n i)
        (.br (cbB c off (n - i.toNat) i.toNat (frOfI c off i.toNat))
          (loopEnd 70 .ret [(2, .int .i64 (cbI c off (n - i.toNat) i.toNat (frOfI c off i.toNat))), (3, .int .i64 (cbE c off (n - i.toNat) i.toNat (frOfI c off i.toNat)))] ⟨.cells c true :: G, 1, []⟩ j)
          (loopEnd 70 (.exit 0) [] ⟨.cells c true :: G, 1, []⟩ j)) .no) .no) .no
    | _, _ => none
  | _ => none
def mes26 : Task → Nat
  | .code _ _ s => match lget s.t 0, lget s.t 4 with
    | .slice _ n _, .int _ i => Nat.sub n i.toNat
    | _, _ => 0
  | _ => 0

/-! ### The first place at which something is so -/
def fst (p : Nat → Bool) : Nat → Nat → Option Nat
  | 0, _ => none
  | m + 1, i => if p i then some i else fst p m (i + 1)
def ovP (c : Array Value) (off : Nat) (h : Int) (k : Nat) : Bool := decide (h < getInt c (off + k * 6 + 1))
def owP (c : Array Value) (off : Nat) (h : Int) (k : Nat) : Bool := decide (getInt c (off + k * 6) ≤ h) && decide (h < getInt c (off + k * 6 + 1))
def ovB (c : Array Value) (off : Nat) (h : Int) (m i : Nat) : Bool := (fst (ovP c off h) m i).isSome
def ovI (c : Array Value) (off : Nat) (h : Int) (m i : Nat) : Nat := (fst (ovP c off h) m i).getD 0
def owB (c : Array Value) (off : Nat) (h : Int) (m i : Nat) : Bool := (fst (owP c off h) m i).isSome
def owI (c : Array Value) (off : Nat) (h : Int) (m i : Nat) : Nat := (fst (owP c off h) m i).getD 0

abbrev Z2 : Array Value := ⟨[.int .i64 0, .int .i64 0]⟩
def sp (c : Array Value) (x : Nat) : Array Value := ⟨[.int .i64 (getInt c x), .int .i64 (getInt c (x + 1))]⟩
def pp (b : Nat) : Value := .pointer (some ⟨b, 0, none⟩)

/-! ### wind.Over: its loop -/
def ok27 (off : Nat) (c : Array Value) (n : Nat) (i m : Int) : Bool := dec (Good c off n ∧ 0 ≤ i ∧ n ≤ 20 ∧ m = n)
def okZ (x y : Array Value) : Bool := dec (x = Z2 ∧ y = Z2)
def sh27 : Shape
  | .code none (.loop code) ⟨t, [], ⟨.cells c true :: .cells x false :: .cells y false :: G, 1, []⟩⟩ =>
    match lget t 1, lget t 4, lget t 5, lget t 26, lget t 27, lget t 28 with
    | .int .i64 h, .pointer (some ⟨1, 0, none⟩), .pointer (some ⟨2, 0, none⟩), .slice (some ⟨0, off, none⟩) n 6, .int .i64 m, .int .i64 i => some fun j =>
      .br (eqCode code (theLoop Try.prog 27 0)) (.br (Nat.beq t.length 43) (.br (okZ x y) (.br (ok27 off c n i m)
        (.br (ovB c off h (n - i.toNat) i.toNat)
          (loopEnd 43 .ret [(4, pp 1), (5, pp 2), (6, .int .i64 0)] ⟨.cells c true :: .cells (sp c (off + (ovI c off h (n - i.toNat) i.toNat) * 6 + 2)) false :: .cells (sp c (off + (ovI c off h (n - i.toNat) i.toNat) * 6 + 4)) false :: G, 1, []⟩ j)
          (loopEnd 43 (.exit 0) [(4, pp 1), (5, pp 2)] ⟨.cells c true :: .cells Z2 false :: .cells Z2 false :: G, 1, []⟩ j)) .no) .no) .no) .no
    | _, _, _, _, _, _ => none
  | _ => none
def mes27 : Task → Nat
  | .code _ _ s => match lget s.t 27, lget s.t 28 with
    | .int _ n, .int _ i => Nat.sub n.toNat i.toNat
    | _, _ => 0
  | _ => 0
def pick27 : Ex → List Nat
  | .ret => [4, 5, 6]
  | _ => [4, 5]

/-! ### hangfireref01.Over: its loop -/
def ok28 (off : Nat) (c : Array Value) (n : Nat) (i : Int) : Bool := dec (Good c off n ∧ 0 ≤ i ∧ n ≤ 20)
def sh28 : Shape
  | .code none (.loop code) ⟨t, [], ⟨.cells c true :: .cells x false :: .cells y false :: G, 1, []⟩⟩ =>
    match lget t 1, lget t 4, lget t 5, lget t 0, lget t 9 with
    | .int .i64 h, .pointer (some ⟨1, 0, none⟩), .pointer (some ⟨2, 0, none⟩), .slice (some ⟨0, off, none⟩) n 6, .int .i64 i => some fun j =>
      .br (eqCode code (theLoop Try.prog 28 0)) (.br (Nat.beq t.length 61) (.br (okZ x y) (.br (ok28 off c n i)
        (.br (owB c off h (n - i.toNat) i.toNat)
          (loopEnd 61 .ret [(4, pp 1), (5, pp 2), (6, .int .i64 0)] ⟨.cells c true :: .cells (sp c (off + (owI c off h (n - i.toNat) i.toNat) * 6 + 2)) false :: .cells (sp c (off + (owI c off h (n - i.toNat) i.toNat) * 6 + 4)) false :: G, 1, []⟩ j)
          (loopEnd 61 (.exit 0) [(4, pp 1), (5, pp 2)] ⟨.cells c true :: .cells Z2 false :: .cells Z2 false :: G, 1, []⟩ j)) .no) .no) .no) .no
    | _, _, _, _, _ => none
  | _ => none
def mes28 : Task → Nat
  | .code _ _ s => match lget s.t 0, lget s.t 9 with
    | .slice _ n _, .int _ i => Nat.sub n i.toNat
    | _, _ => 0
  | _ => 0

/-! ### wind.coversBand: its loop -/
/-- A band of some and one told by its numbers are in each other's way. -/
def cvP (c : Array Value) (off : Nat) (b0 b1 b2 b3 b4 b5 : Int) (k : Nat) : Bool :=
  decide (getInt c (off + k * 6) < b1) && (decide (b0 < getInt c (off + k * 6 + 1)) &&
    !(decide (getInt c (off + k * 6 + 2) ≤ b2) && (decide (b3 ≤ getInt c (off + k * 6 + 3)) && (decide (getInt c (off + k * 6 + 4) ≤ b4) && decide (b5 ≤ getInt c (off + k * 6 + 5))))))
def cvB (c : Array Value) (off : Nat) (b0 b1 b2 b3 b4 b5 : Int) (m i : Nat) : Bool := (fst (cvP c off b0 b1 b2 b3 b4 b5) m i).isSome
def sh72 : Shape
  | .code none (.loop code) ⟨t, [], ⟨.cells c true :: .cells ⟨[.int .i64 b0, .int .i64 b1, .int .i64 b2, .int .i64 b3, .int .i64 b4, .int .i64 b5]⟩ false :: G, 1, []⟩⟩ =>
    match lget t 3, lget t 8, lget t 9, lget t 10 with
    | .pointer (some ⟨1, 0, none⟩), .slice (some ⟨0, off, none⟩) n 6, .int .i64 m, .int .i64 i => some fun j =>
      .br (eqCode code (theLoop Try.prog 72 0)) (.br (Nat.beq t.length 43) (.br (ok27 off c n i m)
        (.br (cvB c off b0 b1 b2 b3 b4 b5 (n - i.toNat) i.toNat)
          (loopEnd 43 .ret [(4, .bool false)] ⟨.cells c true :: .cells ⟨[.int .i64 b0, .int .i64 b1, .int .i64 b2, .int .i64 b3, .int .i64 b4, .int .i64 b5]⟩ false :: G, 1, []⟩ j)
          (loopEnd 43 (.exit 0) [] ⟨.cells c true :: .cells ⟨[.int .i64 b0, .int .i64 b1, .int .i64 b2, .int .i64 b3, .int .i64 b4, .int .i64 b5]⟩ false :: G, 1, []⟩ j)) .no) .no) .no
    | _, _, _, _ => none
  | _ => none
def mes72 : Task → Nat
  | .code _ _ s => match lget s.t 9, lget s.t 10 with
    | .int _ n, .int _ i => Nat.sub n.toNat i.toNat
    | _, _ => 0
  | _ => 0
def pick72 : Ex → List Nat
  | .ret => [4]
  | _ => []

/-! ### Slices that are handed in -/
def SliceOk (a : Option Addr) (n sz : Nat) (H : List Ob) : Prop := n = 0 ∨ ∃ b off, a = some ⟨b, off, none⟩ ∧ sz = 6 ∧ isCells H b = true ∧ Good (cellsAt H b) off n
def okS (a : Option Addr) (n sz : Nat) (H : List Ob) : Bool := dec (SliceOk a n sz H)
def arrOf (a : Option Addr) (H : List Ob) : Array Value := match a with
  | some x => cellsAt H x.block
  | none => #[]
def offOf (a : Option Addr) : Nat := match a with
  | some x => x.off
  | none => 0

def cbR1 (c : Array Value) (off n : Nat) : Int := if n < 1 ∨ 20 < n then 0 else cbI c off n 0 0
def cbR2 (c : Array Value) (off n : Nat) : Int := if n < 1 ∨ 20 < n then 3 else cbE c off n 0 0
/-- CheckBands. -/
def p25 (f : Nat) : Ans
  | .call g ⟨[.slice a n sz]⟩ h => (match Nat.beq g f with
    | true => some (.br (okS a n sz h.bl) (.leaf (.ret (.tuple ⟨[.int .i64 (cbR1 (arrOf a h.bl) (offOf a) n), .int .i64 (cbR2 (arrOf a h.bl) (offOf a) n)]⟩) h)) .no)
    | false => none)
  | _ => none
/-- wind.coversBand. -/
def p72 : Ans
  | .call 72 ⟨[.slice a n sz, .agg ⟨[.int .i64 b0, .int .i64 b1, .int .i64 b2, .int .i64 b3, .int .i64 b4, .int .i64 b5]⟩]⟩ h =>
    some (.br (okS a n sz h.bl) (.br (Nat.ble n 20) (.leaf (.ret (.bool (!cvB (arrOf a h.bl) (offOf a) b0 b1 b2 b3 b4 b5 n 0)) h)) .no) .no)
  | _ => none

/-! ### wind.Covers: its loop -/
def cvP2 (c : Array Value) (off n : Nat) (d : Array Value) (e : Nat) (k : Nat) : Bool :=
  cvB c off (getInt d (e + k * 6)) (getInt d (e + k * 6 + 1)) (getInt d (e + k * 6 + 2)) (getInt d (e + k * 6 + 3)) (getInt d (e + k * 6 + 4)) (getInt d (e + k * 6 + 5)) n 0
def cvB2 (c : Array Value) (off n : Nat) (d : Array Value) (e m i : Nat) : Bool := (fst (cvP2 c off n d e) m i).isSome
def ok29 (c : Array Value) (off n : Nat) (d : Array Value) (e n2 : Nat) (i m : Int) : Bool := dec (Good c off n ∧ Good d e n2 ∧ 0 ≤ i ∧ n ≤ 20 ∧ n2 ≤ 20 ∧ m = n2)
def sh29 : Shape
  | .code none (.loop code) ⟨t, [], ⟨.cells c true :: .cells d true :: G, 2, []⟩⟩ =>
    match lget t 0, lget t 43, lget t 44, lget t 45 with
    | .slice (some ⟨0, off, none⟩) n 6, .slice (some ⟨1, e, none⟩) n2 6, .int .i64 m, .int .i64 i => some fun j =>
      .br (eqCode code (theLoop Try.prog 29 0)) (.br (Nat.beq t.length 54) (.br (ok29 c off n d e n2 i m)
        (.br (cvB2 c off n d e (n2 - i.toNat) i.toNat)
          (loopEnd 54 .ret [(4, .bool false), (5, .int .i64 0)] ⟨.cells c true :: .cells d true :: G, 2, []⟩ j)
          (loopEnd 54 (.exit 0) [] ⟨.cells c true :: .cells d true :: G, 2, []⟩ j)) .no) .no) .no
    | _, _, _, _ => none
  | _ => none
def mes29 : Task → Nat
  | .code _ _ s => match lget s.t 44, lget s.t 45 with
    | .int _ n, .int _ i => Nat.sub n.toNat i.toNat
    | _, _ => 0
  | _ => 0
def pick29 : Ex → List Nat
  | .ret => [4, 5]
  | _ => []

/-! ### hangfireref01.Covers: its loops -/
def cwP (c : Array Value) (x : Nat) (d : Array Value) (e : Nat) (k : Nat) : Bool :=
  decide (max (getInt c x) (getInt d (e + k * 6)) < min (getInt c (x + 1)) (getInt d (e + k * 6 + 1))) &&
    !(decide (getInt c (x + 2) ≤ getInt d (e + k * 6 + 2)) && (decide (getInt d (e + k * 6 + 3) ≤ getInt c (x + 3)) && (decide (getInt c (x + 4) ≤ getInt d (e + k * 6 + 4)) && decide (getInt d (e + k * 6 + 5) ≤ getInt c (x + 5)))))
def cwB (c : Array Value) (x : Nat) (d : Array Value) (e m i : Nat) : Bool := (fst (cwP c x d e) m i).isSome
def cwP2 (c : Array Value) (off : Nat) (d : Array Value) (e n2 : Nat) (k : Nat) : Bool := cwB c (off + k * 6) d e n2 0
def cwB2 (c : Array Value) (off : Nat) (d : Array Value) (e n2 m i : Nat) : Bool := (fst (cwP2 c off d e n2) m i).isSome
def ok30 (c : Array Value) (off n : Nat) (d : Array Value) (e n2 : Nat) (i k : Int) : Bool := dec (Good c off n ∧ Good d e n2 ∧ 0 ≤ i ∧ i < n ∧ 0 ≤ k ∧ n ≤ 20 ∧ n2 ≤ 20)
def sh30 : Shape
  | .code none (.loop code) ⟨t, [], ⟨.cells c true :: .cells d true :: G, 2, []⟩⟩ =>
    match Nat.beq (firstReg code) 12, lget t 0, lget t 1, lget t 8, lget t 9 with
    | true, .slice (some ⟨0, off, none⟩) n 6, .slice (some ⟨1, e, none⟩) n2 6, .int .i64 i, .int .i64 k => some fun j =>
      .br (eqCode code (theLoop Try.prog 30 1)) (.br (Nat.beq t.length 105) (.br (ok30 c off n d e n2 i k)
        (.br (cwB c (off + i.toNat * 6) d e (n2 - k.toNat) k.toNat)
          (loopEnd 105 .ret [(4, .bool false), (5, .int .i64 0)] ⟨.cells c true :: .cells d true :: G, 2, []⟩ j)
          (loopEnd 105 (.exit 2) [(0, .slice (some ⟨0, off, none⟩) n 6), (1, .slice (some ⟨1, e, none⟩) n2 6), (8, .int .i64 i)] ⟨.cells c true :: .cells d true :: G, 2, []⟩ j)) .no) .no) .no
    | _, _, _, _, _ => none
  | _ => none
def mes30 : Task → Nat
  | .code _ _ s => match lget s.t 1, lget s.t 9 with
    | .slice _ n _, .int _ i => Nat.sub n i.toNat
    | _, _ => 0
  | _ => 0
def pick30 : Ex → List Nat
  | .ret => [4, 5]
  | _ => [0, 1, 8]
def ok31 (c : Array Value) (off n : Nat) (d : Array Value) (e n2 : Nat) (i : Int) : Bool := dec (Good c off n ∧ Good d e n2 ∧ 0 ≤ i ∧ n ≤ 20 ∧ n2 ≤ 20)
def sh31 : Shape
  | .code none (.loop code) ⟨t, [], ⟨.cells c true :: .cells d true :: G, 2, []⟩⟩ =>
    match Nat.beq (firstReg code) 9, lget t 0, lget t 1, lget t 8 with
    | true, .slice (some ⟨0, off, none⟩) n 6, .slice (some ⟨1, e, none⟩) n2 6, .int .i64 i => some fun j =>
      .br (eqCode code (theLoop Try.prog 30 0)) (.br (Nat.beq t.length 105) (.br (ok31 c off n d e n2 i)
        (.br (cwB2 c off d e n2 (n - i.toNat) i.toNat)
          (loopEnd 105 .ret [(4, .bool false), (5, .int .i64 0)] ⟨.cells c true :: .cells d true :: G, 2, []⟩ j)
          (loopEnd 105 (.exit 0) [] ⟨.cells c true :: .cells d true :: G, 2, []⟩ j)) .no) .no) .no
    | _, _, _, _ => none
  | _ => none
def mes31 : Task → Nat
  | .code _ _ s => match lget s.t 0, lget s.t 8 with
    | .slice _ n _, .int _ i => Nat.sub n i.toNat
    | _, _ => 0
  | _ => 0

/-- Over. -/
def ovE (c : Array Value) (off n : Nat) (h : Int) : Int :=
  if cbR2 c off n ≠ 0 then cbR2 c off n else if h < 0 ∨ 99999999 < h then 7 else if ovB c off h n 0 = true then 0 else 4
def ovV (c : Array Value) (off n : Nat) (h : Int) (j : Nat) : Int := if ovE c off n h = 0 then getInt c (off + ovI c off h n 0 * 6 + j) else 0
def p27 (f : Nat) : Ans
  | .call g ⟨[.slice a n sz, .int .i64 x]⟩ h => (match Nat.beq g f with
    | true => some (.br (okS a n sz h.bl) (.leaf (.ret (.tuple ⟨[.agg ⟨[.int .i64 (ovV (arrOf a h.bl) (offOf a) n x 2), .int .i64 (ovV (arrOf a h.bl) (offOf a) n x 3)]⟩,
        .agg ⟨[.int .i64 (ovV (arrOf a h.bl) (offOf a) n x 4), .int .i64 (ovV (arrOf a h.bl) (offOf a) n x 5)]⟩, .int .i64 (ovE (arrOf a h.bl) (offOf a) n x)]⟩) h)) .no)
    | false => none)
  | _ => none
/-- Covers. -/
def cvE (c : Array Value) (off n : Nat) (d : Array Value) (e n2 : Nat) : Int := if cbR2 c off n ≠ 0 then cbR2 c off n else cbR2 d e n2
def cvT (c : Array Value) (off n : Nat) (d : Array Value) (e n2 : Nat) : Bool :=
  decide (cvE c off n d e n2 = 0) && (decide (getInt d (e + (n2 - 1) * 6 + 1) ≤ getInt c (off + (n - 1) * 6 + 1)) && !(cvB2 c off n d e n2 0))
def p29 (f : Nat) : Ans
  | .call g ⟨[.slice a n sz, .slice a2 n2 sz2]⟩ h => (match Nat.beq g f with
    | true => some (.br (okS a n sz h.bl) (.br (okS a2 n2 sz2 h.bl) (.leaf (.ret (.tuple ⟨[.bool (cvT (arrOf a h.bl) (offOf a) n (arrOf a2 h.bl) (offOf a2) n2), .int .i64 (cvE (arrOf a h.bl) (offOf a) n (arrOf a2 h.bl) (offOf a2) n2)]⟩) h)) .no) .no)
    | false => none)
  | _ => none
/-- CheckBands, its answer by cases. -/
def p25v (f : Nat) : Ans
  | .call g ⟨[.slice a n sz]⟩ h => (match Nat.beq g f with
    | true => some (.br (okS a n sz h.bl)
        (.br (decide (cbR2 (arrOf a h.bl) (offOf a) n = 0)) (.leaf (.ret (.tuple ⟨[.int .i64 (cbR1 (arrOf a h.bl) (offOf a) n), .int .i64 0]⟩) h))
        (.br (decide (cbR2 (arrOf a h.bl) (offOf a) n = 2)) (.leaf (.ret (.tuple ⟨[.int .i64 (cbR1 (arrOf a h.bl) (offOf a) n), .int .i64 2]⟩) h))
        (.br (decide (cbR2 (arrOf a h.bl) (offOf a) n = 3)) (.leaf (.ret (.tuple ⟨[.int .i64 (cbR1 (arrOf a h.bl) (offOf a) n), .int .i64 3]⟩) h))
        (.leaf (.ret (.tuple ⟨[.int .i64 (cbR1 (arrOf a h.bl) (offOf a) n), .int .i64 7]⟩) h))))) .no)
    | false => none)
  | _ => none
/-- Awake. -/
def p24 : Ans
  | .call 24 ⟨[]⟩ h => some (.leaf (.ret (.bool true) h))
  | _ => none

def pick25 : Ex → List Nat
  | .ret => [2, 3]
  | _ => []
end
end Go.Proofs.Ytplejmmkcfmdcaa
