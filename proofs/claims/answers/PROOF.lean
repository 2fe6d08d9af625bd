import PyProof.Rows.All
import Wide.All
import OpenK.AllK
import Wide.FinOn
import PyProof.EqAt
import PyProof.EqKinds
import PyProof.TupleCall
import KE.BitLaws
import Open.SpecLaws
import KE.OsHead
import KE.OsGo
import KE.IntBitsLaws
import PyProof.Rows.SetFrom
import PyProof.Rows.SeqMore
import PyProof.ListRange
import PySem.Challenge.RW_movingdiscs_s01_answers
set_option Elab.async false
set_option linter.all false
set_option maxRecDepth 100000
namespace Tw
open Lean.Grind
set_option linter.unusedSectionVars false
set_option linter.unusedSimpArgs false
/-- an ordered ring, its order a total preorder -/
class MulNN (R : Type) [CommRing R] [LE R] : Prop where
  mul_nn : ∀ {a b : R}, 0 ≤ a → 0 ≤ b → 0 ≤ a * b

section
variable {R : Type} [CommRing R] [LE R] [LT R] [Std.LawfulOrderLT R] [Std.IsLinearPreorder R] [OrderedRing R] [MulNN R]
theorem tot (a b : R) : a ≤ b ∨ b < a := by
  by_cases h : a ≤ b
  · exact .inl h
  · refine .inr (Std.lt_iff_le_and_not_ge.mpr ⟨?_, h⟩)
    rcases Std.le_total (a := a) (b := b) with k | k
    · exact absurd k h
    · exact k
theorem nlt {a b : R} (h : ¬ a < b) : b ≤ a := (tot b a).elim id fun k => absurd k h
theorem nle {a b : R} (h : ¬ a ≤ b) : b < a := (tot a b).elim (fun k => absurd k h) id
theorem le_by {a b : R} (h : b < a → False) : a ≤ b := nlt h
theorem lt_by {a b : R} (h : b ≤ a → False) : a < b := nle h
theorem nn {a b : R} (ha : 0 ≤ a) (hb : 0 ≤ b) : 0 ≤ a * b := MulNN.mul_nn ha hb
theorem pp {a b : R} (ha : 0 < a) (hb : 0 < b) : 0 < a * b := by
  have := OrderedRing.mul_lt_mul_of_pos_left (R := R) hb ha
  first | grind | exact le_by fun _ => by grind | exact lt_by fun _ => by grind
theorem le_mul {a b c : R} (hc : 0 ≤ c) (h : a ≤ b) : c * a ≤ c * b := by
  have := nn hc (show 0 ≤ b - a from le_by fun _ => by grind)
  first | grind | exact le_by fun _ => by grind | exact lt_by fun _ => by grind
theorem sq_nn (a : R) : 0 ≤ a * a := by
  rcases tot 0 a with h | h
  · exact nn h h
  · have := pp (show 0 < -a from lt_by fun _ => by grind) (show 0 < -a from lt_by fun _ => by grind)
    first | grind | exact le_by fun _ => by grind | exact lt_by fun _ => by grind
/-- roots keep the order -/
theorem root_le {a b : R} (hb : 0 ≤ b) (h : a * a ≤ b * b) : a ≤ b := by
  rcases tot a b with k | k
  · exact k
  · have h1 : 0 < a + b := nle fun z => by grind
    have := pp (show 0 < a - b from lt_by fun _ => by grind) h1
    first | grind | exact le_by fun _ => by grind | exact lt_by fun _ => by grind
theorem sq_le {a b : R} (ha : 0 ≤ a) (h : a ≤ b) : a * a ≤ b * b := by
  have h1 := le_mul ha h
  have h2 := le_mul (show 0 ≤ b from le_by fun _ => by grind) h
  first | grind | exact le_by fun _ => by grind | exact lt_by fun _ => by grind
theorem cancel {a b : R} (ha : 0 < a) (h : 0 ≤ a * b) : 0 ≤ b := by
  rcases tot 0 b with k | k
  · exact k
  · have := pp ha (show 0 < -b from lt_by fun _ => by grind)
    first | grind | exact le_by fun _ => by grind | exact lt_by fun _ => by grind
theorem cancel_le {a b c : R} (ha : 0 < a) (h : a * b ≤ a * c) : b ≤ c := by
  have := cancel (b := c - b) ha (le_by fun _ => by grind)
  first | grind | exact le_by fun _ => by grind | exact lt_by fun _ => by grind
theorem one_pos : (0 : R) < 1 := OrderedRing.zero_lt_one
end

/-- u and v times the root of e -/
structure Ext (R : Type) (e : R) where
  u : R
  v : R
theorem Ext.ext' {R : Type} {e : R} : ∀ {x y : Ext R e}, x.u = y.u → x.v = y.v → x = y
  | ⟨_, _⟩, ⟨_, _⟩, rfl, rfl => rfl
section
variable {R : Type} [CommRing R] {e : R}
instance : Add (Ext R e) := ⟨fun x y => ⟨x.u + y.u, x.v + y.v⟩⟩
instance : Neg (Ext R e) := ⟨fun x => ⟨-x.u, -x.v⟩⟩
instance : Sub (Ext R e) := ⟨fun x y => ⟨x.u - y.u, x.v - y.v⟩⟩
instance : Mul (Ext R e) := ⟨fun x y => ⟨x.u * y.u + x.v * y.v * e, x.u * y.v + x.v * y.u⟩⟩
instance ofN (n : Nat) : OfNat (Ext R e) n := ⟨⟨OfNat.ofNat n, 0⟩⟩
instance natC : NatCast (Ext R e) := ⟨fun n => ⟨OfNat.ofNat n, 0⟩⟩
instance intC : IntCast (Ext R e) := ⟨fun i => ⟨Ring.intCast.intCast i, 0⟩⟩
def powE (x : Ext R e) : Nat → Ext R e
  | 0 => 1
  | n + 1 => powE x n * x
instance : HPow (Ext R e) Nat (Ext R e) := ⟨powE⟩
instance : SMul Nat (Ext R e) := ⟨fun n x => (Nat.cast n : Ext R e) * x⟩
instance : SMul Int (Ext R e) := ⟨fun n x => (Int.cast n : Ext R e) * x⟩
theorem add_u (x y : Ext R e) : (x + y).u = x.u + y.u := rfl
theorem add_v (x y : Ext R e) : (x + y).v = x.v + y.v := rfl
theorem mul_u (x y : Ext R e) : (x * y).u = x.u * y.u + x.v * y.v * e := rfl
theorem mul_v (x y : Ext R e) : (x * y).v = x.u * y.v + x.v * y.u := rfl
theorem neg_u (x : Ext R e) : (-x).u = -x.u := rfl
theorem neg_v (x : Ext R e) : (-x).v = -x.v := rfl
theorem sub_u (x y : Ext R e) : (x - y).u = x.u - y.u := rfl
theorem sub_v (x y : Ext R e) : (x - y).v = x.v - y.v := rfl
theorem zero_u : (0 : Ext R e).u = 0 := rfl
theorem zero_v : (0 : Ext R e).v = 0 := rfl
theorem one_u : (1 : Ext R e).u = 1 := rfl
theorem one_v : (1 : Ext R e).v = 0 := rfl
theorem num_u (n : Nat) : (OfNat.ofNat n : Ext R e).u = OfNat.ofNat n := rfl
theorem num_v (n : Nat) : (OfNat.ofNat n : Ext R e).v = 0 := rfl
instance : CommRing (Ext R e) where
  add_zero x := Ext.ext' (by rw [add_u, zero_u]; grind) (by rw [add_v, zero_v]; grind)
  add_comm x y := Ext.ext' (by rw [add_u, add_u]; grind) (by rw [add_v, add_v]; grind)
  add_assoc x y z := Ext.ext' (by simp only [add_u]; grind) (by simp only [add_v]; grind)
  mul_assoc x y z := Ext.ext' (by simp only [mul_u, mul_v]; grind) (by simp only [mul_u, mul_v]; grind)
  mul_one x := Ext.ext' (by simp only [mul_u, mul_v, one_u, one_v]; grind) (by simp only [mul_u, mul_v, one_u, one_v]; grind)
  one_mul x := Ext.ext' (by simp only [mul_u, mul_v, one_u, one_v]; grind) (by simp only [mul_u, mul_v, one_u, one_v]; grind)
  left_distrib x y z := Ext.ext' (by simp only [mul_u, mul_v, add_u, add_v]; grind) (by simp only [mul_u, mul_v, add_u, add_v]; grind)
  right_distrib x y z := Ext.ext' (by simp only [mul_u, mul_v, add_u, add_v]; grind) (by simp only [mul_u, mul_v, add_u, add_v]; grind)
  zero_mul x := Ext.ext' (by simp only [mul_u, mul_v, zero_u, zero_v]; grind) (by simp only [mul_u, mul_v, zero_u, zero_v]; grind)
  mul_zero x := Ext.ext' (by simp only [mul_u, mul_v, zero_u, zero_v]; grind) (by simp only [mul_u, mul_v, zero_u, zero_v]; grind)
  pow_zero x := rfl
  pow_succ x n := rfl
  ofNat_succ n := Ext.ext' (by rw [add_u, num_u, num_u, one_u]; exact Semiring.ofNat_succ n) (by rw [add_v, num_v, num_v, one_v]; grind)
  neg_add_cancel x := Ext.ext' (by rw [add_u, neg_u, zero_u]; grind) (by rw [add_v, neg_v, zero_v]; grind)
  sub_eq_add_neg x y := Ext.ext' (by rw [sub_u, add_u, neg_u]; grind) (by rw [sub_v, add_v, neg_v]; grind)
  neg_zsmul i x := Ext.ext' (by show (Ring.intCast.intCast (-i : Int) : R) * x.u + 0 * x.v * e = -((Ring.intCast.intCast i : R) * x.u + 0 * x.v * e); rw [show (Ring.intCast.intCast (-i : Int) : R) = -Ring.intCast.intCast i from Ring.intCast_neg i]; grind) (by show (Ring.intCast.intCast (-i : Int) : R) * x.v + 0 * x.u = -((Ring.intCast.intCast i : R) * x.v + 0 * x.u); rw [show (Ring.intCast.intCast (-i : Int) : R) = -Ring.intCast.intCast i from Ring.intCast_neg i]; grind)
  zsmul_natCast_eq_nsmul n x := Ext.ext' (by show (Ring.intCast.intCast ((n : Nat) : Int) : R) * x.u + 0 * x.v * e = (OfNat.ofNat n : R) * x.u + 0 * x.v * e; rw [show (Ring.intCast.intCast ((n : Nat) : Int) : R) = OfNat.ofNat n from (Ring.intCast_natCast n).trans (Semiring.natCast_eq_ofNat n)]) (by show (Ring.intCast.intCast ((n : Nat) : Int) : R) * x.v + 0 * x.u = (OfNat.ofNat n : R) * x.v + 0 * x.u; rw [show (Ring.intCast.intCast ((n : Nat) : Int) : R) = OfNat.ofNat n from (Ring.intCast_natCast n).trans (Semiring.natCast_eq_ofNat n)])
  intCast_ofNat n := Ext.ext' (Ring.intCast_ofNat n) rfl
  intCast_neg i := Ext.ext' (Ring.intCast_neg i) (by show (0 : R) = -0; grind)
  mul_comm x y := Ext.ext' (by simp only [mul_u]; grind) (by simp only [mul_v]; grind)
end

section
variable {R : Type} [CommRing R] [LE R] [LT R] [Std.LawfulOrderLT R] [Std.IsLinearPreorder R] [OrderedRing R] [MulNN R]
/-- u and v times the root of e are not below 0 -/
def NN (e u v : R) : Prop := (0 ≤ u ∧ v * v * e ≤ u * u) ∨ (0 ≤ v ∧ u * u ≤ v * v * e)
variable {e u v p q : R}
theorem sqe_nn (he : 0 ≤ e) (v : R) : 0 ≤ v * v * e := nn (sq_nn v) he
/-- a root of a product of two that are not above -/
theorem pair_le {a b c d : R} (ha : 0 ≤ a) (hc : 0 ≤ c) (hbd : 0 ≤ b) (h1 : a ≤ b) (h2 : c ≤ d) : a * c ≤ b * d := by
  have k1 := le_mul hc h1
  have k2 := le_mul hbd h2
  first | grind | exact le_by fun _ => by grind | exact lt_by fun _ => by grind
theorem cross1 (he : 0 ≤ e) (hu : 0 ≤ u) (hp : 0 ≤ p) (h1 : v * v * e ≤ u * u) (h2 : q * q * e ≤ p * p) : v * q * e ≤ u * p := by
  refine root_le (nn hu hp) ?_
  have := pair_le (sqe_nn he v) (sqe_nn he q) (sq_nn u) h1 h2
  first | grind | exact le_by fun _ => by grind | exact lt_by fun _ => by grind
theorem cross2 (he : 0 ≤ e) (hv : 0 ≤ v) (hq : 0 ≤ q) (h1 : u * u ≤ v * v * e) (h2 : p * p ≤ q * q * e) : u * p ≤ v * q * e := by
  refine root_le (nn (nn hv hq) he) ?_
  have := pair_le (sq_nn u) (sq_nn p) (sqe_nn he v) h1 h2
  first | grind | exact le_by fun _ => by grind | exact lt_by fun _ => by grind
theorem cross3 (he : 0 < e) (hu : 0 ≤ u) (hq : 0 ≤ q) (h1 : v * v * e ≤ u * u) (h2 : p * p ≤ q * q * e) : v * p ≤ u * q := by
  refine root_le (nn hu hq) (cancel_le he ?_)
  have := pair_le (sqe_nn (Std.le_of_lt he) v) (sq_nn p) (sq_nn u) h1 h2
  first | grind | exact le_by fun _ => by grind | exact lt_by fun _ => by grind
/-- where e is null only u counts -/
theorem NN.null (he : 0 ≤ e) (h0 : e ≤ 0) : NN e u v ↔ 0 ≤ u := by
  have k1 := sqe_nn he v
  have k2 : v * v * e ≤ 0 := by
    have := nn (sq_nn v) (show 0 ≤ -e from le_by fun _ => by grind)
    first | grind | exact le_by fun _ => by grind | exact lt_by fun _ => by grind
  have k3 := sq_nn u
  constructor
  · rintro (⟨h, _⟩ | ⟨_, h⟩)
    · exact h
    · rcases tot 0 u with z | z
      · exact z
      · have := pp (show 0 < -u from lt_by fun _ => by grind) (show 0 < -u from lt_by fun _ => by grind)
        first | grind | exact le_by fun _ => by grind | exact lt_by fun _ => by grind
  · intro h
    exact .inl ⟨h, le_by fun _ => by grind⟩
theorem NN.add (he : 0 ≤ e) (h1 : NN e u v) (h2 : NN e p q) : NN e (u + p) (v + q) := by
  rcases tot e 0 with h0 | h0
  · rw [NN.null he h0] at h1 h2 ⊢
    first | grind | exact le_by fun _ => by grind | exact lt_by fun _ => by grind
  have mixed : ∀ {u v p q : R}, 0 ≤ u → v * v * e ≤ u * u → 0 ≤ q → p * p ≤ q * q * e → NN e (u + p) (v + q) := by
    intro u v p q a1 a2 a3 a4
    have c1 := cross3 h0 a1 a3 a2 a4
    have c2 := cross3 (v := -v) h0 a1 a3 (le_by fun _ => by grind) a4
    rcases tot ((v + q) * (v + q) * e) ((u + p) * (u + p)) with t | t
    · rcases tot 0 (u + p) with s | s
      · exact .inl ⟨s, t⟩
      · -- p < -u: then q is above both v and -v
        have w1 : u * u < p * p := by
          have := pp (show 0 < -(u + p) from lt_by fun _ => by grind) (show 0 < u - p from lt_by fun _ => by grind)
          first | grind | exact le_by fun _ => by grind | exact lt_by fun _ => by grind
        have w2 : v * v * e < q * q * e := lt_by fun _ => by grind
        have w3 : v * v < q * q := nle fun z => by
          have := le_mul he z
          first | grind | exact le_by fun _ => by grind | exact lt_by fun _ => by grind
        have w4 : -v ≤ q := root_le a3 (le_by fun _ => by grind)
        have w5 : v ≤ q := root_le a3 (le_by fun _ => by grind)
        have q0 : 0 < q := nle fun z => by
          have := sq_le (a := -q) (b := 0) (le_by fun _ => by grind) (le_by fun _ => by grind)
          have := sq_nn v
          first | grind | exact le_by fun _ => by grind | exact lt_by fun _ => by grind
        -- (-(u + p)) q <= (-p) (q + v)
        have x1 : -(u + p) * q ≤ -p * (q + v) := le_by fun _ => by grind
        have x2 := sq_le (nn (show 0 ≤ -(u + p) from le_by fun _ => by grind) a3) x1
        have x3 := le_mul (sq_nn (q + v)) a4
        have x4 : (u + p) * (u + p) ≤ (v + q) * (v + q) * e := cancel_le (pp q0 q0) (le_by fun _ => by grind)
        exact .inr ⟨le_by fun _ => by grind, x4⟩
    · rcases tot 0 (v + q) with s | s
      · exact .inr ⟨s, le_by fun _ => by grind⟩
      · have w1 : q * q < v * v := by
          have := pp (show 0 < -(v + q) from lt_by fun _ => by grind) (show 0 < q - v from lt_by fun _ => by grind)
          first | grind | exact le_by fun _ => by grind | exact lt_by fun _ => by grind
        have w2 : q * q * e < v * v * e := by
          have := pp (show 0 < v * v - q * q from lt_by fun _ => by grind) h0
          first | grind | exact le_by fun _ => by grind | exact lt_by fun _ => by grind
        have w3 : p * p < u * u := lt_by fun _ => by grind
        have w4 : -p ≤ u := root_le a1 (le_by fun _ => by grind)
        have u0 : 0 < u := nle fun z => by
          have := sq_le (a := -u) (b := 0) (le_by fun _ => by grind) (le_by fun _ => by grind)
          have := sq_nn p
          first | grind | exact le_by fun _ => by grind | exact lt_by fun _ => by grind
        have x1 : -(v + q) * u ≤ -v * (u + p) := le_by fun _ => by grind
        have x2 := sq_le (nn (show 0 ≤ -(v + q) from le_by fun _ => by grind) a1) x1
        have x3 := le_mul (sq_nn (u + p)) a2
        have x4 := le_mul he x2
        have x5 : (v + q) * (v + q) * e ≤ (u + p) * (u + p) := cancel_le (pp u0 u0) (le_by fun _ => by grind)
        exact .inl ⟨le_by fun _ => by grind, x5⟩
  rcases h1 with ⟨a1, a2⟩ | ⟨a1, a2⟩ <;> rcases h2 with ⟨b1, b2⟩ | ⟨b1, b2⟩
  · have := cross1 he a1 b1 a2 b2
    exact .inl ⟨le_by fun _ => by grind, le_by fun _ => by grind⟩
  · exact mixed a1 a2 b1 b2
  · have := mixed b1 b2 a1 a2
    have e1 : p + u = u + p := by grind
    have e2 : q + v = v + q := by grind
    rw [e1, e2] at this
    exact this
  · have := cross2 he a1 b1 a2 b2
    exact .inr ⟨le_by fun _ => by grind, le_by fun _ => by grind⟩
theorem NN.mul (he : 0 ≤ e) (h1 : NN e u v) (h2 : NN e p q) : NN e (u * p + v * q * e) (u * q + v * p) := by
  rcases tot e 0 with h0 | h0
  · rw [NN.null he h0] at h1 h2 ⊢
    have := nn h1 h2
    have k : ∀ z : R, 0 ≤ z * e := fun z => by
      rcases tot 0 z with s | s
      · exact nn s he
      · have := nn (show 0 ≤ -z from le_by fun _ => by grind) (show 0 ≤ -e from le_by fun _ => by grind)
        first | grind | exact le_by fun _ => by grind | exact lt_by fun _ => by grind
    have := k (v * q)
    first | grind | exact le_by fun _ => by grind | exact lt_by fun _ => by grind
  have mixed : ∀ {u v p q : R}, 0 ≤ u → v * v * e ≤ u * u → 0 ≤ q → p * p ≤ q * q * e → NN e (u * p + v * q * e) (u * q + v * p) := by
    intro u v p q a1 a2 a3 a4
    have c2 := cross3 (v := -v) h0 a1 a3 (le_by fun _ => by grind) a4
    have := nn (show 0 ≤ u * u - v * v * e from le_by fun _ => by grind) (show 0 ≤ q * q * e - p * p from le_by fun _ => by grind)
    exact .inr ⟨le_by fun _ => by grind, le_by fun _ => by grind⟩
  rcases h1 with ⟨a1, a2⟩ | ⟨a1, a2⟩ <;> rcases h2 with ⟨b1, b2⟩ | ⟨b1, b2⟩
  · have c := cross1 (v := -v) he a1 b1 (le_by fun _ => by grind) b2
    have := nn (show 0 ≤ u * u - v * v * e from le_by fun _ => by grind) (show 0 ≤ p * p - q * q * e from le_by fun _ => by grind)
    exact .inl ⟨le_by fun _ => by grind, le_by fun _ => by grind⟩
  · exact mixed a1 a2 b1 b2
  · have := mixed b1 b2 a1 a2
    have e1 : p * u + q * v * e = u * p + v * q * e := by grind
    have e2 : p * v + q * u = u * q + v * p := by grind
    rw [e1, e2] at this
    exact this
  · have c := cross2 (u := -u) he a1 b1 (le_by fun _ => by grind) b2
    have := nn (show 0 ≤ v * v * e - u * u from le_by fun _ => by grind) (show 0 ≤ q * q * e - p * p from le_by fun _ => by grind)
    exact .inl ⟨le_by fun _ => by grind, le_by fun _ => by grind⟩
theorem NN.tot (u v : R) : NN e u v ∨ NN e (-u) (-v) := by
  rcases Tw.tot (v * v * e) (u * u) with t | t
  · rcases Tw.tot 0 u with s | s
    · exact .inl (.inl ⟨s, t⟩)
    · exact .inr (.inl ⟨le_by fun _ => by grind, le_by fun _ => by grind⟩)
  · rcases Tw.tot 0 v with s | s
    · exact .inl (.inr ⟨s, le_by fun _ => by grind⟩)
    · exact .inr (.inr ⟨le_by fun _ => by grind, le_by fun _ => by grind⟩)
theorem root_lt {a b : R} (hb : 0 ≤ b) (h : a * a < b * b) : a < b := lt_by fun z => by
  have := sq_le hb z
  grind
theorem lt_mul {a b c : R} (hc : 0 < c) (h : a < b) : c * a < c * b := OrderedRing.mul_lt_mul_of_pos_left h hc
/-- above 0 -/
def SP (e u v : R) : Prop := (0 < u ∧ v * v * e < u * u) ∨ (0 < v ∧ u * u < v * v * e) ∨ (0 < u ∧ 0 < v)
theorem SP.iff : SP e u v ↔ ¬ NN e (-u) (-v) := by
  constructor
  · rintro (⟨a, b⟩ | ⟨a, b⟩ | ⟨a, b⟩) (⟨c, d⟩ | ⟨c, d⟩) <;> grind
  · intro h
    have h1 : ¬ (0 ≤ -u ∧ -v * -v * e ≤ -u * -u) := fun z => h (.inl z)
    have h2 : ¬ (0 ≤ -v ∧ -u * -u ≤ -v * -v * e) := fun z => h (.inr z)
    rcases tot u 0 with a | a
    · have b : u * u < v * v * e := lt_by fun z => h1 ⟨le_by fun _ => by grind, le_by fun _ => by grind⟩
      rcases tot v 0 with c | c
      · exact absurd ⟨le_by fun _ => by grind, le_by fun _ => by grind⟩ h2
      · exact .inr (.inl ⟨c, b⟩)
    · rcases tot v 0 with c | c
      · exact .inl ⟨a, lt_by fun z => h2 ⟨le_by fun _ => by grind, le_by fun _ => by grind⟩⟩
      · exact .inr (.inr ⟨a, c⟩)
/-- the sharp products -/
theorem sharp1 (he : 0 ≤ e) (hu : 0 < u) (hp : 0 < p) (h1 : v * v * e ≤ u * u) (h2 : q * q * e < p * p) : v * q * e < u * p := by
  refine root_lt (Std.le_of_lt (pp hu hp)) ?_
  have k1 := le_mul (sqe_nn he q) h1
  have k2 := lt_mul (pp hu hu) h2
  exact lt_by fun _ => by grind
theorem sharp2 (he : 0 ≤ e) (hv : 0 < v) (hq : 0 < q) (h0 : 0 < v * v * e) (h1 : u * u ≤ v * v * e) (h2 : p * p < q * q * e) : u * p < v * q * e := by
  refine root_lt (nn (Std.le_of_lt (pp hv hq)) he) ?_
  have k1 := le_mul (sq_nn p) h1
  have k2 := lt_mul h0 h2
  exact lt_by fun _ => by grind
theorem epos (he : 0 ≤ e) (h : 0 < v * v * e) : 0 < e := lt_by fun z => by
  have := nn (sq_nn v) (show 0 ≤ -e from le_by fun _ => by grind)
  grind
theorem sharp3 (he : 0 < e) (hu : 0 < u) (hq : 0 < q) (h1 : v * v * e ≤ u * u) (h2 : p * p < q * q * e) : v * p < u * q := by
  refine root_lt (Std.le_of_lt (pp hu hq)) (lt_by fun z => ?_)
  have k0 := le_mul (Std.le_of_lt he) z
  have k1 := le_mul (sq_nn p) h1
  have k2 := lt_mul (pp hu hu) h2
  grind
theorem sharp4 (he : 0 < e) (hu : 0 < u) (hq : 0 < q) (h1 : v * v * e < u * u) (h2 : p * p ≤ q * q * e) : v * p < u * q := by
  refine root_lt (Std.le_of_lt (pp hu hq)) (lt_by fun z => ?_)
  have k0 := le_mul (Std.le_of_lt he) z
  have k1 := le_mul (sq_nn v) (le_mul (Std.le_of_lt he) h2)
  have k2 := lt_mul (pp (pp hq hq) he) h1
  grind
theorem SP.mul (he : 0 ≤ e) (h1 : SP e u v) (h2 : SP e p q) : SP e (u * p + v * q * e) (u * q + v * p) := by
  have AA : ∀ {u v p q : R}, 0 < u → v * v * e < u * u → 0 < p → q * q * e < p * p → SP e (u * p + v * q * e) (u * q + v * p) := by
    intro u v p q a1 a2 b1 b2
    have c := sharp1 (v := -v) he a1 b1 (le_by fun _ => by grind) b2
    have := pp (show 0 < u * u - v * v * e from lt_by fun _ => by grind) (show 0 < p * p - q * q * e from lt_by fun _ => by grind)
    exact .inl ⟨lt_by fun _ => by grind, lt_by fun _ => by grind⟩
  have BB : ∀ {u v p q : R}, 0 < v → u * u < v * v * e → 0 < q → p * p < q * q * e → SP e (u * p + v * q * e) (u * q + v * p) := by
    intro u v p q a1 a2 b1 b2
    have := sq_nn u
    have c := sharp2 (u := -u) he a1 b1 (lt_by fun _ => by grind) (le_by fun _ => by grind) b2
    have := pp (show 0 < v * v * e - u * u from lt_by fun _ => by grind) (show 0 < q * q * e - p * p from lt_by fun _ => by grind)
    exact .inl ⟨lt_by fun _ => by grind, lt_by fun _ => by grind⟩
  have AB : ∀ {u v p q : R}, 0 < u → v * v * e < u * u → 0 < q → p * p < q * q * e → SP e (u * p + v * q * e) (u * q + v * p) := by
    intro u v p q a1 a2 b1 b2
    have := sq_nn p
    have e0 : 0 < e := epos (v := q) he (lt_by fun _ => by grind)
    have c := sharp3 (v := -v) e0 a1 b1 (le_by fun _ => by grind) b2
    have := pp (show 0 < u * u - v * v * e from lt_by fun _ => by grind) (show 0 < q * q * e - p * p from lt_by fun _ => by grind)
    exact .inr (.inl ⟨lt_by fun _ => by grind, lt_by fun _ => by grind⟩)
  have CA : ∀ {u v p q : R}, 0 < u → 0 < v → v * v * e ≤ u * u → u * u ≤ v * v * e → 0 < p → q * q * e < p * p → SP e (u * p + v * q * e) (u * q + v * p) := by
    intro u v p q a1 a2 a3 a4 b1 b2
    have := pp a1 a1
    have e0 : 0 < e := epos (v := v) he (lt_by fun _ => by grind)
    have c := sharp1 (v := -v) he a1 b1 (le_by fun _ => by grind) b2
    have d := sharp4 (u := p) (v := -q) (p := u) (q := v) e0 b1 a2 (lt_by fun _ => by grind) a4
    exact .inr (.inr ⟨lt_by fun _ => by grind, lt_by fun _ => by grind⟩)
  have CB : ∀ {u v p q : R}, 0 < u → 0 < v → v * v * e ≤ u * u → u * u ≤ v * v * e → 0 < q → p * p < q * q * e → SP e (u * p + v * q * e) (u * q + v * p) := by
    intro u v p q a1 a2 a3 a4 b1 b2
    have := pp a1 a1
    have e0 : 0 < e := epos (v := v) he (lt_by fun _ => by grind)
    have c := sharp2 (u := -u) he a2 b1 (lt_by fun _ => by grind) (le_by fun _ => by grind) b2
    have d := sharp3 (v := -v) e0 a1 b1 (le_by fun _ => by grind) b2
    exact .inr (.inr ⟨lt_by fun _ => by grind, lt_by fun _ => by grind⟩)
  have swap : SP e (p * u + q * v * e) (p * v + q * u) → SP e (u * p + v * q * e) (u * q + v * p) := by
    intro h
    have e1 : p * u + q * v * e = u * p + v * q * e := by grind
    have e2 : p * v + q * u = u * q + v * p := by grind
    rw [e1, e2] at h
    exact h
  -- the third kind, where it is none of the others
  have K : ∀ {u v : R}, SP e u v → (0 < u ∧ v * v * e < u * u) ∨ (0 < v ∧ u * u < v * v * e) ∨ (0 < u ∧ 0 < v ∧ v * v * e ≤ u * u ∧ u * u ≤ v * v * e) := by
    rintro u v (h | h | ⟨a, b⟩)
    · exact .inl h
    · exact .inr (.inl h)
    · rcases tot (v * v * e) (u * u) with c | c
      · rcases tot (u * u) (v * v * e) with d | d
        · exact .inr (.inr ⟨a, b, c, d⟩)
        · exact .inl ⟨a, d⟩
      · exact .inr (.inl ⟨b, c⟩)
  rcases K h1 with ⟨a1, a2⟩ | ⟨a1, a2⟩ | ⟨a1, a2, a3, a4⟩ <;> rcases K h2 with ⟨b1, b2⟩ | ⟨b1, b2⟩ | ⟨b1, b2, b3, b4⟩
  · exact AA a1 a2 b1 b2
  · exact AB a1 a2 b1 b2
  · exact swap (CA b1 b2 b3 b4 a1 a2)
  · exact swap (AB b1 b2 a1 a2)
  · exact BB a1 a2 b1 b2
  · exact swap (CB b1 b2 b3 b4 a1 a2)
  · exact CA a1 a2 a3 a4 b1 b2
  · exact CB a1 a2 a3 a4 b1 b2
  · have k1 := pp a1 b1
    have k2 := nn (Std.le_of_lt (pp a2 b2)) he
    have k3 := pp a1 b2
    have k4 := pp a2 b1
    exact .inr (.inr ⟨lt_by fun _ => by grind, lt_by fun _ => by grind⟩)
end
/-- e is not below 0 -/
class Nng {R : Type} [CommRing R] [LE R] (e : R) : Prop where
  nn : 0 ≤ e
section
variable {R : Type} [CommRing R] [LE R] [LT R] [Std.LawfulOrderLT R] [Std.IsLinearPreorder R] [OrderedRing R] [MulNN R] {e : R} [Nng e]
instance : LE (Ext R e) := ⟨fun x y => NN e (y.u - x.u) (y.v - x.v)⟩
instance : LT (Ext R e) := ⟨fun x y => NN e (y.u - x.u) (y.v - x.v) ∧ ¬ NN e (x.u - y.u) (x.v - y.v)⟩
theorem le_def {x y : Ext R e} : x ≤ y ↔ NN e (y.u - x.u) (y.v - x.v) := Iff.rfl
theorem lt_def {x y : Ext R e} : x < y ↔ NN e (y.u - x.u) (y.v - x.v) ∧ ¬ NN e (x.u - y.u) (x.v - y.v) := Iff.rfl
theorem NN.cg {e u v p q : R} (h : NN e u v) (h1 : u = p) (h2 : v = q) : NN e p q := h1 ▸ h2 ▸ h
theorem NN.zero : NN e 0 0 := .inl ⟨le_by fun _ => by grind, le_by fun _ => by grind⟩
instance : Std.LawfulOrderLT (Ext R e) := ⟨fun _ _ => Iff.rfl⟩
instance : Std.IsLinearPreorder (Ext R e) where
  le_refl x := le_def.mpr (NN.zero.cg (by grind) (by grind))
  le_trans x y z h1 h2 := le_def.mpr ((NN.add Nng.nn (le_def.mp h1) (le_def.mp h2)).cg (by grind) (by grind))
  le_total x y := (NN.tot (e := e) (y.u - x.u) (y.v - x.v)).elim .inl fun h => .inr (le_def.mpr (h.cg (by grind) (by grind)))
theorem lt_sp {x y : Ext R e} : x < y ↔ SP e (y.u - x.u) (y.v - x.v) := by
  have e1 : -(y.u - x.u) = x.u - y.u := by grind
  have e2 : -(y.v - x.v) = x.v - y.v := by grind
  rw [lt_def, SP.iff, e1, e2]
  refine ⟨fun h => h.2, fun h => ⟨?_, h⟩⟩
  rcases NN.tot (e := e) (y.u - x.u) (y.v - x.v) with k | k
  · exact k
  · rw [e1, e2] at k
    exact absurd k h
instance : OrderedRing (Ext R e) where
  add_le_left_iff {a b} c := by
    rw [le_def, le_def, add_u, add_u, add_v, add_v]
    exact ⟨fun h => h.cg (by grind) (by grind), fun h => h.cg (by grind) (by grind)⟩
  zero_lt_one := by
    have := one_pos (R := R)
    rw [lt_sp, one_u, one_v, zero_u, zero_v]
    exact .inl ⟨lt_by fun _ => by grind, lt_by fun _ => by grind⟩
  mul_lt_mul_of_pos_left {a b c} h hc := by
    rw [lt_sp] at h hc ⊢
    have := SP.mul Nng.nn hc h
    rw [zero_u, zero_v] at this
    have e1 : (c.u - 0) * (b.u - a.u) + (c.v - 0) * (b.v - a.v) * e = (c * b).u - (c * a).u := by rw [mul_u, mul_u]; grind
    have e2 : (c.u - 0) * (b.v - a.v) + (c.v - 0) * (b.u - a.u) = (c * b).v - (c * a).v := by rw [mul_v, mul_v]; grind
    rw [e1, e2] at this
    exact this
  mul_lt_mul_of_pos_right {a b c} h hc := by
    rw [lt_sp] at h hc ⊢
    have := SP.mul Nng.nn hc h
    rw [zero_u, zero_v] at this
    have e1 : (c.u - 0) * (b.u - a.u) + (c.v - 0) * (b.v - a.v) * e = (b * c).u - (a * c).u := by rw [mul_u, mul_u]; grind
    have e2 : (c.u - 0) * (b.v - a.v) + (c.v - 0) * (b.u - a.u) = (b * c).v - (a * c).v := by rw [mul_v, mul_v]; grind
    rw [e1, e2] at this
    exact this
instance : MulNN (Ext R e) where
  mul_nn {a b} h1 h2 := by
    rw [le_def] at h1 h2 ⊢
    rw [zero_u, zero_v] at h1 h2 ⊢
    rw [mul_u, mul_v]
    exact (NN.mul Nng.nn h1 h2).cg (by grind) (by grind)
instance {f : R} [Nng f] : Nng (⟨f, 0⟩ : Ext R e) where
  nn := by
    have := Nng.nn (e := f)
    have := sq_nn f
    rw [le_def, zero_u, zero_v]
    exact .inl ⟨le_by fun _ => by grind, le_by fun _ => by grind⟩
end
instance : MulNN Int := ⟨Int.mul_nonneg⟩
instance (n : Nat) : Nng (n : Int) := ⟨Int.natCast_nonneg n⟩
end Tw

namespace Tw
open Lean.Grind
set_option linter.unusedSectionVars false
section
variable {S : Type} [CommRing S] [LE S] [LT S] [Std.LawfulOrderLT S] [Std.IsLinearPreorder S] [OrderedRing S] [MulNN S]
/-- the whole numbers -/
def io (n : Int) : S := Ring.intCast.intCast n
theorem io_add (a b : Int) : (io (a + b) : S) = io a + io b := Ring.intCast_add a b
theorem io_sub (a b : Int) : (io (a - b) : S) = io a - io b := Ring.intCast_sub a b
theorem io_mul (a b : Int) : (io (a * b) : S) = io a * io b := Ring.intCast_mul a b
theorem io_neg (a : Int) : (io (-a) : S) = -io a := Ring.intCast_neg a
theorem io_zero : (io 0 : S) = 0 := Ring.intCast_zero
theorem io_one : (io 1 : S) = 1 := Ring.intCast_one
theorem io_pos {a : Int} (h : 0 < a) : (0 : S) < io a := OrderedRing.pos_intCast_of_pos a h
theorem io_below {a : Int} (h : a < 0) : (io a : S) < 0 := OrderedRing.neg_intCast_of_neg a h
/-- s is the sign of z -/
def Is (z : S) (s : Int) : Prop := (s = 1 ∧ 0 < z) ∨ (s = 0 ∧ 0 ≤ z ∧ z ≤ 0) ∨ (s = -1 ∧ z < 0)
theorem Is.cg {z y : S} {s : Int} (h : Is z s) (e : z = y) : Is y s := e ▸ h
theorem Is.neg {z : S} {s : Int} (h : Is z s) : Is (-z) (-s) := by
  rcases h with ⟨rfl, a⟩ | ⟨rfl, a, b⟩ | ⟨rfl, a⟩
  · exact .inr (.inr ⟨rfl, lt_by fun _ => by grind⟩)
  · exact .inr (.inl ⟨rfl, le_by fun _ => by grind, le_by fun _ => by grind⟩)
  · exact .inl ⟨rfl, lt_by fun _ => by grind⟩
theorem Is.uniq {z : S} {s t : Int} (h : Is z s) (k : Is z t) : s = t := by
  rcases h with ⟨rfl, a⟩ | ⟨rfl, a, b⟩ | ⟨rfl, a⟩ <;> rcases k with ⟨rfl, c⟩ | ⟨rfl, c, d⟩ | ⟨rfl, c⟩ <;> grind
theorem Is.nn {z : S} {s : Int} (h : Is z s) : 0 ≤ s ↔ 0 ≤ z := by
  rcases h with ⟨rfl, a⟩ | ⟨rfl, a, b⟩ | ⟨rfl, a⟩
  · exact ⟨fun _ => le_by fun _ => by grind, fun _ => by decide⟩
  · exact ⟨fun _ => a, fun _ => by decide⟩
  · exact ⟨fun z => absurd z (by decide), fun _ => by grind⟩
theorem is_io (n : Int) : Is (io n : S) (Sy38.sgn n) := by
  unfold Sy38.sgn
  split
  · exact .inr (.inr ⟨rfl, io_below (by assumption)⟩)
  · split
    · subst n
      rw [io_zero]
      exact .inr (.inl ⟨rfl, le_by fun _ => by grind, le_by fun _ => by grind⟩)
    · exact .inl ⟨rfl, io_pos (by omega)⟩
/-- a product by what is above 0 keeps the sign -/
theorem Is.up {z c : S} {s : Int} (hc : 0 < c) (h : Is (c * z) s) : Is z s := by
  rcases h with ⟨rfl, a⟩ | ⟨rfl, a, b⟩ | ⟨rfl, a⟩
  · refine .inl ⟨rfl, lt_by fun k => ?_⟩
    have := Tw.nn (Std.le_of_lt hc) (show 0 ≤ -z from le_by fun _ => by grind)
    grind
  · refine .inr (.inl ⟨rfl, cancel hc a, ?_⟩)
    have := cancel (b := -z) hc (le_by fun _ => by grind)
    exact le_by fun _ => by grind
  · refine .inr (.inr ⟨rfl, lt_by fun k => ?_⟩)
    have := Tw.nn (Std.le_of_lt hc) k
    grind
/-- the sign of U and V times a root, as the specification reckons it -/
def mix (x y n : Int) : Int := if x = 0 then y else if y = 0 then x else if x = y then x else x * n
theorem is_mix {U V r e : S} {x y n : Int} (hr : 0 ≤ r) (hre : r * r = e) (hx : Is U x) (hy : Is (V * r) y) (hn : Is (U * U - V * V * e) n) : Is (U + V * r) (mix x y n) := by
  subst hre
  unfold mix
  have key : (U + V * r) * (U - V * r) = U * U - V * V * (r * r) := by grind
  rcases hx with ⟨rfl, a⟩ | ⟨rfl, a, b⟩ | ⟨rfl, a⟩ <;> rcases hy with ⟨rfl, c⟩ | ⟨rfl, c, d⟩ | ⟨rfl, c⟩
  · exact .inl ⟨by simp, lt_by fun _ => by grind⟩
  · exact .inl ⟨by simp, lt_by fun _ => by grind⟩
  · rw [if_neg (by decide), if_neg (by decide), if_neg (by decide), Int.one_mul]
    exact Is.up (c := U - V * r) (lt_by fun _ => by grind) (hn.cg (by grind))
  · exact .inl ⟨by simp, lt_by fun _ => by grind⟩
  · exact .inr (.inl ⟨by simp, le_by fun _ => by grind, le_by fun _ => by grind⟩)
  · exact .inr (.inr ⟨by simp, lt_by fun _ => by grind⟩)
  · rw [if_neg (by decide), if_neg (by decide), if_neg (by decide)]
    have e1 : (-1 : Int) * n = -n := by omega
    rw [e1]
    exact Is.up (c := -(U - V * r)) (lt_by fun _ => by grind) (hn.neg.cg (by grind))
  · exact .inr (.inr ⟨by simp, lt_by fun _ => by grind⟩)
  · exact .inr (.inr ⟨by simp, lt_by fun _ => by grind⟩)
/-- what a root times a number has for a sign -/
theorem is_root {r : S} {a : Nat} (hr : 0 ≤ r) (hre : r * r = io (a : Int)) (v : Int) : Is (io v * r) (if a = 0 then 0 else Sy38.sgn v) := by
  split
  · subst a
    have h0 : r * r = 0 := hre.trans io_zero
    have r0 : r ≤ 0 := nlt fun z => by
      have := pp z z
      grind
    have k : ∀ z : S, 0 ≤ z * r := fun z => by
      rcases tot 0 z with s | s
      · exact Tw.nn s hr
      · have := Tw.nn (show 0 ≤ -z from le_by fun _ => by grind) (show 0 ≤ -r from le_by fun _ => by grind)
        exact le_by fun _ => by grind
    have k1 := k (io v)
    have k2 := k (-io v)
    exact .inr (.inl ⟨rfl, k1, le_by fun _ => by grind⟩)
  · have ha : (0 : S) < io (a : Int) := io_pos (by omega)
    have r0 : 0 < r := lt_by fun z => by
      have := sq_le (a := -r) (b := 0) (le_by fun _ => by grind) (le_by fun _ => by grind)
      grind
    have h := is_io (S := S) v
    refine Is.up (c := r) r0 ?_
    rcases h with ⟨e, a⟩ | ⟨e, a, b⟩ | ⟨e, a⟩
    · refine .inl ⟨e, ?_⟩
      have := pp a (pp r0 r0)
      exact lt_by fun _ => by grind
    · have k1 := Tw.nn a (Std.le_of_lt (pp r0 r0))
      have k2 := Tw.nn (show 0 ≤ -(io v : S) from le_by fun _ => by grind) (Std.le_of_lt (pp r0 r0))
      exact .inr (.inl ⟨e, le_by fun _ => by grind, le_by fun _ => by grind⟩)
    · refine .inr (.inr ⟨e, ?_⟩)
      have := pp (show 0 < -(io v : S) from lt_by fun _ => by grind) (pp r0 r0)
      exact lt_by fun _ => by grind
theorem sign1_mix (u v : Int) (a : Nat) : Sy38.sign1 u v a = mix (Sy38.sgn u) (if a = 0 then 0 else Sy38.sgn v) (Sy38.sgn (u * u - v * v * (a : Int))) := rfl
theorem sign2_mix (u v w : Int) (a b : Nat) : Sy38.sign2 u v w a b = mix (Sy38.sign1 u v a) (if b = 0 then 0 else Sy38.sgn w) (Sy38.sign1 (u * u + v * v * (a : Int) - w * w * (b : Int)) (2 * (u * v)) a) := rfl
variable {r t : S} {a b : Nat}
theorem is_sign1 (hr : 0 ≤ r) (hre : r * r = io (a : Int)) (u v : Int) : Is (io u + io v * r) (Sy38.sign1 u v a) := by
  rw [sign1_mix]
  refine is_mix hr hre (is_io u) (is_root hr hre v) ((is_io (S := S) (u * u - v * v * (a : Int))).cg ?_)
  rw [io_sub, io_mul, io_mul, io_mul]
theorem is_sign2 (hr : 0 ≤ r) (hre : r * r = io (a : Int)) (ht : 0 ≤ t) (hte : t * t = io (b : Int)) (u v w : Int) : Is (io u + io v * r + io w * t) (Sy38.sign2 u v w a b) := by
  rw [sign2_mix]
  refine is_mix ht hte (is_sign1 hr hre u v) (is_root ht hte w) ((is_sign1 hr hre (u * u + v * v * (a : Int) - w * w * (b : Int)) (2 * (u * v))).cg ?_)
  have e2 : (2 : Int) = 1 + 1 := rfl
  rw [io_sub, io_add, io_mul, io_mul, io_mul, io_mul, io_mul, io_mul, io_mul, e2, io_add, io_one, ← hre]
  grind
/-- the value of an instant, its root given, by its divisor -/
def val (r : S) (x : Sy38.Inst) : S := io x.p + io x.s * r
theorem is_compare {x y : Sy38.Inst} (hr : 0 ≤ r) (hre : r * r = io (x.d : Int)) (ht : 0 ≤ t) (hte : t * t = io (y.d : Int)) :
    Is (val r x * io (y.q : Int) - val t y * io (x.q : Int)) (Sy38.compare x y) := by
  unfold Sy38.compare val
  refine (is_sign2 hr hre ht hte _ _ _).cg ?_
  rw [io_sub, io_mul, io_mul, io_mul, io_neg, io_mul]
  grind
theorem flip_in {x y : Sy38.Inst} (hr : 0 ≤ r) (hre : r * r = io (x.d : Int)) (ht : 0 ≤ t) (hte : t * t = io (y.d : Int)) : Sy38.compare y x = -Sy38.compare x y := by
  have h := is_compare hr hre ht hte
  have k := is_compare ht hte hr hre
  exact k.uniq (h.neg.cg (by grind))
theorem trans_in {o : S} {x y z : Sy38.Inst} (hr : 0 ≤ r) (hre : r * r = io (x.d : Int)) (ht : 0 ≤ t) (hte : t * t = io (y.d : Int)) (ho : 0 ≤ o) (hoe : o * o = io (z.d : Int))
    (hx : 0 < x.q) (hy : 0 < y.q) (hz : 0 < z.q) (h1 : Sy38.compare x y ≤ 0) (h2 : Sy38.compare y z ≤ 0) : Sy38.compare x z ≤ 0 ∧ (Sy38.compare x z = 0 → Sy38.compare x y = 0 ∧ Sy38.compare y z = 0) := by
  have k1 := is_compare hr hre ht hte
  have k2 := is_compare ht hte ho hoe
  have k3 := is_compare hr hre ho hoe
  have px : (0 : S) < io (x.q : Int) := io_pos (by omega)
  have py : (0 : S) < io (y.q : Int) := io_pos (by omega)
  have pz : (0 : S) < io (z.q : Int) := io_pos (by omega)
  generalize (io (x.q : Int) : S) = X at *
  generalize (io (y.q : Int) : S) = Y at *
  generalize (io (z.q : Int) : S) = Z at *
  generalize val r x = A at *
  generalize val t y = B at *
  generalize val o z = C at *
  have n1 : 0 ≤ -(A * Y - B * X) := k1.neg.nn.mp (by omega)
  have n2 : 0 ≤ -(B * Z - C * Y) := k2.neg.nn.mp (by omega)
  have m1 := Tw.nn (Std.le_of_lt pz) n1
  have m2 := Tw.nn (Std.le_of_lt px) n2
  have m3 : 0 ≤ -(A * Z - C * X) := cancel py (le_by fun _ => by grind)
  have m4 := k3.neg.nn.mpr m3
  refine ⟨by omega, fun h0 => ?_⟩
  have z0 : 0 ≤ A * Z - C * X := k3.nn.mp (by omega)
  have z1 := Tw.nn (Std.le_of_lt py) z0
  have z2 : 0 ≤ A * Y - B * X := cancel pz (le_by fun _ => by grind)
  have z3 : 0 ≤ B * Z - C * Y := cancel px (le_by fun _ => by grind)
  have z4 := k1.nn.mpr z2
  have z5 := k2.nn.mpr z3
  exact ⟨by omega, by omega⟩
end
set_option synthInstance.maxHeartbeats 400000
set_option synthInstance.maxSize 1000
/-- three roots at once -/
abbrev L1 (a : Nat) := Ext Int (a : Int)
abbrev L2 (a b : Nat) := Ext (L1 a) (⟨(b : Int), 0⟩ : L1 a)
abbrev L3 (a b c : Nat) := Ext (L2 a b) (⟨⟨(c : Int), 0⟩, 0⟩ : L2 a b)
section
variable {R : Type} [CommRing R] [LE R] [LT R] [Std.LawfulOrderLT R] [Std.IsLinearPreorder R] [OrderedRing R] [MulNN R] {e : R} [Nng e]
theorem lift_nn {r : R} (h : 0 ≤ r) : (0 : Ext R e) ≤ ⟨r, 0⟩ := by
  have := sq_nn r
  rw [le_def, zero_u, zero_v]
  exact .inl ⟨le_by fun _ => by grind, le_by fun _ => by grind⟩
theorem lift_sq {r s : R} (h : r * r = s) : (⟨r, 0⟩ : Ext R e) * ⟨r, 0⟩ = ⟨s, 0⟩ := Ext.ext' (by rw [mul_u]; grind) (by rw [mul_v]; grind)
theorem own_nn : (0 : Ext R e) ≤ ⟨0, 1⟩ := by
  have := one_pos (R := R)
  have := Nng.nn (e := e)
  rw [le_def, zero_u, zero_v]
  exact .inr ⟨le_by fun _ => by grind, le_by fun _ => by grind⟩
theorem own_sq : (⟨0, 1⟩ : Ext R e) * ⟨0, 1⟩ = ⟨e, 0⟩ := Ext.ext' (by rw [mul_u]; grind) (by rw [mul_v]; grind)
end
/-- the three roots -/
def ra (a b c : Nat) : L3 a b c := ⟨⟨⟨0, 1⟩, 0⟩, 0⟩
def rb (a b c : Nat) : L3 a b c := ⟨⟨0, 1⟩, 0⟩
def rc (a b c : Nat) : L3 a b c := ⟨0, 1⟩
theorem ra_nn (a b c : Nat) : 0 ≤ ra a b c := lift_nn (lift_nn own_nn)
theorem rb_nn (a b c : Nat) : 0 ≤ rb a b c := lift_nn own_nn
theorem rc_nn (a b c : Nat) : 0 ≤ rc a b c := own_nn
theorem ra_sq (a b c : Nat) : ra a b c * ra a b c = io (a : Int) := lift_sq (lift_sq own_sq)
theorem rb_sq (a b c : Nat) : rb a b c * rb a b c = io (b : Int) := lift_sq own_sq
theorem rc_sq (a b c : Nat) : rc a b c * rc a b c = io (c : Int) := own_sq
/-- **the order of instants** -/
theorem compare_range (x y : Sy38.Inst) : Sy38.compare x y = 1 ∨ Sy38.compare x y = 0 ∨ Sy38.compare x y = -1 := by
  rcases is_compare (x := x) (y := y) (ra_nn x.d y.d 0) (ra_sq x.d y.d 0) (rb_nn x.d y.d 0) (rb_sq x.d y.d 0) with h | h | h
  · exact .inl h.1
  · exact .inr (.inl h.1)
  · exact .inr (.inr h.1)
theorem compare_flip (x y : Sy38.Inst) : Sy38.compare y x = -Sy38.compare x y := flip_in (ra_nn x.d y.d 0) (ra_sq x.d y.d 0) (rb_nn x.d y.d 0) (rb_sq x.d y.d 0)
theorem compare_trans {x y z : Sy38.Inst} (hx : 0 < x.q) (hy : 0 < y.q) (hz : 0 < z.q) (h1 : Sy38.compare x y ≤ 0) (h2 : Sy38.compare y z ≤ 0) : Sy38.compare x z ≤ 0 ∧ (Sy38.compare x z = 0 → Sy38.compare x y = 0 ∧ Sy38.compare y z = 0) :=
  trans_in (ra_nn x.d y.d z.d) (ra_sq x.d y.d z.d) (rb_nn x.d y.d z.d) (rb_sq x.d y.d z.d) (rc_nn x.d y.d z.d) (rc_sq x.d y.d z.d) hx hy hz h1 h2
end Tw

namespace Tw
open Lean.Grind
set_option linter.unusedSectionVars false
/-- abs, as Python's is told -/
def ab (i : Int) : Int := if i < 0 then -i else i
/-- the program's sign of a number and a root -/
def s1 (w q : Int) : Int := Sy38.sgn (w * ab w + q)
def s2 (w q o : Int) : Int := s1 (w * ab w + Sy38.sgn (q + o) * (ab q + ab o)) (Sy38.sgn (q + o) * 4 * q * o)
/-- the program's instant: a number, a root's signed square, a divisor -/
structure Ins where
  w : Int
  q : Int
  p : Int
  deriving DecidableEq
def cmp (x y : Ins) : Int := s2 (x.w * y.p - y.w * x.p) (x.q * y.p * y.p) (-y.q * x.p * x.p)
/-- an instant of the specification as the program keeps it -/
def ins (x : Sy38.Inst) : Ins := ⟨x.p, x.s * ab x.s * (x.d : Int), (x.q : Int)⟩
section
variable {S : Type} [CommRing S] [LE S] [LT S] [Std.LawfulOrderLT S] [Std.IsLinearPreorder S] [OrderedRing S] [MulNN S]
/-- z is A times its size -/
def Sq (A z : S) : Prop := (0 ≤ A ∧ z = A * A) ∨ (A ≤ 0 ∧ z = -(A * A))
theorem Sq.of_is {A z : S} {n : Int} (h : Sq A z) (k : Is z n) : Is A n := by
  rcases h with ⟨a, rfl⟩ | ⟨a, rfl⟩
  · rcases k with ⟨rfl, b⟩ | ⟨rfl, b, c⟩ | ⟨rfl, b⟩
    · refine .inl ⟨rfl, lt_by fun z => ?_⟩
      have := sq_le (a := -A) (b := 0) (le_by fun _ => by grind) (le_by fun _ => by grind)
      grind
    · refine .inr (.inl ⟨rfl, a, nlt fun z => ?_⟩)
      have := pp z z
      grind
    · have := sq_nn A
      grind
  · rcases k with ⟨rfl, b⟩ | ⟨rfl, b, c⟩ | ⟨rfl, b⟩
    · have := sq_nn A
      grind
    · refine .inr (.inl ⟨rfl, nlt fun z => ?_, a⟩)
      have := pp (show 0 < -A from lt_by fun _ => by grind) (show 0 < -A from lt_by fun _ => by grind)
      grind
    · refine .inr (.inr ⟨rfl, lt_by fun z => ?_⟩)
      have := sq_le (a := A) (b := 0) z a
      grind
theorem sq_io (w : Int) : Sq (io w : S) (io (w * ab w)) := by
  unfold ab
  split
  · exact .inr ⟨Std.le_of_lt (io_below (by assumption)), by rw [io_mul, io_neg]; grind⟩
  · refine .inl ⟨?_, io_mul _ _⟩
    by_cases h : w = 0
    · subst h
      rw [io_zero]
      exact le_by fun _ => by grind
    · exact Std.le_of_lt (io_pos (by omega))
theorem is_sum {A B a b : S} {n : Int} (ha : Sq A a) (hb : Sq B b) (h : Is (a + b) n) : Is (A + B) n := by
  have mixed : ∀ {A B : S} {n : Int}, 0 ≤ A → B ≤ 0 → Is (A * A - B * B) n → Is (A + B) n := by
    intro A B n h1 h2 k
    rcases tot (A - B) 0 with z | z
    · have a0 : A ≤ 0 := le_by fun _ => by grind
      have b0 : 0 ≤ B := le_by fun _ => by grind
      have e1 := sq_nn A
      have e2 := sq_nn B
      have e3 := Tw.nn (a := A) (b := -A) h1 (le_by fun _ => by grind)
      have e4 := Tw.nn (a := B) (b := -B) b0 (le_by fun _ => by grind)
      have e5 : n = 0 := k.uniq (.inr (.inl ⟨rfl, le_by fun _ => by grind, le_by fun _ => by grind⟩))
      exact .inr (.inl ⟨e5, le_by fun _ => by grind, le_by fun _ => by grind⟩)
    · exact Is.up (c := A - B) z (k.cg (by grind))
  have same : ∀ {A B : S} {n : Int}, 0 ≤ A → 0 ≤ B → Is (A * A + B * B) n → Is (A + B) n := by
    intro A B n h1 h2 k
    rcases tot (A + B) 0 with z | z
    · have e3 := Tw.nn (a := A) (b := -A) h1 (le_by fun _ => by grind)
      have e4 := Tw.nn (a := B) (b := -B) h2 (le_by fun _ => by grind)
      have e1 := sq_nn A
      have e2 := sq_nn B
      have e5 : n = 0 := k.uniq (.inr (.inl ⟨rfl, le_by fun _ => by grind, le_by fun _ => by grind⟩))
      exact .inr (.inl ⟨e5, le_by fun _ => by grind, z⟩)
    · have e : 0 < A * A + B * B := by
        rcases tot A 0 with y | y
        · have := pp (show 0 < B from lt_by fun _ => by grind) (show 0 < B from lt_by fun _ => by grind)
          have := sq_nn A
          exact lt_by fun _ => by grind
        · have := pp y y
          have := sq_nn B
          exact lt_by fun _ => by grind
      exact .inl ⟨k.uniq (.inl ⟨rfl, e⟩), z⟩
  rcases ha with ⟨h1, rfl⟩ | ⟨h1, rfl⟩ <;> rcases hb with ⟨h2, rfl⟩ | ⟨h2, rfl⟩
  · exact same h1 h2 h
  · exact mixed h1 h2 (h.cg (by grind))
  · exact (mixed h2 h1 (h.cg (by grind))).cg (by grind)
  · have := (same (A := -A) (B := -B) (n := -n) (le_by fun _ => by grind) (le_by fun _ => by grind) (h.neg.cg (by grind))).neg
    rw [Int.neg_neg] at this
    exact this.cg (by grind)
theorem is_s1 {A : S} {q : Int} (w : Int) (h : Sq A (io q)) : Is (io w + A) (s1 w q) := is_sum (sq_io w) h ((is_io (S := S) (w * ab w + q)).cg (io_add _ _))
theorem ab_sq {A : S} {q : Int} (h : Sq A (io q)) : io (ab q) = A * A := by
  unfold ab
  rcases h with ⟨h, e⟩ | ⟨h, e⟩
  · split
    · have := io_below (S := S) (a := q) (by assumption)
      have := sq_nn A
      grind
    · exact e
  · split
    · rw [io_neg, e]
      grind
    · by_cases h0 : q = 0
      · subst h0
        rw [io_zero] at e ⊢
        grind
      · have := io_pos (S := S) (a := q) (by omega)
        have := sq_nn A
        grind
theorem Sq.neg {A z : S} (h : Sq A z) : Sq (-A) (-z) := by
  rcases h with ⟨h, e⟩ | ⟨h, e⟩
  · exact .inr ⟨le_by fun _ => by grind, by grind⟩
  · exact .inl ⟨le_by fun _ => by grind, by grind⟩
theorem Sq.mul {A B a b : S} (h : Sq A a) (k : Sq B b) : Sq (A * B) (a * b) := by
  rcases h with ⟨h, e⟩ | ⟨h, e⟩ <;> rcases k with ⟨k, f⟩ | ⟨k, f⟩
  · exact .inl ⟨Tw.nn h k, by grind⟩
  · have := Tw.nn h (show 0 ≤ -B from le_by fun _ => by grind)
    exact .inr ⟨le_by fun _ => by grind, by grind⟩
  · have := Tw.nn (show 0 ≤ -A from le_by fun _ => by grind) k
    exact .inr ⟨le_by fun _ => by grind, by grind⟩
  · have := Tw.nn (show 0 ≤ -A from le_by fun _ => by grind) (show 0 ≤ -B from le_by fun _ => by grind)
    exact .inl ⟨le_by fun _ => by grind, by grind⟩
theorem Sq.two : Sq (1 + 1 : S) (io 4) := by
  have := one_pos (R := S)
  refine .inl ⟨le_by fun _ => by grind, ?_⟩
  have e : (4 : Int) = 1 + 1 + (1 + 1) := rfl
  rw [e, io_add, io_add, io_one]
  grind
theorem sgn_range (n : Int) : Sy38.sgn n = 1 ∨ Sy38.sgn n = 0 ∨ Sy38.sgn n = -1 := by
  unfold Sy38.sgn
  split
  · exact .inr (.inr rfl)
  · split
    · exact .inr (.inl rfl)
    · exact .inl rfl
theorem Is.null {z T : S} {n : Int} (h : Is z n) (h1 : 0 ≤ T) (h2 : T ≤ 0) : Is (z + T) n := by
  rcases h with ⟨e, a⟩ | ⟨e, a, b⟩ | ⟨e, a⟩
  · exact .inl ⟨e, lt_by fun _ => by grind⟩
  · exact .inr (.inl ⟨e, le_by fun _ => by grind, le_by fun _ => by grind⟩)
  · exact .inr (.inr ⟨e, lt_by fun _ => by grind⟩)
theorem is_s2 {A B : S} {q o : Int} (w : Int) (h : Sq A (io q)) (k : Sq B (io o)) : Is (io w + (A + B)) (s2 w q o) := by
  have hs : Is (A + B) (Sy38.sgn (q + o)) := is_sum h k ((is_io (S := S) (q + o)).cg (io_add _ _))
  unfold s2
  have go : ∀ g : Int, Sq (io g : S) (io g) → Sq (A + B) (io g * (A * A + B * B) + io g * ((1 + 1) * (A * B))) → Is (io w + (A + B)) (s1 (w * ab w + g * (ab q + ab o)) (g * 4 * q * o)) := by
    intro g hg T
    have C : Sq (io g * ((1 + 1) * (A * B))) (io (g * 4 * q * o)) := by
      rw [io_mul, io_mul, io_mul]
      have := hg.mul (Sq.two.mul (h.mul k))
      have e : (io g * io 4 * io q * io o : S) = io g * (io 4 * (io q * io o)) := by grind
      rw [e]
      exact this
    refine is_sum (sq_io w) T ((is_s1 (w * ab w + g * (ab q + ab o)) C).cg ?_)
    rw [io_add, io_mul g, io_add, ab_sq h, ab_sq k]
    grind
  rcases hs with ⟨e, z⟩ | ⟨e, z, y⟩ | ⟨e, z⟩
  · rw [e]
    refine go 1 (.inl ⟨Std.le_of_lt (io_pos (by decide)), by rw [io_one]; grind⟩) (.inl ⟨Std.le_of_lt z, by rw [io_one]; grind⟩)
  · rw [e]
    have e1 : w * ab w + 0 * (ab q + ab o) = w * ab w := by omega
    have e2 : 0 * 4 * q * o = 0 := by simp
    rw [e1, e2]
    refine Is.null ?_ z y
    refine Sq.of_is (sq_io w) (Sq.of_is (sq_io (w * ab w)) ((is_io (S := S) _).cg ?_))
    congr 1
    omega
  · rw [e]
    refine go (-1) (.inr ⟨Std.le_of_lt (io_below (by decide)), by rw [io_neg, io_one]; grind⟩) (.inr ⟨Std.le_of_lt z, by rw [io_neg, io_one]; grind⟩)
/-- a root with its number, as the program keeps its signed square -/
theorem sq_root {r : S} {d : Nat} (hr : 0 ≤ r) (hre : r * r = io (d : Int)) (s : Int) : Sq (io s * r) (io (s * ab s * (d : Int))) := by
  rw [io_mul]
  exact (sq_io s).mul (.inl ⟨hr, hre.symm⟩)
theorem is_cmp {r t : S} {x y : Sy38.Inst} (hr : 0 ≤ r) (hre : r * r = io (x.d : Int)) (ht : 0 ≤ t) (hte : t * t = io (y.d : Int)) :
    Is (val r x * io (y.q : Int) - val t y * io (x.q : Int)) (cmp (ins x) (ins y)) := by
  unfold cmp val
  have py : Sq (io (y.q : Int) : S) (io ((y.q : Int) * (y.q : Int))) := .inl ⟨OrderedRing.nonneg_intCast_of_nonneg _ (by omega), io_mul _ _⟩
  have px : Sq (io (x.q : Int) : S) (io ((x.q : Int) * (x.q : Int))) := .inl ⟨OrderedRing.nonneg_intCast_of_nonneg _ (by omega), io_mul _ _⟩
  have h1 : Sq (io x.s * r * io (y.q : Int)) (io ((ins x).q * (ins y).p * (ins y).p)) := by
    have e : (ins x).q * (ins y).p * (ins y).p = x.s * ab x.s * (x.d : Int) * ((y.q : Int) * (y.q : Int)) := Int.mul_assoc _ _ _
    rw [e, io_mul]
    exact (sq_root hr hre x.s).mul py
  have h2 : Sq (-(io y.s * t * io (x.q : Int))) (io (-(ins y).q * (ins x).p * (ins x).p)) := by
    have e : -(ins y).q * (ins x).p * (ins x).p = -(y.s * ab y.s * (y.d : Int) * ((x.q : Int) * (x.q : Int))) := by
      show -(y.s * ab y.s * (y.d : Int)) * (x.q : Int) * (x.q : Int) = _
      grind
    rw [e, io_neg, io_mul]
    exact ((sq_root ht hte y.s).mul px).neg
  refine (is_s2 _ h1 h2).cg ?_
  show io (x.p * (y.q : Int) - y.p * (x.q : Int)) + _ = _
  rw [io_sub, io_mul, io_mul]
  grind
theorem cmp_in {r t : S} {x y : Sy38.Inst} (hr : 0 ≤ r) (hre : r * r = io (x.d : Int)) (ht : 0 ≤ t) (hte : t * t = io (y.d : Int)) : cmp (ins x) (ins y) = Sy38.compare x y := (is_cmp hr hre ht hte).uniq (is_compare hr hre ht hte)
end
set_option synthInstance.maxHeartbeats 400000
set_option synthInstance.maxSize 1000
/-- **the program compares as the specification does** -/
theorem cmp_eq (x y : Sy38.Inst) : cmp (ins x) (ins y) = Sy38.compare x y := cmp_in (ra_nn x.d y.d 0) (ra_sq x.d y.d 0) (rb_nn x.d y.d 0) (rb_sq x.d y.d 0)
end Tw

namespace Tw
/-! ### Roots rounded down -/
theorem rootFrom_ok (d : Nat) : ∀ (k r : Nat), r * r ≤ d → d < (r + 2 ^ k) * (r + 2 ^ k) → Sy38.rootFrom k d r * Sy38.rootFrom k d r ≤ d ∧ d < (Sy38.rootFrom k d r + 1) * (Sy38.rootFrom k d r + 1)
  | 0, r, h1, h2 => ⟨h1, h2⟩
  | k + 1, r, h1, h2 => by
    unfold Sy38.rootFrom
    dsimp only
    have e : 2 ^ (k + 1) = 2 ^ k + 2 ^ k := by omega
    rw [e, ← Nat.add_assoc] at h2
    split
    · exact rootFrom_ok d k _ (by assumption) h2
    · exact rootFrom_ok d k _ h1 (by omega)
theorem root_ok {d : Nat} (h : d < 2 ^ 80) : Sy38.root d * Sy38.root d ≤ d ∧ d < (Sy38.root d + 1) * (Sy38.root d + 1) := rootFrom_ok d 40 0 (by omega) (by
  have : (0 + 2 ^ 40) * (0 + 2 ^ 40) = 2 ^ 80 := by decide
  omega)
theorem root_uniq {d a b : Nat} (h1 : a * a ≤ d) (h2 : d < (a + 1) * (a + 1)) (k1 : b * b ≤ d) (k2 : d < (b + 1) * (b + 1)) : a = b := by
  rcases Nat.lt_trichotomy a b with h | h | h
  · have := Nat.mul_le_mul (show a + 1 ≤ b from h) (show a + 1 ≤ b from h)
    omega
  · exact h
  · have := Nat.mul_le_mul (show b + 1 ≤ a from h) (show b + 1 ≤ a from h)
    omega
theorem root_zero : Sy38.root 0 = 0 := root_uniq (root_ok (d := 0) (by decide)).1 (root_ok (d := 0) (by decide)).2 (by decide) (by decide)
/-! ### An instant told -/
/-- the program's number ahead of the division: R is the root rounded down -/
def upperOf (x : Ins) (R : Int) : Int := if x.q ≥ 0 then x.w + R else if R * R = ab x.q then x.w - R else x.w - R - 1
def toldOf (x : Ins) (R : Int) : List Int := [upperOf x R / x.p, if R * R = ab x.q ∧ upperOf x R % x.p = 0 then 1 else 0]
/-- an instant as the program makes them -/
structure Good (x : Sy38.Inst) : Prop where
  s : (x.s = 0 ∧ x.d = 0) ∨ x.s = 1 ∨ x.s = -1
  q : 0 < x.q
  d : x.d < 2 ^ 80
theorem ab_nat (n : Nat) : ab (n : Int) = (n : Int) := by unfold ab; rw [if_neg (by omega)]
theorem ab_negnat (n : Nat) : ab (-(n : Int)) = (n : Int) := by unfold ab; split <;> omega
theorem good_q {x : Sy38.Inst} (g : Good x) : (ins x).q = x.s * (x.d : Int) ∧ ab (ins x).q = (x.d : Int) := by
  unfold ins
  rcases g.s with ⟨h1, h2⟩ | h | h
  · dsimp only
    rw [h1, h2]
    decide
  · dsimp only
    rw [h]
    have e : (1 : Int) * ab 1 * (x.d : Int) = (x.d : Int) := by show (1 : Int) * 1 * _ = _; omega
    rw [e, Int.one_mul]
    exact ⟨rfl, ab_nat _⟩
  · dsimp only
    rw [h]
    have e : (-1 : Int) * ab (-1) * (x.d : Int) = -(x.d : Int) := by show (-1 : Int) * 1 * _ = _; omega
    have e2 : (-1 : Int) * (x.d : Int) = -(x.d : Int) := by omega
    rw [e, e2]
    exact ⟨rfl, ab_negnat _⟩
theorem floor_eq {x : Sy38.Inst} (g : Good x) : Sy38.floor x = upperOf (ins x) (Sy38.root x.d : Nat) / (x.q : Int) := by
  obtain ⟨e1, e2⟩ := good_q g
  obtain ⟨r1, r2⟩ := root_ok g.d
  unfold Sy38.floor upperOf
  dsimp only
  rw [e2, e1]
  have ew : (ins x).w = x.p := rfl
  rw [ew]
  have c1 : ((Sy38.root x.d : Nat) : Int) * ((Sy38.root x.d : Nat) : Int) = ((Sy38.root x.d * Sy38.root x.d : Nat) : Int) := by rw [Int.natCast_mul]
  congr 1
  rcases g.s with ⟨h1, h2⟩ | h | h
  · have r0 : Sy38.root 0 = 0 := root_zero
    rw [h1, h2, r0]
    simp
  · rw [h, if_neg (by decide), if_neg (by decide), if_pos (by omega)]
  · rw [h, if_neg (by decide), if_pos (by decide)]
    by_cases hd : x.d = 0
    · have r0 : Sy38.root 0 = 0 := root_zero
      rw [hd, r0]
      simp
    · rw [if_neg (show ¬ (-1 * (x.d : Int) ≥ 0) by omega)]
      split <;> omega
theorem sign1_zero (u : Int) (s : Int) (d : Nat) (hs : (s = 0 ∧ d = 0) ∨ s = 1 ∨ s = -1) : Sy38.sign1 u s d = 0 ↔ u * u = (d : Int) ∧ 0 ≤ -(u * s) ∧ (d = 0 → u = 0) := by
  have key : ∀ v : Int, (Sy38.sgn v = 1 ↔ 0 < v) ∧ (Sy38.sgn v = 0 ↔ v = 0) ∧ (Sy38.sgn v = -1 ↔ v < 0) := by
    intro v
    unfold Sy38.sgn
    split
    · exact ⟨⟨fun h => absurd h (by decide), fun _ => by omega⟩, ⟨fun h => absurd h (by decide), fun _ => by omega⟩, ⟨fun _ => by omega, fun _ => rfl⟩⟩
    · split
      · exact ⟨⟨fun h => absurd h (by decide), fun _ => by omega⟩, ⟨fun _ => by omega, fun _ => rfl⟩, ⟨fun h => absurd h (by decide), fun _ => by omega⟩⟩
      · exact ⟨⟨fun _ => by omega, fun _ => rfl⟩, ⟨fun h => absurd h (by decide), fun _ => by omega⟩, ⟨fun h => absurd h (by decide), fun _ => by omega⟩⟩
  rw [sign1_mix]
  unfold mix
  by_cases hd : d = 0
  · rw [if_pos hd]
    obtain ⟨k1, k2, k3⟩ := key u
    have e : (if Sy38.sgn u = 0 then (0 : Int) else if (0 : Int) = 0 then Sy38.sgn u else if Sy38.sgn u = 0 then Sy38.sgn u else Sy38.sgn u * Sy38.sgn (u * u - s * s * (d : Int))) = Sy38.sgn u := by
      split
      · omega
      · rw [if_pos rfl]
    rw [e, k2]
    constructor
    · intro h
      subst h hd
      simp
    · intro h
      exact h.2.2 hd
  · rw [if_neg hd]
    have hs' : s = 1 ∨ s = -1 := by omega
    obtain ⟨k1, k2, k3⟩ := key u
    have ss : s * s = 1 := by rcases hs' with h | h <;> rw [h] <;> decide
    rw [ss, Int.one_mul]
    obtain ⟨m1, m2, m3⟩ := key (u * u - (d : Int))
    have sg : Sy38.sgn s = s := by rcases hs' with h | h <;> rw [h] <;> rfl
    rw [sg]
    rcases sgn_range u with h | h | h
    · have hu := k1.mp h
      rw [h, if_neg (by decide), if_neg (by omega)]
      rcases hs' with h' | h'
      · rw [h', if_pos rfl]
        constructor
        · intro z; exact absurd z (by decide)
        · intro z; omega
      · rw [h', if_neg (by decide), Int.one_mul, m2]
        constructor
        · intro z; exact ⟨by omega, by omega, fun y => absurd y hd⟩
        · intro z; omega
    · have hu := k2.mp h
      rw [h, if_pos rfl]
      constructor
      · intro z; omega
      · intro z
        rw [hu] at z
        omega
    · have hu := k3.mp h
      rw [h, if_neg (by decide), if_neg (by omega)]
      rcases hs' with h' | h'
      · rw [h', if_neg (by decide)]
        have e : (-1 : Int) * Sy38.sgn (u * u - (d : Int)) = 0 ↔ Sy38.sgn (u * u - (d : Int)) = 0 := by omega
        rw [e, m2]
        constructor
        · intro z; exact ⟨by omega, by omega, fun y => absurd y hd⟩
        · intro z; omega
      · rw [h', if_pos rfl]
        constructor
        · intro z; exact absurd z (by decide)
        · intro z; omega
theorem compare_whole (x : Sy38.Inst) (f : Int) : Sy38.compare x ⟨f, 0, 0, 1⟩ = Sy38.sign1 (x.p - f * (x.q : Int)) x.s x.d := by
  unfold Sy38.compare
  rw [sign2_mix]
  dsimp only
  rw [if_pos rfl]
  have e1 : x.p * ((1 : Nat) : Int) - f * (x.q : Int) = x.p - f * (x.q : Int) := by simp
  have e2 : x.s * ((1 : Nat) : Int) = x.s := by simp
  rw [e1, e2]
  unfold mix
  split
  · omega
  · rw [if_pos rfl]
theorem told_eq {x : Sy38.Inst} (g : Good x) {R : Nat} (h1 : R * R ≤ x.d) (h2 : x.d < (R + 1) * (R + 1)) : Sy38.told x = toldOf (ins x) (R : Int) := by
  obtain ⟨r1, r2⟩ := root_ok g.d
  have eR : Sy38.root x.d = R := root_uniq r1 r2 h1 h2
  have ef := floor_eq g
  rw [eR] at ef
  obtain ⟨e1, e2⟩ := good_q g
  have ep : (ins x).p = (x.q : Int) := rfl
  have ew : (ins x).w = x.p := rfl
  unfold Sy38.told toldOf
  rw [ep, ← ef]
  congr 1
  have hq := g.q
  have hR : (R : Int) * (R : Int) = ((R * R : Nat) : Int) := by rw [Int.natCast_mul]
  have c : Sy38.exact x = true ↔ ((R : Int) * (R : Int) = ab (ins x).q ∧ upperOf (ins x) (R : Int) % (x.q : Int) = 0) := by
    unfold Sy38.exact
    rw [compare_whole, beq_iff_eq, sign1_zero _ _ _ g.s, ef, e2]
    have dm := Int.emod_add_mul_ediv (upperOf (ins x) (R : Int)) (x.q : Int)
    have mn := Int.emod_nonneg (upperOf (ins x) (R : Int)) (show (x.q : Int) ≠ 0 by omega)
    have ml := Int.emod_lt_of_pos (upperOf (ins x) (R : Int)) (show (0 : Int) < (x.q : Int) by omega)
    have U : upperOf (ins x) (R : Int) = if x.s * (x.d : Int) ≥ 0 then x.p + R else if (R : Int) * R = (x.d : Int) then x.p - R else x.p - R - 1 := by
      unfold upperOf
      rw [e2, e1, ew]
    generalize upperOf (ins x) (R : Int) = Y at *
    have comm : Y / (x.q : Int) * (x.q : Int) = Y - Y % (x.q : Int) := by
      have := Int.mul_comm (x.q : Int) (Y / (x.q : Int))
      omega
    rw [comm]
    generalize Y % (x.q : Int) = m at *
    rcases g.s with ⟨z1, z2⟩ | z | z
    · rw [z1, z2] at U ⊢
      have R0 : R = 0 := by
        rcases Nat.eq_zero_or_pos R with h | h
        · exact h
        · have := Nat.mul_le_mul h h
          omega
      subst R0
      have U' : Y = x.p := by rw [U]; simp
      rw [U']
      constructor
      · intro h
        have := h.2.2 rfl
        exact ⟨rfl, by omega⟩
      · intro h
        have : x.p - (x.p - m) = 0 := by omega
        rw [this]
        simp
    · rw [z] at U ⊢
      rw [if_pos (by omega)] at U
      have eu : x.p - (Y - m) = m - R := by omega
      rw [eu]
      constructor
      · rintro ⟨a, b, b'⟩
        have m1 : m ≤ R := by omega
        -- (R - m)^2 = d, so R - m is the root too
        have k : ((R : Int) - m) * ((R : Int) - m) = (x.d : Int) := by rw [← a]; grind
        have nn : 0 ≤ (R : Int) - m := by omega
        obtain ⟨t, ht⟩ : ∃ t : Nat, (R : Int) - m = (t : Int) := ⟨((R : Int) - m).toNat, by omega⟩
        rw [ht] at k
        have k' : t * t = x.d := by exact_mod_cast k
        have := root_uniq h1 h2 (show t * t ≤ x.d by omega) (show x.d < (t + 1) * (t + 1) by
          have : (t + 1) * (t + 1) = t * t + 2 * t + 1 := by grind
          omega)
        refine ⟨?_, by omega⟩
        rw [hR]
        subst this
        omega
      · rintro ⟨a, b⟩
        subst b
        refine ⟨by rw [← a]; grind, by omega, fun z => ?_⟩
        rw [z] at a
        have : (R : Int) = 0 := by
          rcases Int.mul_eq_zero.mp (show (R : Int) * R = 0 from a) with h | h <;> exact h
        omega
    · rw [z] at U ⊢
      by_cases hd : x.d = 0
      · rw [hd] at U h1 ⊢
        have R0 : R = 0 := by
          rcases Nat.eq_zero_or_pos R with h | h
          · exact h
          · have := Nat.mul_le_mul h h
            omega
        subst R0
        have U' : Y = x.p := by rw [U]; simp
        rw [U']
        constructor
        · intro h
          have := h.2.2 rfl
          exact ⟨rfl, by omega⟩
        · intro h
          have : x.p - (x.p - m) = 0 := by omega
          rw [this]
          simp
      · rw [if_neg (by omega)] at U
        constructor
        · rintro ⟨a, b, b'⟩
          by_cases hw : (R : Int) * R = (x.d : Int)
          · rw [if_pos hw] at U
            have eu : x.p - (Y - m) = R + m := by omega
            rw [eu] at a b
            refine ⟨hw, ?_⟩
            have k : ((R : Int) + m) * ((R : Int) + m) = (R : Int) * R + (2 * ((R : Int) * m) + m * m) := by grind
            have := Int.mul_nonneg (show (0 : Int) ≤ R by omega) mn
            have m0 : m * m = 0 := by
              have := Int.mul_nonneg mn mn
              omega
            rcases Int.mul_eq_zero.mp m0 with h | h <;> exact h
          · rw [if_neg hw] at U
            have eu : x.p - (Y - m) = R + 1 + m := by omega
            rw [eu] at a
            obtain ⟨t, ht⟩ : ∃ t : Nat, (R : Int) + 1 + m = (t : Int) := ⟨((R : Int) + 1 + m).toNat, by omega⟩
            rw [ht] at a
            have k' : t * t = x.d := by exact_mod_cast a
            have := root_uniq h1 h2 (show t * t ≤ x.d by omega) (show x.d < (t + 1) * (t + 1) by
              have : (t + 1) * (t + 1) = t * t + 2 * t + 1 := by grind
              omega)
            omega
        · rintro ⟨a, b⟩
          subst b
          rw [if_pos a] at U
          have eu : x.p - (Y - 0) = R := by omega
          rw [eu]
          exact ⟨a, by omega, fun z => absurd z hd⟩
  by_cases h : Sy38.exact x = true
  · rw [if_pos h, if_pos (c.mp h)]
  · rw [if_neg h, if_neg (fun z => h (c.mpr z))]
end Tw

namespace Tw
/-! ### Spans -/
/-- told, with the root that the program finds -/
def told (x : Ins) : List Int := toldOf x ((Sy38.root (ab x.q).toNat : Nat) : Int)
theorem told_ins {x : Sy38.Inst} (g : Good x) : Sy38.told x = told (ins x) := by
  obtain ⟨_, e2⟩ := good_q g
  have e : (ab (ins x).q).toNat = x.d := by omega
  obtain ⟨r1, r2⟩ := root_ok g.d
  unfold told
  rw [e]
  exact told_eq g r1 r2
structure Spn where
  al : Bool
  fr : Ins
  to : Option Ins
  deriving DecidableEq
def start : Ins := ⟨0, 0, 1⟩
/-- the program's span_of: e is 1 with the edge, else 0 -/
def spanOf (a b c e : Int) : Option Spn :=
  if a = 0 then (if c < e then some ⟨true, start, none⟩ else none)
  else if b * b - a * c + e ≤ 0 then none
  else if b ≥ e ∧ ¬ c < e then none
  else some ⟨decide (c < e), if c < e then start else ⟨-b, -(b * b - a * c), a⟩, some ⟨-b, b * b - a * c, a⟩⟩
def conv (x : Sy38.Span) : Spn := ⟨x.already, ins x.from_, x.to_.map ins⟩
theorem sgn_key (v : Int) : (Sy38.sgn v = 1 ↔ 0 < v) ∧ (Sy38.sgn v = 0 ↔ v = 0) ∧ (Sy38.sgn v = -1 ↔ v < 0) := by
  unfold Sy38.sgn
  split
  · exact ⟨⟨fun h => absurd h (by decide), fun _ => by omega⟩, ⟨fun h => absurd h (by decide), fun _ => by omega⟩, ⟨fun _ => by omega, fun _ => rfl⟩⟩
  · split
    · exact ⟨⟨fun h => absurd h (by decide), fun _ => by omega⟩, ⟨fun _ => by omega, fun _ => rfl⟩, ⟨fun h => absurd h (by decide), fun _ => by omega⟩⟩
    · exact ⟨⟨fun _ => by omega, fun _ => rfl⟩, ⟨fun h => absurd h (by decide), fun _ => by omega⟩, ⟨fun h => absurd h (by decide), fun _ => by omega⟩⟩
/-- against 0: the sign of the number and its root -/
theorem compare_zero (x : Sy38.Inst) : Sy38.compare x Sy38.zero = Sy38.sign1 x.p x.s x.d := by
  have := compare_whole x 0
  have e : x.p - 0 * (x.q : Int) = x.p := by omega
  rw [e] at this
  exact this
/-- the lower end is before 0 -/
theorem lower_less {k : Sy38.Quad} (ha : 0 < k.a) (hD : 0 < Sy38.disc k) : Sy38.less (Sy38.lower k) Sy38.zero = true ↔ 0 ≤ k.b ∨ k.c < 0 := by
  unfold Sy38.less
  rw [compare_zero, beq_iff_eq, sign1_mix]
  have eD : ((Sy38.disc k).toNat : Int) = Sy38.disc k := by omega
  unfold Sy38.lower
  dsimp only
  rw [if_neg (by omega), eD]
  have e1 : -k.b * -k.b - -1 * -1 * Sy38.disc k = k.a * k.c := by unfold Sy38.disc; grind
  rw [e1]
  have e2 : Sy38.sgn (-1) = -1 := rfl
  rw [e2]
  unfold mix
  obtain ⟨b1, b2, b3⟩ := sgn_key (-k.b)
  obtain ⟨c1, c2, c3⟩ := sgn_key (k.a * k.c)
  have cneg : k.a * k.c < 0 ↔ k.c < 0 := ⟨fun h => by
    rcases Int.lt_or_le k.c 0 with z | z
    · exact z
    · have := Int.mul_nonneg (Int.le_of_lt ha) z
      omega, fun h => by
    have := Int.mul_pos ha (show 0 < -k.c by omega)
    have e : k.a * -k.c = -(k.a * k.c) := Int.mul_neg _ _
    omega⟩
  rcases sgn_range (-k.b) with h | h | h
  · rw [h, if_neg (by decide), if_neg (by decide), if_neg (by decide), Int.one_mul, c3, cneg]
    have := b1.mp h
    constructor
    · intro z; exact .inr z
    · intro z; omega
  · rw [h, if_pos rfl]
    have := b2.mp h
    exact ⟨fun _ => .inl (by omega), fun _ => rfl⟩
  · rw [h, if_neg (by decide), if_neg (by decide), if_pos rfl]
    have := b3.mp h
    exact ⟨fun _ => .inl (by omega), fun _ => rfl⟩
theorem upper_sign {k : Sy38.Quad} (ha : 0 < k.a) (hD : 0 ≤ Sy38.disc k) : (Sy38.compare (Sy38.upper k) Sy38.zero = 1 ↔ k.b < 0 ∨ k.c < 0) ∧ (Sy38.compare (Sy38.upper k) Sy38.zero = -1 ↔ 0 < k.b ∧ 0 < k.c) := by
  rw [compare_zero, sign1_mix]
  have eD : ((Sy38.disc k).toNat : Int) = Sy38.disc k := by omega
  unfold Sy38.upper
  dsimp only
  rw [eD]
  have e1 : -k.b * -k.b - 1 * 1 * Sy38.disc k = k.a * k.c := by unfold Sy38.disc; grind
  rw [e1]
  have e2 : Sy38.sgn 1 = 1 := rfl
  rw [e2]
  unfold mix
  obtain ⟨b1, b2, b3⟩ := sgn_key (-k.b)
  obtain ⟨c1, c2, c3⟩ := sgn_key (k.a * k.c)
  have cneg : k.a * k.c < 0 ↔ k.c < 0 := ⟨fun h => by
    rcases Int.lt_or_le k.c 0 with z | z
    · exact z
    · have := Int.mul_nonneg (Int.le_of_lt ha) z
      omega, fun h => by
    have := Int.mul_pos ha (show 0 < -k.c by omega)
    have e : k.a * -k.c = -(k.a * k.c) := Int.mul_neg _ _
    omega⟩
  have cpos : 0 < k.a * k.c ↔ 0 < k.c := ⟨fun h => by
    rcases Int.lt_or_le 0 k.c with z | z
    · exact z
    · have := Int.mul_nonneg (Int.le_of_lt ha) (show 0 ≤ -k.c by omega)
      have e : k.a * -k.c = -(k.a * k.c) := Int.mul_neg _ _
      omega, fun h => Int.mul_pos ha h⟩
  have dd : Sy38.disc k = k.b * k.b - k.a * k.c := rfl
  have bb := Int.mul_nonneg (show 0 ≤ k.b * k.b from by rcases Int.le_total 0 k.b with z | z; exact Int.mul_nonneg z z; exact Int.mul_nonneg_of_nonpos_of_nonpos z z) (show (0 : Int) ≤ 1 by decide)
  by_cases hd : (Sy38.disc k).toNat = 0
  · rw [if_pos hd]
    have hD0 : Sy38.disc k = 0 := by omega
    have c0 : 0 ≤ k.a * k.c := by omega
    have e3 : (if Sy38.sgn (-k.b) = 0 then (0 : Int) else if (0 : Int) = 0 then Sy38.sgn (-k.b) else if Sy38.sgn (-k.b) = 0 then Sy38.sgn (-k.b) else Sy38.sgn (-k.b) * Sy38.sgn (k.a * k.c)) = Sy38.sgn (-k.b) := by
      split
      · omega
      · rw [if_pos rfl]
    rw [e3, b1, b3]
    have cb : 0 < k.b → 0 < k.c := fun h => by
      have := Int.mul_pos h h
      exact cpos.mp (by omega)
    constructor
    · constructor
      · intro h; exact .inl (by omega)
      · intro h; omega
    · constructor
      · intro h; exact ⟨by omega, cb (by omega)⟩
      · intro h; omega
  · rw [if_neg hd]
    rcases sgn_range (-k.b) with h | h | h
    · rw [h, if_neg (by decide), if_neg (by decide), if_pos rfl]
      have := b1.mp h
      exact ⟨⟨fun _ => .inl (by omega), fun _ => rfl⟩, ⟨fun z => absurd z (by decide), fun z => by omega⟩⟩
    · rw [h, if_pos rfl]
      have := b2.mp h
      have b0 : k.b = 0 := by omega
      have c0 : k.c < 0 := cneg.mp (by rw [b0] at dd; omega)
      exact ⟨⟨fun _ => .inr c0, fun _ => rfl⟩, ⟨fun z => absurd z (by decide), fun z => by omega⟩⟩
    · rw [h, if_neg (by decide), if_neg (by decide), if_neg (by decide)]
      have := b3.mp h
      rcases sgn_range (k.a * k.c) with g | g | g
      · rw [g]
        have := cpos.mp (c1.mp g)
        exact ⟨⟨fun z => absurd z (by decide), fun z => by omega⟩, ⟨fun _ => ⟨by omega, by omega⟩, fun _ => rfl⟩⟩
      · rw [g]
        have := c2.mp g
        have c0 : k.c = 0 := by
          rcases Int.mul_eq_zero.mp this with z | z
          · omega
          · exact z
        exact ⟨⟨fun z => absurd z (by decide), fun z => by omega⟩, ⟨fun z => absurd z (by decide), fun z => by omega⟩⟩
      · rw [g]
        have := cneg.mp (c3.mp g)
        exact ⟨⟨fun _ => .inr (by omega), fun _ => by decide⟩, ⟨fun z => absurd z (by decide), fun z => by omega⟩⟩
theorem zero_less_upper {k : Sy38.Quad} (ha : 0 < k.a) (hD : 0 ≤ Sy38.disc k) : Sy38.less Sy38.zero (Sy38.upper k) = true ↔ k.b < 0 ∨ k.c < 0 := by
  unfold Sy38.less
  rw [beq_iff_eq, compare_flip (Sy38.upper k) Sy38.zero]
  have := (upper_sign ha hD).1
  rw [← this]
  omega
theorem upper_less_zero {k : Sy38.Quad} (ha : 0 < k.a) (hD : 0 ≤ Sy38.disc k) : Sy38.less (Sy38.upper k) Sy38.zero = true ↔ 0 < k.b ∧ 0 < k.c := by
  unfold Sy38.less
  rw [beq_iff_eq]
  exact (upper_sign ha hD).2
theorem ins_zero : ins Sy38.zero = start := by decide
theorem ins_lower {k : Sy38.Quad} (ha : 0 ≤ k.a) (hD : 0 ≤ Sy38.disc k) : ins (Sy38.lower k) = ⟨-k.b, -(k.b * k.b - k.a * k.c), k.a⟩ := by
  unfold ins Sy38.lower
  dsimp only
  have e1 : ab (-1) = 1 := by decide
  have e2 : ((Sy38.disc k).toNat : Int) = k.b * k.b - k.a * k.c := by
    show _ = Sy38.disc k
    omega
  rw [e1, e2]
  congr 1
  · omega
  · omega
theorem ins_upper {k : Sy38.Quad} (ha : 0 ≤ k.a) (hD : 0 ≤ Sy38.disc k) : ins (Sy38.upper k) = ⟨-k.b, k.b * k.b - k.a * k.c, k.a⟩ := by
  unfold ins Sy38.upper
  dsimp only
  have e1 : ab 1 = 1 := by decide
  have e2 : ((Sy38.disc k).toNat : Int) = k.b * k.b - k.a * k.c := by
    show _ = Sy38.disc k
    omega
  rw [e1, e2]
  congr 1
  · omega
  · omega
theorem span_below {k : Sy38.Quad} (ha : 0 ≤ k.a) : spanOf k.a k.b k.c 0 = (Sy38.below k).map conv := by
  unfold spanOf Sy38.below
  by_cases h0 : k.a = 0
  · rw [if_pos h0, if_pos h0]
    split
    · show some (Spn.mk true start none) = some (Spn.mk true (ins Sy38.zero) none)
      rw [ins_zero]
    · rfl
  · rw [if_neg h0, if_neg h0]
    have dd : Sy38.disc k = k.b * k.b - k.a * k.c := rfl
    by_cases h1 : Sy38.disc k ≤ 0
    · rw [if_pos (by omega), if_pos h1]
      rfl
    · rw [if_neg (by omega), if_neg h1]
      have zu := zero_less_upper (k := k) (by omega) (by omega)
      have ll := lower_less (k := k) (by omega) (by omega)
      have il := ins_lower (k := k) ha (by omega)
      have iu := ins_upper (k := k) ha (by omega)
      have b0 : k.b = 0 → k.c < 0 := fun z => by
        rw [z] at dd
        rcases Int.lt_or_le k.c 0 with y | y
        · exact y
        · have := Int.mul_nonneg ha y
          omega
      by_cases h2 : Sy38.less Sy38.zero (Sy38.upper k) = false
      · rw [if_pos h2]
        have : ¬ (k.b < 0 ∨ k.c < 0) := fun z => by
          rw [zu.mpr z] at h2
          cases h2
        rw [if_pos ⟨by omega, by omega⟩]
        rfl
      · rw [if_neg h2]
        have h3 : k.b < 0 ∨ k.c < 0 := zu.mp (by
          cases h : Sy38.less Sy38.zero (Sy38.upper k)
          · exact absurd h h2
          · rfl)
        rw [if_neg (by omega)]
        show some (Spn.mk _ _ _) = some (Spn.mk (decide (k.c < 0)) (ins (if Sy38.less (Sy38.lower k) Sy38.zero = true then Sy38.zero else Sy38.lower k)) (some (ins (Sy38.upper k))))
        rw [iu]
        by_cases h4 : k.c < 0
        · rw [if_pos h4, if_pos (ll.mpr (.inr h4)), ins_zero]
        · have h5 : ¬ Sy38.less (Sy38.lower k) Sy38.zero = true := fun z => by
            have := ll.mp z
            omega
          rw [if_neg h4, if_neg h5, il]
/-! ### The answers of meets and hides -/
def ansOf (x : Option Spn) : Sy38.Ans := match x with
  | none => Sy38.ok 0
  | some z => ⟨if z.al = true then 2 else 1, [told z.fr, match z.to with
    | none => []
    | some t => told t]⟩
theorem good_zero : Good Sy38.zero := ⟨.inl ⟨rfl, rfl⟩, by decide, by decide⟩
theorem good_lower {k : Sy38.Quad} (ha : 0 < k.a) (hD : Sy38.disc k < 2 ^ 80) : Good (Sy38.lower k) := ⟨.inr (.inr rfl), by show 0 < k.a.toNat; omega, by show (Sy38.disc k).toNat < 2 ^ 80; omega⟩
theorem good_upper {k : Sy38.Quad} (ha : 0 < k.a) (hD : Sy38.disc k < 2 ^ 80) : Good (Sy38.upper k) := ⟨.inr (.inl rfl), by show 0 < k.a.toNat; omega, by show (Sy38.disc k).toNat < 2 ^ 80; omega⟩
/-- what a span of the specification holds -/
structure GoodS (x : Sy38.Span) : Prop where
  fr : Good x.from_
  to : ∀ t, x.to_ = some t → Good t
theorem good_below {k : Sy38.Quad} {x : Sy38.Span} (ha : 0 ≤ k.a) (hD : Sy38.disc k < 2 ^ 80) (h : Sy38.below k = some x) : GoodS x := by
  unfold Sy38.below at h
  split at h
  · split at h
    · cases h
      exact ⟨good_zero, fun t e => nomatch e⟩
    · cases h
  · split at h
    · cases h
    · split at h
      · cases h
      · cases h
        refine ⟨?_, fun t e => ?_⟩
        · dsimp only
          split
          · exact good_zero
          · exact good_lower (by omega) hD
        · cases e
          exact good_upper (by omega) hD
theorem good_notAbove {k : Sy38.Quad} {x : Sy38.Span} (ha : 0 ≤ k.a) (hD : Sy38.disc k < 2 ^ 80) (h : Sy38.notAbove k = some x) : GoodS x := by
  unfold Sy38.notAbove at h
  split at h
  · split at h
    · cases h
      exact ⟨good_zero, fun t e => nomatch e⟩
    · cases h
  · split at h
    · cases h
    · split at h
      · cases h
      · cases h
        refine ⟨?_, fun t e => ?_⟩
        · dsimp only
          split
          · exact good_zero
          · exact good_lower (by omega) hD
        · cases e
          exact good_upper (by omega) hD
theorem ans_conv {x : Option Sy38.Span} (g : ∀ z, x = some z → GoodS z) : Sy38.toldSpan x = ansOf (x.map conv) := by
  cases x with
  | none => rfl
  | some z =>
    obtain ⟨g1, g2⟩ := g z rfl
    show Sy38.Ans.mk (if z.already = true then 2 else 1) [Sy38.told z.from_, Sy38.toldEnd z.to_] = Sy38.Ans.mk (if z.already = true then 2 else 1) [told (ins z.from_), _]
    rw [told_ins g1]
    cases e : z.to_ with
    | none =>
      dsimp only [conv]
      rw [e]
      rfl
    | some t =>
      dsimp only [conv]
      rw [e]
      show Sy38.Ans.mk _ [_, Sy38.told t] = Sy38.Ans.mk _ [_, told (ins t)]
      rw [told_ins (g2 t e)]
end Tw

namespace Tw
theorem told_zero : Sy38.told Sy38.zero = [0, 1] := by
  rw [told_eq good_zero (R := 0) (by decide) (by decide)]
  decide
theorem told_lower_zero {k : Sy38.Quad} (ha : 0 < k.a) (hD : Sy38.disc k < 2 ^ 80) (hc : k.c = 0) (hb : k.b ≤ 0) : Sy38.told (Sy38.lower k) = [0, 1] := by
  have dd : Sy38.disc k = k.b * k.b := by
    show k.b * k.b - k.a * k.c = _
    rw [hc]
    omega
  obtain ⟨t, ht⟩ : ∃ t : Nat, -k.b = (t : Int) := ⟨(-k.b).toNat, by omega⟩
  have eb : k.b = -(t : Int) := by omega
  have ed : Sy38.disc k = ((t * t : Nat) : Int) := by
    rw [dd, eb, Int.natCast_mul]
    grind
  have e1 : (Sy38.lower k).d = t * t := by
    show (Sy38.disc k).toNat = t * t
    rw [ed]
    rfl
  have nn : 0 ≤ Sy38.disc k := by rw [ed]; exact Int.natCast_nonneg _
  rw [told_eq (good_lower ha hD) (R := t) (by rw [e1]; exact Nat.le_refl _) (by
    rw [e1]
    have : (t + 1) * (t + 1) = t * t + 2 * t + 1 := by grind
    omega), ins_lower (Int.le_of_lt ha) nn]
  have eu : upperOf ⟨-k.b, -(k.b * k.b - k.a * k.c), k.a⟩ (t : Int) = 0 := by
    unfold upperOf
    dsimp only
    rw [hc, ht]
    have e2 : k.b * k.b - k.a * 0 = ((t * t : Nat) : Int) := by rw [← ed, dd]; omega
    rw [e2, ab_negnat]
    split
    · have : t * t = 0 := by omega
      have : t = 0 := by rcases Nat.mul_eq_zero.mp this with h | h <;> exact h
      omega
    · rw [if_pos (by rw [Int.natCast_mul])]
      omega
  have ew : (t : Int) * (t : Int) = ab (-(k.b * k.b - k.a * k.c)) := by
    have e2 : k.b * k.b - k.a * k.c = ((t * t : Nat) : Int) := by rw [hc, ← ed, dd]; omega
    rw [e2, ab_negnat, Int.natCast_mul]
  unfold toldOf
  rw [eu, if_pos ⟨ew, Int.zero_emod _⟩, Int.zero_ediv]
theorem ans_hides {k : Sy38.Quad} (ha : 0 ≤ k.a) (hD : Sy38.disc k < 2 ^ 80) : Sy38.toldSpan (Sy38.notAbove k) = ansOf (spanOf k.a k.b k.c 1) := by
  rw [ans_conv fun z h => good_notAbove ha hD h]
  have ts : told start = [0, 1] := by
    rw [← told_zero, told_ins good_zero, ins_zero]
  unfold spanOf Sy38.notAbove
  by_cases h0 : k.a = 0
  · rw [if_pos h0, if_pos h0]
    by_cases h1 : k.c ≤ 0
    · rw [if_pos h1, if_pos (by omega)]
      show ansOf (some (Spn.mk true (ins Sy38.zero) none)) = _
      rw [ins_zero]
    · rw [if_neg h1, if_neg (by omega)]
      rfl
  · rw [if_neg h0, if_neg h0]
    have dd : Sy38.disc k = k.b * k.b - k.a * k.c := rfl
    by_cases h1 : Sy38.disc k < 0
    · rw [if_pos h1, if_pos (show k.b * k.b - k.a * k.c + 1 ≤ 0 by omega)]
      rfl
    · rw [if_neg h1, if_neg (show ¬ (k.b * k.b - k.a * k.c + 1 ≤ 0) by omega)]
      have ul := upper_less_zero (k := k) (by omega) (by omega)
      by_cases h2 : 0 < k.b ∧ 0 < k.c
      · rw [if_pos (ul.mpr h2), if_pos ⟨by omega, by omega⟩]
        rfl
      · rw [if_neg (fun z => h2 (ul.mp z)), if_neg (show ¬ (k.b ≥ 1 ∧ ¬ k.c < 1) by omega)]
        have il := ins_lower (k := k) ha (by omega)
        have iu := ins_upper (k := k) ha (by omega)
        show ansOf (some (Spn.mk (decide (k.c ≤ 0)) (ins (if Sy38.less (Sy38.lower k) Sy38.zero = true then Sy38.zero else Sy38.lower k)) (some (ins (Sy38.upper k))))) = _
        rw [iu]
        have ed : decide (k.c ≤ 0) = decide (k.c < 1) := by
          by_cases z : k.c ≤ 0
          · rw [decide_eq_true z, decide_eq_true (show k.c < 1 by omega)]
          · rw [decide_eq_false z, decide_eq_false (show ¬ k.c < 1 by omega)]
        rw [ed]
        have acn : k.c < 0 → 0 < Sy38.disc k := fun z => by
          have := Int.mul_pos (show 0 < k.a by omega) (show 0 < -k.c by omega)
          have e : k.a * -k.c = -(k.a * k.c) := Int.mul_neg _ _
          have bb : 0 ≤ k.b * k.b := by rcases Int.le_total 0 k.b with z | z; exact Int.mul_nonneg z z; exact Int.mul_nonneg_of_nonpos_of_nonpos z z
          omega
        have fr : told (ins (if Sy38.less (Sy38.lower k) Sy38.zero = true then Sy38.zero else Sy38.lower k)) = told (if k.c < 1 then start else ⟨-k.b, -(k.b * k.b - k.a * k.c), k.a⟩) := by
          by_cases h3 : k.c < 0
          · rw [if_pos ((lower_less (k := k) (by omega) (acn h3)).mpr (.inr h3)), if_pos (by omega), ins_zero]
          · by_cases h4 : k.c = 0
            · rw [if_pos (show k.c < 1 by omega), ts]
              by_cases h5 : Sy38.less (Sy38.lower k) Sy38.zero = true
              · rw [if_pos h5, ins_zero, ts]
              · rw [if_neg h5]
                have hb : k.b ≤ 0 := by
                  rcases Int.lt_or_le 0 k.b with z | z
                  · have := Int.mul_pos z z
                    exact absurd ((lower_less (k := k) (by omega) (by rw [dd, h4]; omega)).mpr (.inl (by omega))) h5
                  · exact z
                rw [← told_ins (good_lower (by omega) hD)]
                exact told_lower_zero (by omega) hD h4 hb
            · have hb : k.b < 0 := by
                rcases Int.lt_or_le k.b 0 with z | z
                · exact z
                · have b0 : k.b = 0 := by omega
                  have := Int.mul_pos (show 0 < k.a by omega) (show 0 < k.c by omega)
                  rw [b0] at dd
                  omega
              have h5 : ¬ Sy38.less (Sy38.lower k) Sy38.zero = true := by
                rcases Int.lt_or_le 0 (Sy38.disc k) with z | z
                · rw [lower_less (k := k) (by omega) z]
                  omega
                · have d0 : (Sy38.disc k).toNat = 0 := by omega
                  unfold Sy38.less
                  rw [compare_zero, beq_iff_eq, sign1_mix]
                  unfold Sy38.lower
                  dsimp only
                  rw [d0, if_pos rfl]
                  have : Sy38.sgn (-k.b) = 1 := (sgn_key (-k.b)).1.mpr (by omega)
                  rw [this]
                  unfold mix
                  rw [if_neg (by decide), if_pos rfl]
                  decide
              rw [if_neg h5, if_neg (by omega), il]
        show Sy38.Ans.mk _ [_, _] = Sy38.Ans.mk _ [_, _]
        dsimp only
        rw [fr]
end Tw

namespace Tw
open Sy38 (Meet)
/-! ### Meetings in order -/
/-- the first of a meeting is an instant as the program makes them -/
def Gm (x : Meet) : Prop := GoodS x.span
def mcmp (x y : Meet) : Int := Sy38.compare x.span.from_ y.span.from_
theorem mcmp_flip (x y : Meet) : mcmp y x = -mcmp x y := compare_flip _ _
theorem mcmp_range (x y : Meet) : mcmp x y = 1 ∨ mcmp x y = 0 ∨ mcmp x y = -1 := compare_range _ _
theorem mcmp_trans {x y z : Meet} (gx : Gm x) (gy : Gm y) (gz : Gm z) (h1 : mcmp x y ≤ 0) (h2 : mcmp y z ≤ 0) : mcmp x z ≤ 0 := (compare_trans gx.fr.q gy.fr.q gz.fr.q h1 h2).1
theorem mless (x y : Meet) : Sy38.less x.span.from_ y.span.from_ = true ↔ 0 < mcmp y x := by
  rw [mcmp_flip x y]
  unfold Sy38.less
  rw [beq_iff_eq]
  have := mcmp_range x y
  unfold mcmp at *
  omega
def Sorted : List Meet → Prop := List.Pairwise fun x y => mcmp x y ≤ 0
theorem placed_at {x : Meet} : ∀ {A B : List Meet}, (∀ y ∈ A, mcmp y x ≤ 0) → (∀ y ∈ B, 0 < mcmp y x) → Sy38.placed x (A ++ B) = A ++ x :: B
  | [], [], _, _ => rfl
  | [], y :: B, _, h => by
    show Sy38.placed x (y :: B) = x :: y :: B
    unfold Sy38.placed
    rw [if_pos ((mless x y).mpr (h y (by simp)))]
  | y :: A, B, h, k => by
    show Sy38.placed x (y :: (A ++ B)) = y :: (A ++ x :: B)
    unfold Sy38.placed
    have : ¬ Sy38.less x.span.from_ y.span.from_ = true := fun z => by
      have := (mless x y).mp z
      have := h y (by simp)
      omega
    rw [if_neg this, placed_at (fun z hz => h z (by simp [hz])) k]
/-- **behind all that are not later**: the program seeks the place from the end -/
theorem placed_back {x : Meet} {l : List Meet} {p : Nat} (hs : Sorted l) (gx : Gm x) (gl : ∀ y ∈ l, Gm y) (hp : p ≤ l.length) (hb : ∀ (j : Nat) (y : Meet), p ≤ j → l[j]? = some y → 0 < mcmp y x)
    (ha : ∀ y, l[p - 1]? = some y → p = 0 ∨ mcmp y x ≤ 0) : Sy38.placed x l = l.take p ++ x :: l.drop p := by
  have e : l = l.take p ++ l.drop p := (List.take_append_drop p l).symm
  have hB : ∀ y ∈ l.drop p, 0 < mcmp y x := fun y hy => by
    obtain ⟨j, hj⟩ := List.mem_iff_getElem?.mp hy
    rw [List.getElem?_drop] at hj
    exact hb _ y (by omega) hj
  have hA : ∀ y ∈ l.take p, mcmp y x ≤ 0 := fun y hy => by
    obtain ⟨j, hj⟩ := List.mem_iff_getElem?.mp hy
    have hjp : j < p := by
      rcases Nat.lt_or_ge j p with h | h
      · exact h
      · rw [List.getElem?_eq_none (by rw [List.length_take]; omega)] at hj
        cases hj
    rw [List.getElem?_take_of_lt hjp] at hj
    have hlt : p - 1 < l.length := by omega
    have hz := ha l[p - 1] (List.getElem?_eq_getElem hlt)
    have hz' : mcmp l[p - 1] x ≤ 0 := by omega
    have gy : Gm y := gl y (List.mem_of_getElem? hj)
    by_cases hjj : j = p - 1
    · subst hjj
      rw [List.getElem?_eq_getElem hlt] at hj
      cases hj
      exact hz'
    · have hjl : j < l.length := by omega
      have hyj : l[j] = y := by
        rw [List.getElem?_eq_getElem hjl] at hj
        exact Option.some.inj hj
      have h1 : mcmp l[j] l[p - 1] ≤ 0 := List.pairwise_iff_getElem.mp hs j (p - 1) hjl hlt (by omega)
      rw [hyj] at h1
      exact mcmp_trans gy (gl _ (List.getElem_mem hlt)) gx h1 hz'
  rw [e]
  have := placed_at hA hB
  rw [this, List.take_append_drop]
theorem placed_split {x : Meet} : ∀ {l : List Meet}, ∃ A B, l = A ++ B ∧ Sy38.placed x l = A ++ x :: B ∧ (∀ y ∈ A, mcmp y x ≤ 0) ∧ (∀ y ∈ B.head?, 0 < mcmp y x)
  | [] => ⟨[], [], rfl, rfl, by simp, by simp⟩
  | y :: l => by
    unfold Sy38.placed
    by_cases h : Sy38.less x.span.from_ y.span.from_ = true
    · rw [if_pos h]
      exact ⟨[], y :: l, rfl, rfl, by simp, fun z hz => by
        have e : y = z := by simpa using hz
        subst e
        exact (mless x y).mp h⟩
    · rw [if_neg h]
      obtain ⟨A, B, e1, e2, e3, e4⟩ := placed_split (x := x) (l := l)
      refine ⟨y :: A, B, by rw [e1]; rfl, by rw [e2]; rfl, fun z hz => ?_, e4⟩
      rcases List.mem_cons.mp hz with hz | hz
      · subst hz
        have : ¬ 0 < mcmp z x := fun k => h ((mless x z).mpr k)
        omega
      · exact e3 z hz
theorem placed_mem {x y : Meet} {l : List Meet} : y ∈ Sy38.placed x l ↔ y = x ∨ y ∈ l := by
  obtain ⟨A, B, e1, e2, _, _⟩ := placed_split (x := x) (l := l)
  rw [e2, e1]
  simp only [List.mem_append, List.mem_cons]
  constructor
  · rintro (h | h | h)
    · exact .inr (.inl h)
    · exact .inl h
    · exact .inr (.inr h)
  · rintro (h | h | h)
    · exact .inr (.inl h)
    · exact .inl h
    · exact .inr (.inr h)
theorem placed_length {x : Meet} {l : List Meet} : (Sy38.placed x l).length = l.length + 1 := by
  obtain ⟨A, B, e1, e2, _, _⟩ := placed_split (x := x) (l := l)
  rw [e2, e1]
  simp only [List.length_append, List.length_cons]
  omega
theorem placed_sorted {x : Meet} {l : List Meet} (hs : Sorted l) (gx : Gm x) (gl : ∀ y ∈ l, Gm y) : Sorted (Sy38.placed x l) := by
  obtain ⟨A, B, e1, e2, e3, e4⟩ := placed_split (x := x) (l := l)
  rw [e2]
  rw [e1] at hs
  have hs' := List.pairwise_append.mp hs
  have hB : ∀ y ∈ B, 0 < mcmp y x := by
    cases hBB : B with
    | nil => simp
    | cons z B' =>
      rw [hBB] at hs' e4
      have hz : 0 < mcmp z x := e4 z (by simp)
      intro y hy
      rcases List.mem_cons.mp hy with rfl | hy
      · exact hz
      · have h1 := (List.pairwise_cons.mp hs'.2.1).1 y hy
        have gz : Gm z := gl z (by rw [e1, hBB]; simp)
        have gy : Gm y := gl y (by rw [e1, hBB]; simp [hy])
        have h2 : mcmp x z ≤ 0 := by rw [mcmp_flip z x]; omega
        have h3 := compare_trans gx.fr.q gz.fr.q gy.fr.q h2 h1
        have h4 : mcmp x y ≤ 0 := h3.1
        rw [mcmp_flip x y]
        rcases Int.lt_or_le (mcmp x y) 0 with k | k
        · omega
        · have := (h3.2 (by unfold mcmp at *; omega)).1
          have e : mcmp x z = 0 := this
          rw [mcmp_flip z x] at e
          omega
  refine List.pairwise_append.mpr ⟨hs'.1, List.pairwise_cons.mpr ⟨fun y hy => ?_, hs'.2.1⟩, fun y hy z hz => ?_⟩
  · have := hB y hy
    rw [mcmp_flip y x]
    omega
  · rcases List.mem_cons.mp hz with rfl | hz
    · exact e3 y hy
    · exact hs'.2.2 y hy z hz
/-! the pairs, row by row -/
def rowAll (s : Sy38.St) (i : Nat) : List Meet := ((List.range s.length).filter fun (j : Nat) => decide (i < j)).filterMap fun (j : Nat) => (Sy38.meets s i j).map fun (x : Sy38.Span) => ⟨i, j, x⟩
theorem all_rows (s : Sy38.St) : Sy38.all s = (List.range s.length).flatMap (rowAll s) := rfl
theorem filter_range (i : Nat) : ∀ n, (List.range n).filter (fun j => decide (i < j)) = (List.range (n - (i + 1))).map (fun k => i + 1 + k)
  | 0 => by simp
  | n + 1 => by
    rw [List.range_succ, List.filter_append, filter_range i n]
    by_cases h : i < n
    · have e : n + 1 - (i + 1) = (n - (i + 1)) + 1 := by omega
      rw [e, List.range_succ, List.map_append]
      congr 1
      simp [h]
      omega
    · have e : n + 1 - (i + 1) = 0 := by omega
      have e2 : n - (i + 1) = 0 := by omega
      rw [e, e2]
      simp [h]
def cellAll (s : Sy38.St) (i j : Nat) : Option Meet := (Sy38.meets s i j).map fun (x : Sy38.Span) => ⟨i, j, x⟩
theorem row_eq (s : Sy38.St) (i : Nat) : rowAll s i = (List.range (s.length - (i + 1))).filterMap fun k => cellAll s i (i + 1 + k) := by
  unfold rowAll
  rw [filter_range, List.filterMap_map]
  rfl
/-- what the loops have put in: whole rows below i, then k of row i -/
def soFar (s : Sy38.St) (i k : Nat) : List Meet := ((List.range i).flatMap (rowAll s) ++ (List.range k).filterMap fun k => cellAll s i (i + 1 + k)).foldl (fun (l : List Meet) (x : Meet) => Sy38.placed x l) []
theorem soFar_row (s : Sy38.St) (i : Nat) : soFar s i (s.length - (i + 1)) = soFar s (i + 1) 0 := by
  unfold soFar
  rw [← row_eq, List.range_succ, List.flatMap_append]
  simp
theorem soFar_all (s : Sy38.St) : soFar s s.length 0 = Sy38.ordered s := by
  unfold soFar Sy38.ordered
  rw [all_rows]
  simp
theorem soFar_step (s : Sy38.St) (i k : Nat) : soFar s i (k + 1) = match cellAll s i (i + 1 + k) with
    | none => soFar s i k
    | some x => Sy38.placed x (soFar s i k) := by
  unfold soFar
  rw [List.range_succ, List.filterMap_append, ← List.append_assoc, List.foldl_append]
  cases e : cellAll s i (i + 1 + k) with
  | none => simp [e]
  | some x => simp [e]
/-! how the rows are told -/
theorem toldMeets_snoc (x : Meet) : ∀ (l : List Meet) (b : Option Sy38.Inst), Sy38.toldMeets b (l ++ [x]) = Sy38.toldMeets b l ++ [(x.i : Int), (x.j : Int), if ((match l.getLast? with
    | none => b
    | some z => some z.span.from_).any fun (t : Sy38.Inst) => Sy38.compare t x.span.from_ == 0) = true then 1 else 0]
  | [], b => rfl
  | y :: l, b => by
    show (y.i : Int) :: (y.j : Int) :: _ :: Sy38.toldMeets (some y.span.from_) (l ++ [x]) = (y.i : Int) :: (y.j : Int) :: _ :: (Sy38.toldMeets (some y.span.from_) l ++ _)
    rw [toldMeets_snoc x l]
    congr 5
    cases l with
    | nil => rfl
    | cons z l =>
      rw [List.getLast?_cons_cons]
      cases e : (z :: l).getLast? with
      | none => simp at e
      | some w => rfl
theorem toldMeets_length : ∀ (l : List Meet) (b : Option Sy38.Inst), (Sy38.toldMeets b l).length = 3 * l.length
  | [], _ => rfl
  | y :: l, b => by
    show (_ :: _ :: _ :: Sy38.toldMeets (some y.span.from_) l).length = _
    simp only [List.length_cons]
    rw [toldMeets_length l]
    omega
end Tw

namespace Tw
open Sy38 (Body)
/-! ### Bodies within their bounds -/
structure BOk (b : Body) : Prop where
  x1 : -1000 ≤ b.x
  x2 : b.x ≤ 1000
  y1 : -1000 ≤ b.y
  y2 : b.y ≤ 1000
  u1 : -50 ≤ b.u
  u2 : b.u ≤ 50
  v1 : -50 ≤ b.v
  v2 : b.v ≤ 50
  r1 : 1 ≤ b.r
  r2 : b.r ≤ 200
  f2 : b.far ≤ 1000
structure SOk (s : Sy38.St) : Prop where
  len : s.length ≤ 8
  ok : ∀ b ∈ s, BOk b
  far : s.Pairwise fun a b => a.far ≠ b.far
def qd (e f : Body) (r : Int) : Sy38.Quad := ⟨(f.u - e.u) * (f.u - e.u) + (f.v - e.v) * (f.v - e.v), (f.x - e.x) * (f.u - e.u) + (f.y - e.y) * (f.v - e.v), (f.x - e.x) * (f.x - e.x) + (f.y - e.y) * (f.y - e.y) - r * r⟩
theorem quad_qd (s : Sy38.St) (i j : Nat) (r : Int) : Sy38.quad s i j r = qd (Sy38.bodyAt s i) (Sy38.bodyAt s j) r := rfl
theorem mul_bound {a b m n : Int} (ha : -m ≤ a) (ha' : a ≤ m) (hb : -n ≤ b) (hb' : b ≤ n) : -(m * n) ≤ a * b ∧ a * b ≤ m * n := by
  have h1 := Int.mul_nonneg (show 0 ≤ m - a by omega) (show 0 ≤ n - b by omega)
  have h2 := Int.mul_nonneg (show 0 ≤ m + a by omega) (show 0 ≤ n + b by omega)
  have h3 := Int.mul_nonneg (show 0 ≤ m - a by omega) (show 0 ≤ n + b by omega)
  have h4 := Int.mul_nonneg (show 0 ≤ m + a by omega) (show 0 ≤ n - b by omega)
  have e1 : (m - a) * (n - b) = m * n - m * b - a * n + a * b := by grind
  have e2 : (m + a) * (n + b) = m * n + m * b + a * n + a * b := by grind
  have e3 : (m - a) * (n + b) = m * n + m * b - a * n - a * b := by grind
  have e4 : (m + a) * (n - b) = m * n - m * b + a * n - a * b := by grind
  omega
theorem sq_nonneg (a : Int) : 0 ≤ a * a := by
  rcases Int.le_total 0 a with z | z
  · exact Int.mul_nonneg z z
  · exact Int.mul_nonneg_of_nonpos_of_nonpos z z
structure QOk (k : Sy38.Quad) : Prop where
  a1 : 0 ≤ k.a
  a2 : k.a ≤ 20000
  b1 : -400000 ≤ k.b
  b2 : k.b ≤ 400000
  c1 : -160000 ≤ k.c
  c2 : k.c ≤ 8000000
  d1 : -160000000000 ≤ Sy38.disc k
  d2 : Sy38.disc k ≤ 163200000000
theorem qok {e f : Body} {r : Int} (he : BOk e) (hf : BOk f) (h1 : -400 ≤ r) (h2 : r ≤ 400) : QOk (qd e f r) := by
  obtain ⟨ex1, ex2, ey1, ey2, eu1, eu2, ev1, ev2, _, _, _⟩ := he
  obtain ⟨fx1, fx2, fy1, fy2, fu1, fu2, fv1, fv2, _, _, _⟩ := hf
  have m1 := mul_bound (a := f.u - e.u) (b := f.u - e.u) (m := 100) (n := 100) (by omega) (by omega) (by omega) (by omega)
  have m2 := mul_bound (a := f.v - e.v) (b := f.v - e.v) (m := 100) (n := 100) (by omega) (by omega) (by omega) (by omega)
  have m3 := mul_bound (a := f.x - e.x) (b := f.u - e.u) (m := 2000) (n := 100) (by omega) (by omega) (by omega) (by omega)
  have m4 := mul_bound (a := f.y - e.y) (b := f.v - e.v) (m := 2000) (n := 100) (by omega) (by omega) (by omega) (by omega)
  have m5 := mul_bound (a := f.x - e.x) (b := f.x - e.x) (m := 2000) (n := 2000) (by omega) (by omega) (by omega) (by omega)
  have m6 := mul_bound (a := f.y - e.y) (b := f.y - e.y) (m := 2000) (n := 2000) (by omega) (by omega) (by omega) (by omega)
  have m7 := mul_bound (a := r) (b := r) (m := 400) (n := 400) (by omega) (by omega) (by omega) (by omega)
  have n1 := sq_nonneg (f.u - e.u)
  have n2 := sq_nonneg (f.v - e.v)
  have n3 := sq_nonneg (f.x - e.x)
  have n4 := sq_nonneg (f.y - e.y)
  have n5 := sq_nonneg r
  have A1 : 0 ≤ (qd e f r).a := by show 0 ≤ _ + _; omega
  have A2 : (qd e f r).a ≤ 20000 := by show _ + _ ≤ _; omega
  have B1 : -400000 ≤ (qd e f r).b := by show _ ≤ _ + _; omega
  have B2 : (qd e f r).b ≤ 400000 := by show _ + _ ≤ _; omega
  have C1 : -160000 ≤ (qd e f r).c := by show _ ≤ _ + _ - _; omega
  have C2 : (qd e f r).c ≤ 8000000 := by show _ + _ - _ ≤ _; omega
  generalize qd e f r = k at *
  have d1 := mul_bound (a := k.b) (b := k.b) (m := 400000) (n := 400000) (by omega) (by omega) (by omega) (by omega)
  have d2 := sq_nonneg k.b
  have e1 := Int.mul_nonneg A1 (show 0 ≤ k.c + 160000 by omega)
  have e2 := Int.mul_nonneg (show 0 ≤ 20000 - k.a by omega) (show (0 : Int) ≤ 160000 by omega)
  have e3 := Int.mul_nonneg A1 (show 0 ≤ 8000000 - k.c by omega)
  have x1 : k.a * (k.c + 160000) = k.a * k.c + 160000 * k.a := by grind
  have x3 : k.a * (8000000 - k.c) = 8000000 * k.a - k.a * k.c := by grind
  exact ⟨A1, A2, B1, B2, C1, C2, by unfold Sy38.disc; omega, by unfold Sy38.disc; omega⟩
def meetOf (e f : Body) : Option Spn := let k := qd e f ((e.r : Int) + (f.r : Int)); spanOf k.a k.b k.c 0
def hideOf (e f : Body) : Option Spn := if e.far > f.far ∨ (e.r : Int) - (f.r : Int) < 0 then none else let k := qd e f ((e.r : Int) - (f.r : Int)); spanOf k.a k.b k.c 1
section
variable {s : Sy38.St} {i j : Nat}
theorem bodyAt_get {b : Body} (h : s[i]? = some b) : Sy38.bodyAt s i = b := by
  unfold Sy38.bodyAt
  rw [List.getD_eq_getElem?_getD, h]
  rfl
theorem bodyAt_ok (S : SOk s) (h : i < s.length) : BOk (Sy38.bodyAt s i) := by
  rw [bodyAt_get (List.getElem?_eq_getElem h)]
  exact S.ok _ (List.getElem_mem h)
theorem sumR_eq : Sy38.sumR s i j = ((Sy38.bodyAt s i).r : Int) + ((Sy38.bodyAt s j).r : Int) := by
  unfold Sy38.sumR
  rw [Int.natCast_add]
theorem meets_eq (h : i ≠ j) : Sy38.meets s i j = Sy38.below (qd (Sy38.bodyAt s i) (Sy38.bodyAt s j) (((Sy38.bodyAt s i).r : Int) + ((Sy38.bodyAt s j).r : Int))) := by
  unfold Sy38.meets
  rw [if_neg h, quad_qd, sumR_eq]
theorem qok_meet (S : SOk s) (hi : i < s.length) (hj : j < s.length) : QOk (qd (Sy38.bodyAt s i) (Sy38.bodyAt s j) (((Sy38.bodyAt s i).r : Int) + ((Sy38.bodyAt s j).r : Int))) := by
  have a := bodyAt_ok S hi
  have b := bodyAt_ok S hj
  have := a.r2
  have := b.r2
  exact qok a b (by omega) (by omega)
theorem meetOf_conv (S : SOk s) (hi : i < s.length) (hj : j < s.length) (h : i ≠ j) : meetOf (Sy38.bodyAt s i) (Sy38.bodyAt s j) = (Sy38.meets s i j).map conv := by
  rw [meets_eq h]
  exact span_below (qok_meet S hi hj).a1
theorem meets_good (S : SOk s) (hi : i < s.length) (hj : j < s.length) (h : i ≠ j) {x : Sy38.Span} (e : Sy38.meets s i j = some x) : GoodS x := by
  rw [meets_eq h] at e
  have q := qok_meet S hi hj
  have := q.d2
  exact good_below q.a1 (by omega) e
theorem told_meets (S : SOk s) (hi : i < s.length) (hj : j < s.length) (h : i ≠ j) : Sy38.toldSpan (Sy38.meets s i j) = ansOf (meetOf (Sy38.bodyAt s i) (Sy38.bodyAt s j)) := by
  rw [meetOf_conv S hi hj h]
  exact ans_conv fun z e => meets_good S hi hj h e
theorem far_ne (S : SOk s) (hi : i < s.length) (hj : j < s.length) (h : i ≠ j) : (Sy38.bodyAt s i).far ≠ (Sy38.bodyAt s j).far := by
  rw [bodyAt_get (List.getElem?_eq_getElem hi), bodyAt_get (List.getElem?_eq_getElem hj)]
  have P := List.pairwise_iff_getElem.mp S.far
  rcases Nat.lt_or_ge i j with z | z
  · exact P i j hi hj z
  · exact fun e => P j i hj hi (by omega) e.symm
theorem told_hides (S : SOk s) (hi : i < s.length) (hj : j < s.length) (h : i ≠ j) : Sy38.toldSpan (Sy38.hides s i j) = ansOf (hideOf (Sy38.bodyAt s i) (Sy38.bodyAt s j)) := by
  have a := bodyAt_ok S hi
  have b := bodyAt_ok S hj
  have ar := a.r2
  have br := b.r2
  have ar1 := a.r1
  have br1 := b.r1
  have fn := far_ne S hi hj h
  unfold Sy38.hides hideOf
  by_cases c : (Sy38.bodyAt s i).far < (Sy38.bodyAt s j).far ∧ (Sy38.bodyAt s j).r ≤ (Sy38.bodyAt s i).r
  · have c1 : Sy38.nearer s i j = true := decide_eq_true c.1
    rw [if_pos ⟨c1, c.2⟩, if_neg (by omega), quad_qd]
    have e : (((Sy38.bodyAt s i).r - (Sy38.bodyAt s j).r : Nat) : Int) = ((Sy38.bodyAt s i).r : Int) - ((Sy38.bodyAt s j).r : Int) := by omega
    rw [e]
    have q := qok a b (r := ((Sy38.bodyAt s i).r : Int) - ((Sy38.bodyAt s j).r : Int)) (by omega) (by omega)
    have := q.d2
    exact ans_hides q.a1 (by omega)
  · have c1 : ¬ (Sy38.nearer s i j = true ∧ (Sy38.bodyAt s j).r ≤ (Sy38.bodyAt s i).r) := fun z => c ⟨of_decide_eq_true z.1, z.2⟩
    rw [if_neg c1, if_pos (by omega)]
    rfl
end
/-! what the program's arithmetic holds -/
def B (k : Nat) (i : Int) : Prop := i.natAbs < 2 ^ k
theorem B.mul {m n : Nat} {i j : Int} (h : B m i) (k : B n j) : B (m + n) (i * j) := by
  unfold B at *
  rw [Int.natAbs_mul, Nat.pow_add]
  exact Nat.mul_lt_mul'' h k
theorem B.mono {m n : Nat} {i : Int} (h : B m i) (k : m ≤ n) : B n i := Nat.lt_of_lt_of_le h (Nat.pow_le_pow_right (by decide) k)
theorem B.add {m : Nat} {i j : Int} (h : B m i) (k : B m j) : B (m + 1) (i + j) := by
  unfold B at *
  have := Int.natAbs_add_le i j
  rw [Nat.pow_succ]
  omega
theorem B.sub {m : Nat} {i j : Int} (h : B m i) (k : B m j) : B (m + 1) (i - j) := by
  unfold B at *
  have := Int.natAbs_sub_le i j
  rw [Nat.pow_succ]
  omega
theorem B.neg {m : Nat} {i : Int} (h : B m i) : B m (-i) := by
  unfold B at *
  rw [Int.natAbs_neg]
  exact h
theorem B.ab {m : Nat} {i : Int} (h : B m i) : B m (ab i) := by
  unfold Tw.ab
  split
  · exact h.neg
  · exact h
theorem B.sgn (i : Int) : B 1 (Sy38.sgn i) := by
  unfold B
  rcases sgn_range i with h | h | h <;> rw [h] <;> decide
theorem B.of {m : Nat} {i : Int} (h1 : -(2 ^ m : Nat) < i) (h2 : i < (2 ^ m : Nat)) : B m i := by
  unfold B
  omega
/-- an instant that the program holds -/
structure Small (x : Ins) : Prop where
  w : B 64 x.w
  q : B 64 x.q
  p1 : 0 < x.p
  p2 : x.p < 1073741824
theorem small_start : Small start := ⟨by unfold B; decide, by unfold B; decide, by decide, by decide⟩
/-- the instants of a span -/
structure SmallS (z : Spn) : Prop where
  fr : Small z.fr
  to : ∀ t, z.to = some t → Small t
theorem small_span {k : Sy38.Quad} {e : Int} {z : Spn} (q : QOk k) (h : spanOf k.a k.b k.c e = some z) : SmallS z := by
  have dd : Sy38.disc k = k.b * k.b - k.a * k.c := rfl
  have q1 := q.a1; have q2 := q.a2; have q3 := q.b1; have q4 := q.b2; have q5 := q.d1; have q6 := q.d2
  have bb : B 64 (-k.b) := .of (by omega) (by omega)
  have bd : B 64 (k.b * k.b - k.a * k.c) := .of (by omega) (by omega)
  unfold spanOf at h
  split at h
  · split at h
    · cases h
      exact ⟨small_start, fun t e => nomatch e⟩
    · cases h
  · split at h
    · cases h
    · split at h
      · cases h
      · cases h
        refine ⟨?_, fun t e => ?_⟩
        · dsimp only
          split
          · exact small_start
          · exact ⟨bb, bd.neg, by show 0 < k.a; omega, by show k.a < _; omega⟩
        · cases e
          exact ⟨bb, bd, by show 0 < k.a; omega, by show k.a < _; omega⟩
end Tw

namespace Tw
/-! ### Calls from numbers -/
/-- a call by its number and the numbers handed -/
def cOf (p : Nat) (ns : List Nat) : Sy38.Call := match p with
  | 0 => .begins
  | 1 => .body (ns.getD 0 0) (ns.getD 1 0) (ns.getD 2 0) (ns.getD 3 0) (ns.getD 4 0) (ns.getD 5 0)
  | 2 => .drop (ns.getD 0 0)
  | 3 => .meets (ns.getD 0 0) (ns.getD 1 0)
  | 4 => .hides (ns.getD 0 0) (ns.getD 1 0)
  | 5 => .compare (ns.getD 0 0) (ns.getD 1 0) (ns.getD 2 0) (ns.getD 3 0)
  | 6 => .order
  | 7 => .most
  | 8 => .seen (ns.getD 0 0)
  | 9 => .joined (ns.getD 0 0)
  | 10 => .free (ns.getD 0 0) (ns.getD 1 0) (ns.getD 2 0)
  | 11 => .next (ns.getD 0 0)
  | _ => .where_ (ns.getD 0 0) (ns.getD 1 0)
def sizes : List Nat := [0, 6, 1, 2, 2, 4, 0, 0, 1, 1, 3, 1, 2]
theorem shape_some {p : Int} {n k : Nat} (h : PySy38.shape p = some (n, k)) : k = 0 ∧ ∃ q : Nat, p = (q : Int) ∧ sizes[q]? = some n := by
  unfold PySy38.shape at h
  by_cases h0 : p = 0
  · rw [if_pos h0] at h; cases h; exact ⟨rfl, 0, h0, rfl⟩
  rw [if_neg h0] at h
  by_cases h1 : p = 1
  · rw [if_pos h1] at h; cases h; exact ⟨rfl, 1, h1, rfl⟩
  rw [if_neg h1] at h
  by_cases h2 : p = 2
  · rw [if_pos h2] at h; cases h; exact ⟨rfl, 2, h2, rfl⟩
  rw [if_neg h2] at h
  by_cases h3 : p = 3
  · rw [if_pos h3] at h; cases h; exact ⟨rfl, 3, h3, rfl⟩
  rw [if_neg h3] at h
  by_cases h4 : p = 4
  · rw [if_pos h4] at h; cases h; exact ⟨rfl, 4, h4, rfl⟩
  rw [if_neg h4] at h
  by_cases h5 : p = 5
  · rw [if_pos h5] at h; cases h; exact ⟨rfl, 5, h5, rfl⟩
  rw [if_neg h5] at h
  by_cases h6 : p = 6
  · rw [if_pos h6] at h; cases h; exact ⟨rfl, 6, h6, rfl⟩
  rw [if_neg h6] at h
  by_cases h7 : p = 7
  · rw [if_pos h7] at h; cases h; exact ⟨rfl, 7, h7, rfl⟩
  rw [if_neg h7] at h
  by_cases h8 : p = 8
  · rw [if_pos h8] at h; cases h; exact ⟨rfl, 8, h8, rfl⟩
  rw [if_neg h8] at h
  by_cases h9 : p = 9
  · rw [if_pos h9] at h; cases h; exact ⟨rfl, 9, h9, rfl⟩
  rw [if_neg h9] at h
  by_cases h10 : p = 10
  · rw [if_pos h10] at h; cases h; exact ⟨rfl, 10, h10, rfl⟩
  rw [if_neg h10] at h
  by_cases h11 : p = 11
  · rw [if_pos h11] at h; cases h; exact ⟨rfl, 11, h11, rfl⟩
  rw [if_neg h11] at h
  by_cases h12 : p = 12
  · rw [if_pos h12] at h; cases h; exact ⟨rfl, 12, h12, rfl⟩
  rw [if_neg h12] at h
  cases h
theorem whole_id (c : List (List Int)) : PySy38.whole c = c := by
  unfold PySy38.whole
  split <;> rfl
theorem natIn_nn {n : Int} {l : List Int} {x : Nat × List Int} (h : Sy38Neutral.natIn (n :: l) = some x) : x = (n.toNat, l) ∧ 0 ≤ n := by
  have h' : (if 0 ≤ n ∧ n < 2 ^ 32 then some (n.toNat, l) else none) = some x := h
  by_cases hc : 0 ≤ n ∧ n < 2 ^ 32
  · rw [if_pos hc] at h'
    exact ⟨(Option.some.inj h').symm, hc.1⟩
  · rw [if_neg hc] at h'
    cases h'
theorem some_nat : ∀ (k : Nat) (l : List Int) (x : List Nat × List Int), Sy38Neutral.some_ k l = some x → ∃ ns : List Nat, l.take k = ns.map (fun (n : Nat) => (n : Int)) ∧ ns.length = k ∧ x = (ns, l.drop k)
  | 0, l, x, h => by
    cases h
    exact ⟨[], by simp, rfl, by simp⟩
  | k + 1, [], x, h => by
    exact nomatch h
  | k + 1, n :: l, x, h => by
    unfold Sy38Neutral.some_ Sy38Neutral.many_ at h
    cases e : Sy38Neutral.natIn (n :: l) with
    | none =>
      rw [e] at h
      cases h
    | some y =>
      obtain ⟨ey, hn⟩ := natIn_nn e
      rw [e, ey] at h
      cases e2 : Sy38Neutral.many_ Sy38Neutral.natIn k l with
      | none =>
        rw [Option.bind_some, e2] at h
        cases h
      | some z =>
        rw [Option.bind_some, e2] at h
        cases h
        obtain ⟨ns, a, b, c⟩ := some_nat k l z e2
        refine ⟨n.toNat :: ns, ?_, by rw [List.length_cons, b], ?_⟩
        · rw [List.take_succ_cons, a, List.map_cons]
          congr 1
          omega
        · rw [c]
          simp
theorem all_some {k : Nat} {l : List Int} {f : List Nat → Sy38.Call} {c : Sy38.Call} (hl : l.length = k) (h : (Sy38Neutral.all_ (Sy38Neutral.some_ k l)).map f = some c) : ∃ ns : List Nat, l = ns.map (fun (n : Nat) => (n : Int)) ∧ ns.length = k ∧ c = f ns := by
  cases e : Sy38Neutral.some_ k l with
  | none =>
    rw [e] at h
    cases h
  | some x =>
    obtain ⟨ns, a, b, rfl⟩ := some_nat k l x e
    rw [List.take_of_length_le (by omega)] at a
    rw [e] at h
    unfold Sy38Neutral.all_ at h
    rw [Option.bind_some] at h
    have ed : (l.drop k).isEmpty = true := by
      rw [List.drop_of_length_le (by omega)]
      rfl
    dsimp only at h
    rw [if_pos ed] at h
    cases h
    exact ⟨ns, a, b, rfl⟩
theorem callOf_some {q n : Nat} {l : List Int} {c : Sy38.Call} (hq : sizes[q]? = some n) (hl : l.length = n) (h : Sy38Neutral.callOf ((q : Int) :: l) = some c) : ∃ ns : List Nat, l = ns.map (fun (n : Nat) => (n : Int)) ∧ ns.length = n ∧ c = cOf q ns := by
  match q, hq with
  | 0, hq => cases hq; exact all_some hl h
  | 1, hq => cases hq; exact all_some hl h
  | 2, hq => cases hq; exact all_some hl h
  | 3, hq => cases hq; exact all_some hl h
  | 4, hq => cases hq; exact all_some hl h
  | 5, hq => cases hq; exact all_some hl h
  | 6, hq => cases hq; exact all_some hl h
  | 7, hq => cases hq; exact all_some hl h
  | 8, hq => cases hq; exact all_some hl h
  | 9, hq => cases hq; exact all_some hl h
  | 10, hq => cases hq; exact all_some hl h
  | 11, hq => cases hq; exact all_some hl h
  | 12, hq => cases hq; exact all_some hl h
  | q + 13, hq => simp [sizes] at hq
/-! ### A line, call by call -/
/-- what is answered from a state on -/
def ans (s : Sy38.St) (cs : List (List (List Int))) : List Int := PyFlat.told (PyFlat.played (fun s c => Sy38Neutral.step s (c.headD [])) s cs)
/-- the calls that are left: well spelled, all of them asked -/
structure Left (rest : List Int) (cs : List (List (List Int))) : Prop where
  calls : ∃ f, PyFlat.calls PySy38.shape f rest = some cs
  asked : ∀ c ∈ cs, Sy38Neutral.asked1 (c.headD []) = true
theorem Left.nil {cs : List (List (List Int))} (h : Left [] cs) : cs = [] := by
  obtain ⟨f, e⟩ := h.calls
  unfold PyFlat.calls at e
  cases f <;> (cases e; rfl)
theorem Left.cons {p : Int} {r : List Int} {cs : List (List (List Int))} (h : Left (p :: r) cs) : ∃ (q n : Nat) (ns : List Nat) (cs' : List (List (List Int))), p = (q : Int) ∧ sizes[q]? = some n ∧ n ≤ r.length ∧ r.take n = ns.map (fun (n : Nat) => (n : Int)) ∧ ns.length = n ∧
    Left (r.drop n) cs' ∧ ∀ s, ans s cs = (((Sy38Neutral.out (Sy38.step s (cOf q ns)).2).length : Int) :: Sy38Neutral.out (Sy38.step s (cOf q ns)).2) ++ ans (Sy38.step s (cOf q ns)).1 cs' := by
  obtain ⟨⟨f, e⟩, ask⟩ := h
  cases f with
  | zero => exact nomatch e
  | succ f =>
    unfold PyFlat.calls PyFlat.call at e
    dsimp only at e
    cases es : PySy38.shape p with
    | none =>
      rw [es] at e
      exact nomatch e
    | some nk =>
      obtain ⟨n, k⟩ := nk
      obtain ⟨rfl, q, rfl, hq⟩ := shape_some es
      rw [es] at e
      dsimp only at e
      by_cases hl : r.length < n
      · rw [if_pos hl] at e
        exact nomatch e
      · rw [if_neg hl] at e
        dsimp only [PyFlat.rows] at e
        cases ec : PyFlat.calls PySy38.shape f (r.drop n) with
        | none =>
          rw [ec] at e
          exact nomatch e
        | some cs' =>
          rw [ec] at e
          cases e
          have a1 := ask _ List.mem_cons_self
          have a1' : (Sy38Neutral.callOf ((q : Int) :: r.take n)).isSome = true := a1
          obtain ⟨c, hc⟩ := Option.isSome_iff_exists.mp a1'
          obtain ⟨ns, b1, b2, b3⟩ := callOf_some hq (by rw [List.length_take]; omega) hc
          refine ⟨q, n, ns, cs', rfl, hq, by omega, b1, b2, ⟨⟨f, ec⟩, fun c hc => ask c (List.mem_cons_of_mem _ hc)⟩, fun s => ?_⟩
          have st : Sy38Neutral.step s ((q : Int) :: r.take n) = ((Sy38.step s (cOf q ns)).1, Sy38Neutral.out (Sy38.step s (cOf q ns)).2) := by
            unfold Sy38Neutral.step
            rw [hc, b3]
          show PyFlat.told ((Sy38Neutral.step s ((q : Int) :: r.take n)).2 :: PyFlat.played (fun s c => Sy38Neutral.step s (c.headD [])) (Sy38Neutral.step s ((q : Int) :: r.take n)).1 cs') = _
          rw [st]
          rfl
/-- how long the answers are together -/
theorem many_ans : ∀ (cs : List (List (List Int))) (s : Sy38.St), (ans s cs).length = Sy38Neutral.many s (cs.map fun c => c.headD []) + cs.length
  | [], s => rfl
  | c :: cs, s => by
    have ih := many_ans cs (Sy38Neutral.step s (c.headD [])).1
    show ((((Sy38Neutral.step s (c.headD [])).2.length : Int) :: (Sy38Neutral.step s (c.headD [])).2) ++ ans (Sy38Neutral.step s (c.headD [])).1 cs).length = ((Sy38Neutral.step s (c.headD [])).2.length + Sy38Neutral.many (Sy38Neutral.step s (c.headD [])).1 (cs.map fun c => c.headD [])) + (cs.length + 1)
    rw [List.length_append, List.length_cons, ih]
    omega
/-- **what is asked of a request**: calls well spelled; the answers not too long -/
theorem asked_left {ns : List Int} (h : PySy38.answers_asked ns = true) : ∃ cs, Left ns cs ∧ PySy38.answers ns = ans [] cs ∧ (ans [] cs).length ≤ 1000060 := by
  unfold PySy38.answers_asked at h
  unfold PySy38.answers
  cases e : PySy38.calls ns with
  | none =>
    rw [e] at h
    cases h
  | some ds =>
    rw [e] at h
    dsimp only at h ⊢
    unfold PySy38.calls at e
    cases ec : PyFlat.calls PySy38.shape ns.length ns with
    | none =>
      rw [ec] at e
      cases e
    | some cs =>
      rw [ec] at e
      have e' : ds = cs := by
        have := (Option.some.inj e).symm
        rw [this]
        have : PySy38.whole = id := funext whole_id
        rw [this, List.map_id]
      subst e'
      rw [Bool.and_eq_true] at h
      obtain ⟨h1, h2⟩ := h
      unfold Sy38Neutral.asked at h2
      rw [Bool.and_eq_true, Bool.and_eq_true, Bool.and_eq_true] at h2
      obtain ⟨a1, a2, a3, a4⟩ := h2
      have a3 := of_decide_eq_true a3
      have a4 : Sy38Neutral.many [] (ds.map fun c => c.headD []) ≤ 1000000 := of_decide_eq_true a4
      rw [List.length_map] at a3
      refine ⟨ds, ⟨⟨_, ec⟩, fun c hc => ?_⟩, rfl, ?_⟩
      · exact List.all_eq_true.mp a1 _ (List.mem_map.mpr ⟨c, hc, rfl⟩)
      · rw [many_ans]
        omega
/-! ### The bodies stay within their bounds -/
theorem sok_nil : SOk [] := ⟨by decide, fun b h => (nomatch h), List.Pairwise.nil⟩
theorem sok_step {s : Sy38.St} (S : SOk s) (c : Sy38.Call) : SOk (Sy38.step s c).1 := by
  cases c with
  | begins => exact sok_nil
  | body x y u v r f =>
    show SOk (if Sy38.PLACE < x ∨ Sy38.PLACE < y ∨ Sy38.SPEED < u ∨ Sy38.SPEED < v ∨ r < 1 ∨ Sy38.RADIUS < r ∨ Sy38.FAR < f then (s, Sy38.ok (-1)) else _).1
    unfold Sy38.PLACE Sy38.SPEED Sy38.RADIUS Sy38.FAR Sy38.BODIES
    by_cases h : 2000 < x ∨ 2000 < y ∨ 100 < u ∨ 100 < v ∨ r < 1 ∨ 200 < r ∨ 1000 < f
    · rw [if_pos h]
      exact S
    · rw [if_neg h]
      by_cases h2 : 8 ≤ s.length
      · rw [if_pos h2]
        exact S
      · rw [if_neg h2]
        by_cases h3 : (s.any fun (b : Sy38.Body) => b.far == f) = true
        · rw [if_pos h3]
          exact S
        · rw [if_neg h3]
          refine ⟨by rw [List.length_append, List.length_singleton]; omega, fun b hb => ?_, ?_⟩
          · rcases List.mem_append.mp hb with hb | hb
            · exact S.ok b hb
            · have e := List.mem_singleton.mp hb
              subst e
              constructor <;> dsimp only <;> omega
          · refine List.pairwise_append.mpr ⟨S.far, List.pairwise_singleton _ _, fun a ha b hb => ?_⟩
            have e := List.mem_singleton.mp hb
            subst e
            intro z
            exact h3 (List.any_eq_true.mpr ⟨a, ha, by rw [z]; exact beq_self_eq_true _⟩)
  | drop i =>
    show SOk (if s.length ≤ i then (s, Sy38.ok (-1)) else (s.eraseIdx i, _)).1
    by_cases h : s.length ≤ i
    · rw [if_pos h]
      exact S
    · rw [if_neg h]
      refine ⟨?_, fun b hb => S.ok b (List.mem_of_mem_eraseIdx hb), S.far.sublist (List.eraseIdx_sublist s i)⟩
      have := S.len
      rw [List.length_eraseIdx_of_lt (by omega)]
      omega
  | meets i j => exact S
  | hides i j => exact S
  | compare i j k l => exact S
  | order => exact S
  | most => exact S
  | seen t => exact S
  | joined t => exact S
  | free j a b => exact S
  | next t => exact S
  | where_ i t => exact S
end Tw

namespace Tw
open Sy38 (Body Meet)
/-! ### the signs of compare -/
theorem less_pos (t x : Sy38.Inst) : Sy38.less t x = decide (0 < Sy38.compare x t) := by
  unfold Sy38.less
  rw [compare_flip t x]
  have := compare_range t x
  generalize Sy38.compare t x = z at *
  by_cases h : z = -1
  · rw [h]; decide
  · rcases this with h1 | h1 | h1
    · rw [h1]; decide
    · rw [h1]; decide
    · exact absurd h1 h
/-! ### most -/
/-- whether a span has the instants just behind an instant -/
def goesOn (z : Spn) (t : Ins) : Bool := if 0 < cmp z.fr t then false else match z.to with
  | none => true
  | some e => decide (0 < cmp e t)
theorem goesOn_conv (x : Sy38.Span) (t : Sy38.Inst) : goesOn (conv x) (ins t) = (!Sy38.less t x.from_ && (match x.to_ with
  | none => true
  | some z => Sy38.less t z)) := by
  unfold goesOn conv
  dsimp only
  rw [cmp_eq, less_pos]
  by_cases h : 0 < Sy38.compare x.from_ t
  · rw [if_pos h, decide_eq_true h]
    rfl
  · rw [if_neg h, decide_eq_false h]
    cases x.to_ with
    | none => rfl
    | some z =>
      show decide (0 < cmp (ins z) (ins t)) = (true && Sy38.less t z)
      rw [cmp_eq, less_pos]
      rfl
def justP (t : Sy38.Inst) (x : Meet) : Bool := goesOn (conv x.span) (ins t)
theorem just_eq (l : List Meet) (t : Sy38.Inst) : Sy38.just l t = (l.filter (justP t)).length := by
  unfold Sy38.just
  congr 2
  funext x
  exact (goesOn_conv x.span t).symm
def mostStep (L : List Meet) (b : Nat × Option Sy38.Inst) (x : Meet) : Nat × Option Sy38.Inst := if b.1 < Sy38.just L x.span.from_ then (Sy38.just L x.span.from_, some x.span.from_) else b
def mostIn (L : List Meet) (k : Nat) : Nat × Option Sy38.Inst := (L.take k).foldl (mostStep L) (0, none)
theorem most_eq (s : Sy38.St) : Sy38.most s = mostIn (Sy38.ordered s) (Sy38.ordered s).length := by
  unfold mostIn
  rw [List.take_length]
  rfl
theorem take_snoc' {α : Type} {l : List α} {i : Nat} {x : α} (h : l[i]? = some x) : l.take (i + 1) = l.take i ++ [x] := by
  obtain ⟨hi, e⟩ := List.getElem?_eq_some_iff.mp h
  rw [List.take_succ_eq_append_getElem hi, e]
theorem mostIn_succ {L : List Meet} {k : Nat} {x : Meet} (h : L[k]? = some x) : mostIn L (k + 1) = mostStep L (mostIn L k) x := by
  unfold mostIn
  rw [take_snoc' h, List.foldl_append]
  rfl
theorem mostIn_ok (L : List Meet) : ∀ k, k ≤ L.length → match (mostIn L k).2 with
    | none => (mostIn L k).1 = 0
    | some t => (mostIn L k).1 = Sy38.just L t ∧ ∃ x ∈ L, t = x.span.from_
  | 0, _ => rfl
  | k + 1, h => by
    have ih := mostIn_ok L k (by omega)
    rw [mostIn_succ (List.getElem?_eq_getElem (show k < L.length by omega))]
    unfold mostStep
    by_cases c : (mostIn L k).1 < Sy38.just L L[k].span.from_
    · rw [if_pos c]
      exact ⟨rfl, _, List.getElem_mem _, rfl⟩
    · rw [if_neg c]
      exact ih
/-! ### at a whole instant -/
def midX (b : Body) (t : Int) : Int := b.x + b.u * t
def midY (b : Body) (t : Int) : Int := b.y + b.v * t
def apart (e f : Body) (t : Int) : Int := (midX f t - midX e t) * (midX f t - midX e t) + (midY f t - midY e t) * (midY f t - midY e t)
theorem at_apart (e f : Body) (r : Int) (t : Nat) : (qd e f r).at_ t = apart e f (t : Int) - r * r := by
  unfold Sy38.Quad.at_ qd apart midX midY
  dsimp only
  grind
def overB (e f : Body) (t : Int) : Bool := decide (apart e f t < ((e.r : Int) + (f.r : Int)) * ((e.r : Int) + (f.r : Int)))
def mayHide (e f : Body) : Bool := decide ((e.far : Int) < (f.far : Int)) && decide ((f.r : Int) ≤ (e.r : Int))
def hidesB (e f : Body) (t : Int) : Bool := mayHide e f && decide (apart e f t ≤ ((e.r : Int) - (f.r : Int)) * ((e.r : Int) - (f.r : Int)))
section
variable {s : Sy38.St} {t i j : Nat}
theorem nearer_B : Sy38.nearer s i j = decide (((Sy38.bodyAt s i).far : Int) < ((Sy38.bodyAt s j).far : Int)) := by
  unfold Sy38.nearer
  exact decide_eq_decide.mpr ⟨fun h => by omega, fun h => by omega⟩
theorem overAt_B : Sy38.overAt s t i j = (i != j && overB (Sy38.bodyAt s i) (Sy38.bodyAt s j) (t : Int)) := by
  unfold Sy38.overAt overB
  rw [quad_qd, sumR_eq, at_apart]
  congr 1
  exact decide_eq_decide.mpr ⟨fun h => by omega, fun h => by omega⟩
theorem nearOver_B : (Sy38.nearer s i j && Sy38.overAt s t i j) = (decide (((Sy38.bodyAt s i).far : Int) < ((Sy38.bodyAt s j).far : Int)) && overB (Sy38.bodyAt s i) (Sy38.bodyAt s j) (t : Int)) := by
  rw [nearer_B, overAt_B]
  by_cases h : i = j
  · subst h
    rw [decide_eq_false (Int.lt_irrefl _)]
    rfl
  · have : (i != j) = true := by simp [h]
    rw [this, Bool.true_and]
theorem hidesAt_B : Sy38.hidesAt s t i j = hidesB (Sy38.bodyAt s i) (Sy38.bodyAt s j) (t : Int) := by
  unfold Sy38.hidesAt hidesB mayHide
  rw [nearer_B, Bool.and_assoc, quad_qd, at_apart]
  congr 1
  by_cases h : (Sy38.bodyAt s j).r ≤ (Sy38.bodyAt s i).r
  · rw [decide_eq_true h, decide_eq_true (by omega : ((Sy38.bodyAt s j).r : Int) ≤ ((Sy38.bodyAt s i).r : Int))]
    congr 1
    have e : (((Sy38.bodyAt s i).r - (Sy38.bodyAt s j).r : Nat) : Int) = ((Sy38.bodyAt s i).r : Int) - ((Sy38.bodyAt s j).r : Int) := by omega
    rw [e]
    exact decide_eq_decide.mpr ⟨fun h => by omega, fun h => by omega⟩
  · rw [decide_eq_false h, decide_eq_false (by omega : ¬ ((Sy38.bodyAt s j).r : Int) ≤ ((Sy38.bodyAt s i).r : Int))]
    rfl
end
/-- what one sees of a body, looking at the first k others -/
def viewIn (s : Sy38.St) (t j k : Nat) : Nat := if (List.range k).any (fun (i : Nat) => Sy38.nearer s i j && Sy38.overAt s t i j) = true then 1 else 0
theorem any_range_succ (p : Nat → Bool) (k : Nat) : (List.range (k + 1)).any p = ((List.range k).any p || p k) := by
  rw [List.range_succ, List.any_append]
  simp
theorem viewIn_succ (s : Sy38.St) (t j k : Nat) : viewIn s t j (k + 1) = if (Sy38.nearer s k j && Sy38.overAt s t k j) = true then 1 else viewIn s t j k := by
  unfold viewIn
  rw [any_range_succ]
  by_cases h : (Sy38.nearer s k j && Sy38.overAt s t k j) = true
  · rw [h, if_pos rfl, Bool.or_true, if_pos rfl]
  · rw [if_neg h, Bool.not_eq_true _ |>.mp h, Bool.or_false]
theorem seen_two {s : Sy38.St} {t j i : Nat} (hi : i < s.length) (h : Sy38.hidesAt s t i j = true) : Sy38.seen s t j = 2 := by
  unfold Sy38.seen
  rw [if_pos (List.any_eq_true.mpr ⟨i, List.mem_range.mpr hi, h⟩)]
theorem seen_none {s : Sy38.St} {t j : Nat} (h : ∀ i, i < s.length → Sy38.hidesAt s t i j = false) : Sy38.seen s t j = viewIn s t j s.length := by
  unfold Sy38.seen viewIn
  rw [if_neg]
  intro z
  obtain ⟨i, hi, e⟩ := List.any_eq_true.mp z
  rw [h i (List.mem_range.mp hi)] at e
  cases e
/-- how many 0 there are -/
theorem count_seen (s : Sy38.St) (t : Nat) : ∀ l : List Nat, (l.filter fun (j : Nat) => Sy38.seen s t j == 0).length = ((l.map (Sy38.seen s t)).map fun (n : Nat) => (n : Int)).count 0
  | [] => rfl
  | j :: l => by
    have ih := count_seen s t l
    rw [List.map_cons, List.map_cons, List.count_cons, List.filter_cons]
    by_cases h : Sy38.seen s t j = 0
    · rw [if_pos (by rw [h]; rfl), List.length_cons, ih, h, if_pos (by rfl)]
    · rw [if_neg (by simpa using h), ih, if_neg (by simp; omega)]
      rfl
/-! ### groups -/
def joinStep (ls : List Nat) (x : Nat × Nat) : List Nat := ls.map fun (z : Nat) => if z = max (ls.getD x.1 x.1) (ls.getD x.2 x.2) then min (ls.getD x.1 x.1) (ls.getD x.2 x.2) else z
def rowJ (s : Sy38.St) (t i : Nat) : List (Nat × Nat) := ((List.range s.length).filter fun (j : Nat) => decide (i < j) && Sy38.overAt s t i j).map fun (j : Nat) => (i, j)
def cellJ (s : Sy38.St) (t i j : Nat) : Option (Nat × Nat) := if Sy38.overAt s t i j = true then some (i, j) else none
theorem joined_rows (s : Sy38.St) (t : Nat) : Sy38.joined s t = ((List.range s.length).flatMap (rowJ s t)).foldl joinStep (List.range s.length) := rfl
theorem rowJ_eq (s : Sy38.St) (t i : Nat) : rowJ s t i = (List.range (s.length - (i + 1))).filterMap fun k => cellJ s t i (i + 1 + k) := by
  unfold rowJ
  have e : (List.range s.length).filter (fun (j : Nat) => decide (i < j) && Sy38.overAt s t i j) = ((List.range s.length).filter (fun (j : Nat) => decide (i < j))).filter (fun (j : Nat) => Sy38.overAt s t i j) := by
    rw [List.filter_filter]
    congr 1
    funext j
    rw [Bool.and_comm]
  rw [e, filter_range]
  generalize List.range (s.length - (i + 1)) = l
  induction l with
  | nil => rfl
  | cons k l ih =>
    rw [List.map_cons, List.filter_cons, List.filterMap_cons]
    unfold cellJ
    by_cases h : Sy38.overAt s t i (i + 1 + k) = true
    · rw [if_pos h, if_pos h, List.map_cons, ih]
      rfl
    · rw [if_neg h, if_neg h, ih]
      rfl
def joinIn (s : Sy38.St) (t i k : Nat) : List Nat := ((List.range i).flatMap (rowJ s t) ++ (List.range k).filterMap fun k => cellJ s t i (i + 1 + k)).foldl joinStep (List.range s.length)
theorem joinIn_row (s : Sy38.St) (t i : Nat) : joinIn s t i (s.length - (i + 1)) = joinIn s t (i + 1) 0 := by
  unfold joinIn
  rw [← rowJ_eq, List.range_succ, List.flatMap_append]
  simp
theorem joinIn_all (s : Sy38.St) (t : Nat) : joinIn s t s.length 0 = Sy38.joined s t := by
  unfold joinIn
  rw [joined_rows]
  simp
theorem joinIn_step (s : Sy38.St) (t i k : Nat) : joinIn s t i (k + 1) = if Sy38.overAt s t i (i + 1 + k) = true then joinStep (joinIn s t i k) (i, i + 1 + k) else joinIn s t i k := by
  unfold joinIn
  rw [List.range_succ, List.filterMap_append, ← List.append_assoc, List.foldl_append]
  generalize ((List.range i).flatMap (rowJ s t) ++ (List.range k).filterMap fun k => cellJ s t i (i + 1 + k)).foldl joinStep (List.range s.length) = L
  unfold cellJ
  by_cases h : Sy38.overAt s t i (i + 1 + k) = true
  · rw [if_pos h]
    simp [h]
  · rw [if_neg h]
    simp [h]
theorem joinIn_length (s : Sy38.St) (t i k : Nat) : (joinIn s t i k).length = s.length := by
  unfold joinIn
  generalize ((List.range i).flatMap (rowJ s t) ++ (List.range k).filterMap fun k => cellJ s t i (i + 1 + k)) = P
  have : ∀ (P : List (Nat × Nat)) (ls : List Nat), (P.foldl joinStep ls).length = ls.length := by
    intro P
    induction P with
    | nil => intro ls; rfl
    | cons x P ih =>
      intro ls
      rw [List.foldl_cons, ih]
      unfold joinStep
      rw [List.length_map]
  rw [this, List.length_range]
/-- the two groups made one, as the program does it -/
def join2 (p q z : Nat) : Nat := if z = p ∨ z = q then min p q else z
theorem join2_eq (p q z : Nat) : join2 p q z = if z = max p q then min p q else z := by
  unfold join2
  by_cases h : z = p ∨ z = q
  · rw [if_pos h]
    split <;> omega
  · rw [if_neg h, if_neg (by omega)]
theorem joinStep_eq {ls : List Nat} {i j p q : Nat} (hi : ls[i]? = some p) (hj : ls[j]? = some q) : joinStep ls (i, j) = ls.map (join2 p q) := by
  unfold joinStep
  have e1 : ls.getD i i = p := by rw [List.getD_eq_getElem?_getD, hi]; rfl
  have e2 : ls.getD j j = q := by rw [List.getD_eq_getElem?_getD, hj]; rfl
  dsimp only
  rw [e1, e2]
  congr 1
  funext z
  rw [join2_eq]
/-! ### free -/
section
variable {k : Sy38.Quad} {n : Nat}
/-- the upper end is later than a whole instant -/
theorem sign1_up (w : Int) (D : Nat) (hD : 0 < D) : (0 < Sy38.sign1 (-w) 1 D ↔ w < 0 ∨ w * w < (D : Int)) := by
  have k1 := sgn_key (-w)
  have k3 := sgn_key (-w * -w - 1 * 1 * (D : Int))
  have e0 : Sy38.sgn 1 = 1 := by decide
  have hw : -w * -w = w * w := by grind
  unfold Sy38.sign1
  dsimp only
  rw [if_neg (by omega : ¬ D = 0), e0]
  rcases sgn_range (-w) with h | h | h
  · rw [h, if_neg (by decide), if_neg (by decide), if_pos rfl]
    have := k1.1.mp h
    exact ⟨fun _ => .inl (by omega), fun _ => by decide⟩
  · rw [h, if_pos rfl]
    have := k1.2.1.mp h
    have : w = 0 := by omega
    subst this
    exact ⟨fun _ => .inr (by omega), fun _ => by decide⟩
  · rw [h, if_neg (by decide), if_neg (by decide), if_neg (by decide)]
    have := k1.2.2.mp h
    rcases sgn_range (-w * -w - 1 * 1 * (D : Int)) with g | g | g
    · have := k3.1.mp g
      rw [g]
      exact ⟨fun z => absurd z (by decide), fun z => by omega⟩
    · have := k3.2.1.mp g
      rw [g]
      exact ⟨fun z => absurd z (by decide), fun z => by omega⟩
    · have := k3.2.2.mp g
      rw [g]
      exact ⟨fun _ => .inr (by omega), fun _ => by decide⟩
theorem sign1_low (w : Int) (D : Nat) (hD : 0 < D) : (Sy38.sign1 (-w) (-1) D < 0 ↔ 0 < w ∨ w * w < (D : Int)) := by
  have k1 := sgn_key (-w)
  have k3 := sgn_key (-w * -w - -1 * -1 * (D : Int))
  have e0 : Sy38.sgn (-1) = -1 := by decide
  have hw : -w * -w = w * w := by grind
  unfold Sy38.sign1
  dsimp only
  rw [if_neg (by omega : ¬ D = 0), e0]
  rcases sgn_range (-w) with h | h | h
  · rw [h, if_neg (by decide), if_neg (by decide), if_neg (by decide)]
    have := k1.1.mp h
    rcases sgn_range (-w * -w - -1 * -1 * (D : Int)) with g | g | g
    · have := k3.1.mp g
      rw [g]
      exact ⟨fun z => absurd z (by decide), fun z => by omega⟩
    · have := k3.2.1.mp g
      rw [g]
      exact ⟨fun z => absurd z (by decide), fun z => by omega⟩
    · have := k3.2.2.mp g
      rw [g]
      exact ⟨fun _ => .inr (by omega), fun _ => by decide⟩
  · rw [h, if_pos rfl]
    have := k1.2.1.mp h
    have : w = 0 := by omega
    subst this
    exact ⟨fun _ => .inr (by omega), fun _ => by decide⟩
  · rw [h, if_neg (by decide), if_neg (by decide), if_pos rfl]
    have := k1.2.2.mp h
    exact ⟨fun _ => .inl (by omega), fun _ => by decide⟩
theorem up_whole (ha : 0 < k.a) (hD : 0 < Sy38.disc k) (n : Nat) : 0 < Sy38.compare (Sy38.upper k) (Sy38.whole n) ↔ k.a * (n : Int) + k.b < 0 ∨ (k.a * (n : Int) + k.b) * (k.a * (n : Int) + k.b) < Sy38.disc k := by
  have e := compare_whole (Sy38.upper k) (n : Int)
  have e' : Sy38.compare (Sy38.upper k) (Sy38.whole n) = Sy38.sign1 (-(k.a * (n : Int) + k.b)) 1 (Sy38.disc k).toNat := by
    have q : (Sy38.upper k).p - (n : Int) * ((Sy38.upper k).q : Int) = -(k.a * (n : Int) + k.b) := by
      show -k.b - (n : Int) * ((k.a.toNat : Nat) : Int) = _
      rw [Int.toNat_of_nonneg (by omega)]
      grind
    rw [q] at e
    exact e
  rw [e', sign1_up _ _ (by omega), Int.toNat_of_nonneg (by omega)]
theorem low_whole (ha : 0 < k.a) (hD : 0 < Sy38.disc k) (n : Nat) : Sy38.compare (Sy38.lower k) (Sy38.whole n) < 0 ↔ 0 < k.a * (n : Int) + k.b ∨ (k.a * (n : Int) + k.b) * (k.a * (n : Int) + k.b) < Sy38.disc k := by
  have e := compare_whole (Sy38.lower k) (n : Int)
  have e' : Sy38.compare (Sy38.lower k) (Sy38.whole n) = Sy38.sign1 (-(k.a * (n : Int) + k.b)) (-1) (Sy38.disc k).toNat := by
    have q : (Sy38.lower k).p - (n : Int) * ((Sy38.lower k).q : Int) = -(k.a * (n : Int) + k.b) := by
      show -k.b - (n : Int) * ((k.a.toNat : Nat) : Int) = _
      rw [Int.toNat_of_nonneg (by omega)]
      grind
    rw [q] at e
    exact e
  rw [e', sign1_low _ _ (by omega), Int.toNat_of_nonneg (by omega)]
/-- below 0 at a whole instant, by the square -/
theorem at_sq (ha : 0 < k.a) (n : Nat) : k.at_ n < 0 ↔ (k.a * (n : Int) + k.b) * (k.a * (n : Int) + k.b) < Sy38.disc k := by
  have e : k.a * k.at_ n = (k.a * (n : Int) + k.b) * (k.a * (n : Int) + k.b) - Sy38.disc k := by
    unfold Sy38.Quad.at_ Sy38.disc
    grind
  constructor
  · intro h
    have := Int.mul_neg_of_pos_of_neg ha h
    omega
  · intro h
    rcases Int.lt_or_le (k.at_ n) 0 with z | z
    · exact z
    · have := Int.mul_nonneg (Int.le_of_lt ha) z
      omega
end
/-- whether a span has instants from one to another, as the program asks it -/
def between (z : Spn) (f l : Ins) : Bool := if (match z.to with
  | none => false
  | some e => decide (cmp e f ≤ 0)) = true then false else z.al || decide (cmp z.fr l < 0)
theorem between_some (al : Bool) (fr e f l : Ins) : between ⟨al, fr, some e⟩ f l = true ↔ 0 < cmp e f ∧ (al = true ∨ cmp fr l < 0) := by
  show (if decide (cmp e f ≤ 0) = true then false else al || decide (cmp fr l < 0)) = true ↔ _
  by_cases c1 : cmp e f ≤ 0
  · rw [if_pos (decide_eq_true c1)]
    exact ⟨fun z => absurd z (by decide), fun z => by omega⟩
  · rw [if_neg (by simpa using c1), Bool.or_eq_true, decide_eq_true_eq]
    exact ⟨fun z => ⟨by omega, z⟩, fun z => z.2⟩
theorem sq_mono {x y : Int} (h1 : x ≤ y) (h2 : y ≤ 0) : y * y ≤ x * x := by
  have := Int.mul_nonneg (show 0 ≤ -y by omega) (show 0 ≤ y - x by omega)
  have := Int.mul_nonneg (show 0 ≤ -x by omega) (show 0 ≤ y - x by omega)
  grind
theorem dips_iff {k : Sy38.Quad} {a b : Nat} : Sy38.dips k a b = true ↔ k.at_ a < 0 ∨ k.at_ b < 0 ∨ (0 < Sy38.disc k ∧ k.a * (a : Int) < -k.b ∧ -k.b < k.a * (b : Int)) := by
  unfold Sy38.dips
  simp only [Bool.or_eq_true, Bool.and_eq_true, decide_eq_true_eq]
theorem at_nn {k : Sy38.Quad} {n : Nat} (ha : 0 ≤ k.a) (hb : 0 ≤ k.b) (hc : 0 ≤ k.c) : ¬ k.at_ n < 0 := by
  unfold Sy38.Quad.at_
  have h1 := Int.mul_nonneg (Int.mul_nonneg ha (show (0 : Int) ≤ (n : Int) by omega)) (show (0 : Int) ≤ (n : Int) by omega)
  have h2 := Int.mul_nonneg hb (show (0 : Int) ≤ (n : Int) by omega)
  have h3 : 2 * k.b * (n : Int) = 2 * (k.b * (n : Int)) := by grind
  omega
theorem dips_below {k : Sy38.Quad} {a b : Nat} (ha : 0 ≤ k.a) (hb : k.a = 0 → k.b = 0) (hab : a ≤ b) : Sy38.dips k a b = match Sy38.below k with
    | none => false
    | some x => between (conv x) (ins (Sy38.whole a)) (ins (Sy38.whole b)) := by
  unfold Sy38.below
  rcases (show k.a = 0 ∨ 0 < k.a by omega) with h0 | h0
  · rw [if_pos h0]
    have hb0 := hb h0
    have e : ∀ n, k.at_ n = k.c := fun n => by
      unfold Sy38.Quad.at_
      rw [h0, hb0]
      grind
    have ed : ¬ 0 < Sy38.disc k := by
      unfold Sy38.disc
      rw [h0, hb0]
      omega
    by_cases hc : k.c < 0
    · rw [if_pos hc]
      have : Sy38.dips k a b = true := dips_iff.mpr (.inl (by rw [e]; exact hc))
      rw [this]
      rfl
    · rw [if_neg hc]
      have : ¬ Sy38.dips k a b = true := fun z => by
        rcases dips_iff.mp z with h | h | h
        · rw [e] at h; exact hc h
        · rw [e] at h; exact hc h
        · exact ed h.1
      exact Bool.not_eq_true _ |>.mp this
  · rw [if_neg (by omega)]
    have sa := at_sq (k := k) h0 a
    have sb := at_sq (k := k) h0 b
    have na : (0 : Int) ≤ k.a * (a : Int) := Int.mul_nonneg ha (by omega)
    have nab : k.a * (a : Int) ≤ k.a * (b : Int) := Int.mul_le_mul_of_nonneg_left (by omega) ha
    have qa := sq_nonneg (k.a * (a : Int) + k.b)
    have qb := sq_nonneg (k.a * (b : Int) + k.b)
    by_cases hD : Sy38.disc k ≤ 0
    · rw [if_pos hD]
      have : ¬ Sy38.dips k a b = true := fun z => by
        rcases dips_iff.mp z with h | h | h
        · have := sa.mp h; omega
        · have := sb.mp h; omega
        · omega
      exact Bool.not_eq_true _ |>.mp this
    · rw [if_neg hD]
      have hD : 0 < Sy38.disc k := by omega
      have zu := zero_less_upper h0 (Int.le_of_lt hD)
      by_cases hz : Sy38.less Sy38.zero (Sy38.upper k) = true
      · rw [if_neg (by rw [hz]; decide)]
        have zu := zu.mp hz
        have ll := lower_less h0 hD
        have ua := up_whole h0 hD a
        have lb := low_whole h0 hD b
        -- what the program asks
        have pr : between (conv ⟨if Sy38.less (Sy38.lower k) Sy38.zero = true then Sy38.zero else Sy38.lower k, some (Sy38.upper k), decide (k.c < 0)⟩) (ins (Sy38.whole a)) (ins (Sy38.whole b)) = true ↔ 0 < Sy38.compare (Sy38.upper k) (Sy38.whole a) ∧ (k.c < 0 ∨ Sy38.compare (if Sy38.less (Sy38.lower k) Sy38.zero = true then Sy38.zero else Sy38.lower k) (Sy38.whole b) < 0) := by
          have e := between_some (decide (k.c < 0)) (ins (if Sy38.less (Sy38.lower k) Sy38.zero = true then Sy38.zero else Sy38.lower k)) (ins (Sy38.upper k)) (ins (Sy38.whole a)) (ins (Sy38.whole b))
          rw [cmp_eq, cmp_eq, decide_eq_true_eq] at e
          exact e
        have main : Sy38.dips k a b = true ↔ 0 < Sy38.compare (Sy38.upper k) (Sy38.whole a) ∧ (k.c < 0 ∨ Sy38.compare (if Sy38.less (Sy38.lower k) Sy38.zero = true then Sy38.zero else Sy38.lower k) (Sy38.whole b) < 0) := by
          rw [dips_iff, sa, sb, ua]
          have small : ∀ x y : Int, x ≤ y → y ≤ 0 → y * y ≤ x * x := fun x y => sq_mono
          have hcD : k.c < 0 → k.b * k.b < Sy38.disc k := fun hc => by
            have := Int.mul_pos_of_neg_of_neg (show -k.a < 0 by omega) hc
            unfold Sy38.disc
            have : -k.a * k.c = -(k.a * k.c) := by grind
            omega
          by_cases hc : k.c < 0
          · refine ⟨fun z => ⟨?_, .inl hc⟩, fun z => ?_⟩
            · rcases z with z | z | z
              · exact .inr z
              · by_cases w : k.a * (a : Int) + k.b < 0
                · exact .inl w
                · have := small (-(k.a * (b : Int) + k.b)) (-(k.a * (a : Int) + k.b)) (by omega) (by omega)
                  have e1 : -(k.a * (b : Int) + k.b) * -(k.a * (b : Int) + k.b) = (k.a * (b : Int) + k.b) * (k.a * (b : Int) + k.b) := by grind
                  have e2 : -(k.a * (a : Int) + k.b) * -(k.a * (a : Int) + k.b) = (k.a * (a : Int) + k.b) * (k.a * (a : Int) + k.b) := by grind
                  exact .inr (by omega)
              · exact .inl (by omega)
            · have hcD := hcD hc
              rcases z.1 with w | w
              · by_cases v : 0 < k.a * (b : Int) + k.b
                · exact .inr (.inr ⟨hD, by omega, by omega⟩)
                · have := small k.b (k.a * (b : Int) + k.b) (by omega) (by omega)
                  exact .inr (.inl (by omega))
              · exact .inl w
          · have hbn : k.b < 0 := by omega
            have hl : ¬ Sy38.less (Sy38.lower k) Sy38.zero = true := fun z => by
              have := ll.mp z
              omega
            rw [if_neg hl, lb]
            refine ⟨fun z => ?_, fun z => ?_⟩
            · rcases z with z | z | z
              · refine ⟨.inr z, .inr ?_⟩
                by_cases v : 0 < k.a * (b : Int) + k.b
                · exact .inl v
                · have := small (k.a * (a : Int) + k.b) (k.a * (b : Int) + k.b) (by omega) (by omega)
                  exact .inr (by omega)
              · refine ⟨?_, .inr (.inr z)⟩
                by_cases w : k.a * (a : Int) + k.b < 0
                · exact .inl w
                · have := small (-(k.a * (b : Int) + k.b)) (-(k.a * (a : Int) + k.b)) (by omega) (by omega)
                  have e1 : -(k.a * (b : Int) + k.b) * -(k.a * (b : Int) + k.b) = (k.a * (b : Int) + k.b) * (k.a * (b : Int) + k.b) := by grind
                  have e2 : -(k.a * (a : Int) + k.b) * -(k.a * (a : Int) + k.b) = (k.a * (a : Int) + k.b) * (k.a * (a : Int) + k.b) := by grind
                  exact .inr (by omega)
              · exact ⟨.inl (by omega), .inr (.inl (by omega))⟩
            · obtain ⟨z1, z2⟩ := z
              rcases z1 with w | w
              · rcases z2 with v | v | v
                · exact absurd v hc
                · exact .inr (.inr ⟨hD, by omega, by omega⟩)
                · exact .inr (.inl v)
              · exact .inl w
        exact Bool.eq_iff_iff.mpr (main.trans pr.symm)
      · rw [if_pos (Bool.not_eq_true _ |>.mp hz)]
        have nb : 0 ≤ k.b ∧ 0 ≤ k.c := by
          have : ¬ (k.b < 0 ∨ k.c < 0) := fun q => hz (zu.mpr q)
          omega
        have : ¬ Sy38.dips k a b = true := fun z => by
          rcases dips_iff.mp z with h | h | h
          · exact at_nn ha nb.1 nb.2 h
          · exact at_nn ha nb.1 nb.2 h
          · omega
        exact Bool.not_eq_true _ |>.mp this
/-- of two bodies -/
theorem qd_half {e f : Body} {r : Int} (h : (qd e f r).a = 0) : (qd e f r).b = 0 := by
  have h' : (f.u - e.u) * (f.u - e.u) + (f.v - e.v) * (f.v - e.v) = 0 := h
  have h1 := sq_nonneg (f.u - e.u)
  have h2 := sq_nonneg (f.v - e.v)
  have e1 : (f.u - e.u) * (f.u - e.u) = 0 := by omega
  have e2 : (f.v - e.v) * (f.v - e.v) = 0 := by omega
  have u0 : f.u - e.u = 0 := by rcases Int.mul_eq_zero.mp e1 with z | z <;> exact z
  have v0 : f.v - e.v = 0 := by rcases Int.mul_eq_zero.mp e2 with z | z <;> exact z
  show (f.x - e.x) * (f.u - e.u) + (f.y - e.y) * (f.v - e.v) = 0
  rw [u0, v0]
  omega
/-- whether the body e, nearer than f, lies over it somewhere from one to another -/
def covers (e f : Body) (a b : Nat) : Bool := decide ((e.far : Int) < (f.far : Int)) && (match meetOf e f with
  | none => false
  | some z => between z (ins (Sy38.whole a)) (ins (Sy38.whole b)))
theorem covers_eq {s : Sy38.St} (S : SOk s) {i j a b : Nat} (hi : i < s.length) (hj : j < s.length) (hab : a ≤ b) : (Sy38.nearer s i j && (i != j && Sy38.dips (Sy38.quad s i j (Sy38.sumR s i j)) a b)) = covers (Sy38.bodyAt s i) (Sy38.bodyAt s j) a b := by
  unfold covers
  rw [nearer_B]
  by_cases h : i = j
  · subst h
    rw [decide_eq_false (Int.lt_irrefl _)]
    rfl
  · have e : (i != j) = true := by simp [h]
    have q := qok_meet S hi hj
    rw [e, Bool.true_and, quad_qd, sumR_eq, dips_below q.a1 qd_half hab, meetOf_conv S hi hj h, meets_eq h]
    cases Sy38.below (qd (Sy38.bodyAt s i) (Sy38.bodyAt s j) (((Sy38.bodyAt s i).r : Int) + ((Sy38.bodyAt s j).r : Int))) <;> rfl
theorem free_no {s : Sy38.St} (S : SOk s) {i j a b : Nat} (hi : i < s.length) (hj : j < s.length) (hab : a ≤ b) (h : covers (Sy38.bodyAt s i) (Sy38.bodyAt s j) a b = true) : Sy38.free s j a b = false := by
  refine Bool.not_eq_true _ |>.mp fun z => ?_
  have := List.all_eq_true.mp z i (List.mem_range.mpr hi)
  rw [covers_eq S hi hj hab, h] at this
  cases this
theorem free_yes {s : Sy38.St} (S : SOk s) {j a b : Nat} (hj : j < s.length) (hab : a ≤ b) (h : ∀ i, i < s.length → covers (Sy38.bodyAt s i) (Sy38.bodyAt s j) a b = false) : Sy38.free s j a b = true := by
  refine List.all_eq_true.mpr fun i hi => ?_
  have hi := List.mem_range.mp hi
  rw [covers_eq S hi hj hab, h i hi]
  rfl
/-! ### next -/
theorem find_none {p : Meet → Bool} {L : List Meet} (h : ∀ (i : Nat) (x : Meet), L[i]? = some x → p x = false) : L.find? p = none := by
  refine List.find?_eq_none.mpr fun x hx => ?_
  obtain ⟨i, e⟩ := List.getElem?_of_mem hx
  rw [h i x e]
  decide
theorem find_at {p : Meet → Bool} : ∀ {L : List Meet} {i : Nat} {x : Meet}, L[i]? = some x → p x = true → (∀ (k : Nat) (y : Meet), k < i → L[k]? = some y → p y = false) → L.find? p = some x
  | [], i, x, h, _, _ => by simp at h
  | y :: L, 0, x, h, hp, _ => by
    have e : y = x := Option.some.inj h
    subst e
    exact List.find?_cons_of_pos hp
  | y :: L, i + 1, x, h, hp, hn => by
    have hy := hn 0 y (by omega) rfl
    rw [List.find?_cons_of_neg (by rw [hy]; decide)]
    exact find_at (L := L) (i := i) h hp fun k z hk e => hn (k + 1) z (by omega) e
theorem next_less (t : Nat) (x : Meet) : Sy38.less (Sy38.whole t) x.span.from_ = decide (0 < cmp (ins x.span.from_) (ins (Sy38.whole t))) := by
  rw [less_pos, cmp_eq]
theorem ins_whole (n : Nat) : ins (Sy38.whole n) = ⟨(n : Int), 0, 1⟩ := by
  unfold ins Sy38.whole
  dsimp only
  congr 1
theorem small_whole {n : Nat} (h : n ≤ 4294967296) : Small ⟨(n : Int), 0, 1⟩ := by
  refine ⟨?_, ?_, ?_, ?_⟩
  · exact B.of (m := 64) (i := (n : Int)) (by omega) (by omega)
  · exact (by unfold B; decide : B 64 0)
  · exact (by decide : (0 : Int) < 1)
  · exact (by decide : (1 : Int) < 1073741824)
/-! ### how many there are that differ -/
def dd (σ : List Int) (v : Int) : List Int := if σ.any (· == v) then σ else σ ++ [v]
theorem dd_any {bs : List Nat} {σ : List Int} {n : Nat} (h : ∀ m : Nat, (bs.any fun x => m == x) = σ.any (· == (m : Int))) : ∀ m : Nat, ((n :: bs).any fun x => m == x) = (σ ++ [(n : Int)]).any (· == (m : Int)) := by
  intro m
  rw [List.any_cons, h m, List.any_append, List.any_cons, List.any_nil, Bool.or_false, Bool.or_comm]
  congr 1
  by_cases e : m = n
  · subst e
    simp
  · rw [beq_eq_false_iff_ne.mpr e, beq_eq_false_iff_ne.mpr (by omega)]
theorem loop_len : ∀ (l bs : List Nat) (σ : List Int), bs.length = σ.length → (∀ m : Nat, (bs.any fun x => m == x) = σ.any (· == (m : Int))) → (List.eraseDupsBy.loop (fun x y => x == y) l bs).length = ((l.map fun (n : Nat) => (n : Int)).foldl dd σ).length
  | [], bs, σ, hl, _ => by
    unfold List.eraseDupsBy.loop
    rw [List.length_reverse]
    exact hl
  | n :: l, bs, σ, hl, h => by
    unfold List.eraseDupsBy.loop
    rw [List.map_cons, List.foldl_cons]
    have hn := h n
    by_cases c : (bs.any fun x => n == x) = true
    · rw [c] at hn
      have e : dd σ (n : Int) = σ := by unfold dd; rw [if_pos hn.symm]
      rw [e]
      have := loop_len l bs σ hl h
      simp only [c]
      exact this
    · have c := Bool.not_eq_true _ |>.mp c
      rw [c] at hn
      have e : dd σ (n : Int) = σ ++ [(n : Int)] := by unfold dd; rw [if_neg (by rw [← hn]; decide)]
      rw [e]
      have := loop_len l (n :: bs) (σ ++ [(n : Int)]) (by simp [hl]) (dd_any h)
      simp only [c]
      exact this
theorem dups_len (l : List Nat) : l.eraseDups.length = ((l.map fun (n : Nat) => (n : Int)).foldl dd []).length := by
  unfold List.eraseDups List.eraseDupsBy
  exact loop_len l [] [] rfl fun m => rfl
theorem range_getD (ns : List Int) : (List.range ns.length).map (fun i => ns.getD i 0) = ns := by
  apply List.ext_getElem
  · simp
  · intro i h1 h2
    simp at h1
    rw [List.getElem_map, List.getElem_range, List.getD_eq_getElem?_getD, List.getElem?_eq_getElem h2]
    rfl
end Tw

-- the layer
set_option Elab.async false
set_option linter.all false
set_option maxRecDepth 100000
/-! THE HAND LAYER, for ints, bools, texts, own classes, lists, tuples, dicts, comprehensions, walks over dicts, enumerate, zip, reversed, texts, calls, loops. Paste it whole ahead of your own text; what your proof does not reach may be deleted. -/
namespace L2
open PySem PySem.Spec PyProof.Rows

/-- a key: an int or a str -/
abbrev Key := Sum Int Str
def keyIs : Key → Value → Bool
  | .inl k, v => Value.isInt k v
  | .inr x, v => Value.isStrOf x v
def keyH (w : World) : Key → Int
  | .inl k => hashInt k
  | .inr x => hashStr w x
theorem keyIs_shape : ∀ {k : Key} {v : Value}, keyIs k v = true → (∃ i t, k = Sum.inl i ∧ v = Value.int i t) ∨ (∃ x t, k = Sum.inr x ∧ v = Value.str x t)
  | .inl i, v, h => by
    obtain ⟨t, e⟩ := Value.isInt_shape (k := i) (v := v) h
    exact .inl ⟨i, t, rfl, e⟩
  | .inr x, v, h => by
    obtain ⟨t, e⟩ := Value.isStrOf_shape (x := x) (v := v) h
    exact .inr ⟨x, t, rfl, e⟩
theorem key_ll (a b : Int) : decide ((Sum.inl a : Key) = Sum.inl b) = (a == b) := by
  by_cases e : a = b
  · subst e; simp
  · have h : ¬ (Sum.inl a : Key) = Sum.inl b := fun q => e (Sum.inl.inj q)
    rw [decide_eq_false h]
    exact (beq_eq_false_iff_ne.mpr e).symm
theorem key_rr (a b : Str) : decide ((Sum.inr a : Key) = Sum.inr b) = decide (a = b) := by
  by_cases e : a = b
  · subst e; simp
  · have h : ¬ (Sum.inr a : Key) = Sum.inr b := fun q => e (Sum.inr.inj q)
    rw [decide_eq_false h, decide_eq_false e]
theorem key_lr (a : Int) (b : Str) : decide ((Sum.inl a : Key) = Sum.inr b) = false := decide_eq_false (fun q => nomatch q)
theorem key_rl (a : Str) (b : Int) : decide ((Sum.inr a : Key) = Sum.inl b) = false := decide_eq_false (fun q => nomatch q)

def mixKind (prog : Program) (w : World) : PySem.KeyKind prog w Key where
  is := keyIs
  hash := keyH w
  inj := fun v a b ha hb => by
    rcases keyIs_shape ha with ⟨i, t, rfl, rfl⟩ | ⟨x, t, rfl, rfl⟩
    · rcases keyIs_shape hb with ⟨j, u, rfl, e⟩ | ⟨y, u, rfl, e⟩
      · injection e with e1 _; rw [e1]
      · exact nomatch e
    · rcases keyIs_shape hb with ⟨j, u, rfl, e⟩ | ⟨y, u, rfl, e⟩
      · exact nomatch e
      · injection e with e1 _; rw [e1]
  byValue := fun k v h => by
    rcases keyIs_shape h with ⟨i, t, rfl, rfl⟩ | ⟨x, t, rfl, rfl⟩ <;> rfl
  pyHash := fun hv h => by
    rcases keyIs_shape hv with ⟨i, t, rfl, rfl⟩ | ⟨x, t, rfl, rfl⟩
    · exact wpAny_pyHash_int h
    · exact wpAny_pyHash_str h
  eqBool := fun hu hv h => by
    rcases keyIs_shape hu with ⟨i, t, rfl, rfl⟩ | ⟨x, t, rfl, rfl⟩
    · rcases keyIs_shape hv with ⟨j, u, rfl, rfl⟩ | ⟨y, u, rfl, rfl⟩
      · rw [key_ll] at h; exact wpAny_eqBool_int h
      · rw [key_lr] at h; exact SeqAt.EqAt.int_str i t y u _ _ _ _ h
    · rcases keyIs_shape hv with ⟨j, u, rfl, rfl⟩ | ⟨y, u, rfl, rfl⟩
      · rw [key_rl] at h; exact SeqAt.EqAt.str_int x t j u _ _ _ _ h
      · rw [key_rr] at h; exact wpAny_eqBool_str h
  «strs» := fun k x t v h => by
    rcases keyIs_shape h with ⟨i, u, rfl, e⟩ | ⟨y, u, rfl, e⟩
    · exact nomatch e
    · injection e with e1 _
      subst e1
      cases v <;> rfl

end L2

namespace L2
open PySem PySem.Spec PyProof.Rows

/-- a value, without the heap -/
inductive V where
  | non | bl (b : Bool) | int (i : Int) | str (x : Str) | byt (b : Array UInt8) | flt (b : UInt64) | ref (a : Addr) | ty (n : String)
  deriving DecidableEq

def RelV : V → Value → Prop
  | .non, u => u = Value.none
  | .bl b, u => u = Value.bool b
  | .int i, u => ∃ t, u = Value.int i t
  | .str x, u => ∃ t, u = Value.str x t
  | .byt b, u => ∃ t, u = Value.bytes b t
  | .flt b, u => ∃ t, u = Value.float b t
  | .ref a, u => u = Value.ref a
  | .ty n, u => u = Value.type n

abbrev Vals : List V → List Value → Prop := Paired RelV
theorem Vals.length {xs : List V} {us : List Value} (r : Vals xs us) : xs.length = us.length := Paired.length r
theorem Vals.get : ∀ {xs : List V} {us : List Value} {i : Nat} {x : V}, Vals xs us → xs[i]? = some x → ∃ u, us[i]? = some u ∧ RelV x u
  | _, _, _, _, .nil, e => by simp at e
  | _, _, 0, _, .cons r _, e => by simp at e; subst e; exact ⟨_, rfl, r⟩
  | _, _, i + 1, x, .cons _ t, e => by
    obtain ⟨u, h1, h2⟩ := Vals.get (i := i) (x := x) t (by simpa using e)
    exact ⟨u, by simpa using h1, h2⟩
theorem Vals.append : ∀ {xs ys : List V} {us ws : List Value}, Vals xs us → Vals ys ws → Vals (xs ++ ys) (us ++ ws)
  | _, _, _, _, .nil, s => s
  | _, _, _, _, .cons r t, s => .cons r (Vals.append t s)
theorem Vals.take : ∀ {xs : List V} {us : List Value} (n : Nat), Vals xs us → Vals (xs.take n) (us.take n)
  | _, _, 0, _ => .nil
  | _, _, _ + 1, .nil => .nil
  | _, _, n + 1, .cons r t => .cons r (Vals.take n t)
theorem Vals.drop : ∀ {xs : List V} {us : List Value} (n : Nat), Vals xs us → Vals (xs.drop n) (us.drop n)
  | _, _, 0, r => r
  | _, _, _ + 1, .nil => .nil
  | _, _, n + 1, .cons _ t => Vals.drop n t

def RelO : Option V → Option Value → Prop
  | some v, some u => RelV v u
  | none, none => True
  | _, _ => False
def KV {κ : Type} : List (κ × V) → List (κ × Value) → Prop := Paired fun (p : κ × V) (q : κ × Value) => p.1 = q.1 ∧ RelV p.2 q.2

/-- a key of a dict (00_mix): an int or a text -/
def kV : Key → V
  | .inl i => .int i
  | .inr x => .str x

/-- what stands at a tracked address -/
inductive HO where
  /-- a list -/
  | lst (xs : List V)
  /-- a tuple (never changes) -/
  | tup (xs : List V)
  /-- a dict whose keys are ints and texts; one whose keys are tuples of ints and texts (the empty one is both) -/
  | dK (kvs : List (Key × V)) | dT (kvs : List (List Key × V))
  /-- a set of ints: its members, its size -/
  | set (S : Int → Bool) (n : Nat)
  /-- an instance of the class at C, its dict at dx, its attributes -/
  | ins (C dx : Addr) (fs : List (Str × V))
  /-- the dict of the instance at x -/
  | own (x : Addr)
  /-- the dict of an exception -/
  | xd (fs : List (Str × V))
  /-- a bound method, f of x -/
  | met (f x : Addr)
  /-- a range object lo, lo + 1, .. below hi -/
  | rng (lo hi : Int)
  /-- a thing that is known to the object (the script; a dict while a loop walks it): read, never written while it is so -/
  | frz (o : Obj) (u : HO)
  /-- a code object's table -/
  | tbl (ps : Array Value)
  /-- any other thing, by what is true of its one object (a def of one's own: SetO a S n := HO.ext fun h => ..) -/
  | ext (φ : Heap → Prop)

abbrev Hp := Addr → Option HO
def upd (H : Hp) (a : Addr) (o : HO) : Hp := fun b => if b = a then some o else H b
theorem upd_same {H : Hp} {a : Addr} {o : HO} : upd H a o a = some o := by unfold upd; rw [if_pos rfl]
theorem upd_ne {H : Hp} {a b : Addr} {o : HO} (h : b ≠ a) : upd H a o b = H b := by unfold upd; rw [if_neg h]
/-- two objects of different content stand apart -/
theorem ne_of {H : Hp} {a b : Addr} {o u : HO} (h : H a = some o) (h' : H b = some u) (d : o ≠ u) : a ≠ b := by
  intro e; subst e; rw [h] at h'; exact d (Option.some.inj h')
theorem ne_of_none {H : Hp} {a b : Addr} {o : HO} (h : H a = some o) (h' : H b = none) : a ≠ b := by
  intro e; subst e; rw [h] at h'; cases h'

section
variable (P : Program) (w : World)
def ObjOk (H : Hp) (h : Heap) (a : Addr) : HO → Prop
  | .lst xs => xs.length ≤ sizeLine ∧ ∃ (its : List Value) (n : Nat), Vals xs its ∧ h.get? a = some { cls := .type "list", data := .seq its.toArray n }
  | .tup xs => xs.length ≤ sizeLine ∧ ∃ its : List Value, Vals xs its ∧ IsTup h a its.toArray
  | .dK kvs => kvs.length ≤ sizeLine ∧ (a == sysModules) = false ∧ ∃ vs, KV kvs vs ∧ h.DictOf (mixKind P w) a vs
  | .dT kvs => kvs.length ≤ sizeLine ∧ (a == sysModules) = false ∧ ∃ xs : List (List Key × Addr × Value),
      Paired (fun (p : List Key × V) (q : List Key × Addr × Value) => p.1 = q.1 ∧ H q.2.1 = some (.tup (p.1.map kV)) ∧ RelV p.2 q.2.2) kvs xs ∧
      ∃ o es ep, h.get? a = some o ∧ o.ExactDict ∧ o.data = .dict es ep ∧ es.toList = xs.map (entryOfKey (tupleKind (mixKind P w))) ∧ (xs.map (·.1)).Nodup
  | .set S n => h.SetOf (intKind P w) a S n
  | .ins C dx fs => H dx = some (.own a) ∧ fs.length ≤ 1000 ∧ dx ≠ a ∧ h.get? a = some (PySem.W.instObj C dx) ∧
      ∃ mA, h.Ns1 dx mA ∧ (∀ f, RelO (fs.lookup f) (mA f)) ∧ PySem.Within mA (fs.map (·.1))
  | .own _ => ∃ o, h.get? a = some o
  | .xd fs => ∃ mA, h.Ns1 a mA ∧ ∀ f, RelO (fs.lookup f) (mA f)
  | .rng lo hi => ∃ t u v, h.get? a = some { cls := .type "range", data := .fields #[.int lo t, .int hi u, .int 1 v] }
  | .frz o u => h.get? a = some o ∧ ObjOk H h a u
  | .tbl ps => h.get? a = some { cls := .none, data := .fields ps }
  | .met f x => h.get? a = some (PySem.W.methodObj (.ref f) (.ref x))
  | .ext φ => φ h ∧ (∃ o, h.get? a = some o) ∧ ∀ h1 h2 : Heap, φ h1 → (∀ o, h1.get? a = some o → h2.get? a = some o) → φ h2
/-- the abstract heap is held -/
def HOk (H : Hp) (h : Heap) : Prop := ∀ a o, H a = some o → ObjOk P w H h a o
end

section
variable {P : Program} {w : World} {H H' : Hp} {h h' : Heap} {a : Addr} {o : HO}
theorem ObjOk.lt (x : ObjOk P w H h a o) : a < h.objs.size := by
  cases o with
  | lst xs => obtain ⟨_, _, _, _, e⟩ := x; exact Heap.lt_size e
  | tup xs => obtain ⟨_, _, _, p⟩ := x; exact p.lt
  | dK kvs => obtain ⟨_, _, _, _, o, _, _, e, _⟩ := x; exact Heap.lt_size e
  | dT kvs => obtain ⟨_, _, _, _, o, _, _, e, _⟩ := x; exact Heap.lt_size e
  | set S n => obtain ⟨o, _, _, _, e, _⟩ := x; exact Heap.lt_size e
  | ins C dx fs => obtain ⟨_, _, _, e, _⟩ := x; exact Heap.lt_size e
  | own y => obtain ⟨_, e⟩ := x; exact Heap.lt_size e
  | xd fs => obtain ⟨_, ⟨_, _, _, e, _⟩, _⟩ := x; exact Heap.lt_size e
  | rng lo hi => obtain ⟨_, _, _, e⟩ := x; exact Heap.lt_size e
  | frz ob u => obtain ⟨e, _⟩ := x; exact Heap.lt_size e
  | tbl ps => exact Heap.lt_size (show h.get? a = some _ from x)
  | met f y => exact Heap.lt_size (show h.get? a = some _ from x)
  | ext φ => obtain ⟨_, ⟨_, e⟩, _⟩ := x; exact Heap.lt_size e
theorem Paired.mapP {α β : Type} {F G : α → β → Prop} : ∀ {l₁ : List α} {l₂ : List β}, Paired F l₁ l₂ → (∀ a b, F a b → G a b) → Paired G l₁ l₂
  | _, _, .nil, _ => .nil
  | _, _, .cons r t, f => .cons (f _ _ r) (Paired.mapP t f)
/-- what an object's description leans on: its own object, its own dict, the tuples -/
theorem ObjOk.stay (x : ObjOk P w H h a o) (k : ∀ b u, (b = a ∨ H b = some (.own a)) → h.get? b = some u → h'.get? b = some u)
    (ho : ∀ b, H b = some (.own a) → H' b = some (.own a)) (ht : ∀ b xs, H b = some (.tup xs) → H' b = some (.tup xs)) : ObjOk P w H' h' a o := by
  induction o with
  | lst xs => obtain ⟨z, its, n, r, e⟩ := x; exact ⟨z, its, n, r, k _ _ (.inl rfl) e⟩
  | tup xs => obtain ⟨z, its, r, ob, e, c⟩ := x; exact ⟨z, its, r, ob, k _ _ (.inl rfl) e, c⟩
  | dK kvs => obtain ⟨z, y, vs, r, ob, es, ep, e, c⟩ := x; exact ⟨z, y, vs, r, ob, es, ep, k _ _ (.inl rfl) e, c⟩
  | dT kvs =>
    obtain ⟨z, y, xs, r, ob, es, ep, e, c⟩ := x
    exact ⟨z, y, xs, Paired.mapP r fun p q z => ⟨z.1, ht _ _ z.2.1, z.2.2⟩, ob, es, ep, k _ _ (.inl rfl) e, c⟩
  | set S n => obtain ⟨ob, es, ep, t, e, c⟩ := x; exact ⟨ob, es, ep, t, k _ _ (.inl rfl) e, c⟩
  | ins C dx fs =>
    obtain ⟨d, z, ne, e, mA, ⟨od, es, ep, e2, c⟩, r⟩ := x
    exact ⟨ho _ d, z, ne, k _ _ (.inl rfl) e, mA, ⟨od, es, ep, k _ _ (.inr d) e2, c⟩, r⟩
  | own y => obtain ⟨ob, e⟩ := x; exact ⟨ob, k _ _ (.inl rfl) e⟩
  | xd fs => obtain ⟨mA, ⟨od, es, ep, e, c⟩, r⟩ := x; exact ⟨mA, ⟨od, es, ep, k _ _ (.inl rfl) e, c⟩, r⟩
  | rng lo hi => obtain ⟨t, u, v, e⟩ := x; exact ⟨t, u, v, k _ _ (.inl rfl) e⟩
  | frz ob u ih => obtain ⟨e, q⟩ := x; exact ⟨k _ _ (.inl rfl) e, ih q⟩
  | tbl ps =>
    have e : h.get? a = some { cls := .none, data := .fields ps } := x
    show h'.get? a = some { cls := .none, data := .fields ps }
    exact k a _ (.inl rfl) e
  | met f y =>
    have e : h.get? a = some (PySem.W.methodObj (.ref f) (.ref y)) := x
    show h'.get? a = some (PySem.W.methodObj (.ref f) (.ref y))
    exact k a _ (.inl rfl) e
  | ext φ => obtain ⟨p, ⟨o, e⟩, st⟩ := x; exact ⟨st _ _ p fun o q => k _ _ (.inl rfl) q, ⟨o, k _ _ (.inl rfl) e⟩, st⟩
theorem HOk.lt (x : HOk P w H h) (e : H a = some o) : a < h.objs.size := (x a o e).lt
theorem HOk.fresh (x : HOk P w H h) (e : h.objs.size ≤ a) : H a = none := by
  cases q : H a with
  | none => rfl
  | some u => exact absurd (Nat.lt_of_lt_of_le (x.lt q) e) (Nat.lt_irrefl _)
/-- every object of the heap is kept -/
theorem HOk.kept (x : HOk P w H h) (k : ∀ b u, h.get? b = some u → h'.get? b = some u) : HOk P w H h' := fun a o e =>
  (x a o e).stay (fun b u _ q => k b u q) (fun _ q => q) fun _ _ q => q
/-- a new object is laid and tracked -/
theorem HOk.laid (x : HOk P w H h) (k : ∀ b u, h.get? b = some u → h'.get? b = some u) (hp : h.objs.size ≤ a) (new : ObjOk P w (upd H a o) h' a o) : HOk P w (upd H a o) h' := fun b u e => by
  have hn := x.fresh hp
  by_cases hb : b = a
  · subst hb; rw [upd_same] at e; cases e; exact new
  · rw [upd_ne hb] at e
    exact (x b u e).stay (fun c v _ q => k c v q) (fun c q => by rw [upd_ne (ne_of_none q hn)]; exact q) fun c xs q => by rw [upd_ne (ne_of_none q hn)]; exact q
end

/-- what may be read as u: it is u, or a known u -/
def Rd (H : Hp) (a : Addr) (u : HO) : Prop := H a = some u ∨ ∃ o, H a = some (.frz o u)
theorem Rd.ok {P : Program} {w : World} {H : Hp} {h : Heap} {a : Addr} {u : HO} (r : Rd H a u) (x : HOk P w H h) : ObjOk P w H h a u := by
  rcases r with r | ⟨o, r⟩
  · exact x a u r
  · obtain ⟨_, q⟩ := x a _ r
    exact q
/-- what may be written -/
def Mut : Option HO → Prop
  | some (.lst _) => True
  | some (.dK _) => True
  | some (.dT _) => True
  | some (.set _ _) => True
  | some (.ins _ _ _) => True
  | some (.ext _) => True
  | _ => False
section
variable {P : Program} {w : World} {H : Hp} {h h' : Heap} {x e : Addr} {o' : HO}
/-- the object at e is changed: x itself, or the dict of the instance x -/
theorem HOk.write (ok : HOk P w H h) (mu : Mut (H x)) (he : e = x ∨ H e = some (.own x)) (k : ∀ b u, b ≠ e → h.get? b = some u → h'.get? b = some u) (heo : ∃ u, h'.get? e = some u)
    (new : ObjOk P w (upd H x o') h' x o') : HOk P w (upd H x o') h' := fun b u q => by
  have nown : ∀ c y, H c = some (.own y) → c ≠ x := fun c y r z => by subst z; rw [r] at mu; exact mu
  have ntup : ∀ c xs, H c = some (.tup xs) → c ≠ x := fun c xs r z => by subst z; rw [r] at mu; exact mu
  by_cases hb : b = x
  · subst hb; rw [upd_same] at q; cases q; exact new
  · rw [upd_ne hb] at q
    by_cases hbe : b = e
    · have q' : H b = some (.own x) := by
        rcases he with z | z
        · exact absurd (hbe.trans z) hb
        · rw [hbe]; exact z
      rw [q] at q'; cases q'
      obtain ⟨v, hv⟩ := heo
      exact ⟨v, by rw [hbe]; exact hv⟩
    · refine (ok b u q).stay (fun c v hc r => k c v ?_ r) (fun c r => by rw [upd_ne (nown c b r)]; exact r) fun c xs r => by rw [upd_ne (ntup c xs r)]; exact r
      rcases hc with rfl | hc
      · exact hbe
      · rintro rfl
        rcases he with z | z
        · exact nown c b hc z
        · rw [hc] at z; cases z; exact hb rfl
end

/-! ### kept unless tracked; of the frames at fs (the callers') the slots may change (an exception that passes writes there); of the records at ex (iterators) nothing is said -/
structure Un (fs ex : List Addr) (H H' : Hp) (h h' : Heap) : Prop where
  keep : ∀ b o, h.get? b = some o → H b = none → b ∉ fs → b ∉ ex → h'.get? b = some o
  slot : ∀ b o, h.get? b = some o → H b = none → b ∈ fs → b ∉ ex → ∃ sl, h'.get? b = some { o with slots := sl }
  free : ∀ b o, h.get? b = some o → H b = none → b ∉ ex → H' b = none
  there : ∀ b o, h.get? b = some o → b ∉ ex → ∃ o', h'.get? b = some o'
  tups : ∀ b xs, H b = some (.tup xs) → H' b = some (.tup xs)
  frzs : ∀ b o u, H b = some (.frz o u) → H' b = some (.frz o u)
  tbls : ∀ b ps, H b = some (.tbl ps) → ∃ more, H' b = some (.tbl (ps ++ more))
section
variable {fs fs' ex ex' : List Addr} {H H1 H2 : Hp} {h h1 h2 h' : Heap} {a x e : Addr} {o : HO}
theorem Un.any (u : Un fs ex H H1 h h1) {b : Addr} {ob : Obj} (q : h.get? b = some ob) (n : H b = none) (hx : b ∉ ex) : ∃ sl, h1.get? b = some { ob with slots := sl } := by
  by_cases hb : b ∈ fs
  · exact u.slot b ob q n hb hx
  · exact ⟨ob.slots, u.keep b ob q n hb hx⟩
theorem Un.kept (k : ∀ b u, h.get? b = some u → h'.get? b = some u) : Un fs ex H H h h' :=
  ⟨fun b ob q _ _ _ => k b ob q, fun b ob q _ _ _ => ⟨ob.slots, k b ob q⟩, fun _ _ _ n _ => n, fun b ob q _ => ⟨ob, k b ob q⟩, fun _ _ q => q, fun _ _ _ q => q, fun _ ps q => ⟨#[], by rw [q]; simp⟩⟩
theorem Un.refl : Un fs ex H H h h := Un.kept fun _ _ q => q
theorem Un.laid (k : ∀ b u, h.get? b = some u → h'.get? b = some u) (hp : h.objs.size ≤ a) (hn : H a = none) : Un fs ex H (upd H a o) h h' where
  keep := fun b u q _ _ _ => k b u q
  slot := fun b u q _ _ _ => ⟨u.slots, k b u q⟩
  free := fun b u q n _ => by rw [upd_ne (Nat.ne_of_lt (Nat.lt_of_lt_of_le (Heap.lt_size q) hp))]; exact n
  there := fun b u q _ => ⟨u, k b u q⟩
  tups := fun b xs q => by rw [upd_ne (ne_of_none q hn)]; exact q
  frzs := fun b u xs q => by rw [upd_ne (ne_of_none q hn)]; exact q
  tbls := fun b ps q => ⟨#[], by rw [upd_ne (ne_of_none q hn), q]; simp⟩
theorem Un.write (mu : Mut (H x)) (he : e = x ∨ H e = some (.own x)) (k : ∀ b u, b ≠ e → h.get? b = some u → h'.get? b = some u) (heo : ∃ u, h'.get? e = some u) : Un fs ex H (upd H x o) h h' := by
  have hx : ∀ b, H b = none → b ≠ x := fun b n z => by subst z; rw [n] at mu; exact mu
  have hb : ∀ b, H b = none → b ≠ e := fun b n z => by
    subst z
    rcases he with r | r
    · exact hx b n r
    · rw [n] at r; cases r
  have hm : ∀ b u, H b = some u → ¬ Mut (some u) → b ≠ x := fun b u q nm z => by subst z; rw [q] at mu; exact nm mu
  refine ⟨fun b u q n _ _ => k b u (hb b n) q, fun b u q n _ _ => ⟨u.slots, k b u (hb b n) q⟩, fun b u q n _ => by rw [upd_ne (hx b n)]; exact n, fun b u q _ => ?_,
    fun b xs q => by rw [upd_ne (hm b _ q fun z => z)]; exact q, fun b u xs q => by rw [upd_ne (hm b _ q fun z => z)]; exact q, fun b ps q => ⟨#[], by rw [upd_ne (hm b _ q fun z => z), q]; simp⟩⟩
  by_cases hbe : b = e
  · subst hbe; exact heo
  · exact ⟨u, k b u hbe q⟩
end

/-! ### the heap without what is tracked -/
def trk (h : Heap) (H : Hp) : List Addr := (List.range h.objs.size).filter fun a => (H a).isSome
def hidT (h : Heap) (H : Hp) : Heap := PySem.W.hideAll h (trk h H)
theorem hidT_size (h : Heap) (H : Hp) : (hidT h H).objs.size = h.objs.size := PySem.W.hideAll_size _ _
theorem hidT_get {h : Heap} {H : Hp} {b : Addr} {o : Obj} (e : h.get? b = some o) (n : H b = none) : (hidT h H).get? b = some o :=
  PySem.W.hideAll_get _ e fun hm => by
    have q : (H b).isSome = true := (List.mem_filter.mp hm).2
    rw [n] at q; simp at q
theorem of_hidT {h : Heap} {H : Hp} {b : Addr} {o : Obj} (e : (hidT h H).get? b = some o) : h.get? b = some o ∧ H b = none := by
  have e' : h.get? b = some o := PySem.W.of_hideAll (trk h H) e
  refine ⟨e', ?_⟩
  cases q : H b with
  | none => rfl
  | some x =>
    have hm : b ∈ trk h H := List.mem_filter.mpr ⟨List.mem_range.mpr (Heap.lt_size e'), by simp [q]⟩
    have z : (hidT h H).get? b = none := PySem.W.hideAll_none (trk h H) hm
    rw [z] at e; cases e

/-! ### OpenK's ledger, filled with every new object but one -/
end L2

namespace L2
open PySem PySem.Spec PyProof.Rows

/-- the module's facts, over the base: the heap at the law's entry without what is tracked there -/
structure Mod (K : PySem.W.Frag) (mg : Str → Option Value) (base : Heap) : Prop where
  kin : K.In base
  glob : base.Ns mainGlobals mg
  blt : ∃ mb, base.Ns builtinsNs mb ∧ ∀ x : Str, x ≠ "__name__" → mb x = bootBuiltins x
  nolimit : base.NoLimit

/-- the context: a def's body (or a comprehension's block) running. base: fixed through the whole law; s₀, H₀: the entry; outer: the frames whose slots others may change (a def's callers); stack: all frames that run;
   ex: iterators that were made ahead of the entry and are walked here (a comprehension's); fn: the names whose cells were made at the entry (a def: all; a comprehension's block: its own); calm: not within an except suite; pn: pins that every state bears; xe: what is wanted of an exception that leaves the code -/
structure Cx where
  prog : Program
  w : World
  K : PySem.W.Frag
  mg : Str → Option Value
  base : Heap
  A : Around
  N : List Str
  s_0 : Shared
  H_0 : Hp
  env : Env
  outer : List Env
  stack : List Env
  ex : List Addr
  fn : Str → Bool
  calm : Bool
  pn : List (Addr × Obj)
  xe : Value → Shared → Prop
/-- the callers' frames -/
def frs (l : List Env) : List Addr := l.filterMap (·.frame)
abbrev Cx.fs (X : Cx) : List Addr := frs X.outer

def Vis (sc : Scope) (x : Str) : Prop := sc.names.lookup x = some .local ∨ sc.names.lookup x = some .cell ∨ sc.names.lookup x = some .free
def Loc (sc : Scope) (x : Str) : Prop := sc.names.lookup x = some .local ∨ sc.names.lookup x = some .cell
def Look (env : Env) (h : Heap) (m : Str → Option Value) (x : Str) (u : Value) : Prop :=
  (env.kindOf x = some .local ∧ m x = some u) ∨ ((env.kindOf x = some .cell ∨ env.kindOf x = some .free) ∧ ∃ c, env.cells.lookup x = some c ∧ h.IsCell c (some u))

structure Cx.Ok (X : Cx) : Prop where
  mod : Mod X.K X.mg X.base
  kind : X.env.scope.kind = .function
  glob : X.env.globals = mainGlobals
  blt : X.env.builtins = builtinsNs
  above : X.s_0.heap.objs.size ≤ X.env.locals
  inj : ∀ x y c, X.env.cells.lookup x = some c → X.env.cells.lookup y = some c → x = y
  has : ∀ x, (X.env.kindOf x = some .cell ∨ X.env.kindOf x = some .free) → ∃ c, X.env.cells.lookup x = some c
  cab : ∀ x c, X.fn x = true → X.env.cells.lookup x = some c → X.s_0.heap.objs.size ≤ c
  hd : X.calm = true → X.A.handled = none
  frames : X.A.frames = some X.stack
  stk : X.stack = X.outer ∨ (X.stack = X.env :: X.outer ∧ X.env.frame = some X.env.locals)
  exf : ∀ b ∈ X.ex, b ≠ X.env.locals ∧ ∀ x c, X.env.cells.lookup x = some c → c ≠ b
  bs : ∀ b o, X.base.get? b = some o → X.s_0.heap.get? b = some o ∧ X.H_0 b = none
  bsz : X.base.objs.size ≤ X.s_0.heap.objs.size
  noex : ∀ b o, X.base.get? b = some o → b ∉ X.ex
  exfs : ∀ b ∈ X.ex, b ∉ X.fs
  funs : X.s_0.heap.FunFrames X.base X.outer
  frf : ∀ b ∈ X.fs, X.H_0 b = none

structure Inv (X : Cx) (pins : List (Addr × Obj)) (σ : List (Option V)) (H : Hp) (s : Shared) : Prop where
  ok : X.Ok
  os : s.os = X.s_0.os
  bare : AllBare s.gens
  base : Un X.fs X.ex X.H_0 H X.s_0.heap s.heap
  loc : ∃ m, s.heap.Ns X.env.locals m ∧ ∀ (i : Nat) (x : Str) (v : V), X.N[i]? = some x → σ[i]? = some (some v) → Vis X.env.scope x → ∃ u, RelV v u ∧ Look X.env s.heap m x u
  cell : ∀ x c, X.env.cells.lookup x = some c → ∃ v, s.heap.IsCell c v
  free : H X.env.locals = none
  freeC : ∀ x c, X.env.cells.lookup x = some c → H c = none
  pin : ∀ p ∈ X.pn ++ pins, s.heap.get? p.1 = some p.2 ∧ H p.1 = none ∧ p.1 ≠ X.env.locals ∧ p.1 ∉ X.fs ∧ ∀ v, p.2.data ≠ .cell v
  hok : HOk X.prog X.w H s.heap
  len : σ.length = X.N.length

section
variable {X : Cx} {pins : List (Addr × Obj)} {σ : List (Option V)} {H H' : Hp} {s : Shared} {h' : Heap}

theorem Cx.Ok.nofr (ok : X.Ok) {b : Addr} {o : Obj} (e : X.base.get? b = some o) : b ∉ X.fs := fun hb => by
  have := (ok.funs.mem hb).1
  rw [e] at this; cases this
theorem Inv.bs (I : Inv X pins σ H s) : ∀ b o, X.base.get? b = some o → s.heap.get? b = some o ∧ H b = none := fun b o e =>
  ⟨I.base.keep b o (I.ok.bs b o e).1 (I.ok.bs b o e).2 (I.ok.nofr e) (I.ok.noex b o e), I.base.free b o (I.ok.bs b o e).1 (I.ok.bs b o e).2 (I.ok.noex b o e)⟩
theorem Inv.bk (I : Inv X pins σ H s) : ∀ b o, X.base.get? b = some o → s.heap.get? b = some o := fun b o e => (I.bs b o e).1
theorem Inv.mod (I : Inv X pins σ H s) : Mod X.K X.mg X.base := I.ok.mod
theorem Inv.kIn (I : Inv X pins σ H s) : X.K.In s.heap := I.ok.mod.kin.keeps I.bk
theorem Inv.lt (I : Inv X pins σ H s) : X.env.locals < s.heap.objs.size := let ⟨_, hn, _⟩ := I.loc; hn.lt
theorem Inv.sz (I : Inv X pins σ H s) : X.s_0.heap.objs.size ≤ s.heap.objs.size := Nat.le_trans I.ok.above (Nat.le_of_lt I.lt)
theorem Inv.nofs (I : Inv X pins σ H s) {a : Addr} (h : s.heap.objs.size ≤ a) : a ∉ X.fs := fun hb => by
  obtain ⟨_, o, ho, _⟩ := I.ok.funs.mem hb
  exact absurd (Nat.lt_of_lt_of_le (Heap.lt_size ho) (Nat.le_trans I.sz h)) (Nat.lt_irrefl _)
theorem Inv.cne (I : Inv X pins σ H s) : ∀ x c, X.env.cells.lookup x = some c → c ≠ X.env.locals := fun x c e z => by
  obtain ⟨v, o, ho, hd⟩ := I.cell x c e
  obtain ⟨m, ⟨o', es, ep, ho', hd', _⟩, _⟩ := I.loc
  rw [z, ho'] at ho; cases ho; rw [hd'] at hd; cases hd
theorem Inv.funs (I : Inv X pins σ H s) : s.heap.FunFrames X.base X.outer := by
  have all : ∀ (l : List Env), (∀ b ∈ frs l, b ∈ X.fs) → X.s_0.heap.FunFrames X.base l → s.heap.FunFrames X.base l := by
    intro l
    induction l with
    | nil => intro _ _; trivial
    | cons env r ih =>
      intro hs hl
      obtain ⟨hk, ⟨L, o, hf, hn, ho, hd⟩, hr⟩ := hl
      have hL : L ∈ X.fs := hs L (by unfold frs; rw [List.filterMap_cons, hf]; exact List.mem_cons_self)
      obtain ⟨sl, e⟩ := I.base.slot L o ho (I.ok.frf L hL) hL fun z => I.ok.exfs L z hL
      exact ⟨hk, ⟨L, _, hf, hn, e, hd⟩, ih (fun b hb => hs b (by unfold frs; rw [List.filterMap_cons, hf]; exact List.mem_cons_of_mem _ hb)) hr⟩
  exact all X.outer (fun _ hb => hb) I.ok.funs

/-- the frames that run, for a call -/
theorem Inv.stack (I : Inv X pins σ H s) : s.heap.FunFrames X.base X.stack := by
  rcases I.ok.stk with e | ⟨e, hf⟩
  · rw [e]; exact I.funs
  · rw [e]
    obtain ⟨m, hn, _⟩ := I.loc
    refine .cons (by rw [I.ok.kind]; decide) hf hn ?_ I.funs
    exact Heap.get?_none_of_le (Nat.le_trans I.ok.bsz I.ok.above)
theorem Inv.stkSub (I : Inv X pins σ H s) : ∀ b ∈ frs X.stack, b ∈ X.env.locals :: X.fs := fun b hb => by
  rcases I.ok.stk with e | ⟨e, hf⟩
  · rw [e] at hb; exact List.mem_cons_of_mem _ hb
  · rw [e] at hb
    unfold frs at hb
    rw [List.filterMap_cons, hf] at hb
    exact hb
theorem Inv.stkFree (I : Inv X pins σ H s) : ∀ b ∈ frs X.stack, H b = none := fun b hb => by
  rcases List.mem_cons.mp (I.stkSub b hb) with e | hb
  · rw [e]; exact I.free
  · obtain ⟨_, o, ho, _⟩ := I.ok.funs.mem hb
    exact I.base.free b o ho (I.ok.frf b hb) fun z => I.ok.exfs b z hb

/-- THE STEP: the untracked objects but the frame and the records at ch are kept (the callers' frames up to slots), the frame's map is kept, the new abstract heap is held -/
theorem Inv.step {g' : Array GenState} {t' : Nat} {d' : Drawn} {ch : List Addr} (I : Inv X pins σ H s)
    (hch : ∀ b ∈ ch, (b ∈ X.ex ∨ X.s_0.heap.objs.size ≤ b) ∧ b ≠ X.env.locals ∧ (∀ x c, X.env.cells.lookup x = some c → c ≠ b) ∧ ∀ p ∈ X.pn ++ pins, p.1 ≠ b)
    (keep : ∀ b o, b ≠ X.env.locals → b ∉ X.fs → b ∉ ch → s.heap.get? b = some o → H b = none → h'.get? b = some o)
    (slot : ∀ b o, b ≠ X.env.locals → b ∈ X.fs → b ∉ ch → s.heap.get? b = some o → H b = none → ∃ sl, h'.get? b = some { o with slots := sl }) (free : ∀ b o, b ∉ ch → s.heap.get? b = some o → H b = none → H' b = none)
    (there : ∀ b o, b ∉ ch → s.heap.get? b = some o → ∃ o', h'.get? b = some o')
    (tups : ∀ b xs, H b = some (.tup xs) → H' b = some (.tup xs)) (frzs : ∀ b o u, H b = some (.frz o u) → H' b = some (.frz o u)) (tbls : ∀ b ps, H b = some (.tbl ps) → ∃ more, H' b = some (.tbl (ps ++ more)))
    (ns : ∀ m, s.heap.Ns X.env.locals m → h'.Ns X.env.locals m) (hok : HOk X.prog X.w H' h') (hg : AllBare g') :
    Inv X pins σ H' { s with heap := h', gens := g', drawn := d', toks := t' } := by
  have neL : ∀ b o, X.s_0.heap.get? b = some o → b ≠ X.env.locals := fun b o e => Nat.ne_of_lt (Nat.lt_of_lt_of_le (Heap.lt_size e) I.ok.above)
  have neC : ∀ b o, X.s_0.heap.get? b = some o → b ∉ X.ex → b ∉ ch := fun b o e hx hb => by
    rcases (hch b hb).1 with z | z
    · exact hx z
    · exact absurd (Nat.lt_of_lt_of_le (Heap.lt_size e) z) (Nat.lt_irrefl _)
  have cellK : ∀ x c, X.env.cells.lookup x = some c → ∀ v, s.heap.IsCell c v → h'.IsCell c v := fun x c e v ⟨o, ho, hd⟩ => by
    have nch : c ∉ ch := fun z => (hch c z).2.2.1 x c e rfl
    by_cases hc : c ∈ X.fs
    · obtain ⟨sl, q⟩ := slot c o (I.cne x c e) hc nch ho (I.freeC x c e)
      exact ⟨_, q, hd⟩
    · exact ⟨o, keep c o (I.cne x c e) hc nch ho (I.freeC x c e), hd⟩
  refine ⟨I.ok, I.os, hg, ⟨fun b o e n hb hx => ?_, fun b o e n hb hx => ?_, fun b o e n hx => ?_, fun b o e hx => ?_, fun b xs e => tups b xs (I.base.tups b xs e), fun b o xs e => frzs b o xs (I.base.frzs b o xs e), fun b ps e => ?_⟩, ?_, fun x c e => ?_, ?_, fun x c e => ?_, fun p hp => ?_, hok, I.len⟩
  · exact keep b o (neL b o e) hb (neC b o e hx) (I.base.keep b o e n hb hx) (I.base.free b o e n hx)
  · obtain ⟨sl, e1⟩ := I.base.slot b o e n hb hx
    obtain ⟨sl', e2⟩ := slot b _ (neL b o e) hb (neC b o e hx) e1 (I.base.free b o e n hx)
    exact ⟨sl', e2⟩
  · obtain ⟨o', e1⟩ := I.base.there b o e hx
    exact free b o' (neC b o e hx) e1 (I.base.free b o e n hx)
  · obtain ⟨o', e1⟩ := I.base.there b o e hx
    exact there b o' (neC b o e hx) e1
  · obtain ⟨m1, e1⟩ := I.base.tbls b ps e
    obtain ⟨m2, e2⟩ := tbls b _ e1
    exact ⟨m1 ++ m2, by rw [e2, Array.append_assoc]⟩
  · obtain ⟨m, hn, hl⟩ := I.loc
    refine ⟨m, ns m hn, fun i x v e1 e2 e3 => ?_⟩
    obtain ⟨u, r, l⟩ := hl i x v e1 e2 e3
    refine ⟨u, r, ?_⟩
    rcases l with l | ⟨k, c, e, z⟩
    · exact .inl l
    · exact .inr ⟨k, c, e, cellK x c e _ z⟩
  · obtain ⟨v, z⟩ := I.cell x c e
    exact ⟨v, cellK x c e v z⟩
  · obtain ⟨m, ⟨o, _, _, ho, _⟩, _⟩ := I.loc
    exact free _ o (fun z => (hch _ z).2.1 rfl) ho I.free
  · obtain ⟨v, o, ho, hd⟩ := I.cell x c e
    exact free c o (fun z => (hch c z).2.2.1 x c e rfl) ho (I.freeC x c e)
  · obtain ⟨e, n, ne, nf, d⟩ := I.pin p hp
    have nch : p.1 ∉ ch := fun z => (hch p.1 z).2.2.2 p hp rfl
    exact ⟨keep p.1 p.2 ne nf nch e n, free p.1 p.2 nch e n, ne, nf, d⟩
/-- .. where the frame's own object is kept too -/
theorem Inv.un {t' : Nat} (I : Inv X pins σ H s) (u : Un X.fs [] H H' s.heap h') (hok : HOk X.prog X.w H' h') : Inv X pins σ H' { s with heap := h', toks := t' } := by
  obtain ⟨m, ⟨o, es, ep, ho, r⟩, _⟩ := id I.loc
  obtain ⟨sl, hL⟩ := u.any ho I.free (by simp)
  exact I.step (g' := s.gens) (d' := s.drawn) (ch := []) (fun _ z => nomatch z) (fun b o _ hb _ e n => u.keep b o e n hb (by simp)) (fun b o _ hb _ e n => u.slot b o e n hb (by simp)) (fun b o _ e n => u.free b o e n (by simp)) (fun b o _ e => u.there b o e (by simp)) u.tups u.frzs u.tbls (fun m' hm => by
    obtain ⟨o', es', ep', ho', r'⟩ := hm
    rw [ho] at ho'; cases ho'
    exact ⟨_, es', ep', hL, r'⟩) hok I.bare
/-- behind a call (or a comprehension's block): the slots of this frame may have changed too, the records at ch may have turned -/
theorem Inv.call {g' : Array GenState} {t' : Nat} {d' : Drawn} {ch : List Addr} (I : Inv X pins σ H s) (u : Un (frs X.stack) ch H H' s.heap h') (hok : HOk X.prog X.w H' h') (hg : AllBare g')
    (hch : ∀ b ∈ ch, (b ∈ X.ex ∨ X.s_0.heap.objs.size ≤ b) ∧ b ≠ X.env.locals ∧ (∀ x c, X.env.cells.lookup x = some c → c ≠ b) ∧ ∀ p ∈ X.pn ++ pins, p.1 ≠ b) :
    Inv X pins σ H' { s with heap := h', gens := g', drawn := d', toks := t' } := by
  obtain ⟨m, ⟨o, es, ep, ho, r⟩, _⟩ := id I.loc
  obtain ⟨sl, hL⟩ := u.any ho I.free fun z => (hch _ z).2.1 rfl
  exact I.step (ch := ch) hch (fun b o hL hb hc e n => u.keep b o e n (fun z => (List.mem_cons.mp (I.stkSub b z)).elim hL hb) hc) (fun b o _ _ hc e n => u.any e n hc) (fun b o hc e n => u.free b o e n hc) (fun b o hc e => u.there b o e hc) u.tups u.frzs u.tbls (fun m' hm => by
    obtain ⟨o', es', ep', ho', r'⟩ := hm
    rw [ho] at ho'; cases ho'
    exact ⟨_, es', ep', hL, r'⟩) hok hg
/-- an untracked record of ours (an iterator) has turned -/
theorem Inv.turned {t' : Nat} {it : Addr} (I : Inv X pins σ H s) (k : ∀ b o, b ≠ it → s.heap.get? b = some o → h'.get? b = some o) (hn : H it = none) (hL : it ≠ X.env.locals)
    (h1 : it ∈ X.ex ∨ X.s_0.heap.objs.size ≤ it) (h2 : ∀ x c, X.env.cells.lookup x = some c → c ≠ it) (h3 : ∀ p ∈ X.pn ++ pins, p.1 ≠ it) : Inv X pins σ H { s with heap := h', toks := t' } := by
  have nit : ∀ b u, H b = some u → b ≠ it := fun b u e z => by rw [z, hn] at e; cases e
  refine I.step (g' := s.gens) (d' := s.drawn) (ch := [it]) (fun b hb => ?_) (fun b o _ _ hc e _ => k b o (fun z => hc (by simp [z])) e) (fun b o _ _ hc e _ => ⟨o.slots, k b o (fun z => hc (by simp [z])) e⟩) (fun _ _ _ _ n => n)
    (fun b o hc e => ⟨o, k b o (fun z => hc (by simp [z])) e⟩) (fun _ _ e => e) (fun _ _ _ e => e) (fun b ps e => ⟨#[], by rw [e]; simp⟩) (fun m hm => ?_) (fun b u e => ?_) I.bare
  · have e : b = it := by simpa using hb
    subst e
    exact ⟨h1, hL, h2, h3⟩
  · obtain ⟨o, es, ep, ho, r⟩ := hm
    exact ⟨o, es, ep, k _ o (Ne.symm hL) ho, r⟩
  · refine (I.hok b u e).stay (fun c v hc q => k c v ?_ q) (fun _ q => q) fun _ _ q => q
    rcases hc with z | z
    · rw [z]; exact nit b u e
    · exact nit c _ z
theorem Inv.tok (I : Inv X pins σ H s) (t : Nat) : Inv X pins σ H { s with toks := t } := I.un (h' := s.heap) (t' := t) Un.refl I.hok
/-- all objects kept -/
theorem Inv.kept {t' : Nat} (I : Inv X pins σ H s) (k : ∀ b u, s.heap.get? b = some u → h'.get? b = some u) : Inv X pins σ H { s with heap := h', toks := t' } := I.un (Un.kept k) (I.hok.kept k)
/-- a new object laid and tracked -/
theorem Inv.laid {a : Addr} {o : HO} {t' : Nat} (I : Inv X pins σ H s) (k : ∀ b u, s.heap.get? b = some u → h'.get? b = some u) (hp : s.heap.objs.size ≤ a) (new : ObjOk X.prog X.w (upd H a o) h' a o) :
    Inv X pins σ (upd H a o) { s with heap := h', toks := t' } := I.un (Un.laid k hp (I.hok.fresh hp)) (I.hok.laid k hp new)
/-- an object written -/
theorem Inv.write {x e : Addr} {o : HO} {t' : Nat} (I : Inv X pins σ H s) (mu : Mut (H x)) (he : e = x ∨ H e = some (.own x)) (k : ∀ b u, b ≠ e → s.heap.get? b = some u → h'.get? b = some u) (heo : ∃ u, h'.get? e = some u)
    (new : ObjOk X.prog X.w (upd H x o) h' x o) : Inv X pins σ (upd H x o) { s with heap := h', toks := t' } := I.un (Un.write mu he k heo) (I.hok.write mu he k heo new)
/-- forgetting slots, pins -/
theorem Inv.weak {σ' : List (Option V)} (I : Inv X pins σ H s) (hl : σ'.length = σ.length) (w : ∀ (i : Nat) v, σ'[i]? = some (some v) → σ[i]? = some (some v)) : Inv X pins σ' H s :=
  ⟨I.ok, I.os, I.bare, I.base, let ⟨m, hn, hl'⟩ := I.loc; ⟨m, hn, fun i x v e1 e2 e3 => hl' i x v e1 (w i v e2) e3⟩, I.cell, I.free, I.freeC, I.pin, I.hok, hl.trans I.len⟩
theorem Inv.pins_of {pins' : List (Addr × Obj)} (I : Inv X pins σ H s) (h : ∀ p ∈ pins', s.heap.get? p.1 = some p.2 ∧ H p.1 = none ∧ p.1 ≠ X.env.locals ∧ p.1 ∉ X.fs ∧ ∀ v, p.2.data ≠ .cell v) : Inv X pins' σ H s :=
  ⟨I.ok, I.os, I.bare, I.base, I.loc, I.cell, I.free, I.freeC, fun p hp => (List.mem_append.mp hp).elim (fun z => I.pin p (List.mem_append_left _ z)) (h p), I.hok, I.len⟩

theorem nodup_ix {N : List Str} (hN : N.Nodup) {i j : Nat} {x : Str} (a : N[i]? = some x) (b : N[j]? = some x) : i = j := by
  obtain ⟨h1, e1⟩ := List.getElem?_eq_some_iff.mp a
  obtain ⟨h2, e2⟩ := List.getElem?_eq_some_iff.mp b
  exact (List.getElem_inj hN).mp (e1.trans e2.symm)

/-- a name is stored; what changed -/
theorem store_ok2 {M : Model} {A : Around} {E : Value → Shared → Prop} {i : Nat} {x : Str} {v : V} {u : Value} {Q : Unit → Shared → Prop} (I : Inv X pins σ H s) (hN : X.N.Nodup) (hi : X.N[i]? = some x) (hx : Loc X.env.scope x) (r : RelV v u)
    (h : ∀ s', Inv X pins (σ.set i (some v)) H s' → (∃ a, Heap.SameBut a s.heap s'.heap ∧ (a = X.env.locals ∨ X.env.cells.lookup x = some a)) → Q () s') (hf : X.fn x = true ∨ X.env.scope.names.lookup x = some .local := by first | exact .inl rfl | exact .inr rfl | assumption) : wpAny M A (storeName X.env x u) Q E s := by
  obtain ⟨m, hn, hl⟩ := id I.loc
  have hcls : (X.env.scope.kind == .class || (X.env.scope.kind == .module && X.env.locals != X.env.globals)) = false := by rw [I.ok.kind]; rfl
  have hiσ : i < σ.length := by rw [I.len]; exact (List.getElem?_eq_some_iff.mp hi).1
  have cne := I.cne
  have tracked : ∀ {a : Addr} {h' : Heap}, (∃ o, s.heap.get? a = some o ∧ H a = none) → Heap.SameBut a s.heap h' → HOk X.prog X.w H h' := fun {a h'} ha hs b ob e => by
    obtain ⟨_, _, hfree⟩ := ha
    refine (I.hok b ob e).stay (fun c w' hc q => (hs.2 c ?_).trans q) (fun _ q => q) fun _ _ q => q
    rintro rfl
    rcases hc with rfl | hc
    · rw [hfree] at e; cases e
    · rw [hfree] at hc; cases hc
  rcases hx with hk | hk
  · refine wpAny_storeName_local hk hn (fun h' hn' hs => ?_) hcls
    obtain ⟨oL, _, _, hoL, _⟩ := id hn
    refine h _ ⟨I.ok, I.os, I.bare, ⟨fun b o e n hb hx => ?_, fun b o e n hb hx => ?_, I.base.free, fun b o e hx => ?_, I.base.tups, I.base.frzs, I.base.tbls⟩, ⟨_, hn', fun j y v' e1 e2 e3 => ?_⟩, fun y c e => ?_, I.free, I.freeC, fun p hp => ?_, tracked ⟨oL, hoL, I.free⟩ hs, by simpa using I.len⟩ ⟨_, hs, .inl rfl⟩
    · exact (hs.2 b (Nat.ne_of_lt (Nat.lt_of_lt_of_le (Heap.lt_size e) I.ok.above))).trans (I.base.keep b o e n hb hx)
    · obtain ⟨sl, e1⟩ := I.base.slot b o e n hb hx
      exact ⟨sl, (hs.2 b (Nat.ne_of_lt (Nat.lt_of_lt_of_le (Heap.lt_size e) I.ok.above))).trans e1⟩
    · obtain ⟨o', e1⟩ := I.base.there b o e hx
      exact ⟨o', (hs.2 b (Nat.ne_of_lt (Nat.lt_of_lt_of_le (Heap.lt_size e) I.ok.above))).trans e1⟩
    · by_cases hj : j = i
      · subst hj
        rw [hi] at e1; cases e1
        rw [List.getElem?_set_self hiσ] at e2
        cases e2
        exact ⟨u, r, .inl ⟨hk, by simp⟩⟩
      · rw [List.getElem?_set_ne (Ne.symm hj)] at e2
        obtain ⟨u', r', q⟩ := hl j y v' e1 e2 e3
        refine ⟨u', r', ?_⟩
        rcases q with ⟨k, e⟩ | ⟨k, c, e, z⟩
        · refine .inl ⟨k, ?_⟩
          have : y ≠ x := fun e => hj (nodup_ix hN e1 (e ▸ hi))
          simp [this, e]
        · exact .inr ⟨k, c, e, z.sameBut hs (cne y c e)⟩
    · obtain ⟨w', z⟩ := I.cell y c e
      exact ⟨w', z.sameBut hs (cne y c e)⟩
    · obtain ⟨e, n, ne, nf, d⟩ := I.pin p hp
      exact ⟨(hs.2 p.1 ne).trans e, n, ne, nf, d⟩
  · have hfn : X.fn x = true := by
      rcases hf with z | z
      · exact z
      · rw [z] at hk; cases hk
    obtain ⟨c, hc⟩ := I.ok.has x (.inl hk)
    obtain ⟨w', z⟩ := I.cell x c hc
    refine wpAny_storeName_cell I.ok.kind hk hc z (fun h' hc' hs => ?_)
    obtain ⟨oc, hoc, hocd⟩ := id z
    refine h { s with heap := h' } ⟨I.ok, I.os, I.bare, ⟨fun b o e n hb hx => ?_, fun b o e n hb hx => ?_, I.base.free, fun b o e hx => ?_, I.base.tups, I.base.frzs, I.base.tbls⟩, ⟨m, hn.sameBut hs (Ne.symm (cne x c hc)), fun j y v' e1 e2 e3 => ?_⟩, fun y c' e => ?_, I.free, I.freeC, fun p hp => ?_, tracked ⟨oc, hoc, I.freeC x c hc⟩ hs, by simpa using I.len⟩ ⟨c, hs, .inr hc⟩
    · exact (hs.2 b (Nat.ne_of_lt (Nat.lt_of_lt_of_le (Heap.lt_size e) (I.ok.cab x c hfn hc)))).trans (I.base.keep b o e n hb hx)
    · obtain ⟨sl, e1⟩ := I.base.slot b o e n hb hx
      exact ⟨sl, (hs.2 b (Nat.ne_of_lt (Nat.lt_of_lt_of_le (Heap.lt_size e) (I.ok.cab x c hfn hc)))).trans e1⟩
    · obtain ⟨o', e1⟩ := I.base.there b o e hx
      exact ⟨o', (hs.2 b (Nat.ne_of_lt (Nat.lt_of_lt_of_le (Heap.lt_size e) (I.ok.cab x c hfn hc)))).trans e1⟩
    · by_cases hj : j = i
      · subst hj
        rw [hi] at e1; cases e1
        rw [List.getElem?_set_self hiσ] at e2
        cases e2
        exact ⟨u, r, .inr ⟨.inl hk, c, hc, hc'⟩⟩
      · rw [List.getElem?_set_ne (Ne.symm hj)] at e2
        obtain ⟨u', r', q⟩ := hl j y v' e1 e2 e3
        refine ⟨u', r', ?_⟩
        rcases q with q | ⟨k, c', e, z'⟩
        · exact .inl q
        · refine .inr ⟨k, c', e, z'.sameBut hs ?_⟩
          rintro rfl
          exact hj (nodup_ix hN e1 (I.ok.inj _ _ _ e hc ▸ hi))
    · by_cases hcc : c' = c
      · subst hcc; exact ⟨_, hc'⟩
      · obtain ⟨w2, z2⟩ := I.cell y c' e
        exact ⟨w2, z2.sameBut hs hcc⟩
    · obtain ⟨e, n, ne, nf, d⟩ := I.pin p hp
      refine ⟨(hs.2 p.1 ?_).trans e, n, ne, nf, d⟩
      intro q
      rw [q, hoc] at e
      have q' : oc = p.2 := Option.some.inj e
      exact d w' (by rw [← q']; exact hocd)
theorem store_ok {M : Model} {A : Around} {E : Value → Shared → Prop} {i : Nat} {x : Str} {v : V} {u : Value} {Q : Unit → Shared → Prop} (I : Inv X pins σ H s) (hN : X.N.Nodup) (hi : X.N[i]? = some x) (hx : Loc X.env.scope x) (r : RelV v u)
    (h : ∀ s', Inv X pins (σ.set i (some v)) H s' → Q () s') (hf : X.fn x = true ∨ X.env.scope.names.lookup x = some .local := by first | exact .inl rfl | exact .inr rfl | assumption) : wpAny M A (storeName X.env x u) Q E s :=
  store_ok2 I hN hi hx r (fun s' I' _ => h s' I') hf
/-- behind a call or a block, the state as it is -/
theorem Inv.call' {s' : Shared} {ch : List Addr} (I : Inv X pins σ H s) (ho : s'.os = s.os) (u : Un (frs X.stack) ch H H' s.heap s'.heap) (hok : HOk X.prog X.w H' s'.heap) (hg : AllBare s'.gens)
    (hch : ∀ b ∈ ch, (b ∈ X.ex ∨ X.s_0.heap.objs.size ≤ b) ∧ b ≠ X.env.locals ∧ (∀ x c, X.env.cells.lookup x = some c → c ≠ b) ∧ ∀ p ∈ X.pn ++ pins, p.1 ≠ b) : Inv X pins σ H' s' := by
  obtain ⟨h', g', d', t', o'⟩ := s'
  have e : o' = s.os := ho
  subst e
  exact I.call (g' := g') (t' := t') (d' := d') u hok hg hch
end

/-! ### the judgements -/
/-- an exception: its class, its own dict's address (where it has one), the abstract heap behind it -/
abbrev XK := Value → Option Addr → Hp → Prop
abbrev St := List (Option V)
abbrev VK := V → Hp → Prop
/-- an expression's reading; a test's; an argument list's -/
abbrev TE := St → Hp → VK → Prop
abbrev TT := St → Hp → (Bool → Hp → Prop) → Prop
abbrev TA := St → Hp → (List V → Hp → Prop) → Prop
/-- what is wanted behind a statement -/
structure Ends where
  nx : St → Hp → Prop
  rt : VK
  bk : St → Hp → Prop := fun _ _ => False
  ct : St → Hp → Prop := fun _ _ => False
abbrev TS := Ends → St → Hp → Prop

def EP (X : Cx) (pins : List (Addr × Obj)) (σ : St) (Q : VK) (u : Value) (s' : Shared) : Prop := ∃ v H', Inv X pins σ H' s' ∧ RelV v u ∧ Q v H'
def TP (X : Cx) (pins : List (Addr × Obj)) (σ : St) (Q : Bool → Hp → Prop) (b : Bool) (s' : Shared) : Prop := ∃ H', Inv X pins σ H' s' ∧ Q b H'
def AP (X : Cx) (pins : List (Addr × Obj)) (σ : St) (Q : List V → Hp → Prop) (us : List Value) (s' : Shared) : Prop := ∃ vs H', Inv X pins σ H' s' ∧ Vals vs us ∧ Q vs H'
def SP (X : Cx) (pins : List (Addr × Obj)) (D : Ends) (f : Flow) (s' : Shared) : Prop :=
  match f with
  | .next => ∃ σ' H', Inv X pins σ' H' s' ∧ D.nx σ' H'
  | .brk => ∃ σ' H', Inv X pins σ' H' s' ∧ D.bk σ' H'
  | .cont => ∃ σ' H', Inv X pins σ' H' s' ∧ D.ct σ' H'
  | .ret u => ∃ v σ' H', Inv X pins σ' H' s' ∧ RelV v u ∧ D.rt v H'

def PE (X : Cx) (e : Expr) (t : TE) : Prop :=
  ∀ (pins : List (Addr × Obj)) (s : Shared) (σ : St) (H : Hp) (Q : VK), Inv X pins σ H s → t σ H Q → wpAny (model X.prog X.w) X.A (eval e X.env) (EP X pins σ Q) X.xe s
def PT (X : Cx) (e : Expr) (t : TT) : Prop :=
  ∀ (pins : List (Addr × Obj)) (s : Shared) (σ : St) (H : Hp) (Q : Bool → Hp → Prop), Inv X pins σ H s → t σ H Q → wpAny (model X.prog X.w) X.A (isTrue e X.env (eval e X.env)) (TP X pins σ Q) X.xe s
/-- a test whatever its 'whole' is (and, or) -/
def PW (X : Cx) (e : Expr) (t : TT) : Prop :=
  ∀ (whole : Sem Value) (pins : List (Addr × Obj)) (s : Shared) (σ : St) (H : Hp) (Q : Bool → Hp → Prop), Inv X pins σ H s → t σ H Q → wpAny (model X.prog X.w) X.A (isTrue e X.env whole) (TP X pins σ Q) X.xe s
theorem PW.pt {X : Cx} {e : Expr} {t : TT} (h : PW X e t) : PT X e t := h _
/-- an argument list (no star), from the left -/
def PA (X : Cx) (es : List Expr) (t : TA) : Prop :=
  ∀ (pos : Pos) (pins : List (Addr × Obj)) (s : Shared) (σ : St) (H : Hp) (Q : List V → Hp → Prop), Inv X pins σ H s → t σ H Q → wpAny (model X.prog X.w) X.A (spliced (backTo pos (starEach es X.env))) (AP X pins σ Q) X.xe s
def PS (X : Cx) (st : Stmt) (t : TS) : Prop :=
  ∀ (pins : List (Addr × Obj)) (s : Shared) (σ : St) (H : Hp) (D : Ends), Inv X pins σ H s → t D σ H → wpAny (model X.prog X.w) X.A (exec st X.env) (SP X pins D) X.xe s
def PSs (X : Cx) (st : List Stmt) (t : TS) : Prop :=
  ∀ (pins : List (Addr × Obj)) (s : Shared) (σ : St) (H : Hp) (D : Ends), Inv X pins σ H s → t D σ H → wpAny (model X.prog X.w) X.A (execs st X.env) (SP X pins D) X.xe s
/-- weaken the end -/
theorem thn {α : Type} {t : Sem α} {Q Q' : α → Shared → Prop} {M : Model} {A : Around} {E : Value → Shared → Prop} {s : Shared} (h : wpAny M A t Q E s) (hQ : ∀ a s, Q a s → Q' a s) : wpAny M A t Q' E s := wpAny_mono h hQ fun _ _ x => x
end L2

namespace L2
open PySem PySem.Spec PyProof.Rows
section
variable {X : Cx}

/-! ### names and constants -/
def tVar (i : Nat) : TE := fun σ H Q => ∃ v, σ[i]? = some (some v) ∧ Q v H
def tC (v : V) : TE := fun _ H Q => Q v H
theorem pe_var {i : Nat} {x : Str} {pos : Pos} (hN : X.N[i]? = some x) (hv : Vis X.env.scope x) (hd : (x == ("__debug__" : Str)) = false := by decide) (hcd : (x == ("__classdict__" : Str)) = false := by decide) : PE X (.Name x pos) (tVar i) := by
  intro pins s σ H Q I h
  obtain ⟨v, e, h⟩ := h
  obtain ⟨m, hn, hl⟩ := I.loc
  obtain ⟨u, r, l⟩ := hl i x v hN e hv
  have fin : EP X pins σ Q u s := ⟨v, H, I, r, h⟩
  rcases l with ⟨hk, hm⟩ | ⟨hk, c, hc, hcell⟩
  · exact wpAny_Name (wpAny_loadName_local I.ok.kind hk hn hm fin) hd
  · rcases hk with hk | hk
    · exact wpAny_Name (wpAny_loadName_cell I.ok.kind hk hc hcell fin) hd
    · exact wpAny_Name (wpAny_loadName_free I.ok.kind hk hc hcell fin hcd) hd
theorem pe_int {i j pos} : PE X (.Constant (.int i) j pos) (tC (.int i)) := fun _ _ _ H _ I h => wpAny_Constant_int ⟨.int i, H, I.tok _, ⟨_, rfl⟩, h⟩
theorem pe_bl {b j pos} : PE X (.Constant (.bool b) j pos) (tC (.bl b)) := fun _ _ _ H _ I h => Constant_bool ⟨.bl b, H, I, rfl, h⟩
theorem pe_non {j pos} : PE X (.Constant .none j pos) (tC .non) := fun _ _ _ H _ I h => Constant_none ⟨.non, H, I, rfl, h⟩

/-- a global name of the def -/
def Gl (X : Cx) (x : Str) : Prop := X.env.kindOf x = some .globalImplicit
theorem ld_glob {E : Value → Shared → Prop} {pins : List (Addr × Obj)} {s : Shared} {σ : St} {H : Hp} {x : Str} {u : Value} {pos : Pos} {Q : Value → Shared → Prop} (I : Inv X pins σ H s) (hg : Gl X x) (hm : X.mg x = some u) (h : Q u s)
    (hd : (x == ("__debug__" : Str)) = false := by decide) : wpAny (model X.prog X.w) X.A (eval (.Name x pos) X.env) Q E s :=
  Calls.Name_function_global I.ok.kind hg (Calls.loadGlobal_global (by rw [I.ok.glob]; exact I.mod.glob.keeps I.bk) hm h) hd
theorem ld_blt {E : Value → Shared → Prop} {pins : List (Addr × Obj)} {s : Shared} {σ : St} {H : Hp} {x : Str} {u : Value} {pos : Pos} {Q : Value → Shared → Prop} (I : Inv X pins σ H s) (hg : Gl X x) (hm : X.mg x = none) (hv : bootBuiltins x = some u) (h : Q u s)
    (hn : x ≠ "__name__" := by decide) (hd : (x == ("__debug__" : Str)) = false := by decide) : wpAny (model X.prog X.w) X.A (eval (.Name x pos) X.env) Q E s := by
  obtain ⟨mb, h1, h2⟩ := I.mod.blt
  exact Calls.Name_function_global I.ok.kind hg (Calls.loadGlobal_builtin (by rw [I.ok.glob]; exact I.mod.glob.keeps I.bk) hm (by rw [I.ok.blt]; exact h1.keeps I.bk) ((h2 x hn).trans hv) h) hd
/-- a module's constant, a class, a function, as a value -/
theorem pe_glob {x : Str} {v : V} {u : Value} {pos : Pos} (hg : Gl X x) (hm : X.mg x = some u) (r : RelV v u) (hd : (x == ("__debug__" : Str)) = false := by decide) : PE X (.Name x pos) (tC v) :=
  fun _ _ _ H _ I h => ld_glob I hg hm ⟨v, H, I, r, h⟩ hd

/-! ### arithmetic -/
variable {a b : Expr} {ta tb : TE} {pos : Pos}

/-! ### comparisons -/
def PC (X : Cx) (op : CmpOp) (a b : Expr) (t : TE) : Prop :=
  ∀ (pins : List (Addr × Obj)) (s : Shared) (σ : St) (H : Hp) (Q : VK), Inv X pins σ H s → t σ H Q →
    wpAny (model X.prog X.w) X.A (eval a X.env) (fun v s₁ => wpAny (model X.prog X.w) X.A (eval b X.env) (fun u s₂ => wpAny (model X.prog X.w) X.A (compareOp op v u) (EP X pins σ Q) X.xe s₂) X.xe s₁) X.xe s
theorem nobehind (b : Expr) {op : CmpOp} (h : op ≠ .In) (h2 : op ≠ .NotIn) : behindInMarks op b = false := by
  have e1 : (op == CmpOp.In) = false := by cases op <;> first | rfl | exact absurd rfl h
  have e2 : (op == CmpOp.NotIn) = false := by cases op <;> first | rfl | exact absurd rfl h2
  cases b <;> simp [behindInMarks, e1, e2]
/-- is None -/
def tIsN (ta : TE) : TE := fun σ H Q => ta σ H fun x H1 => Q (.bl (decide (x = .non))) H1
def tNotN (ta : TE) : TE := fun σ H Q => ta σ H fun x H1 => Q (.bl (!decide (x = .non))) H1
theorem RelV.none_iff {x : V} {v : Value} (r : RelV x v) : (v == Value.none) = decide (x = .non) := by
  cases x with
  | non => cases r; rfl
  | bl _ => cases r; rfl
  | int _ => obtain ⟨t, rfl⟩ := r; rfl
  | str _ => obtain ⟨t, rfl⟩ := r; rfl
  | byt _ => obtain ⟨t, rfl⟩ := r; rfl
  | flt _ => obtain ⟨t, rfl⟩ := r; rfl
  | ref _ => cases r; rfl
  | ty _ => cases r; rfl
theorem pc_isN {j pos'} (ha : PE X a ta) : PC X .Is a (.Constant .none j pos') (tIsN ta) := by
  intro pins s σ H Q I h
  refine thn (ha pins s σ H _ I h) fun v s1 ⟨x, H1, I1, r1, q1⟩ => ?_
  exact Constant_none (is_none_gen ⟨.bl _, H1, I1, by rw [r1.none_iff]; rfl, q1⟩)
theorem pc_notN {j pos'} (ha : PE X a ta) : PC X .IsNot a (.Constant .none j pos') (tNotN ta) := by
  intro pins s σ H Q I h
  refine thn (ha pins s σ H _ I h) fun v s1 ⟨x, H1, I1, r1, q1⟩ => ?_
  exact Constant_none (isnot_none_gen ⟨.bl _, H1, I1, by rw [r1.none_iff]; rfl, q1⟩)
/-- a comparison as a value, as a test -/
def tB (t : TE) : TT := fun σ H Q => t σ H fun x H1 => ∃ c, x = .bl c ∧ Q c H1
theorem pe_cmp {op : CmpOp} {t : TE} (h : PC X op a b t) (h1 : behindInMarks op b = false := by first | exact nobehind _ (by decide) (by decide) | rfl) : PE X (.Compare a [op] [b] pos) t := fun pins s σ H Q I hw => wpAny_Compare1 (h pins s σ H Q I hw) h1
theorem pt_cmp {op : CmpOp} {t : TE} (h : PC X op a b t) (h1 : behindInMarks op b = false := by first | exact nobehind _ (by decide) (by decide) | rfl) : PT X (.Compare a [op] [b] pos) (tB t) := by
  intro pins s σ H Q I hw
  refine wpAny_isTrue_Compare1 (thn (h pins s σ H _ I hw) fun v s1 h1 => thn h1 fun u s2 h2 => thn h2 fun c s3 ⟨x, H1, I1, r1, q1⟩ => ?_) h1
  obtain ⟨d, rfl, q⟩ := q1
  cases r1
  exact wpAny_truthy_bool ⟨H1, I1, q⟩
/-- an expression whose value is a bool, as a test -/
theorem pt_val {e : Expr} {t : TE} (h : PE X e t) (he : ∀ whole, isTrue e X.env whole = (do let v ← whole; standAt e.pos; holding [v] (truthy v)) := by intro _; rfl) : PT X e (tB t) := by
  intro pins s σ H Q I hw
  refine isTrue_plain (thn (h pins s σ H _ I hw) fun v s1 ⟨x, H1, I1, r1, q1⟩ => ?_) (he _)
  obtain ⟨d, rfl, q⟩ := q1
  cases r1
  exact wpAny_truthy_bool ⟨H1, I1, q⟩

/-! ### and, or, not -/
variable {tA tB' : TT} {rest : List Expr}
def tAnd (t u : TT) : TT := fun σ H Q => t σ H fun c H1 => if c = true then u σ H1 Q else Q false H1
def tOr (t u : TT) : TT := fun σ H Q => t σ H fun c H1 => if c = true then Q true H1 else u σ H1 Q
def tNot (t : TT) : TT := fun σ H Q => t σ H fun c H1 => Q (!c) H1
theorem pw_and1 (ha : PT X a tA) : PW X (.BoolOp .And [a] pos) tA := by
  intro wh pins s σ H Q I h
  refine isTrue_and (thn (ha pins s σ H Q I h) fun c s1 e => ?_)
  cases c with
  | true => exact isTrue_and_nil e
  | false => exact e
theorem pw_or1 (ha : PT X a tA) : PW X (.BoolOp .Or [a] pos) tA := by
  intro wh pins s σ H Q I h
  refine isTrue_or (thn (ha pins s σ H Q I h) fun c s1 e => ?_)
  cases c with
  | false => exact isTrue_or_nil e
  | true => exact e
theorem pw_and (ha : PT X a tA) (hb : PW X (.BoolOp .And (b :: rest) pos) tB') : PW X (.BoolOp .And (a :: b :: rest) pos) (tAnd tA tB') := by
  intro wh pins s σ H Q I h
  refine isTrue_and (thn (ha pins s σ H _ I h) fun c s1 ⟨H1, I1, q1⟩ => ?_)
  cases c with
  | true => exact hb wh pins s1 σ H1 Q I1 q1
  | false => exact ⟨H1, I1, q1⟩
theorem pw_or (ha : PT X a tA) (hb : PW X (.BoolOp .Or (b :: rest) pos) tB') : PW X (.BoolOp .Or (a :: b :: rest) pos) (tOr tA tB') := by
  intro wh pins s σ H Q I h
  refine isTrue_or (thn (ha pins s σ H _ I h) fun c s1 ⟨H1, I1, q1⟩ => ?_)
  cases c with
  | true => exact ⟨H1, I1, q1⟩
  | false => exact hb wh pins s1 σ H1 Q I1 q1
theorem pt_not (ha : PT X a tA) : PT X (.UnaryOp .Not a pos) (tNot tA) := by
  intro pins s σ H Q I h
  exact isTrue_not (ha pins s σ H (fun c H1 => Q (!c) H1) I h)
/-- .. as values (bools) -/
def tAndV (ta tb : TE) : TE := fun σ H Q => ta σ H fun x H1 => ∃ c, x = .bl c ∧ if c = true then tb σ H1 Q else Q (.bl false) H1
def tOrV (ta tb : TE) : TE := fun σ H Q => ta σ H fun x H1 => ∃ c, x = .bl c ∧ if c = true then Q (.bl true) H1 else tb σ H1 Q
theorem pe_one {op} {t : TE} (h : PE X a t) : PE X (.BoolOp op [a] pos) t := fun pins s σ H Q I hw => BoolOp_one (h pins s σ H Q I hw)
theorem pe_and (ha : PE X a ta) (hb : PE X (.BoolOp .And (b :: rest) pos) tb) : PE X (.BoolOp .And (a :: b :: rest) pos) (tAndV ta tb) := by
  intro pins s σ H Q I h
  refine BoolOp_and (thn (ha pins s σ H _ I h) fun v s1 ⟨x, H1, I1, r1, q1⟩ => ?_)
  obtain ⟨c, rfl, q1⟩ := q1
  cases r1
  refine wpAny_truthy_bool ?_
  cases c with
  | true => exact hb pins s1 σ H1 Q I1 q1
  | false => exact ⟨.bl false, H1, I1, rfl, q1⟩
theorem pe_or (ha : PE X a ta) (hb : PE X (.BoolOp .Or (b :: rest) pos) tb) : PE X (.BoolOp .Or (a :: b :: rest) pos) (tOrV ta tb) := by
  intro pins s σ H Q I h
  refine BoolOp_or (thn (ha pins s σ H _ I h) fun v s1 ⟨x, H1, I1, r1, q1⟩ => ?_)
  obtain ⟨c, rfl, q1⟩ := q1
  cases r1
  refine wpAny_truthy_bool ?_
  cases c with
  | false => exact hb pins s1 σ H1 Q I1 q1
  | true => exact ⟨.bl true, H1, I1, rfl, q1⟩
/-- a if t else b -/
def tIf (t : TT) (ta tb : TE) : TE := fun σ H Q => t σ H fun c H1 => if c = true then ta σ H1 Q else tb σ H1 Q
theorem pe_ifExp {c : Expr} (hc : PT X c tA) (ha : PE X a ta) (hb : PE X b tb) : PE X (.IfExp c a b pos) (tIf tA ta tb) := by
  intro pins s σ H Q I h
  refine wpAny_IfExp (thn (hc pins s σ H _ I h) fun d s1 ⟨H1, I1, q1⟩ => ?_)
  cases d with
  | true => exact ha pins s1 σ H1 Q I1 q1
  | false => exact hb pins s1 σ H1 Q I1 q1
end
end L2

namespace L2
open PySem PySem.Spec PyProof.Rows

/-! ### a list, a tuple that is read: tracked, frozen, or an object of the module -/
def SqL (K : PySem.W.Frag) (H : Hp) (a : Addr) (xs : List V) : Prop :=
  Rd H a (.lst xs) ∨
    ∃ (o : Obj) (its : Array Value) (n : Nat), K.lookup a = some o ∧ o.cls = .type "list" ∧ o.dict = none ∧ o.data = .seq its n ∧ its.size ≤ sizeLine ∧ Vals xs its.toList
def SqT (K : PySem.W.Frag) (H : Hp) (a : Addr) (xs : List V) : Prop :=
  Rd H a (.tup xs) ∨
    ∃ (o : Obj) (its : Array Value) (n : Nat), K.lookup a = some o ∧ o.cls = .type "tuple" ∧ o.data = .seq its n ∧ its.size ≤ sizeLine ∧ Vals xs its.toList
def absV : Value → Option V
  | .none => some .non
  | .bool b => some (.bl b)
  | .int i _ => some (.int i)
  | .str x _ => some (.str x)
  | .bytes b _ => some (.byt b)
  | .float b _ => some (.flt b)
  | .ref a => some (.ref a)
  | .type n => some (.ty n)
  | _ => none
theorem RelV.abs {x : V} {u : Value} (r : RelV x u) : absV u = some x := by
  cases x with
  | non => cases r; rfl
  | bl _ => cases r; rfl
  | int _ => obtain ⟨t, rfl⟩ := r; rfl
  | str _ => obtain ⟨t, rfl⟩ := r; rfl
  | byt _ => obtain ⟨t, rfl⟩ := r; rfl
  | flt _ => obtain ⟨t, rfl⟩ := r; rfl
  | ref _ => cases r; rfl
  | ty _ => cases r; rfl
theorem RelV.inj {x y : V} {u : Value} (r : RelV x u) (q : RelV y u) : x = y := Option.some.inj (r.abs.symm.trans q.abs)
theorem Vals.inj : ∀ {xs ys : List V} {us : List Value}, Vals xs us → Vals ys us → xs = ys
  | _, _, _, .nil, .nil => rfl
  | _, _, _, .cons r t, .cons r' t' => by rw [r.inj r', Vals.inj t t']
section
variable {X : Cx} {pins : List (Addr × Obj)} {σ : St} {H : Hp} {s : Shared} {a : Addr} {xs ys : List V}
theorem SqL.of {K : PySem.W.Frag} (h : H a = some (.lst xs)) : SqL K H a xs := .inl (.inl h)
theorem SqT.of {K : PySem.W.Frag} (h : H a = some (.tup xs)) : SqT K H a xs := .inl (.inl h)
theorem Inv.list (I : Inv X pins σ H s) (h : SqL X.K H a xs) : ∃ its : List Value, Vals xs its ∧ PlainL s.heap a its.toArray ∧ xs.length ≤ sizeLine := by
  rcases h with h | ⟨o, its, n, hk, hc, hd, hs, hz, r⟩
  · obtain ⟨z, its, n, r, e⟩ := h.ok I.hok
    exact ⟨its, r, ⟨_, n, e, rfl, rfl, rfl⟩, z⟩
  · refine ⟨its.toList, r, ⟨o, n, I.kIn a o hk, hc, hd, by simpa using hs⟩, ?_⟩
    have e := r.length
    simp only [Array.length_toList] at e
    omega
theorem Inv.tuple (I : Inv X pins σ H s) (h : SqT X.K H a xs) : ∃ its : List Value, Vals xs its ∧ IsTup s.heap a its.toArray ∧ xs.length ≤ sizeLine := by
  rcases h with h | ⟨o, its, n, hk, hc, hs, hz, r⟩
  · obtain ⟨z, its, r, p⟩ := h.ok I.hok
    exact ⟨its, r, p, z⟩
  · refine ⟨its.toList, r, ⟨o, I.kIn a o hk, hc, n, by simpa using hs⟩, ?_⟩
    have e := r.length
    simp only [Array.length_toList] at e
    omega
theorem Inv.list_inj (I : Inv X pins σ H s) (h : SqL X.K H a xs) (h' : SqL X.K H a ys) : xs = ys := by
  obtain ⟨its, r, ⟨o, n, e, _, _, d⟩, _⟩ := I.list h
  obtain ⟨its', r', ⟨o', n', e', _, _, d'⟩, _⟩ := I.list h'
  rw [e] at e'; cases e'
  rw [d] at d'
  injection d' with d1 _
  have : its = its' := by simpa using congrArg Array.toList d1
  subst this
  exact r.inj r'
end

/-! ### another wish about exceptions -/
abbrev Cx.wish (X : Cx) (E : Value → Shared → Prop) : Cx := { X with xe := E }
/-- no exception leaves -/
abbrev Cx.nox (X : Cx) : Cx := X.wish fun _ _ => False
theorem Cx.Ok.wish {X : Cx} (ok : X.Ok) (E : Value → Shared → Prop) : (X.wish E).Ok :=
  ⟨ok.mod, ok.kind, ok.glob, ok.blt, ok.above, ok.inj, ok.has, ok.cab, ok.hd, ok.frames, ok.stk, ok.exf, ok.bs, ok.bsz, ok.noex, ok.exfs, ok.funs, ok.frf⟩
theorem Cx.Ok.unwish {X : Cx} {E : Value → Shared → Prop} (ok : (X.wish E).Ok) : X.Ok :=
  ⟨ok.mod, ok.kind, ok.glob, ok.blt, ok.above, ok.inj, ok.has, ok.cab, ok.hd, ok.frames, ok.stk, ok.exf, ok.bs, ok.bsz, ok.noex, ok.exfs, ok.funs, ok.frf⟩
section
variable {X : Cx} {pins : List (Addr × Obj)} {σ : St} {H : Hp} {s : Shared} {E : Value → Shared → Prop}
theorem Inv.wish (I : Inv X pins σ H s) (E : Value → Shared → Prop) : Inv (X.wish E) pins σ H s := ⟨I.ok.wish E, I.os, I.bare, I.base, I.loc, I.cell, I.free, I.freeC, I.pin, I.hok, I.len⟩
theorem Inv.unwish (I : Inv (X.wish E) pins σ H s) : Inv X pins σ H s := ⟨I.ok.unwish, I.os, I.bare, I.base, I.loc, I.cell, I.free, I.freeC, I.pin, I.hok, I.len⟩
theorem SP.unwish {D : Ends} {f : Flow} {s' : Shared} (h : SP (X.wish E) pins D f s') : SP X pins D f s' := by
  cases f with
  | next => obtain ⟨σ', H', I, q⟩ := h; exact ⟨σ', H', I.unwish, q⟩
  | brk => obtain ⟨σ', H', I, q⟩ := h; exact ⟨σ', H', I.unwish, q⟩
  | cont => obtain ⟨σ', H', I, q⟩ := h; exact ⟨σ', H', I.unwish, q⟩
  | ret u => obtain ⟨v, σ', H', I, r, q⟩ := h; exact ⟨v, σ', H', I.unwish, r, q⟩
theorem PSs.nox {st : List Stmt} {t : TS} (h : PSs X.nox st t) : PSs X st t := fun pins s σ H D I hw =>
  wpAny_mono (h pins s σ H D (I.wish _) hw) (fun _ _ q => q.unwish) fun _ _ z => False.elim z
end

/-! ### blocks and small statements -/
section
variable {X : Cx} {st : Stmt} {rest : List Stmt} {t u : TS} {e : Expr} {te : TE} {pos : Pos}
def tNext : TS := fun D σ H => D.nx σ H
def tSeq (t u : TS) : TS := fun D σ H => t { D with nx := u D } σ H
theorem pss_nil : PSs X [] tNext := fun _ _ σ H _ I h => wpAny_execs_nil ⟨σ, H, I, h⟩
theorem pss_cons (h1 : PS X st t) (h2 : PSs X rest u) : PSs X (st :: rest) (tSeq t u) := by
  intro pins s σ H D I h
  refine wpAny_execs_cons (thn (h1 pins s σ H { D with nx := u D } I h) fun f s1 q => ?_)
  cases f with
  | next =>
    obtain ⟨σ', H', I', q⟩ := q
    exact h2 pins s1 σ' H' D I' q
  | ret v => exact q
  | brk => exact q
  | cont => exact q
theorem pss_one (h1 : PS X st t) : PSs X [st] t := by
  intro pins s σ H D I h
  refine wpAny_execs_cons (thn (h1 pins s σ H D I h) fun f s1 q => ?_)
  cases f with
  | next => exact wpAny_execs_nil q
  | ret v => exact q
  | brk => exact q
  | cont => exact q
/-- in a def's body nothing is shown -/
theorem Inv.quiet {pins : List (Addr × Obj)} {σ : St} {H : Hp} {s : Shared} (I : Inv X pins σ H s) : interactive X.env = false := by simp [interactive, I.ok.kind]
/-- an expression whose value is dropped -/
def tDrop (te : TE) : TS := fun D σ H => te σ H fun _ H1 => D.nx σ H1
theorem ps_expr (he : PE X e te) (hs : swapsWith e none pos.line X.env = pure false := by rfl) : PS X (.Expr e pos) (tDrop te) := by
  intro pins s σ H D I h
  exact wpAny_Expr_any (thn (he pins s σ H _ I h) fun v s1 ⟨x, H1, I1, r1, q1⟩ => ⟨σ, H1, I1, q1⟩) I.quiet hs
def tRet (te : TE) : TS := fun D σ H => te σ H D.rt
theorem ps_ret (he : PE X e te) : PS X (.Return (some e) pos) (tRet te) := by
  intro pins s σ H D I h
  exact wpAny_Return_some (thn (he pins s σ H _ I h) fun v s1 ⟨x, H1, I1, r1, q1⟩ => ⟨x, σ, H1, I1, r1, q1⟩)
def tIfS (c : TT) (t u : TS) : TS := fun D σ H => c σ H fun b H1 => if b = true then t D σ H1 else u D σ H1
theorem ps_if {c : Expr} {a b : List Stmt} {tc : TT} (hc : PT X c tc) (ha : PSs X a t) (hb : PSs X b u) : PS X (.If c a b pos) (tIfS tc t u) := by
  intro pins s σ H D I h
  refine wpAny_If (thn (hc pins s σ H _ I h) fun d s1 ⟨H1, I1, q1⟩ => ?_)
  cases d with
  | true => exact ha pins s1 σ H1 D I1 q1
  | false => exact hb pins s1 σ H1 D I1 q1
end

/-! ### targets -/
abbrev TG := V → St → Hp → (St → Hp → Prop) → Prop
def PG (X : Cx) (target : Expr) (t : TG) : Prop :=
  ∀ (pins : List (Addr × Obj)) (s : Shared) (σ : St) (H : Hp) (v : V) (u : Value) (Q : St → Hp → Prop), Inv X pins σ H s → RelV v u → t v σ H Q →
    wpAny (model X.prog X.w) X.A (assign target X.env u) (fun _ s' => ∃ σ' H', Inv X pins σ' H' s' ∧ Q σ' H') X.xe s
/-- a op= b, by values -/
abbrev TIp := V → V → Hp → VK → Prop
def PIp (X : Cx) (op : Operator) (t : TIp) : Prop :=
  ∀ (pins : List (Addr × Obj)) (s : Shared) (σ : St) (H : Hp) (x y : V) (v u : Value) (Q : VK), Inv X pins σ H s → RelV x v → RelV y u → t x y H Q →
    wpAny (model X.prog X.w) X.A (inplaceOp op v u) (EP X pins σ Q) X.xe s
section
variable {X : Cx} {pos : Pos}
def gName (i : Nat) : TG := fun v σ H Q => Q (σ.set i (some v)) H
theorem pg_name {i : Nat} {x : Str} (hN : X.N.Nodup) (hi : X.N[i]? = some x) (hx : Loc X.env.scope x) (hf : X.fn x = true ∨ X.env.scope.names.lookup x = some .local := by first | exact .inl rfl | exact .inr rfl | assumption) : PG X (.Name x pos) (gName i) := by
  intro pins s σ H v u Q I r h
  exact wpAny_assign_Name (store_ok I hN hi hx r (fun s' I' => ⟨_, H, I', h⟩) hf)
/-- target = value -/
def tAsg (te : TE) (g : TG) : TS := fun D σ H => te σ H fun x H1 => g x σ H1 D.nx
/-- name = value -/
theorem ps_set {i : Nat} {x : Str} {e : Expr} {te : TE} {pos' : Pos} (hN : X.N.Nodup) (hi : X.N[i]? = some x) (hx : Loc X.env.scope x) (he : PE X e te) (hs : swapsWith e (some (.Name x pos')) pos.line X.env = pure false := by rfl) (hf : X.fn x = true ∨ X.env.scope.names.lookup x = some .local := by first | exact .inl rfl | exact .inr rfl | assumption) :
    PS X (.Assign [.Name x pos'] e pos) (tAsg te (gName i)) := by
  intro pins s σ H D I h
  refine wpAny_Assign_Name (thn (he pins s σ H _ I h) fun v s1 ⟨y, H1, I1, r1, q1⟩ => ?_) hs
  exact store_ok I1 hN hi hx r1 (fun s2 I2 => ⟨_, H1, I2, q1⟩) hf
/-- name op= e -/
def tAug (i : Nat) (te : TE) (ti : TIp) : TS := fun D σ H => ∃ x, σ[i]? = some (some x) ∧ te σ H fun y H1 => ti x y H1 fun z H2 => D.nx (σ.set i (some z)) H2
theorem ps_aug {i : Nat} {x : Str} {e : Expr} {te : TE} {op : Operator} {ti : TIp} {pos' : Pos} (hN : X.N.Nodup) (hi : X.N[i]? = some x) (hx : Loc X.env.scope x) (he : PE X e te) (ho : PIp X op ti) (hf : X.fn x = true ∨ X.env.scope.names.lookup x = some .local := by first | exact .inl rfl | exact .inr rfl | assumption) :
    PS X (.AugAssign (.Name x pos') op e pos) (tAug i te ti) := by
  intro pins s σ H D I h
  obtain ⟨v, e1, h⟩ := h
  obtain ⟨m, hn, hl⟩ := I.loc
  have vis : Vis X.env.scope x := by rcases hx with k | k; exact .inl k; exact .inr (.inl k)
  obtain ⟨u, r, l⟩ := hl i x v hi e1 vis
  refine wpAny_AugAssign_Name ?_
  have go : wpAny (model X.prog X.w) X.A (eval e X.env) (fun w s₂ => wpAny (model X.prog X.w) X.A (inplaceOp op u w) (fun r s₃ => wpAny (model X.prog X.w) X.A (storeName X.env x r) (fun _ => SP X pins D .next) X.xe s₃) X.xe s₂) X.xe s := by
    refine thn (he pins s σ H _ I h) fun w s1 ⟨y, H1, I1, r1, q1⟩ => ?_
    refine thn (ho pins s1 σ H1 v y u w _ I1 r r1 q1) fun z s2 ⟨zv, H2, I2, r2, q2⟩ => ?_
    exact store_ok I2 hN hi hx r2 (fun s3 I3 => ⟨_, H2, I3, q2⟩) hf
  rcases l with ⟨hk, hm⟩ | ⟨hk, c, hc, hcell⟩
  · exact wpAny_loadName_local I.ok.kind hk hn hm go
  · rcases hk with hk | hk
    · exact wpAny_loadName_cell I.ok.kind hk hc hcell go
    · rcases hx with k | k
      · have : X.env.scope.names.lookup x = some .free := hk
        rw [k] at this; cases this
      · have : X.env.scope.names.lookup x = some .free := hk
        rw [k] at this; cases this
/-- ints -/
def ipI (f : Int → Int → Int) : TIp := fun x y H Q => ∃ i j, x = .int i ∧ y = .int j ∧ Q (.int (f i j)) H
theorem ip_sub : PIp X .Sub (ipI fun i j => i - j) := by
  intro pins s σ H x y v u Q I r1 r2 h
  obtain ⟨i, j, e1, e2, q⟩ := h
  subst e1; subst e2
  obtain ⟨t, rfl⟩ := r1
  obtain ⟨t', rfl⟩ := r2
  exact isub_int ⟨.int _, H, I.tok _, ⟨_, rfl⟩, q⟩
end

/-! ### while -/
section
variable {X : Cx} {pos : Pos}
/-- the invariant W with its measure -/
def tWhile (c : TT) (tb : TS) : TS := fun D σ H => ∃ W : Nat → St → Hp → Prop, (∃ m, W m σ H) ∧ ∀ m σ H, W m σ H →
  c σ H fun b H1 => if b = true then ∃ N : St → Hp → Prop, (∀ σ' H', N σ' H' → ∃ m', m' < m ∧ W m' σ' H') ∧ tb { D with nx := N, ct := N, bk := D.nx } σ H1 else D.nx σ H1
theorem ps_while {c : Expr} {body : List Stmt} {tc : TT} {tb : TS} (hp : PassesOwn (model X.prog X.w) X.A X.env X.xe) (hc : PT X c tc) (hb : PSs X body tb) : PS X (.While c body [] pos) (tWhile tc tb) := by
  intro pins s σ H D I h
  obtain ⟨W, ⟨m0, w0⟩, turn⟩ := h
  refine wpAny_While (codeAny_whileLoop (fun n s' => ∃ σ' H', Inv X pins σ' H' s' ∧ W n σ' H') ?_ m0 ⟨σ, H, I, w0⟩)
  rintro n s1 ⟨σ1, H1, I1, w1⟩
  refine wpAny_passesOwn hp (thn (hc pins s1 σ1 H1 _ I1 (turn n σ1 H1 w1)) fun b s2 ⟨H2, I2, q2⟩ => ?_)
  cases b with
  | true =>
    obtain ⟨N, hN, q2⟩ := q2
    rw [if_pos rfl]
    refine wpAny_passesOwn hp (thn (hb pins s2 σ1 H2 _ I2 q2) fun f s3 q3 => ?_)
    cases f with
    | next =>
      obtain ⟨σ3, H3, I3, n3⟩ := q3
      obtain ⟨m', hm, w3⟩ := hN σ3 H3 n3
      exact ⟨m', hm, σ3, H3, I3, w3⟩
    | cont =>
      obtain ⟨σ3, H3, I3, n3⟩ := q3
      obtain ⟨m', hm, w3⟩ := hN σ3 H3 n3
      exact ⟨m', hm, σ3, H3, I3, w3⟩
    | brk => exact q3
    | ret v => exact q3
  | false =>
    rw [if_neg Bool.false_ne_true]
    exact wpAny_execs_nil ⟨σ1, H2, I2, q2⟩
end

/-! ### what a loop or a comprehension walks -/
/-- at turn i: it yields x (the heap may grow), or it stops -/
structure It where
  go : Nat → Hp → Prop
  yld : Nat → Hp → V → Hp → Prop
  stop : Nat → Hp → Prop
/-- the iterator's own objects may turn: they are not the frame's, not pinned, younger than the entry (or a comprehension's own) -/
def FpOk (X : Cx) (pins : List (Addr × Obj)) (H : Hp) (b : Addr) : Prop :=
  H b = none ∧ b ≠ X.env.locals ∧ b ∉ X.fs ∧ (b ∈ X.ex ∨ X.s_0.heap.objs.size ≤ b) ∧ (∀ x c, X.env.cells.lookup x = some c → c ≠ b) ∧ ∀ p ∈ X.pn ++ pins, p.1 ≠ b
theorem Inv.fpOk {X : Cx} {pins : List (Addr × Obj)} {σ : St} {H H' : Hp} {s : Shared} {b : Addr} (I : Inv X pins σ H s) (hb : s.heap.objs.size ≤ b) (hn : H' b = none) : FpOk X pins H' b := by
  refine ⟨hn, Nat.ne_of_gt (Nat.lt_of_lt_of_le I.lt hb), I.nofs hb, .inr (Nat.le_trans I.sz hb), fun x c e z => ?_, fun p hp z => ?_⟩
  · obtain ⟨v, q⟩ := I.cell x c e
    exact absurd (Nat.lt_of_lt_of_le q.lt (by rw [z]; exact hb)) (Nat.lt_irrefl _)
  · exact absurd (Nat.lt_of_lt_of_le (Heap.lt_size (I.pin p hp).1) (by rw [z]; exact hb)) (Nat.lt_irrefl _)
structure Turn (P : Program) (w : World) (K : PySem.W.Frag) (tg : Expr) (J : It) (fp : List Addr) (it : Addr) (tn : Nat → Heap → Prop) : Prop where
  mem : it ∈ fp
  obj : ∀ i h, tn i h → ∀ b ∈ fp, ∃ o, h.get? b = some o ∧ ∀ v, o.data ≠ .cell v
  keep : ∀ i h h', tn i h → (∀ b ∈ fp, ∀ o, h.get? b = some o → h'.get? b = some o) → tn i h'
  item : ∀ (X : Cx), X.prog = P → X.w = w → X.K = K → X.calm = true → ∀ (i : Nat) (pins : List (Addr × Obj)) (s : Shared) (σ : St) (H : Hp) (E : Value → Shared → Prop), Inv X pins σ H s → (∀ b ∈ fp, FpOk X pins H b) → tn i s.heap → J.go i H →
    wpAny (model P w) X.A (pyNext (.ref it)) (fun r s1 => ∃ u, r = some u ∧
      wpAny (model P w) X.A (letOwnedTupleGo tg (.ref it) u) (fun _ s2 => ∃ x H', Inv X pins σ H' s2 ∧ RelV x u ∧ J.yld i H x H' ∧ tn (i + 1) s2.heap ∧ ∀ b ∈ fp, H' b = none) E s1) E s
  done : ∀ (X : Cx), X.prog = P → X.w = w → X.K = K → X.calm = true → ∀ (i : Nat) (pins : List (Addr × Obj)) (s : Shared) (σ : St) (H : Hp) (E : Value → Shared → Prop), Inv X pins σ H s → (∀ b ∈ fp, FpOk X pins H b) → tn i s.heap → J.stop i H →
    wpAny (model P w) X.A (pyNext (.ref it)) (fun r s1 => r = none ∧ Inv X pins σ H s1) E s
  self : ∀ (A : Around) (i : Nat) (s : Shared) (Q : Value → Shared → Prop) (E : Value → Shared → Prop), tn i s.heap → Q (.ref it) s → wpAny (model P w) A (pyIter (.ref it)) Q E s
abbrev TI := St → Hp → (It → Hp → Prop) → Prop
/-- an iterator has come -/
def PIE (X : Cx) (pins : List (Addr × Obj)) (σ : St) (tg : Expr) (R : It → Hp → Prop) (itv : Value) (s2 : Shared) : Prop :=
  ∃ (it : Addr) (fp : List Addr) (tn : Nat → Heap → Prop) (J : It) (H' : Hp), itv = .ref it ∧ Inv X pins σ H' s2 ∧ Turn X.prog X.w X.K tg J fp it tn ∧ tn 0 s2.heap ∧ (∀ b ∈ fp, FpOk X pins H' b) ∧ R J H'
def PI (X : Cx) (tg iter : Expr) (wi : TI) : Prop :=
  ∀ (pins : List (Addr × Obj)) (s : Shared) (σ : St) (H : Hp) (R : It → Hp → Prop), Inv X pins σ H s → wi σ H R →
    wpAny (model X.prog X.w) X.A (eval iter X.env) (fun v s1 => wpAny (model X.prog X.w) X.A (pyIter v) (PIE X pins σ tg R) X.xe s1) X.xe s

/-- the step ahead of the store is nothing for an iterator that keeps no tuple -/
theorem go_of {M : Model} {A : Around} {E : Value → Shared → Prop} {s : Shared} {tg : Expr} {it : Addr} {u : Value} {o : Obj} {n : String} {vs : Array Value} {Q : Unit → Shared → Prop} (ho : s.heap.get? it = some o) (hc : o.cls = .type n) (hd : o.data = .fields vs)
    (hn : ["enumerate", "zip", "dict_itemiterator", "dict_reverseitemiterator", "odict_iterator", "itertools.zip_longest", "itertools.pairwise"].contains n = false) (hQ : Q () s) : wpAny M A (letOwnedTupleGo tg (.ref it) u) Q E s := by
  unfold letOwnedTupleGo
  cases tg <;> first
    | exact wpAny_pure hQ
    | (cases u <;> first
        | exact wpAny_pure hQ
        | (refine wpAny_bind (wpAny_load ho ?_)
           rw [hc, hd]
           show wpAny M A (if (["enumerate", "zip", "dict_itemiterator", "dict_reverseitemiterator", "odict_iterator", "itertools.zip_longest", "itertools.pairwise"].contains n && vs[0]? == some (rawInt _)) = true then _ else _) Q E s
           rw [if_neg (by intro h; rw [hn, Bool.false_and] at h; cases h)]
           exact wpAny_pure hQ))

/-- the list at a, as it stands at each turn (a loop may append to it) -/
def Itl (K : PySem.W.Frag) (a : Addr) : It :=
  ⟨fun i H => ∃ xs x, SqL K H a xs ∧ xs[i]? = some x, fun i H x H' => H' = H ∧ ∀ xs, SqL K H a xs → xs[i]? = some x, fun i H => ∃ xs, SqL K H a xs ∧ xs.length ≤ i⟩
/-- lo, lo + 1, .. (n of them) -/
def Itr (lo : Int) (n : Nat) : It := ⟨fun i _ => i < n, fun i H x H' => H' = H ∧ x = .int (lo + i), fun i _ => n ≤ i⟩
theorem turn_list {P : Program} {w : World} {K : PySem.W.Frag} {tg : Expr} (a it : Addr) : Turn P w K tg (Itl K a) [it] it (fun i h => h.IsListIter it a i) where
  mem := by simp
  obj := fun i h st b hb => by
    have e : b = it := by simpa using hb
    subst e
    obtain ⟨o, e, c, d⟩ := st
    exact ⟨o, e, fun v z => by rw [d] at z; cases z⟩
  keep := fun i h h' st k => st.at fun o e => k it (by simp) o e
  item := by
    intro X hP hw hK hc i pins s σ H E I hf st hg
    subst hP hw hK
    obtain ⟨xs, x, hq, hx⟩ := hg
    obtain ⟨its, rv, p, hz⟩ := I.list hq
    obtain ⟨u, hu, ru⟩ := rv.get hx
    obtain ⟨f0, f1, f2, f3, f4, f5⟩ := hf it (by simp)
    refine wpAny_pyNext_list_item st p.isList (x := u) (by simpa using hu) fun h' st' sb => ?_
    have I1 : Inv X pins σ H { s with heap := h' } := I.turned (t' := s.toks) (fun b o hb e => (sb.2 b hb).trans e) f0 f1 f3 f4 f5
    obtain ⟨o, e, c, d⟩ := id st'
    exact ⟨u, rfl, go_of (s := { s with heap := h' }) e c d (by decide) ⟨x, H, I1, ru, ⟨rfl, fun ys hy => by rw [I.list_inj hy hq]; exact hx⟩, st', fun b hb => (hf b hb).1⟩⟩
  done := by
    intro X hP hw hK hc i pins s σ H E I hf st hg
    subst hP hw hK
    obtain ⟨xs, hq, hx⟩ := hg
    obtain ⟨its, rv, p, hz⟩ := I.list hq
    obtain ⟨f0, f1, f2, f3, f4, f5⟩ := hf it (by simp)
    have hl := rv.length
    exact wpAny_pyNext_list_end (I.ok.hd hc) st p.isList (by simp; omega) fun h' eb => ⟨rfl, I.turned (t' := s.toks) (fun b o hb e => eb b o hb e) f0 f1 f3 f4 f5⟩
  self := fun _ _ _ _ _ st h => wpAny_pyIter_listiter st h
theorem turn_range {P : Program} {w : World} {K : PySem.W.Frag} {tg : Expr} (it : Addr) (lo : Int) (n : Nat) : Turn P w K tg (Itr lo n) [it] it (fun i h => IsRangeIter h it (lo + (i : Nat) * 1) ((n : Int) - (i : Nat)) 1) where
  mem := by simp
  obj := fun i h st b hb => by
    have e : b = it := by simpa using hb
    subst e
    exact ⟨_, st, fun v z => by
      have z' : Data.fields _ = Data.cell v := z
      cases z'⟩
  keep := fun i h h' st k => k it (by simp) _ st
  item := by
    intro X hP hw hK hc i pins s σ H E I hf st hg
    subst hP hw hK
    obtain ⟨f0, f1, f2, f3, f4, f5⟩ := hf it (by simp)
    have W := Walks.range (prog := X.prog) (w := X.w) (I.ok.hd hc) it lo 1 n
    refine W.item i s _ _ hg st fun v h' tk hv st' kk => ?_
    obtain ⟨t, rfl⟩ := hv
    have I1 : Inv X pins σ H { s with heap := h', toks := tk } := I.turned (fun b o hb e => kk b o (by simpa using hb) e) f0 f1 f3 f4 f5
    refine ⟨_, rfl, go_of (s := { s with heap := h', toks := tk }) (n := "range_iterator") st' rfl rfl (by decide) ⟨.int (lo + i), H, I1, ⟨t, ?_⟩, ⟨rfl, rfl⟩, st', fun b hb => (hf b hb).1⟩⟩
    rw [Int.mul_one]
  done := by
    intro X hP hw hK hc i pins s σ H E I hf st hg
    subst hP hw hK
    obtain ⟨f0, f1, f2, f3, f4, f5⟩ := hf it (by simp)
    exact wpAny_pyNext_range_end (I.ok.hd hc) st (by have : n ≤ i := hg; omega) fun h' eb => ⟨rfl, I.turned (t' := s.toks) (fun b o hb e => eb b o hb e) f0 f1 f3 f4 f5⟩
  self := fun _ _ _ _ _ st h => wpAny_pyIter_rangeiter st h
end L2

namespace L2
open PySem PySem.Spec PyProof.Rows
section
variable {X : Cx} {tg : Expr}
def iList (K : PySem.W.Frag) (tl : TE) : TI := fun σ H R => tl σ H fun x H1 => ∃ a, x = .ref a ∧ (∃ xs, SqL K H1 a xs) ∧ R (Itl K a) H1
theorem pi_list {l : Expr} {tl : TE} (hl : PE X l tl) : PI X tg l (iList X.K tl) := by
  intro pins s σ H R I h
  refine thn (hl pins s σ H _ I h) fun v s1 ⟨x, H1, I1, r1, q1⟩ => ?_
  obtain ⟨a, e, ⟨xs, hq⟩, q⟩ := q1
  subst e
  cases r1
  obtain ⟨its, rv, p, hz⟩ := I1.list hq
  refine wpAny_pyIter_list p.isList ?_
  refine ⟨s1.heap.objs.size, [s1.heap.objs.size], _, _, H1, rfl, I1.kept (t' := s1.toks) fun b o e => Heap.get?_push_of_some _ e, turn_list a _, ⟨_, Heap.get?_push_size _ rfl, rfl, rfl⟩, fun b hb => ?_, q⟩
  have e : b = s1.heap.objs.size := by simpa using hb
  subst e
  exact I1.fpOk (Nat.le_refl _) (I1.hok.fresh (Nat.le_refl _))
/-- a range object just made, walked -/
theorem range_it {pins : List (Addr × Obj)} {σ : St} {H : Hp} {s : Shared} {R : It → Hp → Prop} {E : Value → Shared → Prop} {lo hi : Int} {t u v : Tok} {tk : Nat} (I : Inv X pins σ H s) (h1 : -(2 ^ 62) ≤ lo) (h2 : lo < 2 ^ 62) (h3 : -(2 ^ 62) ≤ hi) (h4 : hi < 2 ^ 62)
    (q : R (Itr lo (hi - lo).toNat) H) : wpAny (model X.prog X.w) X.A (pyIter (.ref s.heap.objs.size)) (PIE X pins σ tg R) E { s with heap := s.heap.push { cls := .type "range", data := .fields #[.int lo t, .int hi u, .int 1 v] }, toks := tk } := by
  refine wpAny_pyIter_range (IsRange.new ..) (small_one h1 h2 h3 h4) ?_
  have I1 : Inv X pins σ H { s with heap := s.heap.push { cls := .type "range", data := .fields #[.int lo t, .int hi u, .int 1 v] }, toks := tk } := I.kept fun b o e => Heap.get?_push_of_some _ e
  refine ⟨(s.heap.push { cls := .type "range", data := .fields #[.int lo t, .int hi u, .int 1 v] }).objs.size, [(s.heap.push { cls := .type "range", data := .fields #[.int lo t, .int hi u, .int 1 v] }).objs.size], _, _, H, rfl,
    I1.kept (t' := tk) fun b o e => Heap.get?_push_of_some _ e, turn_range _ lo (hi - lo).toNat, ?_, fun b hb => ?_, q⟩
  · have e1 : lo + ((0 : Nat) : Int) * 1 = lo := by simp
    have e2 : (((hi - lo).toNat : Nat) : Int) - ((0 : Nat) : Int) = Builtin.Range.rangeSize lo hi 1 := by rw [rangeSize_one]; split <;> omega
    show IsRangeIter _ _ (lo + ((0 : Nat) : Int) * 1) ((((hi - lo).toNat : Nat) : Int) - ((0 : Nat) : Int)) 1
    rw [e1, e2]
    exact Heap.get?_push_size _ rfl
  · have e : b = (s.heap.push { cls := .type "range", data := .fields #[.int lo t, .int hi u, .int 1 v] }).objs.size := by simpa using hb
    subst e
    exact I1.fpOk (Nat.le_refl _) (I1.hok.fresh (Nat.le_refl _))
def iRng1 (ta : TA) : TI := fun σ H R => ta σ H fun vs H1 => ∃ j : Int, vs = [.int j] ∧ -(2 ^ 62) ≤ j ∧ j < 2 ^ 62 ∧ R (Itr 0 j.toNat) H1
def iRng2 (ta : TA) : TI := fun σ H R => ta σ H fun vs H1 => ∃ i j : Int, vs = [.int i, .int j] ∧ (-(2 ^ 62) ≤ i ∧ i < 2 ^ 62 ∧ -(2 ^ 62) ≤ j ∧ j < 2 ^ 62) ∧ R (Itr i (j - i).toNat) H1
theorem pi_range1 {a : Expr} {ta : TA} {p pos : Pos} (hg : Gl X "range") (hm : X.mg "range" = none) (ha : PA X [a] ta) (hs : starEach [a] X.env = [(false, eval a X.env)] := by rfl) : PI X tg (.Call (.Name "range" p) [a] [] pos) (iRng1 ta) := by
  intro pins s σ H R I h
  refine Call_ (ld_blt I hg hm boot_range (PyProof.Rows.callWith_type1 (thn (ha pos pins s σ H _ I h) fun us s1 ⟨vs, H1, I1, r1, q1⟩ => ?_) hs rfl))
  obtain ⟨j, e, q1, q2, q⟩ := q1
  subst e
  cases r1 with
  | cons r rr =>
    cases rr
    obtain ⟨t, rfl⟩ := r
    exact call_range_1 (range_it I1 (by omega) (by omega) q1 q2 (by simpa using q))
theorem pi_range2 {a b : Expr} {ta : TA} {p pos : Pos} (hg : Gl X "range") (hm : X.mg "range" = none) (ha : PA X [a, b] ta) (hs : starEach [a, b] X.env = [(false, eval a X.env), (false, eval b X.env)] := by rfl) (hs2 : starEach [b] X.env = [(false, eval b X.env)] := by rfl) :
    PI X tg (.Call (.Name "range" p) [a, b] [] pos) (iRng2 ta) := by
  intro pins s σ H R I h
  refine Call_ (ld_blt I hg hm boot_range (PyProof.Rows.callWith_type1 (thn (ha pos pins s σ H _ I h) fun us s1 ⟨vs, H1, I1, r1, q1⟩ => ?_) (by rw [hs, hs2]) (by rw [hs2]; rfl)))
  obtain ⟨i, j, e, ⟨q1, q2, q3, q4⟩, q⟩ := q1
  subst e
  cases r1 with
  | cons r rr =>
    cases rr with
    | cons r' rr =>
      cases rr
      obtain ⟨t, rfl⟩ := r
      obtain ⟨t', rfl⟩ := r'
      exact call_range_2 (range_it I1 q1 q2 q3 q4 q)

/-! ### for -/
/-- W: the invariant by the turn and a measure; N: what the body is to reach -/
def tFor (wi : TI) (g : TG) (tb : TS) : TS := fun D σ H => wi σ H fun J H1 => ∃ W : Nat → Nat → St → Hp → Prop, (∃ m, W 0 m σ H1) ∧ ∀ i m σ H, W i m σ H →
  (J.stop i H ∧ D.nx σ H) ∨ (J.go i H ∧ ∃ N : St → Hp → Prop, (∀ σ' H', N σ' H' → ∃ m', m' < m ∧ W (i + 1) m' σ' H') ∧ ∀ x H', J.yld i H x H' → g x σ H' fun σ2 H2 => tb { D with nx := N, ct := N, bk := D.nx } σ2 H2)
/-- the records at fp as they stand -/
def pinsAt (fp : List Addr) (h : Heap) : List (Addr × Obj) := fp.filterMap fun b => (h.get? b).map fun o => (b, o)
theorem mem_pinsAt {fp : List Addr} {h : Heap} {b : Addr} {o : Obj} (hb : b ∈ fp) (e : h.get? b = some o) : (b, o) ∈ pinsAt fp h := List.mem_filterMap.mpr ⟨b, hb, by rw [e]; rfl⟩
theorem of_pinsAt {fp : List Addr} {h : Heap} {p : Addr × Obj} (hp : p ∈ pinsAt fp h) : p.1 ∈ fp ∧ h.get? p.1 = some p.2 := by
  obtain ⟨b, hb, e⟩ := List.mem_filterMap.mp hp
  cases q : h.get? b with
  | none => rw [q] at e; cases e
  | some o =>
    rw [q] at e
    have e' : (b, o) = p := Option.some.inj e
    subst e'
    exact ⟨hb, q⟩
theorem Inv.pinned {pins : List (Addr × Obj)} {σ : St} {H : Hp} {s : Shared} {fp : List Addr} (I : Inv X pins σ H s) (hf : ∀ b ∈ fp, FpOk X pins H b) (ho : ∀ b ∈ fp, ∃ o, s.heap.get? b = some o ∧ ∀ v, o.data ≠ .cell v) : Inv X (pins ++ pinsAt fp s.heap) σ H s :=
  I.pins_of fun p hp => (List.mem_append.mp hp).elim (fun z => I.pin p (List.mem_append_right _ z)) fun z => by
    obtain ⟨hb, e⟩ := of_pinsAt z
    obtain ⟨f0, f1, f2, _⟩ := hf p.1 hb
    obtain ⟨o, e', d⟩ := ho p.1 hb
    rw [e] at e'; cases e'
    exact ⟨e, f0, f1, f2, d⟩
theorem Inv.unpinned {pins pl : List (Addr × Obj)} {σ : St} {H : Hp} {s : Shared} (I : Inv X (pins ++ pl) σ H s) : Inv X pins σ H s := I.pins_of fun p hp => I.pin p (List.mem_append_right _ (List.mem_append_left _ hp))
theorem ps_for {iter : Expr} {body : List Stmt} {wi : TI} {g : TG} {tb : TS} {pos : Pos} (hp : PassesOwn (model X.prog X.w) X.A X.env X.xe) (hc : X.calm = true) (hi : PI X tg iter wi) (hg : PG X tg g) (hb : PSs X body tb)
    (hs : ∀ x, foldedSetIterable iter X.env x = pure x := by intro _; rfl) : PS X (.For tg iter body [] pos) (tFor wi g tb) := by
  intro pins s σ H D I h
  refine wpAny_For (thn (hi pins s σ H _ I h) fun v s1 h1 => thn h1 fun itv s2 h2 => ?_) hs
  obtain ⟨it, fp, tn, J, H2, e, I2, T, st2, f2, W, ⟨m0, w0⟩, turn⟩ := h2
  subst e
  -- what stays true of the iterator's objects through the loop
  have stat : ∀ {H' : Hp}, (∀ b ∈ fp, H' b = none) → ∀ b ∈ fp, FpOk X pins H' b := fun hn b hb => ⟨hn b hb, (f2 b hb).2⟩
  refine codeAny_forLoop_any (fun n s' => ∃ i σ' H', Inv X pins σ' H' s' ∧ tn i s'.heap ∧ (∀ b ∈ fp, H' b = none) ∧ W i n σ' H') ?_ m0 ⟨0, σ, H2, I2, st2, fun b hb => (f2 b hb).1, w0⟩
  rintro n s3 ⟨i, σ3, H3, I3, st3, fr3, w3⟩
  rcases turn i n σ3 H3 w3 with ⟨stop, qn⟩ | ⟨go, N, hN, step⟩
  · refine wpAny_passesOwn hp (thn (T.done X rfl rfl rfl hc i pins s3 σ3 H3 X.xe I3 (stat fr3) st3 stop) fun r s4 ⟨hr, I4⟩ => ?_)
    subst hr
    exact wpAny_execs_nil ⟨σ3, H3, I4, qn⟩
  · refine wpAny_passesOwn hp (thn (T.item X rfl rfl rfl hc i pins s3 σ3 H3 X.xe I3 (stat fr3) st3 go) fun r s4 ⟨u, hr, h4⟩ => ?_)
    subst hr
    refine wpAny_passesOwn hp (thn h4 fun _ s5 ⟨x, H5, I5, r5, y5, st5, fr5⟩ => ?_)
    have I5' := I5.pinned (stat fr5) (T.obj _ _ st5)
    refine wpAny_passesOwn hp (thn (hg _ s5 σ3 H5 x u _ I5' r5 (step x H5 y5)) fun _ s6 ⟨σ6, H6, I6, q6⟩ => ?_)
    refine wpAny_passesOwn hp (thn (hb _ s6 σ6 H6 _ I6 q6) fun f s7 q7 => ?_)
    have again : ∀ {σ7 : St} {H7 : Hp}, Inv X (pins ++ pinsAt fp s5.heap) σ7 H7 s7 → N σ7 H7 → ∃ m, m < n ∧ ∃ i σ' H', Inv X pins σ' H' s7 ∧ tn i s7.heap ∧ (∀ b ∈ fp, H' b = none) ∧ W i m σ' H' := fun {σ7 H7} I7 n7 => by
      obtain ⟨m', hm, w7⟩ := hN σ7 H7 n7
      refine ⟨m', hm, i + 1, σ7, H7, I7.unpinned, T.keep _ _ _ st5 fun b hb o e => (I7.pin (b, o) (List.mem_append_right _ (List.mem_append_right _ (mem_pinsAt hb e)))).1, fun b hb => ?_, w7⟩
      obtain ⟨o, e, d⟩ := T.obj _ _ st5 b hb
      exact (I7.pin (b, o) (List.mem_append_right _ (List.mem_append_right _ (mem_pinsAt hb e)))).2.1
    cases f with
    | next => obtain ⟨σ7, H7, I7, n7⟩ := q7; exact again I7 n7
    | cont => obtain ⟨σ7, H7, I7, n7⟩ := q7; exact again I7 n7
    | brk => obtain ⟨σ7, H7, I7, q7⟩ := q7; exact ⟨σ7, H7, I7.unpinned, q7⟩
    | ret v => obtain ⟨x7, σ7, H7, I7, r7, q7⟩ := q7; exact ⟨x7, σ7, H7, I7.unpinned, r7, q7⟩
end

/-! ### the forms one uses -/
/-- over a list that the body leaves as it is -/
theorem for_list {K : PySem.W.Frag} {a : Addr} {xs : List V} {g : TG} {tb : TS} {D : Ends} {σ : St} {H : Hp} (Pv : Nat → St → Hp → Prop) (h0 : Pv 0 σ H) (hl : ∀ i σ H, i ≤ xs.length → Pv i σ H → SqL K H a xs)
    (hs : ∀ i x σ H, xs[i]? = some x → Pv i σ H → g x σ H fun σ2 H2 => tb { D with nx := Pv (i + 1), ct := Pv (i + 1), bk := D.nx } σ2 H2) (hd : ∀ σ H, Pv xs.length σ H → D.nx σ H) :
    ∃ W : Nat → Nat → St → Hp → Prop, (∃ m, W 0 m σ H) ∧ ∀ i m σ H, W i m σ H →
      ((Itl K a).stop i H ∧ D.nx σ H) ∨ ((Itl K a).go i H ∧ ∃ N : St → Hp → Prop, (∀ σ' H', N σ' H' → ∃ m', m' < m ∧ W (i + 1) m' σ' H') ∧ ∀ x H', (Itl K a).yld i H x H' → g x σ H' fun σ2 H2 => tb { D with nx := N, ct := N, bk := D.nx } σ2 H2) := by
  refine ⟨fun i m σ H => m = xs.length - i ∧ i ≤ xs.length ∧ Pv i σ H, ⟨xs.length, by simp, Nat.zero_le _, h0⟩, ?_⟩
  rintro i m σ H ⟨rfl, hi, p⟩
  have q := hl i σ H hi p
  by_cases hlt : i < xs.length
  · refine .inr ⟨⟨xs, xs[i], q, by simp [hlt]⟩, Pv (i + 1), fun σ' H' p' => ⟨xs.length - (i + 1), by omega, rfl, hlt, p'⟩, fun x H' y => ?_⟩
    obtain ⟨e, y⟩ := y
    subst e
    exact hs i x σ _ (y xs q) p
  · have e : i = xs.length := by omega
    subst e
    exact .inl ⟨⟨xs, q, Nat.le_refl _⟩, hd σ H p⟩
theorem for_range {lo : Int} {n : Nat} {g : TG} {tb : TS} {D : Ends} {σ : St} {H : Hp} (Pv : Nat → St → Hp → Prop) (h0 : Pv 0 σ H)
    (hs : ∀ i σ H, i < n → Pv i σ H → g (.int (lo + i)) σ H fun σ2 H2 => tb { D with nx := Pv (i + 1), ct := Pv (i + 1), bk := D.nx } σ2 H2) (hd : ∀ σ H, Pv n σ H → D.nx σ H) :
    ∃ W : Nat → Nat → St → Hp → Prop, (∃ m, W 0 m σ H) ∧ ∀ i m σ H, W i m σ H →
      ((Itr lo n).stop i H ∧ D.nx σ H) ∨ ((Itr lo n).go i H ∧ ∃ N : St → Hp → Prop, (∀ σ' H', N σ' H' → ∃ m', m' < m ∧ W (i + 1) m' σ' H') ∧ ∀ x H', (Itr lo n).yld i H x H' → g x σ H' fun σ2 H2 => tb { D with nx := N, ct := N, bk := D.nx } σ2 H2) := by
  refine ⟨fun i m σ H => m = n - i ∧ i ≤ n ∧ Pv i σ H, ⟨n, by simp, Nat.zero_le _, h0⟩, ?_⟩
  rintro i m σ H ⟨rfl, hi, p⟩
  by_cases hlt : i < n
  · refine .inr ⟨hlt, Pv (i + 1), fun σ' H' p' => ⟨n - (i + 1), by omega, rfl, hlt, p'⟩, fun x H' y => ?_⟩
    obtain ⟨e, y⟩ := y
    subst e y
    exact hs i σ _ hlt p
  · have e : i = n := by omega
    subst e
    exact .inl ⟨Nat.le_refl _, hd σ H p⟩
end L2

namespace L2
open PySem PySem.Spec PyProof.Rows

abbrev R2 := V → V → Hp → VK → Prop
/-- a two-place operation on values: f is binaryOp op, inplaceOp op or compareOp op -/
def OpR (X : Cx) (f : Value → Value → Sem Value) (r : R2) : Prop :=
  ∀ (pins : List (Addr × Obj)) (s : Shared) (σ : St) (H : Hp) (x y : V) (v u : Value) (Q : VK), Inv X pins σ H s → RelV x v → RelV y u → r x y H Q →
    wpAny (model X.prog X.w) X.A (f v u) (EP X pins σ Q) X.xe s
/-- a one-place operation -/
def UnR (X : Cx) (f : Value → Sem Value) (r : V → Hp → VK → Prop) : Prop :=
  ∀ (pins : List (Addr × Obj)) (s : Shared) (σ : St) (H : Hp) (x : V) (v : Value) (Q : VK), Inv X pins σ H s → RelV x v → r x H Q →
    wpAny (model X.prog X.w) X.A (f v) (EP X pins σ Q) X.xe s
/-- a call of a value that is known (a builtin, a type) with values -/
def CallR (X : Cx) (f : Value) (r : List V → Hp → VK → Prop) : Prop :=
  ∀ (pins : List (Addr × Obj)) (s : Shared) (σ : St) (H : Hp) (xs : List V) (us : List Value) (Q : VK), Inv X pins σ H s → Vals xs us → r xs H Q →
    wpAny (model X.prog X.w) X.A (call f us) (EP X pins σ Q) X.xe s

def tOp (r : R2) (ta tb : TE) : TE := fun σ H Q => ta σ H fun x H1 => tb σ H1 fun y H2 => r x y H2 Q
def tUn (r : V → Hp → VK → Prop) (ta : TE) : TE := fun σ H Q => ta σ H fun x H1 => r x H1 Q
/-- ints in, under C, and a value out -/
def rI (C : Int → Int → Prop) (g : Int → Int → V) : R2 := fun x y H Q => ∃ i j, x = .int i ∧ y = .int j ∧ C i j ∧ Q (g i j) H
def rI0 (g : Int → Int → V) : R2 := fun x y H Q => ∃ i j, x = .int i ∧ y = .int j ∧ Q (g i j) H
def rU (g : Int → V) : V → Hp → VK → Prop := fun x H Q => ∃ i, x = .int i ∧ Q (g i) H

section
variable {X : Cx} {a b c : Expr} {ta tb tc : TE} {pos : Pos}

theorem binT (ha : PE X a ta) (hb : PE X b tb) {pins : List (Addr × Obj)} {s : Shared} {σ : St} {H : Hp} {R : V → V → Hp → Prop} (I : Inv X pins σ H s)
    (h : ta σ H fun x H1 => tb σ H1 fun y H2 => R x y H2) {Q : Value → Shared → Prop} {f : Value → Value → Sem Value}
    (hf : ∀ v u s2 x y H2, Inv X pins σ H2 s2 → RelV x v → RelV y u → R x y H2 → wpAny (model X.prog X.w) X.A (f v u) Q X.xe s2) :
    wpAny (model X.prog X.w) X.A (eval a X.env) (fun v s₁ => wpAny (model X.prog X.w) X.A (eval b X.env) (fun u s₂ => wpAny (model X.prog X.w) X.A (f v u) Q X.xe s₂) X.xe s₁) X.xe s := by
  refine thn (ha pins s σ H _ I h) fun v s1 ⟨x, H1, I1, r1, q1⟩ => ?_
  refine thn (hb pins s1 σ H1 _ I1 q1) fun u s2 ⟨y, H2, I2, r2, q2⟩ => ?_
  exact hf v u s2 x y H2 I2 r1 r2 q2

theorem pe_op {op : Operator} {r : R2} (ho : OpR X (binaryOp op) r) (ha : PE X a ta) (hb : PE X b tb) : PE X (.BinOp a op b pos) (tOp r ta tb) := by
  intro pins s σ H Q I h
  exact wpAny_BinOp (binT ha hb I h fun v u s2 x y H2 I2 rx ry q => ho pins s2 σ H2 x y v u Q I2 rx ry q)
theorem pe_un {op : UnaryOp} {r : V → Hp → VK → Prop} (ho : UnR X (unaryOp op) r) (ha : PE X a ta) : PE X (.UnaryOp op a pos) (tUn r ta) := by
  intro pins s σ H Q I h
  exact UnaryOp_ (thn (ha pins s σ H _ I h) fun v s1 ⟨x, H1, I1, r1, q1⟩ => ho pins s1 σ H1 x v Q I1 r1 q1)

/-! ### ints -/
theorem opI {f : Value → Value → Sem Value} {C : Int → Int → Prop} {g : Int → Int → Int}
    (rule : ∀ (i j : Int) (t u : Tok) (s : Shared) (Q : Value → Shared → Prop) (E : Value → Shared → Prop), C i j → Q (.int (g i j) s.toks) { s with toks := s.toks + 1 } → wpAny (model X.prog X.w) X.A (f (.int i t) (.int j u)) Q E s) :
    OpR X f (rI C fun i j => .int (g i j)) := by
  intro pins s σ H x y v u Q I rx ry h
  obtain ⟨i, j, rfl, rfl, hc, q⟩ := h
  obtain ⟨t, rfl⟩ := rx
  obtain ⟨t', rfl⟩ := ry
  exact rule i j t t' s _ _ hc ⟨.int (g i j), H, I.tok _, ⟨_, rfl⟩, q⟩
theorem opI0 {f : Value → Value → Sem Value} {g : Int → Int → Int}
    (rule : ∀ (i j : Int) (t u : Tok) (s : Shared) (Q : Value → Shared → Prop) (E : Value → Shared → Prop), Q (.int (g i j) s.toks) { s with toks := s.toks + 1 } → wpAny (model X.prog X.w) X.A (f (.int i t) (.int j u)) Q E s) :
    OpR X f (rI0 fun i j => .int (g i j)) := by
  intro pins s σ H x y v u Q I rx ry h
  obtain ⟨i, j, rfl, rfl, q⟩ := h
  obtain ⟨t, rfl⟩ := rx
  obtain ⟨t', rfl⟩ := ry
  exact rule i j t t' s _ _ ⟨.int (g i j), H, I.tok _, ⟨_, rfl⟩, q⟩
theorem opB0 {f : Value → Value → Sem Value} {g : Int → Int → Bool}
    (rule : ∀ (i j : Int) (t u : Tok) (s : Shared) (Q : Value → Shared → Prop) (E : Value → Shared → Prop), Q (.bool (g i j)) s → wpAny (model X.prog X.w) X.A (f (.int i t) (.int j u)) Q E s) :
    OpR X f (rI0 fun i j => .bl (g i j)) := by
  intro pins s σ H x y v u Q I rx ry h
  obtain ⟨i, j, rfl, rfl, q⟩ := h
  obtain ⟨t, rfl⟩ := rx
  obtain ⟨t', rfl⟩ := ry
  exact rule i j t t' s _ _ ⟨.bl (g i j), H, I, rfl, q⟩

def CDiv (i j : Int) : Prop := 0 < j ∧ j < 1073741824

theorem op_add : OpR X (binaryOp .Add) (rI0 fun i j => .int (i + j)) := opI0 fun _ _ _ _ _ _ _ q => add_int q
theorem op_sub : OpR X (binaryOp .Sub) (rI0 fun i j => .int (i - j)) := opI0 fun _ _ _ _ _ _ _ q => sub_int q
/-- // by a positive divisor -/
theorem op_fdiv : OpR X (binaryOp .FloorDiv) (rI CDiv fun i j => .int (i / j)) := opI fun i j _ _ _ _ _ hc q => by
  have h1 : (0 : Int) < j := hc.1
  have h2 : j < 1073741824 := hc.2
  exact floordiv_int (by omega) (by rw [Int.fdiv_eq_ediv_of_nonneg i (by omega)]; exact q) (.inl (PyProof.noPylong_small (by omega)))
/-- % by a positive divisor of any size -/
theorem op_mod : OpR X (binaryOp .Mod) (rI (fun _ j => 0 < j) fun i j => .int (i % j)) := opI fun i j _ _ _ _ _ hc q => by
  have h1 : (0 : Int) < j := hc
  exact mod_int' (by omega) (by rw [Int.fmod_eq_emod_of_nonneg i (by omega)]; exact q)

theorem unI {f : Value → Sem Value} {g : Int → Int}
    (rule : ∀ (i : Int) (t : Tok) (s : Shared) (Q : Value → Shared → Prop) (E : Value → Shared → Prop), Q (.int (g i) s.toks) { s with toks := s.toks + 1 } → wpAny (model X.prog X.w) X.A (f (.int i t)) Q E s) :
    UnR X f (rU fun i => .int (g i)) := by
  intro pins s σ H x v Q I rx h
  obtain ⟨i, rfl, q⟩ := h
  obtain ⟨t, rfl⟩ := rx
  exact rule i t s _ _ ⟨.int (g i), H, I.tok _, ⟨_, rfl⟩, q⟩
theorem un_neg : UnR X (unaryOp .USub) (rU fun i => .int (-i)) := unI fun _ _ _ _ _ q => neg_int q

/-! ### bools among ints: n += (a < b) -/
end

/-! ### comparisons -/
/-- the scalars that == tells apart as data does -/
def scal : V → V → Bool
  | .non, .non => true | .non, .int _ => true | .int _, .non => true | .non, .bl _ => true | .bl _, .non => true | .non, .str _ => true | .str _, .non => true
  | .int _, .int _ => true | .bl _, .bl _ => true | .str _, .str _ => true | .byt _, .byt _ => true
  | .int _, .str _ => true | .str _, .int _ => true | .bl _, .str _ => true | .str _, .bl _ => true
  | _, _ => false
def rEq : R2 := fun x y H Q => scal x y = true ∧ Q (.bl (decide (x = y))) H
def rNe : R2 := fun x y H Q => scal x y = true ∧ Q (.bl (!decide (x = y))) H

theorem dec_int {i j : Int} : decide (V.int i = V.int j) = (i == j) := by
  rw [Bool.eq_iff_iff]
  simp
theorem dec_bl {i j : Bool} : decide (V.bl i = V.bl j) = (i == j) := by
  rw [Bool.eq_iff_iff]
  simp
theorem dec_str {i j : Str} : decide (V.str i = V.str j) = (i == j) := by
  rw [Bool.eq_iff_iff]
  simp
theorem dec_byt {i j : Array UInt8} : decide (V.byt i = V.byt j) = (i.toList == j.toList) := by
  rw [Bool.eq_iff_iff]
  cases i
  cases j
  simp

section
variable {X : Cx} {a b c : Expr} {ta tb tc : TE} {pos : Pos}
theorem fin_bl {pins : List (Addr × Obj)} {σ : St} {H : Hp} {s : Shared} {Q : VK} {k k' : Bool} (I : Inv X pins σ H s) (q : Q (.bl k) H) (e : k = k') : EP X pins σ Q (.bool k') s := by
  subst e
  exact ⟨.bl k, H, I, rfl, q⟩
theorem op_eq : OpR X (compareOp .Eq) rEq := by
  intro pins s σ H x y v u Q I rx ry h
  obtain ⟨hs, q⟩ := h
  cases x with
  | non =>
    cases rx
    cases y with
    | non => cases ry; exact PySem.EqNone.eq_none_none (fin_bl I q (by simp))
    | bl j => cases ry; exact PySem.EqNone.eq_none_bool (fin_bl I q (by simp))
    | int j => obtain ⟨t', rfl⟩ := ry; exact PySem.EqNone.eq_none_int (fin_bl I q (by simp))
    | str j => obtain ⟨t', rfl⟩ := ry; exact PySem.EqNone.eq_none_str (fin_bl I q (by simp))
    | _ => exact absurd (show false = true from hs) Bool.false_ne_true
  | bl i =>
    cases rx
    cases y with
    | non => cases ry; exact PySem.EqNone.eq_bool_none (fin_bl I q (by simp))
    | bl j => cases ry; exact eq_bool (fin_bl I q dec_bl)
    | str j => obtain ⟨t', rfl⟩ := ry; exact PySem.EqMixed.eq_bool_str (fin_bl I q (by simp))
    | _ => exact absurd (show false = true from hs) Bool.false_ne_true
  | int i =>
    obtain ⟨t, rfl⟩ := rx
    cases y with
    | non => cases ry; exact PySem.EqNone.eq_int_none (fin_bl I q (by simp))
    | int j => obtain ⟨t', rfl⟩ := ry; exact eq_int (fin_bl I q dec_int)
    | str j => obtain ⟨t', rfl⟩ := ry; exact PySem.EqMixed.eq_int_str (fin_bl I q (by simp))
    | _ => exact absurd (show false = true from hs) Bool.false_ne_true
  | str i =>
    obtain ⟨t, rfl⟩ := rx
    cases y with
    | non => cases ry; exact PySem.EqNone.eq_str_none (fin_bl I q (by simp))
    | bl j => cases ry; exact PySem.EqMixed.eq_str_bool (fin_bl I q (by simp))
    | int j => obtain ⟨t', rfl⟩ := ry; exact PySem.EqMixed.eq_str_int (fin_bl I q (by simp))
    | str j => obtain ⟨t', rfl⟩ := ry; exact eq_str (fin_bl I q dec_str)
    | _ => exact absurd (show false = true from hs) Bool.false_ne_true
  | byt i =>
    obtain ⟨t, rfl⟩ := rx
    cases y with
    | byt j => obtain ⟨t', rfl⟩ := ry; exact PySem.W.eq_bytes (fin_bl I q dec_byt)
    | _ => exact absurd (show false = true from hs) Bool.false_ne_true
  | _ => cases y <;> exact absurd (show false = true from hs) Bool.false_ne_true
theorem op_ne : OpR X (compareOp .NotEq) rNe := by
  intro pins s σ H x y v u Q I rx ry h
  obtain ⟨hs, q⟩ := h
  cases x with
  | non =>
    cases rx
    cases y with
    | non => cases ry; exact PySem.EqNone.ne_none_none (fin_bl I q (by simp))
    | bl j => cases ry; exact PySem.EqNone.ne_none_bool (fin_bl I q (by simp))
    | int j => obtain ⟨t', rfl⟩ := ry; exact PySem.EqNone.ne_none_int (fin_bl I q (by simp))
    | str j => obtain ⟨t', rfl⟩ := ry; exact PySem.EqNone.ne_none_str (fin_bl I q (by simp))
    | _ => exact absurd (show false = true from hs) Bool.false_ne_true
  | bl i =>
    cases rx
    cases y with
    | non => cases ry; exact PySem.EqNone.ne_bool_none (fin_bl I q (by simp))
    | bl j => cases ry; exact ne_bool (fin_bl I q (congrArg not dec_bl))
    | str j => obtain ⟨t', rfl⟩ := ry; exact PySem.EqMixed.ne_bool_str (fin_bl I q (by simp))
    | _ => exact absurd (show false = true from hs) Bool.false_ne_true
  | int i =>
    obtain ⟨t, rfl⟩ := rx
    cases y with
    | non => cases ry; exact PySem.EqNone.ne_int_none (fin_bl I q (by simp))
    | int j => obtain ⟨t', rfl⟩ := ry; exact ne_int (fin_bl I q (congrArg not dec_int))
    | str j => obtain ⟨t', rfl⟩ := ry; exact PySem.EqMixed.ne_int_str (fin_bl I q (by simp))
    | _ => exact absurd (show false = true from hs) Bool.false_ne_true
  | str i =>
    obtain ⟨t, rfl⟩ := rx
    cases y with
    | non => cases ry; exact PySem.EqNone.ne_str_none (fin_bl I q (by simp))
    | bl j => cases ry; exact PySem.EqMixed.ne_str_bool (fin_bl I q (by simp))
    | int j => obtain ⟨t', rfl⟩ := ry; exact PySem.EqMixed.ne_str_int (fin_bl I q (by simp))
    | str j => obtain ⟨t', rfl⟩ := ry; exact ne_str (fin_bl I q (congrArg not dec_str))
    | _ => exact absurd (show false = true from hs) Bool.false_ne_true
  | byt i =>
    obtain ⟨t, rfl⟩ := rx
    cases y with
    | byt j => obtain ⟨t', rfl⟩ := ry; exact PySem.W.ne_bytes (fin_bl I q (congrArg not dec_byt))
    | _ => exact absurd (show false = true from hs) Bool.false_ne_true
  | _ => cases y <;> exact absurd (show false = true from hs) Bool.false_ne_true

theorem op_lt : OpR X (compareOp .Lt) (rI0 fun i j => .bl (decide (i < j))) := opB0 fun _ _ _ _ _ _ _ q => lt_int q
theorem op_le : OpR X (compareOp .LtE) (rI0 fun i j => .bl (decide (i ≤ j))) := opB0 fun _ _ _ _ _ _ _ q => le_int q
theorem op_gt : OpR X (compareOp .Gt) (rI0 fun i j => .bl (decide (j < i))) := opB0 fun _ _ _ _ _ _ _ q => gt_int q
theorem op_ge : OpR X (compareOp .GtE) (rI0 fun i j => .bl (decide (j ≤ i))) := opB0 fun _ _ _ _ _ _ _ q => ge_int q

theorem nomark (b : Expr) {op : CmpOp} (h : op ≠ .In := by decide) (h2 : op ≠ .NotIn := by decide) : behindInMarks op b = false := by
  have e1 : (op == CmpOp.In) = false := by cases op <;> first | rfl | exact absurd rfl h
  have e2 : (op == CmpOp.NotIn) = false := by cases op <;> first | rfl | exact absurd rfl h2
  cases b <;> simp [behindInMarks, e1, e2]
/-- a comparison as a value; hm: nomark b, or (for in, not in) by with_unfolding_all rfl -/
theorem pe_cmpR {op : CmpOp} {r : R2} (ho : OpR X (compareOp op) r) (ha : PE X a ta) (hb : PE X b tb) (hm : behindInMarks op b = false) : PE X (.Compare a [op] [b] pos) (tOp r ta tb) := by
  intro pins s σ H Q I h
  exact wpAny_Compare1 (binT ha hb I h fun v u s2 x y H2 I2 rx ry q => ho pins s2 σ H2 x y v u Q I2 rx ry q) hm
/-- a reading of a value as a test -/
def tTest (t : TE) : TT := fun σ H Q => t σ H fun x H' => ∃ k, x = .bl k ∧ Q k H'
theorem pt_cmpR {op : CmpOp} {r : R2} (ho : OpR X (compareOp op) r) (ha : PE X a ta) (hb : PE X b tb) (hm : behindInMarks op b = false) : PT X (.Compare a [op] [b] pos) (tTest (tOp r ta tb)) := by
  intro pins s σ H Q I h
  refine wpAny_isTrue_Compare1 (thn (ha pins s σ H _ I h) fun v s1 ⟨x, H1, I1, r1, q1⟩ => thn (hb pins s1 σ H1 _ I1 q1) fun u s2 ⟨y, H2, I2, r2, q2⟩ =>
    thn (ho pins s2 σ H2 x y v u _ I2 r1 r2 q2) fun c s3 ⟨z, H3, I3, r3, k, e, q3⟩ => ?_) hm
  subst e
  cases r3
  exact wpAny_truthy_bool ⟨H3, I3, q3⟩
/-- a op1 b op2 c -/
def tChain (r r' : R2) (ta tb tc : TE) : TE := fun σ H Q => ta σ H fun x H1 => tb σ H1 fun y H2 => r x y H2 fun z H3 => ∃ k, z = .bl k ∧
  (if k = true then tc σ H3 fun w' H4 => r' y w' H4 Q else Q (.bl false) H3)
theorem pe_chain {op op' : CmpOp} {r r' : R2} (ho : OpR X (compareOp op) r) (ho' : OpR X (compareOp op') r') (ha : PE X a ta) (hb : PE X b tb) (hc : PE X c tc)
    (hm : lastMarks [op, op'] [b, c] = false := by with_unfolding_all rfl) : PE X (.Compare a [op, op'] [b, c] pos) (tChain r r' ta tb tc) := by
  intro pins s σ H Q I h
  refine Compare_chain (thn (ha pins s σ H _ I h) fun v s1 ⟨x, H1, I1, r1, q1⟩ => chain_link (thn (hb pins s1 σ H1 _ I1 q1) fun u s2 ⟨y, H2, I2, r2, q2⟩ =>
    thn (ho pins s2 σ H2 x y v u _ I2 r1 r2 q2) fun d s3 ⟨z, H3, I3, r3, k, e, q3⟩ => ?_)) hm
  subst e
  cases r3
  refine wpAny_truthy_bool ?_
  cases k with
  | false => exact ite_ff ⟨.bl false, H3, I3, rfl, q3⟩
  | true => exact ite_tt (chain_last (thn (hc pins s3 σ H3 _ I3 q3) fun w' s4 ⟨z', H4, I4, r4, q4⟩ => ho' pins s4 σ H4 y z' u w' Q I4 r2 r4 q4))

/-! ### truth -/
theorem line63 : (sizeLine : Nat) < 2 ^ 63 := by rw [sizeLine_eq]; decide

/-! ### strs and bytes -/

/-! ### scalar builtins, by CallR -/
theorem vals1 {x : V} {us : List Value} (r : Vals [x] us) : ∃ u, us = [u] ∧ RelV x u := by
  cases r with
  | cons r1 r2 => cases r2; exact ⟨_, rfl, r1⟩
theorem vals2 {x y : V} {us : List Value} (r : Vals [x, y] us) : ∃ u w', us = [u, w'] ∧ RelV x u ∧ RelV y w' := by
  cases r with
  | cons r1 r2 =>
    cases r2 with
    | cons r3 r4 => cases r4; exact ⟨_, _, rfl, r1, r3⟩
theorem call_abs : CallR X (.builtin "abs") (fun xs H Q => ∃ i, xs = [.int i] ∧ Q (.int (if i < 0 then -i else i)) H) := by
  intro pins s σ H xs us Q I r h
  obtain ⟨i, rfl, q⟩ := h
  obtain ⟨u, rfl, t, rfl⟩ := vals1 r
  exact call_abs_int fun u tk => ⟨.int (if i < 0 then -i else i), H, I.tok _, ⟨_, rfl⟩, q⟩
theorem call_min2 (hc : X.calm = true) : CallR X (.builtin "min") (fun xs H Q => ∃ i j, xs = [.int i, .int j] ∧ Q (.int (if j < i then j else i)) H) := by
  intro pins s σ H xs us Q I r h
  obtain ⟨i, j, rfl, q⟩ := h
  obtain ⟨u, w', rfl, ⟨t, rfl⟩, ⟨t', rfl⟩⟩ := vals2 r
  refine min_two_ints (I.ok.hd hc) fun h' tk k => ⟨_, H, I.kept k, ?_, q⟩
  by_cases hj : j < i
  · rw [if_pos hj, if_pos hj]; exact ⟨_, rfl⟩
  · rw [if_neg hj, if_neg hj]; exact ⟨_, rfl⟩
end
end L2

namespace L2
open PySem PySem.Spec PyProof.Rows

/-! ### an instance, its attributes a map -/
structure ObjM (h : Heap) (x dx C : Addr) (mA : Str → Option Value) : Prop where
  obj : h.get? x = some (PySem.W.instObj C dx)
  ns : h.Ns1 dx mA
  ne : dx ≠ x

theorem lookIn_ns {h : Heap} {dx : Addr} {mA : Str → Option Value} (n : h.Ns1 dx mA) : ∃ od, h.get? dx = some od ∧ ∀ name, PySem.W.lookIn name od = some (mA name) := by
  obtain ⟨o, es, ep, ho, hd, hk, _, hm⟩ := n
  refine ⟨o, ho, fun name => ?_⟩
  have e := hm name
  unfold nsFind findBy at e
  rw [← Array.find?_toList] at e
  unfold PySem.W.lookIn
  rw [hd]
  dsimp only
  split
  · rename_i y q
    rw [q] at e
    exact congrArg some e
  · rename_i q
    rw [q] at e
    have a : es.toList.any (·.refKey) = false := by
      rw [List.any_eq_false]
      intro y hy
      obtain ⟨z, t, hkey⟩ := hk y (Array.mem_toList_iff.mp hy)
      simp [DictEntry.refKey, hkey]
    have a' : ¬ es.toList.any (·.refKey) = true := by rw [a]; exact Bool.false_ne_true
    rw [if_neg a']
    exact congrArg some e

theorem ObjM.look {h : Heap} {x dx C : Addr} {mA : Str → Option Value} (I : ObjM h x dx C mA) : ∃ od, PySem.W.InstAt h x (PySem.W.instObj C dx) C (some od) ∧ ∀ name, PySem.W.lookIn name od = some (mA name) :=
  let ⟨od, ho, hl⟩ := lookIn_ns I.ns
  ⟨od, ⟨I.obj, rfl, rfl, ho⟩, hl⟩

section
variable {prog : Program} {w : World} {A : Around} {E : Value → Shared → Prop} {s : Shared} {K : PySem.W.Frag} {x dx C f : Addr} {mA : Str → Option Value} {name : Str} {v : Value}

theorem get_map {expr : Bool} {Q : Value → Shared → Prop} (X : K.In s.heap) (I : ObjM s.heap x dx C mA) (hg : PySem.W.plainGet K C name = true) (hh : PySem.W.hasDictIn K C = true)
    (ha : PySem.W.findIn K (.ref C) name = some none) (hv : mA name = some v) (hv' : PySem.W.handedIn v = true) (h : Q v { s with toks := s.toks + 1 }) :
    wpAny (model prog w) A (getAttr (.ref x) name expr) Q E s := by
  obtain ⟨od, J, hl⟩ := I.look
  exact PySem.W.get_value X J (PySem.W.plainGet_of hg).1 (PySem.W.findObj_own hh ha rfl (by rw [hl, hv])) hv' h

theorem set_map {ns : List Str} {Q : Unit → Shared → Prop} (X : K.In s.heap) (I : ObjM s.heap x dx C mA)
    (hs : PySem.W.findIn K (.ref C) "__setattr__" = some (some (.builtin "object.__setattr__"))) (hp : PySem.W.plainOver K C = true) (ht : PySem.W.takerIn K C name = some none) (hh : PySem.W.hasDictIn K C = true)
    (hw : PySem.Within mA ns) (hsz : ns.length ≤ sizeLine)
    (h : ∀ h', ObjM h' x dx C (fun y => if y = name then some v else mA y) → Heap.SameBut dx s.heap h' → Q () { s with heap := h', toks := s.toks + 2 }) :
    wpAny (model prog w) A (setAttr (.ref x) name v) Q E s := by
  obtain ⟨od, J, hl⟩ := I.look
  refine PySem.W.set_plain X J hs (PySem.W.osa_open (s := { s with toks := s.toks + 1 }) (r := none) X J hp ht fun b => ?_)
  obtain ⟨cd, hc, hd'⟩ := PySem.W.any_some hh
  have hx : s.heap.get? x = some ⟨.ref C, some dx, .plain, #[]⟩ := I.obj
  refine wpAny_bind (wpAny_pure (wpAny_bind (wpAny_bind (wpAny_loadPart hx (wpAny_bind (PySem.W.Looks.here (s := { s with toks := s.toks + 1 }) (PySem.W.looks_clsIn X hc) ?_))))))
  rw [hd']
  refine wpAny_pure (a := some dx) (wpAny_bind (wpAny_pure (wpAny_bind ?_)))
  refine wpAny_nsSet1 (s := { s with toks := s.toks + 1 }) I.ns fun h' hn2 hs2 => ?_
  obtain ⟨oD, esD, epD, hoD, hdD, hcD⟩ := hn2.count (PySem.Within.cons name v hw)
  refine wpAny_bind (wpAny_lookBehind hoD (by rw [hdD]; exact pastItsLine_dict (Nat.le_trans hcD (by rw [List.length_cons]; omega))) ?_)
  exact wpAny_pure (h _ ⟨(hs2.2 _ (Ne.symm I.ne)).trans I.obj, hn2, I.ne⟩ hs2)

/-- C(..): the dict at the heap's end, the instance behind it; then its __init__ -/
theorem make_map {R : Result → Shared → Prop} {vs : List Value} {kw : List (Str × Value)} (X : K.In s.heap) (hm : PySem.W.makesIn K C = true)
    (hi : PySem.W.findIn K (.ref C) "__init__" = some (some (.ref f))) (hf : PySem.W.typeIn K (.ref f) = some (.type "function"))
    (h : codeAny (model prog w) (A.under (.builtin "type.__call__" ⟨.ref C :: vs, kw⟩)) (.call (.ref f) ⟨.ref (s.heap.objs.size + 1) :: vs, kw⟩) (PySem.W.InitBack (s.heap.objs.size + 1) R)
      { s with heap := (s.heap.push PySem.W.emptyDict).push (PySem.W.instObj C s.heap.objs.size) }) :
    codeAny (model prog w) A (.call (.ref C) ⟨vs, kw⟩) R s := by
  obtain ⟨hh, g, d, t, os⟩ := s
  exact PySem.W.make_core (PySem.W.makes_of X hm) (PySem.W.looks_findIn X hi) (fun self => PySem.W.bind_fn X self hf) (.inl rfl) h
end

/-! ### the attributes as a list of pairs -/
def putF (f : Str) (v : V) : List (Str × V) → List (Str × V)
  | [] => [(f, v)]
  | (g, x) :: r => if g = f then (g, v) :: r else (g, x) :: putF f v r
theorem lookup_putF (f g : Str) (v : V) : ∀ fs : List (Str × V), (putF f v fs).lookup g = if g = f then some v else fs.lookup g
  | [] => by
    show List.lookup g [(f, v)] = _
    by_cases h : g = f
    · have hb : (g == f) = true := beq_iff_eq.mpr h
      simp only [List.lookup, hb, if_pos h]
    · have hb : (g == f) = false := beq_eq_false_iff_ne.mpr h
      simp only [List.lookup, hb, if_neg h]
  | (k, x) :: r => by
    have ih := lookup_putF f g v r
    rw [show putF f v ((k, x) :: r) = (if k = f then (k, v) :: r else (k, x) :: putF f v r) from rfl]
    by_cases hk : k = f
    · rw [if_pos hk]
      by_cases h : g = k
      · have hb : (g == k) = true := beq_iff_eq.mpr h
        simp only [List.lookup, hb, if_pos (h.trans hk)]
      · have hb : (g == k) = false := beq_eq_false_iff_ne.mpr h
        simp only [List.lookup, hb, if_neg (fun e : g = f => h (e.trans hk.symm))]
    · rw [if_neg hk]
      by_cases h : g = k
      · have hb : (g == k) = true := beq_iff_eq.mpr h
        simp only [List.lookup, hb, if_neg (fun e : g = f => hk (h.symm.trans e))]
      · have hb : (g == k) = false := beq_eq_false_iff_ne.mpr h
        simp only [List.lookup, hb]
        exact ih
theorem keys_putF (f : Str) (v : V) : ∀ fs : List (Str × V), f ∈ (putF f v fs).map (·.1) ∧ ∀ g, g ∈ fs.map (·.1) → g ∈ (putF f v fs).map (·.1)
  | [] => ⟨by simp [putF], fun g h => by simp at h⟩
  | (k, x) :: r => by
    obtain ⟨i1, i2⟩ := keys_putF f v r
    rw [show putF f v ((k, x) :: r) = (if k = f then (k, v) :: r else (k, x) :: putF f v r) from rfl]
    by_cases hk : k = f
    · rw [if_pos hk]
      subst hk
      exact ⟨by simp, fun g h => by simpa using h⟩
    · rw [if_neg hk]
      refine ⟨?_, fun g h => ?_⟩
      · rw [List.map_cons]
        exact List.mem_cons_of_mem _ i1
      · rw [List.map_cons] at h ⊢
        rcases List.mem_cons.mp h with e | e
        · exact List.mem_cons.mpr (.inl e)
        · exact List.mem_cons_of_mem _ (i2 g e)
theorem length_putF (f : Str) (v : V) : ∀ fs : List (Str × V), (putF f v fs).length ≤ fs.length + 1
  | [] => by simp [putF]
  | (k, x) :: r => by
    have ih := length_putF f v r
    rw [show putF f v ((k, x) :: r) = (if k = f then (k, v) :: r else (k, x) :: putF f v r) from rfl]
    by_cases hk : k = f
    · rw [if_pos hk, List.length_cons, List.length_cons]; omega
    · rw [if_neg hk, List.length_cons, List.length_cons]; omega

theorem RelO.some_of {v : V} {o : Option Value} (r : RelO (some v) o) : ∃ u, o = some u ∧ RelV v u := by
  cases o with
  | none => exact (show False from r).elim
  | some u => exact ⟨u, rfl, r⟩
theorem handed_of {v : V} {u : Value} (r : RelV v u) : PySem.W.handedIn u = true := by
  cases v with
  | non => cases (show u = Value.none from r); rfl
  | bl b => cases (show u = Value.bool b from r); rfl
  | int i => obtain ⟨t, e⟩ := (show ∃ t, u = Value.int i t from r); cases e; rfl
  | str x => obtain ⟨t, e⟩ := (show ∃ t, u = Value.str x t from r); cases e; rfl
  | byt b => obtain ⟨t, e⟩ := (show ∃ t, u = Value.bytes b t from r); cases e; rfl
  | flt b => obtain ⟨t, e⟩ := (show ∃ t, u = Value.float b t from r); cases e; rfl
  | ref a => cases (show u = Value.ref a from r); rfl
  | ty n => cases (show u = Value.type n from r); rfl

section
variable {P : Program} {w : World} {H H' : Hp} {h h' : Heap} {a C dx : Addr} {fs fs' : List (Str × V)}
theorem ins_get (hok : HOk P w H h) (e : H a = some (.ins C dx fs)) : ∃ mA, ObjM h a dx C mA ∧ (∀ f, RelO (fs.lookup f) (mA f)) ∧ PySem.Within mA (fs.map (·.1)) ∧ fs.length ≤ 1000 ∧ H dx = some (.own a) := by
  obtain ⟨d, z, ne, ob, mA, n, r, q⟩ := (show ObjOk P w H h a (.ins C dx fs) from hok a _ e)
  exact ⟨mA, ⟨ob, n, ne⟩, r, q, z, d⟩
end

/-! ### what of the text a class must have -/
structure Cls (K : PySem.W.Frag) (C : Addr) : Prop where
  pg : PySem.W.plainGet K C Str.empty = true
  hd : PySem.W.hasDictIn K C = true
  po : PySem.W.plainOver K C = true
  sa : PySem.W.findIn K (.ref C) "__setattr__" = some (some (.builtin "object.__setattr__"))
theorem Cls.get {K : PySem.W.Frag} {C : Addr} (c : Cls K C) (f : Str) : PySem.W.plainGet K C f = true := c.pg
/-- no class of it has the name -/
def NoAttr (K : PySem.W.Frag) (C : Addr) (f : Str) : Prop := PySem.W.findIn K (.ref C) f = some none
theorem NoAttr.taker {K : PySem.W.Frag} {C : Addr} {f : Str} (n : NoAttr K C f) : PySem.W.takerIn K C f = some none := by
  unfold PySem.W.takerIn
  rw [show PySem.W.findIn K (.ref C) f = some none from n]
  rfl

section
variable {X : Cx} {pins : List (Addr × Obj)} {σ : St} {H : Hp} {s : Shared} {a C dx : Addr} {fs : List (Str × V)} {f : Str} {v : V} {A : Around} {E : Value → Shared → Prop}

theorem getattr_ok {b : Bool} {Q : Value → Shared → Prop} (I : Inv X pins σ H s) (e : H a = some (.ins C dx fs)) (c : Cls X.K C) (n : NoAttr X.K C f) (l : fs.lookup f = some v)
    (h : ∀ u s', Inv X pins σ H s' → RelV v u → Q u s') : wpAny (model X.prog X.w) A (getAttr (.ref a) f b) Q E s := by
  obtain ⟨mA, O, r, _, _, _⟩ := ins_get I.hok e
  obtain ⟨u, hu, ru⟩ := RelO.some_of (v := v) (o := mA f) (by rw [← l]; exact r f)
  exact get_map I.kIn O (c.get f) c.hd n hu (handed_of ru) (h u _ (I.tok _) ru)

theorem setattr_ok {y : V} {u : Value} {Q : Unit → Shared → Prop} (I : Inv X pins σ H s) (e : H a = some (.ins C dx fs)) (c : Cls X.K C) (n : NoAttr X.K C f) (hl : fs.length < 1000) (ry : RelV y u)
    (h : ∀ s', Inv X pins σ (upd H a (.ins C dx (putF f y fs))) s' → Q () s') : wpAny (model X.prog X.w) A (setAttr (.ref a) f u) Q E s := by
  obtain ⟨mA, O, r, wi, _, ho⟩ := ins_get I.hok e
  have hz : (fs.map (·.1)).length ≤ sizeLine := by rw [List.length_map, sizeLine_eq]; omega
  refine set_map I.kIn O c.sa c.po n.taker c.hd wi hz fun h' O' sb => h _ ?_
  have hd : ∃ o, h'.get? dx = some o := let ⟨o, _, _, e', _⟩ := O'.ns; ⟨o, e'⟩
  refine I.write (x := a) (e := dx) (by rw [e]; exact True.intro) (.inr ho) (fun b q hb z => (sb.2 b hb).trans z) hd ?_
  refine ⟨by rw [upd_ne O.ne]; exact ho, ?_, O.ne, O'.obj, _, O'.ns, fun g => ?_, fun g hg => ?_⟩
  · have := length_putF f y fs; omega
  · show RelO ((putF f y fs).lookup g) (if g = f then some u else mA g)
    rw [lookup_putF]
    by_cases q : g = f
    · rw [if_pos q, if_pos q]; exact ry
    · rw [if_neg q, if_neg q]; exact r g
  · by_cases q : g = f
    · rw [q]; exact (keys_putF f y fs).1
    · refine (keys_putF f y fs).2 g (wi g fun z => hg ?_)
      show (if g = f then some u else mA g) = none
      rw [if_neg q]; exact z

/-- a new instance, tracked, without attributes -/
theorem Inv.made (I : Inv X pins σ H s) : Inv X pins σ (upd (upd H s.heap.objs.size (.own (s.heap.objs.size + 1))) (s.heap.objs.size + 1) (.ins C s.heap.objs.size []))
    { s with heap := (s.heap.push PySem.W.emptyDict).push (PySem.W.instObj C s.heap.objs.size) } := by
  have e1 : (s.heap.push PySem.W.emptyDict).get? s.heap.objs.size = some PySem.W.emptyDict := Heap.get?_push_size s.heap rfl
  have e2 : ((s.heap.push PySem.W.emptyDict).push (PySem.W.instObj C s.heap.objs.size)).get? (s.heap.objs.size + 1) = some (PySem.W.instObj C s.heap.objs.size) := by
    have := Heap.get?_push_size (s.heap.push PySem.W.emptyDict) (o := PySem.W.instObj C s.heap.objs.size) rfl
    rwa [Heap.size_push] at this
  have e3 : (s.heap.push PySem.W.emptyDict).Ns s.heap.objs.size (fun _ => none) := ⟨PySem.W.emptyDict, #[], _, e1, rfl, (fun e he => absurd he (by simp)), fun _ => rfl⟩
  have I1 := I.laid (a := s.heap.objs.size) (o := .own (s.heap.objs.size + 1)) (h' := s.heap.push PySem.W.emptyDict) (t' := s.toks) (fun b u q => Heap.get?_push_of_some _ q) (Nat.le_refl _) ⟨_, e1⟩
  refine I1.laid (a := s.heap.objs.size + 1) (o := .ins C s.heap.objs.size []) (t' := s.toks) (fun b u q => Heap.get?_push_of_some _ q) (Nat.le_of_eq (Heap.size_push _ _)) ?_
  have ne : s.heap.objs.size ≠ s.heap.objs.size + 1 := Nat.ne_of_lt (Nat.lt_succ_self _)
  refine ⟨by rw [upd_ne ne, upd_same], Nat.zero_le _, ne, e2, fun _ => none, (Heap.Ns1.of_empty e3).at fun o q => Heap.get?_push_of_some _ q, fun _ => True.intro, fun y hy => absurd rfl hy⟩

/-- e.f where nothing but the object is asked: through attributeBase (super) and the last hold -/
theorem attr_of {prog : Program} {w : World} {env : Env} {e : Expr} {f : Str} {pos : Pos} {s : Shared} {Q : Value → Shared → Prop} (hb : attributeBase e f env (eval e env) = eval e env)
    (h : wpAny (model prog w) A (eval e env) (fun o s₁ => wpAny (model prog w) A (getAttr o f true) Q E s₁) E s) : wpAny (model prog w) A (eval (.Attribute e f pos) env) Q E s :=
  Attribute_any_ h (by rw [arm_eval_Attribute, hb])
end

/-! ### readings and rules -/
/-- e.f, an attribute of the instance -/
def tFld (K : PySem.W.Frag) (ta : TE) (f : Str) : TE := fun σ H Q => ta σ H fun x H1 => ∃ a C dx fs v, x = .ref a ∧ H1 a = some (.ins C dx fs) ∧ Cls K C ∧ NoAttr K C f ∧ fs.lookup f = some v ∧ Q v H1
/-- e.f = value -/
def sFld (K : PySem.W.Frag) (ta tv : TE) (f : Str) : TS := fun D σ H => tv σ H fun y H1 => ta σ H1 fun x H2 => ∃ a C dx fs, x = .ref a ∧ H2 a = some (.ins C dx fs) ∧ Cls K C ∧ NoAttr K C f ∧ fs.length < 1000 ∧
  D.nx σ (upd H2 a (.ins C dx (putF f y fs)))

section
variable {X : Cx} {o e value : Expr} {f : Str} {pos pos' tpos : Pos} {ta tv : TE}
theorem pe_fld (he : PE X e ta) (hb : attributeBase e f X.env (eval e X.env) = eval e X.env) : PE X (.Attribute e f pos) (tFld X.K ta f) := by
  intro pins s σ H Q I h
  refine attr_of hb (thn (he pins s σ H _ I h) fun u s1 ⟨x, H1, I1, rx, a, C, dx, fs, v, ex, ea, c, n, l, q⟩ => ?_)
  subst ex
  obtain rfl : u = Value.ref a := rx
  exact getattr_ok I1 ea c n l fun u' s2 I2 ru => ⟨v, H1, I2, ru, q⟩
theorem ps_fld (ha : PE X o ta) (hv : PE X value tv) (hs : swapsWith value (some (.Attribute o f pos')) pos.line X.env = pure false) : PS X (.Assign [.Attribute o f pos'] value pos) (sFld X.K ta tv f) := by
  intro pins s σ H D I h
  refine plainObj_wpAny_Assign_Attribute (thn (hv pins s σ H _ I h) fun u s1 ⟨y, H1, I1, ry, q⟩ => thn (ha pins s1 σ H1 _ I1 q) fun ov s2 ⟨x, H2, I2, rx, a, C, dx, fs, ex, ea, c, n, l, q2⟩ => ?_) hs
  subst ex
  obtain rfl : ov = Value.ref a := rx
  exact setattr_ok I2 ea c n l ry fun s3 I3 => ⟨σ, _, I3, q2⟩

end

/-! ### isinstance -/
section
variable {X : Cx} {pins : List (Addr × Obj)} {σ : St} {H : Hp} {s : Shared} {A : Around} {E : Value → Shared → Prop} {Q : Value → Shared → Prop} {c : Value} {b : Bool}
end
end L2

namespace L2
open PySem PySem.Spec PyProof.Rows

/-! ### room -/
structure Room (k : Nat) (A : Around) : Prop where
  hd : A.handled = none
  dp : A.depth + 3 * k + 5 < recursionLimit
  un : A.units + 16 * k + 200 < cLine
theorem Room.mono {j k : Nat} {A : Around} (r : Room k A) (h : j ≤ k) : Room j A := ⟨r.hd, by have := r.dp; omega, by have := r.un; omega⟩
theorem Room.deeper {k : Nat} {A : Around} (r : Room (k + 1) A) (env : Env) : Room k (A.deeper env) :=
  ⟨r.hd, by have := r.dp; show A.depth + 1 + 3 * k + 5 < _; omega, by have := r.un; show A.units + 3 + 16 * k + 200 < _; omega⟩
theorem make_depth {A : Around} {C : Addr} {us : List Value} {kw : List (Str × Value)} : (A.under (.builtin "type.__call__" ⟨.ref C :: us, kw⟩)).depth = A.depth + 1 := by
  first | rfl | simp [Around.under, Code.weight, Code.isCreation, Code.isGuard, Code.isCaller, Code.frames, Code.isFrame, guardIds]
theorem make_units {A : Around} {C : Addr} {us : List Value} {kw : List (Str × Value)} : (A.under (.builtin "type.__call__" ⟨.ref C :: us, kw⟩)).units = A.units + 1 := by
  first | rfl | simp [Around.under, Code.cUnits, Code.frames, Code.isFrame]
theorem Room.make {k : Nat} {A : Around} (r : Room (k + 1) A) (C : Addr) (us : List Value) (kw : List (Str × Value)) : Room k (A.under (.builtin "type.__call__" ⟨.ref C :: us, kw⟩)) :=
  ⟨r.hd, by have := r.dp; rw [make_depth]; omega, by have := r.un; rw [make_units]; omega⟩
theorem Room.depth {k : Nat} {A : Around} (r : Room k A) : A.depth < recursionLimit := by have := r.dp; omega

/-! ### argument lists and displays -/
def tNil : TA := fun _ H Q => Q [] H
def tCons (ta : TE) (tr : TA) : TA := fun σ H Q => ta σ H fun x H1 => tr σ H1 fun xs H2 => Q (x :: xs) H2
section
variable {X : Cx} {e : Expr} {es : List Expr} {te : TE} {t : TA} {pos : Pos}
theorem pa_nil : PA X [] tNil := fun _ _ _ _ H Q I h => Calls.spliced_nil ⟨[], H, I, .nil, h⟩
theorem pa_cons (ha : PE X e te) (hr : PA X es t) (hs : starEach (e :: es) X.env = (false, eval e X.env) :: starEach es X.env := by rfl) : PA X (e :: es) (tCons te t) := by
  intro pos pins s σ H Q I h
  rw [hs]
  show wpAny _ _ (spliced ((false, eval e X.env) :: backTo pos (starEach es X.env))) _ _ s
  refine Calls.spliced_cons (thn (ha pins s σ H _ I h) fun u s1 ⟨x, H1, I1, r1, q1⟩ => ?_)
  exact thn (hr pos pins s1 σ H1 _ I1 q1) fun us s2 ⟨xs, H2, I2, r2, q2⟩ => ⟨x :: xs, H2, I2, .cons r1 r2, q2⟩

/-- a tuple, a list of written items -/
def tTup (t : TA) : TE := fun σ H Q => t σ H fun xs H1 => xs.length ≤ sizeLine ∧ ∀ p, H1 p = none → Q (.ref p) (upd H1 p (.tup xs))
def tLst (t : TA) : TE := fun σ H Q => t σ H fun xs H1 => xs.length ≤ sizeLine ∧ ∀ p, H1 p = none → Q (.ref p) (upd H1 p (.lst xs))
theorem pe_tup {x1} (h : PA X es t) : PE X (.Tuple es x1 pos) (tTup t) := by
  intro pins s σ H Q I hq
  refine wpAny_Tuple_spliced (thn (h pos pins s σ H _ I hq) fun us s1 ⟨xs, H1, I1, r, z, q⟩ => ⟨by rw [← r.length]; exact z, ?_⟩)
  have hf : H1 s1.heap.objs.size = none := I1.hok.fresh (Nat.le_refl _)
  refine ⟨.ref s1.heap.objs.size, upd H1 s1.heap.objs.size (.tup xs), I1.laid (t' := s1.toks) (fun b u e => Heap.get?_push_of_some _ e) (Nat.le_refl _) ?_, rfl, q _ hf⟩
  exact ⟨z, us, r, ⟨_, Heap.get?_push_size _ rfl, rfl, _, rfl⟩⟩
theorem pe_lst (h : PA X es t) : PE X (.List es pos) (tLst t) := by
  intro pins s σ H Q I hq
  refine wpAny_List_spliced (thn (h pos pins s σ H _ I hq) fun us s1 ⟨xs, H1, I1, r, z, q⟩ => ⟨by rw [← r.length]; exact z, ?_⟩)
  have hf : H1 s1.heap.objs.size = none := I1.hok.fresh (Nat.le_refl _)
  refine ⟨.ref s1.heap.objs.size, upd H1 s1.heap.objs.size (.lst xs), I1.laid (t' := s1.toks) (fun b u e => Heap.get?_push_of_some _ e) (Nat.le_refl _) ?_, rfl, q _ hf⟩
  exact ⟨z, us, 0, r, Heap.get?_push_size _ rfl⟩
end

/-! ### what a def promises -/
/-- a def's promise: the bound arguments in the parameters' order, the heap, the wanted end, the wanted exception -/
abbrev Sp := List V → Hp → VK → XK → Prop
/-- how an exception lies behind a call (file 08 gives it): the callers' frames, abstract heap and state ahead of the call, the wish, the exception, the state -/
abbrev CXT := List Env → Hp → Shared → XK → Value → Shared → Prop

/-- the state at a call -/
structure Env0 (P : Program) (w : World) (K : PySem.W.Frag) (mg : Str → Option Value) (base : Heap) (A : Around) (outer : List Env) (s : Shared) (H : Hp) : Prop where
  frames : A.frames = some outer
  mod : Mod K mg base
  bs : ∀ b o, base.get? b = some o → s.heap.get? b = some o ∧ H b = none
  bsz : base.objs.size ≤ s.heap.objs.size
  funs : s.heap.FunFrames base outer
  frf : ∀ b ∈ frs outer, H b = none
  hok : HOk P w H s.heap
  bare : AllBare s.gens
/-- a call's end -/
def CE (outer : List Env) (P : Program) (w : World) (H : Hp) (s : Shared) (Q : VK) (u : Value) (s' : Shared) : Prop :=
  ∃ v H', s'.os = s.os ∧ AllBare s'.gens ∧ Un (frs outer) [] H H' s.heap s'.heap ∧ HOk P w H' s'.heap ∧ RelV v u ∧ Q v H'
def CR (CX : CXT) (outer : List Env) (P : Program) (w : World) (H : Hp) (s : Shared) (Q : VK) (E : XK) (r : Result) (s' : Shared) : Prop :=
  match r with
  | .ok (.ret u) => CE outer P w H s Q u s'
  | .ok _ => False
  | .error e => CX outer H s E e s'
structure FnOk (P : Program) (w : World) (K : PySem.W.Frag) (mg : Str → Option Value) (base : Heap) (CX : CXT) (k : Nat) (f : Addr) (fd : FuncData) (ps : List Str) (sp : Sp) : Prop where
  len : ∀ vs H Q E, sp vs H Q E → vs.length = ps.length
  run : ∀ (A : Around) (outer : List Env) (s : Shared) (H : Hp) (args : Args) (us : List Value) (vs : List V) (Q : VK) (E : XK), Room k A → Env0 P w K mg base A outer s H → BindsTo s fd args (ps.zip us) → Vals vs us → sp vs H Q E →
    codeAny (model P w) A (.call (.ref f) args) (CR CX outer P w H s Q E) s
theorem FnOk.mono {P : Program} {w : World} {K : PySem.W.Frag} {mg : Str → Option Value} {base : Heap} {CX : CXT} {j k : Nat} {f : Addr} {fd : FuncData} {ps : List Str} {sp : Sp} (F : FnOk P w K mg base CX j f fd ps sp) (h : j ≤ k) :
    FnOk P w K mg base CX k f fd ps sp := ⟨F.len, fun A outer s H args us vs Q E hr => F.run A outer s H args us vs Q E (hr.mono h)⟩

theorem Env0.make {P : Program} {w : World} {K : PySem.W.Frag} {mg : Str → Option Value} {base : Heap} {A : Around} {outer : List Env} {s : Shared} {H : Hp} (e : Env0 P w K mg base A outer s H) (C : Addr) (us : List Value) (kw : List (Str × Value)) :
    Env0 P w K mg base (A.under (.builtin "type.__call__" ⟨.ref C :: us, kw⟩)) outer s H := ⟨by first | exact e.frames | (simpa [Around.under, Code.envs, Code.isFrame, pushEnvs] using e.frames), e.mod, e.bs, e.bsz, e.funs, e.frf, e.hok, e.bare⟩

section
variable {X : Cx} {pins : List (Addr × Obj)} {σ : St} {H : Hp} {s s' : Shared}
/-- from a body: what a callee wants -/
theorem Inv.env0 (I : Inv X pins σ H s) : Env0 X.prog X.w X.K X.mg X.base X.A X.stack s H :=
  ⟨I.ok.frames, I.ok.mod, I.bs, Nat.le_trans I.ok.bsz I.sz, I.stack, I.stkFree, I.hok, I.bare⟩
/-- behind a call -/
theorem Inv.after {Q : VK} {u : Value} (I : Inv X pins σ H s) (h : CE X.stack X.prog X.w H s Q u s') : EP X pins σ Q u s' := by
  obtain ⟨v, H', os, bare, un, hok, r, q⟩ := h
  obtain ⟨hh, g, d, t, os'⟩ := s'
  obtain rfl : os' = s.os := os
  exact ⟨v, H', I.call (h' := hh) (g' := g) (d' := d) (t' := t) (ch := []) un hok bare (fun b z => absurd z (by simp)), r, q⟩
end

/-! ### calls -/
/-- f(..): the written arguments, then the defaults dvs; E: what is wanted of an exception -/
def tCall (sp : Sp) (dvs : List V) (E : XK) (t : TA) : TE := fun σ H Q => t σ H fun vs H1 => sp (vs ++ dvs) H1 Q E
/-- C(..): a new instance and its dict, then __init__ -/
def tMake (C : Addr) (sp : Sp) (dvs : List V) (E : XK) (t : TA) : TE := fun σ H Q => t σ H fun vs H1 => ∀ x dx, H1 x = none → H1 dx = none → dx ≠ x →
  sp (.ref x :: (vs ++ dvs)) (upd (upd H1 dx (.own x)) x (.ins C dx [])) (fun v H2 => v = .non ∧ Q (.ref x) H2) E

/-- how the parameters are bound: us the positional arguments, kw the keywords' values by name, ds the defaults that fill up -/
def Binds (K : PySem.W.Frag) (fd : FuncData) (ps : List Str) (ds : List Value) : Prop :=
  ∀ (s : Shared) (us : List Value), K.In s.heap → (us ++ ds).length = ps.length → BindsTo s fd ⟨us, []⟩ (ps.zip (us ++ ds))
/-- every parameter is given -/
theorem Binds.all {K : PySem.W.Frag} {fd : FuncData} {ps : List Str} (h : ∀ us : List Value, us.length = ps.length → bindArgs fd ⟨us, []⟩ = pure (ps.zip us)) : Binds K fd ps [] := fun s us _ hl => by
  rw [List.append_nil] at hl ⊢
  exact .of_eq (h us hl)

/-- an exception of a callee reaches what this body wants of exceptions -/
def Passes (CX : CXT) (X : Cx) (E : XK) : Prop := ∀ (pins : List (Addr × Obj)) (σ : St) (H : Hp) (s : Shared) (e : Value) (s' : Shared), Inv X pins σ H s → CX X.stack H s E e s' → X.xe e s'

section
variable {X : Cx} {CX : CXT} {k : Nat} {f C : Addr} {fd : FuncData} {ps : List Str} {sp : Sp} {dvs : List V} {ds : List Value} {E : XK} {x m : Str} {p pos apos : Pos} {e o : Expr} {es : List Expr} {ta : TE} {t : TA}

/-- the callee runs -/
theorem run_fn {pins : List (Addr × Obj)} {σ : St} {H : Hp} {s : Shared} {Q : VK} {us : List Value} {vs : List V} (F : FnOk X.prog X.w X.K X.mg X.base CX k f fd ps sp) (hr : Room k X.A) (hb : Binds X.K fd ps ds) (hd : Vals dvs ds) (hx : Passes CX X E)
    (I : Inv X pins σ H s) (r : Vals vs us) (h : sp (vs ++ dvs) H Q E) : wpAny (model X.prog X.w) X.A (call (.ref f) us) (EP X pins σ Q) X.xe s := by
  have r2 : Vals (vs ++ dvs) (us ++ ds) := r.append hd
  have hl : (us ++ ds).length = ps.length := by rw [← r2.length]; exact F.len _ _ _ _ h
  refine wpAny_call (codeAny_mono (F.run X.A X.stack s H ⟨us, []⟩ (us ++ ds) (vs ++ dvs) Q E hr I.env0 (hb s us I.kIn hl) r2 h) fun r s' hq => ?_)
  cases r with
  | error e => exact hx pins σ H s e s' I hq
  | ok fl =>
    cases fl with
    | ret u => exact I.after hq
    | next => exact False.elim hq
    | brk => exact False.elim hq
    | cont => exact False.elim hq

theorem pe_call (F : FnOk X.prog X.w X.K X.mg X.base CX k f fd ps sp) (hr : Room k X.A) (hg : Gl X x) (hm : X.mg x = some (.ref f)) (hk : PySem.W.keepIn X.K (.ref f) = true) (hb : Binds X.K fd ps ds) (hd : Vals dvs ds) (hx : Passes CX X E)
    (ha : PA X (e :: es) t) (hdb : (x == ("__debug__" : Str)) = false := by decide) (he : starEach (e :: es) X.env = (false, eval e X.env) :: starEach es X.env := by rfl) (hpl : (backTo pos (starEach es X.env)).any (·.1) = false := by rfl) :
    PE X (.Call (.Name x p) (e :: es) [] pos) (tCall sp dvs E t) := by
  intro pins s σ H Q I h
  refine wpAny_Call_Name_kw (ld_glob I hg hm ?_ hdb)
  refine PySem.W.callWith_K (h₀ := X.base) I.ok.mod.kin hk (thn (ha pos pins s σ H _ I h) fun us s1 ⟨vs, H1, I1, r, q⟩ => ⟨I1.kIn, ?_⟩) he hpl
  exact run_fn F hr hb hd hx I1 r q

/-- what a class must have to be made -/
structure Mk (K : PySem.W.Frag) (C f : Addr) : Prop where
  makes : PySem.W.makesIn K C = true
  init : PySem.W.findIn K (.ref C) "__init__" = some (some (.ref f))
  fn : PySem.W.isFn K (.ref f) = true
  kp : PySem.W.keepIn K (.ref C) = true

theorem run_make {pins : List (Addr × Obj)} {σ : St} {H : Hp} {s : Shared} {Q : VK} {us : List Value} {vs : List V} (M : Mk X.K C f) (F : FnOk X.prog X.w X.K X.mg X.base CX k f fd ps sp) (hr : Room (k + 1) X.A) (hb : Binds X.K fd ps ds) (hd : Vals dvs ds)
    (hx : Passes CX X E) (I : Inv X pins σ H s) (r : Vals vs us)
    (h : ∀ x dx, H x = none → H dx = none → dx ≠ x → sp (.ref x :: (vs ++ dvs)) (upd (upd H dx (.own x)) x (.ins C dx [])) (fun v H2 => v = .non ∧ Q (.ref x) H2) E) :
    wpAny (model X.prog X.w) X.A (call (.ref C) us) (EP X pins σ Q) X.xe s := by
  have hq := h (s.heap.objs.size + 1) s.heap.objs.size (I.hok.fresh (Nat.le_succ _)) (I.hok.fresh (Nat.le_refl _)) (Nat.ne_of_lt (Nat.lt_succ_self _))
  have I2 := Inv.made (C := C) I
  have r2 : Vals (V.ref (s.heap.objs.size + 1) :: (vs ++ dvs)) (Value.ref (s.heap.objs.size + 1) :: (us ++ ds)) := .cons rfl (r.append hd)
  have hl : (Value.ref (s.heap.objs.size + 1) :: us ++ ds).length = ps.length := by
    have e := r2.length
    rw [F.len _ _ _ _ hq] at e
    exact e.symm
  refine wpAny_call (make_map (f := f) I.kIn M.makes M.init (beq_iff_eq.mp M.fn) (codeAny_mono (F.run _ X.stack _ _ ⟨Value.ref (s.heap.objs.size + 1) :: us, []⟩ (Value.ref (s.heap.objs.size + 1) :: (us ++ ds)) _ _ E (hr.make C us [])
    (I2.env0.make C us []) (hb _ (Value.ref (s.heap.objs.size + 1) :: us) I2.kIn hl) r2 hq) fun r s' hq' => ?_))
  cases r with
  | error e => exact hx pins σ _ _ e s' I2 hq'
  | ok fl =>
    cases fl with
    | ret u =>
      obtain ⟨v, H', I3, rv, ev, q3⟩ := I2.after hq'
      subst ev
      exact ⟨rv, ⟨V.ref (s.heap.objs.size + 1), H', I3, rfl, q3⟩⟩
    | next => exact False.elim hq'
    | brk => exact False.elim hq'
    | cont => exact False.elim hq'
theorem pe_make (M : Mk X.K C f) (F : FnOk X.prog X.w X.K X.mg X.base CX k f fd ps sp) (hr : Room (k + 1) X.A) (hg : Gl X x) (hm : X.mg x = some (.ref C)) (hb : Binds X.K fd ps ds) (hd : Vals dvs ds) (hx : Passes CX X E)
    (ha : PA X (e :: es) t) (hdb : (x == ("__debug__" : Str)) = false := by decide) (he : starEach (e :: es) X.env = (false, eval e X.env) :: starEach es X.env := by rfl) (hpl : (backTo pos (starEach es X.env)).any (·.1) = false := by rfl) :
    PE X (.Call (.Name x p) (e :: es) [] pos) (tMake C sp dvs E t) := by
  intro pins s σ H Q I h
  refine wpAny_Call_Name_kw (ld_glob I hg hm ?_ hdb)
  refine PySem.W.callWith_K (h₀ := X.base) I.ok.mod.kin M.kp (thn (ha pos pins s σ H _ I h) fun us s1 ⟨vs, H1, I1, r, q⟩ => ⟨I1.kIn, ?_⟩) he hpl
  exact run_make M F hr hb hd hx I1 r q
end

/-! ### keywords -/
section
variable {X : Cx} {CX : CXT} {k : Nat} {f C : Addr} {fd : FuncData} {ps ks : List Str} {sp : Sp} {E : XK} {x m : Str} {p pos apos kpos : Pos} {e o : Expr} {es : List Expr} {kws : List Keyword} {te ta : TE} {t tk : TA} {nm : Option Str}

variable {g : List Value → List Value → List Value} {gV : List V → List V → List V}
end

/-! ### a def's body keeps its promise -/
/-- names: the parameters first -/
structure FnScope (N P : List Str) (sc : Scope) : Prop where
  kind : sc.kind = .function
  co : sc.isCoroutine = false
  gen : sc.isGenerator = false
  nd : N.Nodup
  pre : N.take P.length = P
  par : ∀ x ∈ P, sc.names.lookup x = some .local ∨ sc.names.lookup x = some .cell
  nofree : ∀ y ∈ sc.names, y.2 ≠ .free

theorem bindL_out {kindOf : Str → Option NameKind} {x : Str} : ∀ {binds : List (Str × Value)} {m : Str → Option Value}, (∀ v, (x, v) ∉ binds) → bindL kindOf binds m x = m x
  | [], _, _ => rfl
  | (n, v) :: r, m, h => by
    unfold bindL
    rw [bindL_out fun w hw => h w (List.mem_cons_of_mem _ hw)]
    split
    · have : x ≠ n := by rintro rfl; exact h v List.mem_cons_self
      simp [this]
    · rfl
theorem bindC_out {kindOf : Str → Option NameKind} {x : Str} : ∀ {binds : List (Str × Value)} {m : Str → Option Value}, (∀ v, (x, v) ∉ binds) → bindC kindOf binds m x = m x
  | [], _, _ => rfl
  | (n, v) :: r, m, h => by
    unfold bindC
    rw [bindC_out fun w hw => h w (List.mem_cons_of_mem _ hw)]
    split
    · rfl
    · have : x ≠ n := by rintro rfl; exact h v List.mem_cons_self
      simp [this]
theorem bindL_get {kindOf : Str → Option NameKind} {x : Str} {v : Value} : ∀ {P : List Str} {vs : List Value} {i : Nat} {m : Str → Option Value}, P.Nodup → P[i]? = some x → vs[i]? = some v → kindOf x = some .local →
    bindL kindOf (P.zip vs) m x = some v
  | [], _, _, _, _, h, _, _ => by simp at h
  | _ :: _, [], _, _, _, _, h, _ => by simp at h
  | p :: P, w :: vs, 0, m, nd, h1, h2, hk => by
    simp at h1 h2; subst h1; subst h2
    show bindL kindOf ((p, w) :: P.zip vs) m p = _
    unfold bindL
    rw [bindL_out fun v hv => (List.nodup_cons.mp nd).1 (List.of_mem_zip hv).1, if_pos hk]
    simp
  | p :: P, w :: vs, i + 1, m, nd, h1, h2, hk => by
    show bindL kindOf ((p, w) :: P.zip vs) m x = _
    unfold bindL
    exact bindL_get (i := i) (List.nodup_cons.mp nd).2 (by simpa using h1) (by simpa using h2) hk
theorem bindC_get {kindOf : Str → Option NameKind} {x : Str} {v : Value} : ∀ {P : List Str} {vs : List Value} {i : Nat} {m : Str → Option Value}, P.Nodup → P[i]? = some x → vs[i]? = some v → kindOf x ≠ some .local →
    bindC kindOf (P.zip vs) m x = some v
  | [], _, _, _, _, h, _, _ => by simp at h
  | _ :: _, [], _, _, _, _, h, _ => by simp at h
  | p :: P, w :: vs, 0, m, nd, h1, h2, hk => by
    simp at h1 h2; subst h1; subst h2
    show bindC kindOf ((p, w) :: P.zip vs) m p = _
    unfold bindC
    rw [bindC_out fun v hv => (List.nodup_cons.mp nd).1 (List.of_mem_zip hv).1, if_neg hk]
    simp
  | p :: P, w :: vs, i + 1, m, nd, h1, h2, hk => by
    show bindC kindOf ((p, w) :: P.zip vs) m x = _
    unfold bindC
    exact bindC_get (i := i) (List.nodup_cons.mp nd).2 (by simpa using h1) (by simpa using h2) hk

/-- the names' values at the entry -/
def start (N : List Str) (vs : List V) : St := vs.map some ++ List.replicate (N.length - vs.length) none

/-- the context of a def's body, at its entry; an exception leaves the frame, then lies as CX says -/
def cxOf (CX : CXT) (P : Program) (w : World) (K : PySem.W.Frag) (mg : Str → Option Value) (base : Heap) (N : List Str) (qual : Str) (scope : Scope) (f : Addr) (cd : Value) (A : Around) (outer : List Env) (s : Shared) (H : Hp) (E : XK) : Cx where
  prog := P
  w := w
  K := K
  mg := mg
  base := base
  A := A.deeper (envOfC qual scope s.heap.objs.size f cd)
  N := N
  s_0 := s
  H_0 := H
  env := envOfC qual scope s.heap.objs.size f cd
  outer := outer
  stack := envOfC qual scope s.heap.objs.size f cd :: outer
  ex := []
  calm := true
  fn := fun _ => true
  pn := []
  xe := fun e s' => wpAny (model P w) (A.deeper (envOfC qual scope s.heap.objs.size f cd)) (leaving (envOfC qual scope s.heap.objs.size f cd) e) (fun _ s'' => CX outer H s E e s'') (fun e' s'' => CX outer H s E e' s'') s'

theorem cell_has {sc : Scope} {n : Nat} {x : Str} (h : sc.names.lookup x = some .cell) : ∃ c, (cellsFrom n sc.names []).lookup x = some c := by
  have q := PySem.W.cellsFrom_some sc.names n [] (.inl h)
  exact Option.isSome_iff_exists.mp q

theorem inv_start {CX : CXT} {P : Program} {w : World} {K : PySem.W.Frag} {mg : Str → Option Value} {base : Heap} {N ps : List Str} {qual : Str} {scope : Scope} {f : Addr} {cd : Value} {A : Around} {outer : List Env} {s s1 : Shared} {H : Hp} {E : XK} {us : List Value} {vs : List V}
    (S : FnScope N ps scope) (hd : A.handled = none) (e0 : Env0 P w K mg base A outer s H) (hl : vs.length = ps.length) (r : Vals vs us)
    (x : InCallC s s.heap.objs.size (bindL (envOfC qual scope s.heap.objs.size f cd).kindOf (ps.zip us) fun _ => none) (cellsFrom (s.heap.objs.size + 1) scope.names []) (bindC (envOfC qual scope s.heap.objs.size f cd).kindOf (ps.zip us) fun _ => none) s1) :
    Inv (cxOf CX P w K mg base N qual scope f cd A outer s H E) [] (start N vs) H s1 := by
  have hpl : ps.length ≤ N.length := by have := congrArg List.length S.pre; rw [List.length_take] at this; omega
  obtain ⟨h1, tk, rfl, hk⟩ := x.done
  have noA : ∀ b : Addr, b ∉ (cxOf CX P w K mg base N qual scope f cd A outer s H E).ex := fun b z => absurd (show b ∈ ([] : List Addr) from z) (by simp)
  refine ⟨⟨e0.mod, S.kind, rfl, rfl, Nat.le_refl _, fun y z c h1 h2 => ?_, fun y hy => ?_, fun y c _ h => ?_, fun _ => hd, Around.frames_deeper e0.frames, .inr ⟨rfl, rfl⟩, fun b z => absurd z (noA b), e0.bs, e0.bsz, fun b _ _ => noA b, fun b z => absurd z (noA b), e0.funs, e0.frf⟩,
    rfl, e0.bare, Un.kept hk, ⟨_, x.toInCall.ns, fun i y v h1 h2 h3 => ?_⟩, fun y c h => ⟨_, x.cell y c h⟩, e0.hok.fresh (Nat.le_refl _), fun y c h => ?_, fun p hp => absurd (show p ∈ ([] : List (Addr × Obj)) from hp) (by simp), e0.hok.kept hk, ?_⟩
  · exact name_of_addr x.apart (PySem.mem_of_lookup h1) (PySem.mem_of_lookup h2)
  · have hy : scope.names.lookup y = some .cell ∨ scope.names.lookup y = some .free := hy
    rcases hy with hy | hy
    · exact cell_has hy
    · exact absurd rfl (S.nofree _ (PySem.mem_of_lookup hy))
  · exact Nat.le_of_lt (x.above y c (PySem.mem_of_lookup h))
  · have hi : i < vs.length := by
      unfold start at h2
      by_cases hi : i < vs.length
      · exact hi
      · rw [List.getElem?_append_right (by simpa using hi)] at h2
        rw [List.getElem?_replicate] at h2
        split at h2 <;> cases h2
    have ha : vs[i]? = some v := by
      unfold start at h2
      rw [List.getElem?_append_left (by simpa using hi), List.getElem?_map] at h2
      cases e : vs[i]? with
      | none => rw [e] at h2; cases h2
      | some a => rw [e] at h2; cases h2; rfl
    obtain ⟨u, hu, rv⟩ := r.get ha
    have hp : ps[i]? = some y := by
      rw [← S.pre, List.getElem?_take_of_lt (by omega)]; exact h1
    have ndP : ps.Nodup := by rw [← S.pre]; exact S.nd.sublist (List.take_sublist _ _)
    refine ⟨u, rv, ?_⟩
    rcases S.par y (List.mem_of_getElem? hp) with k | k
    · exact .inl ⟨k, bindL_get ndP hp hu k⟩
    · obtain ⟨c, e⟩ := cell_has (n := s.heap.objs.size + 1) k
      refine .inr ⟨.inl k, c, e, ?_⟩
      have q := x.cell y c e
      rw [bindC_get ndP hp hu (by show scope.names.lookup y ≠ _; rw [k]; decide)] at q
      exact q
  · exact e0.hok.fresh (Nat.le_of_lt (x.above y c (PySem.mem_of_lookup h)))
  · unfold start
    show _ = N.length
    rw [List.length_append, List.length_map, List.length_replicate]
    omega

/-- THE RULE: a def (or a method) of the text, by its body. The body's reading t is chosen for each entry; it is run at the parameters' values -/
theorem fn_of {CX : CXT} {P : Program} {w : World} {K : PySem.W.Frag} {mg : Str → Option Value} {base : Heap} {k : Nat} {f : Addr} {name qual : Str} {params : Arguments} {body : List Stmt} {scope : Scope} {dV kV doc pm cdv ct oc : Value} {an od : Option Addr}
    {osl : Array (Option Value)} {N ps : List Str} {sp : Sp} (lk : K.lookup f = some ⟨oc, od, .func (PySem.W.fnOf name qual params body scope dV kV doc pm an cdv ct), osl⟩) (hcd : PySem.W.codeIn K cdv qual = true) (S : FnScope N ps scope)
    (len : ∀ vs H Q E, sp vs H Q E → vs.length = ps.length)
    (hbody : ∀ (A : Around) (outer : List Env) (s : Shared) (H : Hp) (vs : List V) (Q : VK) (E : XK), Room k (A.deeper (envOfC qual scope s.heap.objs.size f cdv)) → sp vs H Q E →
      ∃ t, PSs (cxOf CX P w K mg base N qual scope f cdv A outer s H E) body t ∧ t { nx := fun _ H' => Q .non H', rt := Q } (start N vs) H) :
    FnOk P w K mg base CX (k + 1) f (PySem.W.fnOf name qual params body scope dV kV doc pm an cdv ct) ps sp := by
  refine ⟨len, fun A outer s H args us vs Q E hr e0 hb r hsp => ?_⟩
  have hl := len _ _ _ _ hsp
  have KX : K.In s.heap := e0.mod.kin.keeps fun b o e => (e0.bs b o e).1
  have lim : s.heap.NoLimit := e0.mod.nolimit.keeps fun b o e => (e0.bs b o e).1
  have hkind : ∀ y ∈ ps.zip us, scope.names.lookup y.1 = some .local ∨ (scope.names.lookup y.1 = some .cell ∧ ((cellsFrom (s.heap.objs.size + 1) scope.names []).lookup y.1).isSome = true) := fun ⟨n, v⟩ hy => by
    rcases S.par n (List.of_mem_zip hy).1 with q | q
    · exact .inl q
    · exact .inr ⟨q, PySem.W.cellsFrom_some _ _ _ (.inl q)⟩
  refine codeAny_call_function hr.depth (KX _ _ lk) rfl S.co S.gen rfl (PySem.W.codeRec_of KX hcd) (hb _ _ _ _ ?_)
  refine wpAny_newFunctionEnv_cells S.kind hkind fun env he s1 x => ?_
  subst he
  refine ⟨lim.keeps x.toInCall.keep, codeAny_func ?_⟩
  obtain ⟨t, ht, hq⟩ := hbody A outer s H vs Q E (hr.deeper _) hsp
  have I : Inv (cxOf CX P w K mg base N qual scope f cdv A outer s H E) [] (start N vs) H s1 := inv_start S hr.hd e0 hl r x
  refine wpAny_mono (ht [] s1 (start N vs) H _ I hq) (fun fl s' hs => ?_) fun e s' hs => hs
  have fin : ∀ {σ' : St} {H' : Hp} {v : V} {u : Value}, Inv (cxOf CX P w K mg base N qual scope f cdv A outer s H E) [] σ' H' s' → RelV v u → Q v H' → CE outer P w H s Q u s' :=
    fun {σ' H' v u} J rv q => ⟨v, H', J.os, J.bare, J.base, J.hok, rv, q⟩
  cases fl with
  | ret u =>
    obtain ⟨v, σ', H', J, rv, q⟩ := hs
    exact fin J rv q
  | next =>
    obtain ⟨σ', H', J, q⟩ := hs
    exact fin (v := V.non) (u := Value.none) J rfl q
  | brk =>
    obtain ⟨_, _, _, q⟩ := hs
    exact False.elim q
  | cont =>
    obtain ⟨_, _, _, q⟩ := hs
    exact False.elim q
end L2

namespace L2
open PySem PySem.Spec PyProof.Rows
section
variable {X : Cx} {x : Str} {p pos : Pos} {e : Expr} {es : List Expr} {t : TA} {id T : String} {r : List V → Hp → VK → Prop}

def tCB (r : List V → Hp → VK → Prop) (t : TA) : TE := fun σ H Q => t σ H fun vs H1 => r vs H1 Q
/-- f(e, ..), f a built-in function -/
theorem pe_callB (hc : CallR X (.builtin id) r) (hg : Gl X x) (hm : X.mg x = none) (hv : bootBuiltins x = some (.builtin id)) (ha : PA X (e :: es) t) (hn : x ≠ "__name__" := by decide) (hdb : (x == ("__debug__" : Str)) = false := by decide)
    (he : starEach (e :: es) X.env = (false, eval e X.env) :: starEach es X.env := by rfl) (hpl : (backTo pos (starEach es X.env)).any (·.1) = false := by rfl) : PE X (.Call (.Name x p) (e :: es) [] pos) (tCB r t) := by
  intro pins s σ H Q I h
  refine wpAny_Call_Name_kw (ld_blt I hg hm hv ?_ hn hdb)
  exact PyProof.Rows.callWith_builtin1 (thn (ha pos pins s σ H _ I h) fun us s1 ⟨vs, H1, I1, r1, q1⟩ => hc pins s1 σ H1 vs us Q I1 r1 q1) he hpl
/-- T(e, ..), T a built-in type -/
theorem pe_callTy (hc : CallR X (.type T) r) (hg : Gl X x) (hm : X.mg x = none) (hv : bootBuiltins x = some (.type T)) (ha : PA X (e :: es) t) (hn : x ≠ "__name__" := by decide) (hdb : (x == ("__debug__" : Str)) = false := by decide)
    (he : starEach (e :: es) X.env = (false, eval e X.env) :: starEach es X.env := by rfl) (hpl : (backTo pos (starEach es X.env)).any (·.1) = false := by rfl) : PE X (.Call (.Name x p) (e :: es) [] pos) (tCB r t) := by
  intro pins s σ H Q I h
  refine wpAny_Call_Name_kw (ld_blt I hg hm hv ?_ hn hdb)
  exact PyProof.Rows.callWith_type1 (thn (ha pos pins s σ H _ I h) fun us s1 ⟨vs, H1, I1, r1, q1⟩ => hc pins s1 σ H1 vs us Q I1 r1 q1) he hpl
end
end L2

namespace HT
open PySem PyProof.Rows

section
open PySem.SeqAt
open PySem.AutoSeq1 (wpAny_loadPart')
open PySem.MeetsSeq PySem.MeetsSeq2 PySem.MeetsSeq3

end

section
variable {prog : Program} {w : World} {A : Around} {E : Value → Shared → Prop} {s : Shared}

/-! ### t[a:b], not the whole -/
/-- a slice's bound as a place among n (d where it is left out) -/
def sIx (n d : Nat) : Option Int → Nat
  | none => d
  | some v => if v < 0 then (v + (n : Int)).toNat else min v.toNat n
theorem sIx_nat (n d k : Nat) : sIx n d (some (k : Int)) = min k n := by
  show (if (k : Int) < 0 then ((k : Int) + (n : Int)).toNat else min (k : Int).toNat n) = min k n
  rw [if_neg (by omega), Int.toNat_natCast]

end
end HT

namespace L2
open PySem PySem.Spec PyProof.Rows

/-! ### the parts of a slice -/
abbrev TO := St → Hp → (Option Int → Hp → Prop) → Prop
/-- a slice's part (left out, or an int) -/
def PO (X : Cx) (e : Option Expr) (t : TO) : Prop :=
  ∀ (pins : List (Addr × Obj)) (s : Shared) (σ : St) (H : Hp) (Q : Option Int → Hp → Prop), Inv X pins σ H s → t σ H Q →
    wpAny (model X.prog X.w) X.A (evalPart e X.env) (fun u s' => ∃ o H', Inv X pins σ H' s' ∧ IsPart u o ∧ Q o H') X.xe s
def tPart (t : TE) : TO := fun σ H Q => t σ H fun x H1 => ∃ i, x = .int i ∧ Q (some i) H1

theorem intsAre_of {ns : List Int} : ∀ {us : List Value}, Vals (ns.map V.int) us → IntsAre us ns := by
  induction ns with
  | nil => intro us r; rw [List.map_nil] at r; cases r; exact .nil
  | cons n ns ih =>
    intro us r
    rw [List.map_cons] at r
    cases r with
    | cons r1 r2 =>
      obtain ⟨t, e⟩ := r1
      subst e
      exact .cons n t (ih r2)

section
variable {X : Cx} {e : Expr} {te : TE} {lo hi : Option Expr} {tl th : TO} {pos p2 : Pos}

theorem po_some (h : PE X e te) : PO X (some e) (tPart te) := by
  intro pins s σ H Q I hw
  rw [evalPart_some]
  refine thn (h pins s σ H _ I hw) fun u s1 ⟨x, H1, I1, r1, q1⟩ => ?_
  obtain ⟨i, rfl, q⟩ := q1
  obtain ⟨t, rfl⟩ := r1
  exact ⟨some i, H1, I1, .int i t, q⟩

/-- what a slice of a value is, by values: the slice object stands at sl -/
def SlR (X : Cx) (r : V → Option Int → Option Int → Hp → VK → Prop) : Prop :=
  ∀ (pins : List (Addr × Obj)) (s : Shared) (σ : St) (H : Hp) (x : V) (v vl vu : Value) (lo hi : Option Int) (sl : Addr) (Q : VK), Inv X pins σ H s → RelV x v → s.heap.IsSliceOf sl vl vu .none → IsPart vl lo → IsPart vu hi → r x lo hi H Q →
    ∃ T id, typeLookup (.type T) "__getitem__" = pure (some (.builtin id)) ∧ s.TypeIs v T ∧ wpAny (model X.prog X.w) X.A (getItem v (.ref sl)) (EP X pins σ Q) X.xe s
def tSl (r : V → Option Int → Option Int → Hp → VK → Prop) (te : TE) (tl th : TO) : TE := fun σ H Q => te σ H fun x H1 => tl σ H1 fun l H2 => th σ H2 fun u H3 => r x l u H3 Q
/-- a[lo:hi], any a -/
theorem pe_slice {r : V → Option Int → Option Int → Hp → VK → Prop} (hr : SlR X r) (he : PE X e te) (hl : PO X lo tl) (hu : PO X hi th) : PE X (.Subscript e (.Slice lo hi none p2) pos) (tSl r te tl th) := by
  intro pins s σ H Q I h
  refine Subscript_ (thn (he pins s σ H _ I h) fun v s1 ⟨x, H1, I1, r1, q1⟩ => ?_)
  refine wpAny_Slice (thn (hl pins s1 σ H1 _ I1 q1) fun vl s2 ⟨l, H2, I2, pl, q2⟩ => thn (hu pins s2 σ H2 _ I2 q2) fun vu s3 ⟨u, H3, I3, pu, q3⟩ => ?_)
  rw [evalPart_none]
  refine wpAny_pure ?_
  have I4 : Inv X pins σ H3 { s3 with heap := s3.heap.push { cls := .type "slice", data := .fields #[vl, vu, .none] } } := I3.kept (t' := s3.toks) fun b ob q => Heap.get?_push_of_some _ q
  obtain ⟨T, id, hT, ht, hg⟩ := hr pins { s3 with heap := s3.heap.push { cls := .type "slice", data := .fields #[vl, vu, .none] } } σ H3 x v vl vu l u s3.heap.objs.size Q I4 r1 (Heap.IsSliceOf.new ..) pl pu q3
  show wpAny (model X.prog X.w) X.A (subscriptTail e (.Slice lo hi none p2) v (.ref s3.heap.objs.size)) (EP X pins σ Q) X.xe { s3 with heap := s3.heap.push { cls := .type "slice", data := .fields #[vl, vu, .none] } }
  exact tail_any (ops := [.ref s3.heap.objs.size, v]) ht hT hg (by with_unfolding_all rfl)

/-- the items of xs[lo:hi] -/
def cutV (xs : List V) (lo hi : Option Int) : List V := (xs.drop (HT.sIx xs.length 0 lo)).take (HT.sIx xs.length xs.length hi - HT.sIx xs.length 0 lo)
theorem cutV_length (xs : List V) (lo hi : Option Int) : (cutV xs lo hi).length ≤ xs.length := by
  unfold cutV
  rw [List.length_take, List.length_drop]
  omega

/-! ### t < u, t + u -/
end
end L2

namespace L2
open PySem PySem.Spec PyProof.Rows

/-! ### places -/
/-- the place that an index of any sign means -/
def ixN (n : Nat) (i : Int) : Option Nat := if 0 ≤ i then (if i < n then some i.toNat else none) else if -(n : Int) ≤ i then some (i + n).toNat else none
def atI {α : Type} (xs : List α) (i : Int) : Option α := (ixN xs.length i).bind fun j => xs[j]?
theorem ixN_seq {n : Nat} {i : Int} {j : Nat} (h : ixN n i = some j) : seqIndex? i n = some j ∧ j < n ∧ -(n : Int) ≤ i ∧ i < n := by
  unfold ixN at h
  by_cases h0 : 0 ≤ i
  · rw [if_pos h0] at h
    by_cases h1 : i < n
    · rw [if_pos h1] at h
      have e : i.toNat = j := Option.some.inj h
      exact ⟨by rw [seqIndex_of h0 h1, e], by omega, by omega, h1⟩
    · rw [if_neg h1] at h; cases h
  · rw [if_neg h0] at h
    by_cases h1 : -(n : Int) ≤ i
    · rw [if_pos h1] at h
      have e : (i + n).toNat = j := Option.some.inj h
      exact ⟨by rw [seqIndex_neg (by omega) h1, e], by omega, h1, by omega⟩
    · rw [if_neg h1] at h; cases h
theorem atI_get {α : Type} {xs : List α} {i : Int} {v : α} (h : atI xs i = some v) : ∃ j, seqIndex? i xs.length = some j ∧ xs[j]? = some v ∧ j < xs.length ∧ -(xs.length : Int) ≤ i ∧ i < xs.length := by
  unfold atI at h
  cases e : ixN xs.length i with
  | none => rw [e] at h; cases h
  | some j =>
    rw [e] at h
    obtain ⟨h1, h2, h3, h4⟩ := ixN_seq e
    exact ⟨j, h1, h, h2, h3, h4⟩
theorem atI_nat {α : Type} {xs : List α} {j : Nat} {v : α} (h : xs[j]? = some v) : atI xs (j : Int) = some v := by
  have hj : j < xs.length := (List.getElem?_eq_some_iff.mp h).1
  have e : ixN xs.length (j : Int) = some j := by
    unfold ixN
    rw [if_pos (by omega), if_pos (by omega)]; simp
  unfold atI; rw [e]; exact h

/-! ### what may be subscripted -/
/-- what stands as an index of a plain subscript -/
def PlainIx (b : Expr) : Prop := ∀ o i, subscripted b false o i = operate [o, i] (getItem o i)
/-- a subscript by values -/
def IxR (X : Cx) (r : R2) : Prop :=
  ∀ (value slice : Expr) (pins : List (Addr × Obj)) (s : Shared) (σ : St) (H : Hp) (x y : V) (v u : Value) (Q : VK), Inv X pins σ H s → RelV x v → RelV y u → r x y H Q →
    subscripted slice false v u = operate [v, u] (getItem v u) → wpAny (model X.prog X.w) X.A (subscriptTail value slice v u) (EP X pins σ Q) X.xe s
/-- a call of a builtin's method by values: the receiver, the arguments -/
def MtR (X : Cx) (id : String) (r : V → List V → Hp → VK → Prop) : Prop :=
  ∀ (pins : List (Addr × Obj)) (s : Shared) (σ : St) (H : Hp) (x : V) (xs : List V) (v : Value) (us : List Value) (Q : VK), Inv X pins σ H s → RelV x v → Vals xs us → r x xs H Q →
    wpAny (model X.prog X.w) X.A (call (.builtin id) (v :: us)) (EP X pins σ Q) X.xe s
section
variable {X : Cx} {a b : Expr} {ta tb : TE} {pos : Pos}
/-- a[b] -/
theorem pe_ix {r : R2} (hr : IxR X r) (ha : PE X a ta) (hb : PE X b tb) (hs : PlainIx b) : PE X (.Subscript a b pos) (tOp r ta tb) := by
  intro pins s σ H Q I h
  exact Subscript_ (binT ha hb I h fun v u s2 x y H2 I2 rx ry q => hr a b pins s2 σ H2 x y v u Q I2 rx ry q (hs _ _))

def rIxL (K : PySem.W.Frag) : R2 := fun x y H Q => ∃ p xs i v, x = .ref p ∧ y = .int i ∧ SqL K H p xs ∧ atI xs i = some v ∧ Q v H
def rIxT (K : PySem.W.Frag) : R2 := fun x y H Q => ∃ p xs i v, x = .ref p ∧ y = .int i ∧ SqT K H p xs ∧ atI xs i = some v ∧ Q v H
theorem ix_list : IxR X (rIxL X.K) := by
  intro value slice pins s σ H x y v u Q I rx ry h hs
  obtain ⟨p, xs, i, z, rfl, rfl, hq, he, q⟩ := h
  cases rx
  obtain ⟨t, rfl⟩ := ry
  obtain ⟨its, r, pl, hz⟩ := I.list hq
  obtain ⟨j, h1, h2, h3, h4, h5⟩ := atI_get he
  obtain ⟨w, ew, rw'⟩ := r.get h2
  have hl := r.length
  have hn := line63
  have fin : EP X pins σ Q w s := ⟨z, H, I, rw', q⟩
  by_cases h0 : 0 ≤ i
  · have hj : i.toNat = j := by
      rw [seqIndex_of h0 h5] at h1
      exact Option.some.inj h1
    exact item_listR pl.isList h0 (by omega) (by rw [hj]; simpa using ew) fin hs
  · have hj : (i + (its.toArray.size : Int)).toNat = j := by
      rw [seqIndex_neg (by omega) h4] at h1
      rw [List.size_toArray, ← hl]
      exact Option.some.inj h1
    exact subscriptTail_builtinR (x := w) pl.isList.typeIs slot_list_getitem.lookup
      (wpAny_getItem_list_neg (Q := fun r s' => r = w ∧ EP X pins σ Q r s') pl.isList (by omega) (by rw [List.size_toArray] <;> omega) (by omega) (by rw [hj]; simpa using ew) ⟨rfl, fin⟩) hs
theorem ix_tup : IxR X (rIxT X.K) := by
  intro value slice pins s σ H x y v u Q I rx ry h hs
  obtain ⟨p, xs, i, z, rfl, rfl, hq, he, q⟩ := h
  cases rx
  obtain ⟨t, rfl⟩ := ry
  obtain ⟨its, r, pl, hz⟩ := I.tuple hq
  obtain ⟨j, h1, h2, h3, h4, h5⟩ := atI_get he
  obtain ⟨w, ew, rw'⟩ := r.get h2
  have hl := r.length
  have hn := line63
  have fin : EP X pins σ Q w s := ⟨z, H, I, rw', q⟩
  exact subscriptTail_builtinR (x := w) pl.typeIs slot_tuple_getitem.lookup
    (getItem_tuple (j := j) (Q := fun r s' => r = w ∧ EP X pins σ Q r s') pl (by omega) (by omega) (by rw [List.size_toArray, ← hl]; exact h1) (by simpa using ew) ⟨rfl, fin⟩) hs

/-! ### xs[i] = v, any sign -/

/-! ### slices -/
theorem slice_bounds (lo hi : Option Int) (n : Nat) : (sliceBounds lo hi none n).1 = ((HT.sIx n 0 lo : Nat) : Int) ∧ (sliceBounds lo hi none n).2.1 = ((HT.sIx n n hi : Nat) : Int) ∧ (sliceBounds lo hi none n).2.2 = 1 := by
  refine ⟨?_, ?_, rfl⟩
  · cases lo with
    | none => simp [sliceBounds, HT.sIx]
    | some i =>
      simp only [sliceBounds, HT.sIx, Option.getD_none, show (1 : Int) > 0 by decide, if_true]
      by_cases h : i < 0
      · simp only [h, if_true] <;> omega
      · simp only [h, if_false] <;> omega
  · cases hi with
    | none => simp [sliceBounds, HT.sIx]
    | some i =>
      simp only [sliceBounds, HT.sIx, Option.getD_none, show (1 : Int) > 0 by decide, if_true]
      by_cases h : i < 0
      · simp only [h, if_true] <;> omega
      · simp only [h, if_false] <;> omega
theorem slicePick_cut (its : List Value) (lo hi : Option Int) : slicePick its.toArray lo hi none = ((its.drop (HT.sIx its.length 0 lo)).take (HT.sIx its.length its.length hi - HT.sIx its.length 0 lo)).toArray := by
  obtain ⟨h1, h2, h3⟩ := slice_bounds lo hi its.toArray.size
  unfold slicePick
  rw [h1, h2, h3]
  simp only [sliceRange_one, pick_run, List.size_toArray] <;> rfl
/-- xs[lo:hi] of a list: a new list -/
def rSlL (K : PySem.W.Frag) : V → Option Int → Option Int → Hp → VK → Prop := fun x lo hi H Q => ∃ a xs, x = .ref a ∧ SqL K H a xs ∧ ∀ p, H p = none → Q (.ref p) (upd H p (.lst (cutV xs lo hi)))
theorem sl_list : SlR X (rSlL X.K) := by
  intro pins s σ H x v vl vu lo hi sl Q I rx hs pl pu h
  obtain ⟨a, xs, rfl, hx, q⟩ := h
  cases rx
  obtain ⟨its, r, ht, hz⟩ := I.list hx
  have hlen := r.length
  refine ⟨"list", _, slot_list_getitem.lookup, ht.isList.typeIs, ?_⟩
  refine wpAny_getItem_list_slice ht.isList hs pl pu .none (by simp) ?_ (by rw [List.size_toArray] <;> omega)
  rw [slicePick_cut, ← hlen]
  refine ⟨.ref s.heap.objs.size, _, I.laid (t' := s.toks) (o := .lst (cutV xs lo hi)) (fun b ob q => Heap.get?_push_of_some _ q) (Nat.le_refl _) ?_, rfl, q _ (I.hok.fresh (Nat.le_refl _))⟩
  exact ⟨Nat.le_trans (cutV_length xs lo hi) hz, _, 0, (r.drop (HT.sIx xs.length 0 lo)).take (HT.sIx xs.length xs.length hi - HT.sIx xs.length 0 lo), Heap.get?_push_size _ rfl⟩

/-! ### in, not in: flat items -/
def flatV : V → Bool
  | .non => true
  | .bl _ => true
  | .int _ => true
  | .str _ => true
  | _ => false
/-- == of flat values -/
def eqV : V → V → Bool
  | .non, .non => true
  | .bl a, .bl b => a == b
  | .bl a, .int b => (if a then 1 else 0) == b
  | .int a, .bl b => a == (if b then 1 else 0)
  | .int a, .int b => a == b
  | .str a, .str b => a == b
  | _, _ => false
theorem eqAt_V {A : Around} {s : Shared} {y x : V} {u v : Value} (ry : RelV y u) (rx : RelV x v) (fy : flatV y = true) (fx : flatV x = true) : SeqAt.EqAt A s u v (eqV y x) := by
  cases y with
  | non =>
    cases ry
    cases x with
    | non => cases rx; exact SeqAt.EqAt.same _
    | bl b => cases rx; exact SeqAt.EqAt.none_bool b
    | int b => obtain ⟨t, rfl⟩ := rx; exact SeqAt.EqAt.none_int b t
    | str b => obtain ⟨t, rfl⟩ := rx; exact SeqAt.EqAt.none_str b t
    | _ => exact absurd (show false = true from fx) Bool.false_ne_true
  | bl a =>
    cases ry
    cases x with
    | non => cases rx; exact SeqAt.EqAt.bool_none a
    | bl b => cases rx; exact SeqAt.EqAt.bool_bool a b
    | int b => obtain ⟨t, rfl⟩ := rx; exact SeqAt.EqAt.bool_int a b t
    | str b => obtain ⟨t, rfl⟩ := rx; exact SeqAt.EqAt.bool_str a b t
    | _ => exact absurd (show false = true from fx) Bool.false_ne_true
  | int a =>
    obtain ⟨t', rfl⟩ := ry
    cases x with
    | non => cases rx; exact SeqAt.EqAt.int_none a t'
    | bl b => cases rx; exact SeqAt.EqAt.int_bool a t' b
    | int b => obtain ⟨t, rfl⟩ := rx; exact SeqAt.EqAt.int_int a t' b t
    | str b => obtain ⟨t, rfl⟩ := rx; exact SeqAt.EqAt.int_str a t' b t
    | _ => exact absurd (show false = true from fx) Bool.false_ne_true
  | str a =>
    obtain ⟨t', rfl⟩ := ry
    cases x with
    | non => cases rx; exact SeqAt.EqAt.str_none a t'
    | bl b => cases rx; exact SeqAt.EqAt.str_bool a t' b
    | int b => obtain ⟨t, rfl⟩ := rx; exact SeqAt.EqAt.str_int a t' b t
    | str b => obtain ⟨t, rfl⟩ := rx; exact SeqAt.EqAt.str_str a t' b t
    | _ => exact absurd (show false = true from fx) Bool.false_ne_true
  | _ => exact absurd (show false = true from fy) Bool.false_ne_true
/-- the items' answers, read off the values (a value's own answer does not lean on its token) -/
def eqU (x : V) (u : Value) : Bool := match u with
  | .none => eqV .non x
  | .bool b => eqV (.bl b) x
  | .int i _ => eqV (.int i) x
  | .str z _ => eqV (.str z) x
  | _ => false
theorem eqU_of {x y : V} {u : Value} (r : RelV y u) (f : flatV y = true) : eqU x u = eqV y x := by
  cases y with
  | non => cases r; rfl
  | bl b => cases r; rfl
  | int i => obtain ⟨t, rfl⟩ := r; rfl
  | str z => obtain ⟨t, rfl⟩ := r; rfl
  | _ => exact absurd (show false = true from f) Bool.false_ne_true
theorem any_eqU {x : V} : ∀ {xs : List V} {us : List Value}, Vals xs us → xs.all flatV = true → us.any (eqU x) = xs.any fun y => eqV y x
  | _, _, .nil, _ => rfl
  | y :: xs, u :: us, .cons r t, f => by
    rw [List.all_cons, Bool.and_eq_true] at f
    rw [List.any_cons, List.any_cons, eqU_of r f.1, any_eqU t f.2]
theorem mem_eqAt {A : Around} {s : Shared} {x : V} {v : Value} (rx : RelV x v) (fx : flatV x = true) : ∀ {xs : List V} {us : List Value}, Vals xs us → xs.all flatV = true → ∀ u ∈ us, SeqAt.EqAt A s u v (eqU x u)
  | _, _, .nil, _ => fun u hu => by cases hu
  | y :: xs, u :: us, .cons r t, f => fun u' hu => by
    rw [List.all_cons, Bool.and_eq_true] at f
    rcases List.mem_cons.mp hu with rfl | hu
    · rw [eqU_of r f.1]; exact eqAt_V r rx f.1 fx
    · exact mem_eqAt rx fx t f.2 u' hu
def inV (x : V) (xs : List V) : Bool := xs.any fun y => eqV y x
/-- x in a list or tuple of flat items -/
def rIn (K : PySem.W.Frag) (neg : Bool) : R2 := fun x y H Q => ∃ p xs, y = .ref p ∧ (SqL K H p xs ∨ SqT K H p xs) ∧ flatV x = true ∧ xs.all flatV = true ∧ Q (.bl (if neg then !inV x xs else inV x xs)) H
theorem op_in_seq : OpR X (compareOp .In) (rIn X.K false) := by
  intro pins s σ H x y v u Q I rx ry h
  obtain ⟨p, xs, rfl, hq, fx, fs, q⟩ := h
  cases ry
  rcases hq with hq | hq
  · obtain ⟨its, r, pl, hz⟩ := I.list hq
    refine SeqAt.in_listAt (eqU x) pl.isList (fun w hw => mem_eqAt rx fx r fs w (by simpa using hw)) ⟨.bl _, H, I, rfl, ?_⟩
    rw [show its.toArray.any (eqU x) = its.any (eqU x) by simp, any_eqU r fs]
    exact q
  · obtain ⟨its, r, pl, hz⟩ := I.tuple hq
    refine SeqAt.in_tupleAt (eqU x) pl (fun w hw => mem_eqAt rx fx r fs w (by simpa using hw)) ⟨.bl _, H, I, rfl, ?_⟩
    rw [show its.toArray.any (eqU x) = its.any (eqU x) by simp, any_eqU r fs]
    exact q

/-! ### len, list(x), tuple(x) of any list or tuple that is read -/
theorem call_len_seq : CallR X (.builtin "len") (fun xs H Q => ∃ p ys, xs = [.ref p] ∧ (SqL X.K H p ys ∨ SqT X.K H p ys) ∧ Q (.int ys.length) H) := by
  intro pins s σ H xs us Q I r h
  obtain ⟨p, ys, rfl, hq, q⟩ := h
  obtain ⟨u, rfl, rx⟩ := vals1 r
  cases rx
  have hn := line63
  rcases hq with hq | hq
  · obtain ⟨its, r', pl, hz⟩ := I.list hq
    have hlen := r'.length
    exact Calls.call_len_list pl.isList (by simp only [List.size_toArray] <;> omega) ⟨.int ys.length, H, I.tok _, ⟨s.toks + 1, by rw [List.size_toArray, hlen]⟩, q⟩
  · obtain ⟨its, r', pl, hz⟩ := I.tuple hq
    have hlen := r'.length
    exact len_tuple pl (by simp only [List.size_toArray] <;> omega) ⟨.int ys.length, H, I.tok _, ⟨s.toks + 1, by rw [List.size_toArray, hlen]⟩, q⟩

/-! ### the call of a builtin's method: o.m(..) -/
/-- the value is of that builtin type -/
def tyV (K : PySem.W.Frag) (T : String) (x : V) (H : Hp) : Prop := match x with
  | .str _ => T = "str"
  | .int _ => T = "int"
  | .ref p => (T = "list" ∧ ∃ xs, SqL K H p xs) ∨ (T = "tuple" ∧ ∃ o, K.lookup p = some o ∧ o.cls = .type "tuple" ∧ o.dict = none) ∨
      (T = "dict" ∧ ((∃ kvs, H p = some (.dK kvs)) ∨ ∃ kvs, H p = some (.dT kvs))) ∨ (T = "set" ∧ ∃ S n, H p = some (.set S n))
  | _ => False
theorem tyV_is {pins : List (Addr × Obj)} {σ : St} {H : Hp} {s : Shared} {T : String} {x : V} {v : Value} (I : Inv X pins σ H s) (r : RelV x v) (ty : tyV X.K T x H) :
    s.TypeIs v T ∧ ∀ a, v = .ref a → ∃ ob, s.heap.get? a = some ob ∧ ob.dict = none := by
  cases x with
  | str z =>
    obtain ⟨t, rfl⟩ := r
    cases (show T = "str" from ty)
    exact ⟨typeIs_str s z t, fun _ e => nomatch e⟩
  | int i =>
    obtain ⟨t, rfl⟩ := r
    cases (show T = "int" from ty)
    exact ⟨typeIs_int s i t, fun _ e => nomatch e⟩
  | ref p =>
    cases r
    rcases ty with ⟨rfl, xs, hq⟩ | ⟨rfl, o, hk, hc, hd⟩ | ⟨rfl, hk⟩ | ⟨rfl, S, n, hk⟩
    · obtain ⟨its, _, pl, _⟩ := I.list hq
      refine ⟨pl.isList.typeIs, fun a e => ?_⟩
      cases e
      obtain ⟨o, n, e, c, hd, _⟩ := pl
      exact ⟨o, e, hd⟩
    · refine ⟨⟨o, I.kIn p o hk, hc⟩, fun a e => ?_⟩
      cases e
      exact ⟨o, I.kIn _ o hk, hd⟩
    · have z : ∃ o, s.heap.get? p = some o ∧ o.ExactDict := by
        rcases hk with ⟨kvs, hk⟩ | ⟨kvs, hk⟩
        · obtain ⟨_, _, _, _, o, _, _, e, ex, _⟩ := I.hok p _ hk
          exact ⟨o, e, ex⟩
        · obtain ⟨_, _, _, _, o, _, _, e, ex, _⟩ := I.hok p _ hk
          exact ⟨o, e, ex⟩
      obtain ⟨o, e, ex⟩ := z
      refine ⟨⟨o, e, ex.1⟩, fun a e2 => ?_⟩
      cases e2
      exact ⟨o, e, ex.2.1⟩
    · obtain ⟨o, _, _, _, e, ex, _⟩ := I.hok p _ hk
      refine ⟨⟨o, e, ex.1⟩, fun a e2 => ?_⟩
      cases e2
      exact ⟨o, e, ex.2.1⟩
  | _ => exact False.elim ty
def tBM0 (K : PySem.W.Frag) (T : String) (r : V → List V → Hp → VK → Prop) (to : TE) : TE := fun σ H Q => to σ H fun x H1 => tyV K T x H1 ∧ r x [] H1 Q
def tBM (K : PySem.W.Frag) (T : String) (r : V → List V → Hp → VK → Prop) (to : TE) (t : TA) : TE := fun σ H Q => to σ H fun x H1 => tyV K T x H1 ∧ t σ H1 fun xs H2 => r x xs H2 Q
variable {o e : Expr} {es : List Expr} {to : TE} {t : TA} {name : Str} {apos cpos : Pos} {T id : String} {r : V → List V → Hp → VK → Prop}
theorem pe_bm0 (pa : PlainAttrs T) (slot : Slot T name id) (hty : typeOf (.builtin id) = pure (.type "method_descriptor")) (hm : MtR X id r) (ho : PE X o to)
    (hbase : attributeBase o name X.env (eval o X.env) = eval o X.env := by rfl) (hline : (apos.endLine == cpos.line) = true := by rfl) : PE X (.Call (.Attribute o name apos) [] [] cpos) (tBM0 X.K T r to) := by
  intro pins s σ H Q I h
  refine wpAny_Call_method0_late hbase hline (thn (ho pins s σ H _ I h) fun v s1 ⟨x, H1, I1, r1, ty, q1⟩ => ?_)
  obtain ⟨h1, h2⟩ := tyV_is I1 r1 ty
  exact ⟨T, id, pa, slot, hty, h1, h2, Calls.callWith_builtin rfl (PySem.evalArgs_none (hm pins s1 σ H1 x [] v [] Q I1 r1 .nil q1))⟩
theorem pe_bm (pa : PlainAttrs T) (slot : Slot T name id) (hty : typeOf (.builtin id) = pure (.type "method_descriptor")) (hm : MtR X id r) (ho : PE X o to) (ha : PA X (e :: es) t)
    (hbase : attributeBase o name X.env (eval o X.env) = eval o X.env := by rfl)
    (hfew : ((backTo cpos (starEach (e :: es) X.env)).all (fun x => !x.1) && (backToKw cpos (keywordEach [] X.env)).all (fun x => x.1.isSome)
      && decide ((e :: es).length + ([] : List Keyword).length + (if ([] : List Keyword).isEmpty then 0 else 1) < 30)) = true := by rfl)
    (hline : (apos.endLine == cpos.line) = true := by rfl) (hs : starEach (e :: es) X.env = (false, eval e X.env) :: starEach es X.env := by rfl) (hplain : (backTo cpos (starEach es X.env)).any (·.1) = false := by rfl) :
    PE X (.Call (.Attribute o name apos) (e :: es) [] cpos) (tBM X.K T r to t) := by
  intro pins s σ H Q I h
  refine wpAny_Call_method_late hbase hfew hline rfl (thn (ho pins s σ H _ I h) fun v s1 ⟨x, H1, I1, r1, ty, q1⟩ => ?_)
  obtain ⟨h1, h2⟩ := tyV_is I1 r1 ty
  refine ⟨T, id, pa, slot, hty, h1, h2, ?_⟩
  have hA := ha cpos pins s1 σ H1 _ I1 q1
  rw [hs] at hA ⊢
  refine Calls.callWith_builtin (by show (false || (backTo cpos (starEach es X.env)).any (·.1)) = false; rw [hplain] <;> rfl) (Calls.evalArgs_plain ?_)
  exact thn hA fun us s2 ⟨vs, H2, I2, r2, q2⟩ => hm pins s2 σ H2 x vs v us Q I2 r1 r2 q2
/- xs.append(e), list.index on a module's tuple .. are MtR facts of 06m -/
end
end L2

namespace L2
open PySem PySem.Spec PyProof.Rows

def MtM (X : Cx) (id : String) (r : V → List V → Hp → VK → Prop) : Prop :=
  ∀ (pins : List (Addr × Obj)) (s : Shared) (σ : St) (H : Hp) (x : V) (xs : List V) (v : Value) (us : List Value) (Q : VK), Inv X pins σ H s → RelV x v → Vals xs us → r x xs H Q →
    wpAny (model X.prog X.w) X.A (call (.builtin id) (v :: us)) (EP X pins σ Q) X.xe s

/-! ### lists of values -/
theorem Vals.one : ∀ {x : V} {us : List Value}, Vals [x] us → ∃ u, us = [u] ∧ RelV x u
  | _, _, .cons r .nil => ⟨_, rfl, r⟩
theorem Vals.two : ∀ {x y : V} {us : List Value}, Vals [x, y] us → ∃ u v, us = [u, v] ∧ RelV x u ∧ RelV y v
  | _, _, _, .cons r (.cons q .nil) => ⟨_, _, rfl, r, q⟩
theorem Vals.zero : ∀ {us : List Value}, Vals [] us → us = []
  | _, .nil => rfl
theorem Vals.eraseIdx : ∀ {xs : List V} {us : List Value} (i : Nat), Vals xs us → Vals (xs.eraseIdx i) (us.eraseIdx i)
  | _, _, _, .nil => .nil
  | _, _, 0, .cons _ t => t
  | _, _, i + 1, .cons r t => .cons r (Vals.eraseIdx i t)
theorem len_erase {α : Type} : ∀ (l : List α) (i : Nat), (l.eraseIdx i).length ≤ l.length
  | [], _ => Nat.le_refl _
  | _ :: _, 0 => Nat.le_succ _
  | _ :: r, i + 1 => Nat.succ_le_succ (len_erase r i)

section
variable {X : Cx} {pins : List (Addr × Obj)} {σ : St} {H : Hp} {s : Shared} {l b : Addr} {xs ys zs : List V}

/-! ### the two steps: a tracked list is rewritten, a new list is laid -/
theorem Inv.lset {its its' : List Value} {n : Nat} {f : Array Value → Array Value} {t' : Nat} (I : Inv X pins σ H s) (hH : H l = some (.lst xs))
    (e : s.heap.get? l = some { cls := .type "list", data := .seq its.toArray n }) (hf : f its.toArray = its'.toArray) (hv : Vals ys its') (hz : ys.length ≤ sizeLine) :
    Inv X pins σ (upd H l (.lst ys)) { s with heap := s.heap.update l (Obj.mapSeq f), toks := t' } := by
  have q := PySem.IsL.update e f
  rw [hf] at q
  refine I.write (x := l) (e := l) (by rw [hH]; exact trivial) (.inl rfl) (fun b' u hb hu => (Heap.get?_update_other s.heap (Obj.mapSeq f) (Ne.symm hb)).trans hu) ⟨_, q⟩ ?_
  exact ⟨hz, its', _, hv, q⟩
theorem Inv.lnew {its : List Value} {t' : Nat} (I : Inv X pins σ H s) (hv : Vals ys its) (hz : ys.length ≤ sizeLine) :
    Inv X pins σ (upd H s.heap.objs.size (.lst ys)) { s with heap := s.heap.push { cls := .type "list", data := .seq its.toArray }, toks := t' } :=
  I.laid (fun _ _ q => Heap.get?_push_of_some _ q) (Nat.le_refl _) ⟨hz, its, 0, hv, Heap.get?_push_size _ rfl⟩
theorem Inv.fresh (I : Inv X pins σ H s) : H s.heap.objs.size = none := I.hok.fresh (Nat.le_refl _)
theorem Inv.lstM (I : Inv X pins σ H s) (hH : H l = some (.lst xs)) : xs.length ≤ sizeLine ∧ ∃ (its : List Value) (n : Nat), Vals xs its ∧ xs.length = its.length ∧ s.heap.get? l = some { cls := .type "list", data := .seq its.toArray n } := by
  obtain ⟨z, its, n, r, e⟩ := I.hok l _ hH
  exact ⟨z, its, n, r, r.length, e⟩

theorem notLongL {n : Nat} (h : n ≤ sizeLine) : Builtin.List.listTooLong n = false := by
  unfold Builtin.List.listTooLong
  exact decide_eq_false (by omega)
end

section
variable {X : Cx}

/-! ### methods -/
def rAppend : V → List V → Hp → VK → Prop := fun x vs H Q => ∃ l xs y, x = .ref l ∧ vs = [y] ∧ H l = some (.lst xs) ∧ xs.length < sizeLine ∧ Q .non (upd H l (.lst (xs ++ [y])))
theorem mt_append : MtM X "list.append" rAppend := by
  intro pins s σ H x vs v us Q I rx rv h
  obtain ⟨l, xs, y, rfl, rfl, hH, hz, q⟩ := h
  cases rx
  obtain ⟨u, rfl, ru⟩ := rv.one
  obtain ⟨z, its, n, r, hl, e⟩ := I.lstM hH
  refine call_meets F.slot_list_append ⟨_, e, rfl⟩ F.entry_list_append (F.args_list_append_2 _ _) (PySem.list_append l its.toArray n u (by rw [List.size_toArray]; omega)) ⟨e, ?_⟩
  refine ⟨.non, _, I.lset (its' := its ++ [u]) hH e (by simp) (r.append (.cons ru .nil)) ?_, rfl, q⟩
  rw [List.length_append, List.length_singleton]
  omega

def rExtend : V → List V → Hp → VK → Prop := fun x vs H Q => ∃ l b xs zs, x = .ref l ∧ vs = [.ref b] ∧ H l = some (.lst xs) ∧ H b = some (.lst zs) ∧ xs.length + zs.length ≤ sizeLine ∧ Q .non (upd H l (.lst (xs ++ zs)))
theorem mt_extend : MtM X "list.extend" rExtend := by
  intro pins s σ H x vs v us Q I rx rv h
  obtain ⟨l, b, xs, zs, rfl, rfl, hH, hB, hz, q⟩ := h
  cases rx
  obtain ⟨u, rfl, ru⟩ := rv.one
  cases ru
  obtain ⟨z, its, n, r, hl, e⟩ := I.lstM hH
  obtain ⟨z2, its2, n2, r2, hl2, e2⟩ := I.lstM hB
  have hsz : its.toArray.size + its2.toArray.size ≤ sizeLine := by rw [List.size_toArray, List.size_toArray]; omega
  have hlong : ¬ (!its.toArray.isEmpty && Builtin.List.listTooLong (its.toArray.size + its2.toArray.size)) = true := by
    rw [notLongL hsz, Bool.and_false]
    exact Bool.false_ne_true
  refine call_meets F.slot_list_extend ⟨_, e, rfl⟩ F.entry_list_extend (F.args_list_extend_2 _ _)
    (AutoSeq1.list_extend_list_list_0 l its.toArray n b its2.toArray n2 hlong (by rw [List.size_toArray]; omega) (by omega)) ⟨e, e2, ?_⟩
  refine ⟨.non, _, I.lset (its' := its ++ its2) hH e (by simp) (r.append r2) ?_, rfl, q⟩
  rw [List.length_append]
  omega

def rPopAt : V → List V → Hp → VK → Prop := fun x vs H Q => ∃ l xs i k y, x = .ref l ∧ vs = [.int i] ∧ H l = some (.lst xs) ∧ -(2 ^ 63) ≤ i ∧ i < 2 ^ 63 ∧ seqIndex? i xs.length = some k ∧ xs[k]? = some y ∧ Q y (upd H l (.lst (xs.eraseIdx k)))
theorem mt_popAt : MtM X "list.pop" rPopAt := by
  intro pins s σ H x vs v us Q I rx rv h
  obtain ⟨l, xs, i, k, y, rfl, rfl, hH, h1, h2, hk, hy, q⟩ := h
  cases rx
  obtain ⟨u, rfl, ru⟩ := rv.one
  obtain ⟨t, rfl⟩ := ru
  obtain ⟨z, its, n, r, hl, e⟩ := I.lstM hH
  obtain ⟨w, hw, rw'⟩ := r.get hy
  refine call_meets F.slot_list_pop ⟨_, e, rfl⟩ F.entry_list_pop (F.args_list_pop_2 _ _)
    (MeetsSeq.list_pop_at l its.toArray n i t k w (fitsIndex_both h1 h2) (by rw [List.size_toArray, ← hl]; exact hk) (by rw [← Array.getElem?_toList]; exact hw) (by rw [List.size_toArray]; omega)) ⟨e, ?_⟩
  refine ⟨y, _, I.lset (its' := its.eraseIdx k) hH e ?_ (r.eraseIdx k) ?_, rw', q⟩
  · show its.toArray.eraseIdxIfInBounds k = (its.eraseIdx k).toArray
    rw [List.eraseIdxIfInBounds_toArray]
  · have := len_erase xs k
    omega

def rClear : V → List V → Hp → VK → Prop := fun x vs H Q => ∃ l xs, x = .ref l ∧ vs = [] ∧ H l = some (.lst xs) ∧ Q .non (upd H l (.lst []))
theorem mt_clear : MtM X "list.clear" rClear := by
  intro pins s σ H x vs v us Q I rx rv h
  obtain ⟨l, xs, rfl, rfl, hH, q⟩ := h
  cases rx
  have hus := rv.zero
  subst hus
  obtain ⟨z, its, n, r, hl, e⟩ := I.lstM hH
  refine call_meets F.slot_list_clear ⟨_, e, rfl⟩ F.entry_list_clear (F.args_list_clear_1 _) (AutoSeq1.list_clear_list_0 l its.toArray n (by rw [List.size_toArray]; omega)) ⟨e, ?_⟩
  exact ⟨.non, _, I.lset (its' := []) (ys := []) hH e rfl .nil (Nat.zero_le _), rfl, q⟩

/-! ### list + list, list += list, list * int -/
def rCat : R2 := fun x y H Q => ∃ l b xs zs, x = .ref l ∧ y = .ref b ∧ H l = some (.lst xs) ∧ H b = some (.lst zs) ∧ xs.length + zs.length ≤ sizeLine ∧ ∀ p, H p = none → Q (.ref p) (upd H p (.lst (xs ++ zs)))
theorem op_cat : OpR X (binaryOp .Add) rCat := by
  intro pins s σ H x y v u Q I rx ry h
  obtain ⟨l, b, xs, zs, rfl, rfl, hH, hB, hz, q⟩ := h
  cases rx
  cases ry
  obtain ⟨z, its, n, r, hl, e⟩ := I.lstM hH
  obtain ⟨z2, its2, n2, r2, hl2, e2⟩ := I.lstM hB
  refine PySem.P.add_list e e2 ?_ (by rw [List.size_toArray, List.size_toArray]; omega)
  have ea : its.toArray ++ its2.toArray = (its ++ its2).toArray := by simp
  rw [ea]
  exact ⟨.ref _, _, I.lnew (t' := s.toks) (r.append r2) (by rw [List.length_append]; omega), rfl, q _ I.fresh⟩

/-! ### del xs[i] -/
end

/-! ### xs[a:b] = ys -/
section
variable {prog : Program} {w : World} {A : Around} {E : Value → Shared → Prop} {s : Shared}
set_option maxRecDepth 100000 in
end

section
variable {X : Cx}
end
end L2

namespace L2
open PySem PySem.Spec PyProof.Rows

/-! ### the library's walks over a list of ints, kept objects alone -/
section
variable {prog : Program} {w : World} {A : Around} {E : Value → Shared → Prop} {s : Shared} {l : Addr} {its : List Value} {ns : List Int} {Q : Value → Shared → Prop}
end

/-! ### the calls, by values (CallR of 03t; MtR of 06l) -/
section
variable {X : Cx}

/-! sorted, sort (fewer than 64 items: the library's own bound) -/
end

/-! ### list.index, flat items -/
section
variable {X : Cx}
end

/-! ### type(x) of an own instance; is, is not of a module's class -/
section
variable {X : Cx}
end

/-! ### any(xs), all(xs) of a list of bools -/
section
variable {X : Cx}
end

/-! ### == and != of data at any depth: none, bools, ints, texts, lists, tuples -/
section
variable {X : Cx} {pins : List (Addr × Obj)} {σ : St} {H : Hp} {s : Shared}
end
section
variable {X : Cx}
end
end L2

namespace L2
open PySem PySem.Spec PyProof.Rows
abbrev CellAt (h : Heap) (c : Addr) (v : Option Value) : Prop := h.IsCell c v
def relS (scope sc : Scope) : Scope :=
  { scope with names := scope.names.map fun (n, k) => if (k == .free && sc.kind == .function && sc.names.lookup n == some .cell) then (n, .cell) else (n, k) }

def cloFrom (cells : List (Str × Addr)) : List (Str × NameKind) → List (Str × Addr) → List (Str × Addr)
  | [], acc => acc
  | (n, k) :: r, acc => if k == .free then cloFrom cells r ((n, (cells.lookup n).getD 0) :: acc) else cloFrom cells r acc

theorem closure_loop (env : Env) (f : Str × NameKind → List (Str × Addr) → Sem (ForInStep (List (Str × Addr))))
    (hf : ∀ n k c, f (n, k) c = if k == .free then (do let a ← cellOf env n; pure (.yield ((n, a) :: c))) else pure (.yield c)) :
    ∀ (names : List (Str × NameKind)) (acc : List (Str × Addr)), (∀ y ∈ names, y.2 = .free → ∃ c, env.cells.lookup y.1 = some c) → forIn names acc f = pure (cloFrom env.cells names acc)
  | [], acc, _ => by rw [List.forIn_nil]; rfl
  | (n, k) :: r, acc, h => by
    rw [List.forIn_cons, hf]
    have ih := fun acc => closure_loop env f hf r acc fun y hy => h y (List.mem_cons_of_mem _ hy)
    unfold cloFrom
    by_cases hk : (k == NameKind.free) = true
    · rw [if_pos hk, if_pos hk]
      obtain ⟨c, hc⟩ := h (n, k) List.mem_cons_self (by simpa using hk)
      have e : cellOf env n = pure c := by unfold cellOf; rw [hc]
      rw [e]
      have e2 : (env.cells.lookup n).getD 0 = c := by rw [hc]; rfl
      rw [e2]
      exact ih _
    · rw [if_neg hk, if_neg hk]
      exact ih _
theorem closure_ok {scope : Scope} {env : Env} (h : ∀ y ∈ scope.names, y.2 = .free → ∃ c, env.cells.lookup y.1 = some c) : closureFor scope env = pure (cloFrom env.cells scope.names []) := by
  simp only [closureFor]
  rw [closure_loop env _ (fun n k c => rfl) scope.names [] h]
  rfl

theorem mem_lookup {α : Type} : ∀ {l : List (Str × α)} {n : Str} {c : α}, (n, c) ∈ l → ∃ c', l.lookup n = some c'
  | (k, v) :: r, n, c, h => by
    rw [List.lookup_cons]
    cases hb : n == k with
    | true => exact ⟨_, rfl⟩
    | false =>
      rcases List.mem_cons.mp h with e | h
      · cases e; simp at hb
      · exact mem_lookup h

theorem cloFrom_mem {cells : List (Str × Addr)} : ∀ {names : List (Str × NameKind)} {acc : List (Str × Addr)} {n : Str} {c : Addr}, (n, c) ∈ cloFrom cells names acc → (n, c) ∈ acc ∨ ((n, .free) ∈ names ∧ c = (cells.lookup n).getD 0)
  | [], _, _, _, h => .inl h
  | (m, k) :: r, acc, n, c, h => by
    unfold cloFrom at h
    split at h
    · rename_i hk
      have hk : k = .free := by simpa using hk
      rcases cloFrom_mem h with h | ⟨h1, h2⟩
      · rcases List.mem_cons.mp h with e | h
        · cases e; exact .inr ⟨hk ▸ List.mem_cons_self, rfl⟩
        · exact .inl h
      · exact .inr ⟨List.mem_cons_of_mem _ h1, h2⟩
    · rcases cloFrom_mem h with h | ⟨h1, h2⟩
      · exact .inl h
      · exact .inr ⟨List.mem_cons_of_mem _ h1, h2⟩
theorem cloFrom_acc {cells : List (Str × Addr)} : ∀ {names : List (Str × NameKind)} {acc : List (Str × Addr)} {p : Str × Addr}, p ∈ acc → p ∈ cloFrom cells names acc
  | [], _, _, h => h
  | (m, k) :: r, acc, p, h => by
    unfold cloFrom
    split
    · exact cloFrom_acc (List.mem_cons_of_mem _ h)
    · exact cloFrom_acc h
theorem cloFrom_has {cells : List (Str × Addr)} : ∀ {names : List (Str × NameKind)} {acc : List (Str × Addr)} {n : Str}, (n, .free) ∈ names → (n, (cells.lookup n).getD 0) ∈ cloFrom cells names acc
  | (m, k) :: r, acc, n, h => by
    unfold cloFrom
    rcases List.mem_cons.mp h with e | h
    · cases e
      exact cloFrom_acc List.mem_cons_self
    · split
      · exact cloFrom_has h
      · exact cloFrom_has h

theorem cells_mem : ∀ {names : List (Str × NameKind)} {h : Heap} {acc : List (Str × Addr)} {x : Str} {c : Addr}, (x, c) ∈ cellsFrom h.objs.size names acc →
    (x, c) ∈ acc ∨ ((x, .cell) ∈ names ∧ h.objs.size ≤ c ∧ CellAt (pushCells h names) c none)
  | [], _, _, _, _, h => .inl h
  | (n, k) :: r, h, acc, x, c, hm => by
    unfold cellsFrom at hm
    unfold pushCells
    split at hm
    · rename_i hk
      rw [if_pos hk]
      have hk : k = .cell := by simpa using hk
      rw [← Heap.size_push h { cls := .type "cell", data := .cell none }] at hm
      rcases cells_mem hm with hm | ⟨h1, h2, h3⟩
      · rcases List.mem_cons.mp hm with e | hm
        · cases e
          exact .inr ⟨hk ▸ List.mem_cons_self, Nat.le_refl _, _, pushCells_keeps r _ _ _ (Heap.get?_push_size _ rfl), rfl⟩
        · exact .inl hm
      · rw [Heap.size_push] at h2
        exact .inr ⟨List.mem_cons_of_mem _ h1, Nat.le_of_succ_le h2, h3⟩
    · rename_i hk
      rw [if_neg hk]
      rcases cells_mem hm with hm | ⟨h1, h2, h3⟩
      · exact .inl hm
      · exact .inr ⟨List.mem_cons_of_mem _ h1, h2, h3⟩
theorem cells_acc : ∀ {names : List (Str × NameKind)} {n : Nat} {acc : List (Str × Addr)} {p : Str × Addr}, p ∈ acc → p ∈ cellsFrom n names acc
  | [], _, _, _, h => h
  | (m, k) :: r, n, acc, p, h => by
    unfold cellsFrom
    split
    · exact cells_acc (List.mem_cons_of_mem _ h)
    · exact cells_acc h
theorem cells_has : ∀ {names : List (Str × NameKind)} {n : Nat} {acc : List (Str × Addr)} {x : Str}, (x, .cell) ∈ names → ∃ c, (x, c) ∈ cellsFrom n names acc
  | (m, k) :: r, n, acc, x, h => by
    unfold cellsFrom
    rcases List.mem_cons.mp h with e | h
    · cases e
      exact ⟨n, cells_acc List.mem_cons_self⟩
    · split
      · exact cells_has h
      · exact cells_has h
theorem cells_inj : ∀ {names : List (Str × NameKind)} {h : Heap} {acc : List (Str × Addr)} {x y : Str} {c : Addr}, (∀ p ∈ acc, p.2 < h.objs.size) → (∀ x y c, (x, c) ∈ acc → (y, c) ∈ acc → x = y) →
    (x, c) ∈ cellsFrom h.objs.size names acc → (y, c) ∈ cellsFrom h.objs.size names acc → x = y
  | [], _, _, _, _, _, _, hi, h1, h2 => hi _ _ _ h1 h2
  | (n, k) :: r, h, acc, x, y, c, hl, hi, h1, h2 => by
    unfold cellsFrom at h1 h2
    split at h1
    · rename_i hk
      rw [if_pos hk] at h2
      rw [← Heap.size_push h { cls := .type "cell", data := .cell none }] at h1 h2
      refine cells_inj (h := h.push _) (fun p hp => ?_) (fun x y c a b => ?_) h1 h2
      · rw [Heap.size_push]
        rcases List.mem_cons.mp hp with rfl | hp
        · exact Nat.lt_succ_self _
        · exact Nat.lt_succ_of_lt (hl p hp)
      · rcases List.mem_cons.mp a with e | a <;> rcases List.mem_cons.mp b with e' | b
        · cases e; cases e'; rfl
        · cases e; exact absurd (hl _ b) (Nat.lt_irrefl _)
        · cases e'; exact absurd (hl _ a) (Nat.lt_irrefl _)
        · exact hi _ _ _ a b
    · rename_i hk
      rw [if_neg hk] at h2
      exact cells_inj hl hi h1 h2

theorem newEnv_comp {M : Model} {A : Around} {E : Value → Shared → Prop} {s : Shared} {scope : Scope} {globals : Addr} {closure : List (Str × Addr)} {qual : Str} {func : Option Addr} {code : Value} {around : Env} {builtins : Addr} {Q : Env → Shared → Prop}
    (h : Q (newEnv scope s.heap.objs.size globals (cellsFrom (s.heap.objs.size + 1) scope.names closure) qual func code (some around) builtins)
      { s with heap := pushCells (s.heap.push { cls := .type "dict", data := .dict #[] }) scope.names }) :
    wpAny M A (newFunctionEnv scope globals closure [] qual func code (some around) builtins) Q E s := by
  simp only [newFunctionEnv, Option.isSome_some, if_true]
  refine wpAny_bind (wpAny_alloc ?_)
  refine wpAny_bind (wpAny_layCells _ (fun n k c => rfl) scope.names closure _ _ ?_)
  rw [show ({ s with heap := s.heap.push { cls := .type "dict", data := .dict #[] } } : Shared).heap.objs.size = s.heap.objs.size + 1 from Heap.size_push ..]
  rw [List.forIn_nil]
  exact wpAny_bind (wpAny_pure (wpAny_pure h))

/-- every name of the written scope, in the scope that runs -/
theorem lookup_relS {sc : Scope} : ∀ {names : List (Str × NameKind)} {x : Str} {k : NameKind},
    (names.map fun (n, k) => if (k == NameKind.free && sc.kind == .function && sc.names.lookup n == some .cell) then (n, NameKind.cell) else (n, k)).lookup x = some k →
    ∃ k', names.lookup x = some k' ∧ (k = k' ∨ (k' = .free ∧ k = .cell))
  | [], _, _, h => by simp at h
  | (n, k₀) :: r, x, k, h => by
    have ih := @lookup_relS sc r x k
    have h' : List.lookup x ((if (k₀ == NameKind.free && sc.kind == .function && sc.names.lookup n == some .cell) = true then (n, NameKind.cell) else (n, k₀)) :: (r.map _)) = some k := h
    cases hx : x == n with
    | true =>
      simp only [List.lookup_cons, hx]
      by_cases hc : (k₀ == NameKind.free && sc.kind == .function && sc.names.lookup n == some .cell) = true
      · rw [if_pos hc] at h'
        simp only [List.lookup_cons, hx] at h'
        cases h'
        simp only [Bool.and_eq_true, beq_iff_eq] at hc
        exact ⟨k₀, rfl, .inr ⟨hc.1.1, rfl⟩⟩
      · rw [if_neg hc] at h'
        simp only [List.lookup_cons, hx] at h'
        cases h'
        exact ⟨_, rfl, .inl rfl⟩
    | false =>
      simp only [List.lookup_cons, hx]
      by_cases hc : (k₀ == NameKind.free && sc.kind == .function && sc.names.lookup n == some .cell) = true
      · rw [if_pos hc] at h'
        simp only [List.lookup_cons, hx] at h'
        exact ih h'
      · rw [if_neg hc] at h'
        simp only [List.lookup_cons, hx] at h'
        exact ih h'

/-- the names of a comprehension's block: its own (with their places in N), or captured -/
structure BlkOk (N : List Str) (sc scope : Scope) (own : List (Str × Nat)) : Prop where
  kind : scope.kind = .function
  uniq : ∀ y ∈ scope.names, scope.names.lookup y.1 = some y.2
  ix : ∀ p ∈ own, N[p.2]? = some p.1
  free : ∀ y ∈ scope.names, y.2 = .free → sc.names.lookup y.1 = some .cell ∨ sc.names.lookup y.1 = some .free
  own : ∀ y ∈ scope.names, y.2 = .local ∨ y.2 = .cell → y.1 ∈ own.map (·.1) ∨ y.1 ∉ N
/-- the slots of the block's own names forgotten -/
def wipe (σ : St) : List Nat → St
  | [] => σ
  | v :: vs => (wipe σ vs).set v none
theorem wipe_length (σ : St) : ∀ vs : List Nat, (wipe σ vs).length = σ.length
  | [] => rfl
  | v :: vs => by unfold wipe; rw [List.length_set, wipe_length σ vs]
theorem wipe_some {σ : St} {i : Nat} {x : V} : ∀ {vs : List Nat}, (wipe σ vs)[i]? = some (some x) → σ[i]? = some (some x) ∧ i ∉ vs
  | [], h => ⟨h, by simp⟩
  | v :: vs, h => by
    unfold wipe at h
    by_cases hi : v = i
    · subst hi
      by_cases hv : v < (wipe σ vs).length
      · rw [List.getElem?_set_self hv] at h; cases h
      · rw [List.getElem?_eq_none (by simpa using hv)] at h; cases h
    · rw [List.getElem?_set_ne hi] at h
      obtain ⟨h1, h2⟩ := wipe_some h
      exact ⟨h1, by simp only [List.mem_cons, not_or]; exact ⟨fun e => hi e.symm, h2⟩⟩

/-- the context of a block that starts at s, its iterator's objects at fp -/
abbrev Cx.blk (X : Cx) (s : Shared) (H : Hp) (scope : Scope) (cenv : Env) (fp : List Addr) : Cx := { X with s_0 := s, H_0 := H, env := cenv, outer := X.stack, ex := fp, fn := fun x => scope.names.lookup x == some .cell, pn := [], xe := fun _ _ => False }
section
variable {X : Cx} {pins : List (Addr × Obj)} {σ : St} {H : Hp} {s : Shared}
theorem block_start {scope : Scope} {own : List (Str × Nat)} {fp : List Addr} (I : Inv X pins σ H s) (ok : BlkOk X.N X.env.scope scope own) (hN : X.N.Nodup) (hfp : ∀ b ∈ fp, FpOk X pins H b ∧ b < s.heap.objs.size) :
    Inv (X.blk s H scope (compEnvC scope (cellsFrom (s.heap.objs.size + 1) scope.names (cloFrom X.env.cells scope.names [])) s.heap.objs.size X.env) fp) [] (wipe σ (own.map (·.2))) H { s with heap := pushCells (s.heap.push { cls := .type "dict", data := .dict #[] }) scope.names } := by
  have hfree : ∀ y ∈ scope.names, y.2 = .free → ∃ c, X.env.cells.lookup y.1 = some c := fun y hy e => by
    rcases ok.free y hy e with k | k
    · exact I.ok.has _ (.inl k)
    · exact I.ok.has _ (.inr k)
  generalize hcenv : compEnvC scope (cellsFrom (s.heap.objs.size + 1) scope.names (cloFrom X.env.cells scope.names [])) s.heap.objs.size X.env = cenv
  have kp : ∀ b o, s.heap.get? b = some o → (pushCells (s.heap.push { cls := .type "dict", data := .dict #[] }) scope.names).get? b = some o := fun b o e => pushCells_keeps _ _ _ _ (Heap.get?_push_of_some _ e)
  have hL : cenv.locals = s.heap.objs.size := by rw [← hcenv]; rfl
  have hcl : cenv.cells = cellsFrom (s.heap.objs.size + 1) scope.names (cloFrom X.env.cells scope.names []) := by rw [← hcenv]; rfl
  have hsc : cenv.scope = relS scope X.env.scope := by rw [← hcenv]; rfl
  rw [← Heap.size_push s.heap { cls := .type "dict", data := .dict #[] }] at hcl
  have cm : ∀ {y c}, (y, c) ∈ cloFrom X.env.cells scope.names [] → X.env.cells.lookup y = some c ∧ c < s.heap.objs.size := fun {y c} hm => by
    rcases cloFrom_mem hm with hm | ⟨h1, rfl⟩
    · cases hm
    · obtain ⟨c, hc⟩ := hfree _ h1 rfl
      rw [hc]
      obtain ⟨w, z⟩ := I.cell _ _ hc
      exact ⟨rfl, z.lt⟩
  have mem : ∀ {y c}, cenv.cells.lookup y = some c → (X.env.cells.lookup y = some c ∧ c < s.heap.objs.size) ∨ (s.heap.objs.size + 1 ≤ c ∧ CellAt (pushCells (s.heap.push { cls := .type "dict", data := .dict #[] }) scope.names) c none) := fun {y c} e => by
    rw [hcl] at e
    rcases cells_mem (PySem.mem_of_lookup e) with hm | ⟨_, h2, h3⟩
    · exact .inl (cm hm)
    · rw [Heap.size_push] at h2; exact .inr ⟨h2, h3⟩
  have look : ∀ {y}, scope.names.lookup y = some .free → ∃ c, cenv.cells.lookup y = some c ∧ X.env.cells.lookup y = some c := fun {y} hl => by
    have hy : (y, NameKind.free) ∈ scope.names := PySem.mem_of_lookup hl
    obtain ⟨c', e'⟩ := mem_lookup (cells_acc (names := scope.names) (n := (s.heap.push { cls := .type "dict", data := .dict #[] }).objs.size) (cloFrom_has (cells := X.env.cells) (acc := []) hy))
    rw [← hcl] at e'
    refine ⟨c', e', ?_⟩
    rw [hcl] at e'
    rcases cells_mem (PySem.mem_of_lookup e') with hm | ⟨h1, _, _⟩
    · exact (cm hm).1
    · have := ok.uniq _ h1
      rw [hl] at this; cases this
  have okB : (X.blk s H scope cenv fp).Ok := by
    refine ⟨I.ok.mod, by show cenv.scope.kind = _; rw [hsc]; exact ok.kind, by show cenv.globals = _; rw [← hcenv]; exact I.ok.glob, by show cenv.builtins = _; rw [← hcenv]; exact I.ok.blt, by show s.heap.objs.size ≤ cenv.locals; rw [hL]; exact Nat.le_refl _,
      fun y z c e1 e2 => ?_, fun y hy => ?_, fun y c z e => ?_, I.ok.hd, I.ok.frames, .inl rfl, fun b hb => ⟨?_, fun y c e z => ?_⟩, I.bs, Nat.le_trans I.ok.bsz I.sz, fun b o e hb => ?_, fun b hb z => ?_, I.stack, I.stkFree⟩
    · have e1 : cenv.cells.lookup y = some c := e1
      have e2 : cenv.cells.lookup z = some c := e2
      rw [hcl] at e1 e2
      refine cells_inj (fun p hp => ?_) (fun y z c a b => I.ok.inj y z c (cm a).1 (cm b).1) (PySem.mem_of_lookup e1) (PySem.mem_of_lookup e2)
      rw [Heap.size_push]
      exact Nat.lt_succ_of_lt (cm (y := p.1) (c := p.2) hp).2
    · show ∃ c, cenv.cells.lookup y = some c
      have key : ∀ k, cenv.kindOf y = some k → (k = .cell ∨ k = .free) → ∃ c, cenv.cells.lookup y = some c := fun k hk hk' => by
        unfold Env.kindOf at hk
        rw [hsc] at hk
        obtain ⟨k', e, r⟩ := lookup_relS hk
        have : k' = .cell ∨ k' = .free := by
          rcases r with rfl | ⟨rfl, _⟩
          · exact hk'
          · exact .inr rfl
        rcases this with rfl | rfl
        · obtain ⟨c, hm⟩ := cells_has (n := (s.heap.push { cls := .type "dict", data := .dict #[] }).objs.size) (acc := cloFrom X.env.cells scope.names []) (PySem.mem_of_lookup e)
          obtain ⟨c', e'⟩ := mem_lookup hm
          exact ⟨c', by rw [hcl]; exact e'⟩
        · obtain ⟨c, h1, _⟩ := look e
          exact ⟨c, h1⟩
      rcases hy with hy | hy
      · exact key _ hy (.inl rfl)
      · exact key _ hy (.inr rfl)
    · have z : (scope.names.lookup y == some NameKind.cell) = true := z
      have z : scope.names.lookup y = some .cell := by simpa using z
      have e : cenv.cells.lookup y = some c := e
      rw [hcl] at e
      rcases cells_mem (PySem.mem_of_lookup e) with hm | ⟨_, h2, _⟩
      · rcases cloFrom_mem hm with hm | ⟨h1, _⟩
        · cases hm
        · have q := ok.uniq _ h1
          rw [z] at q; cases q
      · rw [Heap.size_push] at h2
        exact Nat.le_of_succ_le h2
    · show b ≠ cenv.locals
      rw [hL]; exact Nat.ne_of_lt (hfp b hb).2
    · have e : cenv.cells.lookup y = some c := e
      rcases mem e with ⟨h1, _⟩ | ⟨h1, _⟩
      · exact (hfp b hb).1.2.2.2.2.1 y c h1 z
      · have h2 : s.heap.objs.size + 1 ≤ b := by rw [← z]; exact h1
        exact absurd (Nat.lt_of_lt_of_le (hfp b hb).2 (Nat.le_of_succ_le h2)) (Nat.lt_irrefl _)
    · rcases (hfp b hb).1.2.2.2.1 with z | z
      · exact I.ok.noex b o e z
      · exact absurd (Nat.lt_of_lt_of_le (Heap.lt_size e) (Nat.le_trans I.ok.bsz z)) (Nat.lt_irrefl _)
    · rcases List.mem_cons.mp (I.stkSub b z) with z | z
      · exact (hfp b hb).1.2.1 z
      · exact (hfp b hb).1.2.2.1 z
  refine ⟨okB, rfl, I.bare, Un.kept kp, ⟨fun _ => none, ?_, fun i y av e1 e2 e3 => ?_⟩, fun y c e => ?_, ?_, fun y c e => ?_, fun p hp => ?_, I.hok.kept kp, by rw [wipe_length]; exact I.len⟩
  · show Heap.Ns _ cenv.locals _
    rw [hL]
    exact Heap.Ns.keeps (Heap.Ns.new ..) fun b o e => pushCells_keeps _ _ _ _ e
  · obtain ⟨e2, hne⟩ := wipe_some e2
    have hfr : scope.names.lookup y = some .free ∧ (cenv.kindOf y = some .cell ∨ cenv.kindOf y = some .free) := by
      have key : ∀ k, cenv.scope.names.lookup y = some k → k = .local ∨ k = .cell ∨ k = .free → scope.names.lookup y = some .free ∧ (cenv.kindOf y = some .cell ∨ cenv.kindOf y = some .free) := fun k hk hk' => by
        have hk0 := hk
        rw [hsc] at hk
        obtain ⟨k', e, r⟩ := lookup_relS hk
        have no : ¬ (k' = .local ∨ k' = .cell) := fun hh => by
          rcases ok.own _ (PySem.mem_of_lookup e) hh with e' | e'
          · obtain ⟨p, hp, hpy⟩ := List.mem_map.mp e'
            have e3 := ok.ix p hp
            have : p.1 = y := hpy
            rw [this] at e3
            exact hne (List.mem_map.mpr ⟨p, hp, nodup_ix hN e3 e1⟩)
          · exact e' (List.mem_of_getElem? e1)
        rcases r with rfl | ⟨rfl, rfl⟩
        · rcases hk' with rfl | rfl | rfl
          · exact absurd (.inl rfl) no
          · exact absurd (.inr rfl) no
          · exact ⟨e, .inr hk0⟩
        · exact ⟨e, .inl hk0⟩
      have e3 : Vis cenv.scope y := e3
      rcases e3 with e3 | e3 | e3
      · exact key _ e3 (.inl rfl)
      · exact key _ e3 (.inr (.inl rfl))
      · exact key _ e3 (.inr (.inr rfl))
    obtain ⟨m, hn, hl⟩ := I.loc
    have hvis : Vis X.env.scope y := (ok.free _ (PySem.mem_of_lookup hfr.1) rfl).elim (fun k => .inr (.inl k)) (fun k => .inr (.inr k))
    obtain ⟨w, r, q⟩ := hl i y av e1 e2 hvis
    refine ⟨w, r, .inr ⟨hfr.2, ?_⟩⟩
    obtain ⟨c, h1, h2⟩ := look hfr.1
    rcases q with ⟨k, _⟩ | ⟨_, c', e', z⟩
    · have k : X.env.scope.names.lookup y = some .local := k
      rcases ok.free _ (PySem.mem_of_lookup hfr.1) rfl with k' | k' <;> rw [show X.env.scope.names.lookup y = _ from k'] at k <;> cases k
    · rw [h2] at e'; cases e'
      exact ⟨c, h1, z.keeps kp⟩
  · have e : cenv.cells.lookup y = some c := e
    rcases mem e with ⟨h1, _⟩ | ⟨_, z⟩
    · obtain ⟨w, z⟩ := I.cell y c h1
      exact ⟨w, z.keeps kp⟩
    · exact ⟨_, z⟩
  · show H cenv.locals = none
    rw [hL]; exact I.hok.fresh (Nat.le_refl _)
  · have e : cenv.cells.lookup y = some c := e
    rcases mem e with ⟨h1, _⟩ | ⟨h1, _⟩
    · exact I.freeC y c h1
    · exact I.hok.fresh (Nat.le_of_succ_le h1)
  · exact absurd (show p ∈ ([] : List (Addr × Obj)) ++ [] from hp) (by simp)

/-- an item appended to a tracked list -/
theorem app_ok {E : Value → Shared → Prop} {D : Addr} {xs : List V} {y : V} {v : Value} {Q : Value → Shared → Prop} (I : Inv X pins σ H s) (hD : H D = some (.lst xs)) (hz : xs.length < sizeLine) (r : RelV y v)
    (h : ∀ s', Inv X pins σ (upd H D (.lst (xs ++ [y]))) s' → Q .none s') : wpAny (model X.prog X.w) X.A (call (.builtin "list.append") [.ref D, v]) Q E s := by
  obtain ⟨hz', its, n, ri, e⟩ := I.hok D _ hD
  have hl := ri.length
  refine append_at (hsz := by rw [List.size_toArray]; omega) e fun h' sb ho' => ?_
  refine h { s with heap := h' } (I.write (t' := s.toks) (by rw [hD]; trivial) (.inl rfl) (fun b u hb q => (sb.2 b hb).trans q) ⟨_, ho'⟩ ⟨by rw [List.length_append]; exact hz, its ++ [v], n + 1, ri.append (.cons r .nil), ?_⟩)
  rw [ho']
  simp

/-- a clause's tests -/
def PTs (X : Cx) (ifs : List Expr) (t : TT) : Prop :=
  ∀ (pins : List (Addr × Obj)) (s : Shared) (σ : St) (H : Hp) (Q : Bool → Hp → Prop), Inv X pins σ H s → t σ H Q →
    wpAny (model X.prog X.w) X.A (forIn ifs true fun c r => if r = true then do let ok ← isTrue c X.env (eval c X.env); pure (ForInStep.yield ok) else pure (ForInStep.yield r)) (TP X pins σ Q) X.xe s
def tYes : TT := fun _ H Q => Q true H
theorem pts_nil : PTs X [] tYes := fun _ _ _ H _ I h => wpAny_tests_nil ⟨H, I, h⟩
theorem pts_one {c : Expr} {t : TT} (h : PT X c t) : PTs X [c] t := fun pins s σ H Q I hw => wpAny_tests_one (h pins s σ H Q I hw)
end

theorem thnF {α : Type} {t : Sem α} {Q Q' : α → Shared → Prop} {M : Model} {A : Around} {E : Value → Shared → Prop} {s : Shared} (h : wpAny M A t Q (fun _ _ => False) s) (hQ : ∀ a s, Q a s → Q' a s) : wpAny M A t Q' E s := wpAny_mono h hQ fun _ _ z => False.elim z

/-- the loop of a list comprehension's block, the target of any form (codeAny_compLoop_tests asks a target that no tuple goes to; statement and proof follow it, PyProof/CompMap.lean:41-61, with the step letOwnedTupleGo kept) -/
theorem compLoop_any {prog : Program} {w : World} {A : Around} {R : Result → Shared → Prop} {s : Shared} {elt target iter : Expr} {ifs : List Expr} {scope : Scope} {pos : Pos} {it acc : Value} {env : Env} (I : Nat → Shared → Prop)
    (turn : ∀ n s, I n s → wpAny (model prog w) A (pyNext it) (fun r s₁ => match r with
      | none => R (.ok .next) s₁
      | some v => wpAny (model prog w) A (letOwnedTupleGo target it v) (fun _ s₁' => wpAny (model prog w) A (assign target env v) (fun _ s₂ =>
          wpAny (model prog w) A (forIn ifs true fun c r => if r = true then do let ok ← isTrue c env (eval c env); pure (ForInStep.yield ok) else pure (ForInStep.yield r)) (fun ok s₃ =>
            if ok = true then wpAny (model prog w) A (eval elt env) (fun x s₄ =>
              wpAny (model prog w) A (call (.builtin "list.append") [acc, x]) (fun _ s₅ => ∃ m, m < n ∧ I m s₅) (notedBy (model prog w) A env fun e s' => R (.error e) s') s₄) (notedBy (model prog w) A env fun e s' => R (.error e) s') s₃
            else ∃ m, m < n ∧ I m s₃) (notedBy (model prog w) A env fun e s' => R (.error e) s') s₂) (notedBy (model prog w) A env fun e s' => R (.error e) s') s₁') (notedBy (model prog w) A env fun e s' => R (.error e) s') s₁) (notedBy (model prog w) A env fun e s' => R (.error e) s') s)
    (n : Nat) (h : I n s) :
    codeAny (model prog w) A (.compLoop (.ListComp elt [⟨target, iter, ifs, 0⟩] scope pos) 0 it acc env) R s := by
  refine codeAny_loop rfl I (fun n s hI => ?_) n h
  show wpAny _ A ((compTurn (.ListComp elt [⟨target, iter, ifs, 0⟩] scope pos) 0 it acc env).onRaise (fun x => do noteFrame x env; theTreesLotGoes x)) _ _ s
  refine wpAny_noted ?_
  rw [compTurn_list]
  refine wpAny_bind (wpAny_standAt (wpAny_bind (wpAny_mono (turn n s hI) (fun r s₁ h₁ => ?_) fun _ _ h' => h')))
  cases r with
  | none => exact wpAny_pure h₁
  | some v =>
    refine wpAny_bind (wpAny_mono h₁ (fun _ s₁' h₁' => ?_) fun _ _ h' => h')
    refine wpAny_bind (wpAny_mono h₁' (fun _ s₂ h₂ => wpAny_bind (wpAny_mono h₂ (fun ok s₃ h₃ => ?_) fun _ _ h' => h')) fun _ _ h' => h')
    cases ok with
    | false => exact wpAny_pure ⟨rfl, h₃⟩
    | true =>
      exact wpAny_bind (wpAny_bind (wpAny_mono h₃ (fun x s₄ h₄ => wpAny_bind (wpAny_mono h₄ (fun _ s₅ h₅ => wpAny_pure (wpAny_pure ⟨rfl, h₅⟩)) fun _ _ h' => h')) fun _ _ h' => h'))

section
variable {X : Cx}
/-- [elt for target in iter if ..]: D the new list; W by the turn and a measure, Nx what a turn is to reach -/
def tLc (wi : TI) (g : TG) (tt : TT) (te : TE) (vs : List Nat) : TE := fun σ H Q => wi σ H fun J H1 => ∀ D, H1 D = none → ∃ W : Nat → Nat → Hp → Prop, (∃ m, W 0 m (upd H1 D (.lst []))) ∧ ∀ i m H, W i m H →
  (J.stop i H ∧ Q (.ref D) H) ∨ (J.go i H ∧ ∃ Nx : Hp → Prop, (∀ H', Nx H' → ∃ m', m' < m ∧ W (i + 1) m' H') ∧ ∀ x H', J.yld i H x H' → g x (wipe σ vs) H' fun σ2 H2 => wipe σ2 vs = wipe σ vs ∧ tt σ2 H2 fun b H3 =>
    if b = true then te σ2 H3 fun y H4 => ∃ acc, H4 D = some (.lst acc) ∧ acc.length < sizeLine ∧ Nx (upd H4 D (.lst (acc ++ [y]))) else Nx H3)
theorem lc_core {pins : List (Addr × Obj)} {s : Shared} {σ : St} {H : Hp} {Q : VK} {elt tg iter : Expr} {ifs : List Expr} {scope : Scope} {own : List (Str × Nat)} {pos pos' : Pos} {wi : TI} {g : TG} {tt : TT} {te : TE} {use : Option (Value → Sem Unit)} {Qf : Value → Shared → Prop}
    (hc : X.calm = true) (hN : X.N.Nodup) (I : Inv X pins σ H s) (hi : PI X tg iter wi) (ok : BlkOk X.N X.env.scope scope own)
    (hg : ∀ (s : Shared) (H : Hp) (C : Addr) (cl : List (Str × Addr)) (fp : List Addr), PG (X.blk s H scope (compEnvC scope cl C X.env) fp) tg g) (ht : ∀ (s : Shared) (H : Hp) (C : Addr) (cl : List (Str × Addr)) (fp : List Addr), PTs (X.blk s H scope (compEnvC scope cl C X.env) fp) ifs tt)
    (he : ∀ (s : Shared) (H : Hp) (C : Addr) (cl : List (Str × Addr)) (fp : List Addr), PE (X.blk s H scope (compEnvC scope cl C X.env) fp) elt te) (hs : ∀ x, foldedSetIterable iter X.env x = pure x)
    (h : tLc wi g tt te (own.map (·.2)) σ H Q)
    (hRR : ∀ D C s' m H', Inv X pins σ H' s' → Q (.ref D) H' → s'.heap.Ns C m → FpOk X pins H' C → compPost (model X.prog X.w) X.A X.xe use Qf (.ref D) C (.ok .next) s') :
    wpAny (model X.prog X.w) X.A (comprehension (.ListComp elt [⟨tg, iter, ifs, 0⟩] scope pos) scope X.env pos' (newList []) false (eval iter X.env) use) Qf X.xe s := by
  have hfree : ∀ y ∈ scope.names, y.2 = .free → ∃ c, X.env.cells.lookup y.1 = some c := fun y hy e => by
    rcases ok.free y hy e with k | k
    · exact I.ok.has _ (.inl k)
    · exact I.ok.has _ (.inr k)
  refine wpAny_comprehension_free (use := use) rfl hs (closure_ok hfree) ok.kind (fun y hy e => by rw [ok.uniq y hy, e])
    (thn (hi pins s σ H _ I h) fun xv s1 hx => thn hx fun itv s2 h2 => ?_)
  obtain ⟨it, fp, tn, J, H2, e, I2, T, st2, f2, q⟩ := h2
  subst e
  refine wpAny_newObj_type (newEnv_comp ?_) (by show 0 ≤ sizeLine; decide)
  generalize hD : s2.heap.objs.size = D
  have hDn : H2 D = none := I2.hok.fresh (Nat.le_of_eq hD)
  obtain ⟨W, ⟨m0, w0⟩, turn⟩ := q D hDn
  -- the new list
  generalize hs3 : ({ s2 with heap := s2.heap.push { cls := .type "list", data := .seq ([] : List Value).toArray } } : Shared) = s3
  have I3 : Inv X pins σ (upd H2 D (.lst [])) s3 := by
    rw [← hs3]
    refine I2.laid (t' := s2.toks) (fun b o e => Heap.get?_push_of_some _ e) (Nat.le_of_eq hD) ⟨Nat.zero_le _, [], 0, .nil, ?_⟩
    rw [← hD]
    exact Heap.get?_push_size _ rfl
  have h3 : s3.heap = s2.heap.push { cls := .type "list", data := .seq ([] : List Value).toArray } := by rw [← hs3]
  have sz : ∀ b ∈ fp, b < s2.heap.objs.size := fun b hb => by
    obtain ⟨o, e, _⟩ := T.obj _ _ st2 b hb
    exact Heap.lt_size e
  have f3 : ∀ b ∈ fp, FpOk X pins (upd H2 D (.lst [])) b ∧ b < s3.heap.objs.size := fun b hb => by
    have hlt := sz b hb
    refine ⟨⟨?_, (f2 b hb).2⟩, by rw [h3, Heap.size_push]; exact Nat.lt_succ_of_lt hlt⟩
    rw [upd_ne (by rw [← hD]; exact Nat.ne_of_lt hlt)]
    exact (f2 b hb).1
  have st3 : tn 0 s3.heap := T.keep _ _ _ st2 fun b _ o e => by rw [h3]; exact Heap.get?_push_of_some _ e
  have I4 := block_start I3 ok hN f3
  have pg := hg s3 (upd H2 D (.lst [])) s3.heap.objs.size (cellsFrom (s3.heap.objs.size + 1) scope.names (cloFrom X.env.cells scope.names [])) fp
  have pt := ht s3 (upd H2 D (.lst [])) s3.heap.objs.size (cellsFrom (s3.heap.objs.size + 1) scope.names (cloFrom X.env.cells scope.names [])) fp
  have pe := he s3 (upd H2 D (.lst [])) s3.heap.objs.size (cellsFrom (s3.heap.objs.size + 1) scope.names (cloFrom X.env.cells scope.names [])) fp
  show codeAny _ _ (.compStart (.ListComp elt [⟨tg, iter, ifs, 0⟩] scope pos) 0 (.ref it) (.ref D) (compEnvC scope (cellsFrom (s3.heap.objs.size + 1) scope.names (cloFrom X.env.cells scope.names [])) s3.heap.objs.size X.env)) (compPost (model X.prog X.w) X.A X.xe use Qf (.ref D) s3.heap.objs.size) { s3 with heap := pushCells (s3.heap.push { cls := .type "dict", data := .dict #[] }) scope.names }
  have nfp : ∀ b ∈ fp, (upd H2 D (.lst [])) b = none := fun b hb => (f3 b hb).1.1
  generalize hce : compEnvC scope (cellsFrom (s3.heap.objs.size + 1) scope.names (cloFrom X.env.cells scope.names [])) s3.heap.objs.size X.env = ce at I4 pg pt pe ⊢
  have cL : ce.locals = s3.heap.objs.size := by subst hce; rfl
  generalize hH3 : upd H2 D (.lst []) = H3 at I3 I4 pg pt pe w0 nfp f3
  generalize hs4 : ({ s3 with heap := pushCells (s3.heap.push { cls := .type "dict", data := .dict #[] }) scope.names } : Shared) = s4 at I4 ⊢
  have st4 : tn 0 s4.heap := T.keep _ _ _ st3 fun b _ o e => by rw [← hs4]; exact pushCells_keeps _ _ _ _ (Heap.get?_push_of_some _ e)
  have stat : ∀ {σ' : St} {H' : Hp} {s' : Shared}, Inv (X.blk s3 H3 scope ce fp) [] σ' H' s' → (∀ b ∈ fp, H' b = none) → ∀ b ∈ fp, FpOk (X.blk s3 H3 scope ce fp) [] H' b := fun {σ' H' s'} I' hn b hb =>
    ⟨hn b hb, (I'.ok.exf b hb).1, I'.ok.exfs b hb, .inl hb, fun x c e => (I'.ok.exf b hb).2 x c e, fun p hp => absurd (show p ∈ ([] : List (Addr × Obj)) ++ [] from hp) (by simp)⟩
  have loop : codeAny (model X.prog X.w) X.A (.compLoop (.ListComp elt [⟨tg, iter, ifs, 0⟩] scope pos) 0 (.ref it) (.ref D) ce) (compPost (model X.prog X.w) X.A X.xe use Qf (.ref D) s3.heap.objs.size) s4 := by
    refine compLoop_any (fun n s' => ∃ i H', Inv (X.blk s3 H3 scope ce fp) [] (wipe σ (own.map (·.2))) H' s' ∧ tn i s'.heap ∧ (∀ b ∈ fp, H' b = none) ∧ W i n H') ?_ m0 ⟨0, H3, I4, st4, nfp, w0⟩
    rintro n s5 ⟨i, H5, I5, st5, n5, w5⟩
    rcases turn i n H5 w5 with ⟨stop, qq⟩ | ⟨go, Nx, hNx, step⟩
    · have td := T.done (X.blk s3 H3 scope ce fp) rfl rfl rfl hc i [] s5 _ H5 (fun _ _ => False) I5 (stat I5 n5) st5 stop
      refine thnF td fun r s6 ⟨hr, I6⟩ => ?_
      subst hr
      -- back in the def's context
      have I7 : Inv X pins σ H5 s6 := I3.call' (ch := fp) I6.os I6.base I6.hok I6.bare fun b hb => ⟨(f3 b hb).1.2.2.2.1, (f3 b hb).1.2.1, (f3 b hb).1.2.2.2.2.1, (f3 b hb).1.2.2.2.2.2⟩
      have nC : H5 s3.heap.objs.size = none := by
        have z : H5 ce.locals = none := I6.free
        rw [cL] at z
        exact z
      obtain ⟨m, hn, _⟩ := I6.loc
      have hn : s6.heap.Ns ce.locals m := hn
      rw [cL] at hn
      exact hRR D s3.heap.objs.size s6 m H5 I7 qq hn (I3.fpOk (Nat.le_refl _) nC)
    · have ti := T.item (X.blk s3 H3 scope ce fp) rfl rfl rfl hc i [] s5 _ H5 (fun _ _ => False) I5 (stat I5 n5) st5 go
      refine thnF ti fun r s6 ⟨u, hr, h6⟩ => ?_
      subst hr
      refine thnF h6 fun _ s7 ⟨x, H7, I7, r7, y7, st7, n7⟩ => ?_
      have I7' := I7.pinned (stat I7 n7) (T.obj _ _ st7)
      refine thnF (pg _ s7 _ H7 x u _ I7' r7 (step x H7 y7)) fun _ s8 ⟨σ8, H8, I8, hw8, q8⟩ => ?_
      refine thnF (pt _ s8 σ8 H8 _ I8 q8) fun b s9 ⟨H9, I9, q9⟩ => ?_
      -- the turn's end
      have fin : ∀ {s' : Shared} {H' : Hp}, Inv (X.blk s3 H3 scope ce fp) ([] ++ pinsAt fp s7.heap) σ8 H' s' → Nx H' → ∃ m, m < n ∧ ∃ i H', Inv (X.blk s3 H3 scope ce fp) [] (wipe σ (own.map (·.2))) H' s' ∧ tn i s'.heap ∧ (∀ b ∈ fp, H' b = none) ∧ W i m H' := fun {s' H'} I' nx => by
        obtain ⟨m', hm, w'⟩ := hNx H' nx
        have pin' : ∀ b ∈ fp, ∀ o, s7.heap.get? b = some o → s'.heap.get? b = some o ∧ H' b = none := fun b hb o e =>
          let z := I'.pin (b, o) (List.mem_append_right _ (List.mem_append_right _ (mem_pinsAt hb e)))
          ⟨z.1, z.2.1⟩
        have hl : (wipe σ (own.map (·.2))).length = σ8.length := by rw [← hw8, wipe_length]
        refine ⟨m', hm, i + 1, H', (I'.unpinned (pins := [])).weak hl (fun j v e => ?_), T.keep _ _ _ st7 fun b hb o e => (pin' b hb o e).1, fun b hb => ?_, w'⟩
        · rw [← hw8] at e
          exact (wipe_some e).1
        · obtain ⟨o, e, _⟩ := T.obj _ _ st7 b hb
          exact (pin' b hb o e).2
      cases b with
      | false =>
        simp only [Bool.false_eq_true, if_false] at q9 ⊢
        exact fin I9 q9
      | true =>
        simp only [if_true] at q9 ⊢
        refine thnF (pe _ s9 σ8 H9 _ I9 q9) fun z s10 ⟨yv, H10, I10, r10, acc, hD10, hz10, nx⟩ => ?_
        exact app_ok (X := X.blk s3 H3 scope ce fp) I10 hD10 hz10 r10 fun s11 I11 => fin I11 nx
  exact codeAny_compStart_list loop (T.self X.A 0 _ _ _ st4 loop)
/-- as a value -/
theorem pe_lc {elt tg iter : Expr} {ifs : List Expr} {scope : Scope} {own : List (Str × Nat)} {pos : Pos} {wi : TI} {g : TG} {tt : TT} {te : TE} (hc : X.calm = true) (hN : X.N.Nodup) (hi : PI X tg iter wi) (ok : BlkOk X.N X.env.scope scope own)
    (hg : ∀ (s : Shared) (H : Hp) (C : Addr) (cl : List (Str × Addr)) (fp : List Addr), PG (X.blk s H scope (compEnvC scope cl C X.env) fp) tg g) (ht : ∀ (s : Shared) (H : Hp) (C : Addr) (cl : List (Str × Addr)) (fp : List Addr), PTs (X.blk s H scope (compEnvC scope cl C X.env) fp) ifs tt)
    (he : ∀ (s : Shared) (H : Hp) (C : Addr) (cl : List (Str × Addr)) (fp : List Addr), PE (X.blk s H scope (compEnvC scope cl C X.env) fp) elt te) (hs : ∀ x, foldedSetIterable iter X.env x = pure x := by intro _; rfl) :
    PE X (.ListComp elt [⟨tg, iter, ifs, 0⟩] scope pos) (tLc wi g tt te (own.map (·.2))) := by
  intro pins s σ H Q I h
  rw [eval_ListComp]
  refine lc_core hc hN I hi ok hg ht he hs h fun D C s' m H' I' q hn f => ⟨m, hn, fun h'' sb => ?_⟩
  obtain ⟨f0, f1, f2, f3, f4, f5⟩ := f
  exact ⟨.ref D, H', I'.turned (t' := s'.toks) (fun b o hb e => (sb.2 b hb).trans e) f0 f1 f3 f4 f5, rfl, q⟩
/-- name = [..] on one line, the name a local -/
theorem ps_setLc {i : Nat} {y : Str} {py : Pos} {elt tg iter : Expr} {ifs : List Expr} {scope : Scope} {own : List (Str × Nat)} {pos spos : Pos} {wi : TI} {g : TG} {tt : TT} {te : TE} (hc : X.calm = true) (hN : X.N.Nodup) (hy : X.N[i]? = some y) (hyl : X.env.scope.names.lookup y = some .local)
    (hsw : swapsWith (.ListComp elt [⟨tg, iter, ifs, 0⟩] scope pos) (some (.Name y py)) spos.line X.env = pure true) (hi : PI X tg iter wi) (ok : BlkOk X.N X.env.scope scope own)
    (hg : ∀ (s : Shared) (H : Hp) (C : Addr) (cl : List (Str × Addr)) (fp : List Addr), PG (X.blk s H scope (compEnvC scope cl C X.env) fp) tg g) (ht : ∀ (s : Shared) (H : Hp) (C : Addr) (cl : List (Str × Addr)) (fp : List Addr), PTs (X.blk s H scope (compEnvC scope cl C X.env) fp) ifs tt)
    (he : ∀ (s : Shared) (H : Hp) (C : Addr) (cl : List (Str × Addr)) (fp : List Addr), PE (X.blk s H scope (compEnvC scope cl C X.env) fp) elt te) (hs : ∀ x, foldedSetIterable iter X.env x = pure x := by intro _; rfl) :
    PS X (.Assign [.Name y py] (.ListComp elt [⟨tg, iter, ifs, 0⟩] scope pos) spos) (tAsg (tLc wi g tt te (own.map (·.2))) (gName i)) := by
  intro pins s σ H D I h
  rw [exec_Assign_Name_used _ _ _ _ hsw]
  refine wpAny_bind (wpAny_standAt (wpAny_bind ?_))
  show wpAny _ X.A (do let _ ← comprehension (.ListComp elt [⟨tg, iter, ifs, 0⟩] scope pos) scope X.env (firstIterPos [⟨tg, iter, ifs, 0⟩] pos) (newList []) false (eval iter X.env) (some (assign (.Name y py) X.env))) _ _ s
  have h : tLc wi g tt te (own.map (·.2)) σ H (fun x H1 => gName i x σ H1 D.nx) := h
  refine wpAny_bind (thn (lc_core (Qf := fun _ s' => SP X pins D .next s') hc hN I hi ok hg ht he hs h fun L C s' m H' I' q hn f => ?_) fun _ s' hq => wpAny_pure (wpAny_pure hq))
  show wpAny _ _ (assign (.Name y py) X.env (.ref L)) _ _ _
  refine wpAny_assign_Name (store_ok2 (v := V.ref L) I' hN hy (.inl hyl) rfl (fun s2 I2 ⟨a, sb, ha⟩ => ?_) (.inr hyl))
  obtain ⟨f0, f1, f2, f3, f4, f5⟩ := f
  have haC : C ≠ a := by
    rcases ha with z | z
    · rw [z]; exact f1
    · exact fun e => f4 y a z e.symm
  refine ⟨m, hn.sameBut sb haC, fun h3 sb3 => ?_⟩
  exact ⟨_, H', I2.turned (t' := s2.toks) (fun b o hb e => (sb3.2 b hb).trans e) f0 f1 f3 f4 f5, q⟩
theorem sw_true {elt : Expr} {gs : List Comprehension} {scope : Scope} {pos py : Pos} {y : Str} {l : Nat} {env : Env} (hk : env.scope.kind = .function) (hy : env.scope.names.lookup y = some .local) (hl : (py.line == pos.line) = true)
    (ha : (scope.names.any fun (n, k) => n == y && (k == .local || k == .cell)) = false) : swapsWith (.ListComp elt gs scope pos) (some (.Name y py)) l env = pure true := by
  have ky : env.kindOf y = some .local := hy
  have hb : env.blockKind = .function := by unfold Env.blockKind; rw [hk]; rfl
  unfold swapsWith
  simp only [hb, ky, ha, Expr.pos, hl]
  rfl
end

/-! ### the forms one uses -/
/-- over a list that the block leaves as it is -/
theorem lc_list {K : PySem.W.Frag} {a : Addr} {xs : List V} {g : TG} {tt : TT} {te : TE} {vs : List Nat} {σ : St} {H1 : Hp} {D : Addr} {Qd : Hp → Prop} (Pv : Nat → Hp → Prop) (h0 : Pv 0 (upd H1 D (.lst []))) (hl : ∀ i H, i ≤ xs.length → Pv i H → SqL K H a xs)
    (hs : ∀ i x H, xs[i]? = some x → Pv i H → g x (wipe σ vs) H fun σ2 H2 => wipe σ2 vs = wipe σ vs ∧ tt σ2 H2 fun b H3 =>
      if b = true then te σ2 H3 fun y H4 => ∃ acc, H4 D = some (.lst acc) ∧ acc.length < sizeLine ∧ Pv (i + 1) (upd H4 D (.lst (acc ++ [y]))) else Pv (i + 1) H3) (hd : ∀ H, Pv xs.length H → Qd H) :
    ∃ W : Nat → Nat → Hp → Prop, (∃ m, W 0 m (upd H1 D (.lst []))) ∧ ∀ i m H, W i m H →
      ((Itl K a).stop i H ∧ Qd H) ∨ ((Itl K a).go i H ∧ ∃ Nx : Hp → Prop, (∀ H', Nx H' → ∃ m', m' < m ∧ W (i + 1) m' H') ∧ ∀ x H', (Itl K a).yld i H x H' → g x (wipe σ vs) H' fun σ2 H2 => wipe σ2 vs = wipe σ vs ∧ tt σ2 H2 fun b H3 =>
        if b = true then te σ2 H3 fun y H4 => ∃ acc, H4 D = some (.lst acc) ∧ acc.length < sizeLine ∧ Nx (upd H4 D (.lst (acc ++ [y]))) else Nx H3) := by
  refine ⟨fun i m H => m = xs.length - i ∧ i ≤ xs.length ∧ Pv i H, ⟨xs.length, by simp, Nat.zero_le _, h0⟩, ?_⟩
  rintro i m H ⟨rfl, hi, p⟩
  have q := hl i H hi p
  by_cases hlt : i < xs.length
  · refine .inr ⟨⟨xs, xs[i], q, by simp [hlt]⟩, Pv (i + 1), fun H' p' => ⟨xs.length - (i + 1), by omega, rfl, hlt, p'⟩, fun x H' y => ?_⟩
    obtain ⟨e, y⟩ := y
    subst e
    exact hs i x _ (y xs q) p
  · have e : i = xs.length := by omega
    subst e
    exact .inl ⟨⟨xs, q, Nat.le_refl _⟩, hd H p⟩
def blkC (N : List Str) (sc scope : Scope) (own : List (Str × Nat)) : Bool :=
  (match scope.kind with | .function => true | _ => false) && (scope.names.all fun y => decide (scope.names.lookup y.1 = some y.2)) && (own.all fun p => decide (N[p.2]? = some p.1)) &&
    (scope.names.all fun y => match y.2 with
      | .free => (match sc.names.lookup y.1 with | some .cell => true | some .free => true | _ => false)
      | .local => decide (y.1 ∈ own.map (·.1)) || decide (y.1 ∉ N)
      | .cell => decide (y.1 ∈ own.map (·.1)) || decide (y.1 ∉ N)
      | _ => true)
theorem blkOk_by {N : List Str} {sc scope : Scope} {own : List (Str × Nat)} (h : blkC N sc scope own = true) : BlkOk N sc scope own := by
  unfold blkC at h
  simp only [Bool.and_eq_true, List.all_eq_true, decide_eq_true_eq] at h
  obtain ⟨⟨⟨h1, h2⟩, h3⟩, h4⟩ := h
  refine ⟨?_, h2, h3, fun y hy e => ?_, fun y hy e => ?_⟩
  · split at h1
    · assumption
    · cases h1
  · have q := h4 y hy
    simp only [e] at q
    split at q <;> first | exact .inl (by assumption) | exact .inr (by assumption) | cases q
  · have q := h4 y hy
    rcases e with e | e <;> (simp only [e, Bool.or_eq_true, decide_eq_true_eq] at q; exact q)
end L2

namespace L2
open PySem PySem.Spec PyProof.Rows

section
variable {prog : Program} {w : World} {A : Around} {R : Result → Shared → Prop} {s : Shared} {elt t0 i0 t1 i1 : Expr} {ifs0 ifs1 : List Expr} {scope : Scope} {pos : Pos} {it acc : Value} {env : Env}
end

section
variable {X : Cx}
end
end L2

namespace L2
open PySem PySem.Spec PyProof.Rows

/-! ### lists of pairs as tables -/
section
variable {κ : Type} [DecidableEq κ]

end

/-! ### a tracked dict, its keys ints and texts or tuples of these -/

section
variable {P : Program} {w : World} {H : Hp} {h : Heap} {a : Addr}
end

section
variable {X : Cx} {pins : List (Addr × Obj)} {σ : St} {H : Hp} {s : Shared} {a : Addr} {y v : V} {u r : Value} {o : Option V} {A : Around} {E : Value → Shared → Prop}

end

section
variable {X : Cx} {pins : List (Addr × Obj)} {σ : St} {H : Hp} {s : Shared} {a : Addr} {kvs : List (Key × V)} {k : Key} {u : Value} {A : Around} {E : Value → Shared → Prop}
end

/-! ### readings and rules -/

section
variable {X : Cx} {o i e value : Expr} {pos pos' tpos : Pos} {td ty tv : TE}
end

/-! ### displays -/
section
variable {X : Cx} {pos : Pos}
end

/-! ### methods -/

section
variable {X : Cx} {pins : List (Addr × Obj)} {σ : St} {H : Hp} {s : Shared} {a : Addr} {y d : V} {u r : Value} {o : Option V} {A : Around} {E : Value → Shared → Prop}
end

section
variable {X : Cx} {o e f : Expr} {apos cpos : Pos} {td ty tx : TE}
end

/-! ### dict(d): a copy -/
section
variable {X : Cx} {pins : List (Addr × Obj)} {σ : St} {H : Hp} {s : Shared} {a : Addr} {kvs : List (Key × V)} {A : Around} {E : Value → Shared → Prop}
end

section
variable {X : Cx} {pins : List (Addr × Obj)} {σ : St} {H : Hp} {s : Shared} {a : Addr} {y : V} {u : Value} {A : Around} {E : Value → Shared → Prop}
end
end L2

namespace L2
open PySem PySem.Spec PyProof.Rows

section
variable {prog : Program} {w : World} {A : Around} {E : Value → Shared → Prop}

end

section
variable {X : Cx}
end
end L2

namespace L2
open PySem PySem.Spec PyProof.Rows

section
variable {X : Cx} {pins : List (Addr × Obj)} {σ : St} {H : Hp} {s : Shared} {h' : Heap}

/-! ### locking a thing while a statement runs -/
end
section
variable {X : Cx}

/-! ### one iterator just laid -/
end

/-! ### range with a step -/
section
variable {X : Cx} {tg : Expr}
end

/-! ### reversed(list) -/
section
variable {X : Cx} {tg : Expr}
end

/-! ### a str -/

/-! ### a dict's keys: any dict's entries -/
section
variable {prog : Program} {w : World} {A : Around} {E : Value → Shared → Prop} {s : Shared}
end

/-! ### a locked dict -/
section
variable {X : Cx} {pins : List (Addr × Obj)} {σ : St} {H : Hp} {s : Shared} {d : Addr} {o : Obj}
end

section
variable {P : Program} {w : World} {K : PySem.W.Frag} {tg : Expr} {d : Addr} {o : Obj} {es : Array DictEntry} {ep : Nat}
end

/-! ### for k in d, d.keys(), d.values(), d.items() -/
section
variable {X : Cx} {tg e : Expr} {td : TE} {apos cpos : Pos}
end

/-! ### enumerate(list) -/
/-! ### zip(list, list) -/
end L2

section
namespace Bits
open PySem PyProof.Rows

end Bits
end

section
namespace TL
open PySem PySem.Builtin PySem.Builtin.Str PySem.StrLaws

/-! ### the list functions -/

/-! ### the model's split and partition are these -/

/-! ### computing spl and par -/

/-! ### digits -/

/-! ### words: x.split() -/
end TL
end

namespace L2
open PySem PySem.Spec PyProof.Rows

section
variable {X : Cx} {pins : List (Addr × Obj)} {σ : St} {H : Hp} {s : Shared} {Q : VK}
end

section
variable {X : Cx}

/-! ### of a text alone -/

/-! ### of a text and a text -/

end

section
variable {X : Cx} {o e : Expr} {to te : TE}

end
end L2

namespace L2
open PySem PySem.Spec PyProof.Rows

section
variable {X : Cx}
end

/-! ### slices of a text -/

end L2

namespace Att
open PySem PySem.W PySem.Calls PyProof.Rows

/-! ### the script -/

/-! ### the attachment: holds_open's last premise (the goal 'hc' behind k_head) from a wpAny of the law's body -/

/-! ### rules over ANY heap (no ledger) from facts about the written part K: the library's own take a ledger (News) for what they write -/
section
variable {prog : Program} {w : World} {A : Around} {E : Value → Shared → Prop} {s : Shared} {K : Frag}

/-! the whole heap as the ledger: makes every rule that writes through a ledger a rule over any heap -/

end
end Att

namespace L2
open PySem PySem.Spec PyProof.Rows

end L2

namespace L2
open PySem PySem.Spec PyProof.Rows

abbrev KOf {K : PySem.W.Frag} {h : Heap} (_ : K.In h) : PySem.W.Frag := K

end L2

/-! SHORT WORDS over the layer: a def of the text, its body, what a loop and a test want. -/
namespace L2
open PySem PySem.Spec PyProof.Rows

/-! ### the text by places -/
/-- the j-th statement of a class's body -/
def inClass (s : Stmt) (j : Nat) : Stmt := match s with
  | .ClassDef _ _ _ body _ _ _ _ _ _ _ => body.getD j (.Pass ⟨0, 0, 0, 0⟩)
  | _ => .Pass ⟨0, 0, 0, 0⟩
def defArgs (s : Stmt) : Arguments := match s with
  | .FunctionDef _ a _ _ _ _ _ _ _ _ => a
  | _ => { posonlyargs := [], args := [], vararg := none, kwonlyargs := [], kw_defaults := [], kwarg := none, defaults := [] }
def defBody (s : Stmt) : List Stmt := match s with
  | .FunctionDef _ _ b _ _ _ _ _ _ _ => b
  | _ => []
def defScope (s : Stmt) : Scope := match s with
  | .FunctionDef _ _ _ _ _ _ sc _ _ _ => sc
  | _ => { kind := .function, names := [], isGenerator := false, isCoroutine := false }

/-! ### no exception leaves a def -/
abbrev CX0 : CXT := fun _ _ _ _ _ _ => False
abbrev E0 : XK := fun _ _ _ => False
theorem pass0 {X : Cx} : Passes CX0 X E0 := fun _ _ _ _ _ _ _ h => h.elim

/-! ### a def (or method) of the text as it stands behind the top -/
structure Fun (K : PySem.W.Frag) (x qual : Str) (st : Stmt) (f : Addr) (fd : FuncData) : Prop where
  ex : ∃ (oc : Value) (od : Option Addr) (kV doc pm : Value) (an : Option Addr) (cdv ct : Value) (osl : Array (Option Value)),
    fd = PySem.W.fnOf x qual (defArgs st) (defBody st) (defScope st) .none kV doc pm an cdv ct ∧ K.lookup f = some ⟨oc, od, .func fd, osl⟩ ∧ PySem.W.codeIn K cdv qual = true
  kp : PySem.W.keepIn K (.ref f) = true
section
variable {P : Program} {w : World} {K : PySem.W.Frag} {mg : Str → Option Value} {base : Heap}
/-- THE RULE for a def: its body as a term of rules, and the reading of that term -/
theorem Fun.ok {x qual : Str} {st : Stmt} {f : Addr} {fd : FuncData} {N ps : List Str} {k : Nat} {sp : Sp} (F : Fun K x qual st f fd) (S : FnScope N ps (defScope st)) (len : ∀ vs H Q E, sp vs H Q E → vs.length = ps.length)
    (hbody : ∀ (cdv : Value) (A : Around) (outer : List Env) (s : Shared) (H : Hp) (vs : List V) (Q : VK) (E : XK), Room k (A.deeper (envOfC qual (defScope st) s.heap.objs.size f cdv)) → sp vs H Q E →
      ∃ t, PSs (cxOf CX0 P w K mg base N qual (defScope st) f cdv A outer s H E).nox (defBody st) t ∧ t { nx := fun _ H' => Q .non H', rt := Q } (start N vs) H) : FnOk P w K mg base CX0 (k + 1) f fd ps sp := by
  obtain ⟨oc, od, kV, doc, pm, an, cdv, ct, osl, rfl, lk, hcd⟩ := F.ex
  refine fn_of lk hcd S len fun A outer s H vs Q E hr hsp => ?_
  obtain ⟨t, h, q⟩ := hbody cdv A outer s H vs Q E hr hsp
  exact ⟨t, h.nox, q⟩
/-- how its arguments bind (no defaults): h is «fun _ _ _ _ _ _ us hl => match us, hl with | [_, _], _ => rfl», one _ a parameter -/
theorem Fun.binds {x qual : Str} {st : Stmt} {f : Addr} {fd : FuncData} {ps : List Str} (F : Fun K x qual st f fd)
    (h : ∀ (kV doc pm : Value) (an : Option Addr) (cdv ct : Value) (us : List Value), us.length = ps.length → bindArgs (PySem.W.fnOf x qual (defArgs st) (defBody st) (defScope st) .none kV doc pm an cdv ct) ⟨us, []⟩ = pure (ps.zip us)) : Binds K fd ps [] := by
  obtain ⟨oc, od, kV, doc, pm, an, cdv, ct, osl, rfl, lk, hcd⟩ := F.ex
  exact .all (h kV doc pm an cdv ct)
theorem fun_mk {x qual : Str} {st : Stmt} {f : Addr} {oc : Value} {od an : Option Addr} {osl : Array (Option Value)} {kV doc pm cdv ct : Value} (l : K.lookup f = some ⟨oc, od, .func (PySem.W.fnOf x qual (defArgs st) (defBody st) (defScope st) .none kV doc pm an cdv ct), osl⟩)
    (c : PySem.W.codeIn K cdv qual = true) (k : PySem.W.keepIn K (.ref f) = true) : Fun K x qual st f (PySem.W.fnOf x qual (defArgs st) (defBody st) (defScope st) .none kV doc pm an cdv ct) := ⟨⟨oc, od, kV, doc, pm, an, cdv, ct, osl, rfl, l, c⟩, k⟩
end

/-! ### expressions in short: the name that stands in the i-th slot -/
section
variable {X : Cx}
theorem pv (i : Nat) {x : Str} {pos : Pos} (hN : X.N[i]? = some x := by rfl) (hv : Vis X.env.scope x := by first | exact Or.inl rfl | exact Or.inr (Or.inl rfl) | exact Or.inr (Or.inr rfl)) (hd : (x == ("__debug__" : Str)) = false := by decide)
    (hcd : (x == ("__classdict__" : Str)) = false := by decide) : PE X (.Name x pos) (tVar i) := pe_var hN hv hd hcd
end

/-! ### tests -/
theorem iteF {A B : Prop} (h : B) : if false = true then A else B := by
  rw [if_neg Bool.false_ne_true]
  exact h
theorem iteT {A B : Prop} (h : A) : if true = true then A else B := by
  rw [if_pos rfl]
  exact h
theorem ite2 {c A B : Prop} [Decidable c] (h1 : c → A) (h2 : ¬ c → B) : if c then A else B := by
  by_cases h : c
  · rw [if_pos h]
    exact h1 h
  · rw [if_neg h]
    exact h2 h

/-! ### heaps -/
/-- all that was tracked is as it was -/
def Same (H H' : Hp) : Prop := ∀ b o, H b = some o → H' b = some o
theorem Same.refl (H : Hp) : Same H H := fun _ _ h => h
theorem Same.trans {H H1 H2 : Hp} (a : Same H H1) (b : Same H1 H2) : Same H H2 := fun c o h => b c o (a c o h)
theorem Same.free {H H' : Hp} (e : Same H H') {l : Addr} (h : H' l = Option.none) : H l = Option.none := by
  cases q : H l with
  | none => rfl
  | some o =>
    rw [e l o q] at h
    cases h

/-! ### a dict's pairs: keys that differ -/
section
variable {κ : Type} [DecidableEq κ]
end
/-! ### lists -/
theorem at_of {xs : List V} {z : Int} {j : Nat} {v : V} (e : z = (j : Int)) (h : xs[j]? = some v) : atI xs z = some v := by
  rw [e]
  exact atI_nat h
/-- a new instance and its __init__ leave all that was tracked as it was -/
theorem Same.made {H H1 : Hp} {x dx C : Addr} (nx : H x = Option.none) (nd : H dx = Option.none) (k : ∀ b o, (upd (upd H dx (.own x)) x (.ins C dx [])) b = some o → b ≠ x → H1 b = some o) : Same H H1 := fun b o e =>
  k b o (by rw [upd_ne (ne_of_none e nx), upd_ne (ne_of_none e nd)]; exact e) (ne_of_none e nx)
end L2

section
set_option Elab.async false
set_option linter.all false
set_option maxRecDepth 100000
set_option maxHeartbeats 2000000
namespace L2
open PySem PySem.Spec PyProof.Rows
open PySem.W (WData Codec OpenSpec Well WellAll ReadsW ReadsAllW)
/-! ### an answer as data -/
mutual
/-- x stands for the datum d, lists and tuples all the way -/
inductive Dw (K : PySem.W.Frag) (H : Hp) : V → WData → Prop
  | non : Dw K H .non .none
  | bl (b : Bool) : Dw K H (.bl b) (.bool b)
  | int (i : Int) : Dw K H (.int i) (.int i)
  | str (x : Str) : Dw K H (.str x) (.str x)
  | byt (b : Array UInt8) : Dw K H (.byt b) (.bytes b.toList)
  | lst {a : Addr} {xs : List V} {ds : List WData} : SqL K H a xs → DwAll K H xs ds → Dw K H (.ref a) (.list ds)
  | tup {a : Addr} {xs : List V} {ds : List WData} : SqT K H a xs → DwAll K H xs ds → Dw K H (.ref a) (.tuple ds)
inductive DwAll (K : PySem.W.Frag) (H : Hp) : List V → List WData → Prop
  | nil : DwAll K H [] []
  | cons {v : V} {vs : List V} {d : WData} {ds : List WData} : Dw K H v d → DwAll K H vs ds → DwAll K H (v :: vs) (d :: ds)
end
theorem dw_ints {K : PySem.W.Frag} {H : Hp} : ∀ ns : List Int, DwAll K H (ns.map V.int) (ns.map WData.int)
  | [] => .nil
  | n :: r => .cons (.int n) (dw_ints r)
theorem ints_dw {K : PySem.W.Frag} {H : Hp} : ∀ (ns : List Int) (xs : List V), DwAll K H xs (ns.map WData.int) → xs = ns.map V.int
  | [], xs, h => by
    cases h
    rfl
  | n :: r, xs, h => by
    cases h with
    | cons h1 h2 =>
      cases h1
      rw [ints_dw r _ h2] <;> rfl
section
variable {P : Program} {w : World} {K : PySem.W.Frag} {H : Hp} {h : Heap} {R : PySem.W.WRecords} {cl : Str → Option Addr}
theorem sqL_at {a : Addr} {xs : List V} (hok : HOk P w H h) (KX : K.In h) (q : SqL K H a xs) : ∃ (its : List Value) (o : Obj) (n : Nat), Vals xs its ∧ h.get? a = some o ∧ o.cls = .type "list" ∧ o.data = .seq its.toArray n := by
  rcases q with q | ⟨o, its, n, e, hc, _, hd, _, hv⟩
  · obtain ⟨_, its, n, hv, e⟩ := (show ObjOk P w H h a (.lst xs) from q.ok hok)
    exact ⟨its, _, n, hv, e, rfl, rfl⟩
  · exact ⟨its.toList, o, n, hv, KX _ _ e, hc, by simp [hd]⟩
theorem sqT_at {a : Addr} {xs : List V} (hok : HOk P w H h) (KX : K.In h) (q : SqT K H a xs) : ∃ (its : List Value) (o : Obj) (n : Nat), Vals xs its ∧ h.get? a = some o ∧ o.cls = .type "tuple" ∧ o.data = .seq its.toArray n := by
  rcases q with q | ⟨o, its, n, e, hc, hd, _, hv⟩
  · obtain ⟨_, its, hv, o, e, hc, n, hd⟩ := (show ObjOk P w H h a (.tup xs) from q.ok hok)
    exact ⟨its, o, n, hv, e, hc, hd⟩
  · exact ⟨its.toList, o, n, hv, KX _ _ e, hc, by simp [hd]⟩
mutual
theorem Dw.reads (hok : HOk P w H h) (KX : K.In h) : ∀ (d : WData) (v : V) (u : Value), Dw K H v d → RelV v u → ∃ as, ReadsW R cl h u d as
  | .none, _, _, x, r => by
    cases x
    cases r
    exact ⟨_, ReadsW.none⟩
  | .bool b, _, _, x, r => by
    cases x
    cases r
    exact ⟨_, ReadsW.bool b⟩
  | .int i, _, _, x, r => by
    cases x
    obtain ⟨t, rfl⟩ := r
    exact ⟨_, ReadsW.int i t⟩
  | .str s, _, _, x, r => by
    cases x
    obtain ⟨t, rfl⟩ := r
    exact ⟨_, ReadsW.str s t⟩
  | .bytes b, _, _, x, r => by
    cases x
    obtain ⟨t, rfl⟩ := r
    exact ⟨_, ReadsW.bytes _ t⟩
  | .list ds, _, _, x, r => by
    cases x with
    | lst hs ha =>
      cases r
      obtain ⟨its, o, n, rv, ho, hc, hd⟩ := sqL_at hok KX hs
      obtain ⟨as, hr⟩ := Dw.readsAll hok KX ds _ its ha rv
      exact ⟨_, ReadsW.list ho hc hd hr⟩
  | .tuple ds, _, _, x, r => by
    cases x with
    | tup hs ha =>
      cases r
      obtain ⟨its, o, n, rv, ho, hc, hd⟩ := sqT_at hok KX hs
      obtain ⟨as, hr⟩ := Dw.readsAll hok KX ds _ its ha rv
      exact ⟨_, ReadsW.tuple ho hc hd hr⟩
  | .float _, _, _, x, _ => by cases x
  | .dict _, _, _, x, _ => by cases x
  | .bytearray _, _, _, x, _ => by cases x
  | .set _, _, _, x, _ => by cases x
  | .frozenset _, _, _, x, _ => by cases x
  | .obj _ _, _, _, x, _ => by cases x
theorem Dw.readsAll (hok : HOk P w H h) (KX : K.In h) : ∀ (ds : List WData) (vs : List V) (us : List Value), DwAll K H vs ds → Vals vs us → ∃ as, ReadsAllW R cl h us ds as
  | [], _, _, x, r => by
    cases x
    cases r
    exact ⟨_, ReadsAllW.nil⟩
  | d :: ds, _, _, x, r => by
    cases x with
    | cons h1 h2 =>
      cases r with
      | cons r1 r2 =>
        obtain ⟨as, q1⟩ := Dw.reads hok KX d _ _ h1 r1
        obtain ⟨bs, q2⟩ := Dw.readsAll hok KX ds _ _ h2 r2
        exact ⟨_, ReadsAllW.cons q1 q2⟩
end
end
/-! ### the arguments -/
mutual
/-- data that a codec tells -/
def plW : WData → Bool
  | .none => true
  | .bool _ => true
  | .int _ => true
  | .str _ => true
  | .bytes _ => true
  | .list xs => plWs xs
  | .tuple xs => plWs xs
  | _ => false
def plWs : List WData → Bool
  | [] => true
  | x :: r => plW x && plWs r
end
theorem plWs_map {α : Type} {f : α → WData} (h : ∀ a, plW (f a) = true) : ∀ l : List α, plWs (l.map f) = true
  | [] => rfl
  | x :: r => by
    show (plW (f x) && plWs (r.map f)) = true
    rw [h x, plWs_map h r] <;> rfl
theorem pl_enc : ∀ (c : Codec) (a : c.denote), plW (c.enc a) = true
  | .unit, _ => rfl
  | .bool, _ => rfl
  | .int _ _, _ => rfl
  | .nat _ _, _ => rfl
  | .u8, _ => rfl
  | .bytes _ _, _ => rfl
  | .text _ _ _ _, _ => rfl
  | .list _ _ c, a => plWs_map (fun x => pl_enc c x) a
  | .pair c d, a => by
    show (plW (c.enc a.1) && (plW (d.enc a.2) && true)) = true
    rw [pl_enc c a.1, pl_enc d a.2] <;> rfl
  | .triple c d e, a => by
    show (plW (c.enc a.1) && (plW (d.enc a.2.1) && (plW (e.enc a.2.2) && true))) = true
    rw [pl_enc c a.1, pl_enc d a.2.1, pl_enc e a.2.2] <;> rfl
  | .option c, none => rfl
  | .option c, some x => pl_enc c x
theorem pl_encAll : ∀ (cs : List Codec) (a : Codec.denoteAll cs), plWs (Codec.encAll cs a) = true
  | [], _ => rfl
  | c :: cs, a => by
    show (plW (c.enc a.1) && plWs (Codec.encAll cs a.2)) = true
    rw [pl_enc c a.1, pl_encAll cs a.2] <;> rfl
theorem weight_mem : ∀ {xs : List WData} {d : WData}, d ∈ xs → d.weight ≤ WData.weightAll xs
  | [], d, h => absurd h (by simp)
  | x :: r, d, h => by
    show d.weight ≤ x.weight + 1 + WData.weightAll r
    rcases List.mem_cons.mp h with e | m
    · rw [e]
      omega
    · have z := weight_mem m
      omega
def toV : Value → V
  | .none => .non
  | .bool b => .bl b
  | .int i _ => .int i
  | .str x _ => .str x
  | .bytes b _ => .byt b
  | .ref a => .ref a
  | _ => .non
/-- a value of the arguments, its objects among A -/
def OkU (A : List Addr) : Value → Prop
  | .none => True
  | .bool _ => True
  | .int _ _ => True
  | .str _ _ => True
  | .bytes _ _ => True
  | .ref a => a ∈ A
  | _ => False
theorem OkU.mono {A B : List Addr} (h : ∀ a ∈ A, a ∈ B) : ∀ {u : Value}, OkU A u → OkU B u := fun {u} x => by
  cases u with
  | ref a => exact h a x
  | none => trivial
  | bool b => trivial
  | int i t => trivial
  | str s t => trivial
  | bytes b t => trivial
  | _ => exact False.elim x
theorem relV_toV {A : List Addr} {u : Value} (x : OkU A u) : RelV (toV u) u := by
  cases u with
  | ref a => rfl
  | none => rfl
  | bool b => rfl
  | int i t => exact ⟨t, rfl⟩
  | str s t => exact ⟨t, rfl⟩
  | bytes b t => exact ⟨t, rfl⟩
  | _ => exact False.elim x
theorem vals_toV {A : List Addr} : ∀ {vs : List Value}, (∀ u ∈ vs, OkU A u) → Vals (vs.map toV) vs
  | [], _ => .nil
  | u :: r, h => .cons (relV_toV (h u (List.mem_cons_self ..))) (vals_toV fun x hx => h x (List.mem_cons_of_mem _ hx))
/-- an object of the arguments -/
def ArgOb (h : Heap) (A : List Addr) (a : Addr) : Prop := ∃ vs : List Value, vs.length ≤ sizeLine ∧ (∀ u ∈ vs, OkU A u) ∧
  (h.get? a = some { cls := .type "list", data := .seq vs.toArray } ∨ h.get? a = some { cls := .type "tuple", data := .seq vs.toArray })
theorem ArgOb.mono {h : Heap} {A B : List Addr} {a : Addr} (k : ∀ a ∈ A, a ∈ B) (x : ArgOb h A a) : ArgOb h B a := by
  obtain ⟨vs, h1, h2, h3⟩ := x
  exact ⟨vs, h1, fun u hu => (h2 u hu).mono k, h3⟩
theorem wellAll_len {P : Params} {h : Heap} : ∀ {vs : List Value} {ds : List WData}, WellAll P h vs ds → vs.length = ds.length
  | _, _, .nil => rfl
  | _, _, .cons _ b => by
    show _ + 1 = _ + 1
    rw [wellAll_len b]
theorem well_list {P : Params} {h : Heap} {v : Value} {ds : List WData} (x : Well P h v (.list ds)) : ∃ (a : Addr) (vs : List Value), v = .ref a ∧ h.get? a = some { cls := .type "list", data := .seq vs.toArray } ∧ WellAll P h vs ds := by
  cases x with
  | list ho hall => exact ⟨_, _, rfl, ho, hall⟩
theorem well_tuple {P : Params} {h : Heap} {v : Value} {ds : List WData} (x : Well P h v (.tuple ds)) : ∃ (a : Addr) (vs : List Value), v = .ref a ∧ h.get? a = some { cls := .type "tuple", data := .seq vs.toArray } ∧ WellAll P h vs ds := by
  cases x with
  | tuple ho hall => exact ⟨_, _, rfl, ho, hall⟩
theorem well_cons {P : Params} {h : Heap} {us : List Value} {d : WData} {ds : List WData} (x : WellAll P h us (d :: ds)) : ∃ (v : Value) (vs : List Value), us = v :: vs ∧ Well P h v d ∧ WellAll P h vs ds := by
  cases x with
  | cons a b => exact ⟨_, _, rfl, a, b⟩
theorem line_of {n : Nat} (h : n ≤ 1048576) : n ≤ sizeLine := Nat.le_trans h (by decide)
section
variable {P : Params} {h : Heap}
mutual
theorem area_one : ∀ (d : WData) (v : Value), Well P h v d → plW d = true → d.weight ≤ 1048576 → ∃ A : List Addr, OkU A v ∧ ∀ a ∈ A, ArgOb h A a
  | .none, _, x, _, _ => by
    cases x
    exact ⟨[], trivial, fun a m => absurd m (by simp)⟩
  | .bool b, _, x, _, _ => by
    cases x
    exact ⟨[], trivial, fun a m => absurd m (by simp)⟩
  | .int i, _, x, _, _ => by
    cases x
    exact ⟨[], trivial, fun a m => absurd m (by simp)⟩
  | .str s, _, x, _, _ => by
    cases x
    exact ⟨[], trivial, fun a m => absurd m (by simp)⟩
  | .bytes b, _, x, _, _ => by
    cases x
    exact ⟨[], trivial, fun a m => absurd m (by simp)⟩
  | .list ds, _, x, p, z => by
    obtain ⟨a, vs, rfl, ho, hall⟩ := well_list x
    have z2 : WData.weightAll ds ≤ 1048576 := z
    obtain ⟨A, h1, h2⟩ := area_all ds _ hall p fun d hd => Nat.le_trans (weight_mem hd) z2
    have k : ∀ b ∈ A, b ∈ a :: A := fun b hb => List.mem_cons_of_mem _ hb
    refine ⟨a :: A, List.mem_cons_self .., fun b hb => ?_⟩
    rcases List.mem_cons.mp hb with e | m
    · rw [e]
      exact ⟨vs, line_of (by rw [wellAll_len hall]; exact Nat.le_trans (PySem.W.length_le_weightAllW ds) z2), fun u hu => (h1 u hu).mono k, .inl ho⟩
    · exact (h2 b m).mono k
  | .tuple ds, _, x, p, z => by
    obtain ⟨a, vs, rfl, ho, hall⟩ := well_tuple x
    have z2 : WData.weightAll ds ≤ 1048576 := z
    obtain ⟨A, h1, h2⟩ := area_all ds _ hall p fun d hd => Nat.le_trans (weight_mem hd) z2
    have k : ∀ b ∈ A, b ∈ a :: A := fun b hb => List.mem_cons_of_mem _ hb
    refine ⟨a :: A, List.mem_cons_self .., fun b hb => ?_⟩
    rcases List.mem_cons.mp hb with e | m
    · rw [e]
      exact ⟨vs, line_of (by rw [wellAll_len hall]; exact Nat.le_trans (PySem.W.length_le_weightAllW ds) z2), fun u hu => (h1 u hu).mono k, .inr ho⟩
    · exact (h2 b m).mono k
  | .float _, _, _, p, _ => Bool.noConfusion (show false = true from p)
  | .dict _, _, _, p, _ => Bool.noConfusion (show false = true from p)
  | .bytearray _, _, _, p, _ => Bool.noConfusion (show false = true from p)
  | .set _, _, _, p, _ => Bool.noConfusion (show false = true from p)
  | .frozenset _, _, _, p, _ => Bool.noConfusion (show false = true from p)
  | .obj _ _, _, _, p, _ => Bool.noConfusion (show false = true from p)
theorem area_all : ∀ (ds : List WData) (vs : List Value), WellAll P h vs ds → plWs ds = true → (∀ d ∈ ds, d.weight ≤ 1048576) → ∃ A : List Addr, (∀ u ∈ vs, OkU A u) ∧ ∀ a ∈ A, ArgOb h A a
  | [], _, x, _, _ => by
    cases x
    exact ⟨[], fun u m => absurd m (by simp), fun a m => absurd m (by simp)⟩
  | d :: ds, _, x, p, z => by
    obtain ⟨v, vs, rfl, x1, x2⟩ := well_cons x
    have q : plW d = true ∧ plWs ds = true := Bool.and_eq_true_iff.mp p
    obtain ⟨A, a1, a2⟩ := area_one d v x1 q.1 (z d (List.mem_cons_self ..))
    obtain ⟨B, b1, b2⟩ := area_all ds vs x2 q.2 fun e he => z e (List.mem_cons_of_mem _ he)
    have kA : ∀ b ∈ A, b ∈ A ++ B := fun b hb => List.mem_append.mpr (.inl hb)
    have kB : ∀ b ∈ B, b ∈ A ++ B := fun b hb => List.mem_append.mpr (.inr hb)
    refine ⟨A ++ B, fun u hu => ?_, fun b hb => ?_⟩
    · rcases List.mem_cons.mp hu with e | m
      · rw [e]
        exact a1.mono kA
      · exact (b1 u m).mono kB
    · rcases List.mem_append.mp hb with m | m
      · exact (a2 b m).mono kA
      · exact (b2 b m).mono kB
end
end
/-- what is tracked of an argument's object -/
def hoOf (o : Obj) : Option HO := match o.data with
  | .seq vs _ => if (o.cls == Value.type "list") = true then some (.frz o (.lst (vs.toList.map toV))) else some (.frz o (.tup (vs.toList.map toV)))
  | _ => none
def argH (K : PySem.W.Frag) (h : Heap) (A : List Addr) : Hp := fun b => if b ∈ A then (if (K.lookup b).isNone = true then (h.get? b).bind hoOf else none) else none
/-- nothing is tracked but what is known to the object -/
def OnlyF (H : Hp) : Prop := ∀ b, H b = none ∨ ∃ o u, H b = some (.frz o u)
theorem hoOf_lst (vs : List Value) : hoOf { cls := .type "list", data := .seq vs.toArray } = some (.frz { cls := .type "list", data := .seq vs.toArray } (.lst (vs.map toV))) := by
  show (if (Value.type "list" == Value.type "list") = true then some (HO.frz { cls := .type "list", data := .seq vs.toArray } (.lst (vs.toArray.toList.map toV))) else some (HO.frz { cls := .type "list", data := .seq vs.toArray } (.tup (vs.toArray.toList.map toV)))) = _
  rw [if_pos (beq_self_eq_true _)]
theorem hoOf_tup (vs : List Value) : hoOf { cls := .type "tuple", data := .seq vs.toArray } = some (.frz { cls := .type "tuple", data := .seq vs.toArray } (.tup (vs.map toV))) := by
  show (if (Value.type "tuple" == Value.type "list") = true then some (HO.frz { cls := .type "tuple", data := .seq vs.toArray } (.lst (vs.toArray.toList.map toV))) else some (HO.frz { cls := .type "tuple", data := .seq vs.toArray } (.tup (vs.toArray.toList.map toV)))) = _
  rw [if_neg (by decide)]
section
variable {P : Program} {w : World} {K : PySem.W.Frag} {h : Heap} {A : List Addr}
theorem argH_at {b : Addr} {o : Obj} (hb : b ∈ A) (hk : K.lookup b = none) (e : h.get? b = some o) : argH K h A b = hoOf o := by
  unfold argH
  rw [if_pos hb, hk, if_pos (show (none : Option Obj).isNone = true from rfl), e] <;> rfl
theorem of_argH {b : Addr} {u : HO} (q : argH K h A b = some u) : b ∈ A ∧ K.lookup b = none := by
  unfold argH at q
  by_cases hb : b ∈ A
  · rw [if_pos hb] at q
    cases hk : K.lookup b with
    | none => exact ⟨hb, rfl⟩
    | some o =>
      rw [hk, if_neg (by simp)] at q
      cases q
  · rw [if_neg hb] at q
    cases q
/-- what stands tracked -/
theorem argH_is (ar : ∀ a ∈ A, ArgOb h A a) {b : Addr} {u : HO} (q : argH K h A b = some u) : K.lookup b = none ∧ ∃ vs : List Value, vs.length ≤ sizeLine ∧ (∀ u ∈ vs, OkU A u) ∧
    ((h.get? b = some { cls := .type "list", data := .seq vs.toArray } ∧ u = .frz { cls := .type "list", data := .seq vs.toArray } (.lst (vs.map toV))) ∨
     (h.get? b = some { cls := .type "tuple", data := .seq vs.toArray } ∧ u = .frz { cls := .type "tuple", data := .seq vs.toArray } (.tup (vs.map toV)))) := by
  obtain ⟨hb, hk⟩ := of_argH q
  obtain ⟨vs, h1, h2, h3⟩ := ar b hb
  refine ⟨hk, vs, h1, h2, ?_⟩
  rcases h3 with e | e
  · rw [argH_at hb hk e, hoOf_lst] at q
    exact .inl ⟨e, (Option.some.inj q).symm⟩
  · rw [argH_at hb hk e, hoOf_tup] at q
    exact .inr ⟨e, (Option.some.inj q).symm⟩
theorem argH_only (ar : ∀ a ∈ A, ArgOb h A a) : OnlyF (argH K h A) := fun b => by
  cases q : argH K h A b with
  | none => exact .inl rfl
  | some u =>
    obtain ⟨_, vs, _, _, ⟨_, e⟩ | ⟨_, e⟩⟩ := argH_is ar q
    · exact .inr ⟨_, _, by rw [e]⟩
    · exact .inr ⟨_, _, by rw [e]⟩
theorem argH_ok (ar : ∀ a ∈ A, ArgOb h A a) : HOk P w (argH K h A) h := fun b u q => by
  obtain ⟨_, vs, h1, h2, ⟨e, rfl⟩ | ⟨e, rfl⟩⟩ := argH_is ar q
  · exact ⟨e, by rw [List.length_map]; exact h1, vs, _, vals_toV h2, e⟩
  · exact ⟨e, by rw [List.length_map]; exact h1, vs, vals_toV h2, _, e, rfl, _, rfl⟩
theorem seq_inj {c c' : Value} {vs us : List Value} (e : (some { cls := c, data := .seq vs.toArray } : Option Obj) = some { cls := c', data := .seq us.toArray }) : c = c' ∧ vs = us := by
  have e1 := Option.some.inj e
  have e2 : c = c' := congrArg Obj.cls e1
  have e3 : Data.seq vs.toArray = Data.seq us.toArray := congrArg Obj.data e1
  injection e3 with e4
  refine ⟨e2, ?_⟩
  have e5 := congrArg Array.toList e4
  simpa using e5
/-- a list argument -/
theorem argL (KX : K.In h) (ar : ∀ a ∈ A, ArgOb h A a) {a : Addr} {vs : List Value} (ha : a ∈ A) (e : h.get? a = some { cls := .type "list", data := .seq vs.toArray }) : (∀ u ∈ vs, OkU A u) ∧ SqL K (argH K h A) a (vs.map toV) := by
  obtain ⟨us, h1, h2, h3⟩ := ar a ha
  have hu : us = vs := by
    rcases h3 with q | q
    · rw [e] at q
      exact (seq_inj q).2.symm
    · rw [e] at q
      exact absurd (Value.type.inj (seq_inj q).1) (by decide)
  subst hu
  refine ⟨h2, ?_⟩
  cases hk : K.lookup a with
  | none => exact .inl (.inr ⟨_, by rw [argH_at ha hk e, hoOf_lst]⟩)
  | some o =>
    have e2 := KX a o hk
    rw [e] at e2
    obtain rfl := Option.some.inj e2
    exact .inr ⟨_, us.toArray, _, hk, rfl, rfl, rfl, by rw [List.size_toArray]; exact h1, by simpa using vals_toV h2⟩
theorem argT (KX : K.In h) (ar : ∀ a ∈ A, ArgOb h A a) {a : Addr} {vs : List Value} (ha : a ∈ A) (e : h.get? a = some { cls := .type "tuple", data := .seq vs.toArray }) : (∀ u ∈ vs, OkU A u) ∧ SqT K (argH K h A) a (vs.map toV) := by
  obtain ⟨us, h1, h2, h3⟩ := ar a ha
  have hu : us = vs := by
    rcases h3 with q | q
    · rw [e] at q
      exact absurd (Value.type.inj (seq_inj q).1) (by decide)
    · rw [e] at q
      exact (seq_inj q).2.symm
  subst hu
  refine ⟨h2, ?_⟩
  cases hk : K.lookup a with
  | none => exact .inl (.inr ⟨_, by rw [argH_at ha hk e, hoOf_tup]⟩)
  | some o =>
    have e2 := KX a o hk
    rw [e] at e2
    obtain rfl := Option.some.inj e2
    exact .inr ⟨_, us.toArray, _, hk, rfl, rfl, by rw [List.size_toArray]; exact h1, by simpa using vals_toV h2⟩
mutual
theorem dw_one {Pm : Params} (KX : K.In h) (ar : ∀ a ∈ A, ArgOb h A a) : ∀ (d : WData) (v : Value), Well Pm h v d → plW d = true → OkU A v → Dw K (argH K h A) (toV v) d
  | .none, _, x, _, _ => by
    cases x
    exact .non
  | .bool b, _, x, _, _ => by
    cases x
    exact .bl b
  | .int i, _, x, _, _ => by
    cases x
    exact .int i
  | .str s, _, x, _, _ => by
    cases x
    exact .str s
  | .bytes b, _, x, _, _ => by
    cases x
    have z := Dw.byt (K := K) (H := argH K h A) b.toArray
    exact z
  | .list ds, _, x, p, hu => by
    obtain ⟨a, vs, rfl, ho, hall⟩ := well_list x
    obtain ⟨h2, hs⟩ := argL KX ar hu ho
    exact .lst hs (dw_all KX ar ds _ hall p h2)
  | .tuple ds, _, x, p, hu => by
    obtain ⟨a, vs, rfl, ho, hall⟩ := well_tuple x
    obtain ⟨h2, hs⟩ := argT KX ar hu ho
    exact .tup hs (dw_all KX ar ds _ hall p h2)
  | .float _, _, _, p, _ => Bool.noConfusion (show false = true from p)
  | .dict _, _, _, p, _ => Bool.noConfusion (show false = true from p)
  | .bytearray _, _, _, p, _ => Bool.noConfusion (show false = true from p)
  | .set _, _, _, p, _ => Bool.noConfusion (show false = true from p)
  | .frozenset _, _, _, p, _ => Bool.noConfusion (show false = true from p)
  | .obj _ _, _, _, p, _ => Bool.noConfusion (show false = true from p)
theorem dw_all {Pm : Params} (KX : K.In h) (ar : ∀ a ∈ A, ArgOb h A a) : ∀ (ds : List WData) (vs : List Value), WellAll Pm h vs ds → plWs ds = true → (∀ u ∈ vs, OkU A u) → DwAll K (argH K h A) (vs.map toV) ds
  | [], _, x, _, _ => by
    cases x
    exact .nil
  | d :: ds, _, x, p, hu => by
    obtain ⟨v, vs, rfl, x1, x2⟩ := well_cons x
    have q : plW d = true ∧ plWs ds = true := Bool.and_eq_true_iff.mp p
    exact .cons (dw_one KX ar d v x1 q.1 (hu _ (List.mem_cons_self ..))) (dw_all KX ar ds vs x2 q.2 fun u m => hu u (List.mem_cons_of_mem _ m))
end
end
/-! ### the call -/
theorem spec_call {P : Program} {w : World} {K : PySem.W.Frag} {mg mb : Str → Option Value} {CX : CXT} {k : Nat} {fa : Addr} {fd : FuncData} {ps : List Str} {sp : Sp} {s₁ : Shared} {vals : List Value} {ds : List WData} {R : PySem.W.WRecords} {cl : Str → Option Addr} {d0 : WData}
    (KX : K.In s₁.heap) (hns : s₁.heap.Ns mainGlobals mg) (hb : s₁.heap.Ns builtinsNs mb) (hbb : ∀ x : Str, x ≠ "__name__" → mb x = bootBuiltins x) (hlim : s₁.heap.NoLimit) (hg : s₁.gens = #[])
    (hwl : WellAll w.params s₁.heap vals ds) (hpl : plWs ds = true) (hwt : ∀ d ∈ ds, d.weight ≤ 1048576) (hr : Room k callerA)
    (F : ∀ base : Heap, K.In base → base.Ns mainGlobals mg → FnOk P w K mg base CX k fa fd ps sp) (hbind : ∀ (s : Shared) (us : List Value), us.length = ps.length → BindsTo s fd ⟨us, []⟩ (ps.zip us)) (hlen : ds.length = ps.length)
    (hsp : ∀ (H : Hp) (xs : List V), OnlyF H → DwAll K H xs ds → sp xs H (fun v H' => Dw K H' v d0) fun _ _ _ => False)
    (hCX : ∀ H e s', CX [] H s₁ (fun _ _ _ => False) e s' → False) :
    codeAny (model P w) callerA (.call (.ref fa) ⟨vals, []⟩) (fun r s' => ∃ u as, r = .ok (.ret u) ∧ ReadsW R cl s'.heap u d0 as ∧ OldK s₁.heap s'.heap ∧ s'.os = s₁.os ∧ AllBare s'.gens) s₁ := by
  obtain ⟨A, ho, ar⟩ := area_all ds vals hwl hpl hwt
  have hO : OnlyF (argH K s₁.heap A) := argH_only ar
  have hok : HOk P w (argH K s₁.heap A) s₁.heap := argH_ok ar
  have hS := dw_all KX ar ds vals hwl hpl ho
  have hV := vals_toV ho
  have hK : ∀ b u, argH K s₁.heap A b = some u → K.lookup b = none := fun b u q => (argH_is ar q).1
  have noA : ∀ {b : Addr} {o : Obj} {es : Array DictEntry} {ep : Nat}, s₁.heap.get? b = some o → o.data = .dict es ep → argH K s₁.heap A b = none := fun {b o es ep} e d => by
    cases q : argH K s₁.heap A b with
    | none => rfl
    | some u =>
      obtain ⟨_, vs, _, _, ⟨e2, _⟩ | ⟨e2, _⟩⟩ := argH_is ar q
      · rw [e2] at e
        cases e
        have d' : Data.seq vs.toArray _ = Data.dict es ep := d
        cases d'
      · rw [e2] at e
        cases e
        have d' : Data.seq vs.toArray _ = Data.dict es ep := d
        cases d'
  generalize argH K s₁.heap A = H at hO hok hS hK noA
  have base_of : ∀ {b : Addr} {o : Obj}, s₁.heap.get? b = some o → H b = none → (hidT s₁.heap H).get? b = some o := fun e n => hidT_get e n
  have nsK : ∀ {b : Addr} {m : Str → Option Value}, s₁.heap.Ns b m → (hidT s₁.heap H).Ns b m := fun {b m} ⟨o, es, ep, e, d, r⟩ => ⟨o, es, ep, base_of e (noA e d), d, r⟩
  have nK : ∀ b o, K.lookup b = some o → H b = none := fun b o e => by
    cases q : H b with
    | none => rfl
    | some u =>
      rw [hK b u q] at e
      cases e
  have hKb : K.In (hidT s₁.heap H) := fun b o e => base_of (KX b o e) (nK b o e)
  have hM : Mod K mg (hidT s₁.heap H) := ⟨hKb, nsK hns, ⟨mb, nsK hb, hbb⟩, let ⟨mc, h1, h2⟩ := hlim; ⟨mc, nsK h1, h2⟩⟩
  have e0 : Env0 P w K mg (hidT s₁.heap H) callerA [] s₁ H := ⟨rfl, hM, fun b o e => of_hidT e, Nat.le_of_eq (hidT_size _ _), trivial, fun b hb => absurd (show b ∈ ([] : List Addr) from hb) (by simp), hok, .of_eq hg⟩
  have hl : vals.length = ps.length := by rw [wellAll_len hwl]; exact hlen
  refine codeAny_mono ((F _ hKb (nsK hns)).run callerA [] s₁ H ⟨vals, []⟩ vals (vals.map toV) _ _ hr e0 (hbind s₁ vals hl) hV (hsp H _ hO hS)) fun r s' x => ?_
  cases r with
  | error e => exact (hCX H e s' x).elim
  | ok fl =>
    cases fl with
    | next => exact False.elim x
    | brk => exact False.elim x
    | cont => exact False.elim x
    | ret u =>
      obtain ⟨v, H', os, bare, un, hok', r', q⟩ := x
      have kept : ∀ b o, s₁.heap.get? b = some o → s'.heap.get? b = some o := fun b o e => by
        cases q2 : H b with
        | none => exact un.keep b o e q2 (by intro z; exact absurd (show b ∈ ([] : List Addr) from z) (by simp)) (by simp)
        | some u2 =>
          rcases hO b with z | ⟨ob, u3, z⟩
          · rw [q2] at z
            cases z
          · have z2 := un.frzs b ob _ z
            obtain ⟨e1, _⟩ := hok b _ z
            obtain ⟨e2, _⟩ := hok' b _ z2
            rw [e] at e1
            cases e1
            exact e2
      have KX' : K.In s'.heap := fun b o e => kept b o (KX b o e)
      obtain ⟨as, hrd⟩ := Dw.reads (R := R) (cl := cl) hok' KX' d0 v u q r'
      exact ⟨u, as, rfl, hrd, OldK.of_keep kept, os, bare⟩
/-! ### the row -/
theorem layable_weight {ds : List WData} (h : WData.layableAll ds = true) : ∀ d ∈ ds, d.weight ≤ 1048576 := fun d hd =>
  (PySem.W.layableW_iff.mp (List.all_eq_true.mp h d hd)).2.2
theorem encAll_len : ∀ (cs : List Codec) (a : Codec.denoteAll cs), (Codec.encAll cs a).length = cs.length
  | [], _ => rfl
  | c :: cs, a => by
    show (Codec.encAll cs a.2).length + 1 = cs.length + 1
    rw [encAll_len cs a.2]
/-- the goal that k_headS leaves (case hc), from the promise of the row's def: whatever the arguments that the codecs let and the row asks for, the def gives what stands for enc (f ..) -/
theorem walk_spec {r : OpenSpec} {k : Nat} {q : Program} {loose : List Str} {XP : (Str → Option Value) → Heap → Prop} {YP : World → Heap → Prop} {d : DefRec} {K : Params → PySem.W.Frag} {CX : World → CXT} {ps : List Str} {sp : World → Sp}
    (hwell : r.wellSaid = true) (hdf : d.params.defaults = []) (hlen : r.args.length = ps.length) (hr : Room k callerA)
    (hY : ∀ (w : World) (h : Heap), YP w h → (K w.params).In h)
    (F : ∀ (w : World) (mg : Str → Option Value) (fa : Addr) (h : Heap), YP w h → (K w.params).In h → h.Ns mainGlobals mg → mg d.name = some (.ref fa) →
      ∃ fd : FuncData, (∀ (s : Shared) (us : List Value), us.length = ps.length → BindsTo s fd ⟨us, []⟩ (ps.zip us)) ∧
        ∀ base : Heap, (K w.params).In base → base.Ns mainGlobals mg → FnOk r.prog w (K w.params) mg base (CX w) k fa fd ps (sp w))
    (hsp : ∀ (w : World) (H : Hp) (xs : List V) (a : Codec.denoteAll r.args), OnlyF H → Codec.withinAll r.args a = true → Codec.app r.args r.asked a = true → DwAll (K w.params) H xs (Codec.encAll r.args a) →
      sp w xs H (fun v H' => Dw (K w.params) H' v (r.ret.enc (Codec.app r.args r.f a))) fun _ _ _ => False)
    (hCX : ∀ (w : World) (H : Hp) (s : Shared) (e : Value) (s' : Shared), CX w [] H s (fun _ _ _ => False) e s' → False) :
    PySem.W.WalkOS q loose XP YP r d [] (fun f vs => PySem.call f vs) := by
  intro w s_0 s₁ mg mb G Y fa o pm cd doc dV kV ho hd hcd hD hmg hg args vals as hpre hlay hrd hwl hlo
  obtain ⟨a, e1, e2⟩ := PySem.W.os_pre_some hpre
  obtain ⟨e3, hwi⟩ := Codec.encAll_of_decAll r.args args a e1
  subst e3
  have KX := hY w _ Y
  obtain ⟨fd, hb, hF⟩ := F w mg fa _ Y KX G.T.g hmg
  refine PySem.W.enter_call (codeAny_mono (spec_call (R := []) (cl := classAt s_0.heap) (d0 := r.ret.enc (Codec.app r.args r.f a)) KX G.T.g G.T.b G.T.builtins G.T.nolimit hg hwl (pl_encAll _ _) (layable_weight hlay) hr hF hb (by rw [encAll_len]; exact hlen)
    (fun H xs hO hS => hsp w H xs a hO hwi e2 hS) fun H e s' => hCX w H s₁ e s') fun r' s' hq => ?_)
  obtain ⟨u, as', rfl, h1, h2, h3, h4⟩ := hq
  exact ⟨.inl ⟨u, _, as', rfl, fun _ => rfl, h1, (OpenSpec.post_iff hwell hwi _ _).mpr rfl, fun z => Bool.noConfusion (show false = true from z)⟩, h2, h3, h4⟩
/-- the same where the promise hangs on the written part alone -/
theorem walk_specK {r : OpenSpec} {k : Nat} {q : Program} {loose : List Str} {XP : (Str → Option Value) → Heap → Prop} {YP : World → Heap → Prop} {d : DefRec} {K : Params → PySem.W.Frag} {CX : CXT} {ps : List Str} {sp : PySem.W.Frag → Sp}
    (hwell : r.wellSaid = true) (hdf : d.params.defaults = []) (hlen : r.args.length = ps.length) (hr : Room k callerA)
    (hY : ∀ (w : World) (h : Heap), YP w h → (K w.params).In h)
    (F : ∀ (w : World) (mg : Str → Option Value) (fa : Addr) (h : Heap), YP w h → (K w.params).In h → h.Ns mainGlobals mg → mg d.name = some (.ref fa) →
      ∃ fd : FuncData, (∀ (s : Shared) (us : List Value), us.length = ps.length → BindsTo s fd ⟨us, []⟩ (ps.zip us)) ∧
        ∀ base : Heap, (K w.params).In base → base.Ns mainGlobals mg → FnOk r.prog w (K w.params) mg base CX k fa fd ps (sp (K w.params)))
    (hsp : ∀ (K : PySem.W.Frag) (H : Hp) (xs : List V) (a : Codec.denoteAll r.args), OnlyF H → Codec.withinAll r.args a = true → Codec.app r.args r.asked a = true → DwAll K H xs (Codec.encAll r.args a) →
      sp K xs H (fun v H' => Dw K H' v (r.ret.enc (Codec.app r.args r.f a))) fun _ _ _ => False)
    (hCX : ∀ (H : Hp) (s : Shared) (e : Value) (s' : Shared), CX [] H s (fun _ _ _ => False) e s' → False) :
    PySem.W.WalkOS q loose XP YP r d [] (fun f vs => PySem.call f vs) :=
  walk_spec (K := K) (CX := fun _ => CX) (sp := fun w => sp (K w.params)) hwell hdf hlen hr hY F (fun w H xs a h1 h2 h3 h4 => hsp (K w.params) H xs a h1 h2 h3 h4) fun _ H s e s' => hCX H s e s'
end L2
end

namespace L2
open PySem PySem.Spec PyProof.Rows
/-! ### Rules of one's own -/
theorem bits_B {k : Nat} {i : Int} (h : Tw.B k i) : Builtin.Int.intBits i ≤ k := by
  unfold Builtin.Int.intBits
  split
  · exact Nat.zero_le _
  · have hn : i.natAbs < 2 ^ k := h
    rcases Nat.eq_zero_or_pos i.natAbs with h0 | hp
    · have : i = 0 := by omega
      subst this
      contradiction
    · have : i.natAbs.log2 < k := (Nat.log2_lt (Nat.ne_of_gt hp)).mpr hn
      omega
/-- two factors of at most a thousand bits -/
def CB (i j : Int) : Prop := Tw.B 1000 i ∧ Tw.B 1000 j
theorem CB.ok {i j : Int} (h : CB i j) : IntMulOk i j := IntMulOk.of_le (bits_B h.1) (bits_B h.2) (by decide)
theorem cb {m n : Nat} {i j : Int} (h : Tw.B m i) (k : Tw.B n j) (hm : m ≤ 1000 := by decide) (hn : n ≤ 1000 := by decide) : CB i j := ⟨h.mono hm, k.mono hn⟩
section
variable {X : Cx}
theorem op_mulB : OpR X (binaryOp .Mult) (rI CB fun i j => .int (i * j)) := opI fun _ _ _ _ _ _ _ hc q => mul_int q hc.ok
def rInsert : V → List V → Hp → VK → Prop := fun x vs H Q => ∃ (l : Addr) (xs : List V) (i : Int) (k : Nat) (y : V), x = .ref l ∧ vs = [.int i, y] ∧ H l = some (.lst xs) ∧ i = (k : Int) ∧ k ≤ xs.length ∧ xs.length < sizeLine ∧ Q .non (upd H l (.lst (xs.take k ++ y :: xs.drop k)))
theorem mt_insert : MtM X "list.insert" rInsert := by
  intro pins s σ H x vs v us Q I rx rv h
  obtain ⟨l, xs, i, k, y, rfl, rfl, hH, hi, hk, hz, q⟩ := h
  cases rx
  obtain ⟨u, w, rfl, ru, rw'⟩ := rv.two
  obtain ⟨t, rfl⟩ := ru
  obtain ⟨z, its, n, r, hl, e⟩ := I.lstM hH
  have hk2 : k < 16777216 := Nat.lt_of_le_of_lt hk hz
  have hf : Builtin.List.listFitsIndex i = true := fitsIndex_both (by have : (-(2 ^ 63) : Int) ≤ 0 := by decide
                                                                      omega) (by have : ((16777216 : Nat) : Int) < 2 ^ 63 := by decide
                                                                                 omega)
  have hc0 : ¬(!Builtin.List.listFitsIndex i) = true := by rw [hf]; decide
  have hs1 : its.toArray.size ≤ sizeLine := by rw [List.size_toArray]; omega
  refine call_meets F.slot_list_insert ⟨_, e, rfl⟩ F.entry_list_insert (F.args_list_insert_3 _ _ _) (PySem.AutoSeq1.list_insert_list_int_val_1 l its.toArray n i t w hc0 hs1) ⟨e, ?_⟩
  have e1 : (if i < 0 then (i + (its.toArray.size : Int)).toNat else min i.toNat its.toArray.size) = k := by
    rw [if_neg (by omega), List.size_toArray]
    omega
  refine ⟨.non, _, I.lset (its' := its.take k ++ w :: its.drop k) hH e ?_ ((r.take k).append (.cons rw' (r.drop k))) ?_, rfl, q⟩
  · show (its.toArray.extract 0 (if i < 0 then (i + (its.toArray.size : Int)).toNat else min i.toNat its.toArray.size)).push w ++ its.toArray.extract (if i < 0 then (i + (its.toArray.size : Int)).toNat else min i.toNat its.toArray.size) = _
    rw [e1]
    exact PySem.W.kl_ins_eq its k w
  · rw [List.length_append, List.length_cons, List.length_take, List.length_drop]
    omega
/-- range(n), as a thing -/
theorem call_rng1 : CallR X (.type "range") (fun xs H Q => ∃ n : Nat, xs = [.int (n : Int)] ∧ ∀ p, H p = none → Q (.ref p) (upd H p (.rng 0 (n : Int)))) := by
  intro pins s σ H xs us Q I r h
  obtain ⟨n, rfl, q⟩ := h
  obtain ⟨u, rfl, t, rfl⟩ := vals1 r
  refine call_range_1 ?_
  exact ⟨.ref s.heap.objs.size, _, I.laid (t' := s.toks + 1 + 1) (fun b o e => Heap.get?_push_of_some _ e) (Nat.le_refl _) (show ObjOk X.prog X.w _ _ _ (.rng 0 (n : Int)) from ⟨_, _, _, Heap.get?_push_size _ rfl⟩), rfl, q _ (I.hok.fresh (Nat.le_refl _))⟩
theorem vals_range : ∀ (n : Nat) (us : List Value), us.length = n → (∀ (j : Nat) v, us[j]? = some v → ∃ t, v = Value.int (0 + (j : Int) * 1) t) → Vals ((List.range n).map fun (i : Nat) => V.int (i : Int)) us := by
  intro n us hl h
  have e : ∀ (us : List Value) (k : Nat), (∀ j v, us[j]? = some v → ∃ t, v = Value.int ((k + j : Nat) : Int) t) → Vals ((List.range' k us.length).map fun (i : Nat) => V.int (i : Int)) us := by
    intro us
    induction us with
    | nil => intro k _; exact .nil
    | cons u us ih =>
      intro k hk
      rw [List.length_cons, List.range'_succ, List.map_cons]
      refine .cons ?_ (ih (k + 1) fun j v e => ?_)
      · obtain ⟨t, e⟩ := hk 0 u rfl
        exact ⟨t, e⟩
      · obtain ⟨t, e2⟩ := hk (j + 1) v e
        refine ⟨t, ?_⟩
        rw [e2]
        congr 2
        omega
  rw [List.range_eq_range', ← hl]
  refine e us 0 fun j v ej => ?_
  obtain ⟨t, e2⟩ := h j v ej
  refine ⟨t, ?_⟩
  rw [e2]
  congr 1
  omega
/-- list(range(n)) -/
theorem call_list_rng (hc : X.calm = true) : CallR X (.type "list") (fun xs H Q => ∃ (p : Addr) (n : Nat), xs = [.ref p] ∧ H p = some (.rng 0 (n : Int)) ∧ n ≤ 1000 ∧ ∀ l, H l = none → Q (.ref l) (upd H l (.lst ((List.range n).map fun (i : Nat) => V.int (i : Int))))) := by
  intro pins s σ H xs us Q I r h
  obtain ⟨p, n, rfl, hp, hn, q⟩ := h
  obtain ⟨u, rfl, rx⟩ := vals1 r
  cases rx
  obtain ⟨t, u, v, e⟩ := I.hok p _ hp
  have hz : ((List.range n).map fun (i : Nat) => V.int (i : Int)).length ≤ sizeLine := by
    rw [List.length_map, List.length_range]
    exact Nat.le_trans hn (by decide)
  refine call_list_range (I.ok.hd hc) (show IsRange s.heap p 0 (n : Int) 1 t u v from e) (small_one (by decide) (by decide) (by omega) (by omega)) (n := n) (by rw [rangeSize_one]; split <;> omega) (by omega) fun h' tk acc' c' kp hS hacc => ?_
  refine ⟨.ref s.heap.objs.size, _, I.laid (t' := tk) kp (Nat.le_refl _) (show ObjOk X.prog X.w _ h' _ (.lst _) from ⟨hz, acc'.toList, c', vals_range n acc'.toList (by rw [Array.length_toList]; exact hacc.1) (fun j v e => hacc.2 j v (by simpa using e)), by simpa using hS⟩), rfl, q _ (I.hok.fresh (Nat.le_refl _))⟩
/-- set(xs) of ints -/
theorem call_set_of (hc : X.calm = true) : CallR X (.type "set") (fun xs H Q => ∃ (p : Addr) (ns : List Int), xs = [.ref p] ∧ H p = some (.lst (ns.map V.int)) ∧ ns.length ≤ 1000 ∧ ∀ l S, H l = none → Q (.ref l) (upd H l (.set S (ns.foldl Tw.dd []).length))) := by
  intro pins s σ H xs us Q I r h
  obtain ⟨p, ns, rfl, hp, hn, q⟩ := h
  obtain ⟨u, rfl, rx⟩ := vals1 r
  cases rx
  obtain ⟨z, its, n, rv, e⟩ := I.hok p _ hp
  have hi := intsAre_of rv
  have hl : its.length = ns.length := hi.length
  have ef : firstMet (fun i => ns.getD i 0) its.toArray.size = ns.foldl Tw.dd [] := by
    unfold firstMet
    rw [List.size_toArray, hl, Tw.range_getD]
    rfl
  refine call_set_list (I.ok.hd hc) (items := its.toArray) (ns := ns) ⟨_, e, rfl, n, rfl⟩ hi (by rw [List.size_toArray, hl]; show ns.length + 1 < 4096; omega) fun h' tk hS kp => ?_
  rw [ef] at hS
  exact ⟨.ref s.heap.objs.size, _, I.laid (t' := tk) (fun b o e => kp b o (Heap.lt_size e) e) (Nat.le_refl _) (show ObjOk X.prog X.w _ h' _ (.set _ (ns.foldl Tw.dd []).length) from hS), rfl, q _ _ (I.hok.fresh (Nat.le_refl _))⟩
theorem call_lenS : CallR X (.builtin "len") (fun xs H Q => ∃ (p : Addr) (S : Int → Bool) (n : Nat), xs = [.ref p] ∧ H p = some (.set S n) ∧ Q (.int (n : Int)) H) := by
  intro pins s σ H xs us Q I r h
  obtain ⟨p, S, n, rfl, hp, q⟩ := h
  obtain ⟨u, rfl, rx⟩ := vals1 r
  cases rx
  obtain ⟨o, es, ep, t, ho, hex, hd, _, _, hb, hf, rfl⟩ := I.hok p _ hp
  have hb' : es.size < 4096 := hb
  exact call_len_set ho hex hd hf (by omega) ⟨.int (es.size : Int), H, I.tok _, ⟨_, rfl⟩, q⟩
/-- xs.count(k) of ints -/
theorem mt_countI : MtM X "list.count" (fun x vs H Q => ∃ (l : Addr) (ns : List Int) (k : Int), x = .ref l ∧ vs = [.int k] ∧ H l = some (.lst (ns.map V.int)) ∧ Q (.int ((ns.count k : Nat) : Int)) H) := by
  intro pins s σ H x vs v us Q I rx rv h
  obtain ⟨l, ns, k, rfl, rfl, hl, q⟩ := h
  cases rx
  obtain ⟨u, rfl, t, rfl⟩ := vals1 rv
  obtain ⟨z, its, n, rv2, e⟩ := I.hok l _ hl
  exact count_list_ints ⟨_, e, rfl, n, rfl⟩ (intsAre_of rv2) ⟨.int ((ns.count k : Nat) : Int), H, I.tok _, ⟨_, rfl⟩, q⟩
end
/-! ### A def by its name: its promise, and how it is called -/
def Ok (P : Program) (w : World) (K : PySem.W.Frag) (mg : Str → Option Value) (base : Heap) (k : Nat) (x : Str) (ps : List Str) (sp : Sp) : Prop :=
  ∃ (f : Addr) (fd : FuncData), FnOk P w K mg base CX0 k f fd ps sp ∧ Binds K fd ps [] ∧ mg x = some (.ref f) ∧ PySem.W.keepIn K (.ref f) = true
/-- a def of the text, as the top has made it -/
def Fn (K : PySem.W.Frag) (mg : Str → Option Value) (x : Str) (st : Stmt) (ps : List Str) : Prop := ∃ (f : Addr) (fd : FuncData), Fun K x x st f fd ∧ Binds K fd ps [] ∧ mg x = some (.ref f)
section
variable {P : Program} {w : World} {K : PySem.W.Frag} {mg : Str → Option Value} {base : Heap}
theorem Ok.mono {j k : Nat} {x : Str} {ps : List Str} {sp : Sp} (h : Ok P w K mg base j x ps sp) (hk : j ≤ k) : Ok P w K mg base k x ps sp := by
  obtain ⟨f, fd, a, b, c, d⟩ := h
  exact ⟨f, fd, a.mono hk, b, c, d⟩
theorem Fn.ok {x : Str} {st : Stmt} {N ps : List Str} {k : Nat} {sp : Sp} (F : Fn K mg x st ps) (S : FnScope N ps (defScope st)) (len : ∀ vs H Q E, sp vs H Q E → vs.length = ps.length)
    (hbody : ∀ (f : Addr) (cdv : Value) (A : Around) (outer : List Env) (s : Shared) (H : Hp) (vs : List V) (Q : VK) (E : XK), Room k (A.deeper (envOfC x (defScope st) s.heap.objs.size f cdv)) → sp vs H Q E →
      ∃ t, PSs (cxOf CX0 P w K mg base N x (defScope st) f cdv A outer s H E).nox (defBody st) t ∧ t { nx := fun _ H' => Q .non H', rt := Q } (start N vs) H) : Ok P w K mg base (k + 1) x ps sp := by
  obtain ⟨f, fd, a, b, c⟩ := F
  exact ⟨f, fd, a.ok S len (fun cdv A outer s H vs Q E hr h => hbody f cdv A outer s H vs Q E hr h), b, c, a.kp⟩
end
section
variable {X : Cx} {k : Nat} {x : Str} {ps : List Str} {sp : Sp} {p pos : Pos} {e : Expr} {es : List Expr} {t : TA}
theorem pe_callO (o : Ok X.prog X.w X.K X.mg X.base k x ps sp) (hr : Room k X.A) (hg : Gl X x) (ha : PA X (e :: es) t) (hdb : (x == ("__debug__" : Str)) = false := by decide)
    (he : starEach (e :: es) X.env = (false, eval e X.env) :: starEach es X.env := by rfl) (hpl : (backTo pos (starEach es X.env)).any (·.1) = false := by rfl) :
    PE X (.Call (.Name x p) (e :: es) [] pos) (tCall sp [] E0 t) := by
  obtain ⟨f, fd, a, b, c, d⟩ := o
  exact pe_call a hr hg c d b .nil pass0 ha hdb he hpl
/-- the def that stands in the i-th slot -/
def tCallV (P : Program) (w : World) (K : PySem.W.Frag) (mg : Str → Option Value) (base : Heap) (k : Nat) (i : Nat) (t : TA) : TE := fun σ H Q =>
  ∃ (f : Addr) (fd : FuncData) (ps : List Str) (sp : Sp), σ[i]? = some (some (.ref f)) ∧ FnOk P w K mg base CX0 k f fd ps sp ∧ Binds K fd ps [] ∧ PySem.W.keepIn K (.ref f) = true ∧ t σ H fun vs H1 => sp (vs ++ []) H1 Q E0
theorem pe_callV (i : Nat) (hr : Room k X.A) (ha : PA X (e :: es) t) (hN : X.N[i]? = some x := by rfl) (hv : Vis X.env.scope x := by first | exact Or.inl rfl | exact Or.inr (Or.inl rfl) | exact Or.inr (Or.inr rfl))
    (hdb : (x == ("__debug__" : Str)) = false := by decide) (hcd : (x == ("__classdict__" : Str)) = false := by decide)
    (he : starEach (e :: es) X.env = (false, eval e X.env) :: starEach es X.env := by rfl) (hpl : (backTo pos (starEach es X.env)).any (·.1) = false := by rfl) :
    PE X (.Call (.Name x p) (e :: es) [] pos) (tCallV X.prog X.w X.K X.mg X.base k i t) := by
  intro pins s σ H Q I h
  obtain ⟨f, fd, ps, sp, hi, F, hb, hk, h⟩ := h
  refine wpAny_Call_Name_kw (thn (pe_var hN hv hdb hcd pins s σ H (fun v H1 => v = V.ref f ∧ H1 = H) I ⟨_, hi, rfl, rfl⟩) fun u s1 ⟨v, H1, I1, r1, e1, e2⟩ => ?_)
  subst e1 e2
  obtain rfl : u = Value.ref f := r1
  refine PySem.W.callWith_K (h₀ := X.base) I1.ok.mod.kin hk (thn (ha pos pins s1 σ H1 _ I1 h) fun us s2 ⟨vs, H2, I2, r, q⟩ => ⟨I2.kIn, ?_⟩) he hpl
  exact run_fn F hr hb .nil pass0 I2 r q
end
end L2

namespace Sky
open PySem PySem.Spec PyProof.Rows L2
open Tw (Ins Spn Small SmallS B)
/-! ### The text by places -/
def top (i : Nat) : Stmt := PySem.Challenge.pw_movingdiscs_s01_answers.main.body.getD i (.Pass ⟨0, 0, 0, 0⟩)
abbrev sInitI : Stmt := inClass (top 1) 0
abbrev sInitS : Stmt := inClass (top 2) 0
abbrev sWholeI : Stmt := top 3
abbrev sSignOf : Stmt := top 4
abbrev sRoot : Stmt := top 5
abbrev sSign1 : Stmt := top 6
abbrev sSign2 : Stmt := top 7
abbrev sCompared : Stmt := top 8
abbrev sTold : Stmt := top 9
abbrev sSpanOf : Stmt := top 10
abbrev sBetween : Stmt := top 11
abbrev sInitB : Stmt := inClass (top 13) 0
abbrev sMiddle : Stmt := top 14
abbrev sNearer : Stmt := top 15
abbrev sMayHide : Stmt := top 16
abbrev sWithin : Stmt := top 17
abbrev sMeetingOf : Stmt := top 18
abbrev sHidingOf : Stmt := top 19
abbrev sApart : Stmt := top 20
abbrev sOverAt : Stmt := top 21
abbrev sHidesAt : Stmt := top 22
abbrev sView : Stmt := top 23
abbrev sGroups : Stmt := top 24
abbrev sJoin2 : Stmt := top 25
abbrev sInitM : Stmt := inClass (top 27) 0
abbrev sInsertM : Stmt := top 28
abbrev sOrdered : Stmt := top 29
abbrev sGoesOn : Stmt := top 30
abbrev sCountB : Stmt := top 31
abbrev sFirstM : Stmt := top 32
abbrev sFreeB : Stmt := top 33
abbrev sCounted : Stmt := top 47
abbrev sAreTwo : Stmt := top 48
abbrev sWell : Stmt := top 49
abbrev sBodyTold : Stmt := top 50
abbrev sBegins : Stmt := top 51
abbrev sBody : Stmt := top 52
abbrev sDrop : Stmt := top 53
abbrev sSpanA : Stmt := top 54
abbrev sMeets : Stmt := top 55
abbrev sHides : Stmt := top 56
abbrev sCompare : Stmt := top 57
abbrev sOrder : Stmt := top 58
abbrev sMost : Stmt := top 59
abbrev sSeen : Stmt := top 60
abbrev sJoined : Stmt := top 61
abbrev sFree : Stmt := top 62
abbrev sNext : Stmt := top 63
abbrev sWhere : Stmt := top 64
abbrev sAnswers : Stmt := top 67
/-! ### Data -/
def fI (x : Ins) : List (Str × V) := putF "parts" (.int x.p) (putF "square" (.int x.q) (putF "whole" (.int x.w) []))
theorem fI_w (x : Ins) : (fI x).lookup ("whole" : Str) = some (.int x.w) := by
  unfold fI
  rw [lookup_putF, if_neg (by decide +kernel), lookup_putF, if_neg (by decide +kernel), lookup_putF, if_pos rfl]
theorem fI_q (x : Ins) : (fI x).lookup ("square" : Str) = some (.int x.q) := by
  unfold fI
  rw [lookup_putF, if_neg (by decide +kernel), lookup_putF, if_pos rfl]
theorem fI_p (x : Ins) : (fI x).lookup ("parts" : Str) = some (.int x.p) := by
  unfold fI
  rw [lookup_putF, if_pos rfl]
/-- an Instant x stands at a -/
def InsAt (C : Addr) (H : Hp) (a : Addr) (x : Ins) : Prop := ∃ dx, H a = some (.ins C dx (fI x))
theorem InsAt.mono {C : Addr} {H H' : Hp} {a : Addr} {x : Ins} (h : InsAt C H a x) (s : Same H H') : InsAt C H' a x := let ⟨dx, e⟩ := h; ⟨dx, s _ _ e⟩
structure ClsI (K : PySem.W.Frag) (mg : Str → Option Value) (C : Addr) : Prop where
  cl : Cls K C
  nW : NoAttr K C "whole"
  nQ : NoAttr K C "square"
  nP : NoAttr K C "parts"
  mgC : mg "Instant" = some (.ref C)
  fn : ∃ f fd, Mk K C f ∧ Fun K "__init__" "Instant.__init__" sInitI f fd ∧ Binds K fd ["self", "whole", "square", "parts"] []
section
variable {P : Program} {w : World} {K : PySem.W.Frag} {mg : Str → Option Value} {base : Heap} {C : Addr}
/-! ### sign_of, root_below -/
def spSignOf : Sp := fun vs H Q _ => ∃ n : Int, vs = [.int n] ∧ Q (.int (Sy38.sgn n)) H
theorem scSignOf : FnScope ["number"] ["number"] (defScope sSignOf) := ⟨rfl, rfl, rfl, by decide +kernel, rfl, by decide +kernel, by decide +kernel⟩
theorem ok_signOf (F : Fn K mg "sign_of" sSignOf ["number"]) : Ok P w K mg base 1 "sign_of" ["number"] spSignOf := by
  refine F.ok scSignOf (fun vs H Q E h => ?_) (fun f cdv A outer s H vs Q E hr h => ?_)
  · obtain ⟨n, rfl, _⟩ := h
    rfl
  · obtain ⟨n, rfl, k⟩ := h
    refine ⟨_, pss_cons (ps_if (pt_cmpR op_gt (pv 0) pe_int (nomark _)) (pss_one (ps_ret pe_int)) pss_nil)
      (pss_cons (ps_if (pt_cmpR op_lt (pv 0) pe_int (nomark _)) (pss_one (ps_ret (pe_un un_neg pe_int))) pss_nil)
      (pss_one (ps_ret pe_int))), ?_⟩
    obtain ⟨k1, k2, k3⟩ := Tw.sgn_key n
    refine ⟨_, rfl, _, _, rfl, rfl, _, rfl, ite2 (fun h => ?_) (fun h => ?_)⟩
    · have h : 0 < n := of_decide_eq_true h
      rw [k1.mpr h] at k
      exact k
    · have h : ¬ 0 < n := fun z => h (decide_eq_true z)
      refine ⟨_, rfl, _, _, rfl, rfl, _, rfl, ite2 (fun h' => ?_) (fun h' => ?_)⟩
      · have h' : n < 0 := of_decide_eq_true h'
        rw [k3.mpr h'] at k
        exact ⟨_, rfl, k⟩
      · have h' : ¬ n < 0 := fun z => h' (decide_eq_true z)
        rw [k2.mpr (by omega)] at k
        exact k
def spRoot : Sp := fun vs H Q _ => ∃ n : Nat, vs = [.int (n : Int)] ∧ n < 2 ^ 80 ∧ Q (.int ((Sy38.root n : Nat) : Int)) H
theorem scRoot : FnScope ["number", "low", "high", "middle"] ["number"] (defScope sRoot) := ⟨rfl, rfl, rfl, by decide +kernel, rfl, by decide +kernel, by decide +kernel⟩
theorem ok_root (F : Fn K mg "root_below" sRoot ["number"]) : Ok P w K mg base 1 "root_below" ["number"] spRoot := by
  refine F.ok scRoot (fun vs H Q E h => ?_) (fun f cdv A outer s H vs Q E hr h => ?_)
  · obtain ⟨n, rfl, _⟩ := h
    rfl
  · obtain ⟨n, rfl, hn, k⟩ := h
    refine ⟨_, pss_cons (ps_set (i := 1) scRoot.nd rfl (Or.inl rfl) pe_int)
      (pss_cons (ps_set (i := 2) scRoot.nd rfl (Or.inl rfl) (pe_op op_add (pv 0) pe_int))
      (pss_cons (ps_while PassesOwn.never (pt_cmpR op_gt (pe_op op_sub (pv 2) (pv 1)) pe_int (nomark _))
        (pss_cons (ps_set (i := 3) scRoot.nd rfl (Or.inl rfl) (pe_op op_fdiv (pe_op op_add (pv 1) (pv 2)) pe_int))
        (pss_one (ps_if (pt_cmpR op_le (pe_op op_mulB (pv 3) (pv 3)) (pv 0) (nomark _)) (pss_one (ps_set (i := 1) scRoot.nd rfl (Or.inl rfl) (pv 3))) (pss_one (ps_set (i := 2) scRoot.nd rfl (Or.inl rfl) (pv 3)))))))
      (pss_one (ps_ret (pv 1))))), ?_⟩
    refine ⟨_, rfl, _, _, rfl, rfl, ?_⟩
    refine ⟨fun m σ H' => ∃ (a b : Nat) (v : Option V), m = b - a ∧ a < b ∧ b ≤ n + 1 ∧ a * a ≤ n ∧ n < b * b ∧ σ = [some (.int (n : Int)), some (.int (a : Int)), some (.int (b : Int)), v] ∧ H = H', ⟨n + 1 - 0, 0, n + 1, none, rfl, by omega, by omega, by omega, ?_, rfl, rfl⟩, ?_⟩
    · have : (n + 1) * (n + 1) = n * n + 2 * n + 1 := by grind
      omega
    · rintro m σ H' ⟨a, b, v, rfl, hab, hbn, h1, h2, rfl, rfl⟩
      refine ⟨_, rfl, _, rfl, _, _, rfl, rfl, _, _, rfl, rfl, _, rfl, ite2 (fun h => ?_) (fun h => ?_)⟩
      · have h : (1 : Int) < (b : Int) - (a : Int) := of_decide_eq_true h
        refine ⟨fun σ' H' => ∃ (a' b' : Nat) (v : Option V), b' - a' < b - a ∧ a' < b' ∧ b' ≤ n + 1 ∧ a' * a' ≤ n ∧ n < b' * b' ∧ σ' = [some (.int (n : Int)), some (.int (a' : Int)), some (.int (b' : Int)), v] ∧ H = H', fun σ' H' q => ?_, ?_⟩
        · obtain ⟨a', b', v', q1, q2⟩ := q
          exact ⟨b' - a', q1, a', b', v', rfl, q2⟩
        · refine ⟨_, rfl, _, rfl, _, _, rfl, rfl, _, _, rfl, rfl, ⟨by decide, by decide⟩, ?_⟩
          have em : ((a : Int) + (b : Int)) / 2 = (((a + b) / 2 : Nat) : Int) := by omega
          obtain ⟨c, hc⟩ : ∃ c, c = (a + b) / 2 := ⟨_, rfl⟩
          have h3 : (some (some (V.int (((a : Int) + (b : Int)) / 2))) : Option (Option V)) = some (some (V.int (c : Int))) := by rw [em, ← hc]
          have c1 : a < c := by omega
          have c2 : c < b := by omega
          have bc : B 100 (c : Int) := by
            have : (2 : Nat) ^ 80 < 2 ^ 100 := by decide
            exact .of (by omega) (by omega)
          refine ⟨_, h3, _, h3, _, _, rfl, rfl, cb bc bc, _, rfl, _, _, rfl, rfl, _, rfl, ite2 (fun h' => ?_) (fun h' => ?_)⟩
          · have h' : (c : Int) * (c : Int) ≤ (n : Int) := of_decide_eq_true h'
            have h'' : c * c ≤ n := by exact_mod_cast h'
            exact ⟨_, h3, c, b, _, by omega, c2, hbn, h'', h2, rfl, rfl⟩
          · have h' : ¬ (c : Int) * (c : Int) ≤ (n : Int) := fun z => h' (decide_eq_true z)
            have h'' : ¬ c * c ≤ n := fun z => h' (by exact_mod_cast z)
            exact ⟨_, h3, a, c, _, by omega, c1, by omega, h1, by omega, rfl, rfl⟩
      · have h : ¬ (1 : Int) < (b : Int) - (a : Int) := fun z => h (decide_eq_true z)
        have hb : b = a + 1 := by omega
        subst hb
        have r := Tw.root_ok hn
        have e := Tw.root_uniq r.1 r.2 h1 h2
        rw [e] at k
        exact ⟨_, rfl, k⟩
end
end Sky

namespace Sky
open PySem PySem.Spec PyProof.Rows L2
open Tw (Ins Spn Small SmallS B)
section
variable {P : Program} {w : World} {K : PySem.W.Frag} {mg : Str → Option Value} {base : Heap} {C : Addr}
/-! ### signs with roots -/
theorem boot_abs9 : bootBuiltins "abs" = some (.builtin "abs") := by decide +kernel
def spSign1 : Sp := fun vs H Q _ => ∃ n q : Int, vs = [.int n, .int q] ∧ B 700 n ∧ Q (.int (Tw.s1 n q)) H
theorem scSign1 : FnScope ["whole", "square"] ["whole", "square"] (defScope sSign1) := ⟨rfl, rfl, rfl, by decide +kernel, rfl, by decide +kernel, by decide +kernel⟩
theorem ok_sign1 (hA : mg "abs" = none) (F : Fn K mg "sign_with_root" sSign1 ["whole", "square"]) (G : Ok P w K mg base 1 "sign_of" ["number"] spSignOf) : Ok P w K mg base 2 "sign_with_root" ["whole", "square"] spSign1 := by
  refine F.ok scSign1 (fun vs H Q E h => ?_) (fun f cdv A outer s H vs Q E hr h => ?_)
  · obtain ⟨n, q, rfl, _⟩ := h
    rfl
  · obtain ⟨n, q, rfl, hn, k⟩ := h
    refine ⟨_, pss_one (ps_ret (pe_callO G hr rfl (pa_cons (pe_op op_add (pe_op op_mulB (pv 0) (pe_callB call_abs (by rfl) hA boot_abs9 (pa_cons (pv 0) pa_nil))) (pv 1)) pa_nil))), ?_⟩
    exact ⟨_, rfl, _, rfl, _, rfl, _, _, rfl, rfl, cb hn hn.ab, _, rfl, _, _, rfl, rfl, _, rfl, k⟩
def spSign2 : Sp := fun vs H Q _ => ∃ n q o : Int, vs = [.int n, .int q, .int o] ∧ B 300 n ∧ B 300 q ∧ B 300 o ∧ Q (.int (Tw.s2 n q o)) H
theorem scSign2 : FnScope ["whole", "square", "other", "sign", "whole_part"] ["whole", "square", "other"] (defScope sSign2) := ⟨rfl, rfl, rfl, by decide +kernel, rfl, by decide +kernel, by decide +kernel⟩
theorem ok_sign2 (hA : mg "abs" = none) (F : Fn K mg "sign_with_two_roots" sSign2 ["whole", "square", "other"]) (G : Ok P w K mg base 1 "sign_of" ["number"] spSignOf) (G1 : Ok P w K mg base 2 "sign_with_root" ["whole", "square"] spSign1) :
    Ok P w K mg base 3 "sign_with_two_roots" ["whole", "square", "other"] spSign2 := by
  refine F.ok scSign2 (fun vs H Q E h => ?_) (fun f cdv A outer s H vs Q E hr h => ?_)
  · obtain ⟨n, q, o, rfl, _⟩ := h
    rfl
  · obtain ⟨n, q, o, rfl, hn, hq, ho, k⟩ := h
    refine ⟨_, pss_cons (ps_set (i := 3) scSign2.nd rfl (Or.inl rfl) (pe_callO G (hr.mono (by decide)) rfl (pa_cons (pe_op op_add (pv 1) (pv 2)) pa_nil)))
      (pss_cons (ps_set (i := 4) scSign2.nd rfl (Or.inl rfl) (pe_op op_add (pe_op op_mulB (pv 0) (pe_callB call_abs (by rfl) hA boot_abs9 (pa_cons (pv 0) pa_nil)))
        (pe_op op_mulB (pv 3) (pe_op op_add (pe_callB call_abs (by rfl) hA boot_abs9 (pa_cons (pv 1) pa_nil)) (pe_callB call_abs (by rfl) hA boot_abs9 (pa_cons (pv 2) pa_nil))))))
      (pss_one (ps_ret (pe_callO G1 hr rfl (pa_cons (pv 4) (pa_cons (pe_op op_mulB (pe_op op_mulB (pe_op op_mulB (pv 3) pe_int) (pv 1)) (pv 2)) pa_nil)))))), ?_⟩
    have bs := B.sgn (q + o)
    have b4 : B 3 4 := by unfold B; decide
    have ba : B 301 (Tw.ab q + Tw.ab o) := hq.ab.add ho.ab
    refine ⟨_, rfl, _, rfl, _, _, rfl, rfl, _, rfl, ?_⟩
    refine ⟨_, rfl, _, rfl, _, rfl, _, _, rfl, rfl, cb hn hn.ab, _, rfl, _, rfl, _, rfl, _, rfl, _, rfl, _, _, rfl, rfl, _, _, rfl, rfl, cb bs ba, _, _, rfl, rfl, ?_⟩
    have b1 : B 601 (n * Tw.ab n + Sy38.sgn (q + o) * (Tw.ab q + Tw.ab o)) := ((hn.mul hn.ab).mono (by decide)).add ((bs.mul ba).mono (by decide) : B 600 _)
    exact ⟨_, rfl, _, rfl, _, _, rfl, rfl, cb bs b4, _, rfl, _, _, rfl, rfl, cb (bs.mul b4) hq, _, rfl, _, _, rfl, rfl, cb ((bs.mul b4).mul hq) ho, _, _, rfl, b1.mono (by decide), k⟩
/-! ### compared -/
def spCompared (C : Addr) : Sp := fun vs H Q _ => ∃ (a b : Addr) (x y : Ins), vs = [.ref a, .ref b] ∧ InsAt C H a x ∧ InsAt C H b y ∧ Small x ∧ Small y ∧ Q (.int (Tw.cmp x y)) H
theorem scCompared : FnScope ["one", "other", "whole", "square", "other_square"] ["one", "other"] (defScope sCompared) := ⟨rfl, rfl, rfl, by decide +kernel, rfl, by decide +kernel, by decide +kernel⟩
theorem small_p {x : Ins} (h : Small x) : B 64 x.p := by
  have := h.p1; have := h.p2
  exact .of (by omega) (by omega)
theorem ok_compared (T : ClsI K mg C) (F : Fn K mg "compared" sCompared ["one", "other"]) (G : Ok P w K mg base 3 "sign_with_two_roots" ["whole", "square", "other"] spSign2) : Ok P w K mg base 4 "compared" ["one", "other"] (spCompared C) := by
  refine F.ok scCompared (fun vs H Q E h => ?_) (fun f cdv A outer s H vs Q E hr h => ?_)
  · obtain ⟨a, b, x, y, rfl, _⟩ := h
    rfl
  · obtain ⟨a, b, x, y, rfl, ha, hb, sx, sy, k⟩ := h
    obtain ⟨da, ea⟩ := ha
    obtain ⟨db, eb⟩ := hb
    have px := small_p sx
    have py := small_p sy
    refine ⟨_, pss_cons (ps_set (i := 2) scCompared.nd rfl (Or.inl rfl) (pe_op op_sub (pe_op op_mulB (pe_fld (pv 0) rfl) (pe_fld (pv 1) rfl)) (pe_op op_mulB (pe_fld (pv 1) rfl) (pe_fld (pv 0) rfl))))
      (pss_cons (ps_set (i := 3) scCompared.nd rfl (Or.inl rfl) (pe_op op_mulB (pe_op op_mulB (pe_fld (pv 0) rfl) (pe_fld (pv 1) rfl)) (pe_fld (pv 1) rfl)))
      (pss_cons (ps_set (i := 4) scCompared.nd rfl (Or.inl rfl) (pe_op op_mulB (pe_op op_mulB (pe_un un_neg (pe_fld (pv 1) rfl)) (pe_fld (pv 0) rfl)) (pe_fld (pv 0) rfl)))
      (pss_one (ps_ret (pe_callO G hr rfl (pa_cons (pv 2) (pa_cons (pv 3) (pa_cons (pv 4) pa_nil)))))))), ?_⟩
    refine ⟨_, rfl, a, C, da, _, _, rfl, ea, T.cl, T.nW, fI_w _, _, rfl, b, C, db, _, _, rfl, eb, T.cl, T.nP, fI_p _, _, _, rfl, rfl, cb sx.w py, _, rfl, b, C, db, _, _, rfl, eb, T.cl, T.nW, fI_w _, _, rfl, a, C, da, _, _, rfl, ea, T.cl, T.nP, fI_p _, _, _, rfl, rfl, cb sy.w px, _, _, rfl, rfl, ?_⟩
    refine ⟨_, rfl, a, C, da, _, _, rfl, ea, T.cl, T.nQ, fI_q _, _, rfl, b, C, db, _, _, rfl, eb, T.cl, T.nP, fI_p _, _, _, rfl, rfl, cb sx.q py, _, rfl, b, C, db, _, _, rfl, eb, T.cl, T.nP, fI_p _, _, _, rfl, rfl, cb (sx.q.mul py) py, ?_⟩
    refine ⟨_, rfl, b, C, db, _, _, rfl, eb, T.cl, T.nQ, fI_q _, _, rfl, _, rfl, a, C, da, _, _, rfl, ea, T.cl, T.nP, fI_p _, _, _, rfl, rfl, cb sy.q.neg px, _, rfl, a, C, da, _, _, rfl, ea, T.cl, T.nP, fI_p _, _, _, rfl, rfl, cb (sy.q.neg.mul px) px, ?_⟩
    refine ⟨_, rfl, _, rfl, _, rfl, _, _, _, rfl, ?_, ?_, ?_, k⟩
    · exact ((sx.w.mul py).sub (sy.w.mul px)).mono (by decide)
    · exact ((sx.q.mul py).mul py).mono (by decide)
    · exact ((sy.q.neg.mul px).mul px).mono (by decide)
/-! ### told -/
def spTold (C : Addr) : Sp := fun vs H Q _ => ∃ (a : Addr) (x : Ins), vs = [.ref a] ∧ InsAt C H a x ∧ Small x ∧ ∀ l, H l = none → Q (.ref l) (upd H l (.lst ((Tw.told x).map V.int)))
theorem scTold : FnScope ["instant", "size", "root", "is_whole_root", "upper", "is_just"] ["instant"] (defScope sTold) := ⟨rfl, rfl, rfl, by decide +kernel, rfl, by decide +kernel, by decide +kernel⟩
theorem ok_told (hA : mg "abs" = none) (T : ClsI K mg C) (F : Fn K mg "told" sTold ["instant"]) (G : Ok P w K mg base 1 "root_below" ["number"] spRoot) : Ok P w K mg base 2 "told" ["instant"] (spTold C) := by
  refine F.ok scTold (fun vs H Q E h => ?_) (fun f cdv A outer s H vs Q E hr h => ?_)
  · obtain ⟨a, x, rfl, _⟩ := h
    rfl
  · obtain ⟨a, x, rfl, ha, sx, k⟩ := h
    refine ⟨_, pss_cons (ps_set (i := 1) scTold.nd rfl (Or.inl rfl) (pe_callB call_abs (by rfl) hA boot_abs9 (pa_cons (pe_fld (pv 0) rfl) pa_nil)))
      (pss_cons (ps_set (i := 2) scTold.nd rfl (Or.inl rfl) (pe_callO G hr rfl (pa_cons (pv 1) pa_nil)))
      (pss_cons (ps_set (i := 3) scTold.nd rfl (Or.inl rfl) (pe_cmpR op_eq (pe_op op_mulB (pv 2) (pv 2)) (pv 1) (nomark _)))
      (pss_cons (ps_if (pt_cmpR op_ge (pe_fld (pv 0) rfl) pe_int (nomark _)) (pss_one (ps_set (i := 4) scTold.nd rfl (Or.inl rfl) (pe_op op_add (pe_fld (pv 0) rfl) (pv 2))))
        (pss_one (ps_if (pt_val (pv 3)) (pss_one (ps_set (i := 4) scTold.nd rfl (Or.inl rfl) (pe_op op_sub (pe_fld (pv 0) rfl) (pv 2))))
          (pss_one (ps_set (i := 4) scTold.nd rfl (Or.inl rfl) (pe_op op_sub (pe_op op_sub (pe_fld (pv 0) rfl) (pv 2)) pe_int))))))
      (pss_cons (ps_set (i := 5) scTold.nd rfl (Or.inl rfl) (pe_and (pv 3) (pe_one (pe_cmpR op_eq (pe_op op_mod (pv 4) (pe_fld (pv 0) rfl)) pe_int (nomark _)))))
      (pss_one (ps_ret (pe_lst (pa_cons (pe_op op_fdiv (pv 4) (pe_fld (pv 0) rfl)) (pa_cons (pe_ifExp (pt_val (pv 5)) pe_int pe_int) pa_nil))))))))), ?_⟩
    obtain ⟨da, ea⟩ := ha
    obtain ⟨n, hn⟩ : ∃ n : Nat, Tw.ab x.q = (n : Int) := ⟨(Tw.ab x.q).toNat, by unfold Tw.ab; split <;> omega⟩
    have bn : B 64 (Tw.ab x.q) := sx.q.ab
    have hn2 : n < 2 ^ 64 := by
      have : (Tw.ab x.q).natAbs < 2 ^ 64 := bn
      omega
    have hn3 : n < 2 ^ 80 := Nat.lt_of_lt_of_le hn2 (by decide)
    obtain ⟨r1, r2⟩ := Tw.root_ok hn3
    obtain ⟨R, hR⟩ : ∃ R, R = Sy38.root n := ⟨_, rfl⟩
    rw [← hR] at r1 r2
    have hRn : R ≤ n := by
      rcases Nat.eq_zero_or_pos R with z | z
      · omega
      · have := Nat.le_mul_of_pos_left R z
        omega
    have bR : B 64 (R : Int) := .of (by omega) (by omega)
    have et : Tw.told x = Tw.toldOf x (R : Int) := by
      unfold Tw.told
      rw [hn, Int.toNat_natCast, ← hR]
    refine ⟨_, rfl, a, C, da, _, _, rfl, ea, T.cl, T.nQ, fI_q _, _, rfl, ?_⟩
    show ∃ v, _ ∧ _
    refine ⟨V.int (n : Int), by rw [← hn]; rfl, n, rfl, hn3, ?_⟩
    rw [← hR]
    refine ⟨_, rfl, _, rfl, _, _, rfl, rfl, cb bR bR, V.int (n : Int), by rw [← hn]; rfl, rfl, ?_⟩
    have hd : (decide (V.int ((R : Int) * (R : Int)) = V.int (n : Int)) = true) ↔ (R : Int) * (R : Int) = Tw.ab x.q := by
      rw [hn]
      exact ⟨fun z => V.int.inj (of_decide_eq_true z), fun z => decide_eq_true (by rw [z])⟩
    generalize decide (V.int ((R : Int) * (R : Int)) = V.int (n : Int)) = bw at *
    have U : (∀ y : Int, y = Tw.upperOf x (R : Int) → tSeq (tAsg (tAndV (tVar 3) (tOp rEq (tOp (rI (fun _ j => 0 < j) fun i j => V.int (i % j)) (tVar 4) (tFld K (tVar 0) "parts")) (tC (.int 0)))) (gName 5))
          (tRet (tLst (tCons (tOp (rI CDiv fun i j => V.int (i / j)) (tVar 4) (tFld K (tVar 0) "parts")) (tCons (tIf (tB (tVar 5)) (tC (.int 1)) (tC (.int 0))) tNil)))) { nx := fun _ H' => Q .non H', rt := Q }
          [some (.ref a), some (.int (n : Int)), some (.int (R : Int)), some (.bl bw), some (.int y), none] H) := by
      intro y hy
      have fin : ∀ bj : Bool, (bj = true ↔ ((R : Int) * (R : Int) = Tw.ab x.q ∧ y % x.p = 0)) → (tRet (tLst (tCons (tOp (rI CDiv fun i j => V.int (i / j)) (tVar 4) (tFld K (tVar 0) "parts")) (tCons (tIf (tB (tVar 5)) (tC (.int 1)) (tC (.int 0))) tNil)))) { nx := fun _ H' => Q .non H', rt := Q }
          [some (.ref a), some (.int (n : Int)), some (.int (R : Int)), some (.bl bw), some (.int y), some (.bl bj)] H := by
        intro bj hb
        refine ⟨_, rfl, _, rfl, a, C, da, _, _, rfl, ea, T.cl, T.nP, fI_p _, _, _, rfl, rfl, ⟨sx.p1, sx.p2⟩, _, rfl, _, rfl, ite2 (fun h => ?_) (fun h => ?_)⟩
        · refine ⟨(by show 2 ≤ sizeLine; decide), fun l hl => ?_⟩
          have := k l hl
          rw [et] at this
          unfold Tw.toldOf at this
          rw [← hy, if_pos (hb.mp h)] at this
          exact this
        · refine ⟨(by show 2 ≤ sizeLine; decide), fun l hl => ?_⟩
          have := k l hl
          rw [et] at this
          unfold Tw.toldOf at this
          rw [← hy, if_neg (fun z => h (hb.mpr z))] at this
          exact this
      refine ⟨_, rfl, _, rfl, ite2 (fun h => ?_) (fun h => ?_)⟩
      · refine ⟨_, rfl, _, rfl, a, C, da, _, _, rfl, ea, T.cl, T.nP, fI_p _, _, _, rfl, rfl, sx.p1, rfl, ?_⟩
        refine fin _ ⟨fun z => ⟨hd.mp h, V.int.inj (of_decide_eq_true z)⟩, fun z => decide_eq_true (congrArg V.int z.2)⟩
      · exact fin false ⟨fun z => absurd z (by decide), fun z => absurd (hd.mpr z.1) h⟩
    refine ⟨_, rfl, a, C, da, _, _, rfl, ea, T.cl, T.nQ, fI_q _, _, _, rfl, rfl, _, rfl, ite2 (fun h => ?_) (fun h => ?_)⟩
    · have h : (0 : Int) ≤ x.q := of_decide_eq_true h
      refine ⟨_, rfl, a, C, da, _, _, rfl, ea, T.cl, T.nW, fI_w _, _, rfl, _, _, rfl, rfl, U _ ?_⟩
      unfold Tw.upperOf
      rw [if_pos h]
    · have h : ¬ (0 : Int) ≤ x.q := fun z => h (decide_eq_true z)
      refine ⟨_, rfl, _, rfl, ite2 (fun h' => ?_) (fun h' => ?_)⟩
      · refine ⟨_, rfl, a, C, da, _, _, rfl, ea, T.cl, T.nW, fI_w _, _, rfl, _, _, rfl, rfl, U _ ?_⟩
        unfold Tw.upperOf
        rw [if_neg h, if_pos (hd.mp h')]
      · refine ⟨_, rfl, a, C, da, _, _, rfl, ea, T.cl, T.nW, fI_w _, _, rfl, _, _, rfl, rfl, _, _, rfl, rfl, U _ ?_⟩
        unfold Tw.upperOf
        rw [if_neg h, if_neg (fun z => h' (hd.mpr z))]
end
end Sky

namespace Sky
open PySem PySem.Spec PyProof.Rows L2
open Tw (Ins Spn Small SmallS B)
/-! ### Spans as data -/
def fS (al : Bool) (f l : V) : List (Str × V) := putF "last" l (putF "first" f (putF "already" (.bl al) []))
theorem fS_a (al : Bool) (f l : V) : (fS al f l).lookup ("already" : Str) = some (.bl al) := by
  unfold fS
  rw [lookup_putF, if_neg (by decide +kernel), lookup_putF, if_neg (by decide +kernel), lookup_putF, if_pos rfl]
theorem fS_f (al : Bool) (f l : V) : (fS al f l).lookup ("first" : Str) = some f := by
  unfold fS
  rw [lookup_putF, if_neg (by decide +kernel), lookup_putF, if_pos rfl]
theorem fS_l (al : Bool) (f l : V) : (fS al f l).lookup ("last" : Str) = some l := by
  unfold fS
  rw [lookup_putF, if_pos rfl]
/-- the last of a span: none, or an Instant -/
def EndAt (C : Addr) (H : Hp) (v : V) : Option Ins → Prop
  | none => v = .non
  | some t => ∃ a, v = .ref a ∧ InsAt C H a t
theorem EndAt.mono {C : Addr} {H H' : Hp} {v : V} {o : Option Ins} (h : EndAt C H v o) (s : Same H H') : EndAt C H' v o := by
  cases o with
  | none => exact h
  | some t =>
    obtain ⟨a, e, i⟩ := h
    exact ⟨a, e, i.mono s⟩
/-- a Span z stands at p -/
def SpnAt (CI CS : Addr) (H : Hp) (p : Addr) (z : Spn) : Prop := ∃ (dx af : Addr) (l : V), H p = some (.ins CS dx (fS z.al (.ref af) l)) ∧ InsAt CI H af z.fr ∧ EndAt CI H l z.to
theorem SpnAt.mono {CI CS : Addr} {H H' : Hp} {p : Addr} {z : Spn} (h : SpnAt CI CS H p z) (s : Same H H') : SpnAt CI CS H' p z := by
  obtain ⟨dx, af, l, e, i, t⟩ := h
  exact ⟨dx, af, l, s _ _ e, i.mono s, t.mono s⟩
/-- what span_of gives back -/
def RSpan (CI CS : Addr) (H : Hp) (r : V) : Option Spn → Prop
  | none => r = .non
  | some z => ∃ p, r = .ref p ∧ SpnAt CI CS H p z
structure ClsS (K : PySem.W.Frag) (mg : Str → Option Value) (C : Addr) : Prop where
  cl : Cls K C
  nA : NoAttr K C "already"
  nF : NoAttr K C "first"
  nL : NoAttr K C "last"
  mgC : mg "Span" = some (.ref C)
  fn : ∃ f fd, Mk K C f ∧ Fun K "__init__" "Span.__init__" sInitS f fd ∧ Binds K fd ["self", "already", "first", "last"] []
section
variable {P : Program} {w : World} {K : PySem.W.Frag} {mg : Str → Option Value} {base : Heap} {CI CS : Addr}
/-! ### the two __init__ -/
def spInitI (C : Addr) : Sp := fun vs H Q _ => ∃ (p dx : Addr) (x : Ins), vs = [.ref p, .int x.w, .int x.q, .int x.p] ∧ H p = some (.ins C dx []) ∧ ∀ H' : Hp, InsAt C H' p x → (∀ b o, H b = some o → b ≠ p → H' b = some o) → Q .non H'
theorem scInitI : FnScope ["self", "whole", "square", "parts"] ["self", "whole", "square", "parts"] (defScope sInitI) := ⟨rfl, rfl, rfl, by decide +kernel, rfl, by decide +kernel, by decide +kernel⟩
theorem ok_initI {f : Addr} {fd : FuncData} (T : ClsI K mg CI) (F : Fun K "__init__" "Instant.__init__" sInitI f fd) : FnOk P w K mg base CX0 1 f fd ["self", "whole", "square", "parts"] (spInitI CI) := by
  refine F.ok scInitI (fun vs H Q E h => ?_) (fun cdv A outer s H vs Q E hr h => ?_)
  · obtain ⟨p, dx, x, rfl, _⟩ := h
    rfl
  · obtain ⟨p, dx, x, rfl, hp, k⟩ := h
    refine ⟨_, pss_cons (ps_fld (pv 0) (pv 1) rfl) (pss_cons (ps_fld (pv 0) (pv 2) rfl) (pss_one (ps_fld (pv 0) (pv 3) rfl))), ?_⟩
    refine ⟨_, rfl, _, rfl, p, CI, dx, [], rfl, hp, T.cl, T.nW, (by show 0 < 1000; decide), ?_⟩
    refine ⟨_, rfl, _, rfl, p, CI, dx, _, rfl, upd_same, T.cl, T.nQ, (Nat.lt_of_le_of_lt (length_putF _ _ _) (by show 1 < 1000; decide)), ?_⟩
    refine ⟨_, rfl, _, rfl, p, CI, dx, _, rfl, upd_same, T.cl, T.nP, (Nat.lt_of_le_of_lt (length_putF _ _ _) (Nat.lt_of_le_of_lt (Nat.succ_le_succ (length_putF _ _ _)) (by show 2 < 1000; decide))), ?_⟩
    exact k _ ⟨dx, upd_same⟩ fun b o e hb => by rw [upd_ne hb, upd_ne hb, upd_ne hb]; exact e
def spInitS (C : Addr) : Sp := fun vs H Q _ => ∃ (p dx : Addr) (al : Bool) (f l : V), vs = [.ref p, .bl al, f, l] ∧ H p = some (.ins C dx []) ∧ ∀ H' : Hp, H' p = some (.ins C dx (fS al f l)) → (∀ b o, H b = some o → b ≠ p → H' b = some o) → Q .non H'
theorem scInitS : FnScope ["self", "already", "first", "last"] ["self", "already", "first", "last"] (defScope sInitS) := ⟨rfl, rfl, rfl, by decide +kernel, rfl, by decide +kernel, by decide +kernel⟩
theorem ok_initS {f : Addr} {fd : FuncData} (T : ClsS K mg CS) (F : Fun K "__init__" "Span.__init__" sInitS f fd) : FnOk P w K mg base CX0 1 f fd ["self", "already", "first", "last"] (spInitS CS) := by
  refine F.ok scInitS (fun vs H Q E h => ?_) (fun cdv A outer s H vs Q E hr h => ?_)
  · obtain ⟨p, dx, al, f, l, rfl, _⟩ := h
    rfl
  · obtain ⟨p, dx, al, f, l, rfl, hp, k⟩ := h
    refine ⟨_, pss_cons (ps_fld (pv 0) (pv 1) rfl) (pss_cons (ps_fld (pv 0) (pv 2) rfl) (pss_one (ps_fld (pv 0) (pv 3) rfl))), ?_⟩
    refine ⟨_, rfl, _, rfl, p, CS, dx, [], rfl, hp, T.cl, T.nA, (by show 0 < 1000; decide), ?_⟩
    refine ⟨_, rfl, _, rfl, p, CS, dx, _, rfl, upd_same, T.cl, T.nF, (Nat.lt_of_le_of_lt (length_putF _ _ _) (by show 1 < 1000; decide)), ?_⟩
    refine ⟨_, rfl, _, rfl, p, CS, dx, _, rfl, upd_same, T.cl, T.nL, (Nat.lt_of_le_of_lt (length_putF _ _ _) (Nat.lt_of_le_of_lt (Nat.succ_le_succ (length_putF _ _ _)) (by show 2 < 1000; decide))), ?_⟩
    exact k _ upd_same fun b o e hb => by rw [upd_ne hb, upd_ne hb, upd_ne hb]; exact e
/-! ### whole_instant -/
def spWholeI (CI : Addr) : Sp := fun vs H Q _ => ∃ n : Int, vs = [.int n] ∧ ∀ (p : Addr) (H' : Hp), H p = none → Same H H' → InsAt CI H' p ⟨n, 0, 1⟩ → Q (.ref p) H'
theorem scWholeI : FnScope ["number"] ["number"] (defScope sWholeI) := ⟨rfl, rfl, rfl, by decide +kernel, rfl, by decide +kernel, by decide +kernel⟩
theorem ok_wholeI (TI : ClsI K mg CI) (F : Fn K mg "whole_instant" sWholeI ["number"]) : Ok P w K mg base 3 "whole_instant" ["number"] (spWholeI CI) := by
  obtain ⟨fi, fdi, MI, FI, bI⟩ := TI.fn
  have GI : FnOk P w K mg base CX0 1 fi fdi ["self", "whole", "square", "parts"] (spInitI CI) := ok_initI TI FI
  refine F.ok scWholeI (fun vs H Q E h => ?_) (fun f cdv A outer s H vs Q E hr h => ?_)
  · obtain ⟨n, rfl, _⟩ := h
    rfl
  · obtain ⟨n, rfl, k⟩ := h
    refine ⟨_, pss_one (ps_ret (pe_make MI GI hr rfl TI.mgC bI .nil pass0 (pa_cons (pv 0) (pa_cons pe_int (pa_cons pe_int pa_nil))))), ?_⟩
    refine ⟨_, rfl, ?_⟩
    intro x0 d0 n0 m0 e0
    refine ⟨x0, d0, ⟨n, 0, 1⟩, rfl, upd_same, fun H1 i1 k1 => ⟨rfl, ?_⟩⟩
    exact k x0 H1 n0 (Same.made n0 m0 k1) i1
/-! ### span_of -/
def spSpanOf (CI CS : Addr) : Sp := fun vs H Q _ => ∃ (q : Sy38.Quad) (e : Bool), vs = [.int q.a, .int q.b, .int q.c, .bl e] ∧ Tw.QOk q ∧ ∀ (r : V) (H' : Hp), Same H H' → RSpan CI CS H' r (Tw.spanOf q.a q.b q.c (if e = true then 1 else 0)) → Q r H'
theorem scSpanOf : FnScope ["square", "half", "rest", "with_edge", "edge", "start", "already", "under_root", "first"] ["square", "half", "rest", "with_edge"] (defScope sSpanOf) := ⟨rfl, rfl, rfl, by decide +kernel, rfl, by decide +kernel, by decide +kernel⟩
theorem ok_spanOf (TI : ClsI K mg CI) (TS : ClsS K mg CS) (GW : Ok P w K mg base 3 "whole_instant" ["number"] (spWholeI CI)) (F : Fn K mg "span_of" sSpanOf ["square", "half", "rest", "with_edge"]) : Ok P w K mg base 4 "span_of" ["square", "half", "rest", "with_edge"] (spSpanOf CI CS) := by
  obtain ⟨fi, fdi, MI, FI, bI⟩ := TI.fn
  obtain ⟨fs, fds, MS, FS, bS⟩ := TS.fn
  have GI : FnOk P w K mg base CX0 1 fi fdi ["self", "whole", "square", "parts"] (spInitI CI) := ok_initI TI FI
  have GS : FnOk P w K mg base CX0 1 fs fds ["self", "already", "first", "last"] (spInitS CS) := ok_initS TS FS
  refine F.ok scSpanOf (fun vs H Q E h => ?_) (fun f cdv A outer s H vs Q E hr h => ?_)
  · obtain ⟨q, e, rfl, _⟩ := h
    rfl
  · obtain ⟨⟨a, b, c⟩, e, rfl, q, k⟩ := h
    have qd : Sy38.disc ⟨a, b, c⟩ = b * b - a * c := rfl
    obtain ⟨q1, q2, q3, q4, q5, q6, q7, q8⟩ := q
    rw [qd] at q7 q8
    dsimp only at q1 q2 q3 q4 q5 q6 k
    have ba : B 64 a := .of (by omega) (by omega)
    have bb : B 64 b := .of (by omega) (by omega)
    have bc : B 64 c := .of (by omega) (by omega)
    refine ⟨_, pss_cons (ps_set (i := 4) scSpanOf.nd rfl (Or.inl rfl) (pe_ifExp (pt_val (pv 3)) pe_int pe_int)) <|
      pss_cons (ps_set (i := 5) scSpanOf.nd rfl (Or.inl rfl) (pe_callO GW hr rfl (pa_cons pe_int pa_nil))) <|
      pss_cons (ps_set (i := 6) scSpanOf.nd rfl (Or.inl rfl) (pe_cmpR op_lt (pv 2) (pv 4) (nomark _))) <|
      pss_cons (ps_if (pt_cmpR op_eq (pv 0) pe_int (nomark _))
        (pss_one (ps_ret (pe_ifExp (pt_val (pv 6)) (pe_make MS GS (hr.mono (by decide)) rfl TS.mgC bS .nil pass0 (pa_cons pe_bl (pa_cons (pv 5) (pa_cons pe_non pa_nil)))) pe_non))) pss_nil) <|
      pss_cons (ps_set (i := 7) scSpanOf.nd rfl (Or.inl rfl) (pe_op op_sub (pe_op op_mulB (pv 1) (pv 1)) (pe_op op_mulB (pv 0) (pv 2)))) <|
      pss_cons (ps_if (pt_cmpR op_le (pe_op op_add (pv 7) (pv 4)) pe_int (nomark _)) (pss_one (ps_ret pe_non)) pss_nil) <|
      pss_cons (ps_if (pw_and (pt_cmpR op_ge (pv 1) (pv 4) (nomark _)) (pw_and1 (pt_not (pt_val (pv 6))))).pt (pss_one (ps_ret pe_non)) pss_nil) <|
      pss_cons (ps_set (i := 8) scSpanOf.nd rfl (Or.inl rfl) (pe_ifExp (pt_val (pv 6)) (pv 5) (pe_make MI GI (hr.mono (by decide)) rfl TI.mgC bI .nil pass0 (pa_cons (pe_un un_neg (pv 1)) (pa_cons (pe_un un_neg (pv 7)) (pa_cons (pv 0) pa_nil)))))) <|
      pss_one (ps_ret (pe_make MS GS (hr.mono (by decide)) rfl TS.mgC bS .nil pass0 (pa_cons (pv 6) (pa_cons (pv 8) (pa_cons (pe_make MI GI (hr.mono (by decide)) rfl TI.mgC bI .nil pass0 (pa_cons (pe_un un_neg (pv 1)) (pa_cons (pv 7) (pa_cons (pv 0) pa_nil)))) pa_nil))))), ?_⟩
    cases e
    all_goals
      simp only [if_true, Bool.false_eq_true, if_false] at k
      first | refine ⟨_, rfl, _, rfl, iteT ?_⟩ | refine ⟨_, rfl, _, rfl, iteF ?_⟩
      refine ⟨0, rfl, fun x0 H1 n0 s1 i1 => ?_⟩
      refine ⟨_, rfl, _, rfl, _, _, rfl, rfl, ?_⟩
      refine ⟨_, rfl, rfl, _, rfl, ite2 (fun h => ?_) (fun h => ?_)⟩
      · have h : a = 0 := V.int.inj (of_decide_eq_true h)
        refine ⟨_, rfl, _, rfl, ite2 (fun h' => ?_) (fun h' => ?_)⟩
        · have h' := of_decide_eq_true h'
          refine ⟨_, rfl, ?_⟩
          intro x1 d1 n1 m1 e1
          refine ⟨x1, d1, true, .ref x0, .non, rfl, upd_same, fun H2 i2 k2 => ⟨rfl, ?_⟩⟩
          have s2 : Same H1 H2 := Same.made n1 m1 k2
          refine k _ H2 (s1.trans s2) ?_
          unfold Tw.spanOf
          rw [if_pos h, if_pos h']
          exact ⟨x1, rfl, d1, x0, .non, i2, i1.mono s2, rfl⟩
        · have h' := fun z => h' (decide_eq_true z)
          refine k _ H1 s1 ?_
          unfold Tw.spanOf
          rw [if_pos h, if_neg h']
          rfl
      · have h : ¬ a = 0 := fun z => h (decide_eq_true (congrArg V.int z))
        refine ⟨_, rfl, _, rfl, _, _, rfl, rfl, cb bb bb, _, rfl, _, rfl, _, _, rfl, rfl, cb ba bc, _, _, rfl, rfl, ?_⟩
        refine ⟨_, rfl, _, rfl, _, _, rfl, rfl, _, _, rfl, rfl, _, rfl, ite2 (fun h1 => ?_) (fun h1 => ?_)⟩
        · have h1 := of_decide_eq_true h1
          refine k _ H1 s1 ?_
          unfold Tw.spanOf
          rw [if_neg h, if_pos h1]
          rfl
        · have h1 := fun z => h1 (decide_eq_true z)
          -- half and already
          refine ⟨_, rfl, _, rfl, _, _, rfl, rfl, _, rfl, ite2 (fun h2 => ⟨_, rfl, _, rfl, ite2 (fun h3 => ?_) (fun h3 => ?_)⟩) (fun h2 => iteF ?_)⟩
          · have h2 := of_decide_eq_true h2
            have h3 := of_decide_eq_false (Bool.not_eq_true' _ |>.mp h3)
            refine k _ H1 s1 ?_
            unfold Tw.spanOf
            rw [if_neg h, if_neg h1, if_pos ⟨h2, h3⟩]
            rfl
          · have h5 := of_decide_eq_true (by simpa using h3)
            refine ⟨_, rfl, _, rfl, ite2 (fun h4 => ?_) (fun h4 => absurd (decide_eq_true h5) h4)⟩
            refine ⟨_, rfl, _, rfl, _, rfl, _, rfl, _, rfl, _, rfl, _, rfl, ?_⟩
            intro x1 d1 n1 m1 e1
            refine ⟨x1, d1, ⟨-b, b * b - a * c, a⟩, rfl, upd_same, fun H2 i2 k2 => ⟨rfl, ?_⟩⟩
            have s2 : Same H1 H2 := Same.made n1 m1 k2
            intro x2 d2 n2 m2 e2
            refine ⟨x2, d2, _, _, _, rfl, upd_same, fun H3 i3 k3 => ⟨rfl, ?_⟩⟩
            have s3 : Same H2 H3 := Same.made n2 m2 k3
            refine k _ H3 ((s1.trans s2).trans s3) ?_
            unfold Tw.spanOf
            rw [if_neg h, if_neg h1, if_neg (fun z => z.2 h5), if_pos h5]
            exact ⟨x2, rfl, d2, x0, .ref x1, i3, i1.mono (s2.trans s3), x1, rfl, i2.mono s3⟩
          · have h2 := fun z => h2 (decide_eq_true z)
            refine ⟨_, rfl, _, rfl, ite2 (fun h5 => ?_) (fun h5 => ?_)⟩
            · have h5 := of_decide_eq_true h5
              refine ⟨_, rfl, _, rfl, _, rfl, _, rfl, _, rfl, _, rfl, _, rfl, ?_⟩
              intro x1 d1 n1 m1 e1
              refine ⟨x1, d1, ⟨-b, b * b - a * c, a⟩, rfl, upd_same, fun H2 i2 k2 => ⟨rfl, ?_⟩⟩
              have s2 : Same H1 H2 := Same.made n1 m1 k2
              intro x2 d2 n2 m2 e2
              refine ⟨x2, d2, _, _, _, rfl, upd_same, fun H3 i3 k3 => ⟨rfl, ?_⟩⟩
              have s3 : Same H2 H3 := Same.made n2 m2 k3
              refine k _ H3 ((s1.trans s2).trans s3) ?_
              unfold Tw.spanOf
              rw [if_neg h, if_neg h1, if_neg (fun z => z.2 h5), if_pos h5]
              exact ⟨x2, rfl, d2, x0, .ref x1, i3, i1.mono (s2.trans s3), x1, rfl, i2.mono s3⟩
            · have h5 := fun z => h5 (decide_eq_true z)
              refine ⟨_, rfl, _, rfl, _, rfl, _, rfl, _, rfl, ?_⟩
              intro y1 g1 w1 v1 u1
              refine ⟨y1, g1, ⟨-b, -(b * b - a * c), a⟩, rfl, upd_same, fun H1' j1 l1 => ⟨rfl, ?_⟩⟩
              have t1 : Same H1 H1' := Same.made w1 v1 l1
              refine ⟨_, rfl, _, rfl, _, rfl, _, rfl, _, rfl, _, rfl, ?_⟩
              intro x1 d1 n1 m1 e1
              refine ⟨x1, d1, ⟨-b, b * b - a * c, a⟩, rfl, upd_same, fun H2 i2 k2 => ⟨rfl, ?_⟩⟩
              have s2 : Same H1' H2 := Same.made n1 m1 k2
              intro x2 d2 n2 m2 e2
              refine ⟨x2, d2, _, _, _, rfl, upd_same, fun H3 i3 k3 => ⟨rfl, ?_⟩⟩
              have s3 : Same H2 H3 := Same.made n2 m2 k3
              refine k _ H3 (((s1.trans t1).trans s2).trans s3) ?_
              unfold Tw.spanOf
              rw [if_neg h, if_neg h1, if_neg (fun z => h2 z.1), if_neg h5]
              exact ⟨x2, rfl, d2, y1, .ref x1, i3, j1.mono (s2.trans s3), x1, rfl, i2.mono s3⟩
end
end Sky

namespace Sky
open PySem PySem.Spec PyProof.Rows L2
open Tw (Ins Spn Small SmallS B BOk SOk)
open Sy38 (Body)
/-! ### Bodies as data -/
def fB (b : Body) : List (Str × V) := putF "far" (.int (b.far : Int)) (putF "radius" (.int (b.r : Int)) (putF "v" (.int b.v) (putF "u" (.int b.u) (putF "y" (.int b.y) (putF "x" (.int b.x) [])))))
theorem fB_x (b : Body) : (fB b).lookup ("x" : Str) = some (.int b.x) := by
  unfold fB
  rw [lookup_putF, if_neg (by decide +kernel), lookup_putF, if_neg (by decide +kernel), lookup_putF, if_neg (by decide +kernel), lookup_putF, if_neg (by decide +kernel), lookup_putF, if_neg (by decide +kernel), lookup_putF, if_pos rfl]
theorem fB_y (b : Body) : (fB b).lookup ("y" : Str) = some (.int b.y) := by
  unfold fB
  rw [lookup_putF, if_neg (by decide +kernel), lookup_putF, if_neg (by decide +kernel), lookup_putF, if_neg (by decide +kernel), lookup_putF, if_neg (by decide +kernel), lookup_putF, if_pos rfl]
theorem fB_u (b : Body) : (fB b).lookup ("u" : Str) = some (.int b.u) := by
  unfold fB
  rw [lookup_putF, if_neg (by decide +kernel), lookup_putF, if_neg (by decide +kernel), lookup_putF, if_neg (by decide +kernel), lookup_putF, if_pos rfl]
theorem fB_v (b : Body) : (fB b).lookup ("v" : Str) = some (.int b.v) := by
  unfold fB
  rw [lookup_putF, if_neg (by decide +kernel), lookup_putF, if_neg (by decide +kernel), lookup_putF, if_pos rfl]
theorem fB_radius (b : Body) : (fB b).lookup ("radius" : Str) = some (.int (b.r : Int)) := by
  unfold fB
  rw [lookup_putF, if_neg (by decide +kernel), lookup_putF, if_pos rfl]
theorem fB_far (b : Body) : (fB b).lookup ("far" : Str) = some (.int (b.far : Int)) := by
  unfold fB
  rw [lookup_putF, if_pos rfl]
def BodyAt (C : Addr) (H : Hp) (a : Addr) (b : Body) : Prop := ∃ dx, H a = some (.ins C dx (fB b))
theorem BodyAt.mono {C : Addr} {H H' : Hp} {a : Addr} {x : Body} (h : BodyAt C H a x) (s : Same H H') : BodyAt C H' a x := let ⟨dx, e⟩ := h; ⟨dx, s _ _ e⟩
structure ClsB (K : PySem.W.Frag) (mg : Str → Option Value) (C : Addr) : Prop where
  cl : Cls K C
  nX : NoAttr K C "x"
  nY : NoAttr K C "y"
  nU : NoAttr K C "u"
  nV : NoAttr K C "v"
  nR : NoAttr K C "radius"
  nFar : NoAttr K C "far"
  mgC : mg "Body" = some (.ref C)
  fn : ∃ f fd, Mk K C f ∧ Fun K "__init__" "Body.__init__" sInitB f fd ∧ Binds K fd ["self", "x", "y", "u", "v", "radius", "far"] []
section
variable {P : Program} {w : World} {K : PySem.W.Frag} {mg : Str → Option Value} {base : Heap} {CI CS CB : Addr}
/-! ### Body.__init__ -/
def spInitB (C : Addr) : Sp := fun vs H Q _ => ∃ (p dx : Addr) (b : Body), vs = [.ref p, .int b.x, .int b.y, .int b.u, .int b.v, .int (b.r : Int), .int (b.far : Int)] ∧ H p = some (.ins C dx []) ∧ ∀ H' : Hp, BodyAt C H' p b → (∀ c o, H c = some o → c ≠ p → H' c = some o) → Q .non H'
theorem scInitB : FnScope ["self", "x", "y", "u", "v", "radius", "far"] ["self", "x", "y", "u", "v", "radius", "far"] (defScope sInitB) := ⟨rfl, rfl, rfl, by decide +kernel, rfl, by decide +kernel, by decide +kernel⟩
theorem lenF {n m : Nat} {f : Str} {v : V} {fs : List (Str × V)} (h : fs.length ≤ n) (e : m = n + 1 := by rfl) : (putF f v fs).length ≤ m := by
  have := length_putF f v fs
  omega
theorem ok_initB {f : Addr} {fd : FuncData} (T : ClsB K mg CB) (F : Fun K "__init__" "Body.__init__" sInitB f fd) : FnOk P w K mg base CX0 1 f fd ["self", "x", "y", "u", "v", "radius", "far"] (spInitB CB) := by
  refine F.ok scInitB (fun vs H Q E h => ?_) (fun cdv A outer s H vs Q E hr h => ?_)
  · obtain ⟨p, dx, b, rfl, _⟩ := h
    rfl
  · obtain ⟨p, dx, b, rfl, hp, k⟩ := h
    refine ⟨_, pss_cons (ps_fld (pv 0) (pv 1) rfl) <| pss_cons (ps_fld (pv 0) (pv 2) rfl) <| pss_cons (ps_fld (pv 0) (pv 3) rfl) <| pss_cons (ps_fld (pv 0) (pv 4) rfl) <| pss_cons (ps_fld (pv 0) (pv 5) rfl) <| pss_one (ps_fld (pv 0) (pv 6) rfl), ?_⟩
    have l0 : ([] : List (Str × V)).length ≤ 0 := Nat.le_refl 0
    refine ⟨_, rfl, _, rfl, p, CB, dx, [], rfl, hp, T.cl, T.nX, (by show 0 < 1000; decide), ?_⟩
    refine ⟨_, rfl, _, rfl, p, CB, dx, _, rfl, upd_same, T.cl, T.nY, Nat.lt_of_le_of_lt (lenF (m := 1) l0) (by decide), ?_⟩
    refine ⟨_, rfl, _, rfl, p, CB, dx, _, rfl, upd_same, T.cl, T.nU, Nat.lt_of_le_of_lt (lenF (m := 2) (lenF (m := 1) l0)) (by decide), ?_⟩
    refine ⟨_, rfl, _, rfl, p, CB, dx, _, rfl, upd_same, T.cl, T.nV, Nat.lt_of_le_of_lt (lenF (m := 3) (lenF (m := 2) (lenF (m := 1) l0))) (by decide), ?_⟩
    refine ⟨_, rfl, _, rfl, p, CB, dx, _, rfl, upd_same, T.cl, T.nR, Nat.lt_of_le_of_lt (lenF (m := 4) (lenF (m := 3) (lenF (m := 2) (lenF (m := 1) l0)))) (by decide), ?_⟩
    refine ⟨_, rfl, _, rfl, p, CB, dx, _, rfl, upd_same, T.cl, T.nFar, Nat.lt_of_le_of_lt (lenF (m := 5) (lenF (m := 4) (lenF (m := 3) (lenF (m := 2) (lenF (m := 1) l0))))) (by decide), ?_⟩
    exact k _ ⟨dx, upd_same⟩ fun b o e hb => by rw [upd_ne hb, upd_ne hb, upd_ne hb, upd_ne hb, upd_ne hb, upd_ne hb]; exact e
/-! ### counted -/
def spCounted : Sp := fun vs H Q _ => ∃ (a : Addr) (xs : List V), vs = [.ref a] ∧ H a = some (.lst xs) ∧ xs.length < 2000000 ∧ ∀ (p : Addr) (H' : Hp), H p = none → Same H H' → H' p = some (.lst (.int (xs.length : Int) :: xs)) → Q (.ref p) H'
theorem scCounted : FnScope ["numbers"] ["numbers"] (defScope sCounted) := ⟨rfl, rfl, rfl, by decide +kernel, rfl, by decide +kernel, by decide +kernel⟩
theorem same_new {H : Hp} {p : Addr} {o : HO} (h : H p = none) : Same H (upd H p o) := fun b u e => by
  rw [upd_ne (ne_of_none e h)]
  exact e
theorem ok_counted (hL : mg "len" = none) (F : Fn K mg "counted" sCounted ["numbers"]) : Ok P w K mg base 1 "counted" ["numbers"] spCounted := by
  refine F.ok scCounted (fun vs H Q E h => ?_) (fun f cdv A outer s H vs Q E hr h => ?_)
  · obtain ⟨a, xs, rfl, _⟩ := h
    rfl
  · obtain ⟨a, xs, rfl, ha, hz, k⟩ := h
    refine ⟨_, pss_one (ps_ret (pe_op op_cat (pe_lst (pa_cons (pe_callB call_len_seq (by rfl) hL PySem.boot_len (pa_cons (pv 0) pa_nil)) pa_nil)) (pv 0))), ?_⟩
    refine ⟨_, rfl, a, xs, rfl, .inl (SqL.of ha), (by show 1 ≤ sizeLine; decide), fun l hl => ?_⟩
    have hla : a ≠ l := ne_of_none ha hl
    have hsz : ([V.int (xs.length : Int)] : List V).length + xs.length ≤ sizeLine := by
      have : sizeLine = 16777216 := by decide
      rw [List.length_singleton]
      omega
    refine ⟨_, rfl, l, a, _, xs, rfl, rfl, upd_same, (by rw [upd_ne hla]; exact ha), hsz, fun p hp => ?_⟩
    have hp0 : H p = none := by
      have : p ≠ l := fun z => by rw [z, upd_same] at hp; cases hp
      rw [upd_ne this] at hp
      exact hp
    exact k p _ hp0 ((same_new hl).trans (same_new hp)) upd_same
/-! ### span_within, meeting_of, hiding_of -/
def spWithin (CI CS CB : Addr) : Sp := fun vs H Q _ => ∃ (a b : Addr) (e f : Body) (r : Int) (g : Bool), vs = [.ref a, .ref b, .int r, .bl g] ∧ BodyAt CB H a e ∧ BodyAt CB H b f ∧ BOk e ∧ BOk f ∧ -400 ≤ r ∧ r ≤ 400 ∧
  ∀ (v : V) (H' : Hp), Same H H' → RSpan CI CS H' v (Tw.spanOf (Tw.qd e f r).a (Tw.qd e f r).b (Tw.qd e f r).c (if g = true then 1 else 0)) → Q v H'
theorem scWithin : FnScope ["one", "other", "reach", "with_edge", "dx", "dy", "du", "dv", "rest"] ["one", "other", "reach", "with_edge"] (defScope sWithin) := ⟨rfl, rfl, rfl, by decide +kernel, rfl, by decide +kernel, by decide +kernel⟩
theorem ok_within (TB : ClsB K mg CB) (F : Fn K mg "span_within" sWithin ["one", "other", "reach", "with_edge"]) (G : Ok P w K mg base 4 "span_of" ["square", "half", "rest", "with_edge"] (spSpanOf CI CS)) :
    Ok P w K mg base 5 "span_within" ["one", "other", "reach", "with_edge"] (spWithin CI CS CB) := by
  refine F.ok scWithin (fun vs H Q E h => ?_) (fun f cdv A outer s H vs Q E hr h => ?_)
  · obtain ⟨a, b, e, f, r, g, rfl, _⟩ := h
    rfl
  · obtain ⟨a, b, e, f, r, g, rfl, ⟨da, ea⟩, ⟨db, eb⟩, oe, of, r1, r2, k⟩ := h
    have e1 := oe.x1; have e2 := oe.x2; have e3 := oe.y1; have e4 := oe.y2; have e5 := oe.u1; have e6 := oe.u2; have e7 := oe.v1; have e8 := oe.v2
    have f1 := of.x1; have f2 := of.x2; have f3 := of.y1; have f4 := of.y2; have f5 := of.u1; have f6 := of.u2; have f7 := of.v1; have f8 := of.v2
    have bx : B 64 (f.x - e.x) := .of (by omega) (by omega)
    have by_ : B 64 (f.y - e.y) := .of (by omega) (by omega)
    have bu : B 64 (f.u - e.u) := .of (by omega) (by omega)
    have bv : B 64 (f.v - e.v) := .of (by omega) (by omega)
    have br : B 64 r := .of (by omega) (by omega)
    refine ⟨_, pss_cons (ps_set (i := 4) scWithin.nd rfl (Or.inl rfl) (pe_op op_sub (pe_fld (pv 1) rfl) (pe_fld (pv 0) rfl))) <|
      pss_cons (ps_set (i := 5) scWithin.nd rfl (Or.inl rfl) (pe_op op_sub (pe_fld (pv 1) rfl) (pe_fld (pv 0) rfl))) <|
      pss_cons (ps_set (i := 6) scWithin.nd rfl (Or.inl rfl) (pe_op op_sub (pe_fld (pv 1) rfl) (pe_fld (pv 0) rfl))) <|
      pss_cons (ps_set (i := 7) scWithin.nd rfl (Or.inl rfl) (pe_op op_sub (pe_fld (pv 1) rfl) (pe_fld (pv 0) rfl))) <|
      pss_cons (ps_set (i := 8) scWithin.nd rfl (Or.inl rfl) (pe_op op_sub (pe_op op_add (pe_op op_mulB (pv 4) (pv 4)) (pe_op op_mulB (pv 5) (pv 5))) (pe_op op_mulB (pv 2) (pv 2)))) <|
      pss_one (ps_ret (pe_callO G hr rfl (pa_cons (pe_op op_add (pe_op op_mulB (pv 6) (pv 6)) (pe_op op_mulB (pv 7) (pv 7))) (pa_cons (pe_op op_add (pe_op op_mulB (pv 4) (pv 6)) (pe_op op_mulB (pv 5) (pv 7))) (pa_cons (pv 8) (pa_cons (pv 3) pa_nil)))))), ?_⟩
    refine ⟨_, rfl, b, CB, db, _, _, rfl, eb, TB.cl, TB.nX, fB_x _, _, rfl, a, CB, da, _, _, rfl, ea, TB.cl, TB.nX, fB_x _, _, _, rfl, rfl, ?_⟩
    refine ⟨_, rfl, b, CB, db, _, _, rfl, eb, TB.cl, TB.nY, fB_y _, _, rfl, a, CB, da, _, _, rfl, ea, TB.cl, TB.nY, fB_y _, _, _, rfl, rfl, ?_⟩
    refine ⟨_, rfl, b, CB, db, _, _, rfl, eb, TB.cl, TB.nU, fB_u _, _, rfl, a, CB, da, _, _, rfl, ea, TB.cl, TB.nU, fB_u _, _, _, rfl, rfl, ?_⟩
    refine ⟨_, rfl, b, CB, db, _, _, rfl, eb, TB.cl, TB.nV, fB_v _, _, rfl, a, CB, da, _, _, rfl, ea, TB.cl, TB.nV, fB_v _, _, _, rfl, rfl, ?_⟩
    refine ⟨_, rfl, _, rfl, _, _, rfl, rfl, cb bx bx, _, rfl, _, rfl, _, _, rfl, rfl, cb by_ by_, _, _, rfl, rfl, _, rfl, _, rfl, _, _, rfl, rfl, cb br br, _, _, rfl, rfl, ?_⟩
    refine ⟨_, rfl, _, rfl, _, _, rfl, rfl, cb bu bu, _, rfl, _, rfl, _, _, rfl, rfl, cb bv bv, _, _, rfl, rfl, _, rfl, _, rfl, _, _, rfl, rfl, cb bx bu, _, rfl, _, rfl, _, _, rfl, rfl, cb by_ bv, _, _, rfl, rfl, _, rfl, _, rfl, ?_⟩
    exact ⟨Tw.qd e f r, g, rfl, Tw.qok oe of r1 r2, k⟩
def spMeetingOf (CI CS CB : Addr) : Sp := fun vs H Q _ => ∃ (a b : Addr) (e f : Body), vs = [.ref a, .ref b] ∧ BodyAt CB H a e ∧ BodyAt CB H b f ∧ BOk e ∧ BOk f ∧ ∀ (v : V) (H' : Hp), Same H H' → RSpan CI CS H' v (Tw.meetOf e f) → Q v H'
theorem scMeetingOf : FnScope ["one", "other"] ["one", "other"] (defScope sMeetingOf) := ⟨rfl, rfl, rfl, by decide +kernel, rfl, by decide +kernel, by decide +kernel⟩
theorem ok_meetingOf (TB : ClsB K mg CB) (F : Fn K mg "meeting_of" sMeetingOf ["one", "other"]) (G : Ok P w K mg base 5 "span_within" ["one", "other", "reach", "with_edge"] (spWithin CI CS CB)) :
    Ok P w K mg base 6 "meeting_of" ["one", "other"] (spMeetingOf CI CS CB) := by
  refine F.ok scMeetingOf (fun vs H Q E h => ?_) (fun f cdv A outer s H vs Q E hr h => ?_)
  · obtain ⟨a, b, e, f, rfl, _⟩ := h
    rfl
  · obtain ⟨a, b, e, f, rfl, ⟨da, ea⟩, ⟨db, eb⟩, oe, of, k⟩ := h
    have := oe.r1; have := oe.r2; have := of.r1; have := of.r2
    refine ⟨_, pss_one (ps_ret (pe_callO G hr rfl (pa_cons (pv 0) (pa_cons (pv 1) (pa_cons (pe_op op_add (pe_fld (pv 0) rfl) (pe_fld (pv 1) rfl)) (pa_cons pe_bl pa_nil)))))), ?_⟩
    exact ⟨_, rfl, _, rfl, _, rfl, a, CB, da, _, _, rfl, ea, TB.cl, TB.nR, fB_radius _, _, rfl, b, CB, db, _, _, rfl, eb, TB.cl, TB.nR, fB_radius _, _, _, rfl, rfl, a, b, e, f, _, false, rfl, ⟨da, ea⟩, ⟨db, eb⟩, oe, of, by omega, by omega, k⟩
/-! ### is_nearer, may_hide -/
def spNearer (CB : Addr) : Sp := fun vs H Q _ => ∃ (a b : Addr) (e f : Body), vs = [.ref a, .ref b] ∧ BodyAt CB H a e ∧ BodyAt CB H b f ∧ Q (.bl (decide ((e.far : Int) < (f.far : Int)))) H
theorem scNearer : FnScope ["one", "other"] ["one", "other"] (defScope sNearer) := ⟨rfl, rfl, rfl, by decide +kernel, rfl, by decide +kernel, by decide +kernel⟩
theorem ok_nearer (TB : ClsB K mg CB) (F : Fn K mg "is_nearer" sNearer ["one", "other"]) : Ok P w K mg base 1 "is_nearer" ["one", "other"] (spNearer CB) := by
  refine F.ok scNearer (fun vs H Q E h => ?_) (fun f cdv A outer s H vs Q E hr h => ?_)
  · obtain ⟨a, b, e, f, rfl, _⟩ := h
    rfl
  · obtain ⟨a, b, e, f, rfl, ⟨da, ea⟩, ⟨db, eb⟩, k⟩ := h
    refine ⟨_, pss_one (ps_ret (pe_cmpR op_lt (pe_fld (pv 0) rfl) (pe_fld (pv 1) rfl) (nomark _))), ?_⟩
    exact ⟨_, rfl, a, CB, da, _, _, rfl, ea, TB.cl, TB.nFar, fB_far _, _, rfl, b, CB, db, _, _, rfl, eb, TB.cl, TB.nFar, fB_far _, _, _, rfl, rfl, k⟩
def spMayHide (CB : Addr) : Sp := fun vs H Q _ => ∃ (a b : Addr) (e f : Body), vs = [.ref a, .ref b] ∧ BodyAt CB H a e ∧ BodyAt CB H b f ∧ Q (.bl (Tw.mayHide e f)) H
theorem scMayHide : FnScope ["one", "other"] ["one", "other"] (defScope sMayHide) := ⟨rfl, rfl, rfl, by decide +kernel, rfl, by decide +kernel, by decide +kernel⟩
theorem ok_mayHide (TB : ClsB K mg CB) (F : Fn K mg "may_hide" sMayHide ["one", "other"]) (G : Ok P w K mg base 1 "is_nearer" ["one", "other"] (spNearer CB)) : Ok P w K mg base 2 "may_hide" ["one", "other"] (spMayHide CB) := by
  refine F.ok scMayHide (fun vs H Q E h => ?_) (fun f cdv A outer s H vs Q E hr h => ?_)
  · obtain ⟨a, b, e, f, rfl, _⟩ := h
    rfl
  · obtain ⟨a, b, e, f, rfl, ⟨da, ea⟩, ⟨db, eb⟩, k⟩ := h
    refine ⟨_, pss_one (ps_ret (pe_and (pe_callO G hr rfl (pa_cons (pv 0) (pa_cons (pv 1) pa_nil))) (pe_one (pe_cmpR op_ge (pe_fld (pv 0) rfl) (pe_fld (pv 1) rfl) (nomark _))))), ?_⟩
    unfold Tw.mayHide at k
    refine ⟨_, rfl, _, rfl, a, b, e, f, rfl, ⟨da, ea⟩, ⟨db, eb⟩, _, rfl, ite2 (fun h => ?_) (fun h => ?_)⟩
    · rw [h, Bool.true_and] at k
      exact ⟨_, rfl, a, CB, da, _, _, rfl, ea, TB.cl, TB.nR, fB_radius _, _, rfl, b, CB, db, _, _, rfl, eb, TB.cl, TB.nR, fB_radius _, _, _, rfl, rfl, k⟩
    · rw [Bool.not_eq_true _ |>.mp h, Bool.false_and] at k
      exact k
def spHidingOf (CI CS CB : Addr) : Sp := fun vs H Q _ => ∃ (a b : Addr) (e f : Body), vs = [.ref a, .ref b] ∧ BodyAt CB H a e ∧ BodyAt CB H b f ∧ BOk e ∧ BOk f ∧ e.far ≠ f.far ∧ ∀ (v : V) (H' : Hp), Same H H' → RSpan CI CS H' v (Tw.hideOf e f) → Q v H'
theorem scHidingOf : FnScope ["one", "other"] ["one", "other"] (defScope sHidingOf) := ⟨rfl, rfl, rfl, by decide +kernel, rfl, by decide +kernel, by decide +kernel⟩
theorem ok_hidingOf (TB : ClsB K mg CB) (F : Fn K mg "hiding_of" sHidingOf ["one", "other"]) (GH : Ok P w K mg base 2 "may_hide" ["one", "other"] (spMayHide CB)) (G : Ok P w K mg base 5 "span_within" ["one", "other", "reach", "with_edge"] (spWithin CI CS CB)) :
    Ok P w K mg base 6 "hiding_of" ["one", "other"] (spHidingOf CI CS CB) := by
  refine F.ok scHidingOf (fun vs H Q E h => ?_) (fun f cdv A outer s H vs Q E hr h => ?_)
  · obtain ⟨a, b, e, f, rfl, _⟩ := h
    rfl
  · obtain ⟨a, b, e, f, rfl, ⟨da, ea⟩, ⟨db, eb⟩, oe, of, hne, k⟩ := h
    have := oe.r1; have := oe.r2; have := of.r1; have := of.r2
    refine ⟨_, pss_cons (ps_if (pt_not (pt_val (pe_callO GH (hr.mono (by decide)) rfl (pa_cons (pv 0) (pa_cons (pv 1) pa_nil))))) (pss_one (ps_ret pe_non)) pss_nil) <|
      pss_one (ps_ret (pe_callO G hr rfl (pa_cons (pv 0) (pa_cons (pv 1) (pa_cons (pe_op op_sub (pe_fld (pv 0) rfl) (pe_fld (pv 1) rfl)) (pa_cons pe_bl pa_nil)))))), ?_⟩
    have key : Tw.mayHide e f = true ↔ e.far < f.far ∧ f.r ≤ e.r := by
      unfold Tw.mayHide
      rw [Bool.and_eq_true, decide_eq_true_eq, decide_eq_true_eq]
      omega
    refine ⟨_, rfl, _, rfl, a, b, e, f, rfl, ⟨da, ea⟩, ⟨db, eb⟩, _, rfl, ite2 (fun h1 => ?_) (fun h1 => ?_)⟩
    · have h1 : ¬ Tw.mayHide e f = true := by simpa using h1
      have h1 : ¬ (e.far < f.far ∧ f.r ≤ e.r) := fun z => h1 (key.mpr z)
      refine k _ H (Same.refl H) ?_
      unfold Tw.hideOf
      rw [if_pos (by omega)]
      rfl
    · have h1 : Tw.mayHide e f = true := by simpa using h1
      have h1 := key.mp h1
      refine ⟨_, rfl, _, rfl, _, rfl, a, CB, da, _, _, rfl, ea, TB.cl, TB.nR, fB_radius _, _, rfl, b, CB, db, _, _, rfl, eb, TB.cl, TB.nR, fB_radius _, _, _, rfl, rfl, a, b, e, f, _, true, rfl, ⟨da, ea⟩, ⟨db, eb⟩, oe, of, by omega, by omega, fun v H' hs hv => k v H' hs ?_⟩
      unfold Tw.hideOf
      rw [if_neg (by omega)]
      exact hv
end
end Sky

namespace Sky
open PySem PySem.Spec PyProof.Rows L2
open Tw (Ins Spn Small SmallS B BOk SOk Gm Sorted mcmp)
open Sy38 (Body Meet)
/-! ### Two lists, item by item -/
def Al {α β : Type} (R : α → β → Prop) (xs : List α) (ys : List β) : Prop := xs.length = ys.length ∧ ∀ (i : Nat) (x : α) (y : β), xs[i]? = some x → ys[i]? = some y → R x y
section
variable {α β : Type} {R R' : α → β → Prop} {xs : List α} {ys : List β}
theorem Al.nil : Al R [] [] := ⟨rfl, fun i x y h _ => by simp at h⟩
theorem Al.mono (h : Al R xs ys) (f : ∀ x y, R x y → R' x y) : Al R' xs ys := ⟨h.1, fun i x y a b => f x y (h.2 i x y a b)⟩
theorem Al.get (h : Al R xs ys) {i : Nat} {y : β} (e : ys[i]? = some y) : ∃ x, xs[i]? = some x ∧ R x y := by
  obtain ⟨hi, _⟩ := List.getElem?_eq_some_iff.mp e
  have hx : i < xs.length := by rw [h.1]; exact hi
  exact ⟨xs[i], List.getElem?_eq_getElem hx, h.2 i _ y (List.getElem?_eq_getElem hx) e⟩
theorem Al.get' (h : Al R xs ys) {i : Nat} {x : α} (e : xs[i]? = some x) : ∃ y, ys[i]? = some y ∧ R x y := by
  obtain ⟨hi, _⟩ := List.getElem?_eq_some_iff.mp e
  have hy : i < ys.length := by rw [← h.1]; exact hi
  exact ⟨ys[i], List.getElem?_eq_getElem hy, h.2 i x _ e (List.getElem?_eq_getElem hy)⟩
theorem Al.cons {x : α} {y : β} (r : R x y) (h : Al R xs ys) : Al R (x :: xs) (y :: ys) := by
  refine ⟨by simp [h.1], fun i a b ea eb => ?_⟩
  cases i with
  | zero =>
    simp at ea eb
    subst ea eb
    exact r
  | succ i =>
    simp at ea eb
    exact h.2 i a b ea eb
theorem Al.tail {x : α} {y : β} (h : Al R (x :: xs) (y :: ys)) : Al R xs ys := ⟨by simpa using h.1, fun i a b ea eb => h.2 (i + 1) a b (by simpa using ea) (by simpa using eb)⟩
theorem Al.head {x : α} {y : β} (h : Al R (x :: xs) (y :: ys)) : R x y := h.2 0 x y rfl rfl
theorem Al.append : ∀ {xs xs' : List α} {ys ys' : List β}, Al R xs ys → Al R xs' ys' → Al R (xs ++ xs') (ys ++ ys')
  | [], _, [], _, _, k => k
  | [], _, _ :: _, _, h, _ => by simp [Al] at h
  | _ :: _, _, [], _, h, _ => by simp [Al] at h
  | _ :: _, _, _ :: _, _, h, k => .cons h.head (Al.append h.tail k)
theorem Al.take (h : Al R xs ys) (n : Nat) : Al R (xs.take n) (ys.take n) := by
  refine ⟨by rw [List.length_take, List.length_take, h.1], fun i a b ea eb => ?_⟩
  rw [List.getElem?_take] at ea eb
  split at ea
  · rename_i hi
    rw [if_pos hi] at eb
    exact h.2 i a b ea eb
  · cases ea
theorem Al.drop (h : Al R xs ys) (n : Nat) : Al R (xs.drop n) (ys.drop n) := by
  refine ⟨by rw [List.length_drop, List.length_drop, h.1], fun i a b ea eb => ?_⟩
  rw [List.getElem?_drop] at ea eb
  exact h.2 _ a b ea eb
theorem Al.erase (h : Al R xs ys) (n : Nat) : Al R (xs.eraseIdx n) (ys.eraseIdx n) := by
  rw [List.eraseIdx_eq_take_drop_succ, List.eraseIdx_eq_take_drop_succ]
  exact (h.take n).append (h.drop (n + 1))
end
/-! ### Bodies, meetings as lists -/
structure BsAt (C : Addr) (H : Hp) (l : Addr) (as : List Addr) (s : Sy38.St) : Prop where
  lst : H l = some (.lst (as.map V.ref))
  al : Al (BodyAt C H) as s
theorem BsAt.mono {C : Addr} {H H' : Hp} {l : Addr} {as : List Addr} {s : Sy38.St} (h : BsAt C H l as s) (z : Same H H') : BsAt C H' l as s := ⟨z _ _ h.lst, h.al.mono fun _ _ q => q.mono z⟩
theorem InsAt.upd {C : Addr} {H : Hp} {a l : Addr} {x : Ins} {xs ys : List V} (h : InsAt C H a x) (e : H l = some (.lst xs)) : InsAt C (L2.upd H l (.lst ys)) a x := by
  obtain ⟨dx, e2⟩ := h
  exact ⟨dx, by rw [upd_ne (ne_of e2 e (by intro q; cases q))]; exact e2⟩
theorem EndAt.upd {C : Addr} {H : Hp} {v : V} {l : Addr} {o : Option Ins} {xs ys : List V} (h : EndAt C H v o) (e : H l = some (.lst xs)) : EndAt C (L2.upd H l (.lst ys)) v o := by
  cases o with
  | none => exact h
  | some t =>
    obtain ⟨a, e1, i⟩ := h
    exact ⟨a, e1, i.upd e⟩
theorem SpnAt.upd {CI CS : Addr} {H : Hp} {p l : Addr} {z : Spn} {xs ys : List V} (h : SpnAt CI CS H p z) (e : H l = some (.lst xs)) : SpnAt CI CS (L2.upd H l (.lst ys)) p z := by
  obtain ⟨dx, af, lv, e1, i, t⟩ := h
  exact ⟨dx, af, lv, by rw [upd_ne (ne_of e1 e (by intro q; cases q))]; exact e1, i.upd e, t.upd e⟩
/-! ### Meetings as data -/
def fM (i j : Int) (v : V) : List (Str × V) := putF "span" v (putF "greater" (.int j) (putF "lesser" (.int i) []))
theorem fM_l (i j : Int) (v : V) : (fM i j v).lookup ("lesser" : Str) = some (.int i) := by
  unfold fM
  rw [lookup_putF, if_neg (by decide +kernel), lookup_putF, if_neg (by decide +kernel), lookup_putF, if_pos rfl]
theorem fM_g (i j : Int) (v : V) : (fM i j v).lookup ("greater" : Str) = some (.int j) := by
  unfold fM
  rw [lookup_putF, if_neg (by decide +kernel), lookup_putF, if_pos rfl]
theorem fM_s (i j : Int) (v : V) : (fM i j v).lookup ("span" : Str) = some v := by
  unfold fM
  rw [lookup_putF, if_pos rfl]
structure ClsM (K : PySem.W.Frag) (mg : Str → Option Value) (C : Addr) : Prop where
  cl : Cls K C
  nL : NoAttr K C "lesser"
  nG : NoAttr K C "greater"
  nS : NoAttr K C "span"
  mgC : mg "Meeting" = some (.ref C)
  fn : ∃ f fd, Mk K C f ∧ Fun K "__init__" "Meeting.__init__" sInitM f fd ∧ Binds K fd ["self", "lesser", "greater", "span"] []
/-- the addresses of the classes -/
structure Ad where
  I : Addr
  S : Addr
  M : Addr
def MeetAt (a : Ad) (H : Hp) (t : Addr) (m : Meet) : Prop := ∃ dx p, H t = some (.ins a.M dx (fM (m.i : Int) (m.j : Int) (.ref p))) ∧ SpnAt a.I a.S H p (Tw.conv m.span)
theorem MeetAt.mono {C : Ad} {H H' : Hp} {t : Addr} {m : Meet} (h : MeetAt C H t m) (z : Same H H') : MeetAt C H' t m := let ⟨dx, p, e, i⟩ := h; ⟨dx, p, z _ _ e, i.mono z⟩
/-- a list that changes leaves them as they are -/
theorem MeetAt.upd {C : Ad} {H : Hp} {t l : Addr} {m : Meet} {xs ys : List V} (h : MeetAt C H t m) (e : H l = some (.lst xs)) : MeetAt C (L2.upd H l (.lst ys)) t m := by
  obtain ⟨dx, p, e1, i⟩ := h
  exact ⟨dx, p, by rw [upd_ne (ne_of e1 e (by intro q; cases q))]; exact e1, i.upd e⟩
/-- a meeting as the program holds it -/
structure Gp (m : Meet) : Prop where
  g : Gm m
  s : Small (Tw.ins m.span.from_)
  t : ∀ t, m.span.to_ = some t → Small (Tw.ins t)
section
variable {P : Program} {w : World} {K : PySem.W.Frag} {mg : Str → Option Value} {base : Heap} {CI CS CB : Addr}
/-! ### are_two -/
def two (n : Nat) (i j : Int) : Bool := decide (i < (n : Int)) && (decide (j < (n : Int)) && !decide (i = j))
def spAreTwo : Sp := fun vs H Q _ => ∃ (l : Addr) (xs : List V) (i j : Int), vs = [.ref l, .int i, .int j] ∧ H l = some (.lst xs) ∧ Q (.bl (two xs.length i j)) H
theorem scAreTwo : FnScope ["bodies", "i", "j"] ["bodies", "i", "j"] (defScope sAreTwo) := ⟨rfl, rfl, rfl, by decide +kernel, rfl, by decide +kernel, by decide +kernel⟩
theorem ok_areTwo (hL : mg "len" = none) (F : Fn K mg "are_two" sAreTwo ["bodies", "i", "j"]) : Ok P w K mg base 1 "are_two" ["bodies", "i", "j"] spAreTwo := by
  refine F.ok scAreTwo (fun vs H Q E h => ?_) (fun f cdv A outer s H vs Q E hr h => ?_)
  · obtain ⟨l, xs, i, j, rfl, _⟩ := h
    rfl
  · obtain ⟨l, xs, i, j, rfl, hl, k⟩ := h
    refine ⟨_, pss_one (ps_ret (pe_and (pe_cmpR op_lt (pv 1) (pe_callB call_len_seq (by rfl) hL PySem.boot_len (pa_cons (pv 0) pa_nil)) (nomark _))
      (pe_and (pe_cmpR op_lt (pv 2) (pe_callB call_len_seq (by rfl) hL PySem.boot_len (pa_cons (pv 0) pa_nil)) (nomark _)) (pe_one (pe_cmpR op_ne (pv 1) (pv 2) (nomark _)))))), ?_⟩
    unfold two at k
    refine ⟨_, rfl, _, rfl, l, xs, rfl, .inl (SqL.of hl), _, _, rfl, rfl, _, rfl, ite2 (fun h => ?_) (fun h => ?_)⟩
    · rw [h, Bool.true_and] at k
      refine ⟨_, rfl, _, rfl, l, xs, rfl, .inl (SqL.of hl), _, _, rfl, rfl, _, rfl, ite2 (fun h' => ?_) (fun h' => ?_)⟩
      · rw [h', Bool.true_and] at k
        refine ⟨_, rfl, _, rfl, rfl, ?_⟩
        have e : decide (V.int i = V.int j) = decide (i = j) := decide_eq_decide.mpr ⟨fun z => V.int.inj z, fun z => congrArg V.int z⟩
        rw [e]
        exact k
      · rw [Bool.not_eq_true _ |>.mp h', Bool.false_and] at k
        exact k
    · rw [Bool.not_eq_true _ |>.mp h, Bool.false_and] at k
      exact k
/-! ### Meeting.__init__ -/
def spInitM (C : Addr) : Sp := fun vs H Q _ => ∃ (p dx : Addr) (i j : Int) (v : V), vs = [.ref p, .int i, .int j, v] ∧ H p = some (.ins C dx []) ∧ ∀ H' : Hp, H' p = some (.ins C dx (fM i j v)) → (∀ b o, H b = some o → b ≠ p → H' b = some o) → Q .non H'
theorem scInitM : FnScope ["self", "lesser", "greater", "span"] ["self", "lesser", "greater", "span"] (defScope sInitM) := ⟨rfl, rfl, rfl, by decide +kernel, rfl, by decide +kernel, by decide +kernel⟩
theorem ok_initM {CM : Addr} {f : Addr} {fd : FuncData} (T : ClsM K mg CM) (F : Fun K "__init__" "Meeting.__init__" sInitM f fd) : FnOk P w K mg base CX0 1 f fd ["self", "lesser", "greater", "span"] (spInitM CM) := by
  refine F.ok scInitM (fun vs H Q E h => ?_) (fun cdv A outer s H vs Q E hr h => ?_)
  · obtain ⟨p, dx, i, j, v, rfl, _⟩ := h
    rfl
  · obtain ⟨p, dx, i, j, v, rfl, hp, k⟩ := h
    refine ⟨_, pss_cons (ps_fld (pv 0) (pv 1) rfl) (pss_cons (ps_fld (pv 0) (pv 2) rfl) (pss_one (ps_fld (pv 0) (pv 3) rfl))), ?_⟩
    refine ⟨_, rfl, _, rfl, p, CM, dx, [], rfl, hp, T.cl, T.nL, (by show 0 < 1000; decide), ?_⟩
    refine ⟨_, rfl, _, rfl, p, CM, dx, _, rfl, upd_same, T.cl, T.nG, (Nat.lt_of_le_of_lt (length_putF _ _ _) (by show 1 < 1000; decide)), ?_⟩
    refine ⟨_, rfl, _, rfl, p, CM, dx, _, rfl, upd_same, T.cl, T.nS, (Nat.lt_of_le_of_lt (length_putF _ _ _) (Nat.lt_of_le_of_lt (Nat.succ_le_succ (length_putF _ _ _)) (by show 2 < 1000; decide))), ?_⟩
    exact k _ upd_same fun b o e hb => by rw [upd_ne hb, upd_ne hb, upd_ne hb]; exact e
/-! ### insert_meeting -/
def spInsertM (C : Ad) : Sp := fun vs H Q _ => ∃ (l t : Addr) (ts : List Addr) (L : List Meet) (x : Meet), vs = [.ref l, .ref t] ∧ H l = some (.lst (ts.map V.ref)) ∧ Al (MeetAt C H) ts L ∧ MeetAt C H t x ∧ Sorted L ∧ (∀ y ∈ L, Gp y) ∧ Gp x ∧ L.length < 1000 ∧
  ∀ ts' : List Addr, Al (MeetAt C H) ts' (Sy38.placed x L) → Q .non (upd H l (.lst (ts'.map V.ref)))
theorem scInsertM : FnScope ["meetings", "meeting", "place"] ["meetings", "meeting"] (defScope sInsertM) := ⟨rfl, rfl, rfl, by decide +kernel, rfl, by decide +kernel, by decide +kernel⟩
theorem ok_insertM {CM : Addr} (hL : mg "len" = none) (TS : ClsS K mg CS) (TM : ClsM K mg CM) (F : Fn K mg "insert_meeting" sInsertM ["meetings", "meeting"]) (G : Ok P w K mg base 4 "compared" ["one", "other"] (spCompared CI)) : Ok P w K mg base 5 "insert_meeting" ["meetings", "meeting"] (spInsertM ⟨CI, CS, CM⟩) := by
  refine F.ok scInsertM (fun vs H Q E h => ?_) (fun f cdv A outer s H vs Q E hr h => ?_)
  · obtain ⟨l, t, ts, L, x, rfl, _⟩ := h
    rfl
  · obtain ⟨l, t, ts, L, x, rfl, hl, al, ⟨dx, px, ht, zx⟩, hs, gl, gx, hlen, k⟩ := h
    have mx : MeetAt ⟨CI, CS, CM⟩ H t x := ⟨dx, px, ht, zx⟩
    obtain ⟨ds, ax, lx, hx, ix, _⟩ := zx
    refine ⟨_, pss_cons (ps_set (i := 2) scInsertM.nd rfl (Or.inl rfl) (pe_callB call_len_seq (by rfl) hL PySem.boot_len (pa_cons (pv 0) pa_nil))) <|
      pss_cons (ps_while PassesOwn.never (PW.pt (pw_and (pt_cmpR op_gt (pv 2) pe_int (nomark _)) (pw_and1 (pt_cmpR op_gt (pe_callO G hr rfl (pa_cons (pe_fld (pe_fld (pe_ix ix_list (pv 0) (pe_op op_sub (pv 2) pe_int) (fun _ _ => rfl)) rfl) rfl)
        (pa_cons (pe_fld (pe_fld (pv 1) rfl) rfl) pa_nil))) pe_int (nomark _))))) (pss_one (ps_aug (i := 2) scInsertM.nd rfl (Or.inl rfl) pe_int ip_sub))) <|
      pss_one (ps_expr (pe_bm PySem.F.plainAttrs_list PySem.F.slot_list_insert PySem.F.type_list_insert mt_insert (pv 0) (pa_cons (pv 2) (pa_cons (pv 1) pa_nil)))), ?_⟩
    have lts : (ts.map V.ref).length = L.length := by rw [List.length_map, al.1]
    refine ⟨_, rfl, l, _, rfl, .inl (SqL.of hl), ?_⟩
    -- behind the loop: the place is found
    have fin : ∀ p : Nat, p ≤ L.length → (∀ (j : Nat) (y : Meet), p ≤ j → L[j]? = some y → 0 < mcmp y x) → (∀ y, L[p - 1]? = some y → p = 0 ∨ mcmp y x ≤ 0) →
        Q .non (upd H l (.lst ((ts.map V.ref).take p ++ V.ref t :: (ts.map V.ref).drop p))) := by
      intro p hp h1 h2
      have e : (ts.map V.ref).take p ++ V.ref t :: (ts.map V.ref).drop p = (ts.take p ++ t :: ts.drop p).map V.ref := by rw [List.map_append, List.map_cons, List.map_take, List.map_drop]
      rw [e]
      refine k _ ?_
      rw [Tw.placed_back hs gx.g (fun y hy => (gl y hy).g) hp h1 h2]
      exact (al.take p).append (.cons mx (al.drop p))
    refine ⟨fun m σ H' => ∃ (p : Nat) (z : Int), m = p ∧ z = (p : Int) ∧ p ≤ L.length ∧ (∀ (j : Nat) (y : Meet), p ≤ j → L[j]? = some y → 0 < mcmp y x) ∧ σ = [some (.ref l), some (.ref t), some (.int z)] ∧ H = H',
      ⟨L.length, L.length, ((ts.map V.ref).length : Int), rfl, by rw [lts], Nat.le_refl _, fun j y hj e => ?_, rfl, rfl⟩, ?_⟩
    · rw [List.getElem?_eq_none hj] at e
      cases e
    · rintro m σ H' ⟨p, z, rfl, hz, hp, hj, rfl, rfl⟩
      have last : (∀ y, L[m - 1]? = some y → m = 0 ∨ mcmp y x ≤ 0) → ∃ v, ([some (V.ref l), some (V.ref t), some (V.int z)] : L2.St)[0]? = some (some v) ∧ True := fun _ => ⟨_, rfl, trivial⟩
      refine ⟨_, rfl, _, _, rfl, rfl, _, rfl, ite2 (fun h => ?_) (fun h => iteF ?_)⟩
      · have h : 0 < z := of_decide_eq_true h
        have hm : m - 1 < L.length := by omega
        obtain ⟨t1, ht1, d1, p1, hta, e1, a1, l1, hp1, i1, _⟩ := al.get (List.getElem?_eq_getElem hm)
        have g1 := gl _ (List.getElem_mem hm)
        refine ⟨_, rfl, _, rfl, _, _, rfl, rfl, l, _, _, _, rfl, rfl, SqL.of hl, at_of (j := m - 1) (v := V.ref t1) (by omega) (by rw [List.getElem?_map, ht1]; rfl),
          t1, CM, d1, _, _, rfl, hta, TM.cl, TM.nS, fM_s _ _ _, p1, CS, e1, _, _, rfl, hp1, TS.cl, TS.nF, fS_f _ _ _,
          _, rfl, t, CM, dx, _, _, rfl, ht, TM.cl, TM.nS, fM_s _ _ _, px, CS, ds, _, _, rfl, hx, TS.cl, TS.nF, fS_f _ _ _,
          a1, ax, _, _, rfl, i1, ix, g1.s, gx.s, _, _, rfl, rfl, _, rfl, ite2 (fun h' => ?_) (fun h' => ?_)⟩
        · have h' : 0 < Tw.cmp (Tw.ins L[m - 1].span.from_) (Tw.ins x.span.from_) := of_decide_eq_true h'
          rw [Tw.cmp_eq] at h'
          refine ⟨fun σ' H' => ∃ (p : Nat) (z : Int), p < m ∧ z = (p : Int) ∧ p ≤ L.length ∧ (∀ (j : Nat) (y : Meet), p ≤ j → L[j]? = some y → 0 < mcmp y x) ∧ σ' = [some (.ref l), some (.ref t), some (.int z)] ∧ H = H', fun σ' H' ⟨p, z, q⟩ => ⟨p, q.1, p, z, rfl, q.2⟩, ?_⟩
          refine ⟨_, rfl, _, _, rfl, rfl, m - 1, z - 1, by omega, by omega, by omega, fun j y hjj e => ?_, rfl, rfl⟩
          by_cases hjm : j = m - 1
          · subst hjm
            rw [List.getElem?_eq_getElem hm] at e
            cases e
            exact h'
          · exact hj j y (by omega) e
        · have h' : ¬ 0 < Tw.cmp (Tw.ins L[m - 1].span.from_) (Tw.ins x.span.from_) := fun q => h' (decide_eq_true q)
          rw [Tw.cmp_eq] at h'
          refine ⟨_, rfl, .inl ⟨rfl, _, SqL.of hl⟩, _, rfl, _, rfl, l, _, z, m, _, rfl, rfl, hl, hz, by rw [lts]; exact hp, by rw [lts]; exact Nat.lt_of_lt_of_le hlen (by decide), fin m hp hj fun y e => .inr ?_⟩
          rw [List.getElem?_eq_getElem hm] at e
          cases e
          exact Int.not_lt.mp h'
      · have h : ¬ 0 < z := fun q => h (decide_eq_true q)
        refine ⟨_, rfl, .inl ⟨rfl, _, SqL.of hl⟩, _, rfl, _, rfl, l, _, z, m, _, rfl, rfl, hl, hz, by rw [lts]; exact hp, by rw [lts]; exact Nat.lt_of_lt_of_le hlen (by decide), fin m hp hj fun y e => .inl (by omega)⟩
end
end Sky

namespace Sky
open PySem PySem.Spec PyProof.Rows L2
open Tw (Ins Spn Small SmallS B BOk SOk Gm Sorted mcmp)
open Sy38 (Body Meet)
/-! ### all meetings so far are held, and in order -/
theorem small_meets {s : Sy38.St} {i j : Nat} (S : SOk s) (hi : i < s.length) (hj : j < s.length) (h : i ≠ j) {x : Sy38.Span} (e : Sy38.meets s i j = some x) : Small (Tw.ins x.from_) ∧ ∀ t, x.to_ = some t → Small (Tw.ins t) := by
  have c := Tw.meetOf_conv S hi hj h
  rw [e] at c
  have q := Tw.small_span (Tw.qok_meet S hi hj) c
  refine ⟨q.fr, fun t et => q.to (Tw.ins t) ?_⟩
  show x.to_.map Tw.ins = _
  rw [et]
  rfl
theorem gp_cell {s : Sy38.St} {i j : Nat} (S : SOk s) (hi : i < s.length) (hj : j < s.length) (h : i ≠ j) {m : Meet} (e : Tw.cellAll s i j = some m) : Gp m := by
  unfold Tw.cellAll at e
  cases e2 : Sy38.meets s i j with
  | none =>
    rw [e2] at e
    cases e
  | some x =>
    rw [e2] at e
    cases e
    exact ⟨Tw.meets_good S hi hj h e2, (small_meets S hi hj h e2).1, (small_meets S hi hj h e2).2⟩
structure Told (s : Sy38.St) (L : List Meet) (n : Nat) : Prop where
  srt : Sorted L
  gp : ∀ y ∈ L, Gp y
  len : L.length ≤ n
theorem Told.put {s : Sy38.St} {L : List Meet} {n : Nat} {x : Meet} (h : Told s L n) (g : Gp x) : Told s (Sy38.placed x L) (n + 1) := by
  refine ⟨Tw.placed_sorted h.srt g.g fun y hy => (h.gp y hy).g, fun y hy => ?_, by rw [Tw.placed_length]; exact Nat.succ_le_succ h.len⟩
  rcases Tw.placed_mem.mp hy with rfl | hy
  · exact g
  · exact h.gp y hy
/-- s has at most 8 bodies: at most 8 rows of 8 -/
theorem told_soFar {s : Sy38.St} (S : SOk s) : ∀ (i k : Nat), i ≤ s.length → (i < s.length → k ≤ s.length - (i + 1)) → (i = s.length → k = 0) → Told s (Tw.soFar s i k) (8 * i + k)
  | 0, 0, _, _, _ => ⟨List.Pairwise.nil, fun _ h => (nomatch h), Nat.le_refl _⟩
  | i + 1, 0, h, _, _ => by
    rw [← Tw.soFar_row]
    have q := told_soFar S i (s.length - (i + 1)) (by omega) (fun _ => Nat.le_refl _) (by omega)
    have := S.len
    exact ⟨q.srt, q.gp, Nat.le_trans q.len (by omega)⟩
  | i, k + 1, h, h1, h2 => by
    have hi : i < s.length := by
      rcases Nat.lt_or_ge i s.length with z | z
      · exact z
      · have := h2 (by omega)
        omega
    have hk := h1 hi
    have q := told_soFar S i k h (by omega) (by omega)
    rw [Tw.soFar_step]
    cases e : Tw.cellAll s i (i + 1 + k) with
    | none => exact ⟨q.srt, q.gp, Nat.le_trans q.len (by omega)⟩
    | some x => exact q.put (gp_cell S hi (by omega) (by omega) e)
  termination_by i k => (i, k)
theorem told_ordered {s : Sy38.St} (S : SOk s) : Told s (Sy38.ordered s) 64 := by
  have q := told_soFar S s.length 0 (Nat.le_refl _) (by omega) (by omega)
  rw [Tw.soFar_all] at q
  have := S.len
  exact ⟨q.srt, q.gp, Nat.le_trans q.len (by omega)⟩
section
variable {P : Program} {w : World} {K : PySem.W.Frag} {mg : Str → Option Value} {base : Heap} {CI CS CB : Addr}
theorem not_non (r : V) : (!decide (r = V.non)) = true ↔ r ≠ .non := by
  by_cases h : r = .non
  · rw [decide_eq_true h]
    exact ⟨fun z => absurd z (by decide), fun z => absurd h z⟩
  · rw [decide_eq_false h]
    exact ⟨fun _ => h, fun _ => rfl⟩
/-! ### ordered_meetings -/
def spOrdered (C : Ad) (CB : Addr) : Sp := fun vs H Q _ => ∃ (l : Addr) (as : List Addr) (s : Sy38.St), vs = [.ref l] ∧ BsAt CB H l as s ∧ SOk s ∧
  ∀ (p : Addr) (ts : List Addr) (H' : Hp), H p = none → Same H H' → H' p = some (.lst (ts.map V.ref)) → Al (MeetAt C H') ts (Sy38.ordered s) → Q (.ref p) H'
theorem scOrdered : FnScope ["bodies", "meetings", "lesser", "greater", "span"] ["bodies"] (defScope sOrdered) := ⟨rfl, rfl, rfl, by decide +kernel, rfl, by decide +kernel, by decide +kernel⟩
theorem ok_ordered {CM : Addr} (hL : mg "len" = none) (hR : mg "range" = none) (TM : ClsM K mg CM) (F : Fn K mg "ordered_meetings" sOrdered ["bodies"]) (GM : Ok P w K mg base 6 "meeting_of" ["one", "other"] (spMeetingOf CI CS CB))
    (GI : Ok P w K mg base 5 "insert_meeting" ["meetings", "meeting"] (spInsertM ⟨CI, CS, CM⟩)) : Ok P w K mg base 7 "ordered_meetings" ["bodies"] (spOrdered ⟨CI, CS, CM⟩ CB) := by
  obtain ⟨fm, fdm, MM, FM, bM⟩ := TM.fn
  have GMI : FnOk P w K mg base CX0 1 fm fdm ["self", "lesser", "greater", "span"] (spInitM CM) := ok_initM TM FM
  refine F.ok scOrdered (fun vs H Q E h => ?_) (fun f cdv A outer s H vs Q E hr h => ?_)
  · obtain ⟨l, as, s, rfl, _⟩ := h
    rfl
  · obtain ⟨l, as, st, rfl, bs, S, k⟩ := h
    refine ⟨_, pss_cons (ps_set (i := 1) scOrdered.nd rfl (Or.inl rfl) (pe_lst pa_nil)) <|
      pss_cons (ps_for PassesOwn.never rfl (pi_range1 rfl hR (pa_cons (pe_callB call_len_seq (by rfl) hL PySem.boot_len (pa_cons (pv 0) pa_nil)) pa_nil)) (pg_name (i := 2) scOrdered.nd rfl (Or.inl rfl))
        (pss_one (ps_for PassesOwn.never rfl (pi_range2 rfl hR (pa_cons (pe_op op_add (pv 2) pe_int) (pa_cons (pe_callB call_len_seq (by rfl) hL PySem.boot_len (pa_cons (pv 0) pa_nil)) pa_nil))) (pg_name (i := 3) scOrdered.nd rfl (Or.inl rfl))
          (pss_cons (ps_set (i := 4) scOrdered.nd rfl (Or.inl rfl) (pe_callO GM hr rfl (pa_cons (pe_ix ix_list (pv 0) (pv 2) (fun _ _ => rfl)) (pa_cons (pe_ix ix_list (pv 0) (pv 3) (fun _ _ => rfl)) pa_nil)))) <|
            pss_one (ps_if (pt_cmp (pc_notN (pv 4))) (pss_one (ps_expr (pe_callO GI (hr.mono (by decide)) rfl (pa_cons (pv 1) (pa_cons (pe_make MM GMI (hr.mono (by decide)) rfl TM.mgC bM .nil pass0 (pa_cons (pv 2) (pa_cons (pv 3) (pa_cons (pv 4) pa_nil)))) pa_nil))))) pss_nil))))) <|
      pss_one (ps_ret (pv 1)), ?_⟩
    have lens : (as.map V.ref).length = st.length := by rw [List.length_map, bs.al.1]
    have L8 := S.len
    refine ⟨Nat.zero_le _, fun p hp => ?_⟩
    have bs1 := bs.mono (same_new (o := .lst []) hp)
    refine ⟨_, rfl, l, _, rfl, .inl (SqL.of bs1.lst), ((as.map V.ref).length : Int), rfl, by omega, by omega, ?_⟩
    refine for_range (lo := 0) (n := ((as.map V.ref).length : Int).toNat) (fun i σ H' => ∃ (v2 v3 v4 : Option V) (ts : List Addr), σ = [some (.ref l), some (.ref p), v2, v3, v4] ∧ Same H H' ∧ H' p = some (.lst (ts.map V.ref)) ∧ Al (MeetAt ⟨CI, CS, CM⟩ H') ts (Tw.soFar st i 0))
      ⟨none, none, none, [], rfl, same_new hp, upd_same, Al.nil⟩ ?_ ?_
    · rintro i σ H1 hi ⟨v2, v3, v4, ts, rfl, s1, hp1, al1⟩
      have ei : (0 : Int) + (i : Int) = (i : Int) := Int.zero_add _
      rw [ei]
      have hi' : i < st.length := by omega
      have b1 := bs.mono s1
      refine ⟨_, rfl, _, _, rfl, rfl, _, rfl, l, _, rfl, .inl (SqL.of b1.lst), (i : Int) + 1, ((as.map V.ref).length : Int), rfl, ⟨by omega, by omega, by omega, by omega⟩, ?_⟩
      refine for_range (lo := (i : Int) + 1) (n := (((as.map V.ref).length : Int) - ((i : Int) + 1)).toNat) (fun j σ H' => ∃ (v3 v4 : Option V) (ts : List Addr), σ = [some (.ref l), some (.ref p), some (.int (i : Int)), v3, v4] ∧ Same H H' ∧ H' p = some (.lst (ts.map V.ref)) ∧ Al (MeetAt ⟨CI, CS, CM⟩ H') ts (Tw.soFar st i j))
        ⟨v3, v4, ts, rfl, s1, hp1, al1⟩ ?_ ?_
      · rintro j σ H2 hj ⟨w3, w4, us, rfl, s2, hp2, al2⟩
        have ej : (i : Int) + 1 + (j : Int) = ((i + 1 + j : Nat) : Int) := by omega
        rw [ej]
        have hj' : i + 1 + j < st.length := by omega
        have b2 := bs.mono s2
        obtain ⟨aa, ha, ba⟩ := b2.al.get (List.getElem?_eq_getElem hi')
        obtain ⟨ab, hb, bb⟩ := b2.al.get (List.getElem?_eq_getElem hj')
        have ge : Sy38.bodyAt st i = st[i] := Tw.bodyAt_get (List.getElem?_eq_getElem hi')
        have gf : Sy38.bodyAt st (i + 1 + j) = st[i + 1 + j] := Tw.bodyAt_get (List.getElem?_eq_getElem hj')
        have conv := Tw.meetOf_conv S hi' hj' (show i ≠ i + 1 + j by omega)
        rw [ge, gf] at conv
        have stp := Tw.soFar_step st i j
        refine ⟨_, rfl, _, rfl, l, _, _, _, rfl, rfl, SqL.of b2.lst, at_of (j := i) (v := V.ref aa) rfl (by rw [List.getElem?_map, ha]; rfl), _, rfl, _, rfl, l, _, _, _, rfl, rfl, SqL.of b2.lst, at_of (j := i + 1 + j) (v := V.ref ab) rfl (by rw [List.getElem?_map, hb]; rfl),
          aa, ab, st[i], st[i + 1 + j], rfl, ba, bb, S.ok _ (List.getElem_mem hi'), S.ok _ (List.getElem_mem hj'), fun v H3 s3 rv => ?_⟩
        have s03 := s2.trans s3
        have hp3 := s3 _ _ hp2
        have al3 := al2.mono fun _ _ q => q.mono s3
        rw [conv] at rv
        refine ⟨_, rfl, _, rfl, ite2 (fun h => ?_) (fun h => ?_)⟩
        · have h := (not_non v).mp h
          cases em : Sy38.meets st i (i + 1 + j) with
          | none =>
            rw [em] at rv
            exact absurd rv h
          | some x =>
            rw [em] at rv
            obtain ⟨q, rfl, zq⟩ := rv
            have ec : Tw.cellAll st i (i + 1 + j) = some ⟨i, i + 1 + j, x⟩ := by
              unfold Tw.cellAll
              rw [em]
              rfl
            have g := gp_cell S hi' hj' (show i ≠ i + 1 + j by omega) ec
            have T := told_soFar S i j (by omega) (fun _ => by omega) (by omega)
            rw [ec] at stp
            refine ⟨_, rfl, _, rfl, _, rfl, _, rfl, ?_⟩
            intro t dt nt ndt net
            refine ⟨t, dt, (i : Int), ((i + 1 + j : Nat) : Int), .ref q, rfl, upd_same, fun H4 e4 k4 => ⟨rfl, ?_⟩⟩
            have s4 : Same H3 H4 := Same.made nt ndt k4
            refine ⟨p, t, us, _, ⟨i, i + 1 + j, x⟩, rfl, s4 _ _ hp3, al3.mono fun _ _ q => q.mono s4, ⟨dt, q, e4, zq.mono s4⟩, T.srt, T.gp, g, Nat.lt_of_le_of_lt T.len (by omega), fun ts' al' => ?_⟩
            refine ⟨_, _, ts', rfl, fun b o e => ?_, upd_same, ?_⟩
            · rw [upd_ne (ne_of_none e hp)]
              exact s4 _ _ (s03 _ _ e)
            · rw [stp]
              exact al'.mono fun _ _ q => q.upd (s4 _ _ hp3)
        · have h : v = .non := by
            by_cases z : v = .non
            · exact z
            · exact absurd ((not_non v).mpr z) h
          cases em : Sy38.meets st i (i + 1 + j) with
          | none =>
            have ec : Tw.cellAll st i (i + 1 + j) = none := by
              unfold Tw.cellAll
              rw [em]
              rfl
            rw [ec] at stp
            exact ⟨_, _, us, rfl, s03, hp3, by rw [stp]; exact al3⟩
          | some x =>
            rw [em] at rv
            obtain ⟨q, e, _⟩ := rv
            rw [h] at e
            cases e
      · rintro σ H2 ⟨w3, w4, us, rfl, s2, hp2, al2⟩
        have en : (((as.map V.ref).length : Int) - ((i : Int) + 1)).toNat = st.length - (i + 1) := by omega
        rw [en, Tw.soFar_row] at al2
        exact ⟨_, _, _, us, rfl, s2, hp2, al2⟩
    · rintro σ H1 ⟨v2, v3, v4, ts, rfl, s1, hp1, al1⟩
      have en : ((as.map V.ref).length : Int).toNat = st.length := by omega
      rw [en, Tw.soFar_all] at al1
      exact ⟨_, rfl, k p ts H1 hp s1 hp1 al1⟩
end
end Sky

namespace Sky
open PySem PySem.Spec PyProof.Rows L2
open Tw (Ins Spn Small SmallS B BOk SOk Gm Sorted mcmp)
open Sy38 (Body Meet)
/-- the numbers written at the top -/
structure Cst (mg : Str → Option Value) : Prop where
  wrong : ∃ t, mg "WRONG" = some (.int (-1) t)
  asFar : ∃ t, mg "AS_FAR" = some (.int (-4) t)
  later : ∃ t, mg "NONE_LATER" = some (.int (-6) t)
  instant : ∃ t, mg "MOST_INSTANT" = some (.int 100000 t)
  full : ∃ t, mg "FULL" = some (.int (-5) t)
  bodies : ∃ t, mg "MOST_BODIES" = some (.int 8 t)
  place : ∃ t, mg "MOST_PLACE" = some (.int 2000 t)
  pace : ∃ t, mg "MOST_PACE" = some (.int 100 t)
  radius : ∃ t, mg "MOST_RADIUS" = some (.int 200 t)
  far : ∃ t, mg "MOST_FAR" = some (.int 1000 t)
  placeA : ∃ t, mg "PLACE_ADDED" = some (.int 1000 t)
  paceA : ∃ t, mg "PACE_ADDED" = some (.int 50 t)
theorem pe_num {X : Cx} {x : Str} {z : Int} {t : Tok} {pos : Pos} (hg : Gl X x) (hm : X.mg x = some (.int z t)) (hd : (x == ("__debug__" : Str)) = false := by decide) : PE X (.Name x pos) (tC (.int z)) := pe_glob hg hm ⟨t, rfl⟩ hd
/-- numbers as they are handed -/
def nums (ns : List Nat) : List V := ns.map fun (n : Nat) => V.int (n : Int)
def well (x y u v r fa : Nat) : Bool := decide (x ≤ 2000 ∧ y ≤ 2000 ∧ u ≤ 100 ∧ v ≤ 100 ∧ 1 ≤ r ∧ r ≤ 200 ∧ fa ≤ 1000)
section
variable {P : Program} {w : World} {K : PySem.W.Frag} {mg : Str → Option Value} {base : Heap} {CI CS CB : Addr}
/-! ### is_body_told_well, body_told -/
def spWell : Sp := fun vs H Q _ => ∃ (ah : Addr) (x y u v r fa : Nat), vs = [.ref ah] ∧ H ah = some (.lst (nums [x, y, u, v, r, fa])) ∧ Q (.bl (well x y u v r fa)) H
theorem scWell : FnScope ["handed"] ["handed"] (defScope sWell) := ⟨rfl, rfl, rfl, by decide +kernel, rfl, by decide +kernel, by decide +kernel⟩
theorem ok_well (T : Cst mg) (F : Fn K mg "is_body_told_well" sWell ["handed"]) : Ok P w K mg base 1 "is_body_told_well" ["handed"] spWell := by
  obtain ⟨t1, c1⟩ := T.place
  obtain ⟨t2, c2⟩ := T.pace
  obtain ⟨t3, c3⟩ := T.radius
  obtain ⟨t4, c4⟩ := T.far
  refine F.ok scWell (fun vs H Q E h => ?_) (fun f cdv A outer s H vs Q E hr h => ?_)
  · obtain ⟨ah, x, y, u, v, r, fa, rfl, _⟩ := h
    rfl
  · obtain ⟨ah, x, y, u, v, r, fa, rfl, hh, k⟩ := h
    refine ⟨_, pss_cons (ps_if (PW.pt (pw_or (pt_cmpR op_gt (pe_ix ix_list (pv 0) pe_int (fun _ _ => rfl)) (pe_num rfl c1) (nomark _)) (pw_or1 (pt_cmpR op_gt (pe_ix ix_list (pv 0) pe_int (fun _ _ => rfl)) (pe_num rfl c1) (nomark _))))) (pss_one (ps_ret pe_bl)) pss_nil) <|
      pss_cons (ps_if (PW.pt (pw_or (pt_cmpR op_gt (pe_ix ix_list (pv 0) pe_int (fun _ _ => rfl)) (pe_num rfl c2) (nomark _)) (pw_or1 (pt_cmpR op_gt (pe_ix ix_list (pv 0) pe_int (fun _ _ => rfl)) (pe_num rfl c2) (nomark _))))) (pss_one (ps_ret pe_bl)) pss_nil) <|
      pss_one (ps_ret (pe_and (pe_chain op_le op_le pe_int (pe_ix ix_list (pv 0) pe_int (fun _ _ => rfl)) (pe_num rfl c3)) (pe_one (pe_cmpR op_le (pe_ix ix_list (pv 0) pe_int (fun _ _ => rfl)) (pe_num rfl c4) (nomark _))))), ?_⟩
    have no : ¬ (x ≤ 2000 ∧ y ≤ 2000 ∧ u ≤ 100 ∧ v ≤ 100 ∧ 1 ≤ r ∧ r ≤ 200 ∧ fa ≤ 1000) → Q (.bl false) H := fun z => by
      unfold well at k
      rw [decide_eq_false z] at k
      exact k
    refine ⟨_, rfl, ah, _, _, _, rfl, rfl, SqL.of hh, at_of (j := 0) (v := V.int (x : Int)) rfl rfl, _, _, rfl, rfl, _, rfl, ite2 (fun h1 => iteT ?_) (fun h1 => ⟨_, rfl, ah, _, _, _, rfl, rfl, SqL.of hh, at_of (j := 1) (v := V.int (y : Int)) rfl rfl, _, _, rfl, rfl, _, rfl, ite2 (fun h2 => ?_) (fun h2 => ?_)⟩)⟩
    · have h1 : (2000 : Int) < (x : Int) := of_decide_eq_true h1
      exact no (by omega)
    · have h2 : (2000 : Int) < (y : Int) := of_decide_eq_true h2
      exact no (by omega)
    · have h1 : ¬ (2000 : Int) < (x : Int) := fun z => h1 (decide_eq_true z)
      have h2 : ¬ (2000 : Int) < (y : Int) := fun z => h2 (decide_eq_true z)
      refine ⟨_, rfl, ah, _, _, _, rfl, rfl, SqL.of hh, at_of (j := 2) (v := V.int (u : Int)) rfl rfl, _, _, rfl, rfl, _, rfl, ite2 (fun h3 => iteT ?_) (fun h3 => ⟨_, rfl, ah, _, _, _, rfl, rfl, SqL.of hh, at_of (j := 3) (v := V.int (v : Int)) rfl rfl, _, _, rfl, rfl, _, rfl, ite2 (fun h4 => ?_) (fun h4 => ?_)⟩)⟩
      · have h3 : (100 : Int) < (u : Int) := of_decide_eq_true h3
        exact no (by omega)
      · have h4 : (100 : Int) < (v : Int) := of_decide_eq_true h4
        exact no (by omega)
      · have h3 : ¬ (100 : Int) < (u : Int) := fun z => h3 (decide_eq_true z)
        have h4 : ¬ (100 : Int) < (v : Int) := fun z => h4 (decide_eq_true z)
        refine ⟨_, rfl, ah, _, _, _, rfl, rfl, SqL.of hh, at_of (j := 4) (v := V.int (r : Int)) rfl rfl, _, _, rfl, rfl, _, rfl, ite2 (fun h5 => ⟨_, _, rfl, rfl, _, rfl, ite2 (fun h6 => ?_) (fun h6 => ?_)⟩) (fun h5 => ⟨_, rfl, iteF ?_⟩)⟩
        · have h5 : (1 : Int) ≤ (r : Int) := of_decide_eq_true h5
          have h6 : (r : Int) ≤ (200 : Int) := of_decide_eq_true h6
          refine ⟨_, rfl, ah, _, _, _, rfl, rfl, SqL.of hh, at_of (j := 5) (v := V.int (fa : Int)) rfl rfl, _, _, rfl, rfl, ?_⟩
          have e : decide ((fa : Int) ≤ 1000) = well x y u v r fa := decide_eq_decide.mpr ⟨fun z => by omega, fun z => by omega⟩
          show Q (.bl (decide ((fa : Int) ≤ 1000))) H
          rw [e]
          exact k
        · have h6 : ¬ (r : Int) ≤ (200 : Int) := fun z => h6 (decide_eq_true z)
          exact no (by omega)
        · have h5 : ¬ (1 : Int) ≤ (r : Int) := fun z => h5 (decide_eq_true z)
          exact no (by omega)
def bodyOf (x y u v r fa : Nat) : Body := ⟨(x : Int) - 1000, (y : Int) - 1000, (u : Int) - 50, (v : Int) - 50, r, fa⟩
def spBodyTold (CB : Addr) : Sp := fun vs H Q _ => ∃ (ah : Addr) (x y u v r fa : Nat), vs = [.ref ah] ∧ H ah = some (.lst (nums [x, y, u, v, r, fa])) ∧ ∀ (p : Addr) (H' : Hp), H p = none → Same H H' → BodyAt CB H' p (bodyOf x y u v r fa) → Q (.ref p) H'
theorem scBodyTold : FnScope ["handed", "x", "y", "u", "v"] ["handed"] (defScope sBodyTold) := ⟨rfl, rfl, rfl, by decide +kernel, rfl, by decide +kernel, by decide +kernel⟩
theorem ok_bodyTold (T : Cst mg) (TB : ClsB K mg CB) (F : Fn K mg "body_told" sBodyTold ["handed"]) : Ok P w K mg base 3 "body_told" ["handed"] (spBodyTold CB) := by
  obtain ⟨t1, c1⟩ := T.placeA
  obtain ⟨t2, c2⟩ := T.paceA
  obtain ⟨fb, fdb, MB, FB, bB⟩ := TB.fn
  have GB : FnOk P w K mg base CX0 1 fb fdb ["self", "x", "y", "u", "v", "radius", "far"] (spInitB CB) := ok_initB TB FB
  refine F.ok scBodyTold (fun vs H Q E h => ?_) (fun f cdv A outer s H vs Q E hr h => ?_)
  · obtain ⟨ah, x, y, u, v, r, fa, rfl, _⟩ := h
    rfl
  · obtain ⟨ah, x, y, u, v, r, fa, rfl, hh, k⟩ := h
    refine ⟨_, pss_cons (ps_set (i := 1) scBodyTold.nd rfl (Or.inl rfl) (pe_op op_sub (pe_ix ix_list (pv 0) pe_int (fun _ _ => rfl)) (pe_num rfl c1))) <|
      pss_cons (ps_set (i := 2) scBodyTold.nd rfl (Or.inl rfl) (pe_op op_sub (pe_ix ix_list (pv 0) pe_int (fun _ _ => rfl)) (pe_num rfl c1))) <|
      pss_cons (ps_set (i := 3) scBodyTold.nd rfl (Or.inl rfl) (pe_op op_sub (pe_ix ix_list (pv 0) pe_int (fun _ _ => rfl)) (pe_num rfl c2))) <|
      pss_cons (ps_set (i := 4) scBodyTold.nd rfl (Or.inl rfl) (pe_op op_sub (pe_ix ix_list (pv 0) pe_int (fun _ _ => rfl)) (pe_num rfl c2))) <|
      pss_one (ps_ret (pe_make MB GB hr rfl TB.mgC bB .nil pass0 (pa_cons (pv 1) (pa_cons (pv 2) (pa_cons (pv 3) (pa_cons (pv 4) (pa_cons (pe_ix ix_list (pv 0) pe_int (fun _ _ => rfl)) (pa_cons (pe_ix ix_list (pv 0) pe_int (fun _ _ => rfl)) pa_nil)))))))), ?_⟩
    refine ⟨_, rfl, ah, _, _, _, rfl, rfl, SqL.of hh, at_of (j := 0) (v := V.int (x : Int)) rfl rfl, _, _, rfl, rfl, ?_⟩
    refine ⟨_, rfl, ah, _, _, _, rfl, rfl, SqL.of hh, at_of (j := 1) (v := V.int (y : Int)) rfl rfl, _, _, rfl, rfl, ?_⟩
    refine ⟨_, rfl, ah, _, _, _, rfl, rfl, SqL.of hh, at_of (j := 2) (v := V.int (u : Int)) rfl rfl, _, _, rfl, rfl, ?_⟩
    refine ⟨_, rfl, ah, _, _, _, rfl, rfl, SqL.of hh, at_of (j := 3) (v := V.int (v : Int)) rfl rfl, _, _, rfl, rfl, ?_⟩
    refine ⟨_, rfl, _, rfl, _, rfl, _, rfl, _, rfl, ah, _, _, _, rfl, rfl, SqL.of hh, at_of (j := 4) (v := V.int (r : Int)) rfl rfl, _, rfl, ah, _, _, _, rfl, rfl, SqL.of hh, at_of (j := 5) (v := V.int (fa : Int)) rfl rfl, ?_⟩
    intro p d np nd ne
    refine ⟨p, d, bodyOf x y u v r fa, rfl, upd_same, fun H1 b1 k1 => ⟨rfl, ?_⟩⟩
    exact k p H1 np (Same.made np nd k1) b1
/-! ### what an act promises: l the list of bodies, h the numbers handed -/
def Keep (l : Addr) (H H' : Hp) : Prop := ∀ b o, H b = some o → b ≠ l → H' b = some o
theorem keep_same {H H' : Hp} (s : Same H H') (l : Addr) : Keep l H H' := fun b o e _ => s b o e
def spAct (CB : Addr) (n : Nat) (c : List Nat → Sy38.Call) : Sp := fun vs H Q _ => ∃ (l h : Addr) (as : List Addr) (s : Sy38.St) (ns : List Nat), vs = [.ref l, .ref h] ∧ BsAt CB H l as s ∧ SOk s ∧ H h = some (.lst (nums ns)) ∧ ns.length = n ∧
  ∀ (p : Addr) (as' : List Addr) (H' : Hp), H p = none → H' p = some (.lst ((Sy38Neutral.out (Sy38.step s (c ns)).2).map V.int)) → BsAt CB H' l as' (Sy38.step s (c ns)).1 → Keep l H H' → Q (.ref p) H'
/-- one number answered, nothing changed -/
theorem act_ok1 {CB : Addr} {H : Hp} {Q : VK} {l : Addr} {as : List Addr} {s s' : Sy38.St} {a : Sy38.Ans} {z : Int} (bs : BsAt CB H l as s) (es : s' = s) (ea : a = Sy38.ok z)
    (k : ∀ (p : Addr) (as' : List Addr) (H' : Hp), H p = none → H' p = some (.lst ((Sy38Neutral.out a).map V.int)) → BsAt CB H' l as' s' → Keep l H H' → Q (.ref p) H') (p : Addr) (hp : H p = none) : Q (.ref p) (upd H p (.lst [.int z])) := by
  subst es ea
  exact k p as _ hp upd_same (bs.mono (same_new hp)) (keep_same (same_new hp) l)
/-! ### begins, drop -/
theorem scBegins : FnScope ["bodies", "handed"] ["bodies", "handed"] (defScope sBegins) := ⟨rfl, rfl, rfl, by decide +kernel, rfl, by decide +kernel, by decide +kernel⟩
theorem ok_begins (F : Fn K mg "answer_begins" sBegins ["bodies", "handed"]) : Ok P w K mg base 1 "answer_begins" ["bodies", "handed"] (spAct CB 0 fun _ => .begins) := by
  refine F.ok scBegins (fun vs H Q E h => ?_) (fun f cdv A outer s H vs Q E hr h => ?_)
  · obtain ⟨l, h, as, s, ns, rfl, _⟩ := h
    rfl
  · obtain ⟨l, h, as, st, ns, rfl, bs, S, hh, hn, k⟩ := h
    refine ⟨_, pss_cons (ps_expr (pe_bm0 PySem.F.plainAttrs_list PySem.F.slot_list_clear PySem.F.type_list_clear mt_clear (pv 0))) <| pss_one (ps_ret (pe_lst (pa_cons pe_int pa_nil))), ?_⟩
    refine ⟨_, rfl, .inl ⟨rfl, _, SqL.of bs.lst⟩, l, _, rfl, rfl, bs.lst, ?_⟩
    refine ⟨(by show 1 ≤ sizeLine; decide), fun p hp => ?_⟩
    have hpl : p ≠ l := fun z => by rw [z, upd_same] at hp; cases hp
    have hp0 : H p = none := by rw [upd_ne hpl] at hp; exact hp
    refine k p [] _ hp0 upd_same ⟨by rw [upd_ne hpl.symm, upd_same]; rfl, Al.nil⟩ fun b o e hb => ?_
    rw [upd_ne (ne_of_none e hp0), upd_ne hb]
    exact e
theorem scDrop : FnScope ["bodies", "handed"] ["bodies", "handed"] (defScope sDrop) := ⟨rfl, rfl, rfl, by decide +kernel, rfl, by decide +kernel, by decide +kernel⟩
theorem ok_drop (hL : mg "len" = none) (T : Cst mg) (F : Fn K mg "answer_drop" sDrop ["bodies", "handed"]) : Ok P w K mg base 1 "answer_drop" ["bodies", "handed"] (spAct CB 1 fun ns => .drop (ns.getD 0 0)) := by
  obtain ⟨t1, c1⟩ := T.wrong
  refine F.ok scDrop (fun vs H Q E h => ?_) (fun f cdv A outer s H vs Q E hr h => ?_)
  · obtain ⟨l, h, as, s, ns, rfl, _⟩ := h
    rfl
  · obtain ⟨l, ah, as, st, ns, rfl, bs, S, hh, hn, k⟩ := h
    obtain ⟨x, rfl⟩ : ∃ x, ns = [x] := List.length_eq_one_iff.mp hn
    refine ⟨_, pss_cons (ps_if (pt_cmpR op_ge (pe_ix ix_list (pv 1) pe_int (fun _ _ => rfl)) (pe_callB call_len_seq (by rfl) hL PySem.boot_len (pa_cons (pv 0) pa_nil)) (nomark _)) (pss_one (ps_ret (pe_lst (pa_cons (pe_num rfl c1) pa_nil)))) pss_nil) <|
      pss_cons (ps_expr (pe_bm PySem.F.plainAttrs_list PySem.F.slot_list_pop PySem.F.type_list_pop mt_popAt (pv 0) (pa_cons (pe_ix ix_list (pv 1) pe_int (fun _ _ => rfl)) pa_nil))) <|
      pss_one (ps_ret (pe_lst (pa_cons (pe_callB call_len_seq (by rfl) hL PySem.boot_len (pa_cons (pv 0) pa_nil)) pa_nil))), ?_⟩
    have lens : (as.map V.ref).length = st.length := by rw [List.length_map, bs.al.1]
    have L8 := S.len
    have k' : ∀ (p : Addr) (as' : List Addr) (H' : Hp), H p = none → H' p = some (.lst ((Sy38Neutral.out (if st.length ≤ x then (st, Sy38.ok (-1)) else (st.eraseIdx x, Sy38.ok ((st.length - 1 : Nat) : Int))).2).map V.int)) → BsAt CB H' l as' (if st.length ≤ x then (st, Sy38.ok (-1)) else (st.eraseIdx x, Sy38.ok ((st.length - 1 : Nat) : Int))).1 → Keep l H H' → Q (.ref p) H' := k
    refine ⟨_, rfl, ah, _, _, _, rfl, rfl, SqL.of hh, at_of (j := 0) (v := V.int (x : Int)) rfl rfl, _, rfl, l, _, rfl, .inl (SqL.of bs.lst), _, _, rfl, rfl, _, rfl, ite2 (fun h1 => ?_) (fun h1 => ?_)⟩
    · have h1 : ((as.map V.ref).length : Int) ≤ (x : Int) := of_decide_eq_true h1
      rw [if_pos (by omega)] at k'
      exact ⟨(by show 1 ≤ sizeLine; decide), fun p hp => act_ok1 bs rfl rfl k' p hp⟩
    · have h1 : ¬ ((as.map V.ref).length : Int) ≤ (x : Int) := fun z => h1 (decide_eq_true z)
      rw [if_neg (by omega)] at k'
      have hx : x < as.length := by rw [List.length_map] at h1; omega
      have hsq : seqIndex? (x : Int) (as.map V.ref).length = some x := (ixN_seq (i := (x : Int)) (by unfold ixN; rw [if_pos (by omega), if_pos (by omega)]; rfl)).1
      refine ⟨_, rfl, .inl ⟨rfl, _, SqL.of bs.lst⟩, _, rfl, ah, _, _, _, rfl, rfl, SqL.of hh, at_of (j := 0) (v := V.int (x : Int)) rfl rfl, l, _, _, x, V.ref as[x], rfl, rfl, bs.lst, by omega, by omega, hsq, by rw [List.getElem?_map, List.getElem?_eq_getElem hx]; rfl, ?_⟩
      have e : ((as.map V.ref).eraseIdx x) = (as.eraseIdx x).map V.ref := by rw [List.eraseIdx_eq_take_drop_succ, List.eraseIdx_eq_take_drop_succ, List.map_append, List.map_take, List.map_drop]
      refine ⟨_, rfl, l, _, rfl, .inl (SqL.of upd_same), (by show 1 ≤ sizeLine; decide), fun p hp => ?_⟩
      have hpl : p ≠ l := fun z => by rw [z, upd_same] at hp; cases hp
      have hp0 : H p = none := by rw [upd_ne hpl] at hp; exact hp
      have kp : ∀ (q : Addr) (o : HO), H q = some o → q ≠ l → upd (upd H l (.lst ((as.map V.ref).eraseIdx x))) p (.lst [.int (((as.map V.ref).eraseIdx x).length : Int)]) q = some o := fun q o e hq => by
        rw [upd_ne (ne_of_none e hp0), upd_ne hq]
        exact e
      refine k' p (as.eraseIdx x) _ hp0 ?_ ⟨by rw [upd_ne hpl.symm, upd_same, e], (bs.al.erase x).mono fun a b q => ?_⟩ kp
      · rw [upd_same, e, List.length_map, List.length_eraseIdx_of_lt hx, bs.al.1]
        rfl
      · obtain ⟨dx, q⟩ := q
        exact ⟨dx, kp _ _ q (ne_of q bs.lst (by intro z; cases z))⟩
end
end Sky

namespace Sky
open PySem PySem.Spec PyProof.Rows L2
open Tw (Ins Spn Small SmallS B BOk SOk Gm Sorted mcmp)
open Sy38 (Body Meet)
theorem take_snoc {α : Type} : ∀ {l : List α} {i : Nat} {x : α}, l[i]? = some x → l.take (i + 1) = l.take i ++ [x]
  | [], i, x, h => by simp at h
  | a :: l, 0, x, h => by
    have e : a = x := Option.some.inj h
    subst e
    rfl
  | a :: l, i + 1, x, h => by
    have ih := take_snoc (l := l) (i := i) (x := x) h
    show a :: l.take (i + 1) = a :: l.take i ++ [x]
    rw [ih]
    rfl
/-- the numbers that tell how far the bodies are off -/
def fars (s : Sy38.St) : List V := s.map fun b => V.int (b.far : Int)
theorem inV_fars (fa : Nat) : ∀ s : Sy38.St, inV (V.int (fa : Int)) (fars s) = s.any fun (b : Body) => b.far == fa
  | [] => rfl
  | b :: s => by
    have ih := inV_fars fa s
    unfold inV fars at *
    rw [List.map_cons, List.any_cons, List.any_cons, ih]
    congr 1
    show ((b.far : Int) == (fa : Int)) = (b.far == fa)
    by_cases h : b.far = fa
    · rw [h]
      simp
    · rw [beq_eq_false_iff_ne.mpr h, beq_eq_false_iff_ne.mpr (by omega)]
theorem flat_fars : ∀ s : Sy38.St, (fars s).all flatV = true
  | [] => rfl
  | b :: s => by
    show (flatV (V.int (b.far : Int)) && (fars s).all flatV) = true
    rw [flat_fars s]
    rfl
section
variable {P : Program} {w : World} {K : PySem.W.Frag} {mg : Str → Option Value} {base : Heap} {CI CS CB : Addr}
theorem scBody : FnScope ["bodies", "handed", "body"] ["bodies", "handed"] (defScope sBody) := ⟨rfl, rfl, rfl, by decide +kernel, rfl, by decide +kernel, by decide +kernel⟩
theorem step_body (st : Sy38.St) (x y u v r fa : Nat) : Sy38.step st (.body x y u v r fa) = if well x y u v r fa = false then (st, Sy38.ok (-1)) else if 8 ≤ st.length then (st, Sy38.ok (-5)) else if (st.any fun (b : Body) => b.far == fa) = true then (st, Sy38.ok (-4)) else
    (st ++ [bodyOf x y u v r fa], Sy38.ok (st.length : Nat)) := by
  show (if Sy38.PLACE < x ∨ Sy38.PLACE < y ∨ Sy38.SPEED < u ∨ Sy38.SPEED < v ∨ r < 1 ∨ Sy38.RADIUS < r ∨ Sy38.FAR < fa then _ else _) = _
  unfold well Sy38.PLACE Sy38.SPEED Sy38.RADIUS Sy38.FAR
  by_cases h : x ≤ 2000 ∧ y ≤ 2000 ∧ u ≤ 100 ∧ v ≤ 100 ∧ 1 ≤ r ∧ r ≤ 200 ∧ fa ≤ 1000
  · rw [if_neg (show ¬ (2000 < x ∨ 2000 < y ∨ 100 < u ∨ 100 < v ∨ r < 1 ∨ 200 < r ∨ 1000 < fa) by omega), decide_eq_true h, if_neg (show ¬ (true = false) by decide)]
    rfl
  · rw [if_pos (show (2000 < x ∨ 2000 < y ∨ 100 < u ∨ 100 < v ∨ r < 1 ∨ 200 < r ∨ 1000 < fa) by omega), decide_eq_false h, if_pos rfl]
theorem ok_body (hL : mg "len" = none) (T : Cst mg) (TB : ClsB K mg CB) (F : Fn K mg "answer_body" sBody ["bodies", "handed"]) (GW : Ok P w K mg base 1 "is_body_told_well" ["handed"] spWell) (GT : Ok P w K mg base 3 "body_told" ["handed"] (spBodyTold CB)) :
    Ok P w K mg base 4 "answer_body" ["bodies", "handed"] (spAct CB 6 fun ns => .body (ns.getD 0 0) (ns.getD 1 0) (ns.getD 2 0) (ns.getD 3 0) (ns.getD 4 0) (ns.getD 5 0)) := by
  obtain ⟨t1, c1⟩ := T.wrong
  obtain ⟨t2, c2⟩ := T.full
  obtain ⟨t3, c3⟩ := T.asFar
  obtain ⟨t4, c4⟩ := T.bodies
  refine F.ok scBody (fun vs H Q E h => ?_) (fun f cdv A outer s H vs Q E hr h => ?_)
  · obtain ⟨l, h, as, s, ns, rfl, _⟩ := h
    rfl
  · obtain ⟨l, ah, as, st, ns, rfl, bs, S, hh, hn, k⟩ := h
    obtain ⟨x, y, u, v, r, fa, rfl⟩ : ∃ x y u v r fa, ns = [x, y, u, v, r, fa] := by
      match ns, hn with
      | [x, y, u, v, r, fa], _ => exact ⟨x, y, u, v, r, fa, rfl⟩
    have okB : BlkOk ["bodies", "handed", "body"] (defScope sBody) { kind := .function, names := [(".0", .local), ("body", .local)], isGenerator := false, isCoroutine := false, more := [] } [("body", 2)] := ⟨rfl, by decide +kernel, by decide +kernel, by decide +kernel, by decide +kernel⟩
    refine ⟨_, pss_cons (ps_if (pt_not (pt_val (pe_callO GW (hr.mono (by decide)) rfl (pa_cons (pv 1) pa_nil)))) (pss_one (ps_ret (pe_lst (pa_cons (pe_num rfl c1) pa_nil)))) pss_nil) <|
      pss_cons (ps_if (pt_cmpR op_eq (pe_callB call_len_seq (by rfl) hL PySem.boot_len (pa_cons (pv 0) pa_nil)) (pe_num rfl c4) (nomark _)) (pss_one (ps_ret (pe_lst (pa_cons (pe_num rfl c2) pa_nil)))) pss_nil) <|
      pss_cons (ps_if (pt_cmpR op_in_seq (pe_ix ix_list (pv 1) pe_int (fun _ _ => rfl)) (pe_lc (te := tFld K (tVar 2) "far") rfl scBody.nd (pi_list (pv 0)) okB (fun _ _ _ _ _ => pg_name (i := 2) scBody.nd rfl (Or.inl rfl)) (fun _ _ _ _ _ => pts_nil) (fun _ _ _ _ _ => pe_fld (pv 2) rfl)) rfl) (pss_one (ps_ret (pe_lst (pa_cons (pe_num rfl c3) pa_nil)))) pss_nil) <|
      pss_cons (ps_expr (pe_bm PySem.F.plainAttrs_list PySem.F.slot_list_append PySem.F.type_list_append mt_append (pv 0) (pa_cons (pe_callO GT hr rfl (pa_cons (pv 1) pa_nil)) pa_nil))) <|
      pss_one (ps_ret (pe_lst (pa_cons (pe_op op_sub (pe_callB call_len_seq (by rfl) hL PySem.boot_len (pa_cons (pv 0) pa_nil)) pe_int) pa_nil))), ?_⟩
    have lens : (as.map V.ref).length = st.length := by rw [List.length_map, bs.al.1]
    have L8 := S.len
    have stp := step_body st x y u v r fa
    have k' : ∀ (p : Addr) (as' : List Addr) (H' : Hp), H p = none → H' p = some (.lst ((Sy38Neutral.out (Sy38.step st (.body x y u v r fa)).2).map V.int)) → BsAt CB H' l as' (Sy38.step st (.body x y u v r fa)).1 → Keep l H H' → Q (.ref p) H' := k
    rw [stp] at k'
    refine ⟨_, rfl, ah, x, y, u, v, r, fa, rfl, hh, _, rfl, ite2 (fun h1 => ?_) (fun h1 => ?_)⟩
    · have h1 : well x y u v r fa = false := by simpa using h1
      rw [if_pos h1] at k'
      exact ⟨(by show 1 ≤ sizeLine; decide), fun p hp => act_ok1 bs rfl rfl k' p hp⟩
    · have h1 : well x y u v r fa = true := by simpa using h1
      rw [if_neg (by rw [h1]; decide)] at k'
      refine ⟨_, rfl, l, _, rfl, .inl (SqL.of bs.lst), rfl, _, rfl, ite2 (fun h2 => ?_) (fun h2 => ?_)⟩
      · have h2 : ((as.map V.ref).length : Int) = 8 := V.int.inj (of_decide_eq_true h2)
        rw [if_pos (by omega)] at k'
        exact ⟨(by show 1 ≤ sizeLine; decide), fun p hp => act_ok1 bs rfl rfl k' p hp⟩
      · have h2 : ¬ ((as.map V.ref).length : Int) = 8 := fun z => h2 (decide_eq_true (congrArg V.int z))
        rw [if_neg (by omega)] at k'
        refine ⟨_, rfl, ah, _, _, _, rfl, rfl, SqL.of hh, at_of (j := 5) (v := V.int (fa : Int)) rfl rfl, _, rfl, l, rfl, ⟨_, SqL.of bs.lst⟩, fun D hD => ?_⟩
        refine lc_list (K := K) (a := l) (xs := as.map V.ref) (fun i H' => Same H H' ∧ H' D = some (.lst (fars (st.take i)))) ⟨same_new hD, upd_same⟩ (fun i H' _ q => SqL.of (q.1 _ _ bs.lst)) ?_ ?_
        · rintro i z H' hi ⟨s1, hD1⟩
          obtain ⟨a, ha, rfl⟩ : ∃ a, as[i]? = some a ∧ z = V.ref a := by
            rw [List.getElem?_map] at hi
            cases e : as[i]? with
            | none =>
              rw [e] at hi
              cases hi
            | some a =>
              rw [e] at hi
              exact ⟨a, rfl, (Option.some.inj hi).symm⟩
          obtain ⟨b, hb, dx, eb⟩ := bs.al.get' ha
          refine ⟨rfl, ?_⟩
          unfold tYes
          dsimp only
          rw [if_pos rfl]
          refine ⟨_, rfl, a, CB, dx, _, _, rfl, s1 _ _ eb, TB.cl, TB.nFar, fB_far _, _, hD1, ?_, fun c o e => ?_, ?_⟩
          · unfold fars
            rw [List.length_map, List.length_take]
            exact Nat.lt_of_le_of_lt (Nat.min_le_right _ _) (Nat.lt_of_le_of_lt L8 (by decide))
          · rw [upd_ne (ne_of_none e hD)]
            exact s1 _ _ e
          · rw [upd_same, take_snoc hb]
            unfold fars
            rw [List.map_append]
            rfl
        · rintro H1 ⟨s1, hD1⟩
          rw [lens, List.take_length] at hD1
          refine ⟨D, _, rfl, .inl (SqL.of hD1), rfl, flat_fars st, _, rfl, ite2 (fun h3 => ?_) (fun h3 => ?_)⟩
          · have h3 : (st.any fun (b : Body) => b.far == fa) = true := (inV_fars fa st).symm.trans h3
            rw [if_pos h3] at k'
            refine ⟨(by show 1 ≤ sizeLine; decide), fun p hp => ?_⟩
            have hp0 := s1.free hp
            have s2 : Same H (upd H1 p (.lst [.int (-4)])) := s1.trans (same_new hp)
            exact k' p as _ hp0 upd_same (bs.mono s2) (keep_same s2 l)
          · have h3 : ¬ (st.any fun (b : Body) => b.far == fa) = true := fun z => h3 ((inV_fars fa st).trans z)
            rw [if_neg h3] at k'
            refine ⟨_, rfl, .inl ⟨rfl, _, SqL.of (s1 _ _ bs.lst)⟩, _, rfl, ah, x, y, u, v, r, fa, rfl, s1 _ _ hh, fun q H2 hq s2 bq => ?_⟩
            have s12 := s1.trans s2
            refine ⟨l, _, _, rfl, rfl, s12 _ _ bs.lst, by rw [lens]; exact Nat.lt_of_le_of_lt L8 (by decide), ?_⟩
            have e1 : as.map V.ref ++ [V.ref q] = (as ++ [q]).map V.ref := by rw [List.map_append]; rfl
            rw [e1]
            refine ⟨_, rfl, l, _, rfl, .inl (SqL.of upd_same), _, _, rfl, rfl, (by show 1 ≤ sizeLine; decide), fun p hp => ?_⟩
            have hpl : p ≠ l := fun z => by rw [z, upd_same] at hp; cases hp
            have hp2 : H2 p = none := by rw [upd_ne hpl] at hp; exact hp
            have hp0 := s12.free hp2
            have kp : ∀ (c : Addr) (o : HO) (z : Int), H2 c = some o → c ≠ l → upd (upd H2 l (.lst ((as ++ [q]).map V.ref))) p (.lst [.int z]) c = some o := fun c o z e hc => by
              rw [upd_ne (ne_of_none e hp2), upd_ne hc]
              exact e
            refine k' p (as ++ [q]) _ hp0 ?_ ⟨by rw [upd_ne hpl.symm, upd_same], ?_⟩ fun c o e hc => kp c o _ (s12 _ _ e) hc
            · rw [upd_same, List.length_map, List.length_append, List.length_singleton, bs.al.1]
              show some (HO.lst [V.int ((st.length + 1 : Nat) - 1 : Int)]) = some (HO.lst [V.int (st.length : Int)])
              have : ((st.length + 1 : Nat) : Int) - 1 = (st.length : Int) := by omega
              rw [this]
            · refine Al.append (bs.al.mono fun a b qb => ?_) (.cons ?_ .nil)
              · obtain ⟨dx, qb⟩ := qb
                exact ⟨dx, kp _ _ _ (s12 _ _ qb) (ne_of qb bs.lst (by intro z; cases z))⟩
              · obtain ⟨dx, bq⟩ := bq
                exact ⟨dx, kp _ _ _ bq (ne_of bq (s12 _ _ bs.lst) (by intro z; cases z))⟩
end
end Sky

namespace Sky
open PySem PySem.Spec PyProof.Rows L2
open Tw (Ins Spn Small SmallS B BOk SOk Gm Sorted mcmp)
open Sy38 (Body Meet)
theorem small_meetOf {e f : Body} {z : Spn} (he : BOk e) (hf : BOk f) (h : Tw.meetOf e f = some z) : SmallS z := by
  have := he.r2; have := hf.r2
  exact Tw.small_span (Tw.qok he hf (by omega) (by omega)) h
theorem small_hideOf {e f : Body} {z : Spn} (he : BOk e) (hf : BOk f) (h : Tw.hideOf e f = some z) : SmallS z := by
  have := he.r2; have := hf.r2; have := he.r1; have := hf.r1
  unfold Tw.hideOf at h
  split at h
  · cases h
  · exact Tw.small_span (Tw.qok he hf (by omega) (by omega)) h
theorem bad_two {st : Sy38.St} {n i j : Nat} (hn : n = st.length) : Sy38.bad st i j = true ↔ two n (i : Int) (j : Int) = false := by
  subst hn
  unfold Sy38.bad two
  simp only [Bool.or_eq_true, decide_eq_true_eq, beq_iff_eq, Bool.and_eq_false_iff, decide_eq_false_iff_not, Bool.not_eq_false']
  omega
theorem not_bad {st : Sy38.St} {i j : Nat} (h : ¬ Sy38.bad st i j = true) : i < st.length ∧ j < st.length ∧ i ≠ j := by
  unfold Sy38.bad at h
  simp only [Bool.or_eq_true, decide_eq_true_eq, beq_iff_eq] at h
  omega
theorem told_len (x : Ins) : (Tw.told x).length = 2 := rfl
section
variable {P : Program} {w : World} {K : PySem.W.Frag} {mg : Str → Option Value} {base : Heap} {CI CS CB : Addr}
/-! ### answer_span -/
def spSpanA (CI CS : Addr) : Sp := fun vs H Q _ => ∃ (v : V) (o : Option Spn), vs = [v] ∧ RSpan CI CS H v o ∧ (∀ z, o = some z → SmallS z) ∧ ∀ (p : Addr) (H' : Hp), H p = none → Same H H' → H' p = some (.lst ((Sy38Neutral.out (Tw.ansOf o)).map V.int)) → Q (.ref p) H'
theorem scSpanA : FnScope ["span", "last"] ["span"] (defScope sSpanA) := ⟨rfl, rfl, rfl, by decide +kernel, rfl, by decide +kernel, by decide +kernel⟩
theorem ok_spanA (TS : ClsS K mg CS) (F : Fn K mg "answer_span" sSpanA ["span"]) (GT : Ok P w K mg base 2 "told" ["instant"] (spTold CI)) (GC : Ok P w K mg base 1 "counted" ["numbers"] spCounted) : Ok P w K mg base 3 "answer_span" ["span"] (spSpanA CI CS) := by
  refine F.ok scSpanA (fun vs H Q E h => ?_) (fun f cdv A outer s H vs Q E hr h => ?_)
  · obtain ⟨v, o, rfl, _⟩ := h
    rfl
  · obtain ⟨v, o, rfl, rv, so, k⟩ := h
    refine ⟨_, pss_cons (ps_if (pt_cmp (pc_isN (pv 0))) (pss_one (ps_ret (pe_lst (pa_cons pe_int pa_nil)))) pss_nil) <|
      pss_cons (ps_set (i := 1) scSpanA.nd rfl (Or.inl rfl) (pe_ifExp (pt_cmp (pc_isN (pe_fld (pv 0) rfl))) (pe_lst pa_nil) (pe_callO GT hr rfl (pa_cons (pe_fld (pv 0) rfl) pa_nil)))) <|
      pss_one (ps_ret (pe_op op_cat (pe_op op_cat (pe_lst (pa_cons (pe_ifExp (pt_val (pe_fld (pv 0) rfl)) pe_int pe_int) pa_nil)) (pe_callO GC (hr.mono (by decide)) rfl (pa_cons (pe_callO GT hr rfl (pa_cons (pe_fld (pv 0) rfl) pa_nil)) pa_nil))) (pe_callO GC (hr.mono (by decide)) rfl (pa_cons (pv 1) pa_nil)))), ?_⟩
    cases o with
    | none =>
      have ev : v = .non := rv
      subst ev
      refine ⟨_, rfl, _, rfl, ite2 (fun h => ?_) (fun h => absurd rfl h)⟩
      exact ⟨(by show 1 ≤ sizeLine; decide), fun p hp => k p _ hp (same_new hp) upd_same⟩
    | some z =>
      obtain ⟨q, rfl, dx, af, lv, hq, iz, ez⟩ := rv
      have sz := so z rfl
      refine ⟨_, rfl, _, rfl, ite2 (fun h => absurd (of_decide_eq_true h) (by intro e; cases e)) (fun h => ?_)⟩
      -- the last, told; then the whole
      have big : (1000 : Nat) < sizeLine := by decide
      have fin : ∀ (lb : Addr) (H1 : Hp) (ws : List Int), Same H H1 → H lb = none → H1 lb = some (.lst (ws.map V.int)) → ws.length ≤ 2 →
          (∀ (p : Addr) (H' : Hp), H p = none → Same H H' → H' p = some (.lst (((if z.al = true then (2 : Int) else 1) :: ([Tw.told z.fr, ws].flatMap fun (w : List Int) => (w.length : Int) :: w)).map V.int)) → Q (.ref p) H') →
          (tRet (tOp rCat (tOp rCat (tLst (tCons (tIf (tB (tFld K (tVar 0) "already")) (tC (.int 2)) (tC (.int 1))) tNil)) (tCall spCounted [] E0 (tCons (tCall (spTold CI) [] E0 (tCons (tFld K (tVar 0) "first") tNil)) tNil))) (tCall spCounted [] E0 (tCons (tVar 1) tNil))))
            { nx := fun _ H' => Q .non H', rt := Q } [some (.ref q), some (.ref lb)] H1 := by
        intro lb H1 ws s1 nlb hlb hws k2
        -- from here the first number is known
        have go : ∀ c : Int, c = (if z.al = true then (2 : Int) else 1) → (1 ≤ sizeLine ∧ ∀ l1, H1 l1 = none →
            tCall spCounted [] E0 (tCons (tCall (spTold CI) [] E0 (tCons (tFld K (tVar 0) "first") tNil)) tNil) [some (.ref q), some (.ref lb)] (upd H1 l1 (.lst [.int c])) fun y H2 => rCat (.ref l1) y H2 fun x H3 =>
              tCall spCounted [] E0 (tCons (tVar 1) tNil) [some (.ref q), some (.ref lb)] H3 fun y H4 => rCat x y H4 Q) := by
          intro c hc
          refine ⟨by decide, fun l1 hl1 => ?_⟩
          have s2 : Same H1 (upd H1 l1 (.lst [.int c])) := same_new hl1
          have s02 := s1.trans s2
          refine ⟨_, rfl, q, CS, dx, _, _, rfl, s02 _ _ hq, TS.cl, TS.nF, fS_f _ _ _, af, z.fr, rfl, iz.mono s02, sz.fr, fun l2 hl2 => ?_⟩
          have s3 := same_new (o := .lst ((Tw.told z.fr).map V.int)) hl2
          refine ⟨l2, _, rfl, upd_same, (by rw [List.length_map, told_len]; decide), fun l3 H3 hl3 s4 h3 => ?_⟩
          have hl1' : H3 l1 = some (.lst [.int c]) := s4 _ _ (s3 _ _ upd_same)
          refine ⟨l1, l3, _, _, rfl, rfl, hl1', h3, (by simp only [List.length_cons, List.length_nil, List.length_map, told_len]; omega), fun l4 hl4 => ?_⟩
          have s5 := same_new (o := .lst ([V.int c] ++ V.int (((Tw.told z.fr).map V.int).length : Int) :: (Tw.told z.fr).map V.int)) hl4
          have s15 := ((s2.trans s3).trans s4).trans s5
          refine ⟨_, rfl, lb, _, rfl, s15 _ _ hlb, (by rw [List.length_map]; omega), fun l5 H5 hl5 s6 h5 => ?_⟩
          refine ⟨l4, l5, _, _, rfl, rfl, s6 _ _ upd_same, h5, ?_, fun p hp => ?_⟩
          · simp only [List.length_append, List.length_cons, List.length_nil, List.length_map, told_len]
            omega
          · refine k2 p _ ((s1.trans (s15.trans s6)).free hp) (s1.trans ((s15.trans s6).trans (same_new hp))) ?_
            rw [upd_same, hc]
            simp only [List.map_cons, List.map_append, List.flatMap_cons, List.flatMap_nil, List.append_nil, List.length_map, List.cons_append, List.nil_append, List.map_nil, List.append_assoc]
        refine ⟨_, rfl, q, CS, dx, _, _, rfl, s1 _ _ hq, TS.cl, TS.nA, fS_a _ _ _, _, rfl, ite2 (fun h => ?_) (fun h => ?_)⟩
        · exact go 2 (by rw [if_pos h])
        · exact go 1 (by rw [if_neg h])
      refine ⟨_, rfl, q, CS, dx, _, _, rfl, hq, TS.cl, TS.nL, fS_l _ _ _, _, rfl, ?_⟩
      cases et : z.to with
      | none =>
        rw [et] at ez
        have el : lv = .non := ez
        subst el
        refine ite2 (fun h => ?_) (fun h => absurd (decide_eq_true rfl) h)
        refine ⟨Nat.zero_le _, fun lb hlb => ?_⟩
        refine fin lb _ [] (same_new hlb) hlb upd_same (by decide) fun p H' hp s' h' => k p H' hp s' ?_
        rw [h']
        show _ = some (HO.lst (((if z.al = true then (2 : Int) else 1) :: ([Tw.told z.fr, match z.to with
          | none => []
          | some t => Tw.told t].flatMap fun (w : List Int) => (w.length : Int) :: w)).map V.int))
        rw [et]
      | some t =>
        rw [et] at ez
        obtain ⟨al, rfl, it⟩ := ez
        refine ite2 (fun h => absurd (of_decide_eq_true h) (by intro e; cases e)) (fun h => ?_)
        refine ⟨_, rfl, q, CS, dx, _, _, rfl, hq, TS.cl, TS.nL, fS_l _ _ _, al, t, rfl, it, sz.to t et, fun lb hlb => ?_⟩
        refine fin lb _ (Tw.told t) (same_new hlb) hlb upd_same (by rw [told_len]; decide) fun p H' hp s' h' => k p H' hp s' ?_
        rw [h']
        show _ = some (HO.lst (((if z.al = true then (2 : Int) else 1) :: ([Tw.told z.fr, match z.to with
          | none => []
          | some t => Tw.told t].flatMap fun (w : List Int) => (w.length : Int) :: w)).map V.int))
        rw [et]
/-! ### meets, hides -/
theorem scMeets : FnScope ["bodies", "handed"] ["bodies", "handed"] (defScope sMeets) := ⟨rfl, rfl, rfl, by decide +kernel, rfl, by decide +kernel, by decide +kernel⟩
theorem ok_Meets (T : Cst mg) (F : Fn K mg "answer_meets" sMeets ["bodies", "handed"]) (G2 : Ok P w K mg base 1 "are_two" ["bodies", "i", "j"] spAreTwo) (GM : Ok P w K mg base 6 "meeting_of" ["one", "other"] (spMeetingOf CI CS CB)) (GS : Ok P w K mg base 3 "answer_span" ["span"] (spSpanA CI CS)) :
    Ok P w K mg base 7 "answer_meets" ["bodies", "handed"] (spAct CB 2 fun ns => .meets (ns.getD 0 0) (ns.getD 1 0)) := by
  obtain ⟨t1, c1⟩ := T.wrong
  refine F.ok scMeets (fun vs H Q E h => ?_) (fun f cdv A outer s H vs Q E hr h => ?_)
  · obtain ⟨l, h, as, s, ns, rfl, _⟩ := h
    rfl
  · obtain ⟨l, ah, as, st, ns, rfl, bs, S, hh, hn, k⟩ := h
    obtain ⟨i, j, rfl⟩ : ∃ i j, ns = [i, j] := by
      match ns, hn with
      | [i, j], _ => exact ⟨i, j, rfl⟩
    refine ⟨_, pss_cons (ps_if (pt_not (pt_val (pe_callO G2 (hr.mono (by decide)) rfl (pa_cons (pv 0) (pa_cons (pe_ix ix_list (pv 1) pe_int (fun _ _ => rfl)) (pa_cons (pe_ix ix_list (pv 1) pe_int (fun _ _ => rfl)) pa_nil)))))) (pss_one (ps_ret (pe_lst (pa_cons (pe_num rfl c1) pa_nil)))) pss_nil) <|
      pss_one (ps_ret (pe_callO GS (hr.mono (by decide)) rfl (pa_cons (pe_callO GM hr rfl (pa_cons (pe_ix ix_list (pv 0) (pe_ix ix_list (pv 1) pe_int (fun _ _ => rfl)) (fun _ _ => rfl)) (pa_cons (pe_ix ix_list (pv 0) (pe_ix ix_list (pv 1) pe_int (fun _ _ => rfl)) (fun _ _ => rfl)) pa_nil))) pa_nil))), ?_⟩
    have lens : (as.map V.ref).length = st.length := by rw [List.length_map, bs.al.1]
    have k' : ∀ (p : Addr) (as' : List Addr) (H' : Hp), H p = none → H' p = some (.lst ((Sy38Neutral.out (if Sy38.bad st i j = true then Sy38.ok (-1) else Sy38.toldSpan (Sy38.meets st i j))).map V.int)) → BsAt CB H' l as' st → Keep l H H' → Q (.ref p) H' := k
    refine ⟨_, rfl, _, rfl, ah, _, _, _, rfl, rfl, SqL.of hh, at_of (j := 0) (v := V.int (i : Int)) rfl rfl, _, rfl, ah, _, _, _, rfl, rfl, SqL.of hh, at_of (j := 1) (v := V.int (j : Int)) rfl rfl, l, _, _, _, rfl, bs.lst, _, rfl, ite2 (fun h1 => ?_) (fun h1 => ?_)⟩
    · have h1 := (bad_two lens).mpr (by simpa using h1)
      rw [if_pos h1] at k'
      exact ⟨(by show 1 ≤ sizeLine; decide), fun p hp => act_ok1 bs rfl rfl k' p hp⟩
    · have h1 : ¬ Sy38.bad st i j = true := fun z => h1 (by simpa using (bad_two lens).mp z)
      rw [if_neg h1] at k'
      obtain ⟨hi, hj, hne⟩ := not_bad h1
      obtain ⟨aa, ha, ba⟩ := bs.al.get (List.getElem?_eq_getElem hi)
      obtain ⟨ab, hb, bb⟩ := bs.al.get (List.getElem?_eq_getElem hj)
      have ge : Sy38.bodyAt st i = st[i] := Tw.bodyAt_get (List.getElem?_eq_getElem hi)
      have gf : Sy38.bodyAt st j = st[j] := Tw.bodyAt_get (List.getElem?_eq_getElem hj)
      have oe := S.ok _ (List.getElem_mem hi)
      have of := S.ok _ (List.getElem_mem hj)
      have tl := Tw.told_meets S hi hj hne
      rw [ge, gf] at tl
      rw [tl] at k'
      refine ⟨_, rfl, _, rfl, ah, _, _, _, rfl, rfl, SqL.of hh, at_of (j := 0) (v := V.int (i : Int)) rfl rfl, l, _, _, _, rfl, rfl, SqL.of bs.lst, at_of (j := i) (v := V.ref aa) rfl (by rw [List.getElem?_map, ha]; rfl), _, rfl, _, rfl, ah, _, _, _, rfl, rfl, SqL.of hh, at_of (j := 1) (v := V.int (j : Int)) rfl rfl, l, _, _, _, rfl, rfl, SqL.of bs.lst, at_of (j := j) (v := V.ref ab) rfl (by rw [List.getElem?_map, hb]; rfl),
        aa, ab, st[i], st[j], rfl, ba, bb, oe, of, fun v H1 s1 rv => ?_⟩
      refine ⟨v, Tw.meetOf st[i] st[j], rfl, rv, fun z hz => small_meetOf oe of hz, fun p H2 hp s2 h2 => ?_⟩
      have s12 := s1.trans s2
      exact k' p as H2 (s1.free hp) h2 (bs.mono s12) (keep_same s12 l)

theorem scHides : FnScope ["bodies", "handed"] ["bodies", "handed"] (defScope sHides) := ⟨rfl, rfl, rfl, by decide +kernel, rfl, by decide +kernel, by decide +kernel⟩
theorem ok_Hides (T : Cst mg) (F : Fn K mg "answer_hides" sHides ["bodies", "handed"]) (G2 : Ok P w K mg base 1 "are_two" ["bodies", "i", "j"] spAreTwo) (GM : Ok P w K mg base 6 "hiding_of" ["one", "other"] (spHidingOf CI CS CB)) (GS : Ok P w K mg base 3 "answer_span" ["span"] (spSpanA CI CS)) :
    Ok P w K mg base 7 "answer_hides" ["bodies", "handed"] (spAct CB 2 fun ns => .hides (ns.getD 0 0) (ns.getD 1 0)) := by
  obtain ⟨t1, c1⟩ := T.wrong
  refine F.ok scHides (fun vs H Q E h => ?_) (fun f cdv A outer s H vs Q E hr h => ?_)
  · obtain ⟨l, h, as, s, ns, rfl, _⟩ := h
    rfl
  · obtain ⟨l, ah, as, st, ns, rfl, bs, S, hh, hn, k⟩ := h
    obtain ⟨i, j, rfl⟩ : ∃ i j, ns = [i, j] := by
      match ns, hn with
      | [i, j], _ => exact ⟨i, j, rfl⟩
    refine ⟨_, pss_cons (ps_if (pt_not (pt_val (pe_callO G2 (hr.mono (by decide)) rfl (pa_cons (pv 0) (pa_cons (pe_ix ix_list (pv 1) pe_int (fun _ _ => rfl)) (pa_cons (pe_ix ix_list (pv 1) pe_int (fun _ _ => rfl)) pa_nil)))))) (pss_one (ps_ret (pe_lst (pa_cons (pe_num rfl c1) pa_nil)))) pss_nil) <|
      pss_one (ps_ret (pe_callO GS (hr.mono (by decide)) rfl (pa_cons (pe_callO GM hr rfl (pa_cons (pe_ix ix_list (pv 0) (pe_ix ix_list (pv 1) pe_int (fun _ _ => rfl)) (fun _ _ => rfl)) (pa_cons (pe_ix ix_list (pv 0) (pe_ix ix_list (pv 1) pe_int (fun _ _ => rfl)) (fun _ _ => rfl)) pa_nil))) pa_nil))), ?_⟩
    have lens : (as.map V.ref).length = st.length := by rw [List.length_map, bs.al.1]
    have k' : ∀ (p : Addr) (as' : List Addr) (H' : Hp), H p = none → H' p = some (.lst ((Sy38Neutral.out (if Sy38.bad st i j = true then Sy38.ok (-1) else Sy38.toldSpan (Sy38.hides st i j))).map V.int)) → BsAt CB H' l as' st → Keep l H H' → Q (.ref p) H' := k
    refine ⟨_, rfl, _, rfl, ah, _, _, _, rfl, rfl, SqL.of hh, at_of (j := 0) (v := V.int (i : Int)) rfl rfl, _, rfl, ah, _, _, _, rfl, rfl, SqL.of hh, at_of (j := 1) (v := V.int (j : Int)) rfl rfl, l, _, _, _, rfl, bs.lst, _, rfl, ite2 (fun h1 => ?_) (fun h1 => ?_)⟩
    · have h1 := (bad_two lens).mpr (by simpa using h1)
      rw [if_pos h1] at k'
      exact ⟨(by show 1 ≤ sizeLine; decide), fun p hp => act_ok1 bs rfl rfl k' p hp⟩
    · have h1 : ¬ Sy38.bad st i j = true := fun z => h1 (by simpa using (bad_two lens).mp z)
      rw [if_neg h1] at k'
      obtain ⟨hi, hj, hne⟩ := not_bad h1
      obtain ⟨aa, ha, ba⟩ := bs.al.get (List.getElem?_eq_getElem hi)
      obtain ⟨ab, hb, bb⟩ := bs.al.get (List.getElem?_eq_getElem hj)
      have ge : Sy38.bodyAt st i = st[i] := Tw.bodyAt_get (List.getElem?_eq_getElem hi)
      have gf : Sy38.bodyAt st j = st[j] := Tw.bodyAt_get (List.getElem?_eq_getElem hj)
      have oe := S.ok _ (List.getElem_mem hi)
      have of := S.ok _ (List.getElem_mem hj)
      have tl := Tw.told_hides S hi hj hne
      rw [ge, gf] at tl
      rw [tl] at k'
      refine ⟨_, rfl, _, rfl, ah, _, _, _, rfl, rfl, SqL.of hh, at_of (j := 0) (v := V.int (i : Int)) rfl rfl, l, _, _, _, rfl, rfl, SqL.of bs.lst, at_of (j := i) (v := V.ref aa) rfl (by rw [List.getElem?_map, ha]; rfl), _, rfl, _, rfl, ah, _, _, _, rfl, rfl, SqL.of hh, at_of (j := 1) (v := V.int (j : Int)) rfl rfl, l, _, _, _, rfl, rfl, SqL.of bs.lst, at_of (j := j) (v := V.ref ab) rfl (by rw [List.getElem?_map, hb]; rfl),
        aa, ab, st[i], st[j], rfl, ba, bb, oe, of, (by have := Tw.far_ne S hi hj hne; rw [ge, gf] at this; exact this), fun v H1 s1 rv => ?_⟩
      refine ⟨v, Tw.hideOf st[i] st[j], rfl, rv, fun z hz => small_hideOf oe of hz, fun p H2 hp s2 h2 => ?_⟩
      have s12 := s1.trans s2
      exact k' p as H2 (s1.free hp) h2 (bs.mono s12) (keep_same s12 l)

end
end Sky

namespace Sky
open PySem PySem.Spec PyProof.Rows L2
open Tw (Ins Spn Small SmallS B BOk SOk Gm Sorted mcmp)
open Sy38 (Body Meet)
section
variable {P : Program} {w : World} {K : PySem.W.Frag} {mg : Str → Option Value} {base : Heap} {CI CS CB : Addr}
theorem scCompare : FnScope ["bodies", "handed", "one", "other"] ["bodies", "handed"] (defScope sCompare) := ⟨rfl, rfl, rfl, by decide +kernel, rfl, by decide +kernel, by decide +kernel⟩
theorem step_compare (st : Sy38.St) (i j k l : Nat) : Sy38.step st (.compare i j k l) = (st, if Sy38.bad st i j = true ∨ Sy38.bad st k l = true then Sy38.ok (-1) else match Sy38.meets st i j, Sy38.meets st k l with
      | some x, some y => Sy38.ok (Sy38.compare x.from_ y.from_ + 2)
      | _, _ => Sy38.ok 0) := rfl
theorem ok_compare (T : Cst mg) (TS : ClsS K mg CS) (F : Fn K mg "answer_compare" sCompare ["bodies", "handed"]) (G2 : Ok P w K mg base 1 "are_two" ["bodies", "i", "j"] spAreTwo) (GM : Ok P w K mg base 6 "meeting_of" ["one", "other"] (spMeetingOf CI CS CB)) (GC : Ok P w K mg base 4 "compared" ["one", "other"] (spCompared CI)) :
    Ok P w K mg base 7 "answer_compare" ["bodies", "handed"] (spAct CB 4 fun ns => .compare (ns.getD 0 0) (ns.getD 1 0) (ns.getD 2 0) (ns.getD 3 0)) := by
  obtain ⟨t1, c1⟩ := T.wrong
  refine F.ok scCompare (fun vs H Q E h => ?_) (fun f cdv A outer s H vs Q E hr h => ?_)
  · obtain ⟨l, h, as, s, ns, rfl, _⟩ := h
    rfl
  · obtain ⟨l, ah, as, st, ns, rfl, bs, S, hh, hn, kk⟩ := h
    obtain ⟨i, j, k, m, rfl⟩ : ∃ i j k m, ns = [i, j, k, m] := by
      match ns, hn with
      | [i, j, k, m], _ => exact ⟨i, j, k, m, rfl⟩
    refine ⟨_, pss_cons (ps_if (PW.pt (pw_or (pt_not (pt_val (pe_callO G2 (hr.mono (by decide)) rfl (pa_cons (pv 0) (pa_cons (pe_ix ix_list (pv 1) pe_int (fun _ _ => rfl)) (pa_cons (pe_ix ix_list (pv 1) pe_int (fun _ _ => rfl)) pa_nil)))))) (pw_or1 (pt_not (pt_val (pe_callO G2 (hr.mono (by decide)) rfl (pa_cons (pv 0) (pa_cons (pe_ix ix_list (pv 1) pe_int (fun _ _ => rfl)) (pa_cons (pe_ix ix_list (pv 1) pe_int (fun _ _ => rfl)) pa_nil))))))))) (pss_one (ps_ret (pe_lst (pa_cons (pe_num rfl c1) pa_nil)))) pss_nil) <|
      pss_cons (ps_set (i := 2) scCompare.nd rfl (Or.inl rfl) (pe_callO GM hr rfl (pa_cons (pe_ix ix_list (pv 0) (pe_ix ix_list (pv 1) pe_int (fun _ _ => rfl)) (fun _ _ => rfl)) (pa_cons (pe_ix ix_list (pv 0) (pe_ix ix_list (pv 1) pe_int (fun _ _ => rfl)) (fun _ _ => rfl)) pa_nil)))) <|
      pss_cons (ps_set (i := 3) scCompare.nd rfl (Or.inl rfl) (pe_callO GM hr rfl (pa_cons (pe_ix ix_list (pv 0) (pe_ix ix_list (pv 1) pe_int (fun _ _ => rfl)) (fun _ _ => rfl)) (pa_cons (pe_ix ix_list (pv 0) (pe_ix ix_list (pv 1) pe_int (fun _ _ => rfl)) (fun _ _ => rfl)) pa_nil)))) <|
      pss_cons (ps_if (PW.pt (pw_or (pt_cmp (pc_isN (pv 2))) (pw_or1 (pt_cmp (pc_isN (pv 3)))))) (pss_one (ps_ret (pe_lst (pa_cons pe_int pa_nil)))) pss_nil) <|
      pss_one (ps_ret (pe_lst (pa_cons (pe_op op_add pe_int (pe_callO GC (hr.mono (by decide)) rfl (pa_cons (pe_fld (pv 2) rfl) (pa_cons (pe_fld (pv 3) rfl) pa_nil)))) pa_nil))), ?_⟩
    have lens : (as.map V.ref).length = st.length := by rw [List.length_map, bs.al.1]
    have stp := step_compare st i j k m
    have k' : ∀ (p : Addr) (as' : List Addr) (H' : Hp), H p = none → H' p = some (.lst ((Sy38Neutral.out (Sy38.step st (.compare i j k m)).2).map V.int)) → BsAt CB H' l as' (Sy38.step st (.compare i j k m)).1 → Keep l H H' → Q (.ref p) H' := kk
    rw [stp] at k'
    clear kk
    have no : Sy38.bad st i j = true ∨ Sy38.bad st k m = true → 1 ≤ sizeLine ∧ ∀ p, H p = none → Q (.ref p) (upd H p (.lst [.int (-1)])) := fun z => by
      rw [if_pos z] at k'
      exact ⟨by decide, fun p hp => act_ok1 bs rfl rfl k' p hp⟩
    refine ⟨_, rfl, _, rfl, ah, _, _, _, rfl, rfl, SqL.of hh, at_of (j := 0) (v := V.int (i : Int)) rfl rfl, _, rfl, ah, _, _, _, rfl, rfl, SqL.of hh, at_of (j := 1) (v := V.int (j : Int)) rfl rfl, l, _, _, _, rfl, bs.lst, _, rfl, ite2 (fun h1 => iteT ?_) (fun h1 => ⟨_, rfl, _, rfl, ah, _, _, _, rfl, rfl, SqL.of hh, at_of (j := 2) (v := V.int (k : Int)) rfl rfl, _, rfl, ah, _, _, _, rfl, rfl, SqL.of hh, at_of (j := 3) (v := V.int (m : Int)) rfl rfl, l, _, _, _, rfl, bs.lst, _, rfl, ite2 (fun h2 => ?_) (fun h2 => ?_)⟩)⟩
    · exact no (.inl ((bad_two lens).mpr (by simpa using h1)))
    · exact no (.inr ((bad_two lens).mpr (by simpa using h2)))
    · have h1 : ¬ Sy38.bad st i j = true := fun z => h1 (by simpa using (bad_two lens).mp z)
      have h2 : ¬ Sy38.bad st k m = true := fun z => h2 (by simpa using (bad_two lens).mp z)
      rw [if_neg (fun z => z.elim h1 h2)] at k'
      obtain ⟨hi, hj, hij⟩ := not_bad h1
      obtain ⟨hk, hm, hkm⟩ := not_bad h2
      obtain ⟨ai, hai, bi⟩ := bs.al.get (List.getElem?_eq_getElem hi)
      obtain ⟨aj, haj, bj⟩ := bs.al.get (List.getElem?_eq_getElem hj)
      obtain ⟨ak, hak, bk⟩ := bs.al.get (List.getElem?_eq_getElem hk)
      obtain ⟨am, ham, bm⟩ := bs.al.get (List.getElem?_eq_getElem hm)
      have gi : Sy38.bodyAt st i = st[i] := Tw.bodyAt_get (List.getElem?_eq_getElem hi)
      have gj : Sy38.bodyAt st j = st[j] := Tw.bodyAt_get (List.getElem?_eq_getElem hj)
      have gk : Sy38.bodyAt st k = st[k] := Tw.bodyAt_get (List.getElem?_eq_getElem hk)
      have gm : Sy38.bodyAt st m = st[m] := Tw.bodyAt_get (List.getElem?_eq_getElem hm)
      have c1 := Tw.meetOf_conv S hi hj hij
      have c2 := Tw.meetOf_conv S hk hm hkm
      rw [gi, gj] at c1
      rw [gk, gm] at c2
      refine ⟨_, rfl, _, rfl, ah, _, _, _, rfl, rfl, SqL.of hh, at_of (j := 0) (v := V.int (i : Int)) rfl rfl, l, _, _, _, rfl, rfl, SqL.of bs.lst, at_of (j := i) (v := V.ref ai) rfl (by rw [List.getElem?_map, hai]; rfl), _, rfl, _, rfl, ah, _, _, _, rfl, rfl, SqL.of hh, at_of (j := 1) (v := V.int (j : Int)) rfl rfl, l, _, _, _, rfl, rfl, SqL.of bs.lst, at_of (j := j) (v := V.ref aj) rfl (by rw [List.getElem?_map, haj]; rfl), ai, aj, st[i], st[j], rfl, bi, bj, S.ok _ (List.getElem_mem hi), S.ok _ (List.getElem_mem hj), fun v H1 s1 rv => ?_⟩
      have bs1 := bs.mono s1
      have hh1 := s1 _ _ hh
      refine ⟨_, rfl, _, rfl, ah, _, _, _, rfl, rfl, SqL.of hh1, at_of (j := 2) (v := V.int (k : Int)) rfl rfl, l, _, _, _, rfl, rfl, SqL.of bs1.lst, at_of (j := k) (v := V.ref ak) rfl (by rw [List.getElem?_map, hak]; rfl), _, rfl, _, rfl, ah, _, _, _, rfl, rfl, SqL.of hh1, at_of (j := 3) (v := V.int (m : Int)) rfl rfl, l, _, _, _, rfl, rfl, SqL.of bs1.lst, at_of (j := m) (v := V.ref am) rfl (by rw [List.getElem?_map, ham]; rfl), ak, am, st[k], st[m], rfl, bk.mono s1, bm.mono s1, S.ok _ (List.getElem_mem hk), S.ok _ (List.getElem_mem hm), fun u H2 s2 ru => ?_⟩
      have s12 := s1.trans s2
      have bs2 := bs.mono s12
      rw [c1] at rv
      rw [c2] at ru
      -- one number answered behind all that
      have one : ∀ z : Int, (match Sy38.meets st i j, Sy38.meets st k m with
          | some x, some y => Sy38.ok (Sy38.compare x.from_ y.from_ + 2)
          | _, _ => Sy38.ok 0) = Sy38.ok z → ∀ p, H2 p = none → Q (.ref p) (upd H2 p (.lst [.int z])) := fun z ez p hp => by
        rw [ez] at k'
        have s3 := s12.trans (same_new (o := .lst [V.int z]) hp)
        exact k' p as _ (s12.free hp) upd_same (bs.mono s3) (keep_same s3 l)
      cases em : Sy38.meets st i j with
      | none =>
        rw [em] at rv
        have ev : v = .non := rv
        subst ev
        refine ⟨_, rfl, _, rfl, ite2 (fun _ => iteT ⟨by decide, one 0 (by rw [em])⟩) (fun h => absurd (decide_eq_true rfl) h)⟩
      | some x =>
        rw [em] at rv
        obtain ⟨q, rfl, dx, af, lv, hq, iq, _⟩ := rv
        refine ⟨_, rfl, _, rfl, ite2 (fun h => absurd (of_decide_eq_true h) (by intro e; cases e)) (fun _ => ⟨_, rfl, _, rfl, ite2 (fun h => ?_) (fun h => ?_)⟩)⟩
        · have h := of_decide_eq_true h
          cases en : Sy38.meets st k m with
          | none => exact ⟨by decide, one 0 (by rw [em, en])⟩
          | some y =>
            rw [en] at ru
            obtain ⟨q2, e2, _⟩ := ru
            rw [h] at e2
            cases e2
        · have h := fun z => h (decide_eq_true z)
          cases en : Sy38.meets st k m with
          | none =>
            rw [en] at ru
            exact absurd ru h
          | some y =>
            rw [en] at ru
            obtain ⟨q2, rfl, dy, ay, ly, hq2, iq2, _⟩ := ru
            refine ⟨_, rfl, q, CS, dx, _, _, rfl, s2 _ _ hq, TS.cl, TS.nF, fS_f _ _ _, _, rfl, q2, CS, dy, _, _, rfl, hq2, TS.cl, TS.nF, fS_f _ _ _, af, ay, _, _, rfl, iq.mono s2, iq2,
              (small_meets S hi hj hij em).1, (small_meets S hk hm hkm en).1, _, _, rfl, rfl, (by show 1 ≤ sizeLine; decide), ?_⟩
            have e3 : (2 : Int) + Tw.cmp (Tw.conv x).fr (Tw.conv y).fr = Sy38.compare x.from_ y.from_ + 2 := by
              show (2 : Int) + Tw.cmp (Tw.ins x.from_) (Tw.ins y.from_) = _
              rw [Tw.cmp_eq]
              omega
            exact one _ (by rw [em, en, e3])
/-! ### order -/
def BefAt (C : Addr) (H : Hp) (v : V) : Option Meet → Prop
  | none => v = .non
  | some z => ∃ a, v = .ref a ∧ InsAt C H a (Tw.ins z.span.from_)
def flagOf (o : Option Meet) (x : Meet) : Int := if ((match o with
    | none => none
    | some z => some z.span.from_).any fun (t : Sy38.Inst) => Sy38.compare t x.span.from_ == 0) = true then 1 else 0
theorem last_take {α : Type} {l : List α} {i : Nat} {x : α} (h : l[i]? = some x) : (l.take (i + 1)).getLast? = some x := by
  rw [take_snoc h]
  simp
theorem scOrder : FnScope ["bodies", "handed", "meetings", "rows", "before", "meeting", "first", "is_same"] ["bodies", "handed"] (defScope sOrder) := ⟨rfl, rfl, rfl, by decide +kernel, rfl, by decide +kernel, by decide +kernel⟩
theorem ok_order {CM : Addr} (hL : mg "len" = none) (TS : ClsS K mg CS) (TM : ClsM K mg CM) (F : Fn K mg "answer_order" sOrder ["bodies", "handed"]) (GO : Ok P w K mg base 7 "ordered_meetings" ["bodies"] (spOrdered ⟨CI, CS, CM⟩ CB)) (GC : Ok P w K mg base 4 "compared" ["one", "other"] (spCompared CI)) (GN : Ok P w K mg base 1 "counted" ["numbers"] spCounted) :
    Ok P w K mg base 8 "answer_order" ["bodies", "handed"] (spAct CB 0 fun _ => .order) := by
  refine F.ok scOrder (fun vs H Q E h => ?_) (fun f cdv A outer s H vs Q E hr h => ?_)
  · obtain ⟨l, h, as, s, ns, rfl, _⟩ := h
    rfl
  · obtain ⟨l, ah, as, st, ns, rfl, bs, S, hh, hn, kk⟩ := h
    refine ⟨_, pss_cons (ps_set (i := 2) scOrder.nd rfl (Or.inl rfl) (pe_callO GO hr rfl (pa_cons (pv 0) pa_nil))) <|
      pss_cons (ps_set (i := 3) scOrder.nd rfl (Or.inl rfl) (pe_lst pa_nil)) <|
      pss_cons (ps_set (i := 4) scOrder.nd rfl (Or.inl rfl) pe_non) <|
      pss_cons (ps_for PassesOwn.never rfl (pi_list (pv 2)) (pg_name (i := 5) scOrder.nd rfl (Or.inl rfl))
        (pss_cons (ps_set (i := 6) scOrder.nd rfl (Or.inl rfl) (pe_fld (pe_fld (pv 5) rfl) rfl)) <|
          pss_cons (ps_set (i := 7) scOrder.nd rfl (Or.inl rfl) (pe_and (pe_cmp (pc_notN (pv 4))) (pe_one (pe_cmpR op_eq (pe_callO GC (hr.mono (by decide)) rfl (pa_cons (pv 4) (pa_cons (pv 6) pa_nil))) pe_int (nomark _))))) <|
          pss_cons (ps_expr (pe_bm PySem.F.plainAttrs_list PySem.F.slot_list_extend PySem.F.type_list_extend mt_extend (pv 3) (pa_cons (pe_lst (pa_cons (pe_fld (pv 5) rfl) (pa_cons (pe_fld (pv 5) rfl) (pa_cons (pe_ifExp (pt_val (pv 7)) pe_int pe_int) pa_nil)))) pa_nil))) <|
          pss_one (ps_set (i := 4) scOrder.nd rfl (Or.inl rfl) (pv 6)))) <|
      pss_one (ps_ret (pe_op op_cat (pe_lst (pa_cons (pe_callB call_len_seq (by rfl) hL PySem.boot_len (pa_cons (pv 2) pa_nil)) pa_nil)) (pe_callO GN (hr.mono (by decide)) rfl (pa_cons (pv 3) pa_nil)))), ?_⟩
    have k : ∀ (p : Addr) (as' : List Addr) (H' : Hp), H p = none → H' p = some (.lst ((((Sy38.ordered st).length : Int) :: ((Sy38.toldMeets none (Sy38.ordered st)).length : Int) :: (Sy38.toldMeets none (Sy38.ordered st) ++ [])).map V.int)) → BsAt CB H' l as' st → Keep l H H' → Q (.ref p) H' := kk
    rw [List.append_nil] at k
    clear kk
    have big : (1000 : Nat) < sizeLine := by decide
    refine ⟨_, rfl, l, as, st, rfl, bs, S, fun m ts H1 hm s1 hm1 al1 => ?_⟩
    have T := told_ordered S
    generalize Sy38.ordered st = L at *
    refine ⟨Nat.zero_le _, fun rw_ hrw => ?_⟩
    have s2 := same_new (o := .lst []) hrw
    have s02 := s1.trans s2
    refine ⟨_, rfl, m, rfl, ⟨_, SqL.of (s2 _ _ hm1)⟩, for_list (K := K) (a := m) (xs := ts.map V.ref) (fun i σ H' => ∃ (vb : V) (v5 v6 v7 : Option V), σ = [some (.ref l), some (.ref ah), some (.ref m), some (.ref rw_), some vb, v5, v6, v7] ∧ Same H1 H' ∧ H' rw_ = some (.lst ((Sy38.toldMeets none (L.take i)).map V.int)) ∧ BefAt CI H' vb (L.take i).getLast?)
      ⟨.non, none, none, none, rfl, s2, upd_same, rfl⟩ (fun i σ H' _ ⟨_, _, _, _, _, s3, _⟩ => SqL.of (s3 _ _ hm1)) ?_ ?_⟩
    · rintro i y σ H3 hi ⟨vb, v5, v6, v7, rfl, s3, hr3, bf3⟩
      obtain ⟨t, ht, rfl⟩ : ∃ t, ts[i]? = some t ∧ y = V.ref t := by
        rw [List.getElem?_map] at hi
        cases e : ts[i]? with
        | none =>
          rw [e] at hi
          cases hi
        | some t =>
          rw [e] at hi
          exact ⟨t, rfl, (Option.some.inj hi).symm⟩
      obtain ⟨x, hx, dx, px, htx, ds, ax, lx, hpx, ix, _⟩ := al1.get' ht
      have ix : InsAt CI H1 ax (Tw.ins x.span.from_) := ix
      have htx3 := s3 _ _ htx
      have hpx3 := s3 _ _ hpx
      have ix3 := ix.mono s3
      have gx := T.gp x (List.mem_of_getElem? hx)
      have hil : i < L.length := (List.getElem?_eq_some_iff.mp hx).1
      have len3 : ((Sy38.toldMeets none (L.take i)).map V.int).length ≤ 3 * 64 := by
        rw [List.length_map, Tw.toldMeets_length, List.length_take]
        have := T.len
        omega
      -- the three numbers put in
      have fin : ∀ bj : Bool, (if bj = true then (1 : Int) else 0) = flagOf (L.take i).getLast? x →
          tSeq (tDrop (tBM K "list" rExtend (tVar 3) (tCons (tLst (tCons (tFld K (tVar 5) "lesser") (tCons (tFld K (tVar 5) "greater") (tCons (tIf (tB (tVar 7)) (tC (.int 1)) (tC (.int 0))) tNil)))) tNil))) (tAsg (tVar 6) (gName 4))
            { nx := fun σ H' => ∃ (vb : V) (v5 v6 v7 : Option V), σ = [some (.ref l), some (.ref ah), some (.ref m), some (.ref rw_), some vb, v5, v6, v7] ∧ Same H1 H' ∧ H' rw_ = some (.lst ((Sy38.toldMeets none (L.take (i + 1))).map V.int)) ∧ BefAt CI H' vb (L.take (i + 1)).getLast?, rt := Q }
            [some (.ref l), some (.ref ah), some (.ref m), some (.ref rw_), some vb, some (.ref t), some (.ref ax), some (.bl bj)] H3 := by
        intro bj hb
        have put : ∀ c : Int, c = flagOf (L.take i).getLast? x → ∀ a4, H3 a4 = none → rExtend (.ref rw_) [.ref a4] (upd H3 a4 (.lst [.int (x.i : Int), .int (x.j : Int), .int c])) fun _ H5 => tAsg (tVar 6) (gName 4)
            { nx := fun σ H' => ∃ (vb : V) (v5 v6 v7 : Option V), σ = [some (.ref l), some (.ref ah), some (.ref m), some (.ref rw_), some vb, v5, v6, v7] ∧ Same H1 H' ∧ H' rw_ = some (.lst ((Sy38.toldMeets none (L.take (i + 1))).map V.int)) ∧ BefAt CI H' vb (L.take (i + 1)).getLast?, rt := Q }
            [some (.ref l), some (.ref ah), some (.ref m), some (.ref rw_), some vb, some (.ref t), some (.ref ax), some (.bl bj)] H5 := by
          intro c hc a4 ha4
          have s4 := same_new (o := .lst [V.int (x.i : Int), V.int (x.j : Int), V.int c]) ha4
          have hr4 := s4 _ _ hr3
          refine ⟨rw_, a4, _, _, rfl, rfl, hr4, upd_same, by show _ + 3 ≤ _; omega, ?_⟩
          have up : ∀ (b : Addr) (o : HO) (ys : List V), H1 b = some o → upd (upd H3 a4 (.lst [V.int (x.i : Int), V.int (x.j : Int), V.int c])) rw_ (.lst ys) b = some o := fun b o ys e => by
            rw [upd_ne (ne_of_none e hrw)]
            exact s4 _ _ (s3 _ _ e)
          refine ⟨_, rfl, _, _, _, _, rfl, fun b o e => up b o _ e, ?_, ?_⟩
          · rw [upd_same, take_snoc hx, Tw.toldMeets_snoc, List.map_append, hc]
            rfl
          · rw [last_take hx]
            obtain ⟨dy, ex⟩ := ix
            exact ⟨ax, rfl, dy, up _ _ _ ex⟩
        refine ⟨_, rfl, .inl ⟨rfl, _, SqL.of hr3⟩, _, rfl, t, CM, dx, _, _, rfl, htx3, TM.cl, TM.nL, fM_l _ _ _, _, rfl, t, CM, dx, _, _, rfl, htx3, TM.cl, TM.nG, fM_g _ _ _, _, rfl, _, rfl, ite2 (fun h => ?_) (fun h => ?_)⟩
        · exact ⟨by show 3 ≤ sizeLine; decide, put 1 (by rw [if_pos h] at hb; exact hb)⟩
        · exact ⟨by show 3 ≤ sizeLine; decide, put 0 (by rw [if_neg h] at hb; exact hb)⟩
      refine ⟨_, rfl, t, CM, dx, _, _, rfl, htx3, TM.cl, TM.nS, fM_s _ _ _, px, CS, ds, _, _, rfl, hpx3, TS.cl, TS.nF, fS_f _ _ _, ?_⟩
      cases eb : (L.take i).getLast? with
      | none =>
        rw [eb] at bf3
        have ev : vb = .non := bf3
        subst ev
        refine ⟨_, rfl, _, rfl, ite2 (fun h => absurd h (by decide)) (fun _ => fin false ?_)⟩
        rw [eb]
        rfl
      | some z =>
        rw [eb] at bf3
        obtain ⟨az, rfl, iz⟩ := bf3
        have gz := T.gp z (List.mem_of_mem_take (List.mem_of_getLast? eb))
        refine ⟨_, rfl, _, rfl, ite2 (fun _ => ?_) (fun h => absurd rfl h)⟩
        refine ⟨_, rfl, _, rfl, az, ax, _, _, rfl, iz, ix3, gz.s, gx.s, rfl, fin _ ?_⟩
        rw [eb]
        unfold flagOf
        have ec : (decide (V.int (Tw.cmp (Tw.ins z.span.from_) (Tw.ins x.span.from_)) = V.int 0) = true) ↔ ((some z.span.from_).any fun (t : Sy38.Inst) => Sy38.compare t x.span.from_ == 0) = true := by
          rw [Tw.cmp_eq]
          show _ ↔ (Sy38.compare z.span.from_ x.span.from_ == 0) = true
          rw [beq_iff_eq]
          exact ⟨fun q => V.int.inj (of_decide_eq_true q), fun q => decide_eq_true (congrArg V.int q)⟩
        by_cases hc : ((some z.span.from_).any fun (t : Sy38.Inst) => Sy38.compare t x.span.from_ == 0) = true
        · rw [if_pos (ec.mpr hc)]
          exact (if_pos hc).symm
        · rw [if_neg (fun q => hc (ec.mp q))]
          exact (if_neg hc).symm
    · rintro σ H3 ⟨vb, v5, v6, v7, rfl, s3, hr3, _⟩
      have et : L.take (ts.map V.ref).length = L := List.take_of_length_le (by rw [List.length_map, al1.1]; exact Nat.le_refl _)
      rw [et] at hr3
      have lt : (ts.map V.ref).length = L.length := by rw [List.length_map, al1.1]
      have TL := T.len
      have lr : ((Sy38.toldMeets none L).map V.int).length ≤ 3 * 64 := by
        rw [List.length_map, Tw.toldMeets_length]
        omega
      refine ⟨_, rfl, m, _, rfl, .inl (SqL.of (s3 _ _ hm1)), (by show 1 ≤ sizeLine; decide), fun a5 h5 => ?_⟩
      have s5 := same_new (o := .lst [V.int ((ts.map V.ref).length : Int)]) h5
      refine ⟨_, rfl, rw_, _, rfl, s5 _ _ hr3, by omega, fun a6 H6 h6 s6 e6 => ?_⟩
      refine ⟨a5, a6, _, _, rfl, rfl, s6 _ _ upd_same, e6, by show 1 + _ ≤ _; rw [List.length_cons]; omega, fun p hp => ?_⟩
      have s16 := (s3.trans s5).trans s6
      have sall := (s1.trans s16).trans (same_new (o := .lst ([V.int ((ts.map V.ref).length : Int)] ++ V.int (((Sy38.toldMeets none L).map V.int).length : Int) :: (Sy38.toldMeets none L).map V.int)) hp)
      refine k p as _ ((s1.trans s16).free hp) ?_ (bs.mono sall) (keep_same sall l)
      rw [upd_same, lt, List.length_map]
      rfl
end
end Sky

namespace Sky
open PySem PySem.Spec PyProof.Rows L2
open Tw (Ins Spn Small SmallS B BOk SOk Gm Sorted mcmp)
open Sy38 (Body Meet)
theorem map_ref {as : List Addr} {i : Nat} {z : V} (h : (as.map V.ref)[i]? = some z) : ∃ a, as[i]? = some a ∧ z = V.ref a := by
  rw [List.getElem?_map] at h
  cases e : as[i]? with
  | none =>
    rw [e] at h
    cases h
  | some a =>
    rw [e] at h
    exact ⟨a, rfl, (Option.some.inj h).symm⟩
section
variable {P : Program} {w : World} {K : PySem.W.Frag} {mg : Str → Option Value} {base : Heap} {CI CS CB : Addr}
/-! ### has_instants_between -/
def spBetween (CI CS : Addr) : Sp := fun vs H Q _ => ∃ (p a b : Addr) (z : Spn) (x y : Ins), vs = [.ref p, .ref a, .ref b] ∧ SpnAt CI CS H p z ∧ InsAt CI H a x ∧ InsAt CI H b y ∧ SmallS z ∧ Small x ∧ Small y ∧ Q (.bl (Tw.between z x y)) H
theorem scBetween : FnScope ["span", "first", "last"] ["span", "first", "last"] (defScope sBetween) := ⟨rfl, rfl, rfl, by decide +kernel, rfl, by decide +kernel, by decide +kernel⟩
theorem ok_between (TS : ClsS K mg CS) (F : Fn K mg "has_instants_between" sBetween ["span", "first", "last"]) (GC : Ok P w K mg base 4 "compared" ["one", "other"] (spCompared CI)) :
    Ok P w K mg base 5 "has_instants_between" ["span", "first", "last"] (spBetween CI CS) := by
  refine F.ok scBetween (fun vs H Q E h => ?_) (fun f cdv A outer s H vs Q E hr h => ?_)
  · obtain ⟨p, a, b, z, x, y, rfl, _⟩ := h
    rfl
  · obtain ⟨p, a, b, z, x, y, rfl, ⟨dx, af, lv, hp, ifr, il⟩, ix, iy, sz, sx, sy, k⟩ := h
    refine ⟨_, pss_cons (ps_if (PW.pt (pw_and (pt_cmp (pc_notN (pe_fld (pv 0) rfl))) (pw_and1 (pt_cmpR op_le (pe_callO GC hr rfl (pa_cons (pe_fld (pv 0) rfl) (pa_cons (pv 1) pa_nil))) pe_int (nomark _))))) (pss_one (ps_ret pe_bl)) pss_nil) <|
      pss_one (ps_ret (pe_or (pe_fld (pv 0) rfl) (pe_one (pe_cmpR op_lt (pe_callO GC hr rfl (pa_cons (pe_fld (pv 0) rfl) (pa_cons (pv 2) pa_nil))) pe_int (nomark _))))), ?_⟩
    have rest : (∀ c : Bool, c = (z.al || decide (Tw.cmp z.fr y < 0)) → Q (.bl c) H) → tRet (tOrV (tFld K (tVar 0) "already") (tOp (rI0 fun i j => V.bl (decide (i < j))) (tCall (spCompared CI) [] E0 (tCons (tFld K (tVar 0) "first") (tCons (tVar 2) tNil))) (tC (.int 0))))
        { nx := fun _ H' => Q .non H', rt := Q } [some (.ref p), some (.ref a), some (.ref b)] H := by
      intro kk
      refine ⟨_, rfl, p, CS, dx, _, _, rfl, hp, TS.cl, TS.nA, fS_a _ _ _, _, rfl, ite2 (fun h => ?_) (fun h => ?_)⟩
      · refine kk true ?_
        rw [h]
        rfl
      · refine ⟨_, rfl, p, CS, dx, _, _, rfl, hp, TS.cl, TS.nF, fS_f _ _ _, _, rfl, af, b, _, _, rfl, ifr, iy, sz.fr, sy, _, _, rfl, rfl, ?_⟩
        refine kk _ ?_
        rw [Bool.not_eq_true _ |>.mp h]
        rfl
    refine ⟨_, rfl, p, CS, dx, _, _, rfl, hp, TS.cl, TS.nL, fS_l _ _ _, _, rfl, ?_⟩
    cases et : z.to with
    | none =>
      rw [et] at il
      have el : lv = .non := il
      subst el
      refine ite2 (fun h => absurd h (by decide)) (fun _ => iteF ?_)
      refine rest fun c hc => ?_
      unfold Tw.between at k
      rw [hc]
      simpa only [et, Bool.false_eq_true, if_false] using k
    | some t =>
      rw [et] at il
      obtain ⟨al, rfl, it⟩ := il
      have kt : ∀ c : Bool, c = (if Tw.cmp t x ≤ 0 then false else z.al || decide (Tw.cmp z.fr y < 0)) → Q (.bl c) H := fun c hc => by
        unfold Tw.between at k
        rw [hc]
        simpa only [et, decide_eq_true_eq] using k
      refine ite2 (fun _ => ?_) (fun h => absurd rfl h)
      refine ⟨_, rfl, p, CS, dx, _, _, rfl, hp, TS.cl, TS.nL, fS_l _ _ _, _, rfl, al, a, _, _, rfl, it, ix, sz.to t et, sx, _, _, rfl, rfl, _, rfl, ite2 (fun h => ?_) (fun h => ?_)⟩
      · have h : Tw.cmp t x ≤ 0 := of_decide_eq_true h
        exact kt false (by rw [if_pos h])
      · have h : ¬ Tw.cmp t x ≤ 0 := fun q => h (decide_eq_true q)
        refine rest fun c hc => kt c ?_
        rw [if_neg h]
        exact hc
/-! ### middle_at, square_apart_at, lie_over_at, hides_at -/
def spMiddle (CB : Addr) : Sp := fun vs H Q _ => ∃ (a : Addr) (b : Body) (t : Nat), vs = [.ref a, .int (t : Int)] ∧ BodyAt CB H a b ∧ BOk b ∧ t ≤ 100000 ∧ ∀ l, H l = none → Q (.ref l) (upd H l (.lst [.int (Tw.midX b (t : Int)), .int (Tw.midY b (t : Int))]))
theorem scMiddle : FnScope ["body", "instant"] ["body", "instant"] (defScope sMiddle) := ⟨rfl, rfl, rfl, by decide +kernel, rfl, by decide +kernel, by decide +kernel⟩
theorem ok_middle (TB : ClsB K mg CB) (F : Fn K mg "middle_at" sMiddle ["body", "instant"]) : Ok P w K mg base 1 "middle_at" ["body", "instant"] (spMiddle CB) := by
  refine F.ok scMiddle (fun vs H Q E h => ?_) (fun f cdv A outer s H vs Q E hr h => ?_)
  · obtain ⟨a, b, t, rfl, _⟩ := h
    rfl
  · obtain ⟨a, b, t, rfl, ⟨da, ea⟩, ob, ht, k⟩ := h
    have := ob.u1; have := ob.u2; have := ob.v1; have := ob.v2
    have bt : B 64 (t : Int) := .of (by omega) (by omega)
    have bu : B 64 b.u := .of (by omega) (by omega)
    have bv : B 64 b.v := .of (by omega) (by omega)
    refine ⟨_, pss_one (ps_ret (pe_lst (pa_cons (pe_op op_add (pe_fld (pv 0) rfl) (pe_op op_mulB (pe_fld (pv 0) rfl) (pv 1))) (pa_cons (pe_op op_add (pe_fld (pv 0) rfl) (pe_op op_mulB (pe_fld (pv 0) rfl) (pv 1))) pa_nil)))), ?_⟩
    refine ⟨_, rfl, a, CB, da, _, _, rfl, ea, TB.cl, TB.nX, fB_x _, _, rfl, a, CB, da, _, _, rfl, ea, TB.cl, TB.nU, fB_u _, _, rfl, _, _, rfl, rfl, cb bu bt, _, _, rfl, rfl, ?_⟩
    refine ⟨_, rfl, a, CB, da, _, _, rfl, ea, TB.cl, TB.nY, fB_y _, _, rfl, a, CB, da, _, _, rfl, ea, TB.cl, TB.nV, fB_v _, _, rfl, _, _, rfl, rfl, cb bv bt, _, _, rfl, rfl, ?_⟩
    exact ⟨(by show 2 ≤ sizeLine; decide), fun l hl => k l hl⟩
def spApart (CB : Addr) : Sp := fun vs H Q _ => ∃ (a b : Addr) (e f : Body) (t : Nat), vs = [.ref a, .ref b, .int (t : Int)] ∧ BodyAt CB H a e ∧ BodyAt CB H b f ∧ BOk e ∧ BOk f ∧ t ≤ 100000 ∧ ∀ H', Same H H' → Q (.int (Tw.apart e f (t : Int))) H'
theorem scApart : FnScope ["one", "other", "instant", "here", "there", "dx", "dy"] ["one", "other", "instant"] (defScope sApart) := ⟨rfl, rfl, rfl, by decide +kernel, rfl, by decide +kernel, by decide +kernel⟩
theorem mid_B {b : Body} {t : Nat} (ob : BOk b) (ht : t ≤ 100000) : B 64 (Tw.midX b (t : Int)) ∧ B 64 (Tw.midY b (t : Int)) := by
  have := ob.u1; have := ob.u2; have := ob.v1; have := ob.v2; have := ob.x1; have := ob.x2; have := ob.y1; have := ob.y2
  have m1 := Tw.mul_bound (a := b.u) (b := (t : Int)) (m := 50) (n := 100000) (by omega) (by omega) (by omega) (by omega)
  have m2 := Tw.mul_bound (a := b.v) (b := (t : Int)) (m := 50) (n := 100000) (by omega) (by omega) (by omega) (by omega)
  unfold Tw.midX Tw.midY
  exact ⟨.of (by omega) (by omega), .of (by omega) (by omega)⟩
theorem ok_apart (F : Fn K mg "square_apart_at" sApart ["one", "other", "instant"]) (G : Ok P w K mg base 1 "middle_at" ["body", "instant"] (spMiddle CB)) :
    Ok P w K mg base 2 "square_apart_at" ["one", "other", "instant"] (spApart CB) := by
  refine F.ok scApart (fun vs H Q E h => ?_) (fun f cdv A outer s H vs Q E hr h => ?_)
  · obtain ⟨a, b, e, f, t, rfl, _⟩ := h
    rfl
  · obtain ⟨a, b, e, f, t, rfl, ha, hb, oe, of, ht, k⟩ := h
    refine ⟨_, pss_cons (ps_set (i := 3) scApart.nd rfl (Or.inl rfl) (pe_callO G hr rfl (pa_cons (pv 0) (pa_cons (pv 2) pa_nil)))) <|
      pss_cons (ps_set (i := 4) scApart.nd rfl (Or.inl rfl) (pe_callO G hr rfl (pa_cons (pv 1) (pa_cons (pv 2) pa_nil)))) <|
      pss_cons (ps_set (i := 5) scApart.nd rfl (Or.inl rfl) (pe_op op_sub (pe_ix ix_list (pv 4) pe_int (fun _ _ => rfl)) (pe_ix ix_list (pv 3) pe_int (fun _ _ => rfl)))) <|
      pss_cons (ps_set (i := 6) scApart.nd rfl (Or.inl rfl) (pe_op op_sub (pe_ix ix_list (pv 4) pe_int (fun _ _ => rfl)) (pe_ix ix_list (pv 3) pe_int (fun _ _ => rfl)))) <|
      pss_one (ps_ret (pe_op op_add (pe_op op_mulB (pv 5) (pv 5)) (pe_op op_mulB (pv 6) (pv 6)))), ?_⟩
    obtain ⟨x1, y1⟩ := mid_B oe ht
    obtain ⟨x2, y2⟩ := mid_B of ht
    have bx := x2.sub x1
    have by_ := y2.sub y1
    refine ⟨_, rfl, _, rfl, a, e, t, rfl, ha, oe, ht, fun l1 n1 => ?_⟩
    have s1 := same_new (o := .lst [V.int (Tw.midX e (t : Int)), V.int (Tw.midY e (t : Int))]) n1
    refine ⟨_, rfl, _, rfl, b, f, t, rfl, hb.mono s1, of, ht, fun l2 n2 => ?_⟩
    have s2 := same_new (o := .lst [V.int (Tw.midX f (t : Int)), V.int (Tw.midY f (t : Int))]) n2
    have h1 := s2 _ _ upd_same
    refine ⟨_, rfl, l2, _, _, _, rfl, rfl, SqL.of upd_same, at_of (j := 0) (v := V.int (Tw.midX f (t : Int))) rfl rfl, _, rfl, l1, _, _, _, rfl, rfl, SqL.of h1, at_of (j := 0) (v := V.int (Tw.midX e (t : Int))) rfl rfl, _, _, rfl, rfl, ?_⟩
    refine ⟨_, rfl, l2, _, _, _, rfl, rfl, SqL.of upd_same, at_of (j := 1) (v := V.int (Tw.midY f (t : Int))) rfl rfl, _, rfl, l1, _, _, _, rfl, rfl, SqL.of h1, at_of (j := 1) (v := V.int (Tw.midY e (t : Int))) rfl rfl, _, _, rfl, rfl, ?_⟩
    exact ⟨_, rfl, _, rfl, _, _, rfl, rfl, cb bx bx, _, rfl, _, rfl, _, _, rfl, rfl, cb by_ by_, _, _, rfl, rfl, k _ (s1.trans s2)⟩
def spOverAt (CB : Addr) : Sp := fun vs H Q _ => ∃ (a b : Addr) (e f : Body) (t : Nat), vs = [.ref a, .ref b, .int (t : Int)] ∧ BodyAt CB H a e ∧ BodyAt CB H b f ∧ BOk e ∧ BOk f ∧ t ≤ 100000 ∧ ∀ H', Same H H' → Q (.bl (Tw.overB e f (t : Int))) H'
theorem scOverAt : FnScope ["one", "other", "instant", "reach"] ["one", "other", "instant"] (defScope sOverAt) := ⟨rfl, rfl, rfl, by decide +kernel, rfl, by decide +kernel, by decide +kernel⟩
theorem ok_overAt (TB : ClsB K mg CB) (F : Fn K mg "lie_over_at" sOverAt ["one", "other", "instant"]) (G : Ok P w K mg base 2 "square_apart_at" ["one", "other", "instant"] (spApart CB)) :
    Ok P w K mg base 3 "lie_over_at" ["one", "other", "instant"] (spOverAt CB) := by
  refine F.ok scOverAt (fun vs H Q E h => ?_) (fun f cdv A outer s H vs Q E hr h => ?_)
  · obtain ⟨a, b, e, f, t, rfl, _⟩ := h
    rfl
  · obtain ⟨a, b, e, f, t, rfl, ha, hb, oe, of, ht, k⟩ := h
    have := oe.r1; have := oe.r2; have := of.r1; have := of.r2
    have br : B 64 ((e.r : Int) + (f.r : Int)) := .of (by omega) (by omega)
    refine ⟨_, pss_cons (ps_set (i := 3) scOverAt.nd rfl (Or.inl rfl) (pe_op op_add (pe_fld (pv 0) rfl) (pe_fld (pv 1) rfl))) <|
      pss_one (ps_ret (pe_cmpR op_lt (pe_callO G hr rfl (pa_cons (pv 0) (pa_cons (pv 1) (pa_cons (pv 2) pa_nil)))) (pe_op op_mulB (pv 3) (pv 3)) (nomark _))), ?_⟩
    obtain ⟨da, ea⟩ := ha
    obtain ⟨db, eb⟩ := hb
    refine ⟨_, rfl, a, CB, da, _, _, rfl, ea, TB.cl, TB.nR, fB_radius _, _, rfl, b, CB, db, _, _, rfl, eb, TB.cl, TB.nR, fB_radius _, _, _, rfl, rfl, ?_⟩
    refine ⟨_, rfl, _, rfl, _, rfl, a, b, e, f, t, rfl, ⟨da, ea⟩, ⟨db, eb⟩, oe, of, ht, fun H1 s1 => ?_⟩
    exact ⟨_, rfl, _, rfl, _, _, rfl, rfl, cb br br, _, _, rfl, rfl, k H1 s1⟩
def spHidesAt (CB : Addr) : Sp := fun vs H Q _ => ∃ (a b : Addr) (e f : Body) (t : Nat), vs = [.ref a, .ref b, .int (t : Int)] ∧ BodyAt CB H a e ∧ BodyAt CB H b f ∧ BOk e ∧ BOk f ∧ t ≤ 100000 ∧ ∀ H', Same H H' → Q (.bl (Tw.hidesB e f (t : Int))) H'
theorem scHidesAt : FnScope ["one", "other", "instant", "reach"] ["one", "other", "instant"] (defScope sHidesAt) := ⟨rfl, rfl, rfl, by decide +kernel, rfl, by decide +kernel, by decide +kernel⟩
theorem ok_hidesAt (TB : ClsB K mg CB) (F : Fn K mg "hides_at" sHidesAt ["one", "other", "instant"]) (GH : Ok P w K mg base 2 "may_hide" ["one", "other"] (spMayHide CB)) (G : Ok P w K mg base 2 "square_apart_at" ["one", "other", "instant"] (spApart CB)) :
    Ok P w K mg base 3 "hides_at" ["one", "other", "instant"] (spHidesAt CB) := by
  refine F.ok scHidesAt (fun vs H Q E h => ?_) (fun f cdv A outer s H vs Q E hr h => ?_)
  · obtain ⟨a, b, e, f, t, rfl, _⟩ := h
    rfl
  · obtain ⟨a, b, e, f, t, rfl, ha, hb, oe, of, ht, k⟩ := h
    have := oe.r1; have := oe.r2; have := of.r1; have := of.r2
    have br : B 64 ((e.r : Int) - (f.r : Int)) := .of (by omega) (by omega)
    refine ⟨_, pss_cons (ps_set (i := 3) scHidesAt.nd rfl (Or.inl rfl) (pe_op op_sub (pe_fld (pv 0) rfl) (pe_fld (pv 1) rfl))) <|
      pss_one (ps_ret (pe_and (pe_callO GH hr rfl (pa_cons (pv 0) (pa_cons (pv 1) pa_nil))) (pe_one (pe_cmpR op_le (pe_callO G hr rfl (pa_cons (pv 0) (pa_cons (pv 1) (pa_cons (pv 2) pa_nil)))) (pe_op op_mulB (pv 3) (pv 3)) (nomark _))))), ?_⟩
    obtain ⟨da, ea⟩ := ha
    obtain ⟨db, eb⟩ := hb
    unfold Tw.hidesB at k
    refine ⟨_, rfl, a, CB, da, _, _, rfl, ea, TB.cl, TB.nR, fB_radius _, _, rfl, b, CB, db, _, _, rfl, eb, TB.cl, TB.nR, fB_radius _, _, _, rfl, rfl, ?_⟩
    refine ⟨_, rfl, _, rfl, a, b, e, f, rfl, ⟨da, ea⟩, ⟨db, eb⟩, _, rfl, ite2 (fun h => ?_) (fun h => ?_)⟩
    · rw [h] at k
      refine ⟨_, rfl, _, rfl, _, rfl, a, b, e, f, t, rfl, ⟨da, ea⟩, ⟨db, eb⟩, oe, of, ht, fun H1 s1 => ?_⟩
      have k1 := k H1 s1
      rw [Bool.true_and] at k1
      exact ⟨_, rfl, _, rfl, _, _, rfl, rfl, cb br br, _, _, rfl, rfl, k1⟩
    · have k1 := k H (Same.refl H)
      rw [Bool.not_eq_true _ |>.mp h, Bool.false_and] at k1
      exact k1
/-! ### view_of -/
def spView (CB : Addr) : Sp := fun vs H Q _ => ∃ (a l : Addr) (as : List Addr) (s : Sy38.St) (j t : Nat), vs = [.ref a, .ref l, .int (t : Int)] ∧ BsAt CB H l as s ∧ SOk s ∧ as[j]? = some a ∧ t ≤ 100000 ∧ ∀ H', Same H H' → Q (.int ((Sy38.seen s t j : Nat) : Int)) H'
theorem scView : FnScope ["body", "bodies", "instant", "view", "other"] ["body", "bodies", "instant"] (defScope sView) := ⟨rfl, rfl, rfl, by decide +kernel, rfl, by decide +kernel, by decide +kernel⟩
theorem ok_view (F : Fn K mg "view_of" sView ["body", "bodies", "instant"]) (GH : Ok P w K mg base 3 "hides_at" ["one", "other", "instant"] (spHidesAt CB)) (GO : Ok P w K mg base 3 "lie_over_at" ["one", "other", "instant"] (spOverAt CB)) (GN : Ok P w K mg base 1 "is_nearer" ["one", "other"] (spNearer CB)) :
    Ok P w K mg base 4 "view_of" ["body", "bodies", "instant"] (spView CB) := by
  refine F.ok scView (fun vs H Q E h => ?_) (fun f cdv A outer s H vs Q E hr h => ?_)
  · obtain ⟨a, l, as, s, j, t, rfl, _⟩ := h
    rfl
  · obtain ⟨a, l, as, st, j, t, rfl, bs, S, hj, ht, k⟩ := h
    refine ⟨_, pss_cons (ps_set (i := 3) scView.nd rfl (Or.inl rfl) pe_int) <|
      pss_cons (ps_for PassesOwn.never rfl (pi_list (pv 1)) (pg_name (i := 4) scView.nd rfl (Or.inl rfl))
        (pss_cons (ps_if (pt_val (pe_callO GH hr rfl (pa_cons (pv 4) (pa_cons (pv 0) (pa_cons (pv 2) pa_nil))))) (pss_one (ps_ret pe_int)) pss_nil) <|
          pss_one (ps_if (PW.pt (pw_and (pt_val (pe_callO GN (hr.mono (by decide)) rfl (pa_cons (pv 4) (pa_cons (pv 0) pa_nil)))) (pw_and1 (pt_val (pe_callO GO hr rfl (pa_cons (pv 4) (pa_cons (pv 0) (pa_cons (pv 2) pa_nil)))))))) (pss_one (ps_set (i := 3) scView.nd rfl (Or.inl rfl) pe_int)) pss_nil))) <|
      pss_one (ps_ret (pv 3)), ?_⟩
    obtain ⟨f, hf, bf⟩ := bs.al.get' hj
    have hjl : j < st.length := (List.getElem?_eq_some_iff.mp hf).1
    have gf : Sy38.bodyAt st j = f := Tw.bodyAt_get hf
    have of := S.ok _ (List.mem_of_getElem? hf)
    have lens : (as.map V.ref).length = st.length := by rw [List.length_map, bs.al.1]
    refine ⟨_, rfl, l, rfl, ⟨_, SqL.of bs.lst⟩, for_list (K := K) (a := l) (xs := as.map V.ref) (fun i σ H' => ∃ (v4 : Option V), σ = [some (.ref a), some (.ref l), some (.int (t : Int)), some (.int ((Tw.viewIn st t j i : Nat) : Int)), v4] ∧ Same H H' ∧ ∀ m, m < i → Sy38.hidesAt st t m j = false)
      ⟨none, rfl, Same.refl H, fun m hm => absurd hm (Nat.not_lt_zero m)⟩ (fun i σ H' _ ⟨_, _, s3, _⟩ => SqL.of (s3 _ _ bs.lst)) ?_ ?_⟩
    · rintro i y σ H3 hi ⟨v4, rfl, s3, no⟩
      obtain ⟨o, ho, rfl⟩ := map_ref hi
      obtain ⟨e, he, be⟩ := bs.al.get' ho
      have hil : i < st.length := (List.getElem?_eq_some_iff.mp he).1
      have ge : Sy38.bodyAt st i = e := Tw.bodyAt_get he
      have oe := S.ok _ (List.mem_of_getElem? he)
      have kh : Sy38.hidesAt st t i j = Tw.hidesB e f (t : Int) := by rw [Tw.hidesAt_B, ge, gf]
      have kn : (Sy38.nearer st i j && Sy38.overAt st t i j) = (decide ((e.far : Int) < (f.far : Int)) && Tw.overB e f (t : Int)) := by rw [Tw.nearOver_B, ge, gf]
      have stp := Tw.viewIn_succ st t j i
      rw [kn] at stp
      refine ⟨_, rfl, _, rfl, _, rfl, o, a, e, f, t, rfl, be.mono s3, bf.mono s3, oe, of, ht, fun H4 s4 => ?_⟩
      have s34 := s3.trans s4
      refine ⟨_, rfl, ite2 (fun h1 => ?_) (fun h1 => ?_)⟩
      · have := k H4 s34
        rw [Tw.seen_two hil (kh.trans h1)] at this
        exact this
      · have h1 := kh.trans (Bool.not_eq_true _ |>.mp h1)
        have no' : ∀ m, m < i + 1 → Sy38.hidesAt st t m j = false := fun m hm => by
          rcases Nat.lt_succ_iff_lt_or_eq.mp hm with z | z
          · exact no m z
          · rw [z]; exact h1
        refine ⟨_, rfl, _, rfl, o, a, e, f, rfl, be.mono s34, bf.mono s34, _, rfl, ite2 (fun h2 => ?_) (fun h2 => iteF ?_)⟩
        · refine ⟨_, rfl, _, rfl, _, rfl, o, a, e, f, t, rfl, be.mono s34, bf.mono s34, oe, of, ht, fun H5 s5 => ?_⟩
          have s35 := s34.trans s5
          refine ⟨_, rfl, ite2 (fun h3 => ?_) (fun h3 => ?_)⟩
          · rw [if_pos (by rw [h2, h3]; rfl)] at stp
            exact ⟨_, by rw [stp]; rfl, s35, no'⟩
          · rw [if_neg (by rw [h2, Bool.true_and]; exact h3)] at stp
            exact ⟨_, by rw [stp]; rfl, s35, no'⟩
        · rw [if_neg (by rw [Bool.not_eq_true _ |>.mp h2, Bool.false_and]; decide)] at stp
          exact ⟨_, by rw [stp]; rfl, s34, no'⟩
    · rintro σ H3 ⟨v4, rfl, s3, no⟩
      rw [lens] at no
      have := k H3 s3
      rw [Tw.seen_none no, ← lens] at this
      exact ⟨_, rfl, this⟩
end
end Sky

namespace Sky
open PySem PySem.Spec PyProof.Rows L2
open Tw (Ins Spn Small SmallS B BOk SOk Gm Sorted mcmp)
open Sy38 (Body Meet)
theorem boot_min9 : bootBuiltins "min" = some (.builtin "min") := by decide +kernel
theorem boot_list9 : bootBuiltins "list" = some (.type "list") := by decide +kernel
theorem boot_range9 : bootBuiltins "range" = some (.type "range") := by decide +kernel
theorem boot_set9 : bootBuiltins "set" = some (.type "set") := by decide +kernel
theorem nums_get {ls : List Nat} {i : Nat} {z : V} (h : (nums ls)[i]? = some z) : ∃ n : Nat, ls[i]? = some n ∧ z = V.int (n : Int) := by
  unfold nums at h
  rw [List.getElem?_map] at h
  cases e : ls[i]? with
  | none =>
    rw [e] at h
    cases h
  | some a =>
    rw [e] at h
    exact ⟨a, rfl, (Option.some.inj h).symm⟩
theorem get_nums {ls : List Nat} {i n : Nat} (h : ls[i]? = some n) : (nums ls)[i]? = some (V.int (n : Int)) := by
  unfold nums
  rw [List.getElem?_map, h]
  rfl
theorem nums_len (ls : List Nat) : (nums ls).length = ls.length := List.length_map _
section
variable {P : Program} {w : World} {K : PySem.W.Frag} {mg : Str → Option Value} {base : Heap} {CI CS CB : Addr}
/-! ### joined_groups -/
def spJoin2 : Sp := fun vs H Q _ => ∃ (l : Addr) (ls : List Nat) (p q : Nat), vs = [.ref l, .int (p : Int), .int (q : Int)] ∧ H l = some (.lst (nums ls)) ∧ ls.length ≤ 8 ∧ ∀ (D : Addr) (H' : Hp), H D = none → Same H H' → H' D = some (.lst (nums (ls.map (Tw.join2 p q)))) → Q (.ref D) H'
theorem scJoin2 : FnScope ["leasts", "one", "other", "least"] ["leasts", "one", "other"] (defScope sJoin2) := ⟨rfl, rfl, rfl, by decide +kernel, rfl, by decide +kernel, by decide +kernel⟩
def rMin2 : List V → Hp → VK → Prop := fun xs H Q => ∃ i j : Int, xs = [.int i, .int j] ∧ Q (.int (if j < i then j else i)) H
theorem ok_join2 (hM : mg "min" = none) (F : Fn K mg "joined_groups" sJoin2 ["leasts", "one", "other"]) : Ok P w K mg base 1 "joined_groups" ["leasts", "one", "other"] spJoin2 := by
  refine F.ok scJoin2 (fun vs H Q E h => ?_) (fun f cdv A outer s H vs Q E hr h => ?_)
  · obtain ⟨l, ls, p, q, rfl, _⟩ := h
    rfl
  · obtain ⟨l, ls, p, q, rfl, hl, h8, k⟩ := h
    have okB : BlkOk ["leasts", "one", "other", "least"] (defScope sJoin2) { kind := .function, names := [(".0", .local), ("least", .local), ("min", .globalImplicit), ("one", .free), ("other", .free)], isGenerator := false, isCoroutine := false, more := [] } [("least", 3)] := blkOk_by (by decide +kernel)
    refine ⟨_, pss_one (ps_ret (pe_lc (own := [("least", 3)]) (te := tIf (tTest (tOp (rIn K false) (tVar 3) (tTup (tCons (tVar 1) (tCons (tVar 2) tNil))))) (tCB rMin2 (tCons (tVar 1) (tCons (tVar 2) tNil))) (tVar 3)) rfl scJoin2.nd (pi_list (pv 0)) okB (fun _ _ _ _ _ => pg_name (i := 3) scJoin2.nd rfl (Or.inl rfl)) (fun _ _ _ _ _ => pts_nil)
      (fun _ _ _ _ _ => pe_ifExp (pt_cmpR op_in_seq (pv 3) (pe_tup (pa_cons (pv 1) (pa_cons (pv 2) pa_nil))) rfl) (pe_callB (call_min2 rfl) (by rfl) hM boot_min9 (pa_cons (pv 1) (pa_cons (pv 2) pa_nil))) (pv 3)))), ?_⟩
    refine ⟨_, rfl, l, rfl, ⟨_, SqL.of hl⟩, fun D hD => ?_⟩
    refine lc_list (K := K) (a := l) (xs := nums ls) (fun i H' => Same H H' ∧ H' D = some (.lst (nums ((ls.take i).map (Tw.join2 p q))))) ⟨same_new hD, upd_same⟩ (fun i H' _ z => SqL.of (z.1 _ _ hl)) ?_ ?_
    · rintro i z H' hi ⟨s1, hD1⟩
      obtain ⟨n, hn, rfl⟩ := nums_get hi
      refine ⟨rfl, ?_⟩
      unfold tYes
      dsimp only
      rw [if_pos rfl]
      have big : (8 : Nat) < sizeLine := by decide
      have put : ∀ (H2 : Hp) (y : Int), Same H' H2 → y = ((Tw.join2 p q n : Nat) : Int) → ∃ acc, H2 D = some (.lst acc) ∧ acc.length < sizeLine ∧ (Same H (upd H2 D (.lst (acc ++ [.int y]))) ∧ upd H2 D (.lst (acc ++ [.int y])) D = some (.lst (nums ((ls.take (i + 1)).map (Tw.join2 p q))))) := by
        intro H2 y s2 hy
        refine ⟨_, s2 _ _ hD1, ?_, fun c o e => ?_, ?_⟩
        · rw [nums_len, List.length_map, List.length_take]
          omega
        · rw [upd_ne (ne_of_none e hD)]
          exact s2 _ _ (s1 _ _ e)
        · rw [upd_same, take_snoc hn, List.map_append, hy]
          unfold nums
          rw [List.map_append]
          rfl
      refine ⟨_, rfl, _, rfl, _, rfl, (by show 2 ≤ sizeLine; decide), fun tp htp => ?_⟩
      have s2 := same_new (o := .tup [V.int (p : Int), V.int (q : Int)]) htp
      refine ⟨tp, _, rfl, .inr (SqT.of upd_same), rfl, rfl, _, rfl, ?_⟩
      have key : (inV (V.int (n : Int)) [V.int (p : Int), V.int (q : Int)] = true) ↔ (n = p ∨ n = q) := by
        show (((p : Int) == (n : Int)) || (((q : Int) == (n : Int)) || false)) = true ↔ _
        rw [Bool.or_false, Bool.or_eq_true, beq_iff_eq, beq_iff_eq]
        omega
      refine ite2 (fun h => ?_) (fun h => ?_)
      · have h := key.mp h
        refine ⟨_, rfl, _, rfl, _, _, rfl, put _ _ s2 ?_⟩
        unfold Tw.join2
        rw [if_pos h]
        split <;> omega
      · have h := fun z => h (key.mpr z)
        refine ⟨_, rfl, put _ _ s2 ?_⟩
        unfold Tw.join2
        rw [if_neg h]
    · rintro H1 ⟨s1, hD1⟩
      rw [nums_len, List.take_length] at hD1
      exact k D H1 hD s1 hD1
/-! ### groups_at -/
def spGroups (CB : Addr) : Sp := fun vs H Q _ => ∃ (l : Addr) (as : List Addr) (s : Sy38.St) (t : Nat), vs = [.ref l, .int (t : Int)] ∧ BsAt CB H l as s ∧ SOk s ∧ t ≤ 100000 ∧ ∀ (D : Addr) (H' : Hp), H D = none → Same H H' → H' D = some (.lst (nums (Sy38.joined s t))) → Q (.ref D) H'
theorem scGroups : FnScope ["bodies", "instant", "leasts", "lesser", "greater"] ["bodies", "instant"] (defScope sGroups) := ⟨rfl, rfl, rfl, by decide +kernel, rfl, by decide +kernel, by decide +kernel⟩
theorem ok_groups (hL : mg "len" = none) (hR : mg "range" = none) (hLi : mg "list" = none) (F : Fn K mg "groups_at" sGroups ["bodies", "instant"]) (GO : Ok P w K mg base 3 "lie_over_at" ["one", "other", "instant"] (spOverAt CB)) (GJ : Ok P w K mg base 1 "joined_groups" ["leasts", "one", "other"] spJoin2) :
    Ok P w K mg base 4 "groups_at" ["bodies", "instant"] (spGroups CB) := by
  refine F.ok scGroups (fun vs H Q E h => ?_) (fun f cdv A outer s H vs Q E hr h => ?_)
  · obtain ⟨l, as, s, t, rfl, _⟩ := h
    rfl
  · obtain ⟨l, as, st, t, rfl, bs, S, ht, k⟩ := h
    refine ⟨_, pss_cons (ps_set (i := 2) scGroups.nd rfl (Or.inl rfl) (pe_callTy (call_list_rng rfl) (by rfl) hLi boot_list9 (pa_cons (pe_callTy call_rng1 (by rfl) hR boot_range9 (pa_cons (pe_callB call_len_seq (by rfl) hL PySem.boot_len (pa_cons (pv 0) pa_nil)) pa_nil)) pa_nil))) <|
      pss_cons (ps_for PassesOwn.never rfl (pi_range1 rfl hR (pa_cons (pe_callB call_len_seq (by rfl) hL PySem.boot_len (pa_cons (pv 0) pa_nil)) pa_nil)) (pg_name (i := 3) scGroups.nd rfl (Or.inl rfl))
        (pss_one (ps_for PassesOwn.never rfl (pi_range2 rfl hR (pa_cons (pe_op op_add (pv 3) pe_int) (pa_cons (pe_callB call_len_seq (by rfl) hL PySem.boot_len (pa_cons (pv 0) pa_nil)) pa_nil))) (pg_name (i := 4) scGroups.nd rfl (Or.inl rfl))
          (pss_one (ps_if (pt_val (pe_callO GO hr rfl (pa_cons (pe_ix ix_list (pv 0) (pv 3) (fun _ _ => rfl)) (pa_cons (pe_ix ix_list (pv 0) (pv 4) (fun _ _ => rfl)) (pa_cons (pv 1) pa_nil)))))
            (pss_one (ps_set (i := 2) scGroups.nd rfl (Or.inl rfl) (pe_callO GJ (hr.mono (by decide)) rfl (pa_cons (pv 2) (pa_cons (pe_ix ix_list (pv 2) (pv 3) (fun _ _ => rfl)) (pa_cons (pe_ix ix_list (pv 2) (pv 4) (fun _ _ => rfl)) pa_nil)))))) pss_nil))))) <|
      pss_one (ps_ret (pv 2)), ?_⟩
    have lens : (as.map V.ref).length = st.length := by rw [List.length_map, bs.al.1]
    have L8 := S.len
    refine ⟨_, rfl, l, _, rfl, .inl (SqL.of bs.lst), (as.map V.ref).length, rfl, fun rp hrp => ?_⟩
    have s0 := same_new (o := .rng 0 (((as.map V.ref).length : Nat) : Int)) hrp
    refine ⟨rp, (as.map V.ref).length, rfl, upd_same, by omega, fun D hD => ?_⟩
    have s1 := s0.trans (same_new (o := .lst ((List.range (as.map V.ref).length).map fun (i : Nat) => V.int (i : Int))) hD)
    have hD0 := s0.free hD
    have bs1 := bs.mono s1
    refine ⟨_, rfl, l, _, rfl, .inl (SqL.of bs1.lst), ((as.map V.ref).length : Int), rfl, by omega, by omega, ?_⟩
    refine for_range (lo := 0) (n := ((as.map V.ref).length : Int).toNat) (fun i σ H' => ∃ (D : Addr) (v3 v4 : Option V), σ = [some (.ref l), some (.int (t : Int)), some (.ref D), v3, v4] ∧ Same H H' ∧ H D = none ∧ H' D = some (.lst (nums (Tw.joinIn st t i 0))))
      ⟨D, none, none, rfl, s1, hD0, ?_⟩ ?_ ?_
    · rw [upd_same, lens]
      rfl
    · rintro i σ H1 hi ⟨D, v3, v4, rfl, s1, hD, hD1⟩
      have ei : (0 : Int) + (i : Int) = (i : Int) := Int.zero_add _
      rw [ei]
      have hi' : i < st.length := by omega
      have b1 := bs.mono s1
      refine ⟨_, rfl, _, _, rfl, rfl, _, rfl, l, _, rfl, .inl (SqL.of b1.lst), (i : Int) + 1, ((as.map V.ref).length : Int), rfl, ⟨by omega, by omega, by omega, by omega⟩, ?_⟩
      refine for_range (lo := (i : Int) + 1) (n := (((as.map V.ref).length : Int) - ((i : Int) + 1)).toNat) (fun j σ H' => ∃ (D : Addr) (v4 : Option V), σ = [some (.ref l), some (.int (t : Int)), some (.ref D), some (.int (i : Int)), v4] ∧ Same H H' ∧ H D = none ∧ H' D = some (.lst (nums (Tw.joinIn st t i j))))
        ⟨D, v4, rfl, s1, hD, hD1⟩ ?_ ?_
      · rintro j σ H2 hj ⟨D, w4, rfl, s2, hD, hD2⟩
        have ej : (i : Int) + 1 + (j : Int) = ((i + 1 + j : Nat) : Int) := by omega
        rw [ej]
        have hj' : i + 1 + j < st.length := by omega
        have b2 := bs.mono s2
        obtain ⟨aa, ha, ba⟩ := b2.al.get (List.getElem?_eq_getElem hi')
        obtain ⟨ab, hb, bb⟩ := b2.al.get (List.getElem?_eq_getElem hj')
        have ge : Sy38.bodyAt st i = st[i] := Tw.bodyAt_get (List.getElem?_eq_getElem hi')
        have gf : Sy38.bodyAt st (i + 1 + j) = st[i + 1 + j] := Tw.bodyAt_get (List.getElem?_eq_getElem hj')
        have ko : Sy38.overAt st t i (i + 1 + j) = Tw.overB st[i] st[i + 1 + j] (t : Int) := by
          have : (i != i + 1 + j) = true := by simp; omega
          rw [Tw.overAt_B, ge, gf, this, Bool.true_and]
        have stp := Tw.joinIn_step st t i j
        rw [ko] at stp
        have jl := Tw.joinIn_length st t i j
        have pi : i < (Tw.joinIn st t i j).length := by omega
        have pj : i + 1 + j < (Tw.joinIn st t i j).length := by omega
        refine ⟨_, rfl, _, rfl, l, _, _, _, rfl, rfl, SqL.of b2.lst, at_of (j := i) (v := V.ref aa) rfl (by rw [List.getElem?_map, ha]; rfl), _, rfl, _, rfl, l, _, _, _, rfl, rfl, SqL.of b2.lst, at_of (j := i + 1 + j) (v := V.ref ab) rfl (by rw [List.getElem?_map, hb]; rfl), _, rfl,
          aa, ab, st[i], st[i + 1 + j], t, rfl, ba, bb, S.ok _ (List.getElem_mem hi'), S.ok _ (List.getElem_mem hj'), ht, fun H3 s3 => ?_⟩
        have s03 := s2.trans s3
        have hD3 := s3 _ _ hD2
        refine ⟨_, rfl, ite2 (fun h => ?_) (fun h => ?_)⟩
        · rw [if_pos h, Tw.joinStep_eq (List.getElem?_eq_getElem pi) (List.getElem?_eq_getElem pj)] at stp
          refine ⟨_, rfl, _, rfl, _, rfl, D, _, _, _, rfl, rfl, SqL.of hD3, at_of (j := i) (v := V.int ((Tw.joinIn st t i j)[i] : Int)) rfl (get_nums (List.getElem?_eq_getElem pi)), _, rfl, _, rfl, D, _, _, _, rfl, rfl, SqL.of hD3, at_of (j := i + 1 + j) (v := V.int ((Tw.joinIn st t i j)[i + 1 + j] : Int)) rfl (get_nums (List.getElem?_eq_getElem pj)),
            D, _, _, _, rfl, hD3, by omega, fun D' H4 hD' s4 h4 => ?_⟩
          exact ⟨D', _, rfl, s03.trans s4, s03.free hD', by rw [stp]; exact h4⟩
        · rw [if_neg h] at stp
          exact ⟨D, _, rfl, s03, hD, by rw [stp]; exact hD3⟩
      · rintro σ H2 ⟨D, w4, rfl, s2, hD, hD2⟩
        have en : (((as.map V.ref).length : Int) - ((i : Int) + 1)).toNat = st.length - (i + 1) := by omega
        rw [en, Tw.joinIn_row] at hD2
        exact ⟨D, _, _, rfl, s2, hD, hD2⟩
    · rintro σ H1 ⟨D, v3, v4, rfl, s1, hD, hD1⟩
      have en : ((as.map V.ref).length : Int).toNat = st.length := by omega
      rw [en, Tw.joinIn_all] at hD1
      exact ⟨_, rfl, k D H1 hD s1 hD1⟩
/-! ### goes_on_behind -/
def spGoesOn (CI CS : Addr) : Sp := fun vs H Q _ => ∃ (p a : Addr) (z : Spn) (x : Ins), vs = [.ref p, .ref a] ∧ SpnAt CI CS H p z ∧ InsAt CI H a x ∧ SmallS z ∧ Small x ∧ Q (.bl (Tw.goesOn z x)) H
theorem scGoesOn : FnScope ["span", "instant"] ["span", "instant"] (defScope sGoesOn) := ⟨rfl, rfl, rfl, by decide +kernel, rfl, by decide +kernel, by decide +kernel⟩
theorem ok_goesOn (TS : ClsS K mg CS) (F : Fn K mg "goes_on_behind" sGoesOn ["span", "instant"]) (GC : Ok P w K mg base 4 "compared" ["one", "other"] (spCompared CI)) :
    Ok P w K mg base 5 "goes_on_behind" ["span", "instant"] (spGoesOn CI CS) := by
  refine F.ok scGoesOn (fun vs H Q E h => ?_) (fun f cdv A outer s H vs Q E hr h => ?_)
  · obtain ⟨p, a, z, x, rfl, _⟩ := h
    rfl
  · obtain ⟨p, a, z, x, rfl, ⟨dx, af, lv, hp, ifr, il⟩, ix, sz, sx, k⟩ := h
    refine ⟨_, pss_cons (ps_if (pt_cmpR op_gt (pe_callO GC hr rfl (pa_cons (pe_fld (pv 0) rfl) (pa_cons (pv 1) pa_nil))) pe_int (nomark _)) (pss_one (ps_ret pe_bl)) pss_nil) <|
      pss_one (ps_ret (pe_or (pe_cmp (pc_isN (pe_fld (pv 0) rfl))) (pe_one (pe_cmpR op_gt (pe_callO GC hr rfl (pa_cons (pe_fld (pv 0) rfl) (pa_cons (pv 1) pa_nil))) pe_int (nomark _))))), ?_⟩
    unfold Tw.goesOn at k
    refine ⟨_, rfl, p, CS, dx, _, _, rfl, hp, TS.cl, TS.nF, fS_f _ _ _, _, rfl, af, a, _, _, rfl, ifr, ix, sz.fr, sx, _, _, rfl, rfl, _, rfl, ite2 (fun h => ?_) (fun h => ?_)⟩
    · have h : 0 < Tw.cmp z.fr x := of_decide_eq_true h
      rw [if_pos h] at k
      exact k
    · have h : ¬ 0 < Tw.cmp z.fr x := fun q => h (decide_eq_true q)
      rw [if_neg h] at k
      refine ⟨_, rfl, p, CS, dx, _, _, rfl, hp, TS.cl, TS.nL, fS_l _ _ _, _, rfl, ?_⟩
      cases et : z.to with
      | none =>
        rw [et] at il k
        have el : lv = .non := il
        subst el
        exact ite2 (fun _ => k) (fun h => absurd rfl h)
      | some t =>
        rw [et] at il k
        obtain ⟨al, rfl, it⟩ := il
        refine ite2 (fun h => absurd (of_decide_eq_true h) (by intro z; cases z)) (fun _ => ?_)
        exact ⟨_, rfl, p, CS, dx, _, _, rfl, hp, TS.cl, TS.nL, fS_l _ _ _, _, rfl, al, a, _, _, rfl, it, ix, sz.to t et, sx, _, _, rfl, rfl, k⟩
end
/-! ### meetings in a list -/
structure MsAt (C : Ad) (H : Hp) (m : Addr) (ts : List Addr) (L : List Meet) : Prop where
  lst : H m = some (.lst (ts.map V.ref))
  al : Al (MeetAt C H) ts L
  gp : ∀ y ∈ L, Gp y
  len : L.length ≤ 64
theorem MsAt.mono {C : Ad} {H H' : Hp} {m : Addr} {ts : List Addr} {L : List Meet} (h : MsAt C H m ts L) (z : Same H H') : MsAt C H' m ts L := ⟨z _ _ h.lst, h.al.mono fun _ _ q => q.mono z, h.gp, h.len⟩
theorem Gp.sp {m : Meet} (h : Gp m) : SmallS (Tw.conv m.span) := by
  refine ⟨h.s, fun t e => ?_⟩
  have e : m.span.to_.map Tw.ins = some t := e
  cases et : m.span.to_ with
  | none =>
    rw [et] at e
    cases e
  | some u =>
    rw [et] at e
    cases e
    exact h.t u et
section
variable {P : Program} {w : World} {K : PySem.W.Frag} {mg : Str → Option Value} {base : Heap} {CI CS CB CM : Addr}
/-! ### count_behind -/
def spCountB (C : Ad) : Sp := fun vs H Q _ => ∃ (m a : Addr) (ts : List Addr) (L : List Meet) (t : Sy38.Inst), vs = [.ref m, .ref a] ∧ MsAt C H m ts L ∧ InsAt C.I H a (Tw.ins t) ∧ Small (Tw.ins t) ∧ ∀ H', Same H H' → Q (.int ((Sy38.just L t : Nat) : Int)) H'
theorem scCountB : FnScope ["meetings", "instant", "meeting"] ["meetings", "instant"] (defScope sCountB) := ⟨rfl, rfl, rfl, by decide +kernel, rfl, by decide +kernel, by decide +kernel⟩
theorem ok_countB (hL : mg "len" = none) (TM : ClsM K mg CM) (F : Fn K mg "count_behind" sCountB ["meetings", "instant"]) (GG : Ok P w K mg base 5 "goes_on_behind" ["span", "instant"] (spGoesOn CI CS)) :
    Ok P w K mg base 6 "count_behind" ["meetings", "instant"] (spCountB ⟨CI, CS, CM⟩) := by
  refine F.ok scCountB (fun vs H Q E h => ?_) (fun f cdv A outer s H vs Q E hr h => ?_)
  · obtain ⟨m, a, ts, L, t, rfl, _⟩ := h
    rfl
  · obtain ⟨m, a, ts, L, t, rfl, ms, ia, sa, k⟩ := h
    have okB : BlkOk ["meetings", "instant", "meeting"] (defScope sCountB) { kind := .function, names := [(".0", .local), ("meeting", .local), ("goes_on_behind", .globalImplicit), ("instant", .free)], isGenerator := false, isCoroutine := false, more := [] } [("meeting", 2)] := blkOk_by (by decide +kernel)
    refine ⟨_, pss_one (ps_ret (pe_callB call_len_seq (by rfl) hL PySem.boot_len (pa_cons (pe_lc (own := [("meeting", 2)]) (tt := tB (tCall (spGoesOn CI CS) [] E0 (tCons (tFld K (tVar 2) "span") (tCons (tVar 1) tNil)))) (te := tVar 2) rfl scCountB.nd (pi_list (pv 0)) okB (fun _ _ _ _ _ => pg_name (i := 2) scCountB.nd rfl (Or.inl rfl))
      (fun _ _ _ _ _ => pts_one (pt_val (pe_callO GG hr rfl (pa_cons (pe_fld (pv 2) rfl) (pa_cons (pv 1) pa_nil))))) (fun _ _ _ _ _ => pv 2)) pa_nil))), ?_⟩
    refine ⟨_, rfl, m, rfl, ⟨_, SqL.of ms.lst⟩, fun D hD => ?_⟩
    have lts : (ts.map V.ref).length = L.length := by rw [List.length_map, ms.al.1]
    have big : (64 : Nat) < sizeLine := by decide
    refine lc_list (K := K) (a := m) (xs := ts.map V.ref) (fun i H' => Same H H' ∧ ∃ acc : List V, H' D = some (.lst acc) ∧ acc.length = ((L.take i).filter (Tw.justP t)).length) ⟨same_new hD, [], upd_same, rfl⟩ (fun i H' _ z => SqL.of (z.1 _ _ ms.lst)) ?_ ?_
    · rintro i z H' hi ⟨s1, acc, hD1, ha⟩
      obtain ⟨o, ho, rfl⟩ := map_ref hi
      obtain ⟨x, hx, dx, p, hox, zx⟩ := ms.al.get' ho
      have gx := ms.gp x (List.mem_of_getElem? hx)
      have hil : i < L.length := (List.getElem?_eq_some_iff.mp hx).1
      have hlen : acc.length ≤ 64 := by
        rw [ha]
        refine Nat.le_trans (List.length_filter_le _ _) ?_
        rw [List.length_take]
        have := ms.len
        omega
      have fs : (L.take (i + 1)).filter (Tw.justP t) = (L.take i).filter (Tw.justP t) ++ [x].filter (Tw.justP t) := by rw [take_snoc hx, List.filter_append]
      refine ⟨rfl, ?_⟩
      refine ⟨_, rfl, o, CM, dx, _, _, rfl, s1 _ _ hox, TM.cl, TM.nS, fM_s _ _ _, _, rfl, p, a, _, _, rfl, zx.mono s1, ia.mono s1, gx.sp, sa, _, rfl, ite2 (fun h => ?_) (fun h => ?_)⟩
      · have h : Tw.justP t x = true := h
        refine ⟨_, rfl, acc, hD1, by omega, fun c o e => ?_, acc ++ [V.ref _], upd_same, ?_⟩
        · rw [upd_ne (ne_of_none e hD)]
          exact s1 _ _ e
        · rw [fs, List.length_append, List.length_append, ha, List.filter_cons, if_pos h]
          rfl
      · have h : ¬ Tw.justP t x = true := h
        refine ⟨s1, acc, hD1, ?_⟩
        rw [fs, List.length_append, ha, List.filter_cons, if_neg h]
        rfl
    · rintro H1 ⟨s1, acc, hD1, ha⟩
      rw [lts, List.take_length, ← Tw.just_eq] at ha
      refine ⟨D, acc, rfl, .inl (SqL.of hD1), ?_⟩
      have := k H1 s1
      rw [← ha] at this
      exact this
/-! ### first_of_most -/
def BestAt (C : Addr) (H : Hp) (v : V) : Option Sy38.Inst → Prop
  | none => v = .non
  | some t => ∃ a, v = .ref a ∧ InsAt C H a (Tw.ins t)
theorem BestAt.mono {C : Addr} {H H' : Hp} {v : V} {o : Option Sy38.Inst} (h : BestAt C H v o) (s : Same H H') : BestAt C H' v o := by
  cases o with
  | none => exact h
  | some t =>
    obtain ⟨a, e, i⟩ := h
    exact ⟨a, e, i.mono s⟩
def spFirstM (C : Ad) : Sp := fun vs H Q _ => ∃ (m : Addr) (ts : List Addr) (L : List Meet), vs = [.ref m] ∧ MsAt C H m ts L ∧ ∀ (v : V) (H' : Hp), Same H H' → BestAt C.I H' v (Tw.mostIn L L.length).2 → Q v H'
theorem scFirstM : FnScope ["meetings", "best", "most", "meeting", "count"] ["meetings"] (defScope sFirstM) := ⟨rfl, rfl, rfl, by decide +kernel, rfl, by decide +kernel, by decide +kernel⟩
theorem ok_firstM (TS : ClsS K mg CS) (TM : ClsM K mg CM) (F : Fn K mg "first_of_most" sFirstM ["meetings"]) (GC : Ok P w K mg base 6 "count_behind" ["meetings", "instant"] (spCountB ⟨CI, CS, CM⟩)) :
    Ok P w K mg base 7 "first_of_most" ["meetings"] (spFirstM ⟨CI, CS, CM⟩) := by
  refine F.ok scFirstM (fun vs H Q E h => ?_) (fun f cdv A outer s H vs Q E hr h => ?_)
  · obtain ⟨m, ts, L, rfl, _⟩ := h
    rfl
  · obtain ⟨m, ts, L, rfl, ms, k⟩ := h
    refine ⟨_, pss_cons (ps_set (i := 1) scFirstM.nd rfl (Or.inl rfl) pe_non) <|
      pss_cons (ps_set (i := 2) scFirstM.nd rfl (Or.inl rfl) pe_int) <|
      pss_cons (ps_for PassesOwn.never rfl (pi_list (pv 0)) (pg_name (i := 3) scFirstM.nd rfl (Or.inl rfl))
        (pss_cons (ps_set (i := 4) scFirstM.nd rfl (Or.inl rfl) (pe_callO GC hr rfl (pa_cons (pv 0) (pa_cons (pe_fld (pe_fld (pv 3) rfl) rfl) pa_nil)))) <|
          pss_one (ps_if (pt_cmpR op_gt (pv 4) (pv 2) (nomark _)) (pss_cons (ps_set (i := 2) scFirstM.nd rfl (Or.inl rfl) (pv 4)) <| pss_one (ps_set (i := 1) scFirstM.nd rfl (Or.inl rfl) (pe_fld (pe_fld (pv 3) rfl) rfl))) pss_nil))) <|
      pss_one (ps_ret (pv 1)), ?_⟩
    have lts : (ts.map V.ref).length = L.length := by rw [List.length_map, ms.al.1]
    refine ⟨_, rfl, m, rfl, ⟨_, SqL.of ms.lst⟩, for_list (K := K) (a := m) (xs := ts.map V.ref) (fun i σ H' => ∃ (vb : V) (v3 v4 : Option V), σ = [some (.ref m), some vb, some (.int (((Tw.mostIn L i).1 : Nat) : Int)), v3, v4] ∧ Same H H' ∧ BestAt CI H' vb (Tw.mostIn L i).2)
      ⟨.non, none, none, rfl, Same.refl H, rfl⟩ (fun i σ H' _ ⟨_, _, _, _, s3, _⟩ => SqL.of (s3 _ _ ms.lst)) ?_ ?_⟩
    · rintro i y σ H3 hi ⟨vb, v3, v4, rfl, s3, bb⟩
      obtain ⟨o, ho, rfl⟩ := map_ref hi
      obtain ⟨x, hx, dx, p, hox, ds, af, lv, hp, ifr, _⟩ := ms.al.get' ho
      have gx := ms.gp x (List.mem_of_getElem? hx)
      have stp := Tw.mostIn_succ hx
      unfold Tw.mostStep at stp
      refine ⟨_, rfl, _, rfl, o, CM, dx, _, _, rfl, s3 _ _ hox, TM.cl, TM.nS, fM_s _ _ _, p, CS, ds, _, _, rfl, s3 _ _ hp, TS.cl, TS.nF, fS_f _ _ _, m, af, ts, L, x.span.from_, rfl, ms.mono s3, ifr.mono s3, gx.s, fun H4 s4 => ?_⟩
      have s34 := s3.trans s4
      refine ⟨_, rfl, _, rfl, _, _, rfl, rfl, _, rfl, ite2 (fun h => ?_) (fun h => ?_)⟩
      · have h : (((Tw.mostIn L i).1 : Nat) : Int) < ((Sy38.just L x.span.from_ : Nat) : Int) := of_decide_eq_true h
        rw [if_pos (by omega)] at stp
        refine ⟨_, rfl, _, rfl, o, CM, dx, _, _, rfl, s34 _ _ hox, TM.cl, TM.nS, fM_s _ _ _, p, CS, ds, _, _, rfl, s34 _ _ hp, TS.cl, TS.nF, fS_f _ _ _, ?_⟩
        rw [stp]
        exact ⟨_, _, _, rfl, s34, af, rfl, ifr.mono s34⟩
      · have h : ¬ (((Tw.mostIn L i).1 : Nat) : Int) < ((Sy38.just L x.span.from_ : Nat) : Int) := fun z => h (decide_eq_true z)
        rw [if_neg (by omega)] at stp
        rw [stp]
        exact ⟨_, _, _, rfl, s34, bb.mono s4⟩
    · rintro σ H3 ⟨vb, v3, v4, rfl, s3, bb⟩
      rw [lts] at bb
      exact ⟨_, rfl, k vb H3 s3 bb⟩
/-! ### is_free_between -/
def spFreeB (CI CB : Addr) : Sp := fun vs H Q _ => ∃ (a l f e : Addr) (as : List Addr) (s : Sy38.St) (j x y : Nat), vs = [.ref a, .ref l, .ref f, .ref e] ∧ BsAt CB H l as s ∧ SOk s ∧ as[j]? = some a ∧ InsAt CI H f (Tw.ins (Sy38.whole x)) ∧ InsAt CI H e (Tw.ins (Sy38.whole y)) ∧ x ≤ y ∧ y ≤ 100000 ∧
  ∀ H', Same H H' → Q (.bl (Sy38.free s j x y)) H'
theorem scFreeB : FnScope ["body", "bodies", "first", "last", "other", "span"] ["body", "bodies", "first", "last"] (defScope sFreeB) := ⟨rfl, rfl, rfl, by decide +kernel, rfl, by decide +kernel, by decide +kernel⟩
theorem ok_freeB (F : Fn K mg "is_free_between" sFreeB ["body", "bodies", "first", "last"]) (GN : Ok P w K mg base 1 "is_nearer" ["one", "other"] (spNearer CB)) (GM : Ok P w K mg base 6 "meeting_of" ["one", "other"] (spMeetingOf CI CS CB)) (GB : Ok P w K mg base 5 "has_instants_between" ["span", "first", "last"] (spBetween CI CS)) :
    Ok P w K mg base 7 "is_free_between" ["body", "bodies", "first", "last"] (spFreeB CI CB) := by
  refine F.ok scFreeB (fun vs H Q E h => ?_) (fun f cdv A outer s H vs Q E hr h => ?_)
  · obtain ⟨a, l, f, e, as, s, j, x, y, rfl, _⟩ := h
    rfl
  · obtain ⟨a, l, ff, el, as, st, j, x, y, rfl, bs, S, hj, i1, i2, hxy, hy, k⟩ := h
    refine ⟨_, pss_cons (ps_for PassesOwn.never rfl (pi_list (pv 1)) (pg_name (i := 4) scFreeB.nd rfl (Or.inl rfl))
        (pss_one (ps_if (pt_val (pe_callO GN (hr.mono (by decide)) rfl (pa_cons (pv 4) (pa_cons (pv 0) pa_nil))))
          (pss_cons (ps_set (i := 5) scFreeB.nd rfl (Or.inl rfl) (pe_callO GM hr rfl (pa_cons (pv 4) (pa_cons (pv 0) pa_nil)))) <|
            pss_one (ps_if (PW.pt (pw_and (pt_cmp (pc_notN (pv 5))) (pw_and1 (pt_val (pe_callO GB (hr.mono (by decide)) rfl (pa_cons (pv 5) (pa_cons (pv 2) (pa_cons (pv 3) pa_nil)))))))) (pss_one (ps_ret pe_bl)) pss_nil)) pss_nil))) <|
      pss_one (ps_ret pe_bl), ?_⟩
    obtain ⟨f, hf, bf⟩ := bs.al.get' hj
    have hjl : j < st.length := (List.getElem?_eq_some_iff.mp hf).1
    have gf : Sy38.bodyAt st j = f := Tw.bodyAt_get hf
    have of := S.ok _ (List.mem_of_getElem? hf)
    have lens : (as.map V.ref).length = st.length := by rw [List.length_map, bs.al.1]
    have sx : Small (Tw.ins (Sy38.whole x)) := by rw [Tw.ins_whole]; exact Tw.small_whole (by omega)
    have sy : Small (Tw.ins (Sy38.whole y)) := by rw [Tw.ins_whole]; exact Tw.small_whole (by omega)
    refine ⟨_, rfl, l, rfl, ⟨_, SqL.of bs.lst⟩, for_list (K := K) (a := l) (xs := as.map V.ref) (fun i σ H' => ∃ (v4 v5 : Option V), σ = [some (.ref a), some (.ref l), some (.ref ff), some (.ref el), v4, v5] ∧ Same H H' ∧ ∀ m, m < i → Tw.covers (Sy38.bodyAt st m) (Sy38.bodyAt st j) x y = false)
      ⟨none, none, rfl, Same.refl H, fun m hm => absurd hm (Nat.not_lt_zero m)⟩ (fun i σ H' _ ⟨_, _, _, s3, _⟩ => SqL.of (s3 _ _ bs.lst)) ?_ ?_⟩
    · rintro i z σ H3 hi ⟨v4, v5, rfl, s3, no⟩
      obtain ⟨o, ho, rfl⟩ := map_ref hi
      obtain ⟨e, he, be⟩ := bs.al.get' ho
      have hil : i < st.length := (List.getElem?_eq_some_iff.mp he).1
      have ge : Sy38.bodyAt st i = e := Tw.bodyAt_get he
      have oe := S.ok _ (List.mem_of_getElem? he)
      have nxt : Tw.covers e f x y = false → ∀ m, m < i + 1 → Tw.covers (Sy38.bodyAt st m) (Sy38.bodyAt st j) x y = false := fun hc m hm => by
        rcases Nat.lt_succ_iff_lt_or_eq.mp hm with z | z
        · exact no m z
        · rw [z, ge, gf]; exact hc
      refine ⟨_, rfl, _, rfl, o, a, e, f, rfl, be.mono s3, bf.mono s3, _, rfl, ite2 (fun h1 => ?_) (fun h1 => ?_)⟩
      · refine ⟨_, rfl, _, rfl, o, a, e, f, rfl, be.mono s3, bf.mono s3, oe, of, fun v H4 s4 rv => ?_⟩
        have s34 := s3.trans s4
        have cov : Tw.covers e f x y = (match Tw.meetOf e f with
          | none => false
          | some z => Tw.between z (Tw.ins (Sy38.whole x)) (Tw.ins (Sy38.whole y))) := by
          unfold Tw.covers
          rw [h1, Bool.true_and] <;> rfl
        cases em : Tw.meetOf e f with
        | none =>
          rw [em] at rv cov
          have ev : v = .non := rv
          subst ev
          refine ⟨_, rfl, _, rfl, ite2 (fun h => absurd h (by decide)) (fun _ => iteF ?_)⟩
          exact ⟨_, _, rfl, s34, nxt cov⟩
        | some z =>
          rw [em] at rv cov
          obtain ⟨q, rfl, zq⟩ := rv
          refine ⟨_, rfl, _, rfl, ite2 (fun _ => ?_) (fun h => absurd rfl h)⟩
          refine ⟨_, rfl, _, rfl, _, rfl, q, ff, el, z, _, _, rfl, zq, i1.mono s34, i2.mono s34, small_meetOf oe of em, sx, sy, _, rfl, ite2 (fun h2 => ?_) (fun h2 => ?_)⟩
          · have := k H4 s34
            rw [Tw.free_no S hil hjl hxy (by rw [ge, gf]; exact cov.trans h2)] at this
            exact this
          · exact ⟨_, _, rfl, s34, nxt (cov.trans (Bool.not_eq_true _ |>.mp h2))⟩
      · refine ⟨_, _, rfl, s3, nxt ?_⟩
        unfold Tw.covers
        rw [Bool.not_eq_true _ |>.mp h1]
        rfl
    · rintro σ H3 ⟨v4, v5, rfl, s3, no⟩
      rw [lens] at no
      have := k H3 s3
      rw [Tw.free_yes S hjl hxy no] at this
      exact this
end
end Sky

namespace Sky
open PySem PySem.Spec PyProof.Rows L2
open Tw (Ins Spn Small SmallS B BOk SOk Gm Sorted mcmp)
open Sy38 (Body Meet)
theorem nums_ints (l : List Nat) : nums l = (Sy38.ints l).map V.int := by
  unfold nums Sy38.ints
  rw [List.map_map]
  rfl
section
variable {P : Program} {w : World} {K : PySem.W.Frag} {mg : Str → Option Value} {base : Heap} {CI CS CB CM : Addr}
/-- a number, then a list with its count, put together -/
theorem cat_counted {H H1 : Hp} {Q : VK} {l1 l3 : Addr} {c : Int} {ws : List V} (h1 : H l1 = some (.lst [.int c])) (h3 : H l3 = some (.lst (.int (ws.length : Int) :: ws))) (hw : ws.length ≤ 1000)
    (k : ∀ p, H p = none → Q (.ref p) (upd H p (.lst (.int c :: .int (ws.length : Int) :: ws)))) : rCat (.ref l1) (.ref l3) H Q := by
  have big : (2000 : Nat) < sizeLine := by decide
  exact ⟨l1, l3, _, _, rfl, rfl, h1, h3, (by rw [List.length_cons, List.length_cons, List.length_nil]; omega), fun p hp => k p hp⟩
/-! ### answer_where -/
theorem scWhere : FnScope ["bodies", "handed"] ["bodies", "handed"] (defScope sWhere) := ⟨rfl, rfl, rfl, by decide +kernel, rfl, by decide +kernel, by decide +kernel⟩
theorem step_where (st : Sy38.St) (i t : Nat) : Sy38.step st (.where_ i t) = (st, if st.length ≤ i ∨ 100000 < t then Sy38.ok (-1) else ⟨0, [[Tw.midX (Sy38.bodyAt st i) (t : Int), Tw.midY (Sy38.bodyAt st i) (t : Int)]]⟩) := rfl
theorem ok_where (hL : mg "len" = none) (T : Cst mg) (F : Fn K mg "answer_where" sWhere ["bodies", "handed"]) (GM : Ok P w K mg base 1 "middle_at" ["body", "instant"] (spMiddle CB)) (GN : Ok P w K mg base 1 "counted" ["numbers"] spCounted) :
    Ok P w K mg base 2 "answer_where" ["bodies", "handed"] (spAct CB 2 fun ns => .where_ (ns.getD 0 0) (ns.getD 1 0)) := by
  obtain ⟨t1, c1⟩ := T.wrong
  obtain ⟨t2, c2⟩ := T.instant
  refine F.ok scWhere (fun vs H Q E h => ?_) (fun f cdv A outer s H vs Q E hr h => ?_)
  · obtain ⟨l, h, as, s, ns, rfl, _⟩ := h
    rfl
  · obtain ⟨l, ah, as, st, ns, rfl, bs, S, hh, hn, k⟩ := h
    obtain ⟨i, t, rfl⟩ : ∃ i t, ns = [i, t] := by
      match ns, hn with
      | [i, j], _ => exact ⟨i, j, rfl⟩
    refine ⟨_, pss_cons (ps_if (PW.pt (pw_or (pt_cmpR op_ge (pe_ix ix_list (pv 1) pe_int (fun _ _ => rfl)) (pe_callB call_len_seq (by rfl) hL PySem.boot_len (pa_cons (pv 0) pa_nil)) (nomark _)) (pw_or1 (pt_cmpR op_gt (pe_ix ix_list (pv 1) pe_int (fun _ _ => rfl)) (pe_num rfl c2) (nomark _))))) (pss_one (ps_ret (pe_lst (pa_cons (pe_num rfl c1) pa_nil)))) pss_nil) <|
      pss_one (ps_ret (pe_op op_cat (pe_lst (pa_cons pe_int pa_nil)) (pe_callO GN hr rfl (pa_cons (pe_callO GM hr rfl (pa_cons (pe_ix ix_list (pv 0) (pe_ix ix_list (pv 1) pe_int (fun _ _ => rfl)) (fun _ _ => rfl)) (pa_cons (pe_ix ix_list (pv 1) pe_int (fun _ _ => rfl)) pa_nil))) pa_nil)))), ?_⟩
    have lens : (as.map V.ref).length = st.length := by rw [List.length_map, bs.al.1]
    have k' : ∀ (p : Addr) (as' : List Addr) (H' : Hp), H p = none → H' p = some (.lst ((Sy38Neutral.out (Sy38.step st (.where_ i t)).2).map V.int)) → BsAt CB H' l as' (Sy38.step st (.where_ i t)).1 → Keep l H H' → Q (.ref p) H' := k
    rw [step_where] at k'
    have no : st.length ≤ i ∨ 100000 < t → 1 ≤ sizeLine ∧ ∀ p, H p = none → Q (.ref p) (upd H p (.lst [.int (-1)])) := fun z => by
      rw [if_pos z] at k'
      exact ⟨by decide, fun p hp => act_ok1 bs rfl rfl k' p hp⟩
    refine ⟨_, rfl, ah, _, _, _, rfl, rfl, SqL.of hh, at_of (j := 0) (v := V.int (i : Int)) rfl rfl, _, rfl, l, _, rfl, .inl (SqL.of bs.lst), _, _, rfl, rfl, _, rfl, ite2 (fun h1 => iteT ?_) (fun h1 => ⟨_, rfl, ah, _, _, _, rfl, rfl, SqL.of hh, at_of (j := 1) (v := V.int (t : Int)) rfl rfl, _, _, rfl, rfl, _, rfl, ite2 (fun h2 => ?_) (fun h2 => ?_)⟩)⟩
    · have h1 : ((as.map V.ref).length : Int) ≤ (i : Int) := of_decide_eq_true h1
      exact no (.inl (by omega))
    · have h2 : (100000 : Int) < (t : Int) := of_decide_eq_true h2
      exact no (.inr (by omega))
    · have h1 : ¬ ((as.map V.ref).length : Int) ≤ (i : Int) := fun z => h1 (decide_eq_true z)
      have h2 : ¬ (100000 : Int) < (t : Int) := fun z => h2 (decide_eq_true z)
      have hi : i < st.length := by omega
      rw [if_neg (by omega)] at k'
      obtain ⟨aa, ha, ba⟩ := bs.al.get (List.getElem?_eq_getElem hi)
      have ge : Sy38.bodyAt st i = st[i] := Tw.bodyAt_get (List.getElem?_eq_getElem hi)
      rw [ge] at k'
      refine ⟨(by show 1 ≤ sizeLine; decide), fun l1 n1 => ?_⟩
      have s1 := same_new (o := .lst [V.int 0]) n1
      refine ⟨_, rfl, _, rfl, ah, _, _, _, rfl, rfl, SqL.of (s1 _ _ hh), at_of (j := 0) (v := V.int (i : Int)) rfl rfl, l, _, _, _, rfl, rfl, SqL.of (s1 _ _ bs.lst), at_of (j := i) (v := V.ref aa) rfl (by rw [List.getElem?_map, ha]; rfl), _, rfl, ah, _, _, _, rfl, rfl, SqL.of (s1 _ _ hh), at_of (j := 1) (v := V.int (t : Int)) rfl rfl,
        aa, st[i], t, rfl, ba.mono s1, S.ok _ (List.getElem_mem hi), by omega, fun l2 n2 => ?_⟩
      have s2 := same_new (o := .lst [V.int (Tw.midX st[i] (t : Int)), V.int (Tw.midY st[i] (t : Int))]) n2
      refine ⟨l2, _, rfl, upd_same, (by show 2 < 2000000; decide), fun l3 H3 n3 s3 e3 => ?_⟩
      have s13 := (s1.trans s2).trans s3
      refine cat_counted (H1 := H) (s3 _ _ (s2 _ _ upd_same)) e3 (by show 2 ≤ 1000; decide) fun p hp => ?_
      have sall := s13.trans (same_new (o := .lst (V.int 0 :: V.int (([V.int (Tw.midX st[i] (t : Int)), V.int (Tw.midY st[i] (t : Int))] : List V).length : Int) :: [V.int (Tw.midX st[i] (t : Int)), V.int (Tw.midY st[i] (t : Int))])) hp)
      exact k' p as _ (s13.free hp) upd_same (bs.mono sall) (keep_same sall l)
/-! ### answer_joined -/
theorem scJoined : FnScope ["bodies", "handed", "leasts"] ["bodies", "handed"] (defScope sJoined) := ⟨rfl, rfl, rfl, by decide +kernel, rfl, by decide +kernel, by decide +kernel⟩
theorem step_joined (st : Sy38.St) (t : Nat) : Sy38.step st (.joined t) = (st, if 100000 < t then Sy38.ok (-1) else ⟨((Sy38.joined st t).eraseDups.length : Nat), [Sy38.ints (Sy38.joined st t)]⟩) := rfl
theorem ok_joined (hL : mg "len" = none) (hS : mg "set" = none) (T : Cst mg) (F : Fn K mg "answer_joined" sJoined ["bodies", "handed"]) (GG : Ok P w K mg base 4 "groups_at" ["bodies", "instant"] (spGroups CB)) (GN : Ok P w K mg base 1 "counted" ["numbers"] spCounted) :
    Ok P w K mg base 5 "answer_joined" ["bodies", "handed"] (spAct CB 1 fun ns => .joined (ns.getD 0 0)) := by
  obtain ⟨t1, c1⟩ := T.wrong
  obtain ⟨t2, c2⟩ := T.instant
  refine F.ok scJoined (fun vs H Q E h => ?_) (fun f cdv A outer s H vs Q E hr h => ?_)
  · obtain ⟨l, h, as, s, ns, rfl, _⟩ := h
    rfl
  · obtain ⟨l, ah, as, st, ns, rfl, bs, S, hh, hn, k⟩ := h
    obtain ⟨t, rfl⟩ : ∃ x, ns = [x] := List.length_eq_one_iff.mp hn
    refine ⟨_, pss_cons (ps_if (pt_cmpR op_gt (pe_ix ix_list (pv 1) pe_int (fun _ _ => rfl)) (pe_num rfl c2) (nomark _)) (pss_one (ps_ret (pe_lst (pa_cons (pe_num rfl c1) pa_nil)))) pss_nil) <|
      pss_cons (ps_set (i := 2) scJoined.nd rfl (Or.inl rfl) (pe_callO GG hr rfl (pa_cons (pv 0) (pa_cons (pe_ix ix_list (pv 1) pe_int (fun _ _ => rfl)) pa_nil)))) <|
      pss_one (ps_ret (pe_op op_cat (pe_lst (pa_cons (pe_callB call_lenS (by rfl) hL PySem.boot_len (pa_cons (pe_callTy (call_set_of rfl) (by rfl) hS boot_set9 (pa_cons (pv 2) pa_nil)) pa_nil)) pa_nil)) (pe_callO GN (hr.mono (by decide)) rfl (pa_cons (pv 2) pa_nil)))), ?_⟩
    have k' : ∀ (p : Addr) (as' : List Addr) (H' : Hp), H p = none → H' p = some (.lst ((Sy38Neutral.out (Sy38.step st (.joined t)).2).map V.int)) → BsAt CB H' l as' (Sy38.step st (.joined t)).1 → Keep l H H' → Q (.ref p) H' := k
    rw [step_joined] at k'
    have L8 := S.len
    refine ⟨_, rfl, ah, _, _, _, rfl, rfl, SqL.of hh, at_of (j := 0) (v := V.int (t : Int)) rfl rfl, _, _, rfl, rfl, _, rfl, ite2 (fun h1 => ?_) (fun h1 => ?_)⟩
    · have h1 : (100000 : Int) < (t : Int) := of_decide_eq_true h1
      rw [if_pos (by omega)] at k'
      exact ⟨(by show 1 ≤ sizeLine; decide), fun p hp => act_ok1 bs rfl rfl k' p hp⟩
    · have h1 : ¬ (100000 : Int) < (t : Int) := fun z => h1 (decide_eq_true z)
      rw [if_neg (by omega)] at k'
      refine ⟨_, rfl, _, rfl, ah, _, _, _, rfl, rfl, SqL.of hh, at_of (j := 0) (v := V.int (t : Int)) rfl rfl, l, as, st, t, rfl, bs, S, by omega, fun D H1 hD s1 hD1 => ?_⟩
      have jl : (Sy38.joined st t).length = st.length := by
        rw [← Tw.joinIn_all]
        exact Tw.joinIn_length _ _ _ _
      have dl := Tw.dups_len (Sy38.joined st t)
      generalize Sy38.joined st t = J at *
      rw [nums_ints] at hD1
      have il : (Sy38.ints J).length = J.length := List.length_map _
      refine ⟨_, rfl, D, Sy38.ints J, rfl, hD1, by omega, fun se Sf hse => ?_⟩
      have s2 := same_new (o := .set Sf ((Sy38.ints J).foldl Tw.dd []).length) hse
      refine ⟨se, _, _, rfl, upd_same, (by show 1 ≤ sizeLine; decide), fun l1 n1 => ?_⟩
      have s3 := same_new (o := .lst [V.int ((((Sy38.ints J).foldl Tw.dd []).length : Nat) : Int)]) n1
      have s23 := s2.trans s3
      refine ⟨_, rfl, D, _, rfl, s23 _ _ hD1, (by rw [List.length_map]; omega), fun l3 H3 n3 s4 e3 => ?_⟩
      have s14 := (s1.trans s23).trans s4
      refine cat_counted (H1 := H) (s4 _ _ upd_same) e3 (by rw [List.length_map]; omega) fun p hp => ?_
      have sall := s14.trans (same_new (o := .lst (V.int ((((Sy38.ints J).foldl Tw.dd []).length : Nat) : Int) :: V.int (((Sy38.ints J).map V.int).length : Int) :: (Sy38.ints J).map V.int)) hp)
      refine k' p as _ (s14.free hp) ?_ (bs.mono sall) (keep_same sall l)
      rw [upd_same, dl, List.length_map]
      show _ = some (HO.lst ((_ :: _ :: (Sy38.ints J ++ [])).map V.int))
      rw [List.append_nil]
      rfl
/-! ### answer_seen -/
theorem scSeen : FnScope ["bodies", "handed", "views", "body"] ["bodies", "handed"] (defScope sSeen) := ⟨rfl, rfl, rfl, by decide +kernel, rfl, by decide +kernel, by decide +kernel⟩
theorem step_seen (st : Sy38.St) (t : Nat) : Sy38.step st (.seen t) = (st, if 100000 < t then Sy38.ok (-1) else ⟨(((List.range st.length).filter fun (j : Nat) => Sy38.seen st t j == 0).length : Nat), [Sy38.ints ((List.range st.length).map (Sy38.seen st t))]⟩) := rfl
theorem range_get {n i : Nat} (h : i < n) : (List.range n)[i]? = some i := by
  rw [List.getElem?_range h]
theorem ok_seen (T : Cst mg) (F : Fn K mg "answer_seen" sSeen ["bodies", "handed"]) (GV : Ok P w K mg base 4 "view_of" ["body", "bodies", "instant"] (spView CB)) (GN : Ok P w K mg base 1 "counted" ["numbers"] spCounted) :
    Ok P w K mg base 5 "answer_seen" ["bodies", "handed"] (spAct CB 1 fun ns => .seen (ns.getD 0 0)) := by
  obtain ⟨t1, c1⟩ := T.wrong
  obtain ⟨t2, c2⟩ := T.instant
  refine F.ok scSeen (fun vs H Q E h => ?_) (fun f cdv A outer s H vs Q E hr h => ?_)
  · obtain ⟨l, h, as, s, ns, rfl, _⟩ := h
    rfl
  · obtain ⟨l, ah, as, st, ns, rfl, bs, S, hh, hn, k⟩ := h
    obtain ⟨t, rfl⟩ : ∃ x, ns = [x] := List.length_eq_one_iff.mp hn
    have okB : BlkOk ["bodies", "handed", "views", "body"] (defScope sSeen) { kind := .function, names := [(".0", .local), ("body", .local), ("view_of", .globalImplicit), ("bodies", .free), ("handed", .free)], isGenerator := false, isCoroutine := false, more := [] } [("body", 3)] := blkOk_by (by decide +kernel)
    refine ⟨_, pss_cons (ps_if (pt_cmpR op_gt (pe_ix ix_list (pv 1) pe_int (fun _ _ => rfl)) (pe_num rfl c2) (nomark _)) (pss_one (ps_ret (pe_lst (pa_cons (pe_num rfl c1) pa_nil)))) pss_nil) <|
      pss_cons (ps_setLc (i := 2) (own := [("body", 3)]) (te := tCall (spView CB) [] E0 (tCons (tVar 3) (tCons (tVar 0) (tCons (tOp (rIxL K) (tVar 1) (tC (.int 0))) tNil)))) rfl scSeen.nd rfl rfl (sw_true rfl rfl rfl rfl) (pi_list (pv 0)) okB (fun _ _ _ _ _ => pg_name (i := 3) scSeen.nd rfl (Or.inl rfl)) (fun _ _ _ _ _ => pts_nil)
        (fun _ _ _ _ _ => pe_callO GV hr rfl (pa_cons (pv 3) (pa_cons (pv 0) (pa_cons (pe_ix ix_list (pv 1) pe_int (fun _ _ => rfl)) pa_nil))))) <|
      pss_one (ps_ret (pe_op op_cat (pe_lst (pa_cons (pe_bm PySem.F.plainAttrs_list PySem.F.slot_list_count PySem.F.type_list_count mt_countI (pv 2) (pa_cons pe_int pa_nil)) pa_nil)) (pe_callO GN (hr.mono (by decide)) rfl (pa_cons (pv 2) pa_nil)))), ?_⟩
    have k' : ∀ (p : Addr) (as' : List Addr) (H' : Hp), H p = none → H' p = some (.lst ((Sy38Neutral.out (Sy38.step st (.seen t)).2).map V.int)) → BsAt CB H' l as' (Sy38.step st (.seen t)).1 → Keep l H H' → Q (.ref p) H' := k
    rw [step_seen] at k'
    have L8 := S.len
    have lens : (as.map V.ref).length = st.length := by rw [List.length_map, bs.al.1]
    refine ⟨_, rfl, ah, _, _, _, rfl, rfl, SqL.of hh, at_of (j := 0) (v := V.int (t : Int)) rfl rfl, _, _, rfl, rfl, _, rfl, ite2 (fun h1 => ?_) (fun h1 => ?_)⟩
    · have h1 : (100000 : Int) < (t : Int) := of_decide_eq_true h1
      rw [if_pos (by omega)] at k'
      exact ⟨(by show 1 ≤ sizeLine; decide), fun p hp => act_ok1 bs rfl rfl k' p hp⟩
    · have h1 : ¬ (100000 : Int) < (t : Int) := fun z => h1 (decide_eq_true z)
      rw [if_neg (by omega), Tw.count_seen] at k'
      have big : (1000 : Nat) < sizeLine := by decide
      refine ⟨_, rfl, l, rfl, ⟨_, SqL.of bs.lst⟩, fun D hD => ?_⟩
      refine lc_list (K := K) (a := l) (xs := as.map V.ref) (fun i H' => Same H H' ∧ H' D = some (.lst (nums (((List.range st.length).take i).map (Sy38.seen st t))))) ⟨same_new hD, upd_same⟩ (fun i H' _ z => SqL.of (z.1 _ _ bs.lst)) ?_ ?_
      · rintro i z H' hi ⟨s1, hD1⟩
        obtain ⟨o, ho, rfl⟩ := map_ref hi
        have hil : i < st.length := by
          have := (List.getElem?_eq_some_iff.mp ho).1
          have := bs.al.1
          omega
        refine ⟨rfl, ?_⟩
        unfold tYes
        dsimp only
        rw [if_pos rfl]
        refine ⟨_, rfl, _, rfl, _, rfl, ah, _, _, _, rfl, rfl, SqL.of (s1 _ _ hh), at_of (j := 0) (v := V.int (t : Int)) rfl rfl, o, l, as, st, i, t, rfl, bs.mono s1, S, ho, by omega, fun H2 s2 => ?_⟩
        refine ⟨_, s2 _ _ hD1, ?_, fun c o e => ?_, ?_⟩
        · rw [nums_len, List.length_map, List.length_take, List.length_range]
          omega
        · rw [upd_ne (ne_of_none e hD)]
          exact s2 _ _ (s1 _ _ e)
        · rw [upd_same, take_snoc (range_get hil), List.map_append]
          unfold nums
          rw [List.map_append]
          rfl
      · rintro H1 ⟨s1, hD1⟩
        rw [lens, List.take_of_length_le (by rw [List.length_range]; exact Nat.le_refl _)] at hD1
        have jl : ((List.range st.length).map (Sy38.seen st t)).length = st.length := by rw [List.length_map, List.length_range]
        generalize (List.range st.length).map (Sy38.seen st t) = J at *
        rw [nums_ints] at hD1
        have il : (Sy38.ints J).length = J.length := List.length_map _
        refine ⟨_, rfl, .inl ⟨rfl, _, SqL.of hD1⟩, D, Sy38.ints J, 0, rfl, rfl, hD1, (by show 1 ≤ sizeLine; decide), fun l1 n1 => ?_⟩
        have s3 := same_new (o := .lst [V.int (((Sy38.ints J).count 0 : Nat) : Int)]) n1
        refine ⟨_, rfl, D, _, rfl, s3 _ _ hD1, (by rw [List.length_map]; omega), fun l3 H3 n3 s4 e3 => ?_⟩
        have s14 := (s1.trans s3).trans s4
        refine cat_counted (H1 := H) (s4 _ _ upd_same) e3 (by rw [List.length_map]; omega) fun p hp => ?_
        have sall := s14.trans (same_new (o := .lst (V.int (((Sy38.ints J).count 0 : Nat) : Int) :: V.int (((Sy38.ints J).map V.int).length : Int) :: (Sy38.ints J).map V.int)) hp)
        refine k' p as _ (s14.free hp) ?_ (bs.mono sall) (keep_same sall l)
        rw [upd_same, List.length_map]
        show _ = some (HO.lst ((_ :: _ :: (Sy38.ints J ++ [])).map V.int))
        rw [List.append_nil]
        rfl
/-! ### answer_free -/
theorem scFree : FnScope ["bodies", "handed", "first", "last"] ["bodies", "handed"] (defScope sFree) := ⟨rfl, rfl, rfl, by decide +kernel, rfl, by decide +kernel, by decide +kernel⟩
theorem step_free (st : Sy38.St) (j a b : Nat) : Sy38.step st (.free j a b) = (st, if st.length ≤ j ∨ 100000 < b ∨ b < a then Sy38.ok (-1) else Sy38.ok (if Sy38.free st j a b = true then 1 else 0)) := rfl
theorem ok_free (hL : mg "len" = none) (T : Cst mg) (F : Fn K mg "answer_free" sFree ["bodies", "handed"]) (GW : Ok P w K mg base 3 "whole_instant" ["number"] (spWholeI CI)) (GF : Ok P w K mg base 7 "is_free_between" ["body", "bodies", "first", "last"] (spFreeB CI CB)) :
    Ok P w K mg base 8 "answer_free" ["bodies", "handed"] (spAct CB 3 fun ns => .free (ns.getD 0 0) (ns.getD 1 0) (ns.getD 2 0)) := by
  obtain ⟨t1, c1⟩ := T.wrong
  obtain ⟨t2, c2⟩ := T.instant
  refine F.ok scFree (fun vs H Q E h => ?_) (fun f cdv A outer s H vs Q E hr h => ?_)
  · obtain ⟨l, h, as, s, ns, rfl, _⟩ := h
    rfl
  · obtain ⟨l, ah, as, st, ns, rfl, bs, S, hh, hn, k⟩ := h
    obtain ⟨j, x, y, rfl⟩ : ∃ i t u, ns = [i, t, u] := by
      match ns, hn with
      | [i, j, m], _ => exact ⟨i, j, m, rfl⟩
    refine ⟨_, pss_cons (ps_if (PW.pt (pw_or (pt_cmpR op_ge (pe_ix ix_list (pv 1) pe_int (fun _ _ => rfl)) (pe_callB call_len_seq (by rfl) hL PySem.boot_len (pa_cons (pv 0) pa_nil)) (nomark _)) (pw_or (pt_cmpR op_gt (pe_ix ix_list (pv 1) pe_int (fun _ _ => rfl)) (pe_num rfl c2) (nomark _)) (pw_or1 (pt_cmpR op_lt (pe_ix ix_list (pv 1) pe_int (fun _ _ => rfl)) (pe_ix ix_list (pv 1) pe_int (fun _ _ => rfl)) (nomark _)))))) (pss_one (ps_ret (pe_lst (pa_cons (pe_num rfl c1) pa_nil)))) pss_nil) <|
      pss_cons (ps_set (i := 2) scFree.nd rfl (Or.inl rfl) (pe_callO GW (hr.mono (by decide)) rfl (pa_cons (pe_ix ix_list (pv 1) pe_int (fun _ _ => rfl)) pa_nil))) <|
      pss_cons (ps_set (i := 3) scFree.nd rfl (Or.inl rfl) (pe_callO GW (hr.mono (by decide)) rfl (pa_cons (pe_ix ix_list (pv 1) pe_int (fun _ _ => rfl)) pa_nil))) <|
      pss_one (ps_ret (pe_lst (pa_cons (pe_ifExp (pt_val (pe_callO GF hr rfl (pa_cons (pe_ix ix_list (pv 0) (pe_ix ix_list (pv 1) pe_int (fun _ _ => rfl)) (fun _ _ => rfl)) (pa_cons (pv 0) (pa_cons (pv 2) (pa_cons (pv 3) pa_nil)))))) pe_int pe_int) pa_nil))), ?_⟩
    have lens : (as.map V.ref).length = st.length := by rw [List.length_map, bs.al.1]
    have k' : ∀ (p : Addr) (as' : List Addr) (H' : Hp), H p = none → H' p = some (.lst ((Sy38Neutral.out (Sy38.step st (.free j x y)).2).map V.int)) → BsAt CB H' l as' (Sy38.step st (.free j x y)).1 → Keep l H H' → Q (.ref p) H' := k
    rw [step_free] at k'
    have no : st.length ≤ j ∨ 100000 < y ∨ y < x → 1 ≤ sizeLine ∧ ∀ p, H p = none → Q (.ref p) (upd H p (.lst [.int (-1)])) := fun z => by
      rw [if_pos z] at k'
      exact ⟨by decide, fun p hp => act_ok1 bs rfl rfl k' p hp⟩
    refine ⟨_, rfl, ah, _, _, _, rfl, rfl, SqL.of hh, at_of (j := 0) (v := V.int (j : Int)) rfl rfl, _, rfl, l, _, rfl, .inl (SqL.of bs.lst), _, _, rfl, rfl, _, rfl, ite2 (fun h1 => iteT ?_) (fun h1 => ⟨_, rfl, ah, _, _, _, rfl, rfl, SqL.of hh, at_of (j := 2) (v := V.int (y : Int)) rfl rfl, _, _, rfl, rfl, _, rfl,
      ite2 (fun h2 => iteT ?_) (fun h2 => ⟨_, rfl, ah, _, _, _, rfl, rfl, SqL.of hh, at_of (j := 2) (v := V.int (y : Int)) rfl rfl, _, rfl, ah, _, _, _, rfl, rfl, SqL.of hh, at_of (j := 1) (v := V.int (x : Int)) rfl rfl, _, _, rfl, rfl, _, rfl, ite2 (fun h3 => ?_) (fun h3 => ?_)⟩)⟩)⟩
    · have h1 : ((as.map V.ref).length : Int) ≤ (j : Int) := of_decide_eq_true h1
      exact no (.inl (by omega))
    · have h2 : (100000 : Int) < (y : Int) := of_decide_eq_true h2
      exact no (.inr (.inl (by omega)))
    · have h3 : (y : Int) < (x : Int) := of_decide_eq_true h3
      exact no (.inr (.inr (by omega)))
    · have h1 : ¬ ((as.map V.ref).length : Int) ≤ (j : Int) := fun z => h1 (decide_eq_true z)
      have h2 : ¬ (100000 : Int) < (y : Int) := fun z => h2 (decide_eq_true z)
      have h3 : ¬ (y : Int) < (x : Int) := fun z => h3 (decide_eq_true z)
      have hj : j < st.length := by omega
      rw [if_neg (by omega)] at k'
      obtain ⟨aa, ha, ba⟩ := bs.al.get (List.getElem?_eq_getElem hj)
      refine ⟨_, rfl, ah, _, _, _, rfl, rfl, SqL.of hh, at_of (j := 1) (v := V.int (x : Int)) rfl rfl, (x : Int), rfl, fun f1 H1 n1 s1 i1 => ?_⟩
      refine ⟨_, rfl, ah, _, _, _, rfl, rfl, SqL.of (s1 _ _ hh), at_of (j := 2) (v := V.int (y : Int)) rfl rfl, (y : Int), rfl, fun f2 H2 n2 s2 i2 => ?_⟩
      have s12 := s1.trans s2
      refine ⟨_, rfl, _, rfl, ah, _, _, _, rfl, rfl, SqL.of (s12 _ _ hh), at_of (j := 0) (v := V.int (j : Int)) rfl rfl, l, _, _, _, rfl, rfl, SqL.of (s12 _ _ bs.lst), at_of (j := j) (v := V.ref aa) rfl (by rw [List.getElem?_map, ha]; rfl), _, rfl, _, rfl, _, rfl,
        aa, l, f1, f2, as, st, j, x, y, rfl, bs.mono s12, S, ha, (by rw [Tw.ins_whole]; exact i1.mono s2), (by rw [Tw.ins_whole]; exact i2), by omega, by omega, fun H3 s3 => ?_⟩
      have s13 := s12.trans s3
      have one : ∀ z : Int, z = (if Sy38.free st j x y = true then 1 else 0) → 1 ≤ sizeLine ∧ ∀ p, H3 p = none → Q (.ref p) (upd H3 p (.lst [.int z])) := fun z ez => ⟨by decide, fun p hp => by
        rw [← ez] at k'
        have s4 := s13.trans (same_new (o := .lst [V.int z]) hp)
        exact k' p as _ (s13.free hp) upd_same (bs.mono s4) (keep_same s4 l)⟩
      refine ⟨_, rfl, ite2 (fun h => ?_) (fun h => ?_)⟩
      · exact one 1 (by rw [if_pos h])
      · exact one 0 (by rw [if_neg h])
/-! ### answer_most -/
theorem scMost : FnScope ["bodies", "handed", "meetings", "first"] ["bodies", "handed"] (defScope sMost) := ⟨rfl, rfl, rfl, by decide +kernel, rfl, by decide +kernel, by decide +kernel⟩
theorem step_most (st : Sy38.St) : Sy38.step st .most = (st, ⟨((Tw.mostIn (Sy38.ordered st) (Sy38.ordered st).length).1 : Nat), [Sy38.toldEnd (Tw.mostIn (Sy38.ordered st) (Sy38.ordered st).length).2]⟩) := by
  show (st, (⟨((Sy38.most st).1 : Nat), [Sy38.toldEnd (Sy38.most st).2]⟩ : Sy38.Ans)) = _
  rw [Tw.most_eq]
theorem ok_most (F : Fn K mg "answer_most" sMost ["bodies", "handed"]) (GO : Ok P w K mg base 7 "ordered_meetings" ["bodies"] (spOrdered ⟨CI, CS, CM⟩ CB)) (GF : Ok P w K mg base 7 "first_of_most" ["meetings"] (spFirstM ⟨CI, CS, CM⟩)) (GC : Ok P w K mg base 6 "count_behind" ["meetings", "instant"] (spCountB ⟨CI, CS, CM⟩))
    (GT : Ok P w K mg base 2 "told" ["instant"] (spTold CI)) (GN : Ok P w K mg base 1 "counted" ["numbers"] spCounted) : Ok P w K mg base 8 "answer_most" ["bodies", "handed"] (spAct CB 0 fun _ => .most) := by
  refine F.ok scMost (fun vs H Q E h => ?_) (fun f cdv A outer s H vs Q E hr h => ?_)
  · obtain ⟨l, h, as, s, ns, rfl, _⟩ := h
    rfl
  · obtain ⟨l, ah, as, st, ns, rfl, bs, S, hh, hn, kk⟩ := h
    refine ⟨_, pss_cons (ps_set (i := 2) scMost.nd rfl (Or.inl rfl) (pe_callO GO hr rfl (pa_cons (pv 0) pa_nil))) <|
      pss_cons (ps_set (i := 3) scMost.nd rfl (Or.inl rfl) (pe_callO GF hr rfl (pa_cons (pv 2) pa_nil))) <|
      pss_cons (ps_if (pt_cmp (pc_isN (pv 3))) (pss_one (ps_ret (pe_op op_cat (pe_lst (pa_cons pe_int pa_nil)) (pe_callO GN (hr.mono (by decide)) rfl (pa_cons (pe_lst pa_nil) pa_nil))))) pss_nil) <|
      pss_one (ps_ret (pe_op op_cat (pe_lst (pa_cons (pe_callO GC (hr.mono (by decide)) rfl (pa_cons (pv 2) (pa_cons (pv 3) pa_nil))) pa_nil)) (pe_callO GN (hr.mono (by decide)) rfl (pa_cons (pe_callO GT (hr.mono (by decide)) rfl (pa_cons (pv 3) pa_nil)) pa_nil)))), ?_⟩
    have k : ∀ (p : Addr) (as' : List Addr) (H' : Hp), H p = none → H' p = some (.lst ((Sy38Neutral.out (Sy38.step st .most).2).map V.int)) → BsAt CB H' l as' (Sy38.step st .most).1 → Keep l H H' → Q (.ref p) H' := kk
    rw [step_most] at k
    clear kk
    refine ⟨_, rfl, l, as, st, rfl, bs, S, fun m ts H1 hm s1 hm1 al1 => ?_⟩
    have T := told_ordered S
    generalize Sy38.ordered st = L at *
    have ms : MsAt ⟨CI, CS, CM⟩ H1 m ts L := ⟨hm1, al1, T.gp, T.len⟩
    refine ⟨_, rfl, m, ts, L, rfl, ms, fun v H2 s2 bv => ?_⟩
    have s12 := s1.trans s2
    have ok := Tw.mostIn_ok L L.length (Nat.le_refl _)
    generalize Tw.mostIn L L.length = M at *
    obtain ⟨mn, mo⟩ := M
    cases mo with
    | none =>
      have ev : v = .non := bv
      subst ev
      have ok : mn = 0 := ok
      subst ok
      refine ⟨_, rfl, _, rfl, ite2 (fun _ => ?_) (fun h => absurd rfl h)⟩
      refine ⟨(by show 1 ≤ sizeLine; decide), fun l1 n1 => ⟨Nat.zero_le _, fun l2 n2 => ?_⟩⟩
      have s3 := same_new (o := .lst [V.int 0]) n1
      have s4 := same_new (o := .lst []) n2
      refine ⟨l2, [], rfl, upd_same, by decide, fun l3 H3 n3 s5 e3 => ?_⟩
      have s15 := ((s12.trans s3).trans s4).trans s5
      refine cat_counted (H1 := H) (s5 _ _ (s4 _ _ upd_same)) e3 (by decide) fun p hp => ?_
      have sall := s15.trans (same_new (o := .lst (V.int 0 :: V.int (([] : List V).length : Int) :: [])) hp)
      exact k p as _ (s15.free hp) upd_same (bs.mono sall) (keep_same sall l)
    | some t =>
      obtain ⟨a, rfl, ia⟩ := bv
      obtain ⟨em, x, hx, et⟩ := (show mn = Sy38.just L t ∧ ∃ x ∈ L, t = x.span.from_ from ok)
      have gx := T.gp x hx
      have gt : Tw.Good t := by rw [et]; exact gx.g.fr
      have st_ : Small (Tw.ins t) := by rw [et]; exact gx.s
      refine ⟨_, rfl, _, rfl, ite2 (fun h => absurd (of_decide_eq_true h) (by intro z; cases z)) (fun _ => ?_)⟩
      refine ⟨_, rfl, _, rfl, m, a, ts, L, t, rfl, ms.mono s2, ia, st_, fun H3 s3 => ⟨(by show 1 ≤ sizeLine; decide), fun l1 n1 => ?_⟩⟩
      have s4 := same_new (o := .lst [V.int ((Sy38.just L t : Nat) : Int)]) n1
      refine ⟨_, rfl, a, _, rfl, (ia.mono s3).mono s4, st_, fun l2 n2 => ?_⟩
      have s5 := same_new (o := .lst ((Tw.told (Tw.ins t)).map V.int)) n2
      refine ⟨l2, _, rfl, upd_same, (by rw [List.length_map, told_len]; decide), fun l3 H4 n3 s6 e3 => ?_⟩
      have s16 := (((s12.trans s3).trans s4).trans s5).trans s6
      refine cat_counted (H1 := H) (s6 _ _ (s5 _ _ upd_same)) e3 (by rw [List.length_map, told_len]; decide) fun p hp => ?_
      have sall := s16.trans (same_new (o := .lst (V.int ((Sy38.just L t : Nat) : Int) :: V.int (((Tw.told (Tw.ins t)).map V.int).length : Int) :: (Tw.told (Tw.ins t)).map V.int)) hp)
      refine k p as _ (s16.free hp) ?_ (bs.mono sall) (keep_same sall l)
      rw [upd_same, List.length_map]
      show _ = some (HO.lst (((mn : Int) :: ((Sy38.told t).length : Int) :: (Sy38.told t ++ [])).map V.int))
      rw [em, Tw.told_ins gt, List.append_nil]
      rfl
/-! ### answer_next -/
theorem scNext : FnScope ["bodies", "handed", "instant", "meeting"] ["bodies", "handed"] (defScope sNext) := ⟨rfl, rfl, rfl, by decide +kernel, rfl, by decide +kernel, by decide +kernel⟩
theorem step_next (st : Sy38.St) (t : Nat) : Sy38.step st (.next t) = (st, if 100000 < t then Sy38.ok (-1) else match (Sy38.ordered st).find? fun (x : Meet) => Sy38.less (Sy38.whole t) x.span.from_ with
      | none => Sy38.ok (-6)
      | some x => ⟨0, [[(x.i : Int), (x.j : Int)], Sy38.told x.span.from_]⟩) := rfl
theorem ok_next (T : Cst mg) (TS : ClsS K mg CS) (TM : ClsM K mg CM) (F : Fn K mg "answer_next" sNext ["bodies", "handed"]) (GO : Ok P w K mg base 7 "ordered_meetings" ["bodies"] (spOrdered ⟨CI, CS, CM⟩ CB)) (GW : Ok P w K mg base 3 "whole_instant" ["number"] (spWholeI CI)) (GC : Ok P w K mg base 4 "compared" ["one", "other"] (spCompared CI))
    (GT : Ok P w K mg base 2 "told" ["instant"] (spTold CI)) (GN : Ok P w K mg base 1 "counted" ["numbers"] spCounted) : Ok P w K mg base 8 "answer_next" ["bodies", "handed"] (spAct CB 1 fun ns => .next (ns.getD 0 0)) := by
  obtain ⟨t1, c1⟩ := T.wrong
  obtain ⟨t2, c2⟩ := T.instant
  obtain ⟨t3, c3⟩ := T.later
  refine F.ok scNext (fun vs H Q E h => ?_) (fun f cdv A outer s H vs Q E hr h => ?_)
  · obtain ⟨l, h, as, s, ns, rfl, _⟩ := h
    rfl
  · obtain ⟨l, ah, as, st, ns, rfl, bs, S, hh, hn, kk⟩ := h
    obtain ⟨t, rfl⟩ : ∃ x, ns = [x] := List.length_eq_one_iff.mp hn
    refine ⟨_, pss_cons (ps_if (pt_cmpR op_gt (pe_ix ix_list (pv 1) pe_int (fun _ _ => rfl)) (pe_num rfl c2) (nomark _)) (pss_one (ps_ret (pe_lst (pa_cons (pe_num rfl c1) pa_nil)))) pss_nil) <|
      pss_cons (ps_set (i := 2) scNext.nd rfl (Or.inl rfl) (pe_callO GW (hr.mono (by decide)) rfl (pa_cons (pe_ix ix_list (pv 1) pe_int (fun _ _ => rfl)) pa_nil))) <|
      pss_cons (ps_for PassesOwn.never rfl (pi_list (pe_callO GO hr rfl (pa_cons (pv 0) pa_nil))) (pg_name (i := 3) scNext.nd rfl (Or.inl rfl))
        (pss_one (ps_if (pt_cmpR op_gt (pe_callO GC (hr.mono (by decide)) rfl (pa_cons (pe_fld (pe_fld (pv 3) rfl) rfl) (pa_cons (pv 2) pa_nil))) pe_int (nomark _))
          (pss_one (ps_ret (pe_op op_cat (pe_op op_cat (pe_lst (pa_cons pe_int pa_nil)) (pe_callO GN (hr.mono (by decide)) rfl (pa_cons (pe_lst (pa_cons (pe_fld (pv 3) rfl) (pa_cons (pe_fld (pv 3) rfl) pa_nil))) pa_nil))) (pe_callO GN (hr.mono (by decide)) rfl (pa_cons (pe_callO GT (hr.mono (by decide)) rfl (pa_cons (pe_fld (pe_fld (pv 3) rfl) rfl) pa_nil)) pa_nil))))) pss_nil))) <|
      pss_one (ps_ret (pe_lst (pa_cons (pe_num rfl c3) pa_nil))), ?_⟩
    have k' : ∀ (p : Addr) (as' : List Addr) (H' : Hp), H p = none → H' p = some (.lst ((Sy38Neutral.out (Sy38.step st (.next t)).2).map V.int)) → BsAt CB H' l as' (Sy38.step st (.next t)).1 → Keep l H H' → Q (.ref p) H' := kk
    rw [step_next] at k'
    clear kk
    refine ⟨_, rfl, ah, _, _, _, rfl, rfl, SqL.of hh, at_of (j := 0) (v := V.int (t : Int)) rfl rfl, _, _, rfl, rfl, _, rfl, ite2 (fun h1 => ?_) (fun h1 => ?_)⟩
    · have h1 : (100000 : Int) < (t : Int) := of_decide_eq_true h1
      rw [if_pos (by omega)] at k'
      exact ⟨(by show 1 ≤ sizeLine; decide), fun p hp => act_ok1 bs rfl rfl k' p hp⟩
    · have h1 : ¬ (100000 : Int) < (t : Int) := fun z => h1 (decide_eq_true z)
      rw [if_neg (by omega)] at k'
      have sw : Small ⟨(t : Int), 0, 1⟩ := Tw.small_whole (by omega)
      refine ⟨_, rfl, ah, _, _, _, rfl, rfl, SqL.of hh, at_of (j := 0) (v := V.int (t : Int)) rfl rfl, (t : Int), rfl, fun iw H1 niw s1 hiw => ?_⟩
      refine ⟨_, rfl, l, as, st, rfl, bs.mono s1, S, fun m ts H2 hm s2 hm2 al2 => ?_⟩
      have s12 := s1.trans s2
      have hiw2 := hiw.mono s2
      have T := told_ordered S
      generalize Sy38.ordered st = L at *
      have lts : (ts.map V.ref).length = L.length := by rw [List.length_map, al2.1]
      refine ⟨m, rfl, ⟨_, SqL.of hm2⟩, for_list (K := K) (a := m) (xs := ts.map V.ref) (fun i σ H' => ∃ (v3 : Option V), σ = [some (.ref l), some (.ref ah), some (.ref iw), v3] ∧ H2 = H' ∧ ∀ (n : Nat) (y : Meet), n < i → L[n]? = some y → Sy38.less (Sy38.whole t) y.span.from_ = false)
        ⟨none, rfl, rfl, fun n y hn => absurd hn (Nat.not_lt_zero n)⟩ (fun i σ H' _ ⟨_, _, e, _⟩ => e ▸ SqL.of hm2) ?_ ?_⟩
      · rintro i y σ H3 hi ⟨v3, rfl, rfl, no⟩
        obtain ⟨o, ho, rfl⟩ := map_ref hi
        obtain ⟨x, hx, dx, p, hox, ds, af, lv, hp, ifr, _⟩ := al2.get' ho
        have ifr : InsAt CI H2 af (Tw.ins x.span.from_) := ifr
        have gx := T.gp x (List.mem_of_getElem? hx)
        have nl := Tw.next_less t x
        rw [Tw.ins_whole] at nl
        refine ⟨_, rfl, o, CM, dx, _, _, rfl, hox, TM.cl, TM.nS, fM_s _ _ _, p, CS, ds, _, _, rfl, hp, TS.cl, TS.nF, fS_f _ _ _, _, rfl, af, iw, _, _, rfl, ifr, hiw2, gx.s, sw, _, _, rfl, rfl, _, rfl, ite2 (fun h => ?_) (fun h => ?_)⟩
        · have nl := nl.trans h
          rw [Tw.find_at hx nl no] at k'
          have big : (1000 : Nat) < sizeLine := by decide
          refine ⟨(by show 1 ≤ sizeLine; decide), fun l1 n1 => ?_⟩
          have s3 := same_new (o := .lst [V.int 0]) n1
          refine ⟨_, rfl, o, CM, dx, _, _, rfl, s3 _ _ hox, TM.cl, TM.nL, fM_l _ _ _, _, rfl, o, CM, dx, _, _, rfl, s3 _ _ hox, TM.cl, TM.nG, fM_g _ _ _, (by show 2 ≤ sizeLine; decide), fun l2 n2 => ?_⟩
          have s4 := same_new (o := .lst [V.int (x.i : Int), V.int (x.j : Int)]) n2
          refine ⟨l2, _, rfl, upd_same, (by show 2 < 2000000; decide), fun l3 H4 n3 s5 e3 => ?_⟩
          have s35 := (s3.trans s4).trans s5
          refine ⟨l1, l3, _, _, rfl, rfl, s5 _ _ (s4 _ _ upd_same), e3, (by show 1 + 3 ≤ sizeLine; decide), fun l4 n4 => ?_⟩
          have s6 := s35.trans (same_new (o := .lst ([V.int 0] ++ V.int (([V.int (x.i : Int), V.int (x.j : Int)] : List V).length : Int) :: [V.int (x.i : Int), V.int (x.j : Int)])) n4)
          refine ⟨_, rfl, o, CM, dx, _, _, rfl, s6 _ _ hox, TM.cl, TM.nS, fM_s _ _ _, p, CS, ds, _, _, rfl, s6 _ _ hp, TS.cl, TS.nF, fS_f _ _ _, af, _, rfl, ifr.mono s6, gx.s, fun l5 n5 => ?_⟩
          have s7 := same_new (o := .lst ((Tw.told (Tw.ins x.span.from_)).map V.int)) n5
          refine ⟨l5, _, rfl, upd_same, (by rw [List.length_map, told_len]; decide), fun l6 H6 n6 s8 e6 => ?_⟩
          have s28 := ((s12.trans s6).trans s7).trans s8
          refine ⟨l4, l6, _, _, rfl, rfl, s8 _ _ (s7 _ _ upd_same), e6, (by show 4 + 3 ≤ sizeLine; decide), fun q hq => ?_⟩
          have sall := s28.trans (same_new (o := .lst (([V.int 0] ++ V.int (([V.int (x.i : Int), V.int (x.j : Int)] : List V).length : Int) :: [V.int (x.i : Int), V.int (x.j : Int)]) ++ V.int (((Tw.told (Tw.ins x.span.from_)).map V.int).length : Int) :: (Tw.told (Tw.ins x.span.from_)).map V.int)) hq)
          refine k' q as _ (s28.free hq) ?_ (bs.mono sall) (keep_same sall l)
          rw [upd_same, List.length_map, ← Tw.told_ins gx.g.fr]
          show _ = some (HO.lst ((0 :: ((2 : Nat) : Int) :: (x.i : Int) :: (x.j : Int) :: ((Sy38.told x.span.from_).length : Int) :: (Sy38.told x.span.from_ ++ [])).map V.int))
          rw [List.append_nil]
          rfl
        · have nl := nl.trans (Bool.not_eq_true _ |>.mp h)
          refine ⟨_, rfl, rfl, fun n y hn e => ?_⟩
          rcases Nat.lt_succ_iff_lt_or_eq.mp hn with z | z
          · exact no n y z e
          · subst z
            rw [hx] at e
            cases e
            exact nl
      · rintro σ H3 ⟨v3, rfl, rfl, no⟩
        rw [lts] at no
        rw [Tw.find_none fun n y e => no n y (List.getElem?_eq_some_iff.mp e).1 e] at k'
        refine ⟨(by show 1 ≤ sizeLine; decide), fun p hp => ?_⟩
        have sall := s12.trans (same_new (o := .lst [V.int (-6)]) hp)
        exact k' p as _ (s12.free hp) upd_same (bs.mono sall) (keep_same sall l)
end
end Sky

namespace Sky
open PySem PySem.Spec PyProof.Rows L2
open Tw (Ins Spn Small SmallS B BOk SOk Gm Sorted mcmp)
open Sy38 (Body Meet)
theorem sql_same {K : PySem.W.Frag} {H H' : Hp} {a : Addr} {xs : List V} (h : SqL K H a xs) (s : Same H H') : SqL K H' a xs := by
  rcases h with (h | ⟨o, h⟩) | h
  · exact .inl (.inl (s _ _ h))
  · exact .inl (.inr ⟨o, s _ _ h⟩)
  · exact .inr h
def actNames : List Str := ["answer_begins", "answer_body", "answer_drop", "answer_meets", "answer_hides", "answer_compare", "answer_order", "answer_most", "answer_seen", "answer_joined", "answer_free", "answer_next", "answer_where"]
/-- the two tables of the text -/
structure Tbl (K : PySem.W.Frag) (mg : Str → Option Value) : Prop where
  acts : ∃ (a : Addr) (fs : List Addr), mg "ACTS" = some (.ref a) ∧ (∀ H, SqT K H a (fs.map V.ref)) ∧ fs.map (fun f => some (Value.ref f)) = actNames.map mg
  sizes : ∃ a : Addr, mg "SIZES" = some (.ref a) ∧ ∀ H, SqT K H a (nums Tw.sizes)
def spAnswers (K : PySem.W.Frag) : Sp := fun vs H Q _ => ∃ (a : Addr) (ns : List Int), vs = [.ref a] ∧ SqL K H a (ns.map V.int) ∧ ns.length ≤ 500 ∧ PySy38.answers_asked ns = true ∧ ∀ (H' : Hp) (p : Addr), H' p = some (.lst ((PySy38.answers ns).map V.int)) → Q (.ref p) H'
theorem cut_nums {ns : List Int} {pl n : Nat} {ks : List Nat} (h : (ns.drop (pl + 1)).take n = ks.map (fun (k : Nat) => (k : Int))) (hn : pl + 1 + n ≤ ns.length) : cutV (ns.map V.int) (some ((pl : Int) + 1)) (some ((pl : Int) + 1 + (n : Int))) = nums ks := by
  unfold cutV
  have e1 : (pl : Int) + 1 = ((pl + 1 : Nat) : Int) := by omega
  have e2 : (pl : Int) + 1 + (n : Int) = ((pl + 1 + n : Nat) : Int) := by omega
  rw [e2, e1, HT.sIx_nat, HT.sIx_nat, List.length_map, Nat.min_eq_left (by omega), Nat.min_eq_left (by omega), Nat.add_sub_cancel_left, ← List.map_drop, ← List.map_take, h]
  unfold nums
  rw [List.map_map]
  rfl
section
variable {P : Program} {w : World} {K : PySem.W.Frag} {mg : Str → Option Value} {base : Heap} {CB : Addr}
/-- every act keeps its promise -/
def AllActs (P : Program) (w : World) (K : PySem.W.Frag) (mg : Str → Option Value) (base : Heap) (CB : Addr) : Prop := ∀ q n : Nat, Tw.sizes[q]? = some n → ∃ x, actNames[q]? = some x ∧ Ok P w K mg base 8 x ["bodies", "handed"] (spAct CB n (Tw.cOf q))
theorem scAnswers : FnScope ["calls", "bodies", "given", "place", "act", "end"] ["calls"] (defScope sAnswers) := ⟨rfl, rfl, rfl, by decide +kernel, rfl, by decide +kernel, by decide +kernel⟩
theorem ok_answers (hL : mg "len" = none) (T : Tbl K mg) {f : Addr} {fd : FuncData} (F : Fun K "answers" "answers" sAnswers f fd) (GA : AllActs P w K mg base CB) (GN : Ok P w K mg base 1 "counted" ["numbers"] spCounted) : FnOk P w K mg base CX0 9 f fd ["calls"] (spAnswers K) := by
  obtain ⟨aA, fs, mA, sA, eA⟩ := T.acts
  obtain ⟨aS, mS, sS⟩ := T.sizes
  refine F.ok scAnswers (fun vs H Q E h => ?_) (fun cdv A outer s H vs Q E hr h => ?_)
  · obtain ⟨a, ns, rfl, _⟩ := h
    rfl
  · obtain ⟨a, ns, rfl, ha, h500, ask, k⟩ := h
    refine ⟨_, pss_cons (ps_set (i := 1) scAnswers.nd rfl (Or.inl rfl) (pe_lst pa_nil)) <|
      pss_cons (ps_set (i := 2) scAnswers.nd rfl (Or.inl rfl) (pe_lst pa_nil)) <|
      pss_cons (ps_set (i := 3) scAnswers.nd rfl (Or.inl rfl) pe_int) <|
      pss_cons (ps_while PassesOwn.never (pt_cmpR op_lt (pv 3) (pe_callB call_len_seq (by rfl) hL PySem.boot_len (pa_cons (pv 0) pa_nil)) (nomark _))
        (pss_cons (ps_set (i := 4) scAnswers.nd rfl (Or.inl rfl) (pe_ix ix_tup (pe_glob rfl mA (v := V.ref aA) rfl) (pe_ix ix_list (pv 0) (pv 3) (fun _ _ => rfl)) (fun _ _ => rfl))) <|
          pss_cons (ps_set (i := 5) scAnswers.nd rfl (Or.inl rfl) (pe_op op_add (pe_op op_add (pv 3) pe_int) (pe_ix ix_tup (pe_glob rfl mS (v := V.ref aS) rfl) (pe_ix ix_list (pv 0) (pv 3) (fun _ _ => rfl)) (fun _ _ => rfl)))) <|
          pss_cons (ps_expr (pe_bm PySem.F.plainAttrs_list PySem.F.slot_list_extend PySem.F.type_list_extend mt_extend (pv 2) (pa_cons (pe_callO GN (hr.mono (by decide)) rfl (pa_cons (pe_callV 4 hr (pa_cons (pv 1) (pa_cons (pe_slice sl_list (pv 0) (po_some (pe_op op_add (pv 3) pe_int)) (po_some (pv 5))) pa_nil))) pa_nil)) pa_nil))) <|
          pss_one (ps_set (i := 3) scAnswers.nd rfl (Or.inl rfl) (pv 5)))) <|
      pss_one (ps_ret (pv 2)), ?_⟩
    obtain ⟨cs, left, ea, tot⟩ := Tw.asked_left ask
    have big : (10000000 : Nat) < sizeLine := by decide
    refine ⟨Nat.zero_le _, fun pb hpb => ⟨Nat.zero_le _, fun pg hpg => ?_⟩⟩
    have s1 := same_new (o := .lst []) hpb
    have s2 := s1.trans (same_new (o := .lst []) hpg)
    have hpg0 := s1.free hpg
    have nbg : pb ≠ pg := fun z => by rw [z, upd_same] at hpg; cases hpg
    have hlen : (ns.map V.int).length = ns.length := List.length_map _
    refine ⟨fun m σ H' => ∃ (pl : Nat) (z : Int) (st : Sy38.St) (as : List Addr) (cs : List (List (List Int))) (gv : List Int) (v4 v5 : Option V), m = ns.length - pl ∧ z = (pl : Int) ∧ pl ≤ ns.length ∧ Tw.Left (ns.drop pl) cs ∧ gv ++ Tw.ans st cs = PySy38.answers ns ∧ BsAt CB H' pb as st ∧ SOk st ∧ H' pg = some (.lst (gv.map V.int)) ∧ Same H H' ∧ σ = [some (.ref a), some (.ref pb), some (.ref pg), some (.int z), v4, v5],
      ⟨ns.length - 0, 0, 0, [], [], cs, [], none, none, rfl, rfl, Nat.zero_le _, left, ea.symm, ⟨by rw [upd_ne nbg, upd_same]; rfl, Al.nil⟩, Tw.sok_nil, upd_same, s2, rfl⟩, ?_⟩
    rintro m σ H1 ⟨pl, z, st, as, cs, gv, v4, v5, rfl, hz, hpl, left, eg, bs, S, hg, sh, rfl⟩
    have ha1 := sql_same ha sh
    refine ⟨_, rfl, _, rfl, a, _, rfl, .inl ha1, _, _, rfl, rfl, _, rfl, ite2 (fun h => ?_) (fun h => ?_)⟩
    · have h : z < ((ns.map V.int).length : Int) := of_decide_eq_true h
      have hlt : pl < ns.length := by omega
      have ed : ns.drop pl = ns[pl] :: ns.drop (pl + 1) := List.drop_eq_getElem_cons hlt
      rw [ed] at left
      obtain ⟨q, n, ks, cs', eq, hq, hn, hk, hkl, left', stp⟩ := left.cons
      rw [List.length_drop] at hn
      have atq : (ns.map V.int)[pl]? = some (V.int (q : Int)) := by rw [List.getElem?_map, List.getElem?_eq_getElem hlt, eq]; rfl
      obtain ⟨x, hx, fa, fda, FA, bA, mX, kA⟩ := GA q n hq
      have atf : (fs.map V.ref)[q]? = some (V.ref fa) := by
        have e1 : (fs.map (fun f => some (Value.ref f)))[q]? = some (some (Value.ref fa)) := by rw [eA, List.getElem?_map, hx]; exact congrArg some mX
        rw [List.getElem?_map] at e1 ⊢
        cases ef : fs[q]? with
        | none =>
          rw [ef] at e1
          cases e1
        | some f' =>
          rw [ef] at e1
          have e2 : f' = fa := by
            have := Option.some.inj (Option.some.inj e1)
            exact Value.ref.inj this
          rw [e2]
          rfl
      have stp1 := stp st
      generalize eo : Sy38Neutral.out (Sy38.step st (Tw.cOf q ks)).2 = O at stp1
      have tot1 : (gv ++ Tw.ans st cs).length ≤ 1000060 := by rw [eg, ea]; exact tot
      rw [stp1, List.length_append, List.length_append, List.length_cons] at tot1
      refine ⟨fun σ' H' => ∃ (pl' : Nat) (z : Int) (st : Sy38.St) (as : List Addr) (cs : List (List (List Int))) (gv : List Int) (v4 v5 : Option V), ns.length - pl' < ns.length - pl ∧ z = (pl' : Int) ∧ pl' ≤ ns.length ∧ Tw.Left (ns.drop pl') cs ∧ gv ++ Tw.ans st cs = PySy38.answers ns ∧ BsAt CB H' pb as st ∧ SOk st ∧ H' pg = some (.lst (gv.map V.int)) ∧ Same H H' ∧ σ' = [some (.ref a), some (.ref pb), some (.ref pg), some (.int z), v4, v5],
        fun σ' H' ⟨pl', z, st, as, cs, gv, v4, v5, c, r⟩ => ⟨_, c, pl', z, st, as, cs, gv, v4, v5, rfl, r⟩, ?_⟩
      subst hz
      refine ⟨_, rfl, _, rfl, a, _, _, _, rfl, rfl, ha1, at_of (j := pl) (v := V.int (q : Int)) rfl atq, aA, _, _, _, rfl, rfl, sA H1, at_of (j := q) (v := V.ref fa) rfl atf, ?_⟩
      refine ⟨_, rfl, _, _, rfl, rfl, _, rfl, _, rfl, a, _, _, _, rfl, rfl, ha1, at_of (j := pl) (v := V.int (q : Int)) rfl atq, aS, _, _, _, rfl, rfl, sS H1, at_of (j := q) (v := V.int (n : Int)) rfl (get_nums hq), _, _, rfl, rfl, ?_⟩
      refine ⟨_, rfl, .inl ⟨rfl, _, SqL.of hg⟩, fa, fda, _, _, rfl, FA, bA, kA, _, rfl, _, rfl, _, rfl, _, _, rfl, rfl, _, rfl, _, rfl, _, rfl, a, _, rfl, ha1, fun hd nhd => ?_⟩
      rw [cut_nums hk (by omega)]
      have s3 := same_new (o := .lst (nums ks)) nhd
      refine ⟨pb, hd, as, st, ks, rfl, bs.mono s3, S, upd_same, hkl, fun p as' H2 np hp2 bs2 kp => ?_⟩
      rw [eo] at hp2
      refine ⟨p, _, rfl, hp2, (by rw [List.length_map]; omega), fun p2 H3 np2 s4 e3 => ?_⟩
      have hg3 : H3 pg = some (.lst (gv.map V.int)) := s4 _ _ (kp _ _ (s3 _ _ hg) (Ne.symm nbg))
      refine ⟨pg, p2, _, _, rfl, rfl, hg3, e3, (by rw [List.length_cons, List.length_map, List.length_map]; omega), ?_⟩
      have eg2 : gv.map V.int ++ V.int ((O.map V.int).length : Int) :: O.map V.int = (gv ++ (O.length : Int) :: O).map V.int := by rw [List.map_append, List.map_cons, List.length_map]
      rw [eg2]
      have bs3 := bs2.mono s4
      have l3 : H3 pb = some (.lst (as'.map V.ref)) := bs3.lst
      refine ⟨_, rfl, pl + 1 + n, _, (Sy38.step st (Tw.cOf q ks)).1, as', cs', gv ++ (O.length : Int) :: O, _, _, by omega, ?_, by omega, ?_, ?_, ⟨by rw [upd_ne nbg]; exact l3, ?_⟩, Tw.sok_step S _, upd_same, ?_, rfl⟩
      · omega
      · rw [List.drop_drop] at left'
        exact left'
      · rw [List.append_assoc, List.cons_append, ← List.cons_append, ← stp1]
        exact eg
      · refine bs3.al.mono fun b y qb => ?_
        obtain ⟨dx, qb⟩ := qb
        exact ⟨dx, by rw [upd_ne (ne_of qb hg3 (by intro z; cases z))]; exact qb⟩
      · intro b o e
        have nb : b ≠ pb := ne_of_none e hpb
        rw [upd_ne (ne_of_none e hpg0)]
        exact s4 _ _ (kp _ _ (s3 _ _ (sh _ _ e)) nb)
    · have h : ¬ z < ((ns.map V.int).length : Int) := fun q => h (decide_eq_true q)
      have ed : ns.drop pl = [] := List.drop_of_length_le (by omega)
      rw [ed] at left
      have ec := left.nil
      subst ec
      have eg : gv ++ [] = PySy38.answers ns := eg
      rw [List.append_nil] at eg
      refine ⟨_, rfl, k H1 pg ?_⟩
      rw [hg, eg]
end
end Sky

namespace Sky
open PySem PySem.Spec PyProof.Rows L2
/-- what the top has written -/
structure Txt (K : PySem.W.Frag) (mg : Str → Option Value) : Prop where
  f_whole_instant : Fn K mg "whole_instant" sWholeI ["number"]
  f_sign_of : Fn K mg "sign_of" sSignOf ["number"]
  f_root_below : Fn K mg "root_below" sRoot ["number"]
  f_sign_with_root : Fn K mg "sign_with_root" sSign1 ["whole", "square"]
  f_sign_with_two_roots : Fn K mg "sign_with_two_roots" sSign2 ["whole", "square", "other"]
  f_compared : Fn K mg "compared" sCompared ["one", "other"]
  f_told : Fn K mg "told" sTold ["instant"]
  f_span_of : Fn K mg "span_of" sSpanOf ["square", "half", "rest", "with_edge"]
  f_has_instants_between : Fn K mg "has_instants_between" sBetween ["span", "first", "last"]
  f_middle_at : Fn K mg "middle_at" sMiddle ["body", "instant"]
  f_is_nearer : Fn K mg "is_nearer" sNearer ["one", "other"]
  f_may_hide : Fn K mg "may_hide" sMayHide ["one", "other"]
  f_span_within : Fn K mg "span_within" sWithin ["one", "other", "reach", "with_edge"]
  f_meeting_of : Fn K mg "meeting_of" sMeetingOf ["one", "other"]
  f_hiding_of : Fn K mg "hiding_of" sHidingOf ["one", "other"]
  f_square_apart_at : Fn K mg "square_apart_at" sApart ["one", "other", "instant"]
  f_lie_over_at : Fn K mg "lie_over_at" sOverAt ["one", "other", "instant"]
  f_hides_at : Fn K mg "hides_at" sHidesAt ["one", "other", "instant"]
  f_view_of : Fn K mg "view_of" sView ["body", "bodies", "instant"]
  f_groups_at : Fn K mg "groups_at" sGroups ["bodies", "instant"]
  f_joined_groups : Fn K mg "joined_groups" sJoin2 ["leasts", "one", "other"]
  f_insert_meeting : Fn K mg "insert_meeting" sInsertM ["meetings", "meeting"]
  f_ordered_meetings : Fn K mg "ordered_meetings" sOrdered ["bodies"]
  f_goes_on_behind : Fn K mg "goes_on_behind" sGoesOn ["span", "instant"]
  f_count_behind : Fn K mg "count_behind" sCountB ["meetings", "instant"]
  f_first_of_most : Fn K mg "first_of_most" sFirstM ["meetings"]
  f_is_free_between : Fn K mg "is_free_between" sFreeB ["body", "bodies", "first", "last"]
  f_counted : Fn K mg "counted" sCounted ["numbers"]
  f_are_two : Fn K mg "are_two" sAreTwo ["bodies", "i", "j"]
  f_is_body_told_well : Fn K mg "is_body_told_well" sWell ["handed"]
  f_body_told : Fn K mg "body_told" sBodyTold ["handed"]
  f_answer_span : Fn K mg "answer_span" sSpanA ["span"]
  f_answer_begins : Fn K mg "answer_begins" sBegins ["bodies", "handed"]
  f_answer_body : Fn K mg "answer_body" sBody ["bodies", "handed"]
  f_answer_drop : Fn K mg "answer_drop" sDrop ["bodies", "handed"]
  f_answer_meets : Fn K mg "answer_meets" sMeets ["bodies", "handed"]
  f_answer_hides : Fn K mg "answer_hides" sHides ["bodies", "handed"]
  f_answer_compare : Fn K mg "answer_compare" sCompare ["bodies", "handed"]
  f_answer_order : Fn K mg "answer_order" sOrder ["bodies", "handed"]
  f_answer_most : Fn K mg "answer_most" sMost ["bodies", "handed"]
  f_answer_seen : Fn K mg "answer_seen" sSeen ["bodies", "handed"]
  f_answer_joined : Fn K mg "answer_joined" sJoined ["bodies", "handed"]
  f_answer_free : Fn K mg "answer_free" sFree ["bodies", "handed"]
  f_answer_next : Fn K mg "answer_next" sNext ["bodies", "handed"]
  f_answer_where : Fn K mg "answer_where" sWhere ["bodies", "handed"]
  c_Instant : ∃ C, ClsI K mg C
  c_Span : ∃ C, ClsS K mg C
  c_Body : ∃ C, ClsB K mg C
  c_Meeting : ∃ C, ClsM K mg C
  cst : Cst mg
  tbl : Tbl K mg
  b_abs : mg "abs" = none
  b_len : mg "len" = none
  b_range : mg "range" = none
  b_list : mg "list" = none
  b_min : mg "min" = none
  b_set : mg "set" = none
theorem all_ok {P : Program} {w : World} {K : PySem.W.Frag} {mg : Str → Option Value} {base : Heap} (T : Txt K mg) {f : Addr} {fd : FuncData} (F : Fun K "answers" "answers" sAnswers f fd) : FnOk P w K mg base CX0 9 f fd ["calls"] (spAnswers K) := by
  obtain ⟨CI, TI⟩ := T.c_Instant
  obtain ⟨CS, TS⟩ := T.c_Span
  obtain ⟨CB, TB⟩ := T.c_Body
  obtain ⟨CM, TM⟩ := T.c_Meeting
  have g_sign_of : Ok P w K mg base 1 "sign_of" ["number"] spSignOf := ok_signOf T.f_sign_of
  have g_root : Ok P w K mg base 1 "root_below" ["number"] spRoot := ok_root T.f_root_below
  have g_s1 := ok_sign1 T.b_abs T.f_sign_with_root g_sign_of
  have g_s2 := ok_sign2 T.b_abs T.f_sign_with_two_roots g_sign_of g_s1
  have g_cmp := ok_compared TI T.f_compared g_s2
  have g_told := ok_told T.b_abs TI T.f_told g_root
  have g_whole : Ok P w K mg base 3 "whole_instant" ["number"] (spWholeI CI) := ok_wholeI TI T.f_whole_instant
  have g_span := ok_spanOf TI TS g_whole T.f_span_of
  have g_between := ok_between TS T.f_has_instants_between g_cmp
  have g_middle : Ok P w K mg base 1 "middle_at" ["body", "instant"] (spMiddle CB) := ok_middle TB T.f_middle_at
  have g_near : Ok P w K mg base 1 "is_nearer" ["one", "other"] (spNearer CB) := ok_nearer TB T.f_is_nearer
  have g_may := ok_mayHide TB T.f_may_hide g_near
  have g_within := ok_within TB T.f_span_within g_span
  have g_meet := ok_meetingOf TB T.f_meeting_of g_within
  have g_hide := ok_hidingOf TB T.f_hiding_of g_may g_within
  have g_apart := ok_apart T.f_square_apart_at g_middle
  have g_over := ok_overAt TB T.f_lie_over_at g_apart
  have g_hidesAt := ok_hidesAt TB T.f_hides_at g_may g_apart
  have g_view := ok_view T.f_view_of g_hidesAt g_over g_near
  have g_join2 : Ok P w K mg base 1 "joined_groups" ["leasts", "one", "other"] spJoin2 := ok_join2 T.b_min T.f_joined_groups
  have g_groups := ok_groups T.b_len T.b_range T.b_list T.f_groups_at g_over g_join2
  have g_insert := ok_insertM T.b_len TS TM T.f_insert_meeting g_cmp
  have g_ordered := ok_ordered T.b_len T.b_range TM T.f_ordered_meetings g_meet g_insert
  have g_goes := ok_goesOn TS T.f_goes_on_behind g_cmp
  have g_count := ok_countB T.b_len TM T.f_count_behind g_goes
  have g_first := ok_firstM TS TM T.f_first_of_most g_count
  have g_free := ok_freeB T.f_is_free_between g_near g_meet g_between
  have g_counted : Ok P w K mg base 1 "counted" ["numbers"] spCounted := ok_counted T.b_len T.f_counted
  have g_two : Ok P w K mg base 1 "are_two" ["bodies", "i", "j"] spAreTwo := ok_areTwo T.b_len T.f_are_two
  have g_well : Ok P w K mg base 1 "is_body_told_well" ["handed"] spWell := ok_well T.cst T.f_is_body_told_well
  have g_bodyTold : Ok P w K mg base 3 "body_told" ["handed"] (spBodyTold CB) := ok_bodyTold T.cst TB T.f_body_told
  have g_spanA := ok_spanA TS T.f_answer_span g_told g_counted
  refine ok_answers (CB := CB) T.b_len T.tbl F (fun q n hq => ?_) g_counted
  match q, hq with
  | 0, hq => cases hq; exact ⟨_, rfl, (ok_begins T.f_answer_begins).mono (by decide)⟩
  | 1, hq => cases hq; exact ⟨_, rfl, (ok_body T.b_len T.cst TB T.f_answer_body g_well g_bodyTold).mono (by decide)⟩
  | 2, hq => cases hq; exact ⟨_, rfl, (ok_drop T.b_len T.cst T.f_answer_drop).mono (by decide)⟩
  | 3, hq => cases hq; exact ⟨_, rfl, (ok_Meets T.cst T.f_answer_meets g_two g_meet g_spanA).mono (by decide)⟩
  | 4, hq => cases hq; exact ⟨_, rfl, (ok_Hides T.cst T.f_answer_hides g_two g_hide g_spanA).mono (by decide)⟩
  | 5, hq => cases hq; exact ⟨_, rfl, (ok_compare T.cst TS T.f_answer_compare g_two g_meet g_cmp).mono (by decide)⟩
  | 6, hq => cases hq; exact ⟨_, rfl, (ok_order T.b_len TS TM T.f_answer_order g_ordered g_cmp g_counted).mono (by decide)⟩
  | 7, hq => cases hq; exact ⟨_, rfl, (ok_most T.f_answer_most g_ordered g_first g_count g_told g_counted).mono (by decide)⟩
  | 8, hq => cases hq; exact ⟨_, rfl, (ok_seen T.cst T.f_answer_seen g_view g_counted).mono (by decide)⟩
  | 9, hq => cases hq; exact ⟨_, rfl, (ok_joined T.b_len T.b_set T.cst T.f_answer_joined g_groups g_counted).mono (by decide)⟩
  | 10, hq => cases hq; exact ⟨_, rfl, (ok_free T.b_len T.cst T.f_answer_free g_whole g_free).mono (by decide)⟩
  | 11, hq => cases hq; exact ⟨_, rfl, (ok_next T.cst TS TM T.f_answer_next g_ordered g_whole g_cmp g_told g_counted).mono (by decide)⟩
  | 12, hq => cases hq; exact ⟨_, rfl, (ok_where T.b_len T.cst T.f_answer_where g_middle g_counted).mono (by decide)⟩
  | q + 13, hq => simp [Tw.sizes] at hq
end Sky

namespace L2
open PySem PySem.Spec PyProof.Rows
theorem fn_mk {K : PySem.W.Frag} {h : Heap} {mg : Str → Option Value} {x : Str} {st : Stmt} {ps : List Str} {f : Addr} {oc : Value} {od an : Option Addr} {osl : Array (Option Value)} {kV doc pm cdv ct : Value} (X : K.In h) (G : h.Ns mainGlobals mg)
    (a : PySem.W.nsIn K mainGlobals x = some (some (.ref f))) (l : K.lookup f = some ⟨oc, od, .func (PySem.W.fnOf x x (defArgs st) (defBody st) (defScope st) .none kV doc pm an cdv ct), osl⟩) (c : PySem.W.codeIn K cdv x = true) (k : PySem.W.keepIn K (.ref f) = true)
    (b : ∀ (kV doc pm : Value) (an : Option Addr) (cdv ct : Value) (us : List Value), us.length = ps.length → bindArgs (PySem.W.fnOf x x (defArgs st) (defBody st) (defScope st) .none kV doc pm an cdv ct) ⟨us, []⟩ = pure (ps.zip us)) : Fn K mg x st ps :=
  let F := fun_mk (st := st) l c k
  ⟨f, _, F, F.binds b, PySem.W.mg_of X G a⟩
theorem cls_mk {K : PySem.W.Frag} {C : Addr} (pg : PySem.W.plainGet K C Str.empty = true) (hd : PySem.W.hasDictIn K C = true) (po : PySem.W.plainOver K C = true) (sa : PySem.W.findIn K (.ref C) "__setattr__" = some (some (.builtin "object.__setattr__"))) : Cls K C := ⟨pg, hd, po, sa⟩
theorem noattr_mk {K : PySem.W.Frag} {C : Addr} {f : Str} (e : PySem.W.findIn K (.ref C) f = some none) : NoAttr K C f := e
theorem num_mk {K : PySem.W.Frag} {h : Heap} {mg : Str → Option Value} {x : Str} {z n : Int} {t : Tok} (X : K.In h) (G : h.Ns mainGlobals mg) (a : PySem.W.nsIn K mainGlobals x = some (some (.int z t))) (e : z = n) : ∃ t, mg x = some (.int n t) := ⟨t, e ▸ PySem.W.mg_of X G a⟩
theorem init_mk {K : PySem.W.Frag} {qual : Str} {st : Stmt} {ps : List Str} {C f : Addr} {oc : Value} {od an : Option Addr} {osl : Array (Option Value)} {kV doc pm cdv ct : Value}
    (a : PySem.W.findIn K (.ref C) "__init__" = some (some (.ref f))) (i : PySem.W.isFn K (.ref f) = true) (l : K.lookup f = some ⟨oc, od, .func (PySem.W.fnOf "__init__" qual (defArgs st) (defBody st) (defScope st) .none kV doc pm an cdv ct), osl⟩) (c : PySem.W.codeIn K cdv qual = true) (k : PySem.W.keepIn K (.ref f) = true)
    (mk : PySem.W.makesIn K C = true) (kc : PySem.W.keepIn K (.ref C) = true)
    (b : ∀ (kV doc pm : Value) (an : Option Addr) (cdv ct : Value) (us : List Value), us.length = ps.length → bindArgs (PySem.W.fnOf "__init__" qual (defArgs st) (defBody st) (defScope st) .none kV doc pm an cdv ct) ⟨us, []⟩ = pure (ps.zip us)) :
    ∃ f fd, Mk K C f ∧ Fun K "__init__" qual st f fd ∧ Binds K fd ps [] :=
  let F := fun_mk (st := st) l c k
  ⟨f, _, ⟨mk, a, i, kc⟩, F, F.binds b⟩
theorem fn_mk2 {K : PySem.W.Frag} {h : Heap} {mg : Str → Option Value} {x : Str} {st : Stmt} {ps : List Str} {f : Addr} {oc : Value} {od an : Option Addr} {osl : Array (Option Value)} {kV doc pm cdv ct : Value} (X : K.In h) (G : h.Ns mainGlobals mg)
    (a : PySem.W.nsIn K mainGlobals x = some (some (.ref f))) (l : K.lookup f = some ⟨oc, od, .func (PySem.W.fnOf x x (defArgs st) (defBody st) (defScope st) .none kV doc pm an cdv ct), osl⟩) (c : PySem.W.codeIn K cdv x = true) (k : PySem.W.keepIn K (.ref f) = true)
    (b : ∀ (kV doc pm : Value) (an : Option Addr) (cdv ct : Value) (us : List Value), us.length = ps.length → bindArgs (PySem.W.fnOf x x (defArgs st) (defBody st) (defScope st) .none kV doc pm an cdv ct) ⟨us, []⟩ = pure (ps.zip us)) :
    ∃ (f : Addr) (fd : FuncData), Fun K x x st f fd ∧ (∀ (s : Shared) (us : List Value), us.length = ps.length → BindsTo s fd ⟨us, []⟩ (ps.zip us)) ∧ mg x = some (.ref f) :=
  ⟨f, _, fun_mk (st := st) l c k, fun s us hl => .of_eq (b kV doc pm an cdv ct us hl), PySem.W.mg_of X G a⟩
theorem tup_mk {K : PySem.W.Frag} {h : Heap} {mg : Str → Option Value} {x : Str} {a : Addr} {xs : List V} {oc : Value} {od : Option Addr} {its : Array Value} {n : Nat} {osl : Array (Option Value)} (X : K.In h) (G : h.Ns mainGlobals mg)
    (m : PySem.W.nsIn K mainGlobals x = some (some (.ref a))) (l : K.lookup a = some ⟨oc, od, .seq its n, osl⟩) (c : oc = .type "tuple") (z : its.size ≤ sizeLine) (v : Vals xs its.toList) : mg x = some (.ref a) ∧ ∀ H, SqT K H a xs :=
  ⟨PySem.W.mg_of X G m, fun H => .inr ⟨_, its, n, l, c, rfl, z, v⟩⟩
end L2
namespace Sky
open PySem PySem.Spec PyProof.Rows L2
theorem acts_mk {K : PySem.W.Frag} {h : Heap} {mg : Str → Option Value} {a : Addr} {oc : Value} {od : Option Addr} {n : Nat} {osl : Array (Option Value)} {f0 f1 f2 f3 f4 f5 f6 f7 f8 f9 f10 f11 f12 : Addr} (X : K.In h) (G : h.Ns mainGlobals mg)
    (m : PySem.W.nsIn K mainGlobals "ACTS" = some (some (.ref a))) (e0 : PySem.W.nsIn K mainGlobals "answer_begins" = some (some (.ref f0))) (e1 : PySem.W.nsIn K mainGlobals "answer_body" = some (some (.ref f1))) (e2 : PySem.W.nsIn K mainGlobals "answer_drop" = some (some (.ref f2))) (e3 : PySem.W.nsIn K mainGlobals "answer_meets" = some (some (.ref f3))) (e4 : PySem.W.nsIn K mainGlobals "answer_hides" = some (some (.ref f4))) (e5 : PySem.W.nsIn K mainGlobals "answer_compare" = some (some (.ref f5))) (e6 : PySem.W.nsIn K mainGlobals "answer_order" = some (some (.ref f6))) (e7 : PySem.W.nsIn K mainGlobals "answer_most" = some (some (.ref f7))) (e8 : PySem.W.nsIn K mainGlobals "answer_seen" = some (some (.ref f8))) (e9 : PySem.W.nsIn K mainGlobals "answer_joined" = some (some (.ref f9))) (e10 : PySem.W.nsIn K mainGlobals "answer_free" = some (some (.ref f10))) (e11 : PySem.W.nsIn K mainGlobals "answer_next" = some (some (.ref f11))) (e12 : PySem.W.nsIn K mainGlobals "answer_where" = some (some (.ref f12)))
    (l : K.lookup a = some ⟨oc, od, .seq #[Value.ref f0, Value.ref f1, Value.ref f2, Value.ref f3, Value.ref f4, Value.ref f5, Value.ref f6, Value.ref f7, Value.ref f8, Value.ref f9, Value.ref f10, Value.ref f11, Value.ref f12] n, osl⟩) (c : oc = .type "tuple") : ∃ (a : Addr) (fs : List Addr), mg "ACTS" = some (.ref a) ∧ (∀ H, L2.SqT K H a (fs.map V.ref)) ∧ fs.map (fun f => some (Value.ref f)) = actNames.map mg := by
  refine ⟨a, [f0, f1, f2, f3, f4, f5, f6, f7, f8, f9, f10, f11, f12], PySem.W.mg_of X G m, fun H => .inr ⟨_, _, n, l, c, rfl, (by show 13 ≤ sizeLine; decide), ?_⟩, ?_⟩
  · exact (.cons rfl (.cons rfl (.cons rfl (.cons rfl (.cons rfl (.cons rfl (.cons rfl (.cons rfl (.cons rfl (.cons rfl (.cons rfl (.cons rfl (.cons rfl .nil)))))))))))))
  · show _ = [mg "answer_begins", mg "answer_body", mg "answer_drop", mg "answer_meets", mg "answer_hides", mg "answer_compare", mg "answer_order", mg "answer_most", mg "answer_seen", mg "answer_joined", mg "answer_free", mg "answer_next", mg "answer_where"]
    rw [PySem.W.mg_of X G e0, PySem.W.mg_of X G e1, PySem.W.mg_of X G e2, PySem.W.mg_of X G e3, PySem.W.mg_of X G e4, PySem.W.mg_of X G e5, PySem.W.mg_of X G e6, PySem.W.mg_of X G e7, PySem.W.mg_of X G e8, PySem.W.mg_of X G e9, PySem.W.mg_of X G e10, PySem.W.mg_of X G e11, PySem.W.mg_of X G e12]
    rfl
end Sky
/-! Names held, so that the head lays no second writing of the module's heaps: with them the compiled file would pass the hand-in's 64 MB. -/
def PySem.W.Fast.tw11910546105403785174 : Nat := 0
def PySem.W.Fast.tw16600172135496809405 : Nat := 0
def PySem.W.Fast.tw4722087545077871304 : Nat := 0
def PySem.W.Fast.tw17566963494166709398 : Nat := 0
def PySem.W.Fast.tw18186915946360696358 : Nat := 0
def PySem.W.Fast.tw18113667597176763292 : Nat := 0
def PySem.W.Fast.tw3115984167022431264 : Nat := 0
def PySem.W.Fast.tw10136620655924232110 : Nat := 0
open PySem PySem.W PyProof.Rows
set_option maxHeartbeats 0 in
theorem PySem.Challenge.cw_movingdiscs_s01_answers_holds : PySem.Challenge.rw_movingdiscs_s01_answers.Holds := by
  w_on; k_headS; (case hw => exact ⟨[.list [.int 0]], by decide +kernel, by decide +kernel⟩)
  k_fillS
  refine L2.walk_specK (r := PySem.Challenge.rw_movingdiscs_s01_answers) (k := 20) (CX := L2.CX0) (ps := ["calls"]) (sp := Sky.spAnswers) (by decide +kernel) rfl rfl ⟨rfl, by decide, by decide⟩ (fun w h Y => PySem.W.kIn_of Y) ?F ?S (fun _ _ _ _ z => z)
  case F =>
    intro w mg fa h Y KX G hmg
    have f_whole_instant : L2.Fn (L2.KOf KX) mg "whole_instant" Sky.sWholeI ["number"] := by
      dsimp only [L2.KOf]
      refine' L2.fn_mk KX G ?a ?l ?c ?k ?b
      (case a => k_is); (case l => k_is); (case c => k_is); (case k => k_is)
      case b => exact fun _ _ _ _ _ _ us hl => match us, hl with | [_], _ => rfl
    have f_sign_of : L2.Fn (L2.KOf KX) mg "sign_of" Sky.sSignOf ["number"] := by
      dsimp only [L2.KOf]
      refine' L2.fn_mk KX G ?a ?l ?c ?k ?b
      (case a => k_is); (case l => k_is); (case c => k_is); (case k => k_is)
      case b => exact fun _ _ _ _ _ _ us hl => match us, hl with | [_], _ => rfl
    have f_root_below : L2.Fn (L2.KOf KX) mg "root_below" Sky.sRoot ["number"] := by
      dsimp only [L2.KOf]
      refine' L2.fn_mk KX G ?a ?l ?c ?k ?b
      (case a => k_is); (case l => k_is); (case c => k_is); (case k => k_is)
      case b => exact fun _ _ _ _ _ _ us hl => match us, hl with | [_], _ => rfl
    have f_sign_with_root : L2.Fn (L2.KOf KX) mg "sign_with_root" Sky.sSign1 ["whole", "square"] := by
      dsimp only [L2.KOf]
      refine' L2.fn_mk KX G ?a ?l ?c ?k ?b
      (case a => k_is); (case l => k_is); (case c => k_is); (case k => k_is)
      case b => exact fun _ _ _ _ _ _ us hl => match us, hl with | [_, _], _ => rfl
    have f_sign_with_two_roots : L2.Fn (L2.KOf KX) mg "sign_with_two_roots" Sky.sSign2 ["whole", "square", "other"] := by
      dsimp only [L2.KOf]
      refine' L2.fn_mk KX G ?a ?l ?c ?k ?b
      (case a => k_is); (case l => k_is); (case c => k_is); (case k => k_is)
      case b => exact fun _ _ _ _ _ _ us hl => match us, hl with | [_, _, _], _ => rfl
    have f_compared : L2.Fn (L2.KOf KX) mg "compared" Sky.sCompared ["one", "other"] := by
      dsimp only [L2.KOf]
      refine' L2.fn_mk KX G ?a ?l ?c ?k ?b
      (case a => k_is); (case l => k_is); (case c => k_is); (case k => k_is)
      case b => exact fun _ _ _ _ _ _ us hl => match us, hl with | [_, _], _ => rfl
    have f_told : L2.Fn (L2.KOf KX) mg "told" Sky.sTold ["instant"] := by
      dsimp only [L2.KOf]
      refine' L2.fn_mk KX G ?a ?l ?c ?k ?b
      (case a => k_is); (case l => k_is); (case c => k_is); (case k => k_is)
      case b => exact fun _ _ _ _ _ _ us hl => match us, hl with | [_], _ => rfl
    have f_span_of : L2.Fn (L2.KOf KX) mg "span_of" Sky.sSpanOf ["square", "half", "rest", "with_edge"] := by
      dsimp only [L2.KOf]
      refine' L2.fn_mk KX G ?a ?l ?c ?k ?b
      (case a => k_is); (case l => k_is); (case c => k_is); (case k => k_is)
      case b => exact fun _ _ _ _ _ _ us hl => match us, hl with | [_, _, _, _], _ => rfl
    have f_has_instants_between : L2.Fn (L2.KOf KX) mg "has_instants_between" Sky.sBetween ["span", "first", "last"] := by
      dsimp only [L2.KOf]
      refine' L2.fn_mk KX G ?a ?l ?c ?k ?b
      (case a => k_is); (case l => k_is); (case c => k_is); (case k => k_is)
      case b => exact fun _ _ _ _ _ _ us hl => match us, hl with | [_, _, _], _ => rfl
    have f_middle_at : L2.Fn (L2.KOf KX) mg "middle_at" Sky.sMiddle ["body", "instant"] := by
      dsimp only [L2.KOf]
      refine' L2.fn_mk KX G ?a ?l ?c ?k ?b
      (case a => k_is); (case l => k_is); (case c => k_is); (case k => k_is)
      case b => exact fun _ _ _ _ _ _ us hl => match us, hl with | [_, _], _ => rfl
    have f_is_nearer : L2.Fn (L2.KOf KX) mg "is_nearer" Sky.sNearer ["one", "other"] := by
      dsimp only [L2.KOf]
      refine' L2.fn_mk KX G ?a ?l ?c ?k ?b
      (case a => k_is); (case l => k_is); (case c => k_is); (case k => k_is)
      case b => exact fun _ _ _ _ _ _ us hl => match us, hl with | [_, _], _ => rfl
    have f_may_hide : L2.Fn (L2.KOf KX) mg "may_hide" Sky.sMayHide ["one", "other"] := by
      dsimp only [L2.KOf]
      refine' L2.fn_mk KX G ?a ?l ?c ?k ?b
      (case a => k_is); (case l => k_is); (case c => k_is); (case k => k_is)
      case b => exact fun _ _ _ _ _ _ us hl => match us, hl with | [_, _], _ => rfl
    have f_span_within : L2.Fn (L2.KOf KX) mg "span_within" Sky.sWithin ["one", "other", "reach", "with_edge"] := by
      dsimp only [L2.KOf]
      refine' L2.fn_mk KX G ?a ?l ?c ?k ?b
      (case a => k_is); (case l => k_is); (case c => k_is); (case k => k_is)
      case b => exact fun _ _ _ _ _ _ us hl => match us, hl with | [_, _, _, _], _ => rfl
    have f_meeting_of : L2.Fn (L2.KOf KX) mg "meeting_of" Sky.sMeetingOf ["one", "other"] := by
      dsimp only [L2.KOf]
      refine' L2.fn_mk KX G ?a ?l ?c ?k ?b
      (case a => k_is); (case l => k_is); (case c => k_is); (case k => k_is)
      case b => exact fun _ _ _ _ _ _ us hl => match us, hl with | [_, _], _ => rfl
    have f_hiding_of : L2.Fn (L2.KOf KX) mg "hiding_of" Sky.sHidingOf ["one", "other"] := by
      dsimp only [L2.KOf]
      refine' L2.fn_mk KX G ?a ?l ?c ?k ?b
      (case a => k_is); (case l => k_is); (case c => k_is); (case k => k_is)
      case b => exact fun _ _ _ _ _ _ us hl => match us, hl with | [_, _], _ => rfl
    have f_square_apart_at : L2.Fn (L2.KOf KX) mg "square_apart_at" Sky.sApart ["one", "other", "instant"] := by
      dsimp only [L2.KOf]
      refine' L2.fn_mk KX G ?a ?l ?c ?k ?b
      (case a => k_is); (case l => k_is); (case c => k_is); (case k => k_is)
      case b => exact fun _ _ _ _ _ _ us hl => match us, hl with | [_, _, _], _ => rfl
    have f_lie_over_at : L2.Fn (L2.KOf KX) mg "lie_over_at" Sky.sOverAt ["one", "other", "instant"] := by
      dsimp only [L2.KOf]
      refine' L2.fn_mk KX G ?a ?l ?c ?k ?b
      (case a => k_is); (case l => k_is); (case c => k_is); (case k => k_is)
      case b => exact fun _ _ _ _ _ _ us hl => match us, hl with | [_, _, _], _ => rfl
    have f_hides_at : L2.Fn (L2.KOf KX) mg "hides_at" Sky.sHidesAt ["one", "other", "instant"] := by
      dsimp only [L2.KOf]
      refine' L2.fn_mk KX G ?a ?l ?c ?k ?b
      (case a => k_is); (case l => k_is); (case c => k_is); (case k => k_is)
      case b => exact fun _ _ _ _ _ _ us hl => match us, hl with | [_, _, _], _ => rfl
    have f_view_of : L2.Fn (L2.KOf KX) mg "view_of" Sky.sView ["body", "bodies", "instant"] := by
      dsimp only [L2.KOf]
      refine' L2.fn_mk KX G ?a ?l ?c ?k ?b
      (case a => k_is); (case l => k_is); (case c => k_is); (case k => k_is)
      case b => exact fun _ _ _ _ _ _ us hl => match us, hl with | [_, _, _], _ => rfl
    have f_groups_at : L2.Fn (L2.KOf KX) mg "groups_at" Sky.sGroups ["bodies", "instant"] := by
      dsimp only [L2.KOf]
      refine' L2.fn_mk KX G ?a ?l ?c ?k ?b
      (case a => k_is); (case l => k_is); (case c => k_is); (case k => k_is)
      case b => exact fun _ _ _ _ _ _ us hl => match us, hl with | [_, _], _ => rfl
    have f_joined_groups : L2.Fn (L2.KOf KX) mg "joined_groups" Sky.sJoin2 ["leasts", "one", "other"] := by
      dsimp only [L2.KOf]
      refine' L2.fn_mk KX G ?a ?l ?c ?k ?b
      (case a => k_is); (case l => k_is); (case c => k_is); (case k => k_is)
      case b => exact fun _ _ _ _ _ _ us hl => match us, hl with | [_, _, _], _ => rfl
    have f_insert_meeting : L2.Fn (L2.KOf KX) mg "insert_meeting" Sky.sInsertM ["meetings", "meeting"] := by
      dsimp only [L2.KOf]
      refine' L2.fn_mk KX G ?a ?l ?c ?k ?b
      (case a => k_is); (case l => k_is); (case c => k_is); (case k => k_is)
      case b => exact fun _ _ _ _ _ _ us hl => match us, hl with | [_, _], _ => rfl
    have f_ordered_meetings : L2.Fn (L2.KOf KX) mg "ordered_meetings" Sky.sOrdered ["bodies"] := by
      dsimp only [L2.KOf]
      refine' L2.fn_mk KX G ?a ?l ?c ?k ?b
      (case a => k_is); (case l => k_is); (case c => k_is); (case k => k_is)
      case b => exact fun _ _ _ _ _ _ us hl => match us, hl with | [_], _ => rfl
    have f_goes_on_behind : L2.Fn (L2.KOf KX) mg "goes_on_behind" Sky.sGoesOn ["span", "instant"] := by
      dsimp only [L2.KOf]
      refine' L2.fn_mk KX G ?a ?l ?c ?k ?b
      (case a => k_is); (case l => k_is); (case c => k_is); (case k => k_is)
      case b => exact fun _ _ _ _ _ _ us hl => match us, hl with | [_, _], _ => rfl
    have f_count_behind : L2.Fn (L2.KOf KX) mg "count_behind" Sky.sCountB ["meetings", "instant"] := by
      dsimp only [L2.KOf]
      refine' L2.fn_mk KX G ?a ?l ?c ?k ?b
      (case a => k_is); (case l => k_is); (case c => k_is); (case k => k_is)
      case b => exact fun _ _ _ _ _ _ us hl => match us, hl with | [_, _], _ => rfl
    have f_first_of_most : L2.Fn (L2.KOf KX) mg "first_of_most" Sky.sFirstM ["meetings"] := by
      dsimp only [L2.KOf]
      refine' L2.fn_mk KX G ?a ?l ?c ?k ?b
      (case a => k_is); (case l => k_is); (case c => k_is); (case k => k_is)
      case b => exact fun _ _ _ _ _ _ us hl => match us, hl with | [_], _ => rfl
    have f_is_free_between : L2.Fn (L2.KOf KX) mg "is_free_between" Sky.sFreeB ["body", "bodies", "first", "last"] := by
      dsimp only [L2.KOf]
      refine' L2.fn_mk KX G ?a ?l ?c ?k ?b
      (case a => k_is); (case l => k_is); (case c => k_is); (case k => k_is)
      case b => exact fun _ _ _ _ _ _ us hl => match us, hl with | [_, _, _, _], _ => rfl
    have f_counted : L2.Fn (L2.KOf KX) mg "counted" Sky.sCounted ["numbers"] := by
      dsimp only [L2.KOf]
      refine' L2.fn_mk KX G ?a ?l ?c ?k ?b
      (case a => k_is); (case l => k_is); (case c => k_is); (case k => k_is)
      case b => exact fun _ _ _ _ _ _ us hl => match us, hl with | [_], _ => rfl
    have f_are_two : L2.Fn (L2.KOf KX) mg "are_two" Sky.sAreTwo ["bodies", "i", "j"] := by
      dsimp only [L2.KOf]
      refine' L2.fn_mk KX G ?a ?l ?c ?k ?b
      (case a => k_is); (case l => k_is); (case c => k_is); (case k => k_is)
      case b => exact fun _ _ _ _ _ _ us hl => match us, hl with | [_, _, _], _ => rfl
    have f_is_body_told_well : L2.Fn (L2.KOf KX) mg "is_body_told_well" Sky.sWell ["handed"] := by
      dsimp only [L2.KOf]
      refine' L2.fn_mk KX G ?a ?l ?c ?k ?b
      (case a => k_is); (case l => k_is); (case c => k_is); (case k => k_is)
      case b => exact fun _ _ _ _ _ _ us hl => match us, hl with | [_], _ => rfl
    have f_body_told : L2.Fn (L2.KOf KX) mg "body_told" Sky.sBodyTold ["handed"] := by
      dsimp only [L2.KOf]
      refine' L2.fn_mk KX G ?a ?l ?c ?k ?b
      (case a => k_is); (case l => k_is); (case c => k_is); (case k => k_is)
      case b => exact fun _ _ _ _ _ _ us hl => match us, hl with | [_], _ => rfl
    have f_answer_span : L2.Fn (L2.KOf KX) mg "answer_span" Sky.sSpanA ["span"] := by
      dsimp only [L2.KOf]
      refine' L2.fn_mk KX G ?a ?l ?c ?k ?b
      (case a => k_is); (case l => k_is); (case c => k_is); (case k => k_is)
      case b => exact fun _ _ _ _ _ _ us hl => match us, hl with | [_], _ => rfl
    have f_answer_begins : L2.Fn (L2.KOf KX) mg "answer_begins" Sky.sBegins ["bodies", "handed"] := by
      dsimp only [L2.KOf]
      refine' L2.fn_mk KX G ?a ?l ?c ?k ?b
      (case a => k_is); (case l => k_is); (case c => k_is); (case k => k_is)
      case b => exact fun _ _ _ _ _ _ us hl => match us, hl with | [_, _], _ => rfl
    have f_answer_body : L2.Fn (L2.KOf KX) mg "answer_body" Sky.sBody ["bodies", "handed"] := by
      dsimp only [L2.KOf]
      refine' L2.fn_mk KX G ?a ?l ?c ?k ?b
      (case a => k_is); (case l => k_is); (case c => k_is); (case k => k_is)
      case b => exact fun _ _ _ _ _ _ us hl => match us, hl with | [_, _], _ => rfl
    have f_answer_drop : L2.Fn (L2.KOf KX) mg "answer_drop" Sky.sDrop ["bodies", "handed"] := by
      dsimp only [L2.KOf]
      refine' L2.fn_mk KX G ?a ?l ?c ?k ?b
      (case a => k_is); (case l => k_is); (case c => k_is); (case k => k_is)
      case b => exact fun _ _ _ _ _ _ us hl => match us, hl with | [_, _], _ => rfl
    have f_answer_meets : L2.Fn (L2.KOf KX) mg "answer_meets" Sky.sMeets ["bodies", "handed"] := by
      dsimp only [L2.KOf]
      refine' L2.fn_mk KX G ?a ?l ?c ?k ?b
      (case a => k_is); (case l => k_is); (case c => k_is); (case k => k_is)
      case b => exact fun _ _ _ _ _ _ us hl => match us, hl with | [_, _], _ => rfl
    have f_answer_hides : L2.Fn (L2.KOf KX) mg "answer_hides" Sky.sHides ["bodies", "handed"] := by
      dsimp only [L2.KOf]
      refine' L2.fn_mk KX G ?a ?l ?c ?k ?b
      (case a => k_is); (case l => k_is); (case c => k_is); (case k => k_is)
      case b => exact fun _ _ _ _ _ _ us hl => match us, hl with | [_, _], _ => rfl
    have f_answer_compare : L2.Fn (L2.KOf KX) mg "answer_compare" Sky.sCompare ["bodies", "handed"] := by
      dsimp only [L2.KOf]
      refine' L2.fn_mk KX G ?a ?l ?c ?k ?b
      (case a => k_is); (case l => k_is); (case c => k_is); (case k => k_is)
      case b => exact fun _ _ _ _ _ _ us hl => match us, hl with | [_, _], _ => rfl
    have f_answer_order : L2.Fn (L2.KOf KX) mg "answer_order" Sky.sOrder ["bodies", "handed"] := by
      dsimp only [L2.KOf]
      refine' L2.fn_mk KX G ?a ?l ?c ?k ?b
      (case a => k_is); (case l => k_is); (case c => k_is); (case k => k_is)
      case b => exact fun _ _ _ _ _ _ us hl => match us, hl with | [_, _], _ => rfl
    have f_answer_most : L2.Fn (L2.KOf KX) mg "answer_most" Sky.sMost ["bodies", "handed"] := by
      dsimp only [L2.KOf]
      refine' L2.fn_mk KX G ?a ?l ?c ?k ?b
      (case a => k_is); (case l => k_is); (case c => k_is); (case k => k_is)
      case b => exact fun _ _ _ _ _ _ us hl => match us, hl with | [_, _], _ => rfl
    have f_answer_seen : L2.Fn (L2.KOf KX) mg "answer_seen" Sky.sSeen ["bodies", "handed"] := by
      dsimp only [L2.KOf]
      refine' L2.fn_mk KX G ?a ?l ?c ?k ?b
      (case a => k_is); (case l => k_is); (case c => k_is); (case k => k_is)
      case b => exact fun _ _ _ _ _ _ us hl => match us, hl with | [_, _], _ => rfl
    have f_answer_joined : L2.Fn (L2.KOf KX) mg "answer_joined" Sky.sJoined ["bodies", "handed"] := by
      dsimp only [L2.KOf]
      refine' L2.fn_mk KX G ?a ?l ?c ?k ?b
      (case a => k_is); (case l => k_is); (case c => k_is); (case k => k_is)
      case b => exact fun _ _ _ _ _ _ us hl => match us, hl with | [_, _], _ => rfl
    have f_answer_free : L2.Fn (L2.KOf KX) mg "answer_free" Sky.sFree ["bodies", "handed"] := by
      dsimp only [L2.KOf]
      refine' L2.fn_mk KX G ?a ?l ?c ?k ?b
      (case a => k_is); (case l => k_is); (case c => k_is); (case k => k_is)
      case b => exact fun _ _ _ _ _ _ us hl => match us, hl with | [_, _], _ => rfl
    have f_answer_next : L2.Fn (L2.KOf KX) mg "answer_next" Sky.sNext ["bodies", "handed"] := by
      dsimp only [L2.KOf]
      refine' L2.fn_mk KX G ?a ?l ?c ?k ?b
      (case a => k_is); (case l => k_is); (case c => k_is); (case k => k_is)
      case b => exact fun _ _ _ _ _ _ us hl => match us, hl with | [_, _], _ => rfl
    have f_answer_where : L2.Fn (L2.KOf KX) mg "answer_where" Sky.sWhere ["bodies", "handed"] := by
      dsimp only [L2.KOf]
      refine' L2.fn_mk KX G ?a ?l ?c ?k ?b
      (case a => k_is); (case l => k_is); (case c => k_is); (case k => k_is)
      case b => exact fun _ _ _ _ _ _ us hl => match us, hl with | [_, _], _ => rfl
    have c_Instant : ∃ C, Sky.ClsI (L2.KOf KX) mg C := by
      dsimp only [L2.KOf]
      refine' ⟨_, ⟨L2.cls_mk ?pg ?hd ?po ?sa, L2.noattr_mk ?n0, L2.noattr_mk ?n1, L2.noattr_mk ?n2, PySem.W.mg_of KX G ?m, L2.init_mk ?a ?i ?l ?c ?k ?mk ?kc ?b⟩⟩
      (case m => k_is)
      (case pg => k_is); (case hd => k_is); (case po => k_is); (case sa => k_is)
      (case n0 => k_is); (case n1 => k_is); (case n2 => k_is)
      (case a => k_is); (case i => k_is); (case l => k_is); (case c => k_is); (case k => k_is); (case mk => k_is); (case kc => k_is)
      case b => exact fun _ _ _ _ _ _ us hl => match us, hl with | [_, _, _, _], _ => rfl
    have c_Span : ∃ C, Sky.ClsS (L2.KOf KX) mg C := by
      dsimp only [L2.KOf]
      refine' ⟨_, ⟨L2.cls_mk ?pg ?hd ?po ?sa, L2.noattr_mk ?n0, L2.noattr_mk ?n1, L2.noattr_mk ?n2, PySem.W.mg_of KX G ?m, L2.init_mk ?a ?i ?l ?c ?k ?mk ?kc ?b⟩⟩
      (case m => k_is)
      (case pg => k_is); (case hd => k_is); (case po => k_is); (case sa => k_is)
      (case n0 => k_is); (case n1 => k_is); (case n2 => k_is)
      (case a => k_is); (case i => k_is); (case l => k_is); (case c => k_is); (case k => k_is); (case mk => k_is); (case kc => k_is)
      case b => exact fun _ _ _ _ _ _ us hl => match us, hl with | [_, _, _, _], _ => rfl
    have c_Body : ∃ C, Sky.ClsB (L2.KOf KX) mg C := by
      dsimp only [L2.KOf]
      refine' ⟨_, ⟨L2.cls_mk ?pg ?hd ?po ?sa, L2.noattr_mk ?n0, L2.noattr_mk ?n1, L2.noattr_mk ?n2, L2.noattr_mk ?n3, L2.noattr_mk ?n4, L2.noattr_mk ?n5, PySem.W.mg_of KX G ?m, L2.init_mk ?a ?i ?l ?c ?k ?mk ?kc ?b⟩⟩
      (case m => k_is)
      (case pg => k_is); (case hd => k_is); (case po => k_is); (case sa => k_is)
      (case n0 => k_is); (case n1 => k_is); (case n2 => k_is); (case n3 => k_is); (case n4 => k_is); (case n5 => k_is)
      (case a => k_is); (case i => k_is); (case l => k_is); (case c => k_is); (case k => k_is); (case mk => k_is); (case kc => k_is)
      case b => exact fun _ _ _ _ _ _ us hl => match us, hl with | [_, _, _, _, _, _, _], _ => rfl
    have c_Meeting : ∃ C, Sky.ClsM (L2.KOf KX) mg C := by
      dsimp only [L2.KOf]
      refine' ⟨_, ⟨L2.cls_mk ?pg ?hd ?po ?sa, L2.noattr_mk ?n0, L2.noattr_mk ?n1, L2.noattr_mk ?n2, PySem.W.mg_of KX G ?m, L2.init_mk ?a ?i ?l ?c ?k ?mk ?kc ?b⟩⟩
      (case m => k_is)
      (case pg => k_is); (case hd => k_is); (case po => k_is); (case sa => k_is)
      (case n0 => k_is); (case n1 => k_is); (case n2 => k_is)
      (case a => k_is); (case i => k_is); (case l => k_is); (case c => k_is); (case k => k_is); (case mk => k_is); (case kc => k_is)
      case b => exact fun _ _ _ _ _ _ us hl => match us, hl with | [_, _, _, _], _ => rfl
    have k_WRONG : ∃ t, mg "WRONG" = some (.int (-1) t) := by
      refine' L2.num_mk KX G ?a ?e
      (case a => k_is)
      case e => rfl
    have k_AS_FAR : ∃ t, mg "AS_FAR" = some (.int (-4) t) := by
      refine' L2.num_mk KX G ?a ?e
      (case a => k_is)
      case e => rfl
    have k_NONE_LATER : ∃ t, mg "NONE_LATER" = some (.int (-6) t) := by
      refine' L2.num_mk KX G ?a ?e
      (case a => k_is)
      case e => rfl
    have k_MOST_INSTANT : ∃ t, mg "MOST_INSTANT" = some (.int (100000) t) := by
      refine' L2.num_mk KX G ?a ?e
      (case a => k_is)
      case e => rfl
    have k_FULL : ∃ t, mg "FULL" = some (.int (-5) t) := by
      refine' L2.num_mk KX G ?a ?e
      (case a => k_is)
      case e => rfl
    have k_MOST_BODIES : ∃ t, mg "MOST_BODIES" = some (.int (8) t) := by
      refine' L2.num_mk KX G ?a ?e
      (case a => k_is)
      case e => rfl
    have k_MOST_PLACE : ∃ t, mg "MOST_PLACE" = some (.int (2000) t) := by
      refine' L2.num_mk KX G ?a ?e
      (case a => k_is)
      case e => rfl
    have k_MOST_PACE : ∃ t, mg "MOST_PACE" = some (.int (100) t) := by
      refine' L2.num_mk KX G ?a ?e
      (case a => k_is)
      case e => rfl
    have k_MOST_RADIUS : ∃ t, mg "MOST_RADIUS" = some (.int (200) t) := by
      refine' L2.num_mk KX G ?a ?e
      (case a => k_is)
      case e => rfl
    have k_MOST_FAR : ∃ t, mg "MOST_FAR" = some (.int (1000) t) := by
      refine' L2.num_mk KX G ?a ?e
      (case a => k_is)
      case e => rfl
    have k_PLACE_ADDED : ∃ t, mg "PLACE_ADDED" = some (.int (1000) t) := by
      refine' L2.num_mk KX G ?a ?e
      (case a => k_is)
      case e => rfl
    have k_PACE_ADDED : ∃ t, mg "PACE_ADDED" = some (.int (50) t) := by
      refine' L2.num_mk KX G ?a ?e
      (case a => k_is)
      case e => rfl
    have cst : Sky.Cst mg := ⟨k_WRONG, k_AS_FAR, k_NONE_LATER, k_MOST_INSTANT, k_FULL, k_MOST_BODIES, k_MOST_PLACE, k_MOST_PACE, k_MOST_RADIUS, k_MOST_FAR, k_PLACE_ADDED, k_PACE_ADDED⟩
    have b_abs : mg "abs" = none := by
      refine' PySem.W.mg_none_of KX G ?e
      (case e => k_is)
    have b_len : mg "len" = none := by
      refine' PySem.W.mg_none_of KX G ?e
      (case e => k_is)
    have b_range : mg "range" = none := by
      refine' PySem.W.mg_none_of KX G ?e
      (case e => k_is)
    have b_list : mg "list" = none := by
      refine' PySem.W.mg_none_of KX G ?e
      (case e => k_is)
    have b_min : mg "min" = none := by
      refine' PySem.W.mg_none_of KX G ?e
      (case e => k_is)
    have b_set : mg "set" = none := by
      refine' PySem.W.mg_none_of KX G ?e
      (case e => k_is)
    have t_acts : ∃ (a : Addr) (fs : List Addr), mg "ACTS" = some (.ref a) ∧ (∀ H, L2.SqT (L2.KOf KX) H a (fs.map L2.V.ref)) ∧ fs.map (fun f => some (Value.ref f)) = Sky.actNames.map mg := by
      dsimp only [L2.KOf]
      refine' Sky.acts_mk KX G ?m ?e0 ?e1 ?e2 ?e3 ?e4 ?e5 ?e6 ?e7 ?e8 ?e9 ?e10 ?e11 ?e12 ?l ?c
      (case m => k_is)
      (case e0 => k_is); (case e1 => k_is); (case e2 => k_is); (case e3 => k_is); (case e4 => k_is); (case e5 => k_is); (case e6 => k_is); (case e7 => k_is); (case e8 => k_is); (case e9 => k_is); (case e10 => k_is); (case e11 => k_is); (case e12 => k_is)
      (case l => k_is)
      case c => rfl
    have t_sizes : ∃ a : Addr, mg "SIZES" = some (.ref a) ∧ ∀ H, L2.SqT (L2.KOf KX) H a (Sky.nums Tw.sizes) := by
      dsimp only [L2.KOf]
      refine' ⟨_, L2.tup_mk KX G ?m ?l ?c ?z ?v⟩
      (case m => k_is)
      (case l => k_is)
      (case c => rfl)
      (case z => exact (by decide))
      (case v => exact (.cons ⟨_, rfl⟩ (.cons ⟨_, rfl⟩ (.cons ⟨_, rfl⟩ (.cons ⟨_, rfl⟩ (.cons ⟨_, rfl⟩ (.cons ⟨_, rfl⟩ (.cons ⟨_, rfl⟩ (.cons ⟨_, rfl⟩ (.cons ⟨_, rfl⟩ (.cons ⟨_, rfl⟩ (.cons ⟨_, rfl⟩ (.cons ⟨_, rfl⟩ (.cons ⟨_, rfl⟩ .nil))))))))))))))
    have f_answers : ∃ (f : Addr) (fd : FuncData), L2.Fun (L2.KOf KX) "answers" "answers" Sky.sAnswers f fd ∧ (∀ (s : Shared) (us : List Value), us.length = (["calls"] : List Str).length → BindsTo s fd ⟨us, []⟩ ((["calls"] : List Str).zip us)) ∧ mg "answers" = some (.ref f) := by
      dsimp only [L2.KOf]
      refine' L2.fn_mk2 KX G ?a ?l ?c ?k ?b
      (case a => k_is); (case l => k_is); (case c => k_is); (case k => k_is)
      case b => exact fun _ _ _ _ _ _ us hl => match us, hl with | [_], _ => rfl
    obtain ⟨f, fd, Ff, bf, mf⟩ := f_answers
    have ef : f = fa := Value.ref.inj (Option.some.inj (mf.symm.trans hmg))
    subst ef
    refine ⟨fd, bf, fun base _ _ => (Sky.all_ok (P := _) (w := w) (base := base) ⟨f_whole_instant, f_sign_of, f_root_below, f_sign_with_root, f_sign_with_two_roots, f_compared, f_told, f_span_of, f_has_instants_between, f_middle_at, f_is_nearer, f_may_hide, f_span_within, f_meeting_of, f_hiding_of, f_square_apart_at, f_lie_over_at, f_hides_at, f_view_of, f_groups_at, f_joined_groups, f_insert_meeting, f_ordered_meetings, f_goes_on_behind, f_count_behind, f_first_of_most, f_is_free_between, f_counted, f_are_two, f_is_body_told_well, f_body_told, f_answer_span, f_answer_begins, f_answer_body, f_answer_drop, f_answer_meets, f_answer_hides, f_answer_compare, f_answer_order, f_answer_most, f_answer_seen, f_answer_joined, f_answer_free, f_answer_next, f_answer_where, c_Instant, c_Span, c_Body, c_Meeting, cst, ⟨t_acts, t_sizes⟩, b_abs, b_len, b_range, b_list, b_min, b_set⟩ Ff).mono (by decide)⟩
  case S =>
    intro K H xs a hO hwi hask hx
    cases hx with
    | cons h1 h2 =>
      cases h2
      cases h1 with
      | lst hs ha =>
        have e := L2.ints_dw a.1 _ ha
        subst e
        have q : ((Codec.inLen 0 500 a.1 && a.1.all (Codec.inInt 0 4294967295)) && true) = true := hwi
        rw [Bool.and_eq_true, Bool.and_eq_true] at q
        exact ⟨_, a.1, rfl, hs, (Codec.inNat_iff.mp q.1.1).2, hask, fun H' p hp => .lst (L2.SqL.of hp) (L2.dw_ints _)⟩
