import PyProof.Rows.All
import Wide.All
import OpenK.AllK
import Wide.FinOn
import PyProof.EqAt
import PyProof.EqKinds
import PyProof.TupleCall
import Open.SpecLaws
import KE.OsGo
import HandS.Exc
import HandS.ForSpec
import HandS.Comp
import HandS.Iter
import HandS.Wide
import HandS.Walk
import KE.SortData
import HandS.Conv
import HandS.TryMany
import HandS.TryOnly
import HandS.WideBits
import KE.SortKeyHeap
import HandS.Lambda
import HandS.Nested
import HandS.Words
import HandS.EndTab
import HandS.SetFor
import HandS.Strs
import PySem.Challenge.RW_stripcut_s01_slices
set_option Elab.async false
set_option linter.all false
set_option maxRecDepth 100000
set_option maxHeartbeats 4000000
namespace Sc
open Kzq1 (Q P)
/-! Fractions as rationals -/
def Ok (q : Q) : Prop := 0 < q.d ∧ Nat.gcd q.n.natAbs q.d = 1
def val (q : Q) : Rat := mkRat q.n q.d
theorem okQ_iff (q : Q) : Kzq1.okQ q = true ↔ Ok q := by
  unfold Kzq1.okQ Ok
  simp only [Bool.and_eq_true, decide_eq_true_eq, beq_iff_eq]
  constructor <;> (rintro ⟨a, b⟩; exact ⟨by omega, b⟩)
theorem val_num {q : Q} (h : Ok q) : (val q).num = q.n := by
  unfold val
  rw [Rat.num_mkRat, if_neg (by have := h.1; omega), Nat.gcd_comm, h.2]
  simp
theorem val_den {q : Q} (h : Ok q) : (val q).den = q.d := by
  unfold val
  rw [Rat.den_mkRat, if_neg (by have := h.1; omega), Nat.gcd_comm, h.2, Nat.div_one]
theorem val_inj {a b : Q} (ha : Ok a) (hb : Ok b) (e : val a = val b) : a = b := by
  have h1 := val_num ha
  have h2 := val_den ha
  rw [e] at h1 h2
  rw [val_num hb] at h1
  rw [val_den hb] at h2
  cases a; cases b
  simp_all
/-- mk of a lower number above 0: by the greatest common measure -/
theorem mk_eq {n : Int} {d : Nat} (h : 0 < d) : Kzq1.mk n d = ⟨n / (Nat.gcd n.natAbs d : Nat), d / Nat.gcd n.natAbs d⟩ := by
  have hg : 0 < Nat.gcd n.natAbs d := Nat.gcd_pos_of_pos_right _ h
  have hq : 0 < d / Nat.gcd n.natAbs d := Nat.div_pos (Nat.gcd_le_right _ h) hg
  unfold Kzq1.mk
  dsimp only
  rw [if_neg (by omega), if_neg (by omega)]
theorem mk_ok {n : Int} {d : Nat} (h : 0 < d) : Ok (Kzq1.mk n d) := by
  have hg : 0 < Nat.gcd n.natAbs d := Nat.gcd_pos_of_pos_right _ h
  rw [mk_eq h]
  refine ⟨Nat.div_pos (Nat.gcd_le_right _ h) hg, ?_⟩
  show Nat.gcd (n / (Nat.gcd n.natAbs d : Nat)).natAbs (d / Nat.gcd n.natAbs d) = 1
  have hv : ((Nat.gcd n.natAbs d : Nat) : Int) ∣ n := Int.ofNat_dvd_left.mpr (Nat.gcd_dvd_left _ _)
  rw [Int.natAbs_ediv_of_dvd hv, Int.natAbs_natCast, Nat.gcd_div (Nat.gcd_dvd_left _ _) (Nat.gcd_dvd_right _ _)]
  exact Nat.div_self hg
theorem val_mk {n : Int} {d : Nat} (h : 0 < d) : val (Kzq1.mk n d) = mkRat n d := by
  have h0 : d ≠ 0 := by omega
  have o := mk_ok (n := n) h
  refine Rat.ext ?_ ?_
  · rw [val_num o, Rat.num_mkRat, if_neg h0, mk_eq h, Nat.gcd_comm]
  · rw [val_den o, Rat.den_mkRat, if_neg h0, mk_eq h, Nat.gcd_comm]
theorem whole_ok (n : Int) : Ok (Kzq1.whole n) := ⟨Nat.one_pos, Nat.gcd_one_right _⟩
theorem val_whole (n : Int) : val (Kzq1.whole n) = (n : Rat) := by
  refine Rat.ext ?_ ?_
  · rw [val_num (whole_ok n)]; rfl
  · rw [val_den (whole_ok n)]; rfl
theorem zero_ok : Ok Kzq1.zero := ⟨Nat.one_pos, Nat.gcd_one_right _⟩
theorem val_zero : val Kzq1.zero = 0 := val_whole 0
theorem half_ok : Ok Kzq1.half := ⟨by decide, by decide⟩
theorem val_half : val Kzq1.half = 1 / 2 := by
  show mkRat 1 2 = 1 / 2
  rw [Rat.mkRat_eq_div]; rfl
section
variable {a b : Q}
theorem add_ok (ha : Ok a) (hb : Ok b) : Ok (Kzq1.add a b) := mk_ok (Nat.mul_pos ha.1 hb.1)
theorem val_add (ha : Ok a) (hb : Ok b) : val (Kzq1.add a b) = val a + val b := by
  unfold Kzq1.add
  rw [val_mk (Nat.mul_pos ha.1 hb.1)]
  unfold val
  rw [Rat.mkRat_add_mkRat _ _ (by have := ha.1; omega) (by have := hb.1; omega)]
theorem neg_ok (ha : Ok a) : Ok (Kzq1.neg a) := ⟨ha.1, by show Nat.gcd (-a.n).natAbs a.d = 1; rw [Int.natAbs_neg]; exact ha.2⟩
theorem val_neg (_ : Ok a) : val (Kzq1.neg a) = - val a := by
  unfold val
  rw [Rat.neg_mkRat]; rfl
theorem sub_ok (ha : Ok a) (hb : Ok b) : Ok (Kzq1.sub a b) := add_ok ha (neg_ok hb)
theorem val_sub (ha : Ok a) (hb : Ok b) : val (Kzq1.sub a b) = val a - val b := by
  unfold Kzq1.sub
  rw [val_add ha (neg_ok hb), val_neg hb, Rat.sub_eq_add_neg]
theorem mul_ok (ha : Ok a) (hb : Ok b) : Ok (Kzq1.mul a b) := mk_ok (Nat.mul_pos ha.1 hb.1)
theorem val_mul (ha : Ok a) (hb : Ok b) : val (Kzq1.mul a b) = val a * val b := by
  unfold Kzq1.mul
  rw [val_mk (Nat.mul_pos ha.1 hb.1)]
  unfold val
  rw [Rat.mkRat_mul_mkRat]
theorem n_zero_iff (ha : Ok a) : a.n = 0 ↔ val a = 0 := by
  rw [← Rat.num_eq_zero, val_num ha]
theorem inv_ok (_ : Ok a) (h : val a ≠ 0) : Ok (Kzq1.inv a) := by
  have hn : a.n ≠ 0 := fun e => h ((n_zero_iff ‹_›).mp e)
  unfold Kzq1.inv
  split <;> exact mk_ok (by omega)
theorem val_inv (ha : Ok a) (h : val a ≠ 0) : val (Kzq1.inv a) = (val a)⁻¹ := by
  have hn : a.n ≠ 0 := fun e => h ((n_zero_iff ha).mp e)
  have hp : 0 < a.n.natAbs := by omega
  have e1 : (val a)⁻¹ = Rat.divInt (a.d : Int) a.n := by rw [Rat.inv_def, val_num ha, val_den ha]
  rw [e1]
  unfold Kzq1.inv
  split
  · rename_i c
    rw [val_mk hp, ← Rat.divInt_ofNat, show ((a.n.natAbs : Nat) : Int) = a.n by omega]
  · rename_i c
    rw [val_mk hp, ← Rat.divInt_ofNat, show ((a.n.natAbs : Nat) : Int) = -a.n by omega, Rat.neg_divInt_neg]
theorem div_ok (ha : Ok a) (hb : Ok b) (h : val b ≠ 0) : Ok (Kzq1.div a b) := mul_ok ha (inv_ok hb h)
theorem val_div (ha : Ok a) (hb : Ok b) (h : val b ≠ 0) : val (Kzq1.div a b) = val a / val b := by
  unfold Kzq1.div
  rw [val_mul ha (inv_ok hb h), val_inv hb h, Rat.div_def]
theorem lt_iff (ha : Ok a) (hb : Ok b) : Kzq1.lt a b = true ↔ val a < val b := by
  unfold Kzq1.lt
  rw [decide_eq_true_eq, Rat.lt_iff, val_num ha, val_num hb, val_den ha, val_den hb]
theorem lt_eq (ha : Ok a) (hb : Ok b) : Kzq1.lt a b = decide (val a < val b) := by
  rw [Bool.eq_iff_iff, lt_iff ha hb, decide_eq_true_eq]
theorem le_eq (ha : Ok a) (hb : Ok b) : Kzq1.le a b = decide (val a ≤ val b) := by
  unfold Kzq1.le
  rw [lt_eq hb ha, ← decide_not, decide_eq_decide, Rat.not_lt]
theorem eq_iff (ha : Ok a) (hb : Ok b) : a = b ↔ val a = val b := ⟨fun e => by rw [e], val_inj ha hb⟩
theorem isZero_eq (ha : Ok a) : Kzq1.isZero a = decide (val a = 0) := by
  unfold Kzq1.isZero
  rw [Bool.eq_iff_iff, beq_iff_eq, decide_eq_true_eq, n_zero_iff ha]
theorem pos_eq (ha : Ok a) : Kzq1.pos a = decide (0 < val a) := by
  unfold Kzq1.pos
  rw [Bool.eq_iff_iff, decide_eq_true_eq, decide_eq_true_eq, Rat.lt_iff, val_num ha]
  simp
end
/-! Points -/
def OkP (p : P) : Prop := Ok p.x ∧ Ok p.y
abbrev px (p : P) : Rat := val p.x
abbrev py (p : P) : Rat := val p.y
theorem P_ext {p q : P} (hp : OkP p) (hq : OkP q) (h1 : px p = px q) (h2 : py p = py q) : p = q := by
  have e1 := val_inj hp.1 hq.1 h1
  have e2 := val_inj hp.2 hq.2 h2
  cases p; cases q; simp_all
theorem P_eq_iff {p q : P} (hp : OkP p) (hq : OkP q) : p = q ↔ px p = px q ∧ py p = py q :=
  ⟨fun e => by rw [e]; exact ⟨rfl, rfl⟩, fun h => P_ext hp hq h.1 h.2⟩
theorem origin_ok : OkP Kzq1.origin := ⟨zero_ok, zero_ok⟩
section
variable {p q r : P}
theorem plus_ok (hp : OkP p) (hq : OkP q) : OkP (Kzq1.plus p q) := ⟨add_ok hp.1 hq.1, add_ok hp.2 hq.2⟩
theorem px_plus (hp : OkP p) (hq : OkP q) : px (Kzq1.plus p q) = px p + px q := val_add hp.1 hq.1
theorem py_plus (hp : OkP p) (hq : OkP q) : py (Kzq1.plus p q) = py p + py q := val_add hp.2 hq.2
theorem less_ok (hp : OkP p) (hq : OkP q) : OkP (Kzq1.less p q) := ⟨sub_ok hp.1 hq.1, sub_ok hp.2 hq.2⟩
theorem times_ok {k : Q} (hk : Ok k) (hp : OkP p) : OkP (Kzq1.times k p) := ⟨mul_ok hk hp.1, mul_ok hk hp.2⟩
theorem px_times {k : Q} (hk : Ok k) (hp : OkP p) : px (Kzq1.times k p) = val k * px p := val_mul hk hp.1
theorem py_times {k : Q} (hk : Ok k) (hp : OkP p) : py (Kzq1.times k p) = val k * py p := val_mul hk hp.2
theorem cross_ok (hp : OkP p) (hq : OkP q) : Ok (Kzq1.cross p q) := sub_ok (mul_ok hp.1 hq.2) (mul_ok hp.2 hq.1)
theorem val_cross (hp : OkP p) (hq : OkP q) : val (Kzq1.cross p q) = px p * py q - py p * px q := by
  unfold Kzq1.cross
  rw [val_sub (mul_ok hp.1 hq.2) (mul_ok hp.2 hq.1), val_mul hp.1 hq.2, val_mul hp.2 hq.1]
theorem turn_ok (hp : OkP p) (hq : OkP q) (hr : OkP r) : Ok (Kzq1.turn p q r) := cross_ok (less_ok hq hp) (less_ok hr hp)
theorem val_turn (hp : OkP p) (hq : OkP q) (hr : OkP r) : val (Kzq1.turn p q r) = (px q - px p) * (py r - py p) - (py q - py p) * (px r - px p) := by
  unfold Kzq1.turn
  rw [val_cross (less_ok hq hp) (less_ok hr hp)]
  show val (Kzq1.sub q.x p.x) * val (Kzq1.sub r.y p.y) - val (Kzq1.sub q.y p.y) * val (Kzq1.sub r.x p.x) = _
  rw [val_sub hq.1 hp.1, val_sub hr.2 hp.2, val_sub hq.2 hp.2, val_sub hr.1 hp.1]
end
end Sc
namespace Sc
open Kzq1 (Q P)
/-! Pieces of four corners -/
/-- piece_of: corners that stand twice in a row once, begun with the leftmost -/
def pieceOf (l : List P) : List P := Kzq1.begunWith (Kzq1.unlike l)
theorem formed_of {l : List P} (h3 : 3 ≤ (Kzq1.unlike l).length) (hs : Kzq1.straightened (Kzq1.unlike l) = Kzq1.unlike l) : Kzq1.formed l = pieceOf l := by
  unfold Kzq1.formed pieceOf
  dsimp only
  rw [hs, if_neg (by omega)]
theorem fm_cons {c : Prop} [Decidable c] {i : Nat} {x : P} {f : Nat → Option P} {r : List Nat} (h : f i = if c then none else some x) : (i :: r).filterMap f = (if c then [] else [x]) ++ r.filterMap f := by
  rw [List.filterMap_cons, h]
  by_cases k : c
  · rw [if_pos k, if_pos k]; rfl
  · rw [if_neg k, if_neg k]; rfl
theorem unlike4 (a b c d : P) : Kzq1.unlike [a, b, c, d] = (if a = b then [] else [a]) ++ ((if b = c then [] else [b]) ++ ((if c = d then [] else [c]) ++ (if d = a then [] else [d]))) := by
  have e4 : Kzq1.at0 [a, b, c, d] (3 + 1) = a := by simp [Kzq1.at0]
  show List.filterMap (fun i => if Kzq1.at0 [a, b, c, d] i = Kzq1.at0 [a, b, c, d] (i + 1) then none else some (Kzq1.at0 [a, b, c, d] i)) [0, 1, 2, 3] = _
  rw [fm_cons (c := a = b) (x := a) rfl, fm_cons (c := b = c) (x := b) rfl, fm_cons (c := c = d) (x := c) rfl, fm_cons (c := d = a) (x := d) (by rw [e4]; rfl)]
  simp
theorem straight4 {a b c d : P} (h1 : Kzq1.isZero (Kzq1.turn d a b) = false) (h2 : Kzq1.isZero (Kzq1.turn a b c) = false) (h3 : Kzq1.isZero (Kzq1.turn b c d) = false) (h4 : Kzq1.isZero (Kzq1.turn c d a) = false) :
    Kzq1.straightened [a, b, c, d] = [a, b, c, d] := by
  have r : List.range 4 = [0, 1, 2, 3] := rfl
  unfold Kzq1.straightened
  simp only [List.length_cons, List.length_nil, Nat.zero_add, Nat.reduceAdd, r, List.filterMap_cons, List.filterMap_nil]
  have e0 : Kzq1.at0 [a, b, c, d] 0 = a := by simp [Kzq1.at0]
  have e1 : Kzq1.at0 [a, b, c, d] 1 = b := by simp [Kzq1.at0]
  have e2 : Kzq1.at0 [a, b, c, d] 2 = c := by simp [Kzq1.at0]
  have e3 : Kzq1.at0 [a, b, c, d] 3 = d := by simp [Kzq1.at0]
  have e4 : Kzq1.at0 [a, b, c, d] 4 = a := by simp [Kzq1.at0]
  have e5 : Kzq1.at0 [a, b, c, d] 5 = b := by simp [Kzq1.at0]
  have e6 : Kzq1.at0 [a, b, c, d] 6 = c := by simp [Kzq1.at0]
  simp [e0, e1, e2, e3, e4, e5, e6, h1, h2, h3, h4]
theorem straight3 {a b c : P} (h1 : Kzq1.isZero (Kzq1.turn c a b) = false) (h2 : Kzq1.isZero (Kzq1.turn a b c) = false) (h3 : Kzq1.isZero (Kzq1.turn b c a) = false) :
    Kzq1.straightened [a, b, c] = [a, b, c] := by
  have r : List.range 3 = [0, 1, 2] := rfl
  unfold Kzq1.straightened
  simp only [List.length_cons, List.length_nil, Nat.zero_add, Nat.reduceAdd, r, List.filterMap_cons, List.filterMap_nil]
  have e0 : Kzq1.at0 [a, b, c] 0 = a := by simp [Kzq1.at0]
  have e1 : Kzq1.at0 [a, b, c] 1 = b := by simp [Kzq1.at0]
  have e2 : Kzq1.at0 [a, b, c] 2 = c := by simp [Kzq1.at0]
  have e3 : Kzq1.at0 [a, b, c] 3 = a := by simp [Kzq1.at0]
  have e4 : Kzq1.at0 [a, b, c] 4 = b := by simp [Kzq1.at0]
  simp [e0, e1, e2, e3, e4, h1, h2, h3]
theorem isZero_turn {p q r : P} (hp : OkP p) (hq : OkP q) (hr : OkP r) (h : (px q - px p) * (py r - py p) - (py q - py p) * (px r - px p) ≠ 0) : Kzq1.isZero (Kzq1.turn p q r) = false := by
  rw [isZero_eq (turn_ok hp hq hr), val_turn hp hq hr, decide_eq_false h]
theorem mul_ne {x y : Rat} (hx : 0 < x) (hy : 0 < y) : x * y ≠ 0 := Rat.ne_of_gt (Rat.mul_pos hx hy)
/-- two points below, two above, the upper ones higher; not just one below and one above -/
structure Trap (a b c d : P) : Prop where
  oa : OkP a
  ob : OkP b
  oc : OkP c
  od : OkP d
  y0 : py a = py b
  y1 : py c = py d
  up : py a < py c
  xab : px a ≤ px b
  xdc : px d ≤ px c
  big : px a < px b ∨ px d < px c
theorem Trap.ne {a b c d : P} (t : Trap a b c d) : b ≠ c ∧ d ≠ a := by
  constructor
  · intro e
    have := t.up; have := t.y0
    rw [e] at this; grind
  · intro e
    have := t.up; have := t.y1
    rw [e] at this; grind
theorem Trap.formed {a b c d : P} (t : Trap a b c d) : Kzq1.formed [a, b, c, d] = pieceOf [a, b, c, d] := by
  obtain ⟨nbc, nda⟩ := t.ne
  obtain ⟨oa, ob, oc, od, y0, y1, up, xab, xdc, big⟩ := t
  have hh : 0 < py c - py a := by grind
  by_cases e1 : a = b
  · have nx : px d < px c := by subst e1; grind
    have ncd : c ≠ d := fun e => by rw [e] at nx; grind
    have u : Kzq1.unlike [a, b, c, d] = [b, c, d] := by
      rw [unlike4, if_pos e1, if_neg nbc, if_neg ncd, if_neg nda]; rfl
    subst e1
    have k : 0 < px c - px d := by grind
    have m := mul_ne k hh
    refine formed_of (by rw [u]; simp) (by
      rw [u]
      exact straight3 (isZero_turn od oa oc (by grind)) (isZero_turn oa oc od (by grind)) (isZero_turn oc od oa (by grind)))
  · have nx : px a < px b := by
      rcases Rat.le_iff_lt_or_eq.mp xab with h | h
      · exact h
      · exact absurd (P_ext oa ob h y0) e1
    have k : 0 < px b - px a := by grind
    have m := mul_ne k hh
    by_cases e2 : c = d
    · have u : Kzq1.unlike [a, b, c, d] = [a, b, d] := by
        rw [unlike4, if_neg e1, if_neg nbc, if_pos e2, if_neg nda]; rfl
      subst e2
      refine formed_of (by rw [u]; simp) (by
        rw [u]
        exact straight3 (isZero_turn oc oa ob (by grind)) (isZero_turn oa ob oc (by grind)) (isZero_turn ob oc oa (by grind)))
    · have nx2 : px d < px c := by
        rcases Rat.le_iff_lt_or_eq.mp xdc with h | h
        · exact h
        · exact absurd (P_ext oc od h.symm y1) e2
      have k2 : 0 < px c - px d := by grind
      have m2 := mul_ne k2 hh
      have u : Kzq1.unlike [a, b, c, d] = [a, b, c, d] := by
        rw [unlike4, if_neg e1, if_neg nbc, if_neg e2, if_neg nda]; rfl
      refine formed_of (by rw [u]; simp) (by
        rw [u]
        exact straight4 (isZero_turn od oa ob (by grind)) (isZero_turn oa ob oc (by grind)) (isZero_turn ob oc od (by grind)) (isZero_turn oc od oa (by grind)))
/-- the middle of two points -/
def mid (a b : P) : P := Kzq1.times Kzq1.half (Kzq1.plus a b)
theorem mid_ok {a b : P} (ha : OkP a) (hb : OkP b) : OkP (mid a b) := times_ok half_ok (plus_ok ha hb)
theorem px_mid {a b : P} (ha : OkP a) (hb : OkP b) : px (mid a b) = (px a + px b) / 2 := by
  unfold mid
  rw [px_times half_ok (plus_ok ha hb), px_plus ha hb, val_half]; grind
theorem py_mid {a b : P} (ha : OkP a) (hb : OkP b) : py (mid a b) = (py a + py b) / 2 := by
  unfold mid
  rw [py_times half_ok (plus_ok ha hb), py_plus ha hb, val_half]; grind
theorem Trap.low {a b c d : P} (t : Trap a b c d) : Trap a b (mid b c) (mid a d) := by
  obtain ⟨oa, ob, oc, od, y0, y1, up, xab, xdc, big⟩ := t
  have m1 := px_mid ob oc; have m2 := py_mid ob oc; have m3 := px_mid oa od; have m4 := py_mid oa od
  exact ⟨oa, ob, mid_ok ob oc, mid_ok oa od, y0, by grind, by grind, xab, by grind, .inr (by grind)⟩
theorem Trap.high {a b c d : P} (t : Trap a b c d) : Trap (mid a d) (mid b c) c d := by
  obtain ⟨oa, ob, oc, od, y0, y1, up, xab, xdc, big⟩ := t
  have m1 := px_mid ob oc; have m2 := py_mid ob oc; have m3 := px_mid oa od; have m4 := py_mid oa od
  exact ⟨mid_ok oa od, mid_ok ob oc, oc, od, by grind, y1, by grind, by grind, xdc, .inl (by grind)⟩
theorem mid_twice {b c : P} (hb : OkP b) (hc : OkP c) : Kzq1.plus (mid b c) (mid b c) = Kzq1.plus b c := by
  have m := mid_ok hb hc
  refine P_ext (plus_ok m m) (plus_ok hb hc) ?_ ?_
  · rw [px_plus m m, px_plus hb hc, px_mid hb hc]; grind
  · rw [py_plus m m, py_plus hb hc, py_mid hb hc]; grind
/-- the mirror of slice_halved -/
def halves (a b c e : P) : List Kzq2.Part := [⟨pieceOf [a, b, mid b c, mid a e], Kzq2.stay⟩, ⟨pieceOf [mid a e, mid b c, c, e], ⟨true, Kzq1.plus b c⟩⟩]
theorem halved_is {a b c e : P} (t : Trap a b c e) : (Kzq2.halved a b c e).1 = halves a b c e := by
  show [(⟨Kzq1.formed [a, b, mid b c, mid a e], Kzq2.stay⟩ : Kzq2.Part), ⟨Kzq1.formed [mid a e, mid b c, c, e], ⟨true, Kzq1.plus (mid b c) (mid b c)⟩⟩] = _
  rw [t.low.formed, t.high.formed, mid_twice t.ob t.oc]
  rfl
end Sc
namespace Sc
open Kzq1 (Q P)
/-! Sizes of numbers; the program's own fraction of two numbers -/
def gcdI (a b : Int) : Int := (Nat.gcd a.natAbs b.natAbs : Nat)
def Sz (k : Nat) (q : Q) : Prop := q.n.natAbs < 2 ^ k ∧ q.d < 2 ^ k
theorem Sz.mono {j k : Nat} {q : Q} (h : Sz j q) (hk : j ≤ k) : Sz k q :=
  have p : 2 ^ j ≤ 2 ^ k := Nat.pow_le_pow_right (by omega) hk
  ⟨Nat.lt_of_lt_of_le h.1 p, Nat.lt_of_lt_of_le h.2 p⟩
theorem mk_sz {n : Int} {d k : Nat} (h : 0 < d) (hn : n.natAbs < 2 ^ k) (hd : d < 2 ^ k) : Sz k (Kzq1.mk n d) := by
  have hv : ((Nat.gcd n.natAbs d : Nat) : Int) ∣ n := Int.ofNat_dvd_left.mpr (Nat.gcd_dvd_left _ _)
  rw [mk_eq h]
  refine ⟨?_, Nat.lt_of_le_of_lt (Nat.div_le_self _ _) hd⟩
  show (n / (Nat.gcd n.natAbs d : Nat)).natAbs < _
  rw [Int.natAbs_ediv_of_dvd hv, Int.natAbs_natCast]
  exact Nat.lt_of_le_of_lt (Nat.div_le_self _ _) hn
theorem mul_lt {i j : Int} {a b : Nat} (ha : i.natAbs < 2 ^ a) (hb : j.natAbs < 2 ^ b) : (i * j).natAbs < 2 ^ (a + b) := by
  rw [Int.natAbs_mul, Nat.pow_add]
  exact Nat.mul_lt_mul'' ha hb
theorem cross_lt {i j k l : Int} {a b : Nat} (h1 : i.natAbs < 2 ^ a) (h2 : j.natAbs < 2 ^ b) (h3 : k.natAbs < 2 ^ b) (h4 : l.natAbs < 2 ^ a) : (i * j + k * l).natAbs < 2 ^ (a + b + 1) := by
  have p := mul_lt h1 h2
  have q := mul_lt h3 h4
  rw [Nat.add_comm b a] at q
  have e : 2 ^ (a + b + 1) = 2 ^ (a + b) + 2 ^ (a + b) := by rw [Nat.pow_succ]; omega
  have := Int.natAbs_add_le (i * j) (k * l)
  omega
section
variable {a b : Q} {j k : Nat}
theorem add_sz (ha : Ok a) (hb : Ok b) (h1 : Sz j a) (h2 : Sz k b) : Sz (j + k + 1) (Kzq1.add a b) := by
  refine mk_sz (Nat.mul_pos ha.1 hb.1) (cross_lt h1.1 (by simpa using h2.2) h2.1 (by simpa using h1.2)) ?_
  have p : a.d * b.d < 2 ^ j * 2 ^ k := Nat.mul_lt_mul'' h1.2 h2.2
  rw [← Nat.pow_add] at p
  exact Nat.lt_of_lt_of_le p (Nat.pow_le_pow_right (by omega) (by omega))
theorem neg_sz (h : Sz j a) : Sz j (Kzq1.neg a) := ⟨by show (-a.n).natAbs < _; rw [Int.natAbs_neg]; exact h.1, h.2⟩
theorem sub_sz (ha : Ok a) (hb : Ok b) (h1 : Sz j a) (h2 : Sz k b) : Sz (j + k + 1) (Kzq1.sub a b) := add_sz ha (neg_ok hb) h1 (neg_sz h2)
theorem mul_sz (ha : Ok a) (hb : Ok b) (h1 : Sz j a) (h2 : Sz k b) : Sz (j + k) (Kzq1.mul a b) := by
  refine mk_sz (Nat.mul_pos ha.1 hb.1) (mul_lt h1.1 h2.1) ?_
  have p : a.d * b.d < 2 ^ j * 2 ^ k := Nat.mul_lt_mul'' h1.2 h2.2
  rw [← Nat.pow_add] at p
  exact p
theorem half_sz : Sz 2 Kzq1.half := ⟨by decide, by decide⟩
end
def SzP (k : Nat) (p : P) : Prop := Sz k p.x ∧ Sz k p.y
theorem SzP.mono {j k : Nat} {p : P} (h : SzP j p) (hk : j ≤ k) : SzP k p := ⟨h.1.mono hk, h.2.mono hk⟩
theorem plus_sz {p q : P} {j k : Nat} (hp : OkP p) (hq : OkP q) (h1 : SzP j p) (h2 : SzP k q) : SzP (j + k + 1) (Kzq1.plus p q) := ⟨add_sz hp.1 hq.1 h1.1 h2.1, add_sz hp.2 hq.2 h1.2 h2.2⟩
theorem mid_sz {p q : P} {j k : Nat} (hp : OkP p) (hq : OkP q) (h1 : SzP j p) (h2 : SzP k q) : SzP (j + k + 3) (mid p q) := by
  have o := plus_ok hp hq
  have z := plus_sz hp hq h1 h2
  exact ⟨(mul_sz half_ok o.1 half_sz z.1).mono (by omega), (mul_sz half_ok o.2 half_sz z.2).mono (by omega)⟩
/-- ratio(top, bottom): the lower number may be below 0 -/
def mkI (t b : Int) : Q := if b < 0 then Kzq1.mk (-t) b.natAbs else Kzq1.mk t b.natAbs
theorem mkI_ok {t b : Int} (h : b ≠ 0) : Ok (mkI t b) := by
  unfold mkI
  split <;> exact mk_ok (by omega)
theorem mkI_pos {t b : Int} (h : 0 < b) : mkI t b = Kzq1.mk t b.toNat := by
  unfold mkI
  rw [if_neg (by omega)]
  congr 1; omega
theorem mkI_nat {t : Int} {d : Nat} (h : 0 < d) : mkI t (d : Int) = Kzq1.mk t d := by
  rw [mkI_pos (by omega)]; rfl
theorem gcdI_pos {t b : Int} (h : b ≠ 0) : 0 < gcdI t b := by
  have : 0 < Nat.gcd t.natAbs b.natAbs := Nat.gcd_pos_of_pos_right _ (by omega)
  unfold gcdI; omega
theorem mkI_up {t b : Int} (h : b ≠ 0) : t.fdiv (if b < 0 then -gcdI t b else gcdI t b) = (mkI t b).n := by
  have hg := gcdI_pos (t := t) h
  have hd : gcdI t b ∣ t := Int.ofNat_dvd_left.mpr (Nat.gcd_dvd_left _ _)
  unfold mkI
  by_cases c : b < 0
  · rw [if_pos c, if_pos c, mk_eq (by omega)]
    show _ = -t / (Nat.gcd (-t).natAbs b.natAbs : Nat)
    rw [Int.natAbs_neg]
    obtain ⟨x, hx⟩ := hd
    show _ = -t / gcdI t b
    generalize gcdI t b = g at *
    subst hx
    rw [← Int.mul_neg, Int.mul_ediv_cancel_left _ (by omega), show g * x = (-g) * (-x) by rw [Int.neg_mul_neg], Int.mul_fdiv_cancel_left _ (by omega)]
  · rw [if_neg c, if_neg c, mk_eq (by omega)]
    show _ = t / gcdI t b
    exact Int.fdiv_eq_ediv_of_nonneg _ (by omega)
theorem mkI_low {t b : Int} (h : b ≠ 0) : b.fdiv (if b < 0 then -gcdI t b else gcdI t b) = ((mkI t b).d : Int) := by
  have hg := gcdI_pos (t := t) h
  have hd : gcdI t b ∣ b := Int.ofNat_dvd_left.mpr (Nat.gcd_dvd_right _ _)
  have key : ((b.natAbs / Nat.gcd t.natAbs b.natAbs : Nat) : Int) = (b.natAbs : Int) / gcdI t b := by
    rw [Int.natCast_ediv]; rfl
  unfold mkI
  by_cases c : b < 0
  · rw [if_pos c, if_pos c, mk_eq (by omega)]
    show _ = ((b.natAbs / Nat.gcd (-t).natAbs b.natAbs : Nat) : Int)
    rw [Int.natAbs_neg, key, show ((b.natAbs : Nat) : Int) = -b by omega]
    obtain ⟨x, hx⟩ := hd
    generalize gcdI t b = g at *
    subst hx
    rw [← Int.mul_neg, Int.mul_ediv_cancel_left _ (by omega), show g * x = (-g) * (-x) by rw [Int.neg_mul_neg], Int.mul_fdiv_cancel_left _ (by omega)]
  · rw [if_neg c, if_neg c, mk_eq (by omega)]
    show _ = ((b.natAbs / Nat.gcd t.natAbs b.natAbs : Nat) : Int)
    rw [key, show ((b.natAbs : Nat) : Int) = b by omega]
    exact Int.fdiv_eq_ediv_of_nonneg _ (by omega)
theorem gcdI_le {t b : Int} (h : b ≠ 0) : (gcdI t b).natAbs ≤ b.natAbs := by
  have := Nat.gcd_le_right t.natAbs (show 0 < b.natAbs by omega)
  unfold gcdI; omega
end Sc
namespace Sc
open Kzq1 (Q P)
/-! Reading points -/
def rdPt : List Int → Option P
  | [a, b, c, d] => match Kzq1.readQ a b, Kzq1.readQ c d with
    | some x, some y => some ⟨x, y⟩
    | _, _ => none
  | _ => none
theorem rp_cons (a b c d : Int) (l : List Int) : Kzq1.readPoints (a :: b :: c :: d :: l) = match rdPt [a, b, c, d], Kzq1.readPoints l with
    | some x, some r => some (x :: r)
    | _, _ => none := by
  show (match Kzq1.readQ a b, Kzq1.readQ c d, Kzq1.readPoints l with
    | some x, some y, some r => some ((⟨x, y⟩ : P) :: r)
    | _, _, _ => none) = (match (match Kzq1.readQ a b, Kzq1.readQ c d with
    | some x, some y => some (⟨x, y⟩ : P)
    | _, _ => none), Kzq1.readPoints l with
    | some x, some r => some (x :: r)
    | _, _ => none)
  cases Kzq1.readQ a b <;> cases Kzq1.readQ c d <;> cases Kzq1.readPoints l <;> rfl
theorem rp_app : ∀ (n : Nat) (l m : List Int), l.length = 4 * n → Kzq1.readPoints (l ++ m) = match Kzq1.readPoints l, Kzq1.readPoints m with
    | some x, some y => some (x ++ y)
    | _, _ => none
  | 0, l, m, h => by
    have e : l = [] := List.length_eq_zero_iff.mp (by omega)
    subst e
    show Kzq1.readPoints m = (match some ([] : List P), Kzq1.readPoints m with
      | some x, some y => some (x ++ y)
      | _, _ => none)
    cases Kzq1.readPoints m <;> rfl
  | n + 1, l, m, h => by
    match l, h with
    | a :: b :: c :: d :: r, h =>
      have h' : r.length = 4 * n := by simp at h; omega
      show Kzq1.readPoints (a :: b :: c :: d :: (r ++ m)) = _
      rw [rp_cons, rp_cons, rp_app n r m h']
      cases rdPt [a, b, c, d] <;> cases Kzq1.readPoints r <;> cases Kzq1.readPoints m <;> rfl
theorem rp_four {l : List Int} (h : l.length = 4) : Kzq1.readPoints l = (rdPt l).map fun p => [p] := by
  match l, h with
  | [a, b, c, d], _ =>
    rw [rp_cons]
    show (match rdPt [a, b, c, d], some ([] : List P) with
      | some x, some r => some (x :: r)
      | _, _ => none) = _
    cases rdPt [a, b, c, d] <;> rfl
/-- four more numbers -/
theorem rp_more {ns : List Int} {i n : Nat} (h : ns.length = 4 * n) (hi : i < n) : Kzq1.readPoints (ns.take (4 * (i + 1))) = match Kzq1.readPoints (ns.take (4 * i)), rdPt ((ns.drop (4 * i)).take 4) with
    | some x, some y => some (x ++ [y])
    | _, _ => none := by
  have e : ns.take (4 * (i + 1)) = ns.take (4 * i) ++ (ns.drop (4 * i)).take 4 := by
    rw [← List.take_add, Nat.mul_succ]
  rw [e, rp_app i _ _ (by rw [List.length_take]; omega), rp_four (l := (ns.drop (4 * i)).take 4) (by rw [List.length_take, List.length_drop]; omega)]
  cases Kzq1.readPoints (ns.take (4 * i)) <;> cases rdPt ((ns.drop (4 * i)).take 4) <;> rfl
theorem rp_bad {ns : List Int} {i n : Nat} (h : ns.length = 4 * n) (hi : i < n) (hr : rdPt ((ns.drop (4 * i)).take 4) = none) : Kzq1.readPoints ns = none := by
  have e : ns = ns.take (4 * (i + 1)) ++ ns.drop (4 * (i + 1)) := (List.take_append_drop _ _).symm
  rw [e, rp_app (i + 1) _ _ (by rw [List.length_take]; omega), rp_more h hi, hr]
  cases Kzq1.readPoints (ns.take (4 * i)) <;> rfl
theorem readQ_ok {a b : Int} {q : Q} (h : Kzq1.readQ a b = some q) : Ok q ∧ q.n = a ∧ (q.d : Int) = b := by
  unfold Kzq1.readQ at h
  split at h
  · cases h
  · split at h
    · rename_i c1 c2
      cases h
      exact ⟨(okQ_iff _).mp c2, rfl, by show ((b.toNat : Nat) : Int) = b; omega⟩
    · cases h
theorem rdPt_ok {l : List Int} {p : P} (h : rdPt l = some p) : OkP p ∧ l = [p.x.n, (p.x.d : Int), p.y.n, (p.y.d : Int)] := by
  unfold rdPt at h
  split at h
  · split at h
    · rename_i x y h1 h2
      cases h
      obtain ⟨o1, e1, e2⟩ := readQ_ok h1
      obtain ⟨o2, e3, e4⟩ := readQ_ok h2
      exact ⟨⟨o1, o2⟩, by rw [e1, e2, e3, e4]⟩
    · cases h
  · cases h
/-- what is read has fractions as told, of the numbers that were handed in -/
theorem rp_ok : ∀ {l : List Int} {ps : List P}, Kzq1.readPoints l = some ps → l = Kzq1.written ps ∧ ∀ p ∈ ps, OkP p
  | [], ps, h => by
    cases h
    exact ⟨rfl, fun p hp => by cases hp⟩
  | [_], ps, h => by cases h
  | [_, _], ps, h => by cases h
  | [_, _, _], ps, h => by cases h
  | a :: b :: c :: d :: r, ps, h => by
    rw [rp_cons] at h
    cases h1 : rdPt [a, b, c, d] with
    | none => rw [h1] at h; cases h
    | some p =>
      cases h2 : Kzq1.readPoints r with
      | none => rw [h1, h2] at h; cases h
      | some qs =>
        rw [h1, h2] at h
        cases h
        obtain ⟨o, e⟩ := rdPt_ok h1
        obtain ⟨e2, o2⟩ := rp_ok h2
        refine ⟨?_, fun z hz => ?_⟩
        · show _ = (p.x.n :: (p.x.d : Int) :: p.y.n :: (p.y.d : Int) :: Kzq1.written qs)
          rw [← e2]
          injection e with e3 e4
          injection e4 with e5 e6
          injection e6 with e7 e8
          injection e8 with e9 _
          rw [e3, e5, e7, e9]
        · rcases List.mem_cons.mp hz with rfl | hz
          · exact o
          · exact o2 z hz
theorem written_len : ∀ ps : List P, (Kzq1.written ps).length = 4 * ps.length
  | [] => rfl
  | p :: r => by
    show (p.x.n :: (p.x.d : Int) :: p.y.n :: (p.y.d : Int) :: Kzq1.written r).length = _
    simp only [List.length_cons, written_len r]
    omega
theorem rp_len {l : List Int} {ps : List P} (h : Kzq1.readPoints l = some ps) : l.length = 4 * ps.length := by
  obtain ⟨e, _⟩ := rp_ok h
  rw [e, written_len]
theorem rp_sz {l : List Int} {ps : List P} {k : Nat} (h : Kzq1.readPoints l = some ps) (hl : ∀ x ∈ l, x.natAbs < 2 ^ k) : ∀ p ∈ ps, SzP k p := by
  obtain ⟨e, _⟩ := rp_ok h
  intro p hp
  have m : ∀ x ∈ [p.x.n, (p.x.d : Int), p.y.n, (p.y.d : Int)], x.natAbs < 2 ^ k := fun x hx => hl x (by
    rw [e]
    exact List.mem_flatMap.mpr ⟨p, hp, hx⟩)
  have a1 := m p.x.n (by simp)
  have a2 := m (p.x.d : Int) (by simp)
  have a3 := m p.y.n (by simp)
  have a4 := m (p.y.d : Int) (by simp)
  rw [Int.natAbs_natCast] at a2 a4
  exact ⟨⟨a1, a2⟩, ⟨a3, a4⟩⟩
end Sc
/-! A comprehension whose item may raise: the error leaves the block, its names are let go, and it goes on in the def. -/
namespace ScL
open PySem PySem.Spec PyProof.Rows L2
/-- what is due behind a block's end: z is the block's own scene -/
def PostOk (M : Model) (A : Around) (E : Value → Shared → Prop) (use : Option (Value → Sem Unit)) (Qv : Value → Shared → Prop) (acc : Value) (z : Env) (t : Shared) : Prop := match use with
  | none => ∃ m, t.heap.Ns z.locals m ∧ ∀ g, Heap.SameBut z.locals t.heap g → Qv acc { t with heap := g }
  | some u => wpAny M A (u acc) (fun _ t2 => ∃ m, t2.heap.Ns z.locals m ∧ ∀ g, Heap.SameBut z.locals t2.heap g → Qv .none { t2 with heap := g }) E t
def PostX (M : Model) (A : Around) (E : Value → Shared → Prop) (use : Option (Value → Sem Unit)) (Qv : Value → Shared → Prop) (acc : Value) (z : Env) : Result → Shared → Prop
  | .ok _, t => PostOk M A E use Qv acc z t
  | .error u, t => ∃ m, t.heap.Ns z.locals m ∧ ∀ g, Heap.SameBut z.locals t.heap g → wpAny M A (passOn "comprehension.variables-let-go" u z : Sem Value) (fun _ _ => False) E { t with heap := g }
theorem comp_any {M : Model} {A : Around} {E : Value → Shared → Prop} {s : Shared} {env : Env} {e : Expr} {scope : Scope} {pos : Pos} {newAcc first : Sem Value} {g : Comprehension} {gs : List Comprehension} {cl : List (Str × Addr)} {use : Option (Value → Sem Unit)} {Qv : Value → Shared → Prop}
    (h1 : clausesOf e = g :: gs) (h2 : ∀ x, foldedSetIterable g.iter env x = pure x) (h3 : closureFor scope env = pure cl) (h4 : scope.kind = .function)
    (h5 : ∀ x ∈ scope.names, x.2 = .local → scope.names.lookup x.1 = some .local)
    (h : wpAny M A first (fun x t1 => wpAny M A (pyIter x) (fun it t2 => wpAny M A newAcc (fun acc t3 =>
      wpAny M A (newFunctionEnv scope env.globals cl [] env.qual none .none (some env)) (fun ce t4 =>
        codeAny M A (.compStart e 0 it acc { ce with scope := relabel scope env }) (PostX M A E use Qv acc { ce with scope := relabel scope env }) t4) E t3) E t2) E t1) E s) :
    wpAny M A (comprehension e scope env pos newAcc false first use) Qv E s := by
  unfold comprehension
  rw [h3, h1]
  refine wpAny_bind (wpAny_mono h (fun x t1 k1 => wpAny_bind (wpAny_standAt (wpAny_bind (wpAny_of_eq (h2 x) (wpAny_bind (wpAny_holding (wpAny_mono k1 (fun it t2 k2 =>
    wpAny_standIf (wpAny_bind (wpAny_mono k2 (fun acc t3 k3 => wpAny_bind (wpAny_pure (wpAny_bind (wpAny_mono k3 (fun ce t4 k4 => ?_) fun _ _ y => y)))) fun _ _ y => y))) fun _ _ y => y))))))) fun _ _ y => y)
  dsimp only
  have hv : ∀ x ∈ (scope.names.filter fun x => (x.2 == .local || x.2 == .cell) && x.1 != (".0" : Str)).reverse, x.2 = .local → Env.kindOf { ce with scope := relabel scope env } x.1 = some .local :=
    fun x hx hl => lookup_relabel_local (h5 x (List.mem_filter.mp (List.mem_reverse.mp hx)).1 hl)
  have hw : ∀ x ∈ (scope.names.filter fun x => (x.2 == .local || x.2 == .cell) && x.1 != (".0" : Str)).reverse.drop 1 ++ (scope.names.filter fun x => (x.2 == .local || x.2 == .cell) && x.1 != (".0" : Str)).reverse.take 1, x.2 = .local → Env.kindOf { ce with scope := relabel scope env } x.1 = some .local := fun x hx hl => by
    rcases List.mem_append.mp hx with k | k
    · exact hv x (List.mem_of_mem_drop k) hl
    · exact hv x (List.mem_of_mem_take k) hl
  refine wpAny_holding (wpAny_bind (wpAny_attempt (wpAny_holding (wpAny_run (codeAny_mono k4 fun r t5 hr => ?_)))))
  cases r with
  | ok f =>
    cases use with
    | none =>
      obtain ⟨m, hn, hr⟩ := hr
      exact wpAny_bind (wpAny_holding (wpAny_comp_letGo (cenv := { ce with scope := relabel scope env }) h4 _ t5 m hv hn fun g' m' _ hs' => wpAny_pure (hr g' hs')))
    | some u =>
      refine wpAny_bind (wpAny_rule (wpAny_bind (wpAny_holding (wpAny_mono hr (fun _ t6 hr' => ?_) fun _ _ y => y))))
      obtain ⟨m, hn, hr'⟩ := hr'
      exact wpAny_bind (wpAny_comp_letGo (cenv := { ce with scope := relabel scope env }) h4 _ t6 m hw hn fun g' m' _ hs' => wpAny_pure (hr' g' hs'))
  | error u =>
    have hr : ∃ m, t5.heap.Ns ce.locals m ∧ ∀ g, Heap.SameBut ce.locals t5.heap g → wpAny M A (passOn "comprehension.variables-let-go" u { ce with scope := relabel scope env } : Sem Value) (fun _ _ => False) E { t5 with heap := g } := hr
    obtain ⟨m, hn, hr⟩ := hr
    exact wpAny_bind (wpAny_holding (wpAny_comp_letGo (cenv := { ce with scope := relabel scope env }) h4 _ t5 m hv hn fun g' m' _ hs' => wpAny_mono (hr g' hs') (fun _ _ f => f.elim) fun _ _ y => y))
/-- the block's scene with a wish of exceptions -/
abbrev blkX (X : Cx) (s : Shared) (H : Hp) (scope : Scope) (ce : Env) (fp : List Addr) (xe : Value → Shared → Prop) : Cx := (X.blk s H scope ce fp).tr [] xe
theorem toX {X : Cx} {s : Shared} {H H' : Hp} {scope : Scope} {ce : Env} {fp : List Addr} {xe : Value → Shared → Prop} {pins : List (Addr × Obj)} {σ : L2.St} {t : Shared}
    (I : Inv (X.blk s H scope ce fp) pins σ H' t) : Inv (blkX X s H scope ce fp xe) pins σ H' t :=
  ⟨I.ok.toTry _ _, I.os, I.bare, I.base, I.loc, I.cell, I.free, I.freeC, I.pin, I.hok, I.len⟩
theorem note_env {M : Model} {A : Around} {E : Value → Shared → Prop} {s : Shared} {u : Value} {e1 e2 : Env} {Q : Unit → Shared → Prop} (h : e1.frame = e2.frame) (k : wpAny M A (noteFrame u e2) Q E s) : wpAny M A (noteFrame u e1) Q E s := by
  have q : noteFrame u e1 = noteFrame u e2 := by
    unfold noteFrame PySem.frameOf
    rw [h]
  rw [q]
  exact k
/-- an error that a call within the block lets out is, behind the block, in the def's own air -/
theorem out_of {X : Cx} {pins pins' : List (Addr × Obj)} {σ σ' : L2.St} {H3 H : Hp} {s3 s s' : Shared} {scope : Scope} {ce : Env} {fp : List Addr} {E : XK} {xe : Value → Shared → Prop} {u : Value} {use : Option (Value → Sem Unit)} {Qv : Value → Shared → Prop} {acc : Value}
    (hs : X.stack = X.env :: X.outer) (hf : X.env.frame = some X.env.locals) (hce : ce.frame = X.env.frame) (hcl : s3.heap.objs.size = ce.locals)
    (I3 : Inv X pins σ H3 s3) (f3 : ∀ b ∈ fp, FpOk X pins H3 b) (tk : Takes X (fun cls d _ H' => E cls d H'))
    (I : Inv (blkX X s3 H3 scope ce fp xe) pins' σ' H s) (c : CX X.prog X.w X.stack H s E u s') :
    notedBy (model X.prog X.w) X.A ce (fun e t => PostX (model X.prog X.w) X.A X.xe use Qv acc ce (.error e) t) u s' := by
  obtain ⟨a, B, H', cls, d, rfl, fl, hok, ub, na, os, ag, hE⟩ := c
  have nC : H ce.locals = none := I.free
  have nfr : ce.locals ∉ frs X.stack := fun hb => by
    obtain ⟨_, o, ho, _⟩ := I.ok.funs.mem hb
    have z := Heap.lt_size ho
    have z2 : s3.heap.objs.size ≤ ce.locals := I.ok.above
    exact absurd (Nat.lt_of_lt_of_le z z2) (Nat.lt_irrefl _)
  obtain ⟨mC, ⟨oC, esC, epC, hoC, rC⟩, _⟩ := I.loc
  have hoC : s.heap.get? ce.locals = some oC := hoC
  have BC : B.get? ce.locals = some oC := ub.keep _ _ hoC nC nfr
  have nC' : H' ce.locals = none := ub.free _ _ hoC nC
  have fl' : HandSPX.FlyingZ B (X.env :: X.outer) a (Zc cls d) s'.heap := by rw [← hs]; exact fl
  have hfr : X.A.frames = some (X.env :: X.outer) := by rw [I3.ok.frames, hs]
  refine note_env hce (HandSPX.looks_onZ Zc.steady hfr hf fl' fun g1 held up1 => ?_)
  obtain ⟨st1, nBa, ff1, oe, vs, T, oT, ts, he, hz, hd, h1, hnT, hTe, hT, hdT, hts⟩ := held
  have hC1 : g1.get? ce.locals = some oC := st1 _ _ BC
  refine ⟨mC, ⟨oC, esC, epC, hC1, rC⟩, fun g2 sb => ?_⟩
  have aC : a ≠ ce.locals := fun e => by rw [e, BC] at nBa; cases nBa
  have TC : T ≠ ce.locals := fun e => by rw [e, BC] at hnT; cases hnT
  -- the ground without the block's scene
  obtain ⟨B2, b1, b2⟩ := restrict B fun b => decide (b ≠ ce.locals)
  have bk : ∀ b, b ≠ ce.locals → B2.get? b = B.get? b := fun b hb => b1 b (decide_eq_true hb)
  have bn : B2.get? ce.locals = none := b2 _ (by simp)
  have ofB : ∀ b o, B2.get? b = some o → b ≠ ce.locals ∧ B.get? b = some o := fun b o q => by
    by_cases hb : b = ce.locals
    · rw [hb, bn] at q; cases q
    · rw [bk b hb] at q; exact ⟨hb, q⟩
  have nB2 : ∀ b, B.get? b = none → B2.get? b = none := fun b q => by
    by_cases hb : b = ce.locals
    · rw [hb]; exact bn
    · rw [bk b hb]; exact q
  have st2 : B2.StaysIn g2 := fun b o q => by
    obtain ⟨hb, q⟩ := ofB b o q
    exact (sb.2 b hb).trans (st1 b o q)
  have ff2 : g2.FunFrames B2 (X.env :: X.outer) := by
    have ffB : g1.FunFrames B2 (X.env :: X.outer) := funFrames_none ff1 fun L hL => nB2 L (ff1.mem hL).1
    have aux : ∀ l : List Env, (∀ b ∈ frs l, b ≠ ce.locals) → g1.FunFrames B2 l → g2.FunFrames B2 l := by
      intro l
      induction l with
      | nil => intro _ _; trivial
      | cons e0 r ih =>
        intro hn hl
        obtain ⟨hk, ⟨L, o, hfL, hnL, ho, hdL⟩, hr⟩ := hl
        have hL : L ∈ frs (e0 :: r) := by unfold frs; rw [List.filterMap_cons, hfL]; exact List.mem_cons_self
        refine ⟨hk, ⟨L, o, hfL, hnL, (sb.2 L (hn L hL)).trans ho, hdL⟩, ih (fun b hb => hn b ?_) hr⟩
        unfold frs; rw [List.filterMap_cons, hfL]; exact List.mem_cons_of_mem _ hb
    exact aux _ (fun b hb e => nfr (by rw [hs, ← e]; exact hb)) ffB
  have tr2 : HandSPX.TracedZ g2 B2 a (Zc cls d) (rawInt X.env.locals) :=
    ⟨oe, vs, T, oT, ts, (sb.2 a aC).trans he, hz, hd, h1, nB2 T hnT, hTe, (sb.2 T TC).trans hT, hdT, hts⟩
  -- it is passed on
  unfold PySem.passOn
  refine wpAny_bind (wpAny_field ((sb.2 a aC).trans he) hd h1 ?_)
  rw [if_neg (show ¬ ((Value.ref T == Value.none) = true) from by simp)]
  refine wpAny_bind ?_
  rw [hce, hf]
  refine HandSPX.setFlight_onZ (base := B2) (l := X.env :: X.outer) (Z := Zc cls d) (L := X.env.locals) ⟨st2, nB2 a nBa, ff2, tr2⟩ fun g3 held3 up3 => ?_
  refine wpAny_throw (tk _ _ ?_)
  -- the state without it
  obtain ⟨G, k1, k2⟩ := restrict s'.heap fun b => ((B.get? b).isSome || decide (b ∈ frs X.stack)) && decide (b ≠ ce.locals)
  have st : B.StaysIn s'.heap := fl.1
  have gB : ∀ b o, b ≠ ce.locals → B.get? b = some o → G.get? b = some o := fun b o hb q => by
    rw [k1 b (by simp [q, hb])]
    exact st b o q
  have gF : ∀ b, b ∈ frs X.stack → G.get? b = s'.heap.get? b := fun b hb => k1 b (by
    have hn : b ≠ ce.locals := fun e => nfr (e ▸ hb)
    simp [hb, hn])
  have og : ∀ b o, G.get? b = some o → s'.heap.get? b = some o ∧ b ≠ ce.locals ∧ (b ∈ frs X.stack ∨ B.get? b = some o) := fun b o q => by
    cases z : (((B.get? b).isSome || decide (b ∈ frs X.stack)) && decide (b ≠ ce.locals)) with
    | false => rw [k2 b z] at q; cases q
    | true =>
      rw [k1 b z] at q
      rw [Bool.and_eq_true] at z
      have hn : b ≠ ce.locals := of_decide_eq_true z.2
      refine ⟨q, hn, ?_⟩
      by_cases hb : b ∈ frs X.stack
      · exact .inl hb
      · have z1 := z.1
        rw [decide_eq_false hb, Bool.or_false] at z1
        obtain ⟨o', q'⟩ := Option.isSome_iff_exists.mp z1
        have q2 := st b o' q'
        rw [q] at q2; cases q2
        exact .inr q'
  have old : ∀ b o, s3.heap.get? b = some o → b ≠ ce.locals := fun b o q e => by
    have z := Heap.lt_size q
    rw [e, ← hcl] at z
    exact absurd z (Nat.lt_irrefl _)
  have nt : ∀ b u, H' b = some u → b ≠ ce.locals := fun b u q e => by rw [e, nC'] at q; cases q
  have hokG : HOk X.prog X.w H' G := fun b o q => (hok b o q).stay (fun b2 u2 hc r => gB b2 u2 (by
    rcases hc with hc | hc
    · rw [hc]; exact nt b o q
    · exact nt b2 _ hc) r) (fun _ r => r) fun _ _ r => r
  have Ub := I.base
  have un : Un (frs X.stack) fp H3 H' s3.heap G := by
    refine ⟨fun b o q n hb hx => ?_, fun b o q n hb hx => ?_, fun b o q n hx => ?_, fun b o q hx => ?_, fun b xs q => ub.tups b xs (Ub.tups b xs q), fun b o xs q => ub.frzs b o xs (Ub.frzs b o xs q), fun b ps q => ?_⟩
    · exact gB b o (old b o q) (ub.keep b o (Ub.keep b o q n hb hx) (Ub.free b o q n hx) hb)
    · obtain ⟨sl, q1⟩ := Ub.slot b o q n hb hx
      obtain ⟨sl2, q2⟩ := ub.slot b _ q1 hb
      exact ⟨sl2, by rw [gF b hb]; exact q2⟩
    · obtain ⟨o1, q1⟩ := Ub.there b o q hx
      exact ub.free b o1 q1 (Ub.free b o q n hx)
    · obtain ⟨o1, q1⟩ := Ub.there b o q hx
      by_cases hb : b ∈ frs X.stack
      · obtain ⟨sl2, q2⟩ := ub.slot b _ q1 hb
        exact ⟨_, by rw [gF b hb]; exact q2⟩
      · obtain ⟨o2, q2⟩ := ub.there b o1 q1 hb
        exact ⟨o2, gB b o2 (old b o q) q2⟩
    · obtain ⟨m1, q1⟩ := Ub.tbls b ps q
      obtain ⟨m2, q2⟩ := ub.tbls b _ q1
      exact ⟨m1 ++ m2, by rw [q2, Array.append_assoc]⟩
  have hos : s.os = s3.os := I.os
  have J : Inv X pins σ H' { s3 with heap := G, gens := s'.gens, drawn := s'.drawn, toks := s'.toks } :=
    I3.call (ch := fp) un hokG ag fun b hb => ⟨(f3 b hb).2.2.2.1, (f3 b hb).2.1, (f3 b hb).2.2.2.2.1, (f3 b hb).2.2.2.2.2⟩
  have sbU : ∀ b o, b ≠ ce.locals → s'.heap.get? b = some o → (∀ vs, o.data ≠ .fields vs) → ∃ sl, g3.get? b = some { o with slots := sl } := fun b o hb q hn => by
    obtain ⟨sl, q1⟩ := up1 b o q hn
    obtain ⟨sl2, q2⟩ := up3 b _ ((sb.2 b hb).trans q1) hn
    exact ⟨sl2, q2⟩
  refine ⟨a, B2, _, pins, σ, H', cls, d, rfl, J, fun b o q hb => ?_, fun b o q hn => ?_, .inr (.inr (by rw [hs]; exact held3)), na, ?_, ag, hE⟩
  · obtain ⟨_, hn, z⟩ := og b o q
    rcases z with z | z
    · exact absurd z hb
    · rw [bk b hn]; exact z
  · obtain ⟨q1, hn1, _⟩ := og b o q
    exact sbU b o hn1 q1 hn
  · exact os.trans hos
/-- [elt for tg in iter if ..], its item may let an error out -/
theorem lcX_core {X : Cx} {pins : List (Addr × Obj)} {s : Shared} {σ : L2.St} {H : Hp} {Q : VK} {elt tg iter : Expr} {ifs : List Expr} {scope : Scope} {own : List (Str × Nat)} {pos pos' : Pos} {wi : TI} {g : TG} {tt : TT} {te : TE} {E : XK} {use : Option (Value → Sem Unit)} {Qf : Value → Shared → Prop} (hc : X.calm = true) (hN : X.N.Nodup) (I : Inv X pins σ H s)
    (hs : X.stack = X.env :: X.outer) (hf : X.env.frame = some X.env.locals) (tk : Takes X (fun cls d _ H' => E cls d H')) (hi : PI X tg iter wi) (ok : BlkOk X.N X.env.scope scope own)
    (hg : ∀ (s : Shared) (H : Hp) (C : Addr) (cl : List (Str × Addr)) (fp : List Addr) (xe : Value → Shared → Prop), PG (blkX X s H scope (compEnvC scope cl C X.env) fp xe) tg g)
    (ht : ∀ (s : Shared) (H : Hp) (C : Addr) (cl : List (Str × Addr)) (fp : List Addr) (xe : Value → Shared → Prop), PTs (blkX X s H scope (compEnvC scope cl C X.env) fp xe) ifs tt)
    (he : ∀ (s : Shared) (H : Hp) (C : Addr) (cl : List (Str × Addr)) (fp : List Addr) (xe : Value → Shared → Prop), Passes (CX X.prog X.w) (blkX X s H scope (compEnvC scope cl C X.env) fp xe) E → PE (blkX X s H scope (compEnvC scope cl C X.env) fp xe) elt te)
    (hfs : ∀ x, foldedSetIterable iter X.env x = pure x) (h : tLc wi g tt te (own.map (·.2)) σ H Q)
    (hRR : ∀ D (ce : Env) s' m H', Inv X pins σ H' s' → Q (.ref D) H' → s'.heap.Ns ce.locals m → FpOk X pins H' ce.locals → PostOk (model X.prog X.w) X.A X.xe use Qf (.ref D) ce s') :
    wpAny (model X.prog X.w) X.A (comprehension (.ListComp elt [⟨tg, iter, ifs, 0⟩] scope pos) scope X.env pos' (newList []) false (eval iter X.env) use) Qf X.xe s := by
  have hfree : ∀ y ∈ scope.names, y.2 = .free → ∃ c, X.env.cells.lookup y.1 = some c := fun y hy e => by
    rcases ok.free y hy e with k | k
    · exact I.ok.has _ (.inl k)
    · exact I.ok.has _ (.inr k)
  refine comp_any rfl hfs (closure_ok hfree) ok.kind (fun y hy e => by rw [ok.uniq y hy, e]) (thn (hi.run pins s σ H _ I h) fun xv s1 hx => thn hx fun itv s2 h2 => ?_)
  obtain ⟨it, fp, tn, J, H2, e, I2, T, st2, f2, q⟩ := h2
  subst e
  refine wpAny_newObj_type (newEnv_comp ?_) (by show 0 ≤ sizeLine; decide)
  generalize hD : s2.heap.objs.size = D
  have hDn : H2 D = none := I2.hok.fresh (Nat.le_of_eq hD)
  obtain ⟨W, ⟨m0, w0⟩, turn⟩ := q D hDn
  generalize hs3 : ({ s2 with heap := s2.heap.push { cls := .type "list", data := .seq ([] : List Value).toArray } } : Shared) = s3
  have h3 : s3.heap = s2.heap.push { cls := .type "list", data := .seq ([] : List Value).toArray } := by rw [← hs3]
  have I3 : Inv X pins σ (upd H2 D (.lst [])) s3 := by
    rw [← hs3]
    refine I2.laid (t' := s2.toks) (fun b o q => Heap.get?_push_of_some _ q) (Nat.le_of_eq hD) ⟨Nat.zero_le _, [], 0, .nil, ?_⟩
    rw [← hD]; exact Heap.get?_push_size _ rfl
  have f3 : ∀ b ∈ fp, FpOk X pins (upd H2 D (.lst [])) b ∧ b < s3.heap.objs.size := fun b hb => by
    obtain ⟨o, e, _⟩ := T.obj _ _ st2 b hb
    have hlt := Heap.lt_size e
    refine ⟨⟨?_, (f2 b hb).2⟩, by rw [h3, Heap.size_push]; exact Nat.lt_succ_of_lt hlt⟩
    rw [upd_ne (by rw [← hD]; exact Nat.ne_of_lt hlt)]; exact (f2 b hb).1
  have st3 : tn 0 s3.heap := T.keep _ _ _ st2 fun b _ o e => by rw [h3]; exact Heap.get?_push_of_some _ e
  have I4 := block_start I3 ok hN f3
  have pg := hg s3 (upd H2 D (.lst [])) s3.heap.objs.size (cellsFrom (s3.heap.objs.size + 1) scope.names (cloFrom X.env.cells scope.names [])) fp
  have pt := ht s3 (upd H2 D (.lst [])) s3.heap.objs.size (cellsFrom (s3.heap.objs.size + 1) scope.names (cloFrom X.env.cells scope.names [])) fp
  have pe := he s3 (upd H2 D (.lst [])) s3.heap.objs.size (cellsFrom (s3.heap.objs.size + 1) scope.names (cloFrom X.env.cells scope.names [])) fp
  show codeAny _ _ (.compStart (.ListComp elt [⟨tg, iter, ifs, 0⟩] scope pos) 0 (.ref it) (.ref D) (compEnvC scope (cellsFrom (s3.heap.objs.size + 1) scope.names (cloFrom X.env.cells scope.names [])) s3.heap.objs.size X.env))
    (PostX (model X.prog X.w) X.A X.xe use Qf (.ref D) (compEnvC scope (cellsFrom (s3.heap.objs.size + 1) scope.names (cloFrom X.env.cells scope.names [])) s3.heap.objs.size X.env)) { s3 with heap := pushCells (s3.heap.push { cls := .type "dict", data := .dict #[] }) scope.names }
  have nfp : ∀ b ∈ fp, (upd H2 D (.lst [])) b = none := fun b hb => (f3 b hb).1.1
  generalize hce : compEnvC scope (cellsFrom (s3.heap.objs.size + 1) scope.names (cloFrom X.env.cells scope.names [])) s3.heap.objs.size X.env = ce at I4 pg pt pe ⊢
  have cL : ce.locals = s3.heap.objs.size := by subst hce; rfl
  have cF : ce.frame = X.env.frame := by subst hce; rfl
  generalize hH3 : upd H2 D (.lst []) = H3 at I3 I4 pg pt pe w0 nfp f3
  generalize hs4 : ({ s3 with heap := pushCells (s3.heap.push { cls := .type "dict", data := .dict #[] }) scope.names } : Shared) = s4 at I4 ⊢
  have st4 : tn 0 s4.heap := T.keep _ _ _ st3 fun b _ o e => by rw [← hs4]; exact pushCells_keeps _ _ _ _ (Heap.get?_push_of_some _ e)
  -- the wish of the block's errors
  obtain ⟨R, hR⟩ : ∃ R, R = PostX (model X.prog X.w) X.A X.xe use Qf (.ref D) ce := ⟨_, rfl⟩
  rw [← hR]
  obtain ⟨xe, hxe⟩ : ∃ xe : Value → Shared → Prop, xe = notedBy (model X.prog X.w) X.A ce fun e t => R (.error e) t := ⟨_, rfl⟩
  have I4 : Inv (blkX X s3 H3 scope ce fp xe) [] (wipe σ (own.map (·.2))) H3 s4 := toX I4
  have pg := pg xe
  have pt := pt xe
  have pe := pe xe (fun pins' σ' H' t u t' I' c => by
    show xe u t'
    rw [hxe, hR]
    exact out_of hs hf cF cL.symm I3 (fun b hb => (f3 b hb).1) tk I' c)
  have stat : ∀ {σ' : L2.St} {H' : Hp} {t : Shared}, Inv (blkX X s3 H3 scope ce fp xe) [] σ' H' t → (∀ b ∈ fp, H' b = none) → ∀ b ∈ fp, FpOk (blkX X s3 H3 scope ce fp xe) [] H' b := fun {σ' H' t} I' hn b hb =>
    ⟨hn b hb, (I'.ok.exf b hb).1, I'.ok.exfs b hb, .inl hb, fun x c e => (I'.ok.exf b hb).2 x c e, fun p hp => absurd (show p ∈ ([] : List (Addr × Obj)) ++ [] from hp) (by simp)⟩
  have loop : codeAny (model X.prog X.w) X.A (.compLoop (.ListComp elt [⟨tg, iter, ifs, 0⟩] scope pos) 0 (.ref it) (.ref D) ce) R s4 := by
    refine compLoop_any (fun n t => ∃ i H', Inv (blkX X s3 H3 scope ce fp xe) [] (wipe σ (own.map (·.2))) H' t ∧ tn i t.heap ∧ (∀ b ∈ fp, H' b = none) ∧ W i n H') ?_ m0 ⟨0, H3, I4, st4, nfp, w0⟩
    rintro n s5 ⟨i, H5, I5, st5, n5, w5⟩
    rw [← hxe]
    rcases turn i n H5 w5 with ⟨stop, qq⟩ | ⟨go, Nx, hNx, step⟩
    · have td := T.done (blkX X s3 H3 scope ce fp xe) rfl rfl rfl hc i [] s5 _ H5 xe I5 (stat I5 n5) st5 stop
      refine thn td fun r s6 ⟨hr, I6⟩ => ?_
      subst hr
      have I7 : Inv X pins σ H5 s6 := I3.call' (ch := fp) I6.os I6.base I6.hok I6.bare fun b hb => ⟨(f3 b hb).1.2.2.2.1, (f3 b hb).1.2.1, (f3 b hb).1.2.2.2.2.1, (f3 b hb).1.2.2.2.2.2⟩
      have nC : H5 s3.heap.objs.size = none := by
        have z : H5 ce.locals = none := I6.free
        rw [cL] at z; exact z
      obtain ⟨m, hn, _⟩ := I6.loc
      have hn : s6.heap.Ns ce.locals m := hn
      show R (.ok .next) s6
      rw [hR]
      have fo := I3.fpOk (Nat.le_refl _) nC
      rw [← cL] at fo
      exact hRR D ce s6 m H5 I7 qq hn fo
    · have ti := T.item (blkX X s3 H3 scope ce fp xe) rfl rfl rfl hc i [] s5 _ H5 xe I5 (stat I5 n5) st5 go
      refine thn ti fun r s6 ⟨u, hr, h6⟩ => ?_
      subst hr
      refine thn h6 fun _ s7 ⟨x, H7, I7, r7, y7, st7, n7⟩ => ?_
      have I7' := I7.pinned (stat I7 n7) (T.obj _ _ st7)
      refine thn (pg.run _ s7 _ H7 x u _ I7' r7 (step x H7 y7)) fun _ s8 ⟨σ8, H8, I8, hw8, q8⟩ => ?_
      refine thn (pt.run _ s8 σ8 H8 _ I8 q8) fun b s9 ⟨H9, I9, q9⟩ => ?_
      have fin : ∀ {t : Shared} {H' : Hp}, Inv (blkX X s3 H3 scope ce fp xe) ([] ++ pinsAt fp s7.heap) σ8 H' t → Nx H' →
          ∃ m, m < n ∧ ∃ i H', Inv (blkX X s3 H3 scope ce fp xe) [] (wipe σ (own.map (·.2))) H' t ∧ tn i t.heap ∧ (∀ b ∈ fp, H' b = none) ∧ W i m H' := fun {t H'} I' nx => by
        obtain ⟨m', hm, w'⟩ := hNx H' nx
        have pin' : ∀ b ∈ fp, ∀ o, s7.heap.get? b = some o → t.heap.get? b = some o ∧ H' b = none := fun b hb o e =>
          let z := I'.pin (b, o) (List.mem_append_right _ (List.mem_append_right _ (mem_pinsAt hb e)))
          ⟨z.1, z.2.1⟩
        have hl : (wipe σ (own.map (·.2))).length = σ8.length := by rw [← hw8, wipe_length]
        refine ⟨m', hm, i + 1, H', (I'.unpinned (pins := [])).weak hl (fun j v e => by rw [← hw8] at e; exact (wipe_some e).1), T.keep _ _ _ st7 fun b hb o e => (pin' b hb o e).1, fun b hb => ?_, w'⟩
        obtain ⟨o, e, _⟩ := T.obj _ _ st7 b hb
        exact (pin' b hb o e).2
      cases b with
      | false =>
        simp only [Bool.false_eq_true, if_false] at q9 ⊢
        exact fin I9 q9
      | true =>
        simp only [if_true] at q9 ⊢
        refine thn (pe.run _ s9 σ8 H9 _ I9 q9) fun z s10 ⟨yv, H10, I10, r10, acc, hD10, hz10, nx⟩ => ?_
        exact app_ok (X := blkX X s3 H3 scope ce fp xe) I10 hD10 hz10 r10 fun s11 I11 => fin I11 nx
  exact codeAny_compStart_list loop (T.self X.A 0 _ _ _ st4 loop)
theorem pe_lcX {X : Cx} {elt tg iter : Expr} {ifs : List Expr} {scope : Scope} {own : List (Str × Nat)} {pos : Pos} {wi : TI} {g : TG} {tt : TT} {te : TE} {E : XK} (hc : X.calm = true) (hN : X.N.Nodup)
    (hs : X.stack = X.env :: X.outer) (hf : X.env.frame = some X.env.locals) (tk : Takes X (fun cls d _ H' => E cls d H')) (hi : PI X tg iter wi) (ok : BlkOk X.N X.env.scope scope own)
    (hg : ∀ (s : Shared) (H : Hp) (C : Addr) (cl : List (Str × Addr)) (fp : List Addr) (xe : Value → Shared → Prop), PG (blkX X s H scope (compEnvC scope cl C X.env) fp xe) tg g)
    (ht : ∀ (s : Shared) (H : Hp) (C : Addr) (cl : List (Str × Addr)) (fp : List Addr) (xe : Value → Shared → Prop), PTs (blkX X s H scope (compEnvC scope cl C X.env) fp xe) ifs tt)
    (he : ∀ (s : Shared) (H : Hp) (C : Addr) (cl : List (Str × Addr)) (fp : List Addr) (xe : Value → Shared → Prop), Passes (CX X.prog X.w) (blkX X s H scope (compEnvC scope cl C X.env) fp xe) E → PE (blkX X s H scope (compEnvC scope cl C X.env) fp xe) elt te)
    (hfs : ∀ x, foldedSetIterable iter X.env x = pure x := by intro _; rfl) : PE X (.ListComp elt [⟨tg, iter, ifs, 0⟩] scope pos) (tLc wi g tt te (own.map (·.2))) := by
  refine ⟨fun pins s σ H Q I h => ?_⟩
  rw [eval_ListComp]
  refine lcX_core (E := E) hc hN I hs hf tk hi ok hg ht he hfs h fun D ce s' m H' I' q hn f => ⟨m, hn, fun g' sb => ?_⟩
  obtain ⟨y0, y1, y2, y3, y4, y5⟩ := f
  exact ⟨.ref D, H', I'.turned (t' := s'.toks) (fun b o hb e => (sb.2 b hb).trans e) y0 y1 y3 y4 y5, rfl, q⟩
/-- y = [elt for tg in iter if ..] on one line, its item may let an error out -/
theorem ps_setLcX {X : Cx} {i : Nat} {y : Str} {py : Pos} {elt tg iter : Expr} {ifs : List Expr} {scope : Scope} {own : List (Str × Nat)} {pos spos : Pos} {wi : TI} {g : TG} {tt : TT} {te : TE} {E : XK} (hc : X.calm = true) (hN : X.N.Nodup) (hy : X.N[i]? = some y) (hyl : X.env.scope.names.lookup y = some .local)
    (hsw : swapsWith (.ListComp elt [⟨tg, iter, ifs, 0⟩] scope pos) (some (.Name y py)) spos.line X.env = pure true)
    (hs : X.stack = X.env :: X.outer) (hf : X.env.frame = some X.env.locals) (tk : Takes X (fun cls d _ H' => E cls d H')) (hi : PI X tg iter wi) (ok : BlkOk X.N X.env.scope scope own)
    (hg : ∀ (s : Shared) (H : Hp) (C : Addr) (cl : List (Str × Addr)) (fp : List Addr) (xe : Value → Shared → Prop), PG (blkX X s H scope (compEnvC scope cl C X.env) fp xe) tg g)
    (ht : ∀ (s : Shared) (H : Hp) (C : Addr) (cl : List (Str × Addr)) (fp : List Addr) (xe : Value → Shared → Prop), PTs (blkX X s H scope (compEnvC scope cl C X.env) fp xe) ifs tt)
    (he : ∀ (s : Shared) (H : Hp) (C : Addr) (cl : List (Str × Addr)) (fp : List Addr) (xe : Value → Shared → Prop), Passes (CX X.prog X.w) (blkX X s H scope (compEnvC scope cl C X.env) fp xe) E → PE (blkX X s H scope (compEnvC scope cl C X.env) fp xe) elt te)
    (hfs : ∀ x, foldedSetIterable iter X.env x = pure x := by intro _; rfl) :
    PS X (.Assign [.Name y py] (.ListComp elt [⟨tg, iter, ifs, 0⟩] scope pos) spos) (tAsg (tLc wi g tt te (own.map (·.2))) (gName i)) := by
  refine ⟨fun pins s σ H D I h => ?_⟩
  rw [exec_Assign_Name_used _ _ _ _ hsw]
  refine wpAny_bind (wpAny_standAt (wpAny_bind ?_))
  show wpAny _ X.A (do let _ ← comprehension (.ListComp elt [⟨tg, iter, ifs, 0⟩] scope pos) scope X.env (firstIterPos [⟨tg, iter, ifs, 0⟩] pos) (newList []) false (eval iter X.env) (some (assign (.Name y py) X.env))) _ _ s
  have h : tLc wi g tt te (own.map (·.2)) σ H (fun x H1 => gName i x σ H1 D.nx) := h
  refine wpAny_bind (thn (lcX_core (E := E) (Qf := fun _ s' => SP X pins D .next s') hc hN I hs hf tk hi ok hg ht he hfs h fun L ce s' m H' I' q hn f => ?_) fun _ s' hq => wpAny_pure (wpAny_pure hq))
  show wpAny _ _ (assign (.Name y py) X.env (.ref L)) _ _ _
  refine wpAny_assign_Name (store_ok2 (v := V.ref L) I' hN hy (.inl hyl) rfl (fun s2 I2 ⟨a, sb, ha⟩ => ?_) (.inr hyl))
  obtain ⟨f0, f1, f2, f3, f4, f5⟩ := f
  have haC : ce.locals ≠ a := by
    rcases ha with z | z
    · rw [z]; exact f1
    · exact fun e => f4 y a z e.symm
  refine ⟨m, hn.sameBut sb haC, fun h3 sb3 => ?_⟩
  exact ⟨_, H', I2.turned (t' := s2.toks) (fun b o hb e => (sb3.2 b hb).trans e) f0 f1 f3 f4 f5, q⟩
end ScL
namespace Sc
open Kzq1 (Q P)
theorem rat_mk {n : Int} {d : Nat} (h : d ≠ 0) : mkRat n d = (n : Rat) / ((d : Nat) : Rat) := by
  rw [Rat.mkRat_eq_div]
theorem val_mkJ {t b : Int} (h : b ≠ 0) : val (mkI t b) = (t : Rat) / (b : Rat) := by
  unfold mkI
  by_cases c : b < 0
  · rw [if_pos c, val_mk (by omega), ← Rat.divInt_ofNat, show ((b.natAbs : Nat) : Int) = -b by omega, Rat.neg_divInt_neg, Rat.divInt_eq_div]
  · rw [if_neg c, val_mk (by omega), ← Rat.divInt_ofNat, show ((b.natAbs : Nat) : Int) = b by omega, Rat.divInt_eq_div]
theorem val_nd {a : Q} (h : Ok a) : val a = (a.n : Rat) / ((a.d : Int) : Rat) := by
  unfold val
  rw [Rat.mkRat_eq_div]; rfl
theorem mkI_div {a b : Q} (ha : Ok a) (hb : Ok b) (h : b.n ≠ 0) : mkI (a.n * (b.d : Int)) ((a.d : Int) * b.n) = Kzq1.div a b := by
  have hv : val b ≠ 0 := fun e => h ((n_zero_iff hb).mpr e)
  have hd : (a.d : Int) ≠ 0 := by have := ha.1; omega
  have hbd : (b.d : Int) ≠ 0 := by have := hb.1; omega
  have h0 : (a.d : Int) * b.n ≠ 0 := Int.mul_ne_zero hd h
  refine val_inj (mkI_ok h0) (div_ok ha hb hv) ?_
  rw [val_mkJ h0, val_div ha hb hv, val_nd ha, val_nd hb, Rat.intCast_mul, Rat.intCast_mul]
  have e1 : ((a.d : Int) : Rat) ≠ 0 := by simpa using hd
  have e2 : ((b.d : Int) : Rat) ≠ 0 := by simpa using hbd
  have e3 : (b.n : Rat) ≠ 0 := by simpa using h
  generalize ((a.d : Int) : Rat) = x at *
  generalize ((b.d : Int) : Rat) = y at *
  generalize (a.n : Rat) = p at *
  generalize (b.n : Rat) = q at *
  grind
theorem mkI_sz {t b : Int} {k : Nat} (h : b ≠ 0) (h1 : t.natAbs < 2 ^ k) (h2 : b.natAbs < 2 ^ k) : Sz k (mkI t b) := by
  unfold mkI
  split
  · exact mk_sz (by omega) (by rw [Int.natAbs_neg]; exact h1) h2
  · exact mk_sz (by omega) h1 h2
theorem div_sz {a b : Q} {j k : Nat} (ha : Ok a) (hb : Ok b) (h : b.n ≠ 0) (h1 : Sz j a) (h2 : Sz k b) : Sz (j + k) (Kzq1.div a b) := by
  have hd : (a.d : Int) ≠ 0 := by have := ha.1; omega
  rw [← mkI_div ha hb h]
  refine mkI_sz (Int.mul_ne_zero hd h) (mul_lt h1.1 (by simpa using h2.2)) ?_
  have := mul_lt (i := (a.d : Int)) (j := b.n) (a := j) (b := k) (by simpa using h1.2) h2.1
  exact this
end Sc
namespace Sc
open Kzq1 (Q P)
/-! Figures in whole numbers -/
abbrev C2 := Int × Int
def pt (c : C2) : P := ⟨Kzq1.whole c.1, Kzq1.whole c.2⟩
theorem pt_ok (c : C2) : OkP (pt c) := ⟨whole_ok _, whole_ok _⟩
theorem px_pt (c : C2) : px (pt c) = (c.1 : Rat) := val_whole _
theorem py_pt (c : C2) : py (pt c) = (c.2 : Rat) := val_whole _
def turnI (a b c : C2) : Int := (b.1 - a.1) * (c.2 - a.2) - (b.2 - a.2) * (c.1 - a.1)
theorem val_turnI (a b c : C2) : val (Kzq1.turn (pt a) (pt b) (pt c)) = (turnI a b c : Rat) := by
  rw [val_turn (pt_ok a) (pt_ok b) (pt_ok c), px_pt, px_pt, px_pt, py_pt, py_pt, py_pt]
  unfold turnI
  simp only [Rat.intCast_sub, Rat.intCast_mul]
theorem ofInt_zero_iff (n : Int) : ((n : Rat) = 0) ↔ n = 0 := Rat.intCast_eq_zero_iff
theorem isZero_turnI (a b c : C2) : Kzq1.isZero (Kzq1.turn (pt a) (pt b) (pt c)) = decide (turnI a b c = 0) := by
  rw [isZero_eq (turn_ok (pt_ok a) (pt_ok b) (pt_ok c)), val_turnI, decide_eq_decide]
  exact ofInt_zero_iff _
theorem pos_turnI (a b c : C2) : Kzq1.pos (Kzq1.turn (pt a) (pt b) (pt c)) = decide (0 < turnI a b c) := by
  rw [pos_eq (turn_ok (pt_ok a) (pt_ok b) (pt_ok c)), val_turnI, decide_eq_decide]
  exact Rat.intCast_pos
theorem lt_whole (a b : Int) : Kzq1.lt (Kzq1.whole a) (Kzq1.whole b) = decide (a < b) := by
  unfold Kzq1.lt Kzq1.whole
  simp
theorem le_whole (a b : Int) : Kzq1.le (Kzq1.whole a) (Kzq1.whole b) = decide (a ≤ b) := by
  unfold Kzq1.le
  rw [lt_whole, ← decide_not, decide_eq_decide]
  omega
/-! two sides with a point in common -/
def btw (a b c : Int) : Prop := (a ≤ c ∧ c ≤ b) ∨ (b ≤ c ∧ c ≤ a)
theorem between_iff (a b c : C2) : Kzq1.between (pt a) (pt b) (pt c) = true ↔ btw a.1 b.1 c.1 ∧ btw a.2 b.2 c.2 := by
  unfold Kzq1.between pt btw
  simp only [lt_whole]
  by_cases h1 : a.1 < b.1 <;> by_cases h2 : a.2 < b.2 <;> simp only [h1, h2, decide_true, decide_false, if_true, if_false, le_whole, Bool.and_eq_true, decide_eq_true_eq, Bool.false_eq_true] <;> omega
theorem on_iff (a b c : C2) : Kzq1.on (pt a, pt b) (pt c) = true ↔ turnI a b c = 0 ∧ btw a.1 b.1 c.1 ∧ btw a.2 b.2 c.2 := by
  unfold Kzq1.on
  rw [Bool.and_eq_true, between_iff, isZero_turnI, decide_eq_true_eq]
theorem side1_eq (a b c : C2) : Kzq1.side1 (pt a) (pt b) (pt c) = if 0 < turnI a b c then 1 else if turnI a b c = 0 then 0 else -1 := by
  unfold Kzq1.side1
  rw [pos_turnI, isZero_turnI]
  simp only [decide_eq_true_eq]
theorem sides_apart (a b c d : C2) : (Kzq1.side1 (pt a) (pt b) (pt c) * Kzq1.side1 (pt a) (pt b) (pt d) == -1) = true ↔ (0 < turnI a b c ∧ turnI a b d < 0) ∨ (turnI a b c < 0 ∧ 0 < turnI a b d) := by
  rw [side1_eq, side1_eq, beq_iff_eq]
  generalize turnI a b c = x
  generalize turnI a b d = y
  rcases Int.lt_trichotomy x 0 with h | h | h <;> rcases Int.lt_trichotomy y 0 with k | k | k
  · rw [if_neg (by omega), if_neg (by omega), if_neg (by omega), if_neg (by omega)]; exact ⟨fun z => absurd z (by decide), fun z => by omega⟩
  · rw [if_neg (by omega), if_neg (by omega), if_neg (by omega), if_pos k]; exact ⟨fun z => absurd z (by decide), fun z => by omega⟩
  · rw [if_neg (by omega), if_neg (by omega), if_pos k]; exact ⟨fun _ => .inr ⟨h, k⟩, fun _ => by decide⟩
  · rw [if_neg (by omega), if_pos h, if_neg (by omega), if_neg (by omega)]; exact ⟨fun z => absurd z (by decide), fun z => by omega⟩
  · rw [if_neg (by omega), if_pos h, if_neg (by omega), if_pos k]; exact ⟨fun z => absurd z (by decide), fun z => by omega⟩
  · rw [if_neg (by omega), if_pos h, if_pos k]; exact ⟨fun z => absurd z (by decide), fun z => by omega⟩
  · rw [if_pos h, if_neg (by omega), if_neg (by omega)]; exact ⟨fun _ => .inl ⟨h, k⟩, fun _ => by decide⟩
  · rw [if_pos h, if_neg (by omega), if_pos k]; exact ⟨fun z => absurd z (by decide), fun z => by omega⟩
  · rw [if_pos h, if_pos k]; exact ⟨fun z => absurd z (by decide), fun z => by omega⟩
/-- the program's: two sides meet -/
def spanI (a b c d : Int) : Bool := decide ((if b < a then b else a) ≤ (if d > c then d else c)) && decide ((if d < c then d else c) ≤ (if b > a then b else a))
def reachI (a b c d : C2) : Bool := decide (turnI c d a * turnI c d b ≤ 0)
def meetI (a b c d : C2) : Bool := reachI a b c d && (reachI c d a b && (spanI a.1 b.1 c.1 d.1 && spanI a.2 b.2 c.2 d.2))
theorem span_iff (a b c d : Int) : spanI a b c d = true ↔ btw a b c ∨ btw a b d ∨ btw c d a ∨ btw c d b := by
  unfold spanI btw
  rw [Bool.and_eq_true, decide_eq_true_eq, decide_eq_true_eq]
  by_cases h1 : b < a <;> by_cases h2 : d < c <;> simp only [h1, h2, if_true, if_false] <;> (split <;> split <;> omega)
theorem sq_pos {x : Int} (h : x ≠ 0) : 0 < x * x := by
  rcases Int.lt_or_gt_of_ne h with h | h
  · exact Int.mul_pos_of_neg_of_neg h h
  · exact Int.mul_pos h h
theorem sq_nonneg (x : Int) : 0 ≤ x * x := by
  by_cases h : x = 0
  · subst h; decide
  · exact Int.le_of_lt (sq_pos h)
theorem btw_iff (a b c : Int) : btw a b c ↔ (a - c) * (b - c) ≤ 0 := by
  unfold btw
  constructor
  · rintro (⟨h1, h2⟩ | ⟨h1, h2⟩)
    · exact Int.mul_nonpos_of_nonpos_of_nonneg (by omega) (by omega)
    · exact Int.mul_nonpos_of_nonneg_of_nonpos (by omega) (by omega)
  · intro h
    refine Classical.byContradiction fun z => ?_
    by_cases h1 : a < c
    · have : 0 < (c - a) * (c - b) := Int.mul_pos (by omega) (by omega)
      have e : (c - a) * (c - b) = (a - c) * (b - c) := by grind
      omega
    · have : 0 < (a - c) * (b - c) := Int.mul_pos (by omega) (by omega)
      omega
/-- c on the line of a and b, and the line through c and d leaves one of them on a side of its own: c lies between a and b -/
theorem on_of_reach {a b c d : C2} (h0 : turnI a b c = 0) (h : turnI c d a * turnI c d b ≤ 0) (hn : turnI c d a ≠ 0 ∨ turnI c d b ≠ 0) : btw a.1 b.1 c.1 ∧ btw a.2 b.2 c.2 := by
  have key : ∀ p q x y : Int, p * y = q * x → x * y ≤ 0 → (x ≠ 0 ∨ y ≠ 0) → p * q ≤ 0 := fun p q x y e hxy hne => by
    refine Classical.byContradiction fun z => ?_
    have hpq : 0 < p * q := by omega
    rcases hne with hx | hy
    · have h1 : 0 < (p * q) * (x * x) := Int.mul_pos hpq (sq_pos hx)
      have e1 : (p * q) * (x * x) = (p * p) * (x * y) := by grind
      have h2 : (p * p) * (x * y) ≤ 0 := Int.mul_nonpos_of_nonneg_of_nonpos (sq_nonneg p) hxy
      omega
    · have h1 : 0 < (p * q) * (y * y) := Int.mul_pos hpq (sq_pos hy)
      have e1 : (p * q) * (y * y) = (q * q) * (x * y) := by grind
      have h2 : (q * q) * (x * y) ≤ 0 := Int.mul_nonpos_of_nonneg_of_nonpos (sq_nonneg q) hxy
      omega
  rw [btw_iff, btw_iff]
  unfold turnI at h0 h hn
  refine ⟨key _ _ _ _ ?_ h hn, key _ _ _ _ ?_ h hn⟩
  · grind
  · grind
/-- c between a and b: the line through c and d has them on two sides, or on it -/
theorem reach_of_on {a b c d : C2} (h0 : turnI a b c = 0) (h1 : btw a.1 b.1 c.1) (h2 : btw a.2 b.2 c.2) : turnI c d a * turnI c d b ≤ 0 := by
  rw [btw_iff] at h1 h2
  have key : ∀ p1 p2 q1 q2 x y : Int, p1 * q2 = p2 * q1 → p1 * q1 ≤ 0 → p2 * q2 ≤ 0 → (x * p2 - y * p1) * (x * q2 - y * q1) ≤ 0 := fun p1 p2 q1 q2 x y e A B => by
    by_cases hA : p1 * q1 = 0
    · have m0 : p1 * q2 = 0 := by
        have e2 : (p1 * q2) * (p1 * q2) = (p1 * q1) * (p2 * q2) := by grind
        rw [hA, Int.zero_mul] at e2
        rcases Int.mul_eq_zero.mp e2 with z | z <;> exact z
      have e3 : (x * p2 - y * p1) * (x * q2 - y * q1) = (x * x) * (p2 * q2) := by grind
      rw [e3]
      exact Int.mul_nonpos_of_nonneg_of_nonpos (sq_nonneg x) B
    · have hA : p1 * q1 < 0 := by omega
      refine Classical.byContradiction fun z => ?_
      have hz : 0 < (x * p2 - y * p1) * (x * q2 - y * q1) := by omega
      have h1 : (p1 * q1) * ((x * p2 - y * p1) * (x * q2 - y * q1)) < 0 := Int.mul_neg_of_neg_of_pos hA hz
      have e3 : (p1 * q1) * ((x * p2 - y * p1) * (x * q2 - y * q1)) = (x * (p1 * q2) - y * (p1 * q1)) * (x * (p1 * q2) - y * (p1 * q1)) := by grind
      have := sq_nonneg (x * (p1 * q2) - y * (p1 * q1))
      omega
  unfold turnI at h0 ⊢
  exact key (a.1 - c.1) (a.2 - c.2) (b.1 - c.1) (b.2 - c.2) (d.1 - c.1) (d.2 - c.2) (by grind) h1 h2
theorem turn_shift (a b c d : C2) : turnI a b c - turnI a b d = turnI c d b - turnI c d a := by
  unfold turnI; grind
theorem turn_mix1 (a b c d : C2) : turnI c d b * a.1 - turnI c d a * b.1 = turnI a b c * d.1 - turnI a b d * c.1 := by
  unfold turnI; grind
theorem turn_mix2 (a b c d : C2) : turnI c d b * a.2 - turnI c d a * b.2 = turnI a b c * d.2 - turnI a b d * c.2 := by
  unfold turnI; grind
/-- two mixes of a, b and of c, d, alike weighed, that are one: neither pair lies all beyond the other -/
theorem span_of_mix {a b c d p q r s : Int} (hp : 0 < p) (hq : 0 < q) (hr : 0 < r) (hs : 0 < s) (hw : p + q = r + s) (e : p * a + q * b = r * c + s * d) : spanI a b c d = true := by
  have no : ∀ {a b c d p q r s : Int}, 0 < p → 0 < q → 0 < r → 0 < s → p + q = r + s → p * a + q * b = r * c + s * d → ∀ m, a < m → b < m → m ≤ c → m ≤ d → False := fun {a b c d p q r s} hp hq hr hs hw e m h1 h2 h3 h4 => by
    have k1 := Int.mul_pos hp (show 0 < m - a by omega)
    have k2 := Int.mul_pos hq (show 0 < m - b by omega)
    have k3 := Int.mul_nonneg (Int.le_of_lt hr) (show 0 ≤ c - m by omega)
    have k4 := Int.mul_nonneg (Int.le_of_lt hs) (show 0 ≤ d - m by omega)
    have e2 : p * (m - a) + q * (m - b) + (r * (c - m) + s * (d - m)) = 0 := by grind
    omega
  rw [span_iff]
  refine Classical.byContradiction fun z => ?_
  unfold btw at z
  by_cases h : a < c ∧ a < d
  · exact no hp hq hr hs hw e (if c < d then c else d) (by split <;> omega) (by split <;> omega) (by split <;> omega) (by split <;> omega)
  · exact no hr hs hp hq hw.symm e.symm (if a < b then a else b) (by split <;> omega) (by split <;> omega) (by split <;> omega) (by split <;> omega)
theorem turn_swap (a b c : C2) : turnI b a c = - turnI a b c := by unfold turnI; grind
theorem turn_cyc (a b c : C2) : turnI b c a = turnI a b c := by unfold turnI; grind
theorem btw_swap {a b c : Int} (h : btw a b c) : btw b a c := by unfold btw at *; omega
theorem meet_symm (a b c d : C2) : meetI a b c d = meetI c d a b := by
  have sp : ∀ a b c d : Int, spanI a b c d = spanI c d a b := fun a b c d => by unfold spanI; rw [Bool.and_comm]
  unfold meetI
  rw [sp a.1, sp a.2, ← Bool.and_assoc, ← Bool.and_assoc, Bool.and_comm (reachI a b c d)]
  simp only [Bool.and_assoc]
theorem meet_flip (a b c d : C2) : meetI a b d c = meetI a b c d := by
  rw [Bool.eq_iff_iff]
  unfold meetI reachI
  simp only [Bool.and_eq_true, decide_eq_true_eq, span_iff, turn_swap c d, Int.neg_mul_neg, Int.mul_comm (turnI a b d)]
  constructor
  · rintro ⟨h1, h2, h3, h4⟩
    refine ⟨h1, h2, ?_, ?_⟩
    · rcases h3 with h | h | h | h
      · exact .inr (.inl h)
      · exact .inl h
      · exact .inr (.inr (.inl (btw_swap h)))
      · exact .inr (.inr (.inr (btw_swap h)))
    · rcases h4 with h | h | h | h
      · exact .inr (.inl h)
      · exact .inl h
      · exact .inr (.inr (.inl (btw_swap h)))
      · exact .inr (.inr (.inr (btw_swap h)))
  · rintro ⟨h1, h2, h3, h4⟩
    refine ⟨h1, h2, ?_, ?_⟩
    · rcases h3 with h | h | h | h
      · exact .inr (.inl h)
      · exact .inl h
      · exact .inr (.inr (.inl (btw_swap h)))
      · exact .inr (.inr (.inr (btw_swap h)))
    · rcases h4 with h | h | h | h
      · exact .inr (.inl h)
      · exact .inl h
      · exact .inr (.inr (.inl (btw_swap h)))
      · exact .inr (.inr (.inr (btw_swap h)))
/-- a point of one side on the other side -/
def onI (a b c : C2) : Prop := turnI a b c = 0 ∧ btw a.1 b.1 c.1 ∧ btw a.2 b.2 c.2
theorem meet_of_on {a b c d : C2} (h : onI a b c) : meetI a b c d = true := by
  obtain ⟨h0, h1, h2⟩ := h
  unfold meetI reachI
  rw [Bool.and_eq_true, Bool.and_eq_true, Bool.and_eq_true, decide_eq_true_eq, decide_eq_true_eq, span_iff, span_iff]
  exact ⟨reach_of_on h0 h1 h2, by rw [h0, Int.zero_mul]; exact Int.le_refl _, .inl h1, .inl h2⟩
theorem col_y {a b c : C2} (hu : a.1 ≠ b.1) (h0 : turnI a b c = 0) (h1 : btw a.1 b.1 c.1) : btw a.2 b.2 c.2 := by
  rw [btw_iff] at h1 ⊢
  refine Classical.byContradiction fun z => ?_
  have hz : 0 < (a.2 - c.2) * (b.2 - c.2) := by omega
  have k := Int.mul_pos hz (sq_pos (show b.1 - a.1 ≠ 0 by omega))
  have e : (a.2 - c.2) * (b.2 - c.2) * ((b.1 - a.1) * (b.1 - a.1)) = (b.2 - a.2) * (b.2 - a.2) * ((a.1 - c.1) * (b.1 - c.1)) := by
    unfold turnI at h0; grind
  have k2 := Int.mul_nonpos_of_nonneg_of_nonpos (sq_nonneg (b.2 - a.2)) h1
  omega
theorem col_x {a b c : C2} (hu : a.2 ≠ b.2) (h0 : turnI a b c = 0) (h1 : btw a.2 b.2 c.2) : btw a.1 b.1 c.1 := by
  rw [btw_iff] at h1 ⊢
  refine Classical.byContradiction fun z => ?_
  have hz : 0 < (a.1 - c.1) * (b.1 - c.1) := by omega
  have k := Int.mul_pos hz (sq_pos (show b.2 - a.2 ≠ 0 by omega))
  have e : (a.1 - c.1) * (b.1 - c.1) * ((b.2 - a.2) * (b.2 - a.2)) = (b.1 - a.1) * (b.1 - a.1) * ((a.2 - c.2) * (b.2 - c.2)) := by
    unfold turnI at h0; grind
  have k2 := Int.mul_nonpos_of_nonneg_of_nonpos (sq_nonneg (b.1 - a.1)) h1
  omega
theorem col_ne1 {a b c d : C2} (hu : a.1 ≠ b.1) (hcd : c ≠ d) (h1 : turnI a b c = 0) (h2 : turnI a b d = 0) : c.1 ≠ d.1 := fun e => hcd (by
  have e2 : (b.1 - a.1) * (c.2 - d.2) = 0 := by unfold turnI at h1 h2; grind
  rcases Int.mul_eq_zero.mp e2 with z | z
  · omega
  · exact Prod.ext e (by omega))
theorem col_ne2 {a b c d : C2} (hu : a.2 ≠ b.2) (hcd : c ≠ d) (h1 : turnI a b c = 0) (h2 : turnI a b d = 0) : c.2 ≠ d.2 := fun e => hcd (by
  have e2 : (b.2 - a.2) * (c.1 - d.1) = 0 := by unfold turnI at h1 h2; grind
  rcases Int.mul_eq_zero.mp e2 with z | z
  · omega
  · exact Prod.ext (by omega) e)
theorem on_of_meet {a b c d : C2} (hab : a ≠ b) (hcd : c ≠ d) (h : meetI a b c d = true) :
    onI a b c ∨ onI a b d ∨ onI c d a ∨ onI c d b ∨ (((0 < turnI a b c ∧ turnI a b d < 0) ∨ (turnI a b c < 0 ∧ 0 < turnI a b d)) ∧ ((0 < turnI c d a ∧ turnI c d b < 0) ∨ (turnI c d a < 0 ∧ 0 < turnI c d b))) := by
  unfold meetI reachI at h
  rw [Bool.and_eq_true, Bool.and_eq_true, Bool.and_eq_true, decide_eq_true_eq, decide_eq_true_eq, span_iff, span_iff] at h
  obtain ⟨r1, r2, s1, s2⟩ := h
  have sh := turn_shift a b c d
  by_cases h1 : turnI a b c = 0
  · by_cases h34 : turnI c d a ≠ 0 ∨ turnI c d b ≠ 0
    · obtain ⟨x, y⟩ := on_of_reach h1 r1 h34
      exact .inl ⟨h1, x, y⟩
    · have h3 : turnI c d a = 0 := Classical.byContradiction fun z => h34 (.inl z)
      have h4 : turnI c d b = 0 := Classical.byContradiction fun z => h34 (.inr z)
      have h2 : turnI a b d = 0 := by omega
      by_cases u1 : a.1 = b.1
      · have u2 : a.2 ≠ b.2 := fun z => hab (Prod.ext u1 z)
        have w2 := col_ne2 u2 hcd h1 h2
        rcases s2 with z | z | z | z
        · exact .inl ⟨h1, col_x u2 h1 z, z⟩
        · exact .inr (.inl ⟨h2, col_x u2 h2 z, z⟩)
        · exact .inr (.inr (.inl ⟨h3, col_x w2 h3 z, z⟩))
        · exact .inr (.inr (.inr (.inl ⟨h4, col_x w2 h4 z, z⟩)))
      · have w1 := col_ne1 u1 hcd h1 h2
        rcases s1 with z | z | z | z
        · exact .inl ⟨h1, z, col_y u1 h1 z⟩
        · exact .inr (.inl ⟨h2, z, col_y u1 h2 z⟩)
        · exact .inr (.inr (.inl ⟨h3, z, col_y w1 h3 z⟩))
        · exact .inr (.inr (.inr (.inl ⟨h4, z, col_y w1 h4 z⟩)))
  · by_cases h2 : turnI a b d = 0
    · have r1' : turnI d c a * turnI d c b ≤ 0 := by rw [turn_swap c d, turn_swap c d, Int.neg_mul_neg]; exact r1
      have hn : turnI d c a ≠ 0 ∨ turnI d c b ≠ 0 := by
        rw [turn_swap c d, turn_swap c d]
        by_cases z : turnI c d a = 0
        · exact .inr (by omega)
        · exact .inl (by omega)
      obtain ⟨x, y⟩ := on_of_reach h2 r1' hn
      exact .inr (.inl ⟨h2, x, y⟩)
    · by_cases h3 : turnI c d a = 0
      · obtain ⟨x, y⟩ := on_of_reach h3 r2 (.inl h1)
        exact .inr (.inr (.inl ⟨h3, x, y⟩))
      · by_cases h4 : turnI c d b = 0
        · have r2' : turnI b a c * turnI b a d ≤ 0 := by rw [turn_swap a b, turn_swap a b, Int.neg_mul_neg]; exact r2
          obtain ⟨x, y⟩ := on_of_reach h4 r2' (.inl (by rw [turn_swap a b]; omega))
          exact .inr (.inr (.inr (.inl ⟨h4, x, y⟩)))
        · have sg : ∀ x y : Int, x ≠ 0 → y ≠ 0 → x * y ≤ 0 → (0 < x ∧ y < 0) ∨ (x < 0 ∧ 0 < y) := fun x y hx hy hxy => by
            rcases Int.lt_or_gt_of_ne hx with k | k <;> rcases Int.lt_or_gt_of_ne hy with l | l
            · have := Int.mul_pos_of_neg_of_neg k l; omega
            · exact .inr ⟨k, l⟩
            · exact .inl ⟨k, l⟩
            · have := Int.mul_pos k l; omega
          exact .inr (.inr (.inr (.inr ⟨sg _ _ h1 h2 r2, sg _ _ h3 h4 r1⟩)))
theorem meet_of_cross {a b c d : C2} (h1 : (0 < turnI a b c ∧ turnI a b d < 0) ∨ (turnI a b c < 0 ∧ 0 < turnI a b d)) (h2 : (0 < turnI c d a ∧ turnI c d b < 0) ∨ (turnI c d a < 0 ∧ 0 < turnI c d b)) : meetI a b c d = true := by
  have sh := turn_shift a b c d
  have m1 := turn_mix1 a b c d
  have m2 := turn_mix2 a b c d
  unfold meetI reachI
  rw [Bool.and_eq_true, Bool.and_eq_true, Bool.and_eq_true, decide_eq_true_eq, decide_eq_true_eq]
  rcases h1 with ⟨x, y⟩ | ⟨x, y⟩
  · obtain ⟨z, t⟩ : turnI c d a < 0 ∧ 0 < turnI c d b := by omega
    refine ⟨Int.le_of_lt (Int.mul_neg_of_neg_of_pos z t), Int.le_of_lt (Int.mul_neg_of_pos_of_neg x y), ?_, ?_⟩
    · exact span_of_mix (p := turnI c d b) (q := -turnI c d a) (r := -turnI a b d) (s := turnI a b c) t (by omega) (by omega) x (by omega) (by grind)
    · exact span_of_mix (p := turnI c d b) (q := -turnI c d a) (r := -turnI a b d) (s := turnI a b c) t (by omega) (by omega) x (by omega) (by grind)
  · obtain ⟨z, t⟩ : 0 < turnI c d a ∧ turnI c d b < 0 := by omega
    refine ⟨Int.le_of_lt (Int.mul_neg_of_pos_of_neg z t), Int.le_of_lt (Int.mul_neg_of_neg_of_pos x y), ?_, ?_⟩
    · exact span_of_mix (p := -turnI c d b) (q := turnI c d a) (r := turnI a b d) (s := -turnI a b c) (by omega) z y (by omega) (by omega) (by grind)
    · exact span_of_mix (p := -turnI c d b) (q := turnI c d a) (r := turnI a b d) (s := -turnI a b c) (by omega) z y (by omega) (by omega) (by grind)
theorem touch_eq {a b c d : C2} (hab : a ≠ b) (hcd : c ≠ d) : Kzq1.touch (pt a, pt b) (pt c, pt d) = meetI a b c d := by
  rw [Bool.eq_iff_iff]
  unfold Kzq1.touch
  simp only [Bool.or_eq_true, Bool.and_eq_true, on_iff, sides_apart]
  constructor
  · rintro ((((h | h) | h) | h) | h)
    · exact meet_of_on h
    · rw [← meet_flip]; exact meet_of_on h
    · rw [meet_symm]; exact meet_of_on h
    · rw [meet_symm, ← meet_flip]; exact meet_of_on h
    · exact meet_of_cross h.1 h.2
  · intro h
    rcases on_of_meet hab hcd h with h | h | h | h | h
    · exact .inl (.inl (.inl (.inl h)))
    · exact .inl (.inl (.inl (.inr h)))
    · exact .inl (.inl (.inr h))
    · exact .inl (.inr h)
    · exact .inr h
end Sc
namespace Sc
open Kzq1 (Q P)
/-! What is a figure: the program's tests and the document's -/
def at2 (l : List C2) (i : Nat) : C2 := l.getD (i % l.length) (0, 0)
theorem at0_pt {l : List C2} (h : 0 < l.length) (i : Nat) : Kzq1.at0 (l.map pt) i = pt (at2 l i) := by
  unfold Kzq1.at0 at2
  have k : i % l.length < l.length := Nat.mod_lt _ h
  rw [List.length_map, List.getD_eq_getElem?_getD, List.getD_eq_getElem?_getD, List.getElem?_map, List.getElem?_eq_getElem k]
  rfl
theorem at2_get {l : List C2} {i : Nat} (h : i < l.length) : l[i]? = some (at2 l i) := by
  unfold at2
  rw [Nat.mod_eq_of_lt h, List.getD_eq_getElem?_getD, List.getElem?_eq_getElem h]; rfl
theorem at2_mod (l : List C2) (i : Nat) : at2 l (i % l.length) = at2 l i := by unfold at2; rw [Nat.mod_mod]
theorem at2_mem {l : List C2} (h : 0 < l.length) (i : Nat) : at2 l i ∈ l := by
  rw [← at2_mod]
  exact List.mem_of_getElem? (at2_get (Nat.mod_lt _ h))
def straightI (l : List C2) : Bool := (List.range l.length).any fun k => decide (turnI (at2 l k) (at2 l (k + 1)) (at2 l (k + 2)) = 0)
def tangledI (l : List C2) : Bool := (List.range l.length).any fun j => (List.range l.length).any fun k => decide (j + 2 ≤ k) && ((decide (0 < j) || decide (k < l.length - 1)) && meetI (at2 l j) (at2 l (j + 1)) (at2 l k) (at2 l (k + 1)))
def dblI (l : List C2) : Int := ((List.range l.length).map fun k => (at2 l k).1 * (at2 l (k + 1)).2 - (at2 l (k + 1)).1 * (at2 l k).2).sum
def figI (l : List C2) : Bool := !straightI l && (!tangledI l && decide (0 < dblI l))
theorem ne_of_straight {l : List C2} (h : straightI l = false) (i : Nat) (hl : 0 < l.length) : at2 l i ≠ at2 l (i + 1) := fun e => by
  have z : straightI l = true := by
    unfold straightI
    rw [List.any_eq_true]
    refine ⟨i % l.length, List.mem_range.mpr (Nat.mod_lt _ hl), ?_⟩
    have e1 : at2 l (i % l.length + 1) = at2 l (i + 1) := by unfold at2; rw [Nat.mod_add_mod]
    rw [decide_eq_true_eq, at2_mod, e1, e]
    unfold turnI; grind
  rw [h] at z; cases z
theorem straight_at {l : List C2} (h : straightI l = false) (i : Nat) (hl : 0 < l.length) : turnI (at2 l i) (at2 l (i + 1)) (at2 l (i + 2)) ≠ 0 := fun e => by
  have z : straightI l = true := by
    unfold straightI
    rw [List.any_eq_true]
    refine ⟨i % l.length, List.mem_range.mpr (Nat.mod_lt _ hl), ?_⟩
    have e1 : at2 l (i % l.length + 1) = at2 l (i + 1) := by unfold at2; rw [Nat.mod_add_mod]
    have e2 : at2 l (i % l.length + 2) = at2 l (i + 2) := by unfold at2; rw [Nat.mod_add_mod]
    rw [decide_eq_true_eq, at2_mod, e1, e2, e]
  rw [h] at z; cases z
theorem sum_ok {l : List Q} (h : ∀ q ∈ l, Ok q) : ∀ {a : Q}, Ok a → Ok (l.foldl Kzq1.add a) ∧ val (l.foldl Kzq1.add a) = val a + (l.map val).sum := by
  induction l with
  | nil =>
    intro a ha
    refine ⟨ha, ?_⟩
    show val a = val a + (0 : Rat)
    rw [Rat.add_zero]
  | cons q r ih =>
    intro a ha
    have hq := h q List.mem_cons_self
    obtain ⟨h1, h2⟩ := ih (fun z hz => h z (List.mem_cons_of_mem _ hz)) (add_ok ha hq)
    refine ⟨h1, ?_⟩
    show val (r.foldl Kzq1.add (Kzq1.add a q)) = _
    rw [h2, val_add ha hq, List.map_cons, List.sum_cons, Rat.add_assoc]
theorem sum_int : ∀ l : List Int, ((l.map fun (x : Int) => (x : Rat)).sum) = ((l.sum : Int) : Rat)
  | [] => rfl
  | x :: r => by rw [List.map_cons, List.sum_cons, List.sum_cons, sum_int r, Rat.intCast_add]
theorem size_sum {l : List C2} (h : 0 < l.length) : Ok (Kzq1.sum ((Kzq1.sides (l.map pt)).map fun s => Kzq1.cross s.1 s.2)) ∧ val (Kzq1.sum ((Kzq1.sides (l.map pt)).map fun s => Kzq1.cross s.1 s.2)) = ((dblI l : Int) : Rat) := by
  have ev : ((Kzq1.sides (l.map pt)).map fun s => Kzq1.cross s.1 s.2).map val = ((List.range l.length).map fun k => (at2 l k).1 * (at2 l (k + 1)).2 - (at2 l (k + 1)).1 * (at2 l k).2).map fun (x : Int) => (x : Rat) := by
    unfold Kzq1.sides
    rw [List.map_map, List.map_map, List.map_map, List.length_map]
    refine List.map_congr_left fun i _ => ?_
    show val (Kzq1.cross (Kzq1.at0 (l.map pt) i) (Kzq1.at0 (l.map pt) (i + 1))) = (((at2 l i).1 * (at2 l (i + 1)).2 - (at2 l (i + 1)).1 * (at2 l i).2 : Int) : Rat)
    rw [at0_pt h, at0_pt h, val_cross (pt_ok _) (pt_ok _), px_pt, px_pt, py_pt, py_pt, Rat.intCast_sub, Rat.intCast_mul, Rat.intCast_mul, Rat.mul_comm (((at2 l i).2 : Int) : Rat)]
  have oks : ∀ q ∈ (Kzq1.sides (l.map pt)).map fun s => Kzq1.cross s.1 s.2, Ok q := fun q hq => by
    obtain ⟨s, hs, e⟩ := List.mem_map.mp hq
    obtain ⟨i, _, e2⟩ := List.mem_map.mp hs
    rw [← e, ← e2, at0_pt h, at0_pt h]
    exact cross_ok (pt_ok _) (pt_ok _)
  generalize (Kzq1.sides (l.map pt)).map (fun s => Kzq1.cross s.1 s.2) = L at ev oks ⊢
  obtain ⟨o, v⟩ := sum_ok oks zero_ok
  refine ⟨o, ?_⟩
  rw [ev, sum_int, val_zero, Rat.zero_add] at v
  exact v
theorem half_pos (x : Rat) : 0 < 1 / 2 * x ↔ 0 < x := by grind
theorem size_pos {l : List C2} (h : 0 < l.length) : Kzq1.pos (Kzq1.size (l.map pt)) = decide (0 < dblI l) := by
  obtain ⟨o, v⟩ := size_sum h
  unfold Kzq1.size
  generalize Kzq1.sum ((Kzq1.sides (l.map pt)).map fun s => Kzq1.cross s.1 s.2) = q at o v
  rw [pos_eq (mul_ok half_ok o), val_mul half_ok o, val_half, v, decide_eq_decide, half_pos]
  exact Rat.intCast_pos
theorem all_cong {α : Type} {f g : α → Bool} : ∀ {l : List α}, (∀ x ∈ l, f x = g x) → l.all f = l.all g
  | [], _ => rfl
  | x :: r, h => by rw [List.all_cons, List.all_cons, h x List.mem_cons_self, all_cong fun y hy => h y (List.mem_cons_of_mem _ hy)]
theorem isFig {l : List C2} (h : 3 ≤ l.length) : Kzq1.isFigure (l.map pt) = figI l := by
  have h0 : 0 < l.length := by omega
  have e3 : ((List.range l.length).all fun i => !Kzq1.isZero (Kzq1.turn (Kzq1.at0 (l.map pt) i) (Kzq1.at0 (l.map pt) (i + 1)) (Kzq1.at0 (l.map pt) (i + 2)))) = !straightI l := by
    unfold straightI
    rw [List.any_eq_not_all_not, Bool.not_not]
    refine all_cong fun i _ => ?_
    rw [at0_pt h0, at0_pt h0, at0_pt h0, isZero_turnI]
  have e4 : straightI l = false → ((List.range l.length).all fun i => (List.range l.length).all fun j => decide (j ≤ i + 1) || (i + l.length == j + 1) || !Kzq1.touch (Kzq1.at0 (l.map pt) i, Kzq1.at0 (l.map pt) (i + 1)) (Kzq1.at0 (l.map pt) j, Kzq1.at0 (l.map pt) (j + 1))) = !tangledI l := fun hs => by
    unfold tangledI
    rw [List.any_eq_not_all_not, Bool.not_not]
    refine all_cong fun i hi => ?_
    rw [List.any_eq_not_all_not, Bool.not_not]
    refine all_cong fun j hj => ?_
    have hi := List.mem_range.mp hi
    have hj := List.mem_range.mp hj
    rw [at0_pt h0, at0_pt h0, at0_pt h0, at0_pt h0, touch_eq (ne_of_straight hs i h0) (ne_of_straight hs j h0)]
    generalize meetI (at2 l i) (at2 l (i + 1)) (at2 l j) (at2 l (j + 1)) = m
    by_cases c1 : j ≤ i + 1
    · rw [decide_eq_true c1, decide_eq_false (show ¬ i + 2 ≤ j by omega)]; rfl
    · rw [decide_eq_false c1, decide_eq_true (show i + 2 ≤ j by omega)]
      by_cases c2 : i + l.length = j + 1
      · rw [decide_eq_false (show ¬ 0 < i by omega), decide_eq_false (show ¬ j < l.length - 1 by omega)]
        simp [c2]
      · have : 0 < i ∨ j < l.length - 1 := by omega
        have e : (decide (0 < i) || decide (j < l.length - 1)) = true := by simpa using this
        rw [e]
        simp [c2]
  unfold Kzq1.isFigure figI
  simp only [List.length_map]
  rw [size_pos h0, e3, decide_eq_true h, Bool.true_and]
  cases hs : straightI l with
  | true => simp
  | false =>
    rw [e4 hs]
    simp only [Bool.not_false, Bool.true_and, Bool.and_true]
    rw [Bool.and_comm]
end Sc
namespace Sc
open Kzq1 (Q P)
/-! Reading a figure -/
def prs : List Int → List C2
  | x :: y :: l => (x, y) :: prs l
  | _ => []
theorem prs_len : ∀ l : List Int, (prs l).length = l.length / 2
  | [] => rfl
  | [_] => by simp [prs]
  | x :: y :: l => by
    show (prs l).length + 1 = (l.length + 2) / 2
    rw [prs_len l]; omega
theorem prs_get : ∀ (l : List Int) (k : Nat), 2 * k + 1 < l.length → (prs l)[k]? = some (l.getD (2 * k) 0, l.getD (2 * k + 1) 0)
  | [], k, h => by simp at h
  | [_], k, h => by simp at h
  | x :: y :: l, 0, _ => rfl
  | x :: y :: l, k + 1, h => by
    show (prs l)[k]? = _
    rw [prs_get l k (by simp at h; omega), show 2 * (k + 1) = 2 * k + 1 + 1 by omega]
    rfl
theorem pairs_even : ∀ l : List Int, l.length % 2 = 0 → Kzq1.pairsOf l = some ((prs l).map pt)
  | [], _ => rfl
  | [_], h => by simp at h
  | x :: y :: l, h => by
    show (Kzq1.pairsOf l).map _ = _
    rw [pairs_even l (by simp at h; omega)]
    rfl
theorem pairs_odd : ∀ l : List Int, l.length % 2 ≠ 0 → Kzq1.pairsOf l = none
  | [], h => absurd rfl h
  | [_], _ => rfl
  | x :: y :: l, h => by
    show (Kzq1.pairsOf l).map _ = _
    rw [pairs_odd l (by simp at h; omega)]
    rfl
def rdFig (l : List Int) : Option (List C2) := if l.length % 2 ≠ 0 ∨ l.length / 2 < 3 ∨ 8 < l.length / 2 then none else if (l.any fun x => decide (50 < x.natAbs)) = true then none else if figI (prs l) = true then some (prs l) else none
theorem any_cong {α : Type} {f g : α → Bool} : ∀ {l : List α}, (∀ x ∈ l, f x = g x) → l.any f = l.any g
  | [], _ => rfl
  | x :: r, h => by rw [List.any_cons, List.any_cons, h x List.mem_cons_self, any_cong fun y hy => h y (List.mem_cons_of_mem _ hy)]
theorem readFigure_eq (l : List Int) : Kzq1.readFigure l = (rdFig l).map (List.map pt) := by
  have ea : (l.any fun x => decide (x < -50 ∨ 50 < x)) = l.any fun x => decide (50 < x.natAbs) := any_cong fun x _ => by rw [decide_eq_decide]; omega
  unfold Kzq1.readFigure rdFig
  rw [ea]
  by_cases h0 : (l.any fun x => decide (50 < x.natAbs)) = true
  · rw [if_pos h0]
    by_cases h1 : l.length % 2 ≠ 0 ∨ l.length / 2 < 3 ∨ 8 < l.length / 2
    · rw [if_pos h1]; rfl
    · rw [if_neg h1]; simp [h0]
  · rw [if_neg h0]
    by_cases h2 : l.length % 2 = 0
    · rw [pairs_even l h2]
      dsimp only
      rw [List.length_map, prs_len]
      by_cases h3 : l.length / 2 < 3
      · have nf : ¬ (l.length / 2 ≤ Kzq1.most ∧ Kzq1.isFigure ((prs l).map pt) = true) := fun z => by
          have e := z.2
          unfold Kzq1.isFigure at e
          simp only [List.length_map, prs_len, Bool.and_eq_true, decide_eq_true_eq] at e
          omega
        rw [if_neg nf, if_pos (.inr (.inl h3))]; rfl
      · by_cases h4 : 8 < l.length / 2
        · rw [if_neg (fun z => by have := z.1; unfold Kzq1.most at this; omega), if_pos (.inr (.inr h4))]; rfl
        · rw [if_neg (show ¬ (l.length % 2 ≠ 0 ∨ l.length / 2 < 3 ∨ 8 < l.length / 2) by omega), if_neg h0, isFig (by rw [prs_len]; omega)]
          by_cases h5 : figI (prs l) = true
          · rw [if_pos ⟨by unfold Kzq1.most; omega, h5⟩, if_pos h5]; rfl
          · rw [if_neg (fun z => h5 z.2), if_neg h5]; rfl
    · rw [pairs_odd l h2, if_pos (.inl h2)]; rfl
/-! Heights -/
theorem ins_mem (a : Q) : ∀ (l : List Q) (x : Q), x ∈ Kzq2.insertQ a l ↔ x = a ∨ x ∈ l
  | [], x => by
    show x ∈ [a] ↔ _
    simp
  | b :: l, x => by
    unfold Kzq2.insertQ
    split
    · simp
    · split
      · rename_i h1 h2
        subst h2
        simp
      · rw [List.mem_cons, ins_mem a l x, List.mem_cons]
        constructor <;> (rintro (h | h | h) <;> simp [h])
theorem ins_sorted (a : Q) (ha : Ok a) : ∀ (l : List Q), (∀ x ∈ l, Ok x) → l.Pairwise (fun x y => val x < val y) → (Kzq2.insertQ a l).Pairwise (fun x y => val x < val y)
  | [], _, _ => List.pairwise_singleton _ _
  | b :: l, ho, h => by
    have hb := ho b List.mem_cons_self
    unfold Kzq2.insertQ
    split
    · rename_i h1
      rw [lt_iff ha hb] at h1
      refine List.Pairwise.cons (fun x hx => ?_) h
      rcases List.mem_cons.mp hx with rfl | hx
      · exact h1
      · have := (List.pairwise_cons.mp h).1 x hx; grind
    · rename_i h1
      split
      · exact h
      · rename_i h2
        have hlt : val b < val a := by
          rw [lt_iff ha hb] at h1
          have : val a ≠ val b := fun e => h2 (val_inj ha hb e)
          grind
        obtain ⟨h3, h4⟩ := List.pairwise_cons.mp h
        refine List.Pairwise.cons (fun x hx => ?_) (ins_sorted a ha l (fun x hx => ho x (List.mem_cons_of_mem _ hx)) h4)
        rcases (ins_mem a l x).mp hx with rfl | hx
        · exact hlt
        · exact h3 x hx
theorem hts_mem (f : List P) (x : Q) : x ∈ Kzq2.heights f ↔ ∃ p ∈ f, p.y = x := by
  induction f with
  | nil => simp [Kzq2.heights]
  | cons p r ih =>
    show x ∈ Kzq2.insertQ p.y (Kzq2.heights r) ↔ _
    rw [ins_mem, ih]
    constructor
    · rintro (h | ⟨q, hq, e⟩)
      · exact ⟨p, List.mem_cons_self, h.symm⟩
      · exact ⟨q, List.mem_cons_of_mem _ hq, e⟩
    · rintro ⟨q, hq, e⟩
      rcases List.mem_cons.mp hq with rfl | hq
      · exact .inl e.symm
      · exact .inr ⟨q, hq, e⟩
theorem hts_sorted : ∀ (f : List P), (∀ p ∈ f, OkP p) → (Kzq2.heights f).Pairwise (fun x y => val x < val y)
  | [], _ => List.Pairwise.nil
  | p :: r, h => ins_sorted p.y (h p List.mem_cons_self).2 _ (fun x hx => by
      obtain ⟨q, hq, e⟩ := (hts_mem r x).mp hx
      rw [← e]; exact (h q (List.mem_cons_of_mem _ hq)).2) (hts_sorted r fun q hq => h q (List.mem_cons_of_mem _ hq))
/-- two rising rows with the same members are one -/
theorem rising_eq {α : Type} {r : α → α → Prop} (irr : ∀ x, ¬ r x x) (tr : ∀ x y z, r x y → r y z → r x z) : ∀ {l m : List α}, l.Pairwise r → m.Pairwise r → (∀ x, x ∈ l ↔ x ∈ m) → l = m
  | [], [], _, _, _ => rfl
  | [], y :: m, _, _, h => absurd ((h y).mpr List.mem_cons_self) (by simp)
  | x :: l, [], _, _, h => absurd ((h x).mp List.mem_cons_self) (by simp)
  | x :: l, y :: m, h1, h2, h => by
    obtain ⟨a1, a2⟩ := List.pairwise_cons.mp h1
    obtain ⟨b1, b2⟩ := List.pairwise_cons.mp h2
    have e : x = y := by
      rcases List.mem_cons.mp ((h x).mp List.mem_cons_self) with z | z
      · exact z
      · rcases List.mem_cons.mp ((h y).mpr List.mem_cons_self) with t | t
        · exact t.symm
        · exact absurd (tr _ _ _ (a1 y t) (b1 x z)) (irr _)
    subst e
    congr 1
    refine rising_eq irr tr a2 b2 fun z => ⟨fun hz => ?_, fun hz => ?_⟩
    · rcases List.mem_cons.mp ((h z).mp (List.mem_cons_of_mem _ hz)) with t | t
      · subst t; exact absurd (a1 _ hz) (irr _)
      · exact t
    · rcases List.mem_cons.mp ((h z).mpr (List.mem_cons_of_mem _ hz)) with t | t
      · subst t; exact absurd (b1 _ hz) (irr _)
      · exact t
/-- the program's heights are the document's -/
theorem heights_eq {l : List C2} {hs : List Int} (h1 : hs.Pairwise (· < ·)) (h2 : ∀ k, k ∈ hs ↔ k ∈ l.map (·.2)) : Kzq2.heights (l.map pt) = hs.map Kzq1.whole := by
  have irr : ∀ x : Q, ¬ val x < val x := fun x => Rat.lt_irrefl
  refine rising_eq (r := fun x y => val x < val y) irr (fun x y z a b => by grind) (hts_sorted _ fun p hp => by
    obtain ⟨c, _, rfl⟩ := List.mem_map.mp hp
    exact pt_ok c) ?_ fun x => ?_
  · rw [List.pairwise_map]
    refine h1.imp fun {a b} hab => ?_
    show val (Kzq1.whole a) < val (Kzq1.whole b)
    rw [val_whole, val_whole]
    exact Rat.intCast_lt_intCast.mpr hab
  · rw [hts_mem, List.mem_map]
    constructor
    · rintro ⟨p, hp, e⟩
      obtain ⟨c, hc, rfl⟩ := List.mem_map.mp hp
      exact ⟨c.2, (h2 _).mpr (List.mem_map.mpr ⟨c, hc, rfl⟩), e⟩
    · rintro ⟨k, hk, e⟩
      obtain ⟨c, hc, e2⟩ := List.mem_map.mp ((h2 k).mp hk)
      refine ⟨pt c, List.mem_map.mpr ⟨c, hc, rfl⟩, ?_⟩
      rw [← e, ← e2]; rfl
end Sc
namespace Sc
open Kzq1 (Q P)
/-! Slices: sides that reach from one height to the next -/
abbrev S2 := C2 × C2
def ps (s : S2) : P × P := (pt s.1, pt s.2)
def sidesI (l : List C2) : List S2 := (List.range l.length).map fun k => (at2 l k, at2 l (k + 1))
theorem sides_pt {l : List C2} (h : 0 < l.length) : Kzq1.sides (l.map pt) = (sidesI l).map ps := by
  unfold Kzq1.sides sidesI
  rw [List.map_map, List.length_map]
  refine List.map_congr_left fun i _ => ?_
  show (Kzq1.at0 (l.map pt) i, Kzq1.at0 (l.map pt) (i + 1)) = _
  rw [at0_pt h, at0_pt h]; rfl
def reachS (s : S2) (lo hi : Int) : Bool := decide ((if s.2.2 < s.1.2 then s.2.2 else s.1.2) ≤ lo) && decide (hi ≤ (if s.2.2 > s.1.2 then s.2.2 else s.1.2))
theorem reach_iff {s : S2} {lo hi : Int} (h : lo < hi) : reachS s lo hi = true ↔ (s.1.2 ≤ lo ∧ hi ≤ s.2.2) ∨ (s.2.2 ≤ lo ∧ hi ≤ s.1.2) := by
  unfold reachS
  rw [Bool.and_eq_true, decide_eq_true_eq, decide_eq_true_eq]
  split <;> split <;> omega
theorem spans_eq {s : S2} {lo hi : Int} (h : lo < hi) : Kzq2.spans (ps s) (Kzq1.whole lo) (Kzq1.whole hi) = reachS s lo hi := by
  rw [Bool.eq_iff_iff, reach_iff h]
  unfold Kzq2.spans ps pt
  simp only [le_whole, Bool.or_eq_true, Bool.and_eq_true, decide_eq_true_eq]
def rightAt (s : S2) (h : Int) : Q := mkI (s.1.1 * (s.2.2 - s.1.2) + (s.2.1 - s.1.1) * (h - s.1.2)) (s.2.2 - s.1.2)
theorem val_mkI {t b : Int} (h : b ≠ 0) : val (mkI t b) = (t : Rat) / (b : Rat) := by
  unfold mkI
  have hb : (b : Rat) ≠ 0 := fun z => h (Rat.intCast_eq_zero_iff.mp z)
  by_cases c : b < 0
  · rw [if_pos c, val_mk (by omega), Rat.mkRat_eq_div]
    have e : ((b.natAbs : Nat) : Rat) = -(b : Rat) := by
      have e1 : ((b.natAbs : Nat) : Int) = -b := by omega
      have e2 : ((b.natAbs : Nat) : Rat) = (((b.natAbs : Nat) : Int) : Rat) := (Rat.intCast_natCast _).symm
      rw [e2, e1, Rat.intCast_neg]
    rw [e, Rat.intCast_neg]
    grind
  · rw [if_neg c, val_mk (by omega), Rat.mkRat_eq_div]
    have e : ((b.natAbs : Nat) : Rat) = (b : Rat) := by
      have e1 : ((b.natAbs : Nat) : Int) = b := by omega
      have e2 : ((b.natAbs : Nat) : Rat) = (((b.natAbs : Nat) : Int) : Rat) := (Rat.intCast_natCast _).symm
      rw [e2, e1]
    rw [e]
/-- where a side is at a height -/
def xAt (s : S2) (y : Rat) : Rat := (s.1.1 : Rat) + (y - (s.1.2 : Rat)) / ((s.2.2 : Rat) - (s.1.2 : Rat)) * ((s.2.1 : Rat) - (s.1.1 : Rat))
theorem rise_ne {s : S2} (h : s.2.2 ≠ s.1.2) : (s.2.2 : Rat) - (s.1.2 : Rat) ≠ 0 := fun z => by
  rw [← Rat.intCast_sub] at z
  have := Rat.intCast_eq_zero_iff.mp z
  omega
theorem val_rightAt {s : S2} (h : s.2.2 ≠ s.1.2) (y : Int) : val (rightAt s y) = xAt s (y : Rat) := by
  have hr := rise_ne h
  unfold rightAt xAt
  rw [val_mkI (by omega)]
  simp only [Rat.intCast_add, Rat.intCast_mul, Rat.intCast_sub]
  grind
theorem rightAt_ok {s : S2} (h : s.2.2 ≠ s.1.2) (y : Int) : Ok (rightAt s y) := mkI_ok (by omega)
theorem atHeight_ok {s : S2} (h : s.2.2 ≠ s.1.2) {y : Q} (hy : Ok y) : Ok (Kzq2.atHeight (ps s) y) ∧ val (Kzq2.atHeight (ps s) y) = xAt s (val y) := by
  have hr := rise_ne h
  have o1 := sub_ok hy (pt_ok s.1).2
  have o2 := sub_ok (pt_ok s.2).2 (pt_ok s.1).2
  have o3 := sub_ok (pt_ok s.2).1 (pt_ok s.1).1
  have v2 : val (Kzq1.sub (pt s.2).y (pt s.1).y) = (s.2.2 : Rat) - (s.1.2 : Rat) := by
    rw [val_sub (pt_ok s.2).2 (pt_ok s.1).2]
    show py (pt s.2) - py (pt s.1) = _
    rw [py_pt, py_pt]
  have nz : val (Kzq1.sub (pt s.2).y (pt s.1).y) ≠ 0 := by rw [v2]; exact hr
  have o4 := div_ok o1 o2 nz
  refine ⟨add_ok (pt_ok s.1).1 (mul_ok o4 o3), ?_⟩
  show val (Kzq1.add (pt s.1).x (Kzq1.mul (Kzq1.div (Kzq1.sub y (pt s.1).y) (Kzq1.sub (pt s.2).y (pt s.1).y)) (Kzq1.sub (pt s.2).x (pt s.1).x))) = _
  rw [val_add (pt_ok s.1).1 (mul_ok o4 o3), val_mul o4 o3, val_div o1 o2 nz, v2, val_sub hy (pt_ok s.1).2, val_sub (pt_ok s.2).1 (pt_ok s.1).1]
  show px (pt s.1) + (val y - py (pt s.1)) / _ * (px (pt s.2) - px (pt s.1)) = _
  rw [px_pt, px_pt, py_pt]
  rfl
theorem atHeight_eq {s : S2} (h : s.2.2 ≠ s.1.2) (y : Int) : Kzq2.atHeight (ps s) (Kzq1.whole y) = rightAt s y := by
  obtain ⟨o, v⟩ := atHeight_ok h (whole_ok y)
  refine val_inj o (rightAt_ok h y) ?_
  rw [v, val_rightAt h, val_whole]
/-- at half height: half of the sum of what it is below and above -/
theorem xAt_mid {s : S2} (h : s.2.2 ≠ s.1.2) (y z : Rat) : xAt s (1 / 2 * (y + z)) = 1 / 2 * (xAt s y + xAt s z) := by
  have hr := rise_ne h
  unfold xAt; grind
theorem reach_ne {s : S2} {lo hi : Int} (h : lo < hi) (hs : reachS s lo hi = true) : s.2.2 ≠ s.1.2 := by
  rw [reach_iff h] at hs; omega
/-! two sides that lie at one place at a height between -/
theorem mid_alg {a b c d : C2} {X M : Rat} (h1 : ((b.2 : Rat) - a.2) * (X - a.1) = (M - a.2) * ((b.1 : Rat) - a.1)) (h2 : ((d.2 : Rat) - c.2) * (X - c.1) = (M - c.2) * ((d.1 : Rat) - c.1)) :
    ((b.2 : Rat) - a.2) * (turnI c d a : Rat) = (M - a.2) * (((d.2 : Rat) - c.2) * ((b.1 : Rat) - a.1) - ((b.2 : Rat) - a.2) * ((d.1 : Rat) - c.1)) ∧
    ((b.2 : Rat) - a.2) * (turnI c d b : Rat) = -(((b.2 : Rat) - M) * (((d.2 : Rat) - c.2) * ((b.1 : Rat) - a.1) - ((b.2 : Rat) - a.2) * ((d.1 : Rat) - c.1))) := by
  unfold turnI
  simp only [Rat.intCast_sub, Rat.intCast_mul]
  constructor <;> grind
theorem xAt_mul {s : S2} (h : s.2.2 ≠ s.1.2) (M : Rat) : ((s.2.2 : Rat) - s.1.2) * (xAt s M - s.1.1) = (M - s.1.2) * ((s.2.1 : Rat) - s.1.1) := by
  have hr := rise_ne h
  unfold xAt; grind
end Sc
namespace Sc
open Kzq1 (Q P)
theorem rsq_nonneg (x : Rat) : 0 ≤ x * x := by
  rcases Rat.le_total (a := 0) (b := x) with h | h
  · exact Rat.mul_nonneg h h
  · have := Rat.mul_nonneg (a := -x) (b := -x) (by grind) (by grind)
    grind
theorem rsq_pos {x : Rat} (h : x ≠ 0) : 0 < x * x := by
  have h1 := rsq_nonneg x
  have h2 : x * x ≠ 0 := fun z => by rcases Rat.mul_eq_zero.mp z with z | z <;> exact h z
  grind
theorem prod_nonpos {D al be K : Rat} {x y : Int} (hD : D ≠ 0) (hab : 0 < al * be) (h1 : D * (x : Rat) = al * K) (h2 : D * (y : Rat) = -(be * K)) : x * y ≤ 0 := by
  refine Classical.byContradiction fun z => ?_
  have hz : 0 < x * y := by omega
  have hq : (0 : Rat) < ((x * y : Int) : Rat) := Rat.intCast_pos.mpr hz
  rw [Rat.intCast_mul] at hq
  have k1 := Rat.mul_pos (rsq_pos hD) hq
  have k2 := Rat.mul_nonneg (Rat.le_of_lt hab) (rsq_nonneg K)
  have e : D * D * ((x : Rat) * (y : Rat)) = -(al * be * (K * K)) := by
    have e1 : D * D * ((x : Rat) * (y : Rat)) = (D * (x : Rat)) * (D * (y : Rat)) := by grind
    rw [e1, h1, h2]; grind
  grind
/-- the numbers of a side that reaches from lo to hi, at half height -/
theorem mid_between {s : S2} {lo hi : Int} (h : lo < hi) (hs : reachS s lo hi = true) {M : Rat} (hM : M = 1 / 2 * ((lo : Rat) + (hi : Rat))) : 0 < (M - s.1.2) * ((s.2.2 : Rat) - M) := by
  have hl : (lo : Rat) < (hi : Rat) := Rat.intCast_lt_intCast.mpr h
  rw [reach_iff h] at hs
  rcases hs with ⟨h1, h2⟩ | ⟨h1, h2⟩
  · have k1 : (s.1.2 : Rat) ≤ (lo : Rat) := Rat.intCast_le_intCast.mpr h1
    have k2 : (hi : Rat) ≤ (s.2.2 : Rat) := Rat.intCast_le_intCast.mpr h2
    exact Rat.mul_pos (by grind) (by grind)
  · have k1 : (s.2.2 : Rat) ≤ (lo : Rat) := Rat.intCast_le_intCast.mpr h1
    have k2 : (hi : Rat) ≤ (s.1.2 : Rat) := Rat.intCast_le_intCast.mpr h2
    have := Rat.mul_pos (a := s.1.2 - M) (b := M - s.2.2) (by grind) (by grind)
    grind
/-- a number between two, and between two others: the pairs' spans meet -/
theorem span_of_between {a b c d : Int} {X : Rat} (h1 : ((a : Rat) ≤ X ∧ X ≤ (b : Rat)) ∨ ((b : Rat) ≤ X ∧ X ≤ (a : Rat))) (h2 : ((c : Rat) ≤ X ∧ X ≤ (d : Rat)) ∨ ((d : Rat) ≤ X ∧ X ≤ (c : Rat))) : spanI a b c d = true := by
  have key : ∀ x y : Int, (x : Rat) ≤ X → X ≤ (y : Rat) → x ≤ y := fun x y p q => Rat.intCast_le_intCast.mp (by grind)
  unfold spanI
  rw [Bool.and_eq_true, decide_eq_true_eq, decide_eq_true_eq]
  rcases h1 with ⟨x1, x2⟩ | ⟨x1, x2⟩ <;> rcases h2 with ⟨y1, y2⟩ | ⟨y1, y2⟩
  · have := key _ _ x1 y2; have := key _ _ y1 x2
    constructor <;> (split <;> split <;> omega)
  · have := key _ _ x1 y2; have := key _ _ y1 x2
    constructor <;> (split <;> split <;> omega)
  · have := key _ _ x1 y2; have := key _ _ y1 x2
    constructor <;> (split <;> split <;> omega)
  · have := key _ _ x1 y2; have := key _ _ y1 x2
    constructor <;> (split <;> split <;> omega)
/-- X lies between the ends where M does -/
theorem x_between {a1 b1 a2 b2 X M : Rat} (h : (b2 - a2) * (X - a1) = (M - a2) * (b1 - a1)) (hm : 0 < (M - a2) * (b2 - M)) : (a1 ≤ X ∧ X ≤ b1) ∨ (b1 ≤ X ∧ X ≤ a1) := by
  have sgn : (0 < M - a2 ∧ 0 < b2 - M) ∨ (M - a2 < 0 ∧ b2 - M < 0) := by
    rcases Rat.le_total (a := M - a2) (b := 0) with k | k
    · rcases Rat.le_total (a := b2 - M) (b := 0) with l | l
      · right
        constructor
        · refine Classical.byContradiction fun z => ?_
          have e : M - a2 = 0 := by grind
          rw [e, Rat.zero_mul] at hm; grind
        · refine Classical.byContradiction fun z => ?_
          have e : b2 - M = 0 := by grind
          rw [e, Rat.mul_zero] at hm; grind
      · have := Rat.mul_nonneg (a := -(M - a2)) (b := b2 - M) (by grind) l
        grind
    · rcases Rat.le_total (a := b2 - M) (b := 0) with l | l
      · have := Rat.mul_nonneg (a := M - a2) (b := -(b2 - M)) k (by grind)
        grind
      · left
        constructor
        · refine Classical.byContradiction fun z => ?_
          have e : M - a2 = 0 := by grind
          rw [e, Rat.zero_mul] at hm; grind
        · refine Classical.byContradiction fun z => ?_
          have e : b2 - M = 0 := by grind
          rw [e, Rat.mul_zero] at hm; grind
  have nn : ∀ D x : Rat, 0 < D → 0 ≤ D * x → 0 ≤ x := fun D x hD hx => by
    refine Classical.byContradiction fun z => ?_
    have := Rat.mul_pos hD (show 0 < -x by grind)
    grind
  have h' : (b2 - a2) * (b1 - X) = (b2 - M) * (b1 - a1) := by grind
  rcases sgn with ⟨p, q⟩ | ⟨p, q⟩
  · have hD : 0 < b2 - a2 := by grind
    rcases Rat.le_total (a := a1) (b := b1) with k | k
    · left
      have r1 := nn _ _ hD (show 0 ≤ (b2 - a2) * (X - a1) by rw [h]; exact Rat.mul_nonneg (by grind) (by grind))
      have r2 := nn _ _ hD (show 0 ≤ (b2 - a2) * (b1 - X) by rw [h']; exact Rat.mul_nonneg (by grind) (by grind))
      exact ⟨by grind, by grind⟩
    · right
      have r1 := nn _ (a1 - X) hD (by have := Rat.mul_nonneg (a := M - a2) (b := a1 - b1) (by grind) (by grind); grind)
      have r2 := nn _ (X - b1) hD (by have := Rat.mul_nonneg (a := b2 - M) (b := a1 - b1) (by grind) (by grind); grind)
      exact ⟨by grind, by grind⟩
  · have hD : 0 < a2 - b2 := by grind
    rcases Rat.le_total (a := a1) (b := b1) with k | k
    · left
      have r1 := nn _ (X - a1) hD (by have := Rat.mul_nonneg (a := a2 - M) (b := b1 - a1) (by grind) (by grind); grind)
      have r2 := nn _ (b1 - X) hD (by have := Rat.mul_nonneg (a := M - b2) (b := b1 - a1) (by grind) (by grind); grind)
      exact ⟨by grind, by grind⟩
    · right
      have r1 := nn _ (a1 - X) hD (by have := Rat.mul_nonneg (a := a2 - M) (b := a1 - b1) (by grind) (by grind); grind)
      have r2 := nn _ (X - b1) hD (by have := Rat.mul_nonneg (a := M - b2) (b := a1 - b1) (by grind) (by grind); grind)
      exact ⟨by grind, by grind⟩
theorem m_between {a2 b2 M : Rat} (hm : 0 < (M - a2) * (b2 - M)) : (a2 ≤ M ∧ M ≤ b2) ∨ (b2 ≤ M ∧ M ≤ a2) := x_between (a1 := a2) (b1 := b2) (X := M) (by grind) hm
theorem meet_mid {s t : S2} {lo hi : Int} (h : lo < hi) (hs : reachS s lo hi = true) (ht : reachS t lo hi = true) {M : Rat} (hM : M = 1 / 2 * ((lo : Rat) + (hi : Rat))) (e : xAt s M = xAt t M) :
    meetI s.1 s.2 t.1 t.2 = true ∧ (turnI s.1 s.2 t.1 = 0 → turnI s.1 s.2 t.2 = 0) ∧ (turnI t.1 t.2 s.1 = 0 → turnI t.1 t.2 s.2 = 0) := by
  have ns := reach_ne h hs
  have nt := reach_ne h ht
  have Ds := rise_ne ns
  have Dt := rise_ne nt
  have bs := mid_between h hs hM
  have bt := mid_between h ht hM
  have xs := xAt_mul ns M
  have xt := xAt_mul nt M
  rw [← e] at xt
  obtain ⟨p1, p2⟩ := mid_alg xs xt
  obtain ⟨q1, q2⟩ := mid_alg xt xs
  have zero : ∀ {D al be K : Rat} {x y : Int}, D ≠ 0 → 0 < al * be → D * (x : Rat) = al * K → D * (y : Rat) = -(be * K) → x = 0 → y = 0 := fun {D al be K x y} hD hab h1 h2 hx => by
    have na : al ≠ 0 := fun z => by rw [z, Rat.zero_mul] at hab; grind
    rw [hx] at h1
    have hK : K = 0 := by
      have : al * K = 0 := by rw [← h1]; show D * (0 : Rat) = 0; rw [Rat.mul_zero]
      rcases Rat.mul_eq_zero.mp this with z | z
      · exact absurd z na
      · exact z
    rw [hK, Rat.mul_zero, Rat.neg_zero] at h2
    rcases Rat.mul_eq_zero.mp h2 with z | z
    · exact absurd z hD
    · exact Rat.intCast_eq_zero_iff.mp z
  refine ⟨?_, zero Dt bt q1 q2, zero Ds bs p1 p2⟩
  unfold meetI reachI
  rw [Bool.and_eq_true, Bool.and_eq_true, Bool.and_eq_true, decide_eq_true_eq, decide_eq_true_eq]
  exact ⟨prod_nonpos Ds bs p1 p2, prod_nonpos Dt bt q1 q2, span_of_between (x_between xs bs) (x_between xt bt), span_of_between (m_between bs) (m_between bt)⟩
/-- in a figure no two sides that reach from lo to hi lie at one place at half height -/
theorem no_tie {l : List C2} (hf : figI l = true) (h3 : 3 ≤ l.length) {i j : Nat} (hij : i < j) (hj : j < l.length) {lo hi : Int} (h : lo < hi) {M : Rat} (hM : M = 1 / 2 * ((lo : Rat) + (hi : Rat)))
    (h1 : reachS (at2 l i, at2 l (i + 1)) lo hi = true) (h2 : reachS (at2 l j, at2 l (j + 1)) lo hi = true) : xAt (at2 l i, at2 l (i + 1)) M ≠ xAt (at2 l j, at2 l (j + 1)) M := fun e => by
  have h0 : 0 < l.length := by omega
  unfold figI at hf
  rw [Bool.and_eq_true, Bool.and_eq_true, Bool.not_eq_true', Bool.not_eq_true'] at hf
  obtain ⟨hs, ht, _⟩ := hf
  obtain ⟨m, z1, z2⟩ := meet_mid h h1 h2 hM e
  dsimp only at m z1 z2
  by_cases c1 : j = i + 1
  · subst c1
    have z : turnI (at2 l i) (at2 l (i + 1)) (at2 l (i + 1)) = 0 := by unfold turnI; grind
    exact straight_at hs i h0 (z1 z)
  · by_cases c2 : i = 0 ∧ j = l.length - 1
    · obtain ⟨rfl, rfl⟩ := c2
      have e0 : at2 l (l.length - 1 + 1) = at2 l 0 := by
        rw [show l.length - 1 + 1 = l.length by omega]; unfold at2; rw [Nat.mod_self, Nat.zero_mod]
      have e1 : at2 l (l.length - 1 + 2) = at2 l (0 + 1) := by
        rw [show l.length - 1 + 2 = l.length + 1 by omega]; unfold at2; rw [Nat.add_mod_left]
      rw [e0] at z2
      have z : turnI (at2 l (l.length - 1)) (at2 l 0) (at2 l 0) = 0 := by unfold turnI; grind
      have y := straight_at hs (l.length - 1) h0
      rw [e0, e1] at y
      exact y (z2 z)
    · have : tangledI l = true := by
        unfold tangledI
        rw [List.any_eq_true]
        refine ⟨i, List.mem_range.mpr (by omega), ?_⟩
        rw [List.any_eq_true]
        refine ⟨j, List.mem_range.mpr hj, ?_⟩
        rw [Bool.and_eq_true, Bool.and_eq_true, decide_eq_true_eq, m]
        refine ⟨by omega, ?_, rfl⟩
        rw [Bool.or_eq_true, decide_eq_true_eq, decide_eq_true_eq]
        omega
      rw [ht] at this; cases this
end Sc
namespace Sc
open Kzq1 (Q P)
/-! How many sides reach: an even number -/
theorem even_changes (u : Nat → Bool) : ∀ m, ((List.range m).filter fun k => u k != u (k + 1)).length % 2 = if u 0 = u m then 0 else 1
  | 0 => by simp
  | m + 1 => by
    rw [List.range_succ, List.filter_append, List.length_append]
    have ih := even_changes u m
    by_cases c : u m = u (m + 1)
    · have e : ([m].filter fun k => u k != u (k + 1)) = [] := by simp [c]
      rw [e, List.length_nil, Nat.add_zero, ih, c]
    · have e : ([m].filter fun k => u k != u (k + 1)) = [m] := by simp [c]
      rw [e, List.length_singleton]
      by_cases c2 : u 0 = u m
      · rw [if_pos c2] at ih
        rw [if_neg (fun z => c (c2.symm.trans z))]; omega
      · rw [if_neg c2] at ih
        have c3 : u 0 = u (m + 1) := by
          revert c c2
          cases u 0 <;> cases u m <;> cases u (m + 1) <;> simp
        rw [if_pos c3]; omega
theorem even_reach {l : List C2} {lo hi : Int} (h : lo < hi) (h0 : 0 < l.length) (hc : ∀ c ∈ l, c.2 ≤ lo ∨ hi ≤ c.2) : ((sidesI l).filter fun s => reachS s lo hi).length % 2 = 0 := by
  unfold sidesI
  rw [List.filter_map, List.length_map]
  have e : (List.range l.length).filter ((fun s => reachS s lo hi) ∘ fun k => (at2 l k, at2 l (k + 1))) = (List.range l.length).filter fun k => decide (hi ≤ (at2 l k).2) != decide (hi ≤ (at2 l (k + 1)).2) := by
    refine List.filter_congr fun k _ => ?_
    show reachS (at2 l k, at2 l (k + 1)) lo hi = _
    have c1 := hc _ (at2_mem h0 k)
    have c2 := hc _ (at2_mem h0 (k + 1))
    rw [Bool.eq_iff_iff, reach_iff h]
    dsimp only
    by_cases d1 : hi ≤ (at2 l k).2 <;> by_cases d2 : hi ≤ (at2 l (k + 1)).2
    · simp [d1, d2]; omega
    · simp [d1, d2]; omega
    · simp [d1, d2]; omega
    · simp [d1, d2]
  rw [e, even_changes (fun k => decide (hi ≤ (at2 l k).2)) l.length]
  have ez : at2 l l.length = at2 l 0 := by unfold at2; rw [Nat.mod_self, Nat.zero_mod]
  rw [ez, if_pos rfl]
/-! The slices between two heights -/
def bnd (lo hi : Int) (s : S2) : Q × Q := (rightAt s lo, rightAt s hi)
def leB (b c : Q × Q) : Bool := decide (val b.1 + val b.2 ≤ val c.1 + val c.2)
def slB (lo hi : Int) : List (Q × Q) → List (List P)
  | b :: c :: r => [⟨b.1, Kzq1.whole lo⟩, ⟨c.1, Kzq1.whole lo⟩, ⟨c.2, Kzq1.whole hi⟩, ⟨b.2, Kzq1.whole hi⟩] :: slB lo hi r
  | _ => []
def betw (l : List C2) (lo hi : Int) : List (List P) := slB lo hi ((((sidesI l).filter fun s => reachS s lo hi).map (bnd lo hi)).mergeSort leB)
def insI (M : Rat) (s : S2) : List S2 → List S2
  | [] => [s]
  | t :: l => if xAt s M < xAt t M then s :: t :: l else t :: insI M s l
theorem insI_perm (M : Rat) (s : S2) : ∀ l, (insI M s l).Perm (s :: l)
  | [] => .refl _
  | t :: l => by
    unfold insI
    split
    · exact .refl _
    · exact ((insI_perm M s l).cons t).trans (.swap s t l)
theorem insI_sorted (M : Rat) (s : S2) : ∀ l, l.Pairwise (fun a b => xAt a M ≤ xAt b M) → (insI M s l).Pairwise (fun a b => xAt a M ≤ xAt b M)
  | [], _ => List.pairwise_singleton _ _
  | t :: l, h => by
    obtain ⟨h1, h2⟩ := List.pairwise_cons.mp h
    unfold insI
    split
    · rename_i c
      refine List.Pairwise.cons (fun x hx => ?_) h
      rcases List.mem_cons.mp hx with rfl | hx
      · exact Rat.le_of_lt c
      · have := h1 x hx; grind
    · rename_i c
      refine List.Pairwise.cons (fun x hx => ?_) (insI_sorted M s l h2)
      rcases List.mem_cons.mp ((insI_perm M s l).mem_iff.mp hx) with rfl | hx
      · exact Rat.not_lt.mp c
      · exact h1 x hx
def insAll (M : Rat) (S : List S2) : List S2 := S.foldr (insI M) []
theorem insAll_perm (M : Rat) : ∀ S, (insAll M S).Perm S
  | [] => .refl _
  | s :: S => (insI_perm M s _).trans ((insAll_perm M S).cons s)
theorem insAll_sorted (M : Rat) : ∀ S, (insAll M S).Pairwise (fun a b => xAt a M ≤ xAt b M)
  | [] => List.Pairwise.nil
  | s :: S => insI_sorted M s _ (insAll_sorted M S)
theorem insSide_eq {m : Q} (hm : Ok m) {s : S2} (hs : s.2.2 ≠ s.1.2) : ∀ l : List S2, (∀ t ∈ l, t.2.2 ≠ t.1.2) → Kzq2.insertSide m (ps s) (l.map ps) = (insI (val m) s l).map ps
  | [], _ => rfl
  | t :: l, h => by
    obtain ⟨o1, v1⟩ := atHeight_ok hs hm
    obtain ⟨o2, v2⟩ := atHeight_ok (h t List.mem_cons_self) hm
    show (if Kzq1.lt (Kzq2.atHeight (ps s) m) (Kzq2.atHeight (ps t) m) = true then ps s :: ps t :: l.map ps else ps t :: Kzq2.insertSide m (ps s) (l.map ps)) = (if xAt s (val m) < xAt t (val m) then s :: t :: l else t :: insI (val m) s l).map ps
    by_cases c : xAt s (val m) < xAt t (val m)
    · rw [if_pos c, if_pos ((lt_iff o1 o2).mpr (by rw [v1, v2]; exact c))]; rfl
    · rw [if_neg c, if_neg (fun z => c (by rw [lt_iff o1 o2, v1, v2] at z; exact z)), insSide_eq hm hs l fun z hz => h z (List.mem_cons_of_mem _ hz)]; rfl
theorem insSides_eq {m : Q} (hm : Ok m) : ∀ S : List S2, (∀ t ∈ S, t.2.2 ≠ t.1.2) → (S.map ps).foldr (Kzq2.insertSide m) [] = (insAll (val m) S).map ps
  | [], _ => rfl
  | s :: S, h => by
    have ih := insSides_eq hm S fun z hz => h z (List.mem_cons_of_mem _ hz)
    show Kzq2.insertSide m (ps s) ((S.map ps).foldr (Kzq2.insertSide m) []) = _
    rw [ih]
    exact insSide_eq hm (h s List.mem_cons_self) _ fun z hz => h z (List.mem_cons_of_mem _ ((insAll_perm _ S).mem_iff.mp hz))
theorem pairUp_eq {lo hi : Int} : ∀ T : List S2, (∀ t ∈ T, t.2.2 ≠ t.1.2) → Kzq2.pairUp (Kzq1.whole lo) (Kzq1.whole hi) (T.map ps) = slB lo hi (T.map (bnd lo hi))
  | [], _ => rfl
  | [_], _ => rfl
  | s :: t :: r, h => by
    have hs := h s List.mem_cons_self
    have ht := h t (List.mem_cons_of_mem _ List.mem_cons_self)
    show Kzq2.slice (Kzq1.whole lo) (Kzq1.whole hi) (ps s) (ps t) :: Kzq2.pairUp (Kzq1.whole lo) (Kzq1.whole hi) (r.map ps) = _
    rw [pairUp_eq r fun z hz => h z (List.mem_cons_of_mem _ (List.mem_cons_of_mem _ hz))]
    unfold Kzq2.slice
    rw [atHeight_eq hs, atHeight_eq hs, atHeight_eq ht, atHeight_eq ht]
    rfl
theorem betw_eq {l : List C2} (hf : figI l = true) (h3 : 3 ≤ l.length) {lo hi : Int} (h : lo < hi) :
    Kzq2.pairUp (Kzq1.whole lo) (Kzq1.whole hi) (((Kzq1.sides (l.map pt)).filter fun s => Kzq2.spans s (Kzq1.whole lo) (Kzq1.whole hi)).foldr (Kzq2.insertSide (Kzq1.mul Kzq1.half (Kzq1.add (Kzq1.whole lo) (Kzq1.whole hi)))) []) = betw l lo hi := by
  have h0 : 0 < l.length := by omega
  have om : Ok (Kzq1.mul Kzq1.half (Kzq1.add (Kzq1.whole lo) (Kzq1.whole hi))) := mul_ok half_ok (add_ok (whole_ok _) (whole_ok _))
  have vm : val (Kzq1.mul Kzq1.half (Kzq1.add (Kzq1.whole lo) (Kzq1.whole hi))) = 1 / 2 * ((lo : Rat) + (hi : Rat)) := by
    rw [val_mul half_ok (add_ok (whole_ok _) (whole_ok _)), val_half, val_add (whole_ok _) (whole_ok _), val_whole, val_whole]
  have ef : (Kzq1.sides (l.map pt)).filter (fun s => Kzq2.spans s (Kzq1.whole lo) (Kzq1.whole hi)) = ((sidesI l).filter fun s => reachS s lo hi).map ps := by
    rw [sides_pt h0, List.filter_map]
    congr 1
    exact List.filter_congr fun s _ => spans_eq h
  obtain ⟨M, hM⟩ : ∃ M, M = 1 / 2 * ((lo : Rat) + (hi : Rat)) := ⟨_, rfl⟩
  rw [← hM] at vm
  generalize hS : (sidesI l).filter (fun s => reachS s lo hi) = S at ef
  have inS : ∀ s ∈ S, ∃ i, i < l.length ∧ s = (at2 l i, at2 l (i + 1)) ∧ reachS s lo hi = true := fun s hs => by
    rw [← hS] at hs
    obtain ⟨h1, h2⟩ := List.mem_filter.mp hs
    obtain ⟨i, hi, e⟩ := List.mem_map.mp h1
    exact ⟨i, List.mem_range.mp hi, e.symm, h2⟩
  have ne : ∀ s ∈ S, s.2.2 ≠ s.1.2 := fun s hs => by
    obtain ⟨_, _, _, r⟩ := inS s hs
    exact reach_ne h r
  have neT : ∀ s ∈ insAll M S, s.2.2 ≠ s.1.2 := fun s hs => ne s ((insAll_perm M S).mem_iff.mp hs)
  have anti : ∀ s t, s ∈ S → t ∈ S → xAt s M = xAt t M → s = t := fun s t hs ht e => by
    obtain ⟨i, hi1, es, r1⟩ := inS s hs
    obtain ⟨j, hj1, et, r2⟩ := inS t ht
    rcases Nat.lt_trichotomy i j with c | c | c
    · subst es; subst et
      exact absurd e (no_tie hf h3 c hj1 h hM r1 r2)
    · subst c; rw [es, et]
    · subst es; subst et
      exact absurd e.symm (no_tie hf h3 c hi1 h hM r2 r1)
  rw [ef, insSides_eq om S ne, vm, pairUp_eq _ neT]
  unfold betw
  rw [hS]
  congr 1
  have sumx : ∀ s ∈ S, val (bnd lo hi s).1 + val (bnd lo hi s).2 = xAt s (lo : Rat) + xAt s (hi : Rat) := fun s hs => by
    show val (rightAt s lo) + val (rightAt s hi) = _
    rw [val_rightAt (ne s hs), val_rightAt (ne s hs)]
  have lx : ∀ s ∈ S, ∀ t ∈ S, decide (xAt s M ≤ xAt t M) = leB (bnd lo hi s) (bnd lo hi t) := fun s hs t ht => by
    unfold leB
    rw [sumx s hs, sumx t ht, decide_eq_decide, hM, xAt_mid (ne s hs), xAt_mid (ne t ht)]
    grind
  rw [← List.map_mergeSort (r := fun s t => decide (xAt s M ≤ xAt t M)) (s := leB) lx]
  congr 1
  have sorted : (S.mergeSort fun s t => decide (xAt s M ≤ xAt t M)).Pairwise (fun a b => xAt a M ≤ xAt b M) := by
    have z := List.pairwise_mergeSort (le := fun s t : S2 => decide (xAt s M ≤ xAt t M)) (fun a b c h1 h2 => by
      simp only [decide_eq_true_eq] at *; grind) (fun a b => by
      simp only [Bool.or_eq_true, decide_eq_true_eq]; exact Rat.le_total) S
    exact z.imp fun {a b} q => of_decide_eq_true q
  refine List.Perm.eq_of_pairwise (le := fun a b => xAt a M ≤ xAt b M) (fun a b ha hb h1 h2 => ?_) (insAll_sorted M S) sorted ((insAll_perm M S).trans (List.mergeSort_perm S _).symm)
  exact anti a b ((insAll_perm M S).mem_iff.mp ha) (List.mem_mergeSort.mp hb) (Rat.le_antisymm h1 h2)
def slicesI (l : List C2) (hs : List Int) : List (List P) := (hs.zip hs.tail).flatMap fun y => betw l y.1 y.2
theorem zip_lt : ∀ {hs : List Int}, hs.Pairwise (· < ·) → ∀ y ∈ hs.zip hs.tail, y.1 < y.2
  | [], _, y, hy => by simp at hy
  | [_], _, y, hy => by simp at hy
  | a :: b :: r, h, y, hy => by
    obtain ⟨h1, h2⟩ := List.pairwise_cons.mp h
    have hy : y ∈ (a, b) :: (b :: r).zip r := hy
    rcases List.mem_cons.mp hy with e | hy
    · subst e; exact h1 b List.mem_cons_self
    · exact zip_lt (hs := b :: r) h2 y hy
theorem slices_is {l : List C2} (hf : figI l = true) (h3 : 3 ≤ l.length) {hs : List Int} (h1 : hs.Pairwise (· < ·)) (h2 : ∀ k, k ∈ hs ↔ k ∈ l.map (·.2)) : Kzq2.slices (l.map pt) = slicesI l hs := by
  unfold Kzq2.slices slicesI
  dsimp only
  rw [heights_eq h1 h2, ← List.map_tail, List.zip_map, List.flatMap_map]
  have key : ∀ ys : List (Int × Int), (∀ y ∈ ys, y.1 < y.2) → ys.flatMap (fun y => Kzq2.pairUp (Prod.map Kzq1.whole Kzq1.whole y).1 (Prod.map Kzq1.whole Kzq1.whole y).2 (((Kzq1.sides (l.map pt)).filter fun s => Kzq2.spans s (Prod.map Kzq1.whole Kzq1.whole y).1 (Prod.map Kzq1.whole Kzq1.whole y).2).foldr (Kzq2.insertSide (Kzq1.mul Kzq1.half (Kzq1.add (Prod.map Kzq1.whole Kzq1.whole y).1 (Prod.map Kzq1.whole Kzq1.whole y).2))) [])) = ys.flatMap fun y => betw l y.1 y.2 := fun ys => by
    induction ys with
    | nil => intro _; rfl
    | cons y r ih =>
      intro hy
      rw [List.flatMap_cons, List.flatMap_cons, ih fun z hz => hy z (List.mem_cons_of_mem _ hz)]
      congr 1
      exact betw_eq hf h3 (hy y List.mem_cons_self)
  exact key _ (zip_lt h1)
end Sc
/-! sorted(xs, key=lambda x: ..) over the hand layer, the keys whole numbers. -/
namespace ScL
open PySem PySem.Spec PyProof.Rows L2 LamX NdefX
/-- a lambda called: its body is an expression -/
theorem lam_run {CX : CXT} {P : Program} {w : World} {K : PySem.W.Frag} {mg : Str → Option Value} {base : Heap} {N ps fr : List Str} {F : NF} {f : Addr} {k : Nat} {params : Arguments} {body : Expr} {pm ctv : Value} {A : Around} {outer : List Env} {s : Shared} {H : Hp}
    {us : List Value} {vs : List V} {ws : List (Option V)} {Q : VK} {E : XK} {tb : TE} (S : NScope N ps fr F.scope) (hf : s.heap.get? f = some (PySem.W.kla_obj "<lambda>" F.qual params body F.scope F.cl pm F.c ctv))
    (hb : bindArgs (PySem.W.kla_fn "<lambda>" F.qual params body F.scope F.cl pm (.ref F.c) ctv) ⟨us, []⟩ = pure (ps.zip us))
    (hr : Room (k + 1) A) (e0 : Env0 P w K mg base A outer s H) (hc : H F.c = some (CodeO F.c F.qual)) (C : CellsAt F.cl fr ws s.heap H) (r : Vals vs us) (hl : vs.length = ps.length)
    (hbody : Room k (A.deeper (envF F f s.heap.objs.size)) → PE (ncx CX P w K mg base N F f A outer s H E) body tb) (h : tb (startF N vs ws) H Q) :
    codeAny (model P w) A (.call (.ref f) ⟨us, []⟩) (CR CX outer P w H s Q E) s := by
  have lim : s.heap.NoLimit := e0.mod.nolimit.keeps fun b o e => (e0.bs b o e).1
  obtain ⟨oc, fs, t, hoc, hdc, hvc⟩ := (e0.hok F.c _ hc).1
  refine PySem.W.kla_callFunE hr.depth hf rfl S.co S.gen rfl ⟨F.c, oc, fs, t, rfl, hoc, hdc, hvc⟩ ?_
  rw [hb]
  refine wpAny_pure (wpAny_newFunctionEnv S.nocell (fun ⟨n, _⟩ hy => S.par n (List.of_mem_zip hy).1) (fun h1 hns hsb => ⟨lim.fresh _ hsb, ?_⟩) S.kind)
  show codeAny _ _ (.expr body (envF F f s.heap.objs.size)) _ _
  have kp : ∀ b o, s.heap.get? b = some o → h1.get? b = some o := fun b o e => hsb.extBut b o (Nat.ne_of_lt (Heap.lt_size e)) (Heap.get?_push_of_some _ e)
  have J : Inv (ncx CX P w K mg base N F f A outer s H E) [] (startF N vs ws) H { s with heap := h1, toks := s.toks + (ps.zip us).length } := inv_startN S hr.hd e0 hl r C hns kp
  refine PySem.W.kla_codeExpr (wpAny_mono ((hbody (hr.deeper _)).run [] _ _ H Q J h) (fun v s' hq => ?_) fun e s' hq => hq)
  obtain ⟨x, H', J', rv, q⟩ := hq
  exact ⟨x, H', J'.os, J'.bare, J'.base, J'.hok, rv, q⟩
section
variable {X : Cx} {pins : List (Addr × Obj)} {σ : L2.St} {H : Hp} {s : Shared}
/-- a new object is pinned -/
theorem pin_new {h' : Heap} {t' : Nat} {a : Addr} {o : Obj} (I : Inv X pins σ H s) (k : ∀ b u, s.heap.get? b = some u → h'.get? b = some u) (ha : s.heap.objs.size ≤ a) (ho : h'.get? a = some o) (hd : ∀ v, o.data ≠ .cell v) :
    Inv X ((a, o) :: pins) σ H { s with heap := h', toks := t' } := by
  have J : Inv X pins σ H { s with heap := h', toks := t' } := I.kept k
  refine J.pins_of fun p hp => ?_
  rcases List.mem_cons.mp hp with rfl | hp
  · exact ⟨ho, I.hok.fresh ha, Nat.ne_of_gt (Nat.lt_of_lt_of_le I.lt ha), I.nofs ha, hd⟩
  · exact J.pin p (List.mem_append_right _ hp)
/-- a pinned object is changed -/
theorem repin {h' : Heap} {t' : Nat} {a : Addr} {o o' : Obj} (I : Inv X ((a, o) :: pins) σ H s) (sb : Heap.SameBut a s.heap h') (ho : h'.get? a = some o') (hd : ∀ v, o'.data ≠ .cell v) (hz : X.s_0.heap.objs.size ≤ a) (hn : ∀ p ∈ X.pn ++ pins, p.1 ≠ a) :
    Inv X ((a, o') :: pins) σ H { s with heap := h', toks := t' } := by
  obtain ⟨e, n, nL, nF, d⟩ := I.pin (a, o) (List.mem_append_right _ List.mem_cons_self)
  have I0 : Inv X pins σ H s := I.pins_of fun p hp => I.pin p (List.mem_append_right _ (List.mem_cons_of_mem _ hp))
  have J : Inv X pins σ H { s with heap := h', toks := t' } := I0.turned (it := a) (fun b u hb q => (sb.2 b hb).trans q) n nL (.inr hz) (fun x c q z => by
    obtain ⟨v, oc, hoc, hdc⟩ := I.cell x c q
    rw [z, e] at hoc
    cases hoc
    exact d v hdc) hn
  refine J.pins_of fun p hp => ?_
  rcases List.mem_cons.mp hp with rfl | hp
  · exact ⟨ho, n, nL, nF, hd⟩
  · exact J.pin p (List.mem_append_right _ hp)
end
theorem each_vals : ∀ {out : List Value} {ys : List V}, PySem.W.EachIs (fun (v : Value) (x : V) => L2.RelV x v) out ys → Vals ys out
  | _, _, .nil => .nil
  | _, _, .cons r t => .cons r (each_vals t)
theorem vals_each : ∀ {ys : List V} {out : List Value}, Vals ys out → PySem.W.EachIs (fun (v : Value) (x : V) => L2.RelV x v) out ys
  | _, _, .nil => .nil
  | _, _, .cons r t => .cons r (vals_each t)
theorem each_reads {h : Heap} : ∀ {vs : List Value} {ns : List Int}, IntsAre vs ns → PySem.W.EachIs (fun v k => ∃ as, Reads h v k as) vs (ns.map PyData.int)
  | _, _, .nil => .nil
  | _, _, .cons n t r => .cons ⟨[], .int n t⟩ (each_reads r)
/-- in order by the whole number k; like ones stay -/
def byKey (k : V → Int) (xs : List V) : List V := xs.mergeSort (PySem.W.dataLe false fun x => PyData.int (k x))
/-- sorted(xs, key=lambda ..): the list; the lambda is made; each item's key; the sorted list at a new place -/
def tSortKey (K : PySem.W.Frag) (T : List (Addr × Str)) (N2 : List Str) (js : List Nat) (ta : TA) (tb : TE) : TE := fun σ H Q => ta σ H fun us H1 => ∃ (a : Addr) (xs : List V) (κ : V → Int), us = [.ref a] ∧ SqL K H1 a xs ∧ Tabs T H1 ∧
  (∀ H2, ExtN H1 H2 → ∀ y ∈ xs, tb (startF N2 [y] (js.map (slotAt σ))) H2 fun v H3 => v = .int (κ y) ∧ Same H2 H3) ∧
  ∀ H4 p, ExtN H1 H4 → Tabs T H4 → H4 p = none → Q (.ref p) (upd H4 p (.lst (byKey κ xs)))
theorem sq_ext {K : PySem.W.Frag} {H H' : Hp} {a : Addr} {xs : List V} (e : ExtN H H') (h : SqL K H a xs) : SqL K H' a xs := by
  rcases h with h | h
  · rcases h with h | ⟨o, h⟩
    · exact .inl (.inl (e _ _ h (fun _ z => by cases z)))
    · exact .inl (.inr ⟨o, e _ _ h (fun _ z => by cases z)⟩)
  · exact .inr h
theorem tabs_same {T : List (Addr × Str)} {H H' : Hp} (s : Same H H') (t : Tabs T H) : Tabs T H' := t.ext s
theorem mem_of_take {α : Type} {l : List α} {i : Nat} {x : α} (h : l[i]? = some x) : l.take (i + 1) = l.take i ++ [x] := by rw [List.take_succ, h]; rfl
theorem pe_sortKey {X : Cx} {k : Nat} {T : List (Addr × Str)} {c P : Addr} {N2 fr : List Str} {prm : Str} {js : List Nat} {e body : Expr} {params : Arguments} {scope : Scope} {kpos lpos p pos : Pos} {ta : TA} {tb : TE}
    (hcalm : X.calm = true) (hg : Gl X "sorted") (hm : X.mg "sorted" = none) (ha : PA X [e] ta) (TB : TabB X.base X.mg c P) (hcode : X.env.code = .ref c) (hmT : (P, X.env.qual ++ "<lambda>") ∈ T) (hu : ∀ q ∈ T, q.1 = P → q.2 = X.env.qual ++ "<lambda>")
    (hdef : defaultsOf params X.env = ([], [])) (S : NScope N2 [prm] fr scope) (hfree : ∀ y ∈ scope.names, y.2 = .free → X.env.scope.names.lookup y.1 = some .cell ∨ X.env.scope.names.lookup y.1 = some .free)
    (hjs : js.map (fun j => X.N[j]?) = fr.map some)
    (hbind : ∀ (q : Str) (cl : List (Str × Addr)) (pm cv ctv u : Value), bindArgs (PySem.W.kla_fn "<lambda>" q params body scope cl pm cv ctv) ⟨[u], []⟩ = pure [(prm, u)]) (hr : Room (k + 4) X.A)
    (hbody : ∀ (A : Around) (outer : List Env) (s : Shared) (H : Hp) (f c' : Addr) (cl : List (Str × Addr)), Room k (A.deeper (envF ⟨"<lambda>", X.env.qual ++ "<lambda>", params, [], scope, cl, c'⟩ f s.heap.objs.size)) →
      PE (ncx CX0 X.prog X.w X.K X.mg X.base N2 ⟨"<lambda>", X.env.qual ++ "<lambda>", params, [], scope, cl, c'⟩ f A outer s H (fun _ _ _ => False)) body tb)
    (hst : backTo pos (starEach [e] X.env) = (false, eval e X.env) :: backTo pos (starEach [] X.env) := by rfl) (hpl : (backTo pos (starEach [e] X.env)).any (·.1) = false := by rfl) :
    PE X (.Call (.Name "sorted" p) [e] [⟨some "key", .Lambda params body scope lpos, kpos⟩] pos) (tSortKey X.K T N2 js ta tb) := by
  refine ⟨fun pins s σ H Q I h => ?_⟩
  refine wpAny_Call_Name_kw (ld_blt I hg hm PyProof.Rows.boot_sorted ?_)
  refine PyProof.Rows.callWith_kw (thn (ha.run pos pins s σ H _ I h) fun us s1 hus => ?_) hst hpl rfl rfl
  obtain ⟨vs, H1, I1, r1, l, xs, κ, e1, hS, hT, hkey, hQ⟩ := hus
  subst e1
  cases r1 with
  | cons rl rn =>
    cases rn
    cases rl
    show wpAny _ _ (evalAll ((do let v ← eval (.Lambda params body scope lpos) X.env; standAt pos; pure v) :: [])) _ _ s1
    refine wpAny_evalAll_cons (wpAny_bind (lam_make2 I1 TB hcode hmT hu hT hdef (fun y hy q => (hfree y hy q).elim (fun z => I1.ok.has _ (.inl z)) fun z => I1.ok.has _ (.inr z)) fun f c' pm ctv H2 s2 I2 x2 t2 hf nf hfr hc => ?_))
    refine wpAny_bind (wpAny_standAt (wpAny_pure (wpAny_evalAll_nil ?_)))
    show wpAny _ _ (call (.builtin "sorted") [.ref l] [(Str.ofString "key", .ref f)]) _ _ s2
    obtain ⟨fo, hfo⟩ : ∃ fo, fo = PySem.W.kla_obj "<lambda>" (X.env.qual ++ "<lambda>") params body scope (cloFrom X.env.cells scope.names []) pm c' ctv := ⟨_, rfl⟩
    rw [← hfo] at hf
    have hfd : ∀ v, fo.data ≠ .cell v := fun v z => by rw [hfo] at z; cases z
    have fL : f ≠ X.env.locals := fun z => by
      obtain ⟨m, ⟨o, es, ep, ho, hd, _⟩, _⟩ := I2.loc
      rw [← z, hf] at ho
      cases ho
      rw [hfo] at hd
      cases hd
    have fF : f ∉ X.fs := fun z => hfr (by
      rcases I2.ok.stk with q | ⟨q, _⟩
      · rw [q]; exact z
      · rw [q]
        unfold frs
        rw [List.filterMap_cons]
        split
        · exact z
        · exact List.mem_cons_of_mem _ z)
    have I3 : Inv X ((f, fo) :: pins) σ H2 s2 := I2.pins_of fun q hq => by
      rcases List.mem_cons.mp hq with rfl | hq
      · exact ⟨hf, nf, fL, fF, hfd⟩
      · exact I2.pin q (List.mem_append_right _ hq)
    obtain ⟨its, rv, pl, hz⟩ := I3.list (sq_ext x2 hS)
    have hlen : its.length = xs.length := rv.length.symm
    have hZ : its.length ≤ sizeLine := by rw [hlen]; exact hz
    refine PySem.W.sorted_of_sort (vs := its) pl.isList hZ (ksk_s1 _ _) (fun x => ksk_l1 _ _) fun E' => ?_
    rw [ksk_t1]
    generalize ha : s2.heap.objs.size + 1 = a
    have co : (PySem.W.copyHeap s2.heap its).get? a = some (seqObj "list" its.toArray 0) := by rw [← ha]; exact PySem.W.copyHeap_at s2.heap its
    obtain ⟨e1, ho1⟩ : ∃ e1, ((PySem.W.copyHeap s2.heap its).update a (Obj.mapSeq fun _ => (#[] : Array Value))).get? a = some (seqObj "list" #[] e1) := ⟨_, get?_update_seq co fun _ => #[]⟩
    unfold ksk_tree
    refine wpAny_bind (listItems_at co rfl ?_)
    refine wpAny_bind (listUpdate_at co rfl ?_ (by rw [List.size_toArray]; exact hZ) (Nat.zero_le _))
    refine wpAny_bind (seqEpoch_at ho1 rfl ?_)
    refine wpAny_bind (wpAny_newTuple ?_ (by show its.length ≤ _; exact hZ))
    refine wpAny_bind (wpAny_newList ?_ (Nat.zero_le _))
    refine wpAny_holding ?_
    generalize hg1 : ((PySem.W.copyHeap s2.heap its).update a (Obj.mapSeq fun _ => (#[] : Array Value))).push (seqObj "tuple" its.toArray 0) = g1
    have sz1 : g1.objs.size = s2.heap.objs.size + 3 := by
      rw [← hg1, size_push', Heap.size_update]
      show (((s2.heap.push (seqObj "list" #[] 0)).update s2.heap.objs.size (Obj.mapSeq (· ++ its.toArray))).push (seqObj "list" its.toArray 0)).objs.size + 1 = _
      rw [size_push', Heap.size_update, size_push']
    have kp1 : ∀ b u, s2.heap.get? b = some u → g1.get? b = some u := fun b u q => by
      rw [← hg1]
      refine Heap.get?_push_of_some _ ?_
      rw [Heap.get?_update_other _ _ (by rw [← ha]; exact Nat.ne_of_gt (Nat.lt_succ_of_lt (Heap.lt_size q)))]
      exact PySem.W.copyHeap_old q
    have na1 : g1.get? a = some (seqObj "list" #[] e1) := by rw [← hg1]; exact Heap.get?_push_of_some _ ho1
    generalize hkS : g1.objs.size = kS
    generalize hg2 : g1.push (seqObj "list" #[] 0) = g2
    have nk2 : g2.get? kS = some (seqObj "list" #[] 0) := by rw [← hg2, ← hkS]; exact Heap.get?_push_size _ rfl
    have kp2 : ∀ b u, g1.get? b = some u → g2.get? b = some u := fun b u q => by rw [← hg2]; exact Heap.get?_push_of_some _ q
    have na2 := kp2 _ _ na1
    have hka : kS ≠ a := by rw [← hkS, sz1, ← ha]; omega
    have hkz : s2.heap.objs.size ≤ kS := by rw [← hkS, sz1]; omega
    have haz : s2.heap.objs.size ≤ a := by omega
    have notc : ∀ (xs : Array Value) (n : Nat) v, (seqObj "list" xs n).data ≠ .cell v := fun _ _ _ z => by cases z
    have I4 : Inv X ((kS, seqObj "list" #[] 0) :: (a, seqObj "list" #[] e1) :: (f, fo) :: pins) σ H2 { s2 with heap := g2 } := by
      have J : Inv X ((f, fo) :: pins) σ H2 { s2 with heap := g2 } := I3.kept (t' := s2.toks) fun b u q => kp2 _ _ (kp1 _ _ q)
      refine J.pins_of fun q hq => ?_
      rcases List.mem_cons.mp hq with rfl | hq
      · exact ⟨nk2, I3.hok.fresh hkz, Nat.ne_of_gt (Nat.lt_of_lt_of_le I3.lt hkz), I3.nofs hkz, notc _ _⟩
      · rcases List.mem_cons.mp hq with rfl | hq
        · exact ⟨na2, I3.hok.fresh haz, Nat.ne_of_gt (Nat.lt_of_lt_of_le I3.lt haz), I3.nofs haz, notc _ _⟩
        · exact J.pin q (List.mem_append_right _ hq)
    have oldp : ∀ q ∈ X.pn ++ ((f, fo) :: pins), q.1 < s2.heap.objs.size := fun q hq => Heap.lt_size (I3.pin q hq).1
    have hn1 : ∀ q ∈ X.pn ++ ((a, seqObj "list" #[] e1) :: (f, fo) :: pins), q.1 ≠ kS := fun q hq z => by
      rcases List.mem_append.mp hq with hq | hq
      · have y := oldp q (List.mem_append_left _ hq)
        rw [z] at y
        exact absurd (Nat.lt_of_lt_of_le y hkz) (Nat.lt_irrefl _)
      · rcases List.mem_cons.mp hq with rfl | hq
        · exact hka z.symm
        · have y := oldp q (List.mem_append_right _ hq)
          rw [z] at y
          exact absurd (Nat.lt_of_lt_of_le y hkz) (Nat.lt_irrefl _)
    have hs0 : X.s_0.heap.objs.size ≤ s2.heap.objs.size := I3.sz
    -- the keys
    show wpAny _ _ (ksk_rest a (.ref f) false its.toArray e1 (.ref kS)) _ _ _
    unfold ksk_rest
    refine wpAny_bind (wpAny_rule ?_)
    rw [← Array.forIn_toList]
    simp only [List.toList_toArray]
    refine wpAny_bind (ksk_fold (fun i t => ∃ H' kA ep, Inv X ((kS, seqObj "list" kA ep) :: (a, seqObj "list" #[] e1) :: (f, fo) :: pins) σ H' t ∧ ExtN H1 H' ∧ Tabs T H' ∧ Same H2 H' ∧ IntsAre kA.toList ((xs.map κ).take i)) its 0 _
      ⟨H2, #[], 0, I4, x2, t2, Same.refl _, by rw [List.take_zero]; exact IntsAre.nil⟩ ?step ?done)
    case step =>
      rintro j x t hx ⟨H', kA, ep, J, xe, tt, sm, hk⟩
      simp only [Nat.zero_add] at hk ⊢
      have hj : j < its.length := (List.getElem?_eq_some_iff.mp hx).1
      obtain ⟨y, hy⟩ : ∃ y, xs[j]? = some y := ⟨_, List.getElem?_eq_getElem (by omega)⟩
      obtain ⟨x', hx', ry⟩ := rv.get hy
      rw [hx] at hx'
      cases hx'
      have hkl : kA.size ≤ its.length := by
        have h1 := hk.length
        rw [Array.length_toList, List.length_take] at h1
        omega
      have e0 := J.env0
      have e0' : Env0 X.prog X.w X.K X.mg X.base X.A.in1.in1 X.stack t H' := ⟨e0.frames, e0.mod, e0.bs, e0.bsz, e0.funs, e0.frf, e0.hok, e0.bare⟩
      have C := cells_of J (Caps.made J.ok hfree (fun z hz => PySem.mem_of_lookup (S.frk z hz)) hjs)
      have hft : t.heap.get? f = some fo := (J.pin (f, fo) (List.mem_append_right _ (List.mem_cons_of_mem _ (List.mem_cons_of_mem _ List.mem_cons_self)))).1
      have run : wpAny (model X.prog X.w) X.A.in1.in1 (call (.ref f) [x]) (EP X ((kS, seqObj "list" kA ep) :: (a, seqObj "list" #[] e1) :: (f, fo) :: pins) σ fun v H3 => v = .int (κ y) ∧ Same H' H3) (fun _ _ => False) t := by
        refine wpAny_call (codeAny_mono (lam_run (CX := CX0) (N := N2) (ps := [prm]) (fr := fr) (F := ⟨"<lambda>", X.env.qual ++ "<lambda>", params, [], scope, cloFrom X.env.cells scope.names [], c'⟩) (params := params) (body := body) (pm := pm) (ctv := ctv)
          (E := fun _ _ _ => False) (vs := [y]) (ws := js.map (slotAt σ)) (k := k) S (by rw [hft, hfo]) (hbind _ _ _ _ _ _) ((hr.mono (by omega : k + 3 ≤ k + 4)).in1.in1) e0' (sm _ _ hc) C (.cons ry .nil) rfl (fun hr' => hbody _ _ _ _ _ _ _ hr') (hkey H' xe y (List.mem_of_getElem? hy))) fun r t2 hq => ?_)
        cases r with
        | error z => exact (show False from hq)
        | ok fl =>
          cases fl with
          | ret u => exact J.after hq
          | next => exact False.elim hq
          | brk => exact False.elim hq
          | cont => exact False.elim hq
      refine wpAny_bind (wpAny_attempt (wpAny_mono run (fun v t2 hv => ?_) fun _ _ hF => hF.elim))
      obtain ⟨v', H3, J3, rv3, ev, sm3⟩ := hv
      subst ev
      obtain ⟨tk, rfl⟩ := rv3
      dsimp only
      obtain ⟨nk3, _⟩ := J3.pin (kS, seqObj "list" kA ep) (List.mem_append_right _ List.mem_cons_self)
      have sb := Heap.SameBut.update t2.heap kS (Obj.mapSeq (·.push (.int (κ y) tk)))
      obtain ⟨c2, hc2⟩ : ∃ c2, (t2.heap.update kS (Obj.mapSeq (·.push (.int (κ y) tk)))).get? kS = some (seqObj "list" (kA.push (.int (κ y) tk)) c2) := ⟨_, get?_update_seq nk3 (·.push (.int (κ y) tk))⟩
      refine wpAny_bind (listUpdate_at nk3 rfl ?_ (Nat.le_trans hkl hZ) (Nat.le_trans (Nat.le_of_eq (Array.size_push ..)) (Nat.succ_le_succ (Nat.le_trans hkl hZ))))
      have ek : (xs.map κ).take (j + 1) = (xs.map κ).take j ++ [κ y] := mem_of_take (by rw [List.getElem?_map, hy]; rfl)
      have ea : (kA.push (Value.int (κ y) tk)).toList = kA.toList ++ [Value.int (κ y) tk] := by simp
      refine wpAny_pure ⟨rfl, H3, kA.push (.int (κ y) tk), c2, repin (t' := t2.toks) J3 sb hc2 (notc _ _) (Nat.le_trans hs0 hkz) hn1, xe.trans (ExtN.of sm3), tabs_same sm3 tt, sm.trans sm3, ?_⟩
      rw [ea, ek]
      exact ksk_snoc hk
    case done =>
      rintro t ⟨H', kA, ep, J, xe, tt, sm, hk⟩
      rw [Nat.zero_add, hlen, List.take_of_length_le (by rw [List.length_map]; exact Nat.le_refl _)] at hk
      obtain ⟨nk, kn, kL, kF, _⟩ := J.pin (kS, seqObj "list" kA ep) (List.mem_append_right _ List.mem_cons_self)
      obtain ⟨na, an, aL, aF, _⟩ := J.pin (a, seqObj "list" #[] e1) (List.mem_append_right _ (List.mem_cons_of_mem _ List.mem_cons_self))
      have hsz : kA.size = its.length := by
        have h1 := hk.length
        rw [Array.length_toList, List.length_map] at h1
        omega
      refine wpAny_bind (listItems_at nk rfl ?_)
      obtain ⟨G, q1, q2⟩ := restrict t.heap fun b => decide (b ≠ kS)
      have gk : ∀ b, b ≠ kS → G.get? b = t.heap.get? b := fun b hb => q1 b (decide_eq_true hb)
      have gn : G.get? kS = none := q2 _ (by simp)
      have kp : PySem.W.KeepsBut a G t.heap := fun b o _ q => by
        by_cases hb : b = kS
        · rw [hb, gn] at q; cases q
        · rw [gk b hb] at q; exact q
      have hkr : PySem.W.EachIs (fun v d => ∃ as, Reads t.heap v d as) kA.toList ((xs.map κ).map PyData.int) := each_reads hk
      have isI : ∀ d, d ∈ (xs.map κ).map PyData.int → ∃ n, d = PyData.int n := fun d hd => by
        obtain ⟨n, _, q⟩ := List.mem_map.mp hd
        exact ⟨n, q.symm⟩
      have hal : PySem.W.AllAlike ((xs.map κ).map PyData.int) := fun d hd d' hd' => by
        obtain ⟨n, rfl⟩ := isI d hd
        obtain ⟨m, rfl⟩ := isI d' hd'
        rfl
      have hsk : PySem.W.Sortable ((xs.map κ).map PyData.int) := .inr fun d hd => by
        obtain ⟨n, rfl⟩ := isI d hd
        exact ⟨fun z => (by cases z), fun _ z => (by cases z)⟩
      have hun : ∀ d, d ∈ (xs.map κ).map PyData.int → X.A.in1.in1.units + d.depth < cLine := fun d hd => by
        obtain ⟨n, rfl⟩ := isI d hd
        exact ((hr.mono (by omega : k + 3 ≤ k + 4)).in1.in1).units0
      refine PySem.W.keyH_end (κ := PySem.W.dataKind t.heap ((xs.map κ).map PyData.int)) (h₁ := G) (vs := its) kp gn nk na hka (PySem.W.SortsAt.data (s := t) hkr hal hsk hun) hsz hZ fun h3 tk3 c3 k3 n3 => ⟨rfl, ?_⟩
      have ko : PySem.W.KeyedOut false (xs.map fun x => PyData.int (κ x)) its (PySem.W.sortVals (PySem.W.dataKind t.heap ((xs.map κ).map PyData.int)) false kA.toList its) := by
        have q : (xs.map κ).map PyData.int = xs.map fun x => PyData.int (κ x) := by rw [List.map_map]; rfl
        rw [← q]
        exact ⟨t.heap, kA.toList, hal, rfl, hkr⟩
      have ro : Vals (byKey κ xs) (PySem.W.sortVals (PySem.W.dataKind t.heap ((xs.map κ).map PyData.int)) false kA.toList its) := each_vals (PySem.W.keyedOut_each (fun x => PyData.int (κ x)) ko (vals_each rv))
      have keep : ∀ b o, b ≠ a → b ≠ kS → t.heap.get? b = some o → h3.get? b = some o := fun b o h1 h2 q => k3 b o h1 ((gk b h2).trans q)
      have nt : ∀ b u, H' b = some u → b ≠ a ∧ b ≠ kS := fun b u q => ⟨fun z => (by rw [z, an] at q; cases q), fun z => (by rw [z, kn] at q; cases q)⟩
      refine ⟨.ref a, upd H' a (.lst (byKey κ xs)), ?_, rfl, hQ H' a xe tt an⟩
      have J0 : Inv X pins σ H' t := J.pins_of fun q hq => J.pin q (List.mem_append_right _ (List.mem_cons_of_mem _ (List.mem_cons_of_mem _ (List.mem_cons_of_mem _ hq))))
      have ncell : ∀ (b : Addr) (o : Obj), t.heap.get? b = some o → (∀ v, o.data ≠ .cell v) → ∀ x c, X.env.cells.lookup x = some c → c ≠ b := fun b o q hd x c qc z => by
        obtain ⟨v, oc, hoc, hdc⟩ := J0.cell x c qc
        rw [z, q] at hoc
        cases hoc
        exact hd v hdc
      have hpa : ∀ q ∈ X.pn ++ pins, q.1 ≠ a ∧ q.1 ≠ kS := fun q hq => by
        have hq' : q ∈ X.pn ++ ((f, fo) :: pins) := (List.mem_append.mp hq).elim (fun z => List.mem_append_left _ z) fun z => List.mem_append_right _ (List.mem_cons_of_mem _ z)
        have y := oldp q hq'
        exact ⟨fun z => (by rw [z] at y; exact absurd (Nat.lt_of_lt_of_le y haz) (Nat.lt_irrefl _)), fun z => (by rw [z] at y; exact absurd (Nat.lt_of_lt_of_le y hkz) (Nat.lt_irrefl _))⟩
      have inC : ∀ b, b ∉ [a, kS] → b ≠ a ∧ b ≠ kS := fun b hb => by simpa using hb
      refine J0.step (g' := t.gens) (d' := t.drawn) (ch := [a, kS]) (fun b hb => ?_) (fun b o _ _ hb q _ => keep b o (inC b hb).1 (inC b hb).2 q) (fun b o _ _ hb q _ => ⟨o.slots, keep b o (inC b hb).1 (inC b hb).2 q⟩) (fun b o hb _ n => ?_)
        (fun b o hb q => ⟨o, keep b o (inC b hb).1 (inC b hb).2 q⟩) (fun b ys q => by rw [upd_ne (nt b _ q).1]; exact q) (fun b o u q => by rw [upd_ne (nt b _ q).1]; exact q) (fun b ps q => ⟨#[], by rw [upd_ne (nt b _ q).1, q]; simp⟩) (fun m hm => ?_) (fun b u q => ?_) J0.bare
      · have hb : b = a ∨ b = kS := by simpa using hb
        rcases hb with rfl | rfl
        · exact ⟨.inr (Nat.le_trans hs0 haz), aL, ncell _ _ na (notc _ _), fun q hq => (hpa q hq).1⟩
        · exact ⟨.inr (Nat.le_trans hs0 hkz), kL, ncell _ _ nk (notc _ _), fun q hq => (hpa q hq).2⟩
      · rw [upd_ne (inC b hb).1]; exact n
      · obtain ⟨o, es, ep', ho, r⟩ := hm
        exact ⟨o, es, ep', keep _ o (Ne.symm aL) (Ne.symm kL) ho, r⟩
      · by_cases hb : b = a
        · subst hb
          rw [upd_same] at q
          cases q
          exact ⟨by rw [ro.length, PySem.W.KeyedOut.length ko (by rw [List.length_map]; exact hlen.symm)]; exact hZ, _, c3, ro, n3⟩
        · rw [upd_ne hb] at q
          refine (J0.hok b u q).stay (fun c0 v hc0 r => keep c0 v ?_ ?_ r) (fun c0 r => by rw [upd_ne (nt c0 _ r).1]; exact r) fun c0 ys r => by rw [upd_ne (nt c0 _ r).1]; exact r
          · rcases hc0 with z | z
            · rw [z]; exact hb
            · exact (nt c0 _ z).1
          · rcases hc0 with z | z
            · rw [z]; exact (nt b u q).2
            · exact (nt c0 _ z).2
end ScL
/-! The end of a specification's row whose program makes a lambda in one def: the table of that def's code object may grow. -/
namespace ScL
open PySem PySem.Spec PyProof.Rows L2 LamX
open PySem.W (OpenSpec Codec WData WellAll ReadsW)
mutual
theorem dw_more {K : PySem.W.Frag} {H H' : Hp} (s : Same H H') : ∀ (d : WData) (v : V), Dw K H v d → Dw K H' v d
  | .none, _, h => by cases h; exact .non
  | .bool b, _, h => by cases h; exact .bl b
  | .int i, _, h => by cases h; exact .int i
  | .str x, _, h => by cases h; exact .str x
  | .bytes b, _, h => by cases h; exact .byt _
  | .list ds, _, h => by
    cases h with
    | lst h1 h2 => exact .lst (s.seq h1) (dw_mores s ds _ h2)
  | .tuple ds, _, h => by
    cases h with
    | tup h1 h2 =>
      refine .tup ?_ (dw_mores s ds _ h2)
      rcases h1 with h1 | h1
      · rcases h1 with h1 | ⟨o, h1⟩
        · exact .inl (.inl (s _ _ h1))
        · exact .inl (.inr ⟨o, s _ _ h1⟩)
      · exact .inr h1
  | .float _, _, h => by cases h
  | .dict _, _, h => by cases h
  | .bytearray _, _, h => by cases h
  | .set _, _, h => by cases h
  | .frozenset _, _, h => by cases h
  | .obj _ _, _, h => by cases h
theorem dw_mores {K : PySem.W.Frag} {H H' : Hp} (s : Same H H') : ∀ (ds : List WData) (vs : List V), DwAll K H vs ds → DwAll K H' vs ds
  | [], _, h => by cases h; exact .nil
  | d :: ds, _, h => by
    cases h with
    | cons h1 h2 => exact .cons (dw_more s d _ h1) (dw_mores s ds _ h2)
end
theorem callT {P : Program} {w : World} {K : PySem.W.Frag} {mg mb : Str → Option Value} {CX : CXT} {k : Nat} {fa c Pt : Addr} {fd : FuncData} {ps : List Str} {sp : Sp} {s1 : Shared} {vals : List Value} {ds : List WData} {R : PySem.W.WRecords} {cl : Str → Option Addr} {d0 : WData}
    (KX : K.In s1.heap) (hns : s1.heap.Ns mainGlobals mg) (hb : s1.heap.Ns builtinsNs mb) (hbb : ∀ x : Str, x ≠ "__name__" → mb x = bootBuiltins x) (hlim : s1.heap.NoLimit) (hg : s1.gens = #[])
    (hT : s1.heap.get? Pt = some (PySem.W.tabObj #[])) (nT : K.lookup Pt = none) (hC : PySem.W.CodeHd s1.heap c Pt)
    (hbm : ∃ (bm : Addr) (ob : Obj), mg "__builtins__" = some (.ref bm) ∧ bm ≠ builtinsNs ∧ s1.heap.get? bm = some ob ∧ ob.cls = .type "module" ∧ ob.dict = some builtinsNs ∧ ob.data = .plain)
    (hwl : WellAll w.params s1.heap vals ds) (hpl : plWs ds = true) (hwt : ∀ d ∈ ds, d.weight ≤ 1048576) (hr : Room k callerA)
    (F : ∀ base : Heap, K.In base → base.Ns mainGlobals mg → TabB base mg c Pt → FnOk P w K mg base CX k fa fd ps sp) (hbind : ∀ (s : Shared) (us : List Value), us.length = ps.length → BindsTo s fd ⟨us, []⟩ (ps.zip us)) (hlen : ds.length = ps.length)
    (hsp : ∀ (H : Hp) (xs : List V), H Pt = some (.tbl #[]) → DwAll K H xs ds → sp xs H (fun v H' => Dw K H' v d0) fun _ _ _ => False)
    (hCX : ∀ H e s', CX [] H s1 (fun _ _ _ => False) e s' → False) :
    codeAny (model P w) callerA (.call (.ref fa) ⟨vals, []⟩) (fun r s' => ∃ u as, r = .ok (.ret u) ∧ ReadsW R cl s'.heap u d0 as ∧ OldK s1.heap s'.heap ∧ s'.os = s1.os ∧ AllBare s'.gens) s1 := by
  obtain ⟨A, ho, ar⟩ := area_all ds vals hwl hpl hwt
  obtain ⟨H0, eH0⟩ : ∃ H0, H0 = argH K s1.heap A := ⟨_, rfl⟩
  have hO : OnlyF H0 := by rw [eH0]; exact argH_only ar
  have hok0 : HOk P w H0 s1.heap := by rw [eH0]; exact argH_ok ar
  have hS0 : DwAll K H0 (vals.map toV) ds := by rw [eH0]; exact dw_all KX ar ds vals hwl hpl ho
  have hV := vals_toV ho
  have isA : ∀ b u, H0 b = some u → K.lookup b = none ∧ ∃ o, s1.heap.get? b = some o ∧ ∃ vs n, o.data = .seq vs n := fun b u q => by
    rw [eH0] at q
    obtain ⟨h1, vs, _, _, ⟨e2, _⟩ | ⟨e2, _⟩⟩ := argH_is ar q
    · exact ⟨h1, _, e2, _, _, rfl⟩
    · exact ⟨h1, _, e2, _, _, rfl⟩
  clear eH0
  have nP : H0 Pt = none := by
    cases q : H0 Pt with
    | none => rfl
    | some u =>
      obtain ⟨_, o, e, vs, n, d⟩ := isA Pt u q
      rw [hT] at e
      cases e
      cases d
  obtain ⟨H, eH⟩ : ∃ H, H = upd H0 Pt (.tbl #[]) := ⟨_, rfl⟩
  have hP : H Pt = some (.tbl #[]) := by rw [eH]; exact upd_same
  have s0 : Same H0 H := fun b o e => by rw [eH, upd_ne (ne_of_none e nP)]; exact e
  have hne : ∀ b, b ≠ Pt → H b = H0 b := fun b hb => by rw [eH, upd_ne hb]
  have hok : HOk P w H s1.heap := fun b u q => by
    by_cases hb : b = Pt
    · rw [hb, hP] at q
      cases q
      rw [hb]
      exact hT
    · rw [hne b hb] at q
      exact (hok0 b u q).stay (fun _ _ _ r => r) (fun b2 r => s0 _ _ r) fun b2 xs r => s0 _ _ r
  have isH : ∀ b u, H b = some u → b = Pt ∨ (K.lookup b = none ∧ ∃ o, s1.heap.get? b = some o ∧ ∃ vs n, o.data = .seq vs n) := fun b u q => by
    by_cases hb : b = Pt
    · exact .inl hb
    · rw [hne b hb] at q; exact .inr (isA b u q)
  have free : ∀ {b : Addr} {o : Obj}, s1.heap.get? b = some o → (∀ vs n, o.data ≠ .seq vs n) → o.data ≠ .fields #[] → H b = none := fun {b o} e h1 h2 => by
    cases q : H b with
    | none => rfl
    | some u =>
      rcases isH b u q with z | ⟨_, o', e', vs, n, d⟩
      · rw [z, hT] at e
        cases e
        exact (h2 rfl).elim
      · rw [e] at e'
        cases e'
        exact (h1 vs n d).elim
  have freeD : ∀ {b : Addr} {o : Obj} {es : Array DictEntry} {ep : Nat}, s1.heap.get? b = some o → o.data = .dict es ep → H b = none := fun {b o es ep} e d =>
    free e (fun vs n z => by rw [d] at z; cases z) (fun z => by rw [d] at z; cases z)
  have inB : ∀ {b : Addr} {o : Obj}, s1.heap.get? b = some o → H b = none → (hidT s1.heap H).get? b = some o := fun e n => hidT_get e n
  have nsB : ∀ {b : Addr} {m : Str → Option Value}, s1.heap.Ns b m → (hidT s1.heap H).Ns b m := fun {b m} ⟨o, es, ep, e, d, r⟩ => ⟨o, es, ep, inB e (freeD e d), d, r⟩
  have kB : K.In (hidT s1.heap H) := fun b o e => inB (KX b o e) (by
    cases q : H b with
    | none => rfl
    | some u =>
      rcases isH b u q with z | ⟨z, _⟩
      · rw [z, nT] at e; cases e
      · rw [z] at e; cases e)
  have hM : L2.Mod K mg (hidT s1.heap H) := ⟨kB, nsB hns, ⟨mb, nsB hb, hbb⟩, let ⟨mc, h1, h2⟩ := hlim; ⟨mc, nsB h1, h2⟩⟩
  have TB : TabB (hidT s1.heap H) mg c Pt := by
    refine ⟨?_, ?_, fun z => ?_⟩
    · obtain ⟨o, us, file, tf, flags, tg, inF, text, tt, e1, r1, r2, r3, r4, r5, r6, r7, r8, hcP⟩ := hC
      refine ⟨o, us, file, tf, flags, tg, inF, text, tt, inB e1 (free e1 (fun vs n z => by rw [r2] at z; cases z) fun z => ?_), r1, r2, r3, r4, r5, r6, r7, r8, hcP⟩
      rw [r2] at z
      cases z
      simp at r3
    · obtain ⟨bm, ob, b1, b2, b3, b4, b5, b6⟩ := hbm
      refine ⟨bm, ob, b1, b2, fun q => ?_, fun q => ?_, inB b3 (free b3 (fun vs n z => by rw [b6] at z; cases z) fun z => by rw [b6] at z; cases z), b4, b5, b6⟩
      · obtain ⟨o, es, ep, e, hd, _⟩ := hns
        rw [q, e] at b3
        cases b3
        rw [hd] at b6
        cases b6
      · rw [q, hT] at b3
        cases b3
        cases b6
    · obtain ⟨o, es, ep, e, hd, _⟩ := hns
      rw [z, hT] at e
      cases e
      cases hd
  have e0 : Env0 P w K mg (hidT s1.heap H) callerA [] s1 H := ⟨rfl, hM, fun b o e => of_hidT e, Nat.le_of_eq (hidT_size _ _), trivial, fun b hb => absurd (show b ∈ ([] : List Addr) from hb) (by simp), hok, .of_eq hg⟩
  have hl : vals.length = ps.length := by rw [wellAll_len hwl]; exact hlen
  refine codeAny_mono ((F _ kB (nsB hns) TB).run callerA [] s1 H ⟨vals, []⟩ vals (vals.map toV) _ _ hr e0 (hbind s1 vals hl) hV (hsp H _ hP (dw_mores s0 _ _ hS0))) fun r s' x => ?_
  cases r with
  | error e => exact (hCX H e s' x).elim
  | ok fl =>
    cases fl with
    | next => exact False.elim x
    | brk => exact False.elim x
    | cont => exact False.elim x
    | ret u =>
      obtain ⟨v, H', os, bare, un, hok', r', q⟩ := x
      have kept : ∀ b o, b ≠ Pt → s1.heap.get? b = some o → s'.heap.get? b = some o := fun b o hb e => by
        cases q2 : H b with
        | none => exact un.keep b o e q2 (by intro z; exact absurd (show b ∈ ([] : List Addr) from z) (by simp)) (by simp)
        | some u2 =>
          rw [hne b hb] at q2
          rcases hO b with z | ⟨ob, u3, z⟩
          · rw [q2] at z; cases z
          · have z1 : H b = some (.frz ob u3) := by rw [hne b hb]; exact z
            have z2 := un.frzs b ob _ z1
            obtain ⟨g1, _⟩ := hok b _ z1
            obtain ⟨g2, _⟩ := hok' b _ z2
            rw [e] at g1
            cases g1
            exact g2
      obtain ⟨more, hm⟩ := un.tbls Pt #[] hP
      have hgrown : s'.heap.get? Pt = some (PySem.W.tabObj (#[] ++ more)) := hok' Pt _ hm
      have KX' : K.In s'.heap := fun b o e => kept b o (fun z => by rw [z, nT] at e; cases e) (KX b o e)
      obtain ⟨as, hrd⟩ := Dw.reads (R := R) (cl := cl) hok' KX' d0 v u q r'
      refine ⟨u, as, rfl, hrd, ⟨fun b o e => ?_, fun b o e => ?_⟩, os, bare⟩
      · by_cases hb : b = Pt
        · subst hb
          rw [hT] at e
          cases e
          exact .inr (.inl ⟨(hC.tab hT).isCodeTable, rfl, #[], more, rfl, hgrown⟩)
        · exact .inl (kept b o hb e)
      · by_cases hb : b = Pt
        · subst hb; exact ⟨_, hgrown⟩
        · exact ⟨o, kept b o hb e⟩
theorem walk_specT {r : OpenSpec} {k : Nat} {q : Program} {loose : List Str} {XP : (Str → Option Value) → Heap → Prop} {YP : World → Heap → Prop} {d : DefRec} {K : Params → PySem.W.Frag} {CX : CXT} {ps : List Str} {sp : Addr → PySem.W.Frag → Sp}
    (hwell : r.wellSaid = true) (hdf : d.params.defaults = []) (hlen : r.args.length = ps.length) (hr : Room k callerA) (hY : ∀ (w : World) (h : Heap), YP w h → (K w.params).In h)
    (F : ∀ (w : World) (mg mb : Str → Option Value) (mean : ExcName → Option Value) (fa : Addr) (h : Heap), YP w h → Top q (PySem.W.looseW q loose) mean mg mb h → (K w.params).In h → mg d.name = some (.ref fa) →
      ∃ (fd : FuncData) (c Pt : Addr), PySem.W.CodeHd h c Pt ∧ h.get? Pt = some (PySem.W.tabObj #[]) ∧ (K w.params).lookup Pt = none ∧ (∀ (s : Shared) (us : List Value), us.length = ps.length → BindsTo s fd ⟨us, []⟩ (ps.zip us)) ∧
        ∀ base : Heap, (K w.params).In base → base.Ns mainGlobals mg → TabB base mg c Pt → FnOk r.prog w (K w.params) mg base CX k fa fd ps (sp Pt (K w.params)))
    (hsp : ∀ (Pt : Addr) (K : PySem.W.Frag) (H : Hp) (xs : List V) (a : Codec.denoteAll r.args), H Pt = some (.tbl #[]) → Codec.withinAll r.args a = true → Codec.app r.args r.asked a = true → DwAll K H xs (Codec.encAll r.args a) →
      sp Pt K xs H (fun v H' => Dw K H' v (r.ret.enc (Codec.app r.args r.f a))) fun _ _ _ => False)
    (hCX : ∀ (H : Hp) (s : Shared) (e : Value) (s' : Shared), CX [] H s (fun _ _ _ => False) e s' → False) :
    PySem.W.WalkOS q loose XP YP r d [] (fun f vs => PySem.call f vs) := by
  intro w t0 t1 mg mb G Y fa o pm cd doc dV kV ho hd hcd hD hmg hg args vals as hpre hlay hrd hwl hlo
  obtain ⟨a, e1, e2⟩ := PySem.W.os_pre_some hpre
  obtain ⟨e3, hwi⟩ := Codec.encAll_of_decAll r.args args a e1
  subst e3
  have KX := hY w _ Y
  obtain ⟨fd, c, Pt, hC, hT, nT, hb, hF⟩ := F w mg mb _ fa _ Y G.T KX hmg
  refine PySem.W.enter_call (codeAny_mono (callT (R := []) (cl := classAt t0.heap) (d0 := r.ret.enc (Codec.app r.args r.f a)) KX G.T.g G.T.b G.T.builtins G.T.nolimit hg hT nT hC G.T.bmain hwl (pl_encAll _ _) (layable_weight hlay) hr hF hb (by rw [encAll_len]; exact hlen)
    (fun H xs hP hS => hsp Pt _ H xs a hP hwi e2 hS) fun H e s' => hCX H t1 e s') fun r' s' hq => ?_)
  obtain ⟨u, as', rfl, h1, h2, h3, h4⟩ := hq
  exact ⟨.inl ⟨u, _, as', rfl, fun _ => rfl, h1, (OpenSpec.post_iff hwell hwi _ _).mpr rfl, fun z => Bool.noConfusion (show false = true from z)⟩, h2, h3, h4⟩
end ScL
/-! set(xs) of a list of whole numbers. -/
namespace ScL
open PySem PySem.Spec PyProof.Rows L2
abbrev set0 (w : World) : Obj := { cls := .type "set", dict := none, data := .set #[] 0 (.fresh 0 0 (!w.params.followText "set-order")) }
section
variable {P : Program} {w : World} {A : Around} {E : Value → Shared → Prop} {s : Shared}
theorem set_of_list {l : Addr} {items : Array Value} (ns : List Int) {Q : Value → Shared → Prop} (hh : A.handled = none) (hl : s.heap.IsList l items) (hit : IntsAre items.toList ns) (hb : ns.length + 1 < scanBound)
    (h : ∀ (h' : Heap) (tk c : Nat), SetR w h' s.heap.objs.size (fun j => decide (j ∈ ns)) c → c ≤ ns.length → (∀ b o, s.heap.get? b = some o → h'.get? b = some o) → Q (.ref s.heap.objs.size) { s with heap := h', toks := tk }) :
    wpAny (model P w) A (call (.type "set") [.ref l]) Q E s := by
  have hisz : items.size = ns.length := (Array.length_toList (xs := items)) ▸ IntsAre.length hit
  obtain ⟨cc, tl, hmro⟩ := F.called_set.mro
  have hmade := F.called_set.made
  have hsub := F.called_set.sub
  refine wpAny_call (codeAny_of_tree ?_)
  show wpAny _ _ (callAny (.type "set") _) _ _ _
  refine wpAny_pure ⟨Code.quiet_builtin _ (by decide +kernel), codeAny_builtin F.entry_type_call ?_⟩
  rw [Around.under_plain (weight_type_call_type "set" [.ref l] []) rfl]
  have k1 := F.called_set.notType
  have k2 := F.called_set.canCreate
  have k3 := F.typeCall_set_1 (.ref l)
  repeat (any_goals (first | assumption | wp_step))
  refine codeAny_mono (code_set_led1 (.ref l) (E := E) (Q₁ := fun obj t1 => obj = .ref s.heap.objs.size ∧ t1 = { s with heap := s.heap.push (set0 w) }) ⟨rfl, rfl⟩) fun r t1 hr => ?_
  cases r with
  | error e => exact hr
  | ok fl =>
    cases fl with
    | ret obj =>
      obtain ⟨rfl, rfl⟩ := hr
      have hS : (s.heap.push (set0 w)).get? s.heap.objs.size = some (set0 w) := Heap.get?_push_size _ rfl
      have hT : Shared.TypeIs { s with heap := s.heap.push (set0 w) } (.ref s.heap.objs.size) "set" := ⟨_, hS, rfl⟩
      have k4 := F.called_set.init.lookup
      have k5 := F.called_set.init.bind (.ref s.heap.objs.size)
      repeat (any_goals (first | assumption | wp_step))
      refine codeAny_mono (codeAny_call_builtin (R := wants (fun r t2 => r = .none ∧ ∃ h' tk c, t2 = { s with heap := h', toks := tk } ∧ SetR w h' s.heap.objs.size (fun j => decide (j ∈ ns)) c ∧ c ≤ ns.length ∧
          (∀ b o, s.heap.get? b = some o → h'.get? b = some o)) E) F.called_set.init.plain F.entry_set_init (check_set_init_1 hT ?_)) fun r2 t2 hr2 => ?_
      · obtain ⟨ol, hol, hcl, nl, hdl⟩ := hl
        obtain ⟨ocls, odict, odata, oslots⟩ := ol
        simp only at hcl hdl
        subst hcl; subst hdl
        have hol2 : (s.heap.push (set0 w)).get? l = some { cls := .type "list", dict := odict, data := .seq items nl, slots := oslots } := Heap.get?_push_of_some _ hol
        have hsls := F.sub_list_set
        have hslf := F.sub_list_frozenset
        have hne : (Value.type "list" == Value.type "dict") = false := by decide
        have hl1 : (s.heap.push (set0 w)).IsList l items := ⟨_, hol2, rfl, nl, rfl⟩
        unfold Builtin.«set.__init__» noKeywords Builtin.Frozenset.updateFrom
        generalize hPI : pyIter = PI
        wp_walk
        subst hPI
        refine wpAny_pyIter_list hl1 ?_
        refine wpAny_bind (wpAny_runValue ?_)
        have hlS : l < s.heap.objs.size := Heap.lt_size hol
        have hh3 : A.in1.in1.in1.handled = none := by simp [hh]
        have hneI : l ≠ (s.heap.push (set0 w)).objs.size := by rw [Heap.size_push]; exact Nat.ne_of_lt (Nat.lt_succ_of_lt hlS)
        have hSf : s.heap.objs.size ∉ [(s.heap.push (set0 w)).objs.size, l] := by
          rw [Heap.size_push]
          simp only [List.mem_cons, List.mem_singleton, List.not_mem_nil, or_false, not_or]
          exact ⟨Nat.ne_of_lt (Nat.lt_succ_self _), Nat.ne_of_gt hlS⟩
        have hval : ∀ (i : Nat) (v : Value), items[i]? = some v → ∃ k t, ns[i]? = some k ∧ v = .int k t := fun i v hv => by
          have hi : i < ns.length := by rw [← hisz]; exact (Array.getElem?_eq_some_iff.mp hv).1
          obtain ⟨t, e⟩ := PyProof.Rows.IntsAre.int_at hit i v (by rw [Array.getElem?_toList]; exact hv)
          refine ⟨ns[i], t, List.getElem?_eq_getElem hi, ?_⟩
          rw [e, List.getD_eq_getElem?_getD, List.getElem?_eq_getElem hi] <;> rfl
        refine set_update_ints ((Walks.list hh3 _ l hneI items).toS) s.heap.objs.size hSf ns hisz hb hval (items.size - 0) 0 _ (by omega) (Nat.zero_le _) ⟨⟨_, Heap.get?_push_size _ rfl, rfl, rfl⟩, (hl1.push _)⟩ ?hS0 ?hR
        case hS0 =>
          have hget : ((s.heap.push (set0 w)).push { cls := .type "list_iterator", data := .fields #[.ref l, .int 0 0] }).get? s.heap.objs.size = some (set0 w) := Heap.get?_push_of_some _ hS
          exact ⟨0, Nat.le_refl 0, setR_new_at hget⟩
        case hR =>
          intro t c2 hm hc2 hS2
          obtain ⟨h2, g2, d2, tk2, os2⟩ := t
          have eg : g2 = s.gens := hm.gens
          have ed : d2 = s.drawn := hm.drawn
          have eo : os2 = s.os := hm.os
          subst eg; subst ed; subst eo
          show wpAny _ _ _ _ _ _
          refine wpAny_pure ?_
          show wpAny _ _ (ret Value.none) _ _ _
          rw [hisz] at hc2
          refine wpAny_pure ⟨rfl, h2, tk2, c2, rfl, hS2, hc2, fun b o e => ?_⟩
          have hb0 : b < s.heap.objs.size := Heap.lt_size e
          have hb2 : b ≠ (s.heap.push (set0 w)).objs.size := by rw [Heap.size_push]; exact Nat.ne_of_lt (Nat.lt_succ_of_lt hb0)
          exact hm.heap b o (by simp only [List.mem_cons, List.mem_singleton, List.not_mem_nil, or_false, not_or]; exact ⟨Nat.ne_of_lt hb0, hb2⟩) (Heap.get?_push_of_some _ (Heap.get?_push_of_some _ e))
      · cases r2 with
        | error e => exact hr2
        | ok f2 =>
          cases f2 with
          | ret r =>
            obtain ⟨rfl, h2, tk2, c2, rfl, hS2, hc2, hk2⟩ := hr2
            repeat (any_goals (first | assumption | wp_step))
            exact h _ _ _ hS2 hc2 hk2
          | _ => exact hr2.elim
    | _ => exact hr.elim
end
section
variable {X : Cx}
def rSetL (K : PySem.W.Frag) (w : World) : List V → Hp → VK → Prop := fun xs H Q => ∃ (l : Addr) (ns : List Int), xs = [V.ref l] ∧ SqL K H l (ns.map V.int) ∧ ns.length ≤ 1000 ∧ ∀ p c, H p = none → c ≤ ns.length → Q (.ref p) (upd H p (SetO w p (fun j => decide (j ∈ ns)) c))
theorem cr_setL (hc : X.calm = true) : CallR X (.type "set") (rSetL X.K X.w) := by
  intro pins s σ H xs us Q I r h
  obtain ⟨l, ns, rfl, hq, hl, q⟩ := h
  cases r with
  | cons r1 rr =>
    cases rr
    cases r1
    obtain ⟨its, rv, pl, hz⟩ := I.list hq
    refine set_of_list ns (I.ok.hd hc) pl.isList (by simpa using rv.ints) (by unfold scanBound; omega) fun h' tk c R1 hcn k => ?_
    exact ⟨.ref _, upd H s.heap.objs.size (SetO X.w s.heap.objs.size (fun j => decide (j ∈ ns)) c), I.laid (t' := tk) k (Nat.le_refl _) (setO_new R1), rfl, q _ c (I.hok.fresh (Nat.le_refl _)) hcn⟩
end
end ScL
namespace ScA
open PySem PySem.Spec PyProof.Rows L2
open Sc
def top (i : Nat) : Stmt := PySem.Challenge.pw_stripcut_s01_slices.main.body.getD i (.Pass ⟨0, 0, 0, 0⟩)
abbrev s_common_measure : Stmt := top 3
abbrev s_ratio : Stmt := top 4
abbrev s_plus : Stmt := top 5
abbrev s_point_numbers : Stmt := top 7
abbrev s_read_figure : Stmt := top 12
abbrev s_read_corners : Stmt := top 13
abbrev s_sides_of : Stmt := top 14
abbrev s_turn : Stmt := top 15
abbrev s_has_straight_corner : Stmt := top 16
abbrev s_is_tangled : Stmt := top 17
abbrev s_sides_meet : Stmt := top 18
abbrev s_reaches_line : Stmt := top 19
abbrev s_spans_meet : Stmt := top 20
abbrev s_double_size : Stmt := top 21
abbrev s_Slice : Stmt := inClass (top 23) 0
abbrev s_slice_numbers : Stmt := top 24
abbrev s_slices_of : Stmt := top 25
abbrev s_slices_between : Stmt := top 26
abbrev s_reaches_through : Stmt := top 27
abbrev s_right_at : Stmt := top 28
abbrev s_from_left_on : Stmt := top 29
abbrev s_top_over : Stmt := top 30
abbrev s_bounded_slice : Stmt := top 31
abbrev s_slices : Stmt := top 33
end ScA
namespace ScA
open PySem PySem.Spec PyProof.Rows L2
open Sc
abbrev Fr := Kzq1.Q
abbrev Pt := Kzq1.P
theorem ifT {c : Bool} {A B : Prop} (hc : c = true) (h : A) : if c = true then A else B := by rw [if_pos hc]; exact h
theorem ifF {c : Bool} {A B : Prop} (hc : c = false) (h : B) : if c = true then A else B := by rw [hc, if_neg Bool.false_ne_true]; exact h
/-! how fractions and points lie in the heap -/
def FrAt (H : Hp) (a : Addr) (q : Fr) : Prop := H a = some (.tup [.int q.n, .int (q.d : Int)])
def PtAt (H : Hp) (a : Addr) (p : Pt) : Prop := ∃ x y, H a = some (.tup [.ref x, .ref y]) ∧ FrAt H x p.x ∧ FrAt H y p.y
theorem FrAt.mono {H H' : Hp} {a : Addr} {q : Fr} (h : FrAt H a q) (s : Same H H') : FrAt H' a q := s _ _ h
theorem PtAt.mono {H H' : Hp} {a : Addr} {p : Pt} (h : PtAt H a p) (s : Same H H') : PtAt H' a p :=
  let ⟨x, y, h1, h2, h3⟩ := h
  ⟨x, y, s _ _ h1, h2.mono s, h3.mono s⟩
theorem Same.new {H : Hp} {p : Addr} {o : HO} (h : H p = none) : Same H (upd H p o) := fun b o' e => by rw [upd_ne (ne_of_none e h)]; exact e
/-- no division of a number below 2 ^ 13500 goes by _pylong -/
theorem noPy {x y : Int} (h : x.natAbs < 2 ^ 13500) : Builtin.divisionGoesByPylong x y = false := by
  have key : ¬ ((if y == 0 then 0 else y.natAbs.log2 / 30 + 1) > 300 ∧ (if x == 0 then 0 else x.natAbs.log2 / 30 + 1) > (if y == 0 then 0 else y.natAbs.log2 / 30 + 1) + 150) := by
    rintro ⟨h1, h2⟩
    by_cases hx : (x == 0) = true
    · rw [if_pos hx] at h2; omega
    · rw [if_neg hx] at h2
      have n0 : x.natAbs ≠ 0 := by simpa using hx
      have := (Nat.log2_lt n0).mpr h
      omega
  show (decide ((if y == 0 then 0 else y.natAbs.log2 / 30 + 1) > 300) && decide ((if x == 0 then 0 else x.natAbs.log2 / 30 + 1) > (if y == 0 then 0 else y.natAbs.log2 / 30 + 1) + 150)) = false
  rw [← Bool.decide_and]
  exact decide_eq_false key
section
variable {X : Cx}
theorem op_fdivZ : OpR X (binaryOp .FloorDiv) (rI (fun i j => j ≠ 0 ∧ i.natAbs < 2 ^ 13500) fun i j => .int (i.fdiv j)) :=
  opI fun _ j _ _ _ _ _ hc q => floordiv_int hc.1 q (.inl (noPy hc.2))
theorem op_fdivY : OpR X (binaryOp .FloorDiv) (rI (fun _ j => j ≠ 0 ∧ j.natAbs < 2 ^ 9000) fun i j => .int (i.fdiv j)) :=
  opI fun _ j _ _ _ _ _ hc q => floordiv_int hc.1 q (.inl (PyProof.noPylong_of_log2 (PySem.Flt.log2_lt_of (by decide) hc.2)))
end
theorem wmul {i j : Int} {a b : Nat} (ha : i.natAbs < 2 ^ a) (hb : j.natAbs < 2 ^ b) (hk : a + b ≤ 100000) : CMulW i j := by
  have p : 2 ^ a ≤ 2 ^ (a + 1) := Nat.pow_le_pow_right (by omega) (by omega)
  have q : 2 ^ b ≤ 2 ^ (b + 1) := Nat.pow_le_pow_right (by omega) (by omega)
  exact wide_mul (a := a + 1) (b := b + 1) (Nat.lt_of_lt_of_le ha p) (Nat.lt_of_lt_of_le hb q) (by omega) (by omega) (by omega)
theorem szl : sizeLine = 16777216 := by decide
theorem take_more {α : Type} {l : List α} {i : Nat} {x : α} (h : l[i]? = some x) : l.take (i + 1) = l.take i ++ [x] := by
  rw [List.take_succ, h]; rfl
end ScA
namespace ScA
open PySem PySem.Spec PyProof.Rows L2
open Sc
section
variable {Pg : Program} {w : World} {K : PySem.W.Frag} {mg : Str → Option Value} {base : Heap} {CF CP CS fP fS : Addr}
/-! common_measure -/
def spCm : Sp := fun vs H Q _ => ∃ a b : Int, vs = [.int a, .int b] ∧ Q (.int (gcdI a b)) H
theorem scCm : FnScope ["a", "b", "larger", "smaller", "rest"] ["a", "b"] (defScope s_common_measure) := ⟨rfl, rfl, rfl, by decide +kernel, rfl, by decide +kernel, by decide +kernel⟩
theorem ok_cm {f : Addr} {fd : FuncData} (F : Fun K "common_measure" "common_measure" s_common_measure f fd) (mAbs : mg "abs" = none) : FnOk Pg w K mg base CX0 1 f fd ["a", "b"] spCm := by
  refine F.ok scCm (fun vs H Q E h => ?_) (fun cdv A outer s H vs Q E hr h => ⟨_, pss_cons (ps_set (i := 2) scCm.nd rfl (Or.inl rfl) (pe_callB call_abs (by rfl) mAbs (by decide +kernel) (pa_cons (pv 0) pa_nil)))
    (pss_cons (ps_set (i := 3) scCm.nd rfl (Or.inl rfl) (pe_callB call_abs (by rfl) mAbs (by decide +kernel) (pa_cons (pv 1) pa_nil)))
    (pss_cons (ps_while PassesOwn.never (pt_cmpR op_ne (pv 3) pe_int (nomark _)) (pss_cons (ps_set (i := 4) scCm.nd rfl (Or.inl rfl) (pe_op op_mod (pv 2) (pv 3))) (pss_cons (ps_set (i := 2) scCm.nd rfl (Or.inl rfl) (pv 3)) (pss_one (ps_set (i := 3) scCm.nd rfl (Or.inl rfl) (pv 4))))))
    (pss_one (ps_ret (pv 2))))), ?_⟩)
  · obtain ⟨a, b, rfl, _⟩ := h
    rfl
  · obtain ⟨a, b, rfl, k⟩ := h
    refine ⟨_, rfl, _, rfl, ?_⟩
    refine ⟨_, rfl, _, rfl, ?_⟩
    refine while_by (fun σ H' => H' = H ∧ ∃ (x y : Int) (r : Option V), σ = [some (.int a), some (.int b), some (.int x), some (.int y), r] ∧ 0 ≤ x ∧ 0 ≤ y ∧ gcdI x y = gcdI a b)
      (fun σ _ => match σ with
        | [_, _, _, some (.int y), _] => y.natAbs
        | _ => 0) ⟨rfl, _, _, none, rfl, by split <;> omega, by split <;> omega, ?_⟩ ?_ ?_
    · unfold gcdI
      congr 2 <;> (split <;> omega)
    · rintro σ H' ⟨rfl, x, y, r, rfl, hx, hy, hg⟩
      refine ⟨_, rfl, rfl, _, rfl, ?_⟩
      by_cases c : y = 0
      · subst c
        refine ifF rfl ?_
        refine ⟨_, rfl, ?_⟩
        have e : gcdI x 0 = x := by unfold gcdI; rw [Int.natAbs_zero, Nat.gcd_zero_right]; omega
        rw [e] at hg
        rw [hg]; exact k
      · have cy : 0 < y := by omega
        refine ifT (by simp [c]) ?_
        refine ⟨_, rfl, _, rfl, _, _, rfl, rfl, cy, _, rfl, _, rfl, ⟨rfl, y, x % y, _, rfl, hy, Int.emod_nonneg _ c, ?_⟩, ?_⟩
        · rw [← hg]
          unfold gcdI
          have e : (x % y).natAbs = x.natAbs % y.natAbs := by
            rw [Int.natAbs_emod_of_nonneg hx]
          rw [e, Nat.gcd_comm x.natAbs, Nat.gcd_rec y.natAbs x.natAbs, Nat.gcd_comm]
        · show (x % y).natAbs < y.natAbs
          have h1 := Int.emod_nonneg x c
          have h2 := Int.emod_lt_of_pos x cy
          omega
    · rintro σ H' Q1 Q2 hQ ⟨v, hv, hs, b, e, q⟩
      exact ⟨v, hv, hs, b, e, hQ _ _ q⟩
end
end ScA
namespace ScA
open PySem PySem.Spec PyProof.Rows L2
open Sc
section
variable {Pg : Program} {w : World} {K : PySem.W.Frag} {mg : Str → Option Value} {base : Heap} {CF CP CS fP fS : Addr}
/-! ratio -/
def spRat : Sp := fun vs H Q _ => ∃ t b : Int, vs = [.int t, .int b] ∧ b ≠ 0 ∧ t.natAbs < 2 ^ 13500 ∧ b.natAbs < 2 ^ 13500 ∧ ∀ H' p, Same H H' → H p = none → FrAt H' p (mkI t b) → Q (.ref p) H'
theorem scRat : FnScope ["top", "bottom", "measure"] ["top", "bottom"] (defScope s_ratio) := ⟨rfl, rfl, rfl, by decide +kernel, rfl, by decide +kernel, by decide +kernel⟩
theorem ok_rat {f fC : Addr} {fd fdC : FuncData} (F : Fun K "ratio" "ratio" s_ratio f fd) (GC : FnOk Pg w K mg base CX0 1 fC fdC ["a", "b"] spCm) (mC : mg "common_measure" = some (.ref fC)) (kC : PySem.W.keepIn K (.ref fC) = true) (bC : Binds K fdC ["a", "b"] []) :
    FnOk Pg w K mg base CX0 2 f fd ["top", "bottom"] spRat := by
  refine F.ok scRat (fun vs H Q E h => ?_) (fun cdv A outer s H vs Q E hr h => ⟨_, pss_cons (ps_set (i := 2) scRat.nd rfl (Or.inl rfl) (pe_call GC hr rfl mC kC bC .nil pass0 (pa_cons (pv 0) (pa_cons (pv 1) pa_nil))))
    (pss_cons (ps_if (pt_cmpR op_lt (pv 1) pe_int (nomark _)) (pss_one (ps_set (i := 2) scRat.nd rfl (Or.inl rfl) (pe_un un_neg (pv 2)))) pss_nil)
    (pss_one (ps_ret (pe_tup (pa_cons (pe_op op_fdivZ (pv 0) (pv 2)) (pa_cons (pe_op op_fdivZ (pv 1) (pv 2)) pa_nil)))))), ?_⟩)
  · obtain ⟨a, b, rfl, _⟩ := h
    rfl
  · obtain ⟨t, b, rfl, h0, ht, hb, k⟩ := h
    have hg := gcdI_pos (t := t) h0
    have hl := gcdI_le (t := t) h0
    have fin : ∀ m : Int, m = (if b < 0 then -gcdI t b else gcdI t b) → ∀ p, H p = none → Q (.ref p) (upd H p (.tup [.int (t.fdiv m), .int (b.fdiv m)])) := fun m e p np => by
      subst e
      refine k _ p (Same.new np) np ?_
      unfold FrAt
      rw [upd_same, mkI_up h0, mkI_low h0]
    refine ⟨_, rfl, _, rfl, _, _, rfl, ?_⟩
    refine ⟨_, rfl, _, _, rfl, rfl, _, rfl, ?_⟩
    by_cases c : b < 0
    · refine ifT (decide_eq_true c) ?_
      refine ⟨_, rfl, _, rfl, ?_⟩
      refine ⟨_, rfl, _, rfl, _, _, rfl, rfl, ⟨by omega, ht⟩, _, rfl, _, rfl, _, _, rfl, rfl, ⟨by omega, hb⟩, (by show 2 ≤ sizeLine; decide), fin _ (by rw [if_pos c])⟩
    · refine ifF (decide_eq_false c) ?_
      refine ⟨_, rfl, _, rfl, _, _, rfl, rfl, ⟨by omega, ht⟩, _, rfl, _, rfl, _, _, rfl, rfl, ⟨by omega, hb⟩, (by show 2 ≤ sizeLine; decide), fin _ (by rw [if_neg c])⟩
end
end ScA
namespace ScA
open PySem PySem.Spec PyProof.Rows L2
open Sc
section
variable {Pg : Program} {w : World} {K : PySem.W.Frag} {mg : Str → Option Value} {base : Heap} {CF CP CS fP fS : Addr}
def spPlus : Sp := fun vs H Q _ => ∃ (x y : Addr) (a b : Fr) (j k : Nat), vs = [.ref x, .ref y] ∧ FrAt H x a ∧ FrAt H y b ∧ Ok a ∧ Ok b ∧ Sz j a ∧ Sz k b ∧ j + k + 1 ≤ 13500 ∧ ∀ H' p, Same H H' → H p = none → FrAt H' p (Kzq1.add a b) → Q (.ref p) H'
theorem scPlus : FnScope ["a", "b"] ["a", "b"] (defScope s_plus) := ⟨rfl, rfl, rfl, by decide +kernel, rfl, by decide +kernel, by decide +kernel⟩
theorem ok_plus {f fR : Addr} {fd fdR : FuncData} (F : Fun K "plus" "plus" s_plus f fd) (GR : FnOk Pg w K mg base CX0 2 fR fdR ["top", "bottom"] spRat) (mR : mg "ratio" = some (.ref fR)) (kR : PySem.W.keepIn K (.ref fR) = true) (bR : Binds K fdR ["top", "bottom"] []) :
    FnOk Pg w K mg base CX0 3 f fd ["a", "b"] spPlus := by
  refine F.ok scPlus (fun vs H Q E h => ?_) (fun cdv A outer s H vs Q E hr h => ⟨_, pss_one (ps_ret (pe_call GR hr rfl mR kR bR .nil pass0
    (pa_cons (pe_op op_add (pe_op op_mulW (pe_ix ix_tup (pv 0) pe_int (fun _ _ => rfl)) (pe_ix ix_tup (pv 1) pe_int (fun _ _ => rfl))) (pe_op op_mulW (pe_ix ix_tup (pv 1) pe_int (fun _ _ => rfl)) (pe_ix ix_tup (pv 0) pe_int (fun _ _ => rfl)))) (pa_cons (pe_op op_mulW (pe_ix ix_tup (pv 0) pe_int (fun _ _ => rfl)) (pe_ix ix_tup (pv 1) pe_int (fun _ _ => rfl))) pa_nil)))), ?_⟩)
  · obtain ⟨x, y, a, b, j, k, rfl, _⟩ := h
    rfl
  · obtain ⟨x, y, a, b, j, k, rfl, hx, hy, oa, ob, sa, sb, hk, q⟩ := h
    have da : ((a.d : Int)).natAbs < 2 ^ j := by simpa using sa.2
    have db : ((b.d : Int)).natAbs < 2 ^ k := by simpa using sb.2
    have hp : 0 < a.d * b.d := Nat.mul_pos oa.1 ob.1
    have hp2 : ((a.d : Int) * (b.d : Int)) = ((a.d * b.d : Nat) : Int) := by simp
    have up : ∀ {z : Int} {m : Nat}, z.natAbs < 2 ^ m → m ≤ 13500 → z.natAbs < 2 ^ 13500 := fun h1 h2 => Nat.lt_of_lt_of_le h1 (Nat.pow_le_pow_right (by omega) h2)
    refine ⟨_, rfl, x, _, 0, _, rfl, rfl, SqT.of hx, rfl, _, rfl, y, _, 1, _, rfl, rfl, SqT.of hy, rfl, _, _, rfl, rfl, wmul sa.1 db (by omega), ?_⟩
    refine ⟨_, rfl, y, _, 0, _, rfl, rfl, SqT.of hy, rfl, _, rfl, x, _, 1, _, rfl, rfl, SqT.of hx, rfl, _, _, rfl, rfl, wmul sb.1 da (by omega), ?_⟩
    refine ⟨_, _, rfl, rfl, ?_⟩
    refine ⟨_, rfl, x, _, 1, _, rfl, rfl, SqT.of hx, rfl, _, rfl, y, _, 1, _, rfl, rfl, SqT.of hy, rfl, _, _, rfl, rfl, wmul da db (by omega), ?_⟩
    refine ⟨_, _, rfl, by rw [hp2]; omega, up (cross_lt sa.1 db sb.1 da) (by omega), up (mul_lt da db) (by omega), fun H' p s' np fr => q H' p s' np ?_⟩
    rw [hp2, mkI_nat hp] at fr
    exact fr
end
end ScA
namespace ScA
open PySem PySem.Spec PyProof.Rows L2
open Sc
section
variable {Pg : Program} {w : World} {K : PySem.W.Frag} {mg : Str → Option Value} {base : Heap} {CF CP CS fP fS : Addr}
/-! point_numbers -/
def ptN (p : Pt) : List Int := [p.x.n, (p.x.d : Int), p.y.n, (p.y.d : Int)]
def spPn : Sp := fun vs H Q _ => ∃ (x : Addr) (p : Pt), vs = [.ref x] ∧ PtAt H x p ∧ ∀ q, H q = none → Q (.ref q) (upd H q (.lst ((ptN p).map V.int)))
theorem scPn : FnScope ["point"] ["point"] (defScope s_point_numbers) := ⟨rfl, rfl, rfl, by decide +kernel, rfl, by decide +kernel, by decide +kernel⟩
theorem ok_pn {f : Addr} {fd : FuncData} (F : Fun K "point_numbers" "point_numbers" s_point_numbers f fd) : FnOk Pg w K mg base CX0 1 f fd ["point"] spPn := by
  refine F.ok scPn (fun vs H Q E h => ?_) (fun cdv A outer s H vs Q E hr h => ⟨_, pss_one (ps_ret (pe_lst
    (pa_cons (pe_ix ix_tup (pe_ix ix_tup (pv 0) pe_int (fun _ _ => rfl)) pe_int (fun _ _ => rfl)) (pa_cons (pe_ix ix_tup (pe_ix ix_tup (pv 0) pe_int (fun _ _ => rfl)) pe_int (fun _ _ => rfl))
    (pa_cons (pe_ix ix_tup (pe_ix ix_tup (pv 0) pe_int (fun _ _ => rfl)) pe_int (fun _ _ => rfl)) (pa_cons (pe_ix ix_tup (pe_ix ix_tup (pv 0) pe_int (fun _ _ => rfl)) pe_int (fun _ _ => rfl)) pa_nil)))))), ?_⟩)
  · obtain ⟨x, p, rfl, _⟩ := h
    rfl
  · obtain ⟨x, p, rfl, ⟨u, v, hx, hu, hv⟩, k⟩ := h
    refine ⟨_, rfl, x, _, 0, _, rfl, rfl, SqT.of hx, rfl, u, _, 0, _, rfl, rfl, SqT.of hu, rfl, ?_⟩
    refine ⟨_, rfl, x, _, 0, _, rfl, rfl, SqT.of hx, rfl, u, _, 1, _, rfl, rfl, SqT.of hu, rfl, ?_⟩
    refine ⟨_, rfl, x, _, 1, _, rfl, rfl, SqT.of hx, rfl, v, _, 0, _, rfl, rfl, SqT.of hv, rfl, ?_⟩
    refine ⟨_, rfl, x, _, 1, _, rfl, rfl, SqT.of hx, rfl, v, _, 1, _, rfl, rfl, SqT.of hv, rfl, ?_⟩
    exact ⟨(by show 4 ≤ sizeLine; decide), k⟩
end
end ScA
namespace ScA
open PySem PySem.Spec PyProof.Rows L2
open Sc
/-- what the top has written of NotAsTold -/
structure ErrTx (nm : Str) (K : PySem.W.Frag) (mg : Str → Option Value) (C : Addr) : Prop where
  g : mg nm = some (.ref C)
  x : PySem.W.excIn K C [.type "ValueError", .type "Exception", .type "BaseException", .type "object"] "ValueError.__new__" = true
  k : PySem.W.keepIn K (.ref C) = true
  b : PySem.W.subIn K (.ref C) (.type "BaseException") = some true
  t : PySem.W.typeIn K (.ref C) = some (.type "type")
  e : PySem.W.exmOne K (.ref C) (.ref C) = some true
abbrev ErrTxt (K : PySem.W.Frag) (mg : Str → Option Value) (C : Addr) : Prop := ErrTx "NotAsTold" K mg C
end ScA
namespace ScA
open PySem PySem.Spec PyProof.Rows L2
open Sc
/-- tuples stay -/
def Tu (H H' : Hp) : Prop := ∀ b xs, H b = some (.tup xs) → H' b = some (.tup xs)
theorem Tu.of {H H' : Hp} (s : Same H H') : Tu H H' := fun b xs e => s b _ e
theorem Tu.trans {H H1 H2 : Hp} (a : Tu H H1) (b : Tu H1 H2) : Tu H H2 := fun c xs e => b c xs (a c xs e)
theorem Tu.lst {H : Hp} {D : Addr} {l : List V} {o : HO} (h : H D = some (.lst l)) : Tu H (upd H D o) := fun b xs e => by
  rw [upd_ne (ne_of e h (by intro z; cases z))]; exact e
theorem PtAt.tu {H H' : Hp} {a : Addr} {p : Pt} (h : PtAt H a p) (s : Tu H H') : PtAt H' a p :=
  let ⟨x, y, h1, h2, h3⟩ := h
  ⟨x, y, s _ _ h1, s _ _ h2, s _ _ h3⟩
def PtsAt (H : Hp) : List Addr → List Pt → Prop
  | [], [] => True
  | a :: as, p :: ps => PtAt H a p ∧ PtsAt H as ps
  | _, _ => False
theorem PtsAt.tu {H H' : Hp} (s : Tu H H') : ∀ {as : List Addr} {ps : List Pt}, PtsAt H as ps → PtsAt H' as ps
  | [], [], h => h
  | _ :: _, _ :: _, h => ⟨h.1.tu s, PtsAt.tu s h.2⟩
  | [], _ :: _, h => h.elim
  | _ :: _, [], h => h.elim
theorem PtsAt.len {H : Hp} : ∀ {as : List Addr} {ps : List Pt}, PtsAt H as ps → as.length = ps.length
  | [], [], _ => rfl
  | _ :: _, _ :: _, h => congrArg (· + 1) (PtsAt.len h.2)
  | [], _ :: _, h => h.elim
  | _ :: _, [], h => h.elim
theorem PtsAt.snoc {H : Hp} {a : Addr} {p : Pt} (hp : PtAt H a p) : ∀ {as : List Addr} {ps : List Pt}, PtsAt H as ps → PtsAt H (as ++ [a]) (ps ++ [p])
  | [], [], _ => ⟨hp, trivial⟩
  | _ :: _, _ :: _, h => ⟨h.1, PtsAt.snoc hp h.2⟩
  | [], _ :: _, h => h.elim
  | _ :: _, [], h => h.elim
theorem PtsAt.get {H : Hp} : ∀ {as : List Addr} {ps : List Pt} {i : Nat} {p : Pt}, PtsAt H as ps → ps[i]? = some p → ∃ a, as[i]? = some a ∧ PtAt H a p
  | a :: _, p :: _, 0, q, h, e => by
    have e : p = q := Option.some.inj e
    subst e
    exact ⟨a, rfl, h.1⟩
  | _ :: _, _ :: _, i + 1, q, h, e => PtsAt.get (i := i) (p := q) h.2 e
  | [], [], _, _, _, e => by simp at e
  | [], _ :: _, _, _, h, _ => h.elim
  | _ :: _, [], _, _, h, _ => h.elim
theorem cut4 (ns : List Int) (i : Nat) (z z' : Int) (hz : z = ((4 * i : Nat) : Int)) (hz' : z' = ((4 * i + 4 : Nat) : Int)) (h : 4 * i + 4 ≤ ns.length) : cutV (ns.map V.int) (some z) (some z') = ((ns.drop (4 * i)).take 4).map V.int := by
  subst hz hz'
  unfold cutV
  rw [HT.sIx_nat, HT.sIx_nat, List.length_map, Nat.min_eq_left (by omega), Nat.min_eq_left (by omega), show 4 * i + 4 - 4 * i = 4 by omega, List.map_take, List.map_drop]
theorem rgc4 {n : Nat} (h : n ≤ 1000) : RgC 0 ((4 * n : Nat) : Int) 4 n := by
  refine ⟨by decide, by decide, ?_, ?_⟩
  · unfold Builtin.Range.small
    have e : Builtin.Range.rangeSize 0 ((4 * n : Nat) : Int) 4 = (n : Int) := by
      unfold Builtin.Range.rangeSize
      rw [if_pos (by decide)]
      by_cases c : n = 0
      · subst c; rfl
      · rw [if_pos (by omega)]; omega
    rw [e, if_pos (show (4 : Int) > 0 by decide)]
    have fit : ∀ z : Int, 0 ≤ z → z < 5000 → Builtin.Range.rangeFitsLong z = true := fun z h1 h2 => by
      unfold Builtin.Range.rangeFitsLong
      rw [Bool.and_eq_true]
      exact ⟨decide_eq_true (by omega), decide_eq_true (by omega)⟩
    rw [fit 0 (by omega) (by omega), fit ((4 * n : Nat) : Int) (by omega) (by omega), fit 4 (by omega) (by omega), fit (n : Int) (by omega) (by omega), fit (((4 * n : Nat) : Int) + (4 - 1)) (by omega) (by omega), Bool.or_true]
    rfl
  · unfold Builtin.Range.rangeSize
    rw [if_pos (by decide)]
    by_cases c : n = 0
    · subst c; rfl
    · rw [if_pos (by omega)]; omega
end ScA
namespace ScA
open PySem PySem.Spec PyProof.Rows L2
open Sc
theorem PtsAt.append {H : Hp} : ∀ {as bs : List Addr} {ps qs : List Pt}, PtsAt H as ps → PtsAt H bs qs → PtsAt H (as ++ bs) (ps ++ qs)
  | [], _, [], _, _, h => h
  | _ :: _, _, _ :: _, _, h, g => ⟨h.1, PtsAt.append h.2 g⟩
  | [], _, _ :: _, _, h, _ => h.elim
  | _ :: _, _, [], _, h, _ => h.elim
theorem PtsAt.drop {H : Hp} : ∀ {as : List Addr} {ps : List Pt} (i : Nat), PtsAt H as ps → PtsAt H (as.drop i) (ps.drop i)
  | _, _, 0, h => h
  | [], [], _ + 1, h => h
  | _ :: _, _ :: _, i + 1, h => PtsAt.drop i h.2
  | [], _ :: _, _, h => h.elim
  | _ :: _, [], _, h => h.elim
theorem PtsAt.take {H : Hp} : ∀ {as : List Addr} {ps : List Pt} (i : Nat), PtsAt H as ps → PtsAt H (as.take i) (ps.take i)
  | _, _, 0, _ => trivial
  | [], [], _ + 1, h => h
  | _ :: _, _ :: _, i + 1, h => ⟨h.1, PtsAt.take i h.2⟩
  | [], _ :: _, _, h => h.elim
  | _ :: _, [], _, h => h.elim
/-- what the top has written of a class with an __init__ -/
structure ClsTxt (K : PySem.W.Frag) (mg : Str → Option Value) (nm : Str) (C fI : Addr) (fs : List Str) : Prop where
  cl : Cls K C
  g : mg nm = some (.ref C)
  n : ∀ f ∈ fs, NoAttr K C f
  m : Mk K C fI
theorem lkH {k : Str} {v : V} {r : List (Str × V)} : List.lookup k ((k, v) :: r) = some v := by
  have e : (k == k) = true := beq_self_eq_true k
  simp only [List.lookup, e]
theorem lkP {k g : Str} {v : V} {r : List (Str × V)} (h : (k == g) = false) : List.lookup k ((g, v) :: r) = List.lookup k r := by
  simp only [List.lookup, h]
end ScA
namespace ScA
open PySem PySem.Spec PyProof.Rows L2
open Sc
section
variable {Pg : Program} {w : World} {K : PySem.W.Frag} {mg : Str → Option Value} {base : Heap} {CF CP CS fP fS : Addr}
/-! Slice -/
def slF (a b c d : V) : List (Str × V) := [("left_below", a), ("right_below", b), ("right_above", c), ("left_above", d)]
def spSlI (C : Addr) : Sp := fun vs H Q _ => ∃ (p dx : Addr) (a b c d : V), vs = [.ref p, a, b, c, d] ∧ H p = some (.ins C dx []) ∧ ∀ H' : Hp, H' p = some (.ins C dx (slF a b c d)) → (∀ q o, H q = some o → q ≠ p → H' q = some o) → Q .non H'
theorem scSlI : FnScope ["self", "left_below", "right_below", "right_above", "left_above"] ["self", "left_below", "right_below", "right_above", "left_above"] (defScope s_Slice) := ⟨rfl, rfl, rfl, by decide +kernel, rfl, by decide +kernel, by decide +kernel⟩
theorem ok_slI {f : Addr} {fd : FuncData} (F : Fun K "__init__" "Slice.__init__" s_Slice f fd) (T : ClsTxt K mg "Slice" CS fS ["left_below", "right_below", "right_above", "left_above"]) :
    FnOk Pg w K mg base CX0 1 f fd ["self", "left_below", "right_below", "right_above", "left_above"] (spSlI CS) := by
  refine F.ok scSlI (fun vs H Q E h => ?_) (fun cdv A outer s H vs Q E hr h => ⟨_, pss_cons (ps_fld (pv 0) (pv 1) rfl) (pss_cons (ps_fld (pv 0) (pv 2) rfl) (pss_cons (ps_fld (pv 0) (pv 3) rfl) (pss_one (ps_fld (pv 0) (pv 4) rfl)))), ?_⟩)
  · obtain ⟨p, dx, a, b, c, d, rfl, _⟩ := h
    rfl
  · obtain ⟨p, dx, a, b, c, d, rfl, hp, k⟩ := h
    refine ⟨_, rfl, _, rfl, p, CS, dx, [], rfl, hp, T.cl, T.n _ (by simp), (by show 0 < 1000; decide), ?_⟩
    refine ⟨_, rfl, _, rfl, p, CS, dx, _, rfl, upd_same, T.cl, T.n _ (by simp), (by show 1 < 1000; decide), ?_⟩
    refine ⟨_, rfl, _, rfl, p, CS, dx, _, rfl, upd_same, T.cl, T.n _ (by simp), (by show 2 < 1000; decide), ?_⟩
    refine ⟨_, rfl, _, rfl, p, CS, dx, _, rfl, upd_same, T.cl, T.n _ (by simp), (by show 3 < 1000; decide), ?_⟩
    refine k _ ?_ fun q o e hq => by rw [upd_ne hq, upd_ne hq, upd_ne hq, upd_ne hq]; exact e
    rw [upd_same]
    have e : putF "left_above" d (putF "right_above" c (putF "right_below" b (putF "left_below" a []))) = slF a b c d := by
      unfold slF
      have n1 : ¬ (("left_below" : Str) = "right_below") := by decide +kernel
      have n2 : ¬ (("left_below" : Str) = "right_above") := by decide +kernel
      have n3 : ¬ (("left_below" : Str) = "left_above") := by decide +kernel
      have n4 : ¬ (("right_below" : Str) = "right_above") := by decide +kernel
      have n5 : ¬ (("right_below" : Str) = "left_above") := by decide +kernel
      have n6 : ¬ (("right_above" : Str) = "left_above") := by decide +kernel
      simp only [putF, if_neg n1, if_neg n2, if_neg n3, if_neg n4, if_neg n5, if_neg n6]
    exact congrArg (fun z => some (HO.ins CS dx z)) e
end

abbrev slN : List Str := ["left_below", "right_below", "right_above", "left_above"]
def SliceAt (C : Addr) (H : Hp) (t : Addr) (a b c e : Pt) : Prop := ∃ dx xa xb xc xe, H t = some (.ins C dx (slF (.ref xa) (.ref xb) (.ref xc) (.ref xe))) ∧ PtAt H xa a ∧ PtAt H xb b ∧ PtAt H xc c ∧ PtAt H xe e
theorem sl_lb {a b c d : V} : (slF a b c d).lookup ("left_below" : Str) = some a := lkH
theorem sl_rb {a b c d : V} : (slF a b c d).lookup ("right_below" : Str) = some b := (lkP (by decide +kernel)).trans lkH
theorem sl_ra {a b c d : V} : (slF a b c d).lookup ("right_above" : Str) = some c := (lkP (by decide +kernel)).trans ((lkP (by decide +kernel)).trans lkH)
theorem sl_la {a b c d : V} : (slF a b c d).lookup ("left_above" : Str) = some d := (lkP (by decide +kernel)).trans ((lkP (by decide +kernel)).trans ((lkP (by decide +kernel)).trans lkH))
theorem SliceAt.mono {C : Addr} {H H' : Hp} {t : Addr} {a b c e : Pt} (h : SliceAt C H t a b c e) (s : Same H H') : SliceAt C H' t a b c e :=
  let ⟨dx, xa, xb, xc, xe, h1, h2, h3, h4, h5⟩ := h
  ⟨dx, xa, xb, xc, xe, s _ _ h1, h2.mono s, h3.mono s, h4.mono s, h5.mono s⟩
end ScA
namespace ScA
open PySem PySem.Spec PyProof.Rows L2
open Sc
/-! lists of things in the heap -/
def LsAt {α : Type} (R : Hp → Addr → α → Prop) (H : Hp) : List Addr → List α → Prop
  | [], [] => True
  | a :: as, x :: xs => R H a x ∧ LsAt R H as xs
  | _, _ => False
section
variable {α : Type} {R : Hp → Addr → α → Prop} {H H' : Hp}
theorem LsAt.tu (hR : ∀ a x, R H a x → R H' a x) : ∀ {as : List Addr} {xs : List α}, LsAt R H as xs → LsAt R H' as xs
  | [], [], h => h
  | _ :: _, _ :: _, h => ⟨hR _ _ h.1, LsAt.tu hR h.2⟩
  | [], _ :: _, h => h.elim
  | _ :: _, [], h => h.elim
theorem LsAt.len : ∀ {as : List Addr} {xs : List α}, LsAt R H as xs → as.length = xs.length
  | [], [], _ => rfl
  | _ :: _, _ :: _, h => congrArg (· + 1) (LsAt.len h.2)
  | [], _ :: _, h => h.elim
  | _ :: _, [], h => h.elim
theorem LsAt.snoc {a : Addr} {x : α} (hx : R H a x) : ∀ {as : List Addr} {xs : List α}, LsAt R H as xs → LsAt R H (as ++ [a]) (xs ++ [x])
  | [], [], _ => ⟨hx, trivial⟩
  | _ :: _, _ :: _, h => ⟨h.1, LsAt.snoc hx h.2⟩
  | [], _ :: _, h => h.elim
  | _ :: _, [], h => h.elim
theorem LsAt.append : ∀ {as bs : List Addr} {xs ys : List α}, LsAt R H as xs → LsAt R H bs ys → LsAt R H (as ++ bs) (xs ++ ys)
  | [], _, [], _, _, h => h
  | _ :: _, _, _ :: _, _, h, g => ⟨h.1, LsAt.append h.2 g⟩
  | [], _, _ :: _, _, h, _ => h.elim
  | _ :: _, _, [], _, h, _ => h.elim
theorem LsAt.get : ∀ {as : List Addr} {xs : List α} {i : Nat} {x : α}, LsAt R H as xs → xs[i]? = some x → ∃ a, as[i]? = some a ∧ R H a x
  | a :: _, x :: _, 0, y, h, e => by
    have e : x = y := Option.some.inj e
    subst e
    exact ⟨a, rfl, h.1⟩
  | _ :: _, _ :: _, i + 1, y, h, e => LsAt.get (i := i) (x := y) h.2 e
  | [], [], _, _, _, e => by simp at e
  | [], _ :: _, _, _, h, _ => h.elim
  | _ :: _, [], _, _, h, _ => h.elim
theorem LsAt.at : ∀ {as : List Addr} {xs : List α} {i : Nat} {a : Addr}, LsAt R H as xs → as[i]? = some a → ∃ x, xs[i]? = some x ∧ R H a x
  | a :: _, x :: _, 0, q, h, e => by
    have e : a = q := Option.some.inj e
    subst e
    exact ⟨x, rfl, h.1⟩
  | _ :: _, _ :: _, i + 1, q, h, e => LsAt.at (i := i) (a := q) h.2 e
  | [], [], _, _, _, e => by simp at e
  | [], _ :: _, _, _, h, _ => h.elim
  | _ :: _, [], _, _, h, _ => h.elim
end
end ScA
namespace ScA
open PySem PySem.Spec PyProof.Rows L2
open Sc
def CoAt (H : Hp) (a : Addr) (c : C2) : Prop := H a = some (.tup [.int c.1, .int c.2])
def SiAt (H : Hp) (a : Addr) (s : S2) : Prop := ∃ x y, H a = some (.tup [.ref x, .ref y]) ∧ CoAt H x s.1 ∧ CoAt H y s.2
theorem CoAt.tu {H H' : Hp} (t : Tu H H') (a : Addr) (c : C2) (h : CoAt H a c) : CoAt H' a c := t _ _ h
theorem SiAt.tu {H H' : Hp} (t : Tu H H') (a : Addr) (c : S2) (h : SiAt H a c) : SiAt H' a c :=
  let ⟨x, y, h1, h2, h3⟩ := h
  ⟨x, y, t _ _ h1, t _ _ h2, t _ _ h3⟩
structure Bd (p : C2) : Prop where
  a : -50 ≤ p.1
  b : p.1 ≤ 50
  c : -50 ≤ p.2
  d : p.2 ≤ 50
theorem ref_of {as : List Addr} {i : Nat} {y : V} (h : (as.map V.ref)[i]? = some y) : ∃ b, as[i]? = some b ∧ y = V.ref b := by
  rw [List.getElem?_map] at h
  cases e : as[i]? with
  | none => rw [e] at h; cases h
  | some z => rw [e] at h; exact ⟨z, rfl, (Option.some.inj h).symm⟩
theorem map_ref {as : List Addr} {i : Nat} {a : Addr} (h : as[i]? = some a) : (as.map V.ref)[i]? = some (V.ref a) := by rw [List.getElem?_map, h]; rfl
section
variable {Pg : Program} {w : World} {K : PySem.W.Frag} {mg : Str → Option Value} {base : Heap} {CF CS fS : Addr}
/-! turn -/
def spTu : Sp := fun vs H Q _ => ∃ (x y z : Addr) (a b c : C2), vs = [.ref x, .ref y, .ref z] ∧ CoAt H x a ∧ CoAt H y b ∧ CoAt H z c ∧ Bd a ∧ Bd b ∧ Bd c ∧ Q (.int (turnI a b c)) H
theorem scTu : FnScope ["a", "b", "c"] ["a", "b", "c"] (defScope s_turn) := ⟨rfl, rfl, rfl, by decide +kernel, rfl, by decide +kernel, by decide +kernel⟩
theorem ok_tu {f : Addr} {fd : FuncData} (F : Fun K "turn" "turn" s_turn f fd) : FnOk Pg w K mg base CX0 1 f fd ["a", "b", "c"] spTu := by
  refine F.ok scTu (fun vs H Q E h => ?_) (fun cdv A outer s H vs Q E hr h => ⟨_, pss_one (ps_ret (pe_op op_sub
    (pe_op op_mul (pe_op op_sub (pe_ix ix_tup (pv 1) pe_int (fun _ _ => rfl)) (pe_ix ix_tup (pv 0) pe_int (fun _ _ => rfl))) (pe_op op_sub (pe_ix ix_tup (pv 2) pe_int (fun _ _ => rfl)) (pe_ix ix_tup (pv 0) pe_int (fun _ _ => rfl)))) (pe_op op_mul (pe_op op_sub (pe_ix ix_tup (pv 1) pe_int (fun _ _ => rfl)) (pe_ix ix_tup (pv 0) pe_int (fun _ _ => rfl))) (pe_op op_sub (pe_ix ix_tup (pv 2) pe_int (fun _ _ => rfl)) (pe_ix ix_tup (pv 0) pe_int (fun _ _ => rfl)))))), ?_⟩)
  · obtain ⟨x, y, z, a, b, c, rfl, _⟩ := h
    rfl
  · obtain ⟨x, y, z, a, b, c, rfl, hx, hy, hz, ba, bb, bc, q⟩ := h
    have b1 := ba.a; have b2 := ba.b; have b3 := ba.c; have b4 := ba.d; have b5 := bb.a; have b6 := bb.b; have b7 := bb.c; have b8 := bb.d
    refine ⟨_, rfl, y, _, 0, _, rfl, rfl, SqT.of hy, rfl, _, rfl, x, _, 0, _, rfl, rfl, SqT.of hx, rfl, _, _, rfl, rfl, _, rfl, z, _, 1, _, rfl, rfl, SqT.of hz, rfl, _, rfl, x, _, 1, _, rfl, rfl, SqT.of hx, rfl, _, _, rfl, rfl, _, _, rfl, rfl, .inl ⟨by omega, by omega⟩, ?_⟩
    refine ⟨_, rfl, y, _, 1, _, rfl, rfl, SqT.of hy, rfl, _, rfl, x, _, 1, _, rfl, rfl, SqT.of hx, rfl, _, _, rfl, rfl, _, rfl, z, _, 0, _, rfl, rfl, SqT.of hz, rfl, _, rfl, x, _, 0, _, rfl, rfl, SqT.of hx, rfl, _, _, rfl, rfl, _, _, rfl, rfl, .inl ⟨by omega, by omega⟩, ?_⟩
    exact ⟨_, _, rfl, rfl, q⟩
/-! spans_meet, reaches_line, sides_meet -/
def spSpm : Sp := fun vs H Q _ => ∃ a b c d : Int, vs = [.int a, .int b, .int c, .int d] ∧ Q (.bl (spanI a b c d)) H
theorem scSpm : FnScope ["a", "b", "c", "d"] ["a", "b", "c", "d"] (defScope s_spans_meet) := ⟨rfl, rfl, rfl, by decide +kernel, rfl, by decide +kernel, by decide +kernel⟩
theorem ok_spm {f : Addr} {fd : FuncData} (F : Fun K "spans_meet" "spans_meet" s_spans_meet f fd) (mMin : mg "min" = none) (mMax : mg "max" = none) : FnOk Pg w K mg base CX0 1 f fd ["a", "b", "c", "d"] spSpm := by
  refine F.ok scSpm (fun vs H Q E h => ?_) (fun cdv A outer s H vs Q E hr h => ⟨_, pss_one (ps_ret (pe_and (pe_cmpR op_le (pe_callB (call_min2 rfl) (by rfl) mMin (by decide +kernel) (pa_cons (pv 0) (pa_cons (pv 1) pa_nil))) (pe_callB (call_max2 rfl) (by rfl) mMax (by decide +kernel) (pa_cons (pv 2) (pa_cons (pv 3) pa_nil))) (nomark _)) (pe_one (pe_cmpR op_le (pe_callB (call_min2 rfl) (by rfl) mMin (by decide +kernel) (pa_cons (pv 2) (pa_cons (pv 3) pa_nil))) (pe_callB (call_max2 rfl) (by rfl) mMax (by decide +kernel) (pa_cons (pv 0) (pa_cons (pv 1) pa_nil))) (nomark _))))), ?_⟩)
  · obtain ⟨a, b, c, d, rfl, _⟩ := h
    rfl
  · obtain ⟨a, b, c, d, rfl, q⟩ := h
    unfold spanI at q
    refine ⟨_, rfl, _, rfl, _, _, rfl, _, rfl, _, rfl, _, _, rfl, _, _, rfl, rfl, _, rfl, ?_⟩
    cases k : decide ((if b < a then b else a) ≤ (if d > c then d else c)) with
    | false => rw [k] at q; exact ifF rfl q
    | true =>
      rw [k, Bool.true_and] at q
      exact ifT rfl ⟨_, rfl, _, rfl, _, _, rfl, _, rfl, _, rfl, _, _, rfl, _, _, rfl, rfl, q⟩
def spRl : Sp := fun vs H Q _ => ∃ (x y : Addr) (s t : S2), vs = [.ref x, .ref y] ∧ SiAt H x s ∧ SiAt H y t ∧ Bd s.1 ∧ Bd s.2 ∧ Bd t.1 ∧ Bd t.2 ∧ Q (.bl (reachI s.1 s.2 t.1 t.2)) H
theorem scRl : FnScope ["side", "other"] ["side", "other"] (defScope s_reaches_line) := ⟨rfl, rfl, rfl, by decide +kernel, rfl, by decide +kernel, by decide +kernel⟩
theorem turn_bd {a b c : C2} (ha : Bd a) (hb : Bd b) (hc : Bd c) : -20000 ≤ turnI a b c ∧ turnI a b c ≤ 20000 := by
  have b1 := ha.a; have b2 := ha.b; have b3 := ha.c; have b4 := ha.d; have b5 := hb.a; have b6 := hb.b; have b7 := hb.c; have b8 := hb.d; have b9 := hc.a; have b10 := hc.b; have b11 := hc.c; have b12 := hc.d
  have m : ∀ x y : Int, -100 ≤ x → x ≤ 100 → -100 ≤ y → y ≤ 100 → -10000 ≤ x * y ∧ x * y ≤ 10000 := fun x y h1 h2 h3 h4 => by
    have e1 : (x * y).natAbs ≤ 10000 := by
      rw [Int.natAbs_mul]
      exact Nat.mul_le_mul (show x.natAbs ≤ 100 by omega) (show y.natAbs ≤ 100 by omega)
    omega
  have p := m (b.1 - a.1) (c.2 - a.2) (by omega) (by omega) (by omega) (by omega)
  have q := m (b.2 - a.2) (c.1 - a.1) (by omega) (by omega) (by omega) (by omega)
  unfold turnI
  omega
theorem ok_rl {f fT : Addr} {fd fdT : FuncData} (F : Fun K "reaches_line" "reaches_line" s_reaches_line f fd) (GT : FnOk Pg w K mg base CX0 1 fT fdT ["a", "b", "c"] spTu) (mT : mg "turn" = some (.ref fT)) (kT : PySem.W.keepIn K (.ref fT) = true) (bT : Binds K fdT ["a", "b", "c"] []) :
    FnOk Pg w K mg base CX0 2 f fd ["side", "other"] spRl := by
  refine F.ok scRl (fun vs H Q E h => ?_) (fun cdv A outer s H vs Q E hr h => ⟨_, pss_one (ps_ret (pe_cmpR op_le (pe_op op_mul (pe_call GT hr rfl mT kT bT .nil pass0 (pa_cons (pe_ix ix_tup (pv 1) pe_int (fun _ _ => rfl)) (pa_cons (pe_ix ix_tup (pv 1) pe_int (fun _ _ => rfl)) (pa_cons (pe_ix ix_tup (pv 0) pe_int (fun _ _ => rfl)) pa_nil)))) (pe_call GT hr rfl mT kT bT .nil pass0 (pa_cons (pe_ix ix_tup (pv 1) pe_int (fun _ _ => rfl)) (pa_cons (pe_ix ix_tup (pv 1) pe_int (fun _ _ => rfl)) (pa_cons (pe_ix ix_tup (pv 0) pe_int (fun _ _ => rfl)) pa_nil))))) pe_int (nomark _))), ?_⟩)
  · obtain ⟨x, y, s, t, rfl, _⟩ := h
    rfl
  · obtain ⟨x, y, s, t, rfl, ⟨x1, x2, hx, hx1, hx2⟩, ⟨y1, y2, hy, hy1, hy2⟩, b1, b2, b3, b4, q⟩ := h
    have td := turn_bd b3 b4 b1
    refine ⟨_, rfl, y, _, 0, _, rfl, rfl, SqT.of hy, rfl, _, rfl, y, _, 1, _, rfl, rfl, SqT.of hy, rfl, _, rfl, x, _, 0, _, rfl, rfl, SqT.of hx, rfl, y1, y2, x1, t.1, t.2, s.1, rfl, hy1, hy2, hx1, b3, b4, b1, ?_⟩
    refine ⟨_, rfl, y, _, 0, _, rfl, rfl, SqT.of hy, rfl, _, rfl, y, _, 1, _, rfl, rfl, SqT.of hy, rfl, _, rfl, x, _, 1, _, rfl, rfl, SqT.of hx, rfl, y1, y2, x2, t.1, t.2, s.2, rfl, hy1, hy2, hx2, b3, b4, b2, ?_⟩
    exact ⟨_, _, rfl, rfl, .inl ⟨by omega, by omega⟩, _, _, rfl, rfl, q⟩
def spSm : Sp := fun vs H Q _ => ∃ (x y : Addr) (s t : S2), vs = [.ref x, .ref y] ∧ SiAt H x s ∧ SiAt H y t ∧ Bd s.1 ∧ Bd s.2 ∧ Bd t.1 ∧ Bd t.2 ∧ Q (.bl (meetI s.1 s.2 t.1 t.2)) H
theorem scSm : FnScope ["one", "other"] ["one", "other"] (defScope s_sides_meet) := ⟨rfl, rfl, rfl, by decide +kernel, rfl, by decide +kernel, by decide +kernel⟩
theorem ok_sm {f fR fS2 : Addr} {fd fdR fdS : FuncData} (F : Fun K "sides_meet" "sides_meet" s_sides_meet f fd) (GR : FnOk Pg w K mg base CX0 2 fR fdR ["side", "other"] spRl) (mR : mg "reaches_line" = some (.ref fR)) (kR : PySem.W.keepIn K (.ref fR) = true) (bR : Binds K fdR ["side", "other"] [])
    (GS : FnOk Pg w K mg base CX0 1 fS2 fdS ["a", "b", "c", "d"] spSpm) (mS : mg "spans_meet" = some (.ref fS2)) (kS : PySem.W.keepIn K (.ref fS2) = true) (bS : Binds K fdS ["a", "b", "c", "d"] []) :
    FnOk Pg w K mg base CX0 3 f fd ["one", "other"] spSm := by
  refine F.ok scSm (fun vs H Q E h => ?_) (fun cdv A outer s H vs Q E hr h => ⟨_, pss_one (ps_ret (pe_and (pe_call GR hr rfl mR kR bR .nil pass0 (pa_cons (pv 0) (pa_cons (pv 1) pa_nil)))
    (pe_and (pe_call GR hr rfl mR kR bR .nil pass0 (pa_cons (pv 1) (pa_cons (pv 0) pa_nil))) (pe_and (pe_call GS (hr.mono (by decide)) rfl mS kS bS .nil pass0 (pa_cons (pe_ix ix_tup (pe_ix ix_tup (pv 0) pe_int (fun _ _ => rfl)) pe_int (fun _ _ => rfl)) (pa_cons (pe_ix ix_tup (pe_ix ix_tup (pv 0) pe_int (fun _ _ => rfl)) pe_int (fun _ _ => rfl)) (pa_cons (pe_ix ix_tup (pe_ix ix_tup (pv 1) pe_int (fun _ _ => rfl)) pe_int (fun _ _ => rfl)) (pa_cons (pe_ix ix_tup (pe_ix ix_tup (pv 1) pe_int (fun _ _ => rfl)) pe_int (fun _ _ => rfl)) pa_nil))))) (pe_one (pe_call GS (hr.mono (by decide)) rfl mS kS bS .nil pass0 (pa_cons (pe_ix ix_tup (pe_ix ix_tup (pv 0) pe_int (fun _ _ => rfl)) pe_int (fun _ _ => rfl)) (pa_cons (pe_ix ix_tup (pe_ix ix_tup (pv 0) pe_int (fun _ _ => rfl)) pe_int (fun _ _ => rfl)) (pa_cons (pe_ix ix_tup (pe_ix ix_tup (pv 1) pe_int (fun _ _ => rfl)) pe_int (fun _ _ => rfl)) (pa_cons (pe_ix ix_tup (pe_ix ix_tup (pv 1) pe_int (fun _ _ => rfl)) pe_int (fun _ _ => rfl)) pa_nil)))))))))), ?_⟩)
  · obtain ⟨x, y, s, t, rfl, _⟩ := h
    rfl
  · obtain ⟨x, y, s, t, rfl, hx0, hy0, b1, b2, b3, b4, q⟩ := h
    obtain ⟨x1, x2, hx, hx1, hx2⟩ := id hx0
    obtain ⟨y1, y2, hy, hy1, hy2⟩ := id hy0
    unfold meetI at q
    refine ⟨_, rfl, _, rfl, x, y, s, t, rfl, hx0, hy0, b1, b2, b3, b4, _, rfl, ?_⟩
    cases k1 : reachI s.1 s.2 t.1 t.2 with
    | false => rw [k1] at q; exact ifF rfl q
    | true =>
      rw [k1, Bool.true_and] at q
      refine ifT rfl ⟨_, rfl, _, rfl, y, x, t, s, rfl, hy0, hx0, b3, b4, b1, b2, _, rfl, ?_⟩
      cases k2 : reachI t.1 t.2 s.1 s.2 with
      | false => rw [k2] at q; exact ifF rfl q
      | true =>
        rw [k2, Bool.true_and] at q
        refine ifT rfl ?_
        refine ⟨_, rfl, x, _, 0, _, rfl, rfl, SqT.of hx, rfl, x1, _, 0, _, rfl, rfl, SqT.of hx1, rfl, _, rfl, x, _, 1, _, rfl, rfl, SqT.of hx, rfl, x2, _, 0, _, rfl, rfl, SqT.of hx2, rfl,
          _, rfl, y, _, 0, _, rfl, rfl, SqT.of hy, rfl, y1, _, 0, _, rfl, rfl, SqT.of hy1, rfl, _, rfl, y, _, 1, _, rfl, rfl, SqT.of hy, rfl, y2, _, 0, _, rfl, rfl, SqT.of hy2, rfl, _, _, _, _, rfl, _, rfl, ?_⟩
        cases k3 : spanI s.1.1 s.2.1 t.1.1 t.2.1 with
        | false => rw [k3] at q; exact ifF rfl q
        | true =>
          rw [k3, Bool.true_and] at q
          refine ifT rfl ?_
          exact ⟨_, rfl, x, _, 0, _, rfl, rfl, SqT.of hx, rfl, x1, _, 1, _, rfl, rfl, SqT.of hx1, rfl, _, rfl, x, _, 1, _, rfl, rfl, SqT.of hx, rfl, x2, _, 1, _, rfl, rfl, SqT.of hx2, rfl,
            _, rfl, y, _, 0, _, rfl, rfl, SqT.of hy, rfl, y1, _, 1, _, rfl, rfl, SqT.of hy1, rfl, _, rfl, y, _, 1, _, rfl, rfl, SqT.of hy, rfl, y2, _, 1, _, rfl, rfl, SqT.of hy2, rfl, _, _, _, _, rfl, q⟩
end
end ScA
namespace ScA
open PySem PySem.Spec PyProof.Rows L2
open Sc
def sid (l : List C2) (i : Nat) : List S2 := (List.range i).map fun k => (at2 l k, at2 l (k + 1))
theorem sid_more (l : List C2) (i : Nat) : sid l (i + 1) = sid l i ++ [(at2 l i, at2 l (i + 1))] := by
  unfold sid
  rw [List.range_succ, List.map_append]; rfl
theorem sid_len (l : List C2) (i : Nat) : (sid l i).length = i := by unfold sid; rw [List.length_map, List.length_range]
theorem CoAt.get {H : Hp} {as : List Addr} {l : List C2} (h : LsAt CoAt H as l) {i : Nat} (hi : i < l.length) : ∃ a, (as.map V.ref)[i]? = some (V.ref a) ∧ CoAt H a (at2 l i) := by
  obtain ⟨a, e, p⟩ := h.get (at2_get hi)
  exact ⟨a, map_ref e, p⟩
theorem CoAt.getm {H : Hp} {as : List Addr} {l : List C2} (h : LsAt CoAt H as l) (h0 : 0 < l.length) (j : Nat) : ∃ a, (as.map V.ref)[j % l.length]? = some (V.ref a) ∧ CoAt H a (at2 l j) := by
  obtain ⟨a, e, p⟩ := CoAt.get h (Nat.mod_lt j h0)
  rw [at2_mod] at p
  exact ⟨a, e, p⟩
theorem em_nat (z : Int) (i n : Nat) (h : z = (i : Int)) : z % (n : Int) = ((i % n : Nat) : Int) := by
  subst h; rw [Int.natCast_emod]
section
variable {Pg : Program} {w : World} {K : PySem.W.Frag} {mg : Str → Option Value} {base : Heap} {CF CS fS : Addr}
/-! sides_of -/
def spSo : Sp := fun vs H Q _ => ∃ (a : Addr) (as : List Addr) (l : List C2), vs = [.ref a] ∧ H a = some (.lst (as.map V.ref)) ∧ LsAt CoAt H as l ∧ l.length ≤ 1000 ∧
  ∀ H' q bs, Same H H' → H q = none → H' q = some (.lst (bs.map V.ref)) → LsAt SiAt H' bs (sidesI l) → Q (.ref q) H'
theorem scSo : FnScope ["corners", "count", "k"] ["corners"] (defScope s_sides_of) := ⟨rfl, rfl, rfl, by decide +kernel, rfl, by decide +kernel, by decide +kernel⟩
theorem ok_so {f : Addr} {fd : FuncData} (F : Fun K "sides_of" "sides_of" s_sides_of f fd) (mLen : mg "len" = none) (mRange : mg "range" = none) : FnOk Pg w K mg base CX0 1 f fd ["corners"] spSo := by
  refine F.ok scSo (fun vs H Q E h => ?_) (fun cdv A outer s H vs Q E hr h => ⟨_,
    pss_cons (ps_set (i := 1) scSo.nd rfl (Or.inr rfl) (pe_callB call_len_seq (by rfl) mLen PySem.boot_len (pa_cons (pv 0) pa_nil)))
    (pss_one (ps_ret (pe_lc (own := [("k", 2)]) (g := gName 2) (tt := tYes) rfl scSo.nd (pi_range1 rfl mRange (pa_cons (pv 1) pa_nil))
      (blkOk_by (own := [("k", 2)]) (N := ["corners", "count", "k"]) (sc := defScope s_sides_of) (by decide +kernel))
      (fun _ _ _ _ _ => pg_name (i := 2) scSo.nd rfl (Or.inl rfl))
      (fun _ _ _ _ _ => pts_nil)
      (fun _ _ _ _ _ => pe_tup (pa_cons (pe_ix (r := rIxL K) ix_list (pv 0) (pv 2) (fun _ _ => rfl)) (pa_cons (pe_ix (r := rIxL K) ix_list (pv 0) (pe_op op_mod (pe_op op_add (pv 2) pe_int) (pv 1)) (fun _ _ => rfl)) pa_nil)))))), ?_⟩)
  · obtain ⟨a, as, l, rfl, _⟩ := h
    rfl
  · obtain ⟨a, as, l, rfl, ha, hP, hl, q⟩ := h
    have la := hP.len
    refine ⟨_, rfl, a, _, rfl, .inl (SqL.of ha), ?_⟩
    refine ⟨_, rfl, _, rfl, by omega, by rw [List.length_map]; omega, fun D nD => ?_⟩
    rw [List.length_map, la, Int.toNat_natCast]
    refine lc_range (lo := 0) (n := l.length) (fun i H' => Same H H' ∧ ∃ bs, H' D = some (.lst (bs.map V.ref)) ∧ LsAt SiAt H' bs (sid l i)) ?_ ?_ ?_
    · exact ⟨Same.new nD, [], upd_same, trivial⟩
    · rintro i H1 hi ⟨s1, bs, hD1, hP1⟩
      have hP0 : LsAt CoAt H1 as l := LsAt.tu (CoAt.tu (Tu.of s1)) hP
      obtain ⟨a1, g1, p1⟩ := CoAt.get hP0 hi
      obtain ⟨a2, g2, p2⟩ := CoAt.getm hP0 (show 0 < l.length by omega) (i + 1)
      have hS1 : SqL K H1 a (as.map V.ref) := SqL.of (s1 _ _ ha)
      refine ⟨rfl, ?_⟩
      unfold tYes
      refine ifT rfl ?_
      refine ⟨_, rfl, _, rfl, a, _, _, _, rfl, rfl, hS1, at_of (by omega) g1, _, rfl, _, rfl, _, _, rfl, rfl, _, rfl, _, _, rfl, rfl, (by show (0 : Int) < (l.length : Int); omega), a, _, _, _, rfl, rfl, hS1, at_of (em_nat _ (i + 1) _ (by omega)) g2, (by show 2 ≤ sizeLine; decide), fun p np => ?_⟩
      have s2 := Same.new (o := .tup [.ref a1, .ref a2]) np
      have hD2 := s2 _ _ hD1
      have l1 := hP1.len
      rw [sid_len] at l1
      have t3 : Tu (upd H1 p (.tup [.ref a1, .ref a2])) (upd (upd H1 p (.tup [.ref a1, .ref a2])) D (.lst (bs.map V.ref ++ [V.ref p]))) := Tu.lst hD2
      refine ⟨_, hD2, ?_, ?_, bs ++ [p], ?_, ?_⟩
      · rw [List.length_map, szl]; omega
      · intro b o e
        rw [upd_ne (ne_of_none e nD)]
        exact s2 _ _ (s1 _ _ e)
      · rw [upd_same, List.map_append]; rfl
      · rw [sid_more]
        refine LsAt.snoc ⟨a1, a2, t3 _ _ upd_same, t3 _ _ (s2 _ _ p1), t3 _ _ (s2 _ _ p2)⟩ (LsAt.tu (SiAt.tu ((Tu.of s2).trans t3)) hP1)
    · rintro H1 ⟨s1, bs, hD1, hP1⟩
      exact q H1 D bs s1 nD hD1 hP1
/-! has_straight_corner -/
def tns (l : List C2) (i : Nat) : List Int := (List.range i).map fun k => turnI (at2 l k) (at2 l (k + 1)) (at2 l (k + 2))
theorem tns_more (l : List C2) (i : Nat) : tns l (i + 1) = tns l i ++ [turnI (at2 l i) (at2 l (i + 1)) (at2 l (i + 2))] := by
  unfold tns
  rw [List.range_succ, List.map_append]; rfl
theorem tns_len (l : List C2) (i : Nat) : (tns l i).length = i := by unfold tns; rw [List.length_map, List.length_range]
theorem tns_in (l : List C2) : inV (.int 0) ((tns l l.length).map V.int) = straightI l := by
  unfold inV straightI tns
  rw [List.any_map, List.any_map]
  refine any_cong fun k _ => ?_
  show eqV (.int _) (.int 0) = _
  simp only [eqV]
  rfl
def spHs : Sp := fun vs H Q _ => ∃ (a : Addr) (as : List Addr) (l : List C2), vs = [.ref a] ∧ H a = some (.lst (as.map V.ref)) ∧ LsAt CoAt H as l ∧ l.length ≤ 1000 ∧ (∀ c ∈ l, Bd c) ∧
  ∀ H', Same H H' → Q (.bl (straightI l)) H'
theorem scHs : FnScope ["corners", "count", "turns", "k"] ["corners"] (defScope s_has_straight_corner) := ⟨rfl, rfl, rfl, by decide +kernel, rfl, by decide +kernel, by decide +kernel⟩
theorem ok_hs {f fT : Addr} {fd fdT : FuncData} (F : Fun K "has_straight_corner" "has_straight_corner" s_has_straight_corner f fd) (mLen : mg "len" = none) (mRange : mg "range" = none)
    (GT : FnOk Pg w K mg base CX0 1 fT fdT ["a", "b", "c"] spTu) (mT : mg "turn" = some (.ref fT)) (kT : PySem.W.keepIn K (.ref fT) = true) (bT : Binds K fdT ["a", "b", "c"] []) : FnOk Pg w K mg base CX0 2 f fd ["corners"] spHs := by
  refine F.ok scHs (fun vs H Q E h => ?_) (fun cdv A outer s H vs Q E hr h => ⟨_,
    pss_cons (ps_set (i := 1) scHs.nd rfl (Or.inr rfl) (pe_callB call_len_seq (by rfl) mLen PySem.boot_len (pa_cons (pv 0) pa_nil)))
    (pss_cons (ps_setLc (i := 2) (own := [("k", 3)]) (g := gName 3) (tt := tYes) rfl scHs.nd rfl rfl (sw_true rfl rfl rfl (by decide +kernel)) (pi_range1 rfl mRange (pa_cons (pv 1) pa_nil))
      (blkOk_by (own := [("k", 3)]) (N := ["corners", "count", "turns", "k"]) (sc := defScope s_has_straight_corner) (by decide +kernel))
      (fun _ _ _ _ _ => pg_name (i := 3) scHs.nd rfl (Or.inl rfl))
      (fun _ _ _ _ _ => pts_nil)
      (fun _ _ _ _ _ => pe_call GT hr rfl mT kT bT .nil pass0 (pa_cons (pe_ix (r := rIxL K) ix_list (pv 0) (pv 3) (fun _ _ => rfl)) (pa_cons (pe_ix (r := rIxL K) ix_list (pv 0) (pe_op op_mod (pe_op op_add (pv 3) pe_int) (pv 1)) (fun _ _ => rfl)) (pa_cons (pe_ix (r := rIxL K) ix_list (pv 0) (pe_op op_mod (pe_op op_add (pv 3) pe_int) (pv 1)) (fun _ _ => rfl)) pa_nil)))))
    (pss_one (ps_ret (pe_cmpR op_in_seq pe_int (pv 2) rfl)))), ?_⟩)
  · obtain ⟨a, as, l, rfl, _⟩ := h
    rfl
  · obtain ⟨a, as, l, rfl, ha, hP, hl, hb, q⟩ := h
    have la := hP.len
    refine ⟨_, rfl, a, _, rfl, .inl (SqL.of ha), ?_⟩
    refine ⟨_, rfl, _, rfl, by omega, by rw [List.length_map]; omega, fun D nD => ?_⟩
    rw [List.length_map, la, Int.toNat_natCast]
    refine lc_range (lo := 0) (n := l.length) (fun i H' => Same H H' ∧ H' D = some (.lst ((tns l i).map V.int))) ?_ ?_ ?_
    · exact ⟨Same.new nD, upd_same⟩
    · rintro i H1 hi ⟨s1, hD1⟩
      have h0 : 0 < l.length := by omega
      have hP0 : LsAt CoAt H1 as l := LsAt.tu (CoAt.tu (Tu.of s1)) hP
      obtain ⟨a1, g1, p1⟩ := CoAt.get hP0 hi
      obtain ⟨a2, g2, p2⟩ := CoAt.getm hP0 h0 (i + 1)
      obtain ⟨a3, g3, p3⟩ := CoAt.getm hP0 h0 (i + 2)
      have hS1 : SqL K H1 a (as.map V.ref) := SqL.of (s1 _ _ ha)
      refine ⟨rfl, ?_⟩
      unfold tYes
      refine ifT rfl ?_
      refine ⟨_, rfl, _, rfl, a, _, _, _, rfl, rfl, hS1, at_of (by omega) g1, _, rfl, _, rfl, _, _, rfl, rfl, _, rfl, _, _, rfl, rfl, (by show (0 : Int) < (l.length : Int); omega), a, _, _, _, rfl, rfl, hS1, at_of (em_nat _ (i + 1) _ (by omega)) g2, ?_⟩
      refine ⟨_, rfl, _, rfl, _, _, rfl, rfl, _, rfl, _, _, rfl, rfl, (by show (0 : Int) < (l.length : Int); omega), a, _, _, _, rfl, rfl, hS1, at_of (em_nat _ (i + 2) _ (by omega)) g3, ?_⟩
      refine ⟨a1, a2, a3, _, _, _, rfl, p1, p2, p3, hb _ (at2_mem h0 _), hb _ (at2_mem h0 _), hb _ (at2_mem h0 _), ?_⟩
      refine ⟨_, hD1, ?_, ?_, ?_⟩
      · rw [List.length_map, tns_len, szl]; omega
      · intro b o e
        rw [upd_ne (ne_of_none e nD)]
        exact s1 _ _ e
      · rw [upd_same, tns_more, List.map_append]; rfl
    · rintro H1 ⟨s1, hD1⟩
      refine ⟨_, rfl, D, _, rfl, .inl (SqL.of hD1), rfl, ?_, ?_⟩
      · rw [List.all_map, List.all_eq_true]
        intro x _; rfl
      · show Q (.bl (inV (.int 0) ((tns l l.length).map V.int))) H1
        rw [tns_in]
        exact q H1 s1
end
end ScA
namespace ScA
open PySem PySem.Spec PyProof.Rows L2
open Sc
def badI (l : List C2) (j k : Nat) : Bool := decide (j + 2 ≤ k) && ((decide (0 < j) || decide (k < l.length - 1)) && meetI (at2 l j) (at2 l (j + 1)) (at2 l k) (at2 l (k + 1)))
theorem tang_t {l : List C2} {j k : Nat} (hj : j < l.length) (hk : k < l.length) (h : badI l j k = true) : tangledI l = true := by
  unfold tangledI
  rw [List.any_eq_true]
  refine ⟨j, List.mem_range.mpr hj, ?_⟩
  rw [List.any_eq_true]
  exact ⟨k, List.mem_range.mpr hk, h⟩
theorem tang_f {l : List C2} (h : ∀ j, j < l.length → ∀ k, k < l.length → badI l j k = false) : tangledI l = false := by
  unfold tangledI
  rw [List.any_eq_false]
  intro j hj
  rw [Bool.not_eq_true, List.any_eq_false]
  intro k hk
  rw [Bool.not_eq_true]
  exact h j (List.mem_range.mp hj) k (List.mem_range.mp hk)
theorem sides_get {l : List C2} {j : Nat} (h : j < l.length) : (sidesI l)[j]? = some (at2 l j, at2 l (j + 1)) := by
  unfold sidesI
  rw [List.getElem?_map, List.getElem?_range h]; rfl
theorem sides_len (l : List C2) : (sidesI l).length = l.length := by unfold sidesI; rw [List.length_map, List.length_range]
section
variable {Pg : Program} {w : World} {K : PySem.W.Frag} {mg : Str → Option Value} {base : Heap} {CF CS fS : Addr}
/-! is_tangled -/
def spIt : Sp := fun vs H Q _ => ∃ (a : Addr) (as : List Addr) (l : List C2), vs = [.ref a] ∧ H a = some (.lst (as.map V.ref)) ∧ LsAt SiAt H as (sidesI l) ∧ l.length ≤ 1000 ∧ (∀ c ∈ l, Bd c) ∧ Q (.bl (tangledI l)) H
theorem scIt : FnScope ["sides", "count", "j", "k"] ["sides"] (defScope s_is_tangled) := ⟨rfl, rfl, rfl, by decide +kernel, rfl, by decide +kernel, by decide +kernel⟩
theorem ok_it {f fM : Addr} {fd fdM : FuncData} (F : Fun K "is_tangled" "is_tangled" s_is_tangled f fd) (mLen : mg "len" = none) (mRange : mg "range" = none)
    (GM : FnOk Pg w K mg base CX0 3 fM fdM ["one", "other"] spSm) (mM : mg "sides_meet" = some (.ref fM)) (kM : PySem.W.keepIn K (.ref fM) = true) (bM : Binds K fdM ["one", "other"] []) : FnOk Pg w K mg base CX0 4 f fd ["sides"] spIt := by
  refine F.ok scIt (fun vs H Q E h => ?_) (fun cdv A outer s H vs Q E hr h => ⟨_,
    pss_cons (ps_set (i := 1) scIt.nd rfl (Or.inl rfl) (pe_callB call_len_seq (by rfl) mLen PySem.boot_len (pa_cons (pv 0) pa_nil)))
    (pss_cons (ps_for PassesOwn.never rfl (pi_range1 rfl mRange (pa_cons (pv 1) pa_nil)) (pg_name (i := 2) scIt.nd rfl (Or.inl rfl))
      (pss_one (ps_for PassesOwn.never rfl (pi_range2 (by rfl) mRange (pa_cons (pe_op op_add (pv 2) pe_int) (pa_cons (pv 1) pa_nil))) (pg_name (i := 3) scIt.nd rfl (Or.inl rfl))
        (pss_one (ps_if (PW.pt (pw_and (PW.pt (pw_or (pt_cmpR op_gt (pv 2) pe_int (nomark _)) (pw_or1 (pt_cmpR op_lt (pv 3) (pe_op op_sub (pv 1) pe_int) (nomark _)))))
            (pw_and1 (pt_val (pe_call GM hr rfl mM kM bM .nil pass0 (pa_cons (pe_ix ix_list (pv 0) (pv 2) (fun _ _ => rfl)) (pa_cons (pe_ix ix_list (pv 0) (pv 3) (fun _ _ => rfl)) pa_nil)))))))
          (pss_one (ps_ret pe_bl)) pss_nil)))))
    (pss_one (ps_ret pe_bl))), ?_⟩)
  · obtain ⟨a, as, l, rfl, _⟩ := h
    rfl
  · obtain ⟨a, as, l, rfl, ha, hP, hl, hb, q⟩ := h
    have la : as.length = l.length := hP.len.trans (sides_len l)
    have hS : SqL K H a (as.map V.ref) := SqL.of ha
    refine ⟨_, rfl, a, _, rfl, .inl hS, ?_⟩
    refine ⟨_, rfl, _, rfl, by omega, by rw [List.length_map]; omega, ?_⟩
    rw [List.length_map, la, Int.toNat_natCast]
    refine for_range (lo := 0) (n := l.length) (fun i σ H' => H' = H ∧ (∃ r1 r2 : Option V, σ = [some (.ref a), some (.int (l.length : Int)), r1, r2]) ∧ ∀ j, j < i → ∀ k, k < l.length → badI l j k = false) ?_ ?_ ?_
    · exact ⟨rfl, ⟨none, none, rfl⟩, fun j hj => absurd hj (Nat.not_lt_zero _)⟩
    · rintro i σ H2 hi ⟨rfl, ⟨r1, r2, rfl⟩, hf⟩
      refine ⟨_, rfl, _, _, rfl, rfl, _, rfl, _, _, rfl, ⟨by omega, by omega, by omega, by omega⟩, ?_⟩
      refine for_range (n := ((l.length : Int) - (0 + (i : Int) + 2)).toNat) (fun m σ H' => H' = H2 ∧ (∃ r2 : Option V, σ = [some (.ref a), some (.int (l.length : Int)), some (.int (0 + (i : Int))), r2]) ∧ ∀ k, k < i + 2 + m → k < l.length → badI l i k = false) ?_ ?_ ?_
      · refine ⟨rfl, ⟨r2, rfl⟩, fun k hk _ => ?_⟩
        unfold badI
        rw [decide_eq_false (show ¬ i + 2 ≤ k by omega)]; rfl
      · rintro m σ H3 hm ⟨rfl, ⟨r2', rfl⟩, hg⟩
        have hk : i + 2 + m < l.length := by omega
        have more : badI l i (i + 2 + m) = false → ∀ k, k < i + 2 + (m + 1) → k < l.length → badI l i k = false := fun hz k h1 h2 => by
          by_cases c : k = i + 2 + m
          · subst c; exact hz
          · exact hg k (by omega) h2
        have hz0 : ∀ c : Bool, c = (decide (0 < i) || decide (i + 2 + m < l.length - 1)) → badI l i (i + 2 + m) = (c && meetI (at2 l i) (at2 l (i + 1)) (at2 l (i + 2 + m)) (at2 l (i + 2 + m + 1))) := fun c e => by
          unfold badI
          rw [decide_eq_true (show i + 2 ≤ i + 2 + m by omega), Bool.true_and, e]
        obtain ⟨a1, e1, p1⟩ := hP.get (sides_get hi)
        obtain ⟨a2, e2, p2⟩ := hP.get (sides_get hk)
        have h0 : 0 < l.length := by omega
        have g1 := map_ref e1
        have g2 := map_ref e2
        refine ⟨_, rfl, _, _, rfl, rfl, _, rfl, ?_⟩
        by_cases c1 : 0 < i
        · refine ifT (decide_eq_true (by omega)) (ifT rfl ?_)
          have hz := hz0 true (by rw [decide_eq_true c1]; rfl)
          rw [Bool.true_and] at hz
          refine ⟨_, rfl, _, rfl, a, _, _, _, rfl, rfl, hS, at_of (by omega) g1, _, rfl, _, rfl, a, _, _, _, rfl, rfl, hS, at_of (by omega) g2, a1, a2, _, _, rfl, p1, p2, hb _ (at2_mem h0 _), hb _ (at2_mem h0 _), hb _ (at2_mem h0 _), hb _ (at2_mem h0 _), _, rfl, ?_⟩
          cases mt : meetI (at2 l i) (at2 l (i + 1)) (at2 l (i + 2 + m)) (at2 l (i + 2 + m + 1)) with
          | true =>
            rw [mt] at hz
            rw [tang_t hi hk hz] at q
            exact ifT rfl q
          | false =>
            rw [mt] at hz
            exact ifF rfl ⟨rfl, ⟨_, rfl⟩, more hz⟩
        · refine ifF (decide_eq_false (by omega)) ?_
          refine ⟨_, rfl, _, rfl, _, _, rfl, rfl, _, _, rfl, rfl, _, rfl, ?_⟩
          by_cases c2 : i + 2 + m < l.length - 1
          · refine ifT (decide_eq_true (by omega)) ?_
            have hz := hz0 true (by rw [decide_eq_true c2, Bool.or_true])
            rw [Bool.true_and] at hz
            refine ⟨_, rfl, _, rfl, a, _, _, _, rfl, rfl, hS, at_of (by omega) g1, _, rfl, _, rfl, a, _, _, _, rfl, rfl, hS, at_of (by omega) g2, a1, a2, _, _, rfl, p1, p2, hb _ (at2_mem h0 _), hb _ (at2_mem h0 _), hb _ (at2_mem h0 _), hb _ (at2_mem h0 _), _, rfl, ?_⟩
            cases mt : meetI (at2 l i) (at2 l (i + 1)) (at2 l (i + 2 + m)) (at2 l (i + 2 + m + 1)) with
            | true =>
              rw [mt] at hz
              rw [tang_t hi hk hz] at q
              exact ifT rfl q
            | false =>
              rw [mt] at hz
              exact ifF rfl ⟨rfl, ⟨_, rfl⟩, more hz⟩
          · refine ifF (decide_eq_false (by omega)) ?_
            have hz := hz0 false (by rw [decide_eq_false c1, decide_eq_false c2]; rfl)
            exact ifF rfl ⟨rfl, ⟨_, rfl⟩, more hz⟩
      · rintro σ H3 ⟨rfl, ⟨r2', rfl⟩, hg⟩
        refine ⟨rfl, ⟨_, _, rfl⟩, fun j hj k hk => ?_⟩
        by_cases c : j = i
        · subst c; exact hg k (by omega) hk
        · exact hf j (by omega) k hk
    · rintro σ H2 ⟨rfl, ⟨r1, r2, rfl⟩, hf⟩
      rw [tang_f hf] at q
      exact q
/-! double_size -/
def dbs (l : List C2) (i : Nat) : List Int := (List.range i).map fun k => (at2 l k).1 * (at2 l (k + 1)).2 - (at2 l (k + 1)).1 * (at2 l k).2
theorem dbs_more (l : List C2) (i : Nat) : dbs l (i + 1) = dbs l i ++ [(at2 l i).1 * (at2 l (i + 1)).2 - (at2 l (i + 1)).1 * (at2 l i).2] := by
  unfold dbs
  rw [List.range_succ, List.map_append]; rfl
theorem dbs_len (l : List C2) (i : Nat) : (dbs l i).length = i := by unfold dbs; rw [List.length_map, List.length_range]
theorem dbs_sum (l : List C2) : (dbs l l.length).sum = dblI l := rfl
def spDs : Sp := fun vs H Q _ => ∃ (a : Addr) (as : List Addr) (l : List C2), vs = [.ref a] ∧ H a = some (.lst (as.map V.ref)) ∧ LsAt CoAt H as l ∧ l.length ≤ 1000 ∧ (∀ c ∈ l, Bd c) ∧
  ∀ H', Same H H' → Q (.int (dblI l)) H'
theorem scDs : FnScope ["corners", "side"] ["corners"] (defScope s_double_size) := ⟨rfl, rfl, rfl, by decide +kernel, rfl, by decide +kernel, by decide +kernel⟩
theorem ok_ds {f fT : Addr} {fd fdT : FuncData} (F : Fun K "double_size" "double_size" s_double_size f fd) (mSum : mg "sum" = none)
    (GT : FnOk Pg w K mg base CX0 1 fT fdT ["corners"] spSo) (mT : mg "sides_of" = some (.ref fT)) (kT : PySem.W.keepIn K (.ref fT) = true) (bT : Binds K fdT ["corners"] []) : FnOk Pg w K mg base CX0 2 f fd ["corners"] spDs := by
  refine F.ok scDs (fun vs H Q E h => ?_) (fun cdv A outer s H vs Q E hr h => ⟨_,
    pss_one (ps_ret (pe_callB (cr_sum rfl) (by rfl) mSum (by decide +kernel) (pa_cons (pe_lc (own := [("side", 1)]) (g := gName 1) (tt := tYes) rfl scDs.nd (pi_list (pe_call GT hr rfl mT kT bT .nil pass0 (pa_cons (pv 0) pa_nil)))
      (blkOk_by (own := [("side", 1)]) (N := ["corners", "side"]) (sc := defScope s_double_size) (by decide +kernel))
      (fun _ _ _ _ _ => pg_name (i := 1) scDs.nd rfl (Or.inl rfl))
      (fun _ _ _ _ _ => pts_nil)
      (fun _ _ _ _ _ => pe_op op_sub (pe_op op_mul (pe_ix (r := rIxT K) ix_tup (pe_ix (r := rIxT K) ix_tup (pv 1) pe_int (fun _ _ => rfl)) pe_int (fun _ _ => rfl)) (pe_ix (r := rIxT K) ix_tup (pe_ix (r := rIxT K) ix_tup (pv 1) pe_int (fun _ _ => rfl)) pe_int (fun _ _ => rfl)))
        (pe_op op_mul (pe_ix (r := rIxT K) ix_tup (pe_ix (r := rIxT K) ix_tup (pv 1) pe_int (fun _ _ => rfl)) pe_int (fun _ _ => rfl)) (pe_ix (r := rIxT K) ix_tup (pe_ix (r := rIxT K) ix_tup (pv 1) pe_int (fun _ _ => rfl)) pe_int (fun _ _ => rfl))))) pa_nil))), ?_⟩)
  · obtain ⟨a, as, l, rfl, _⟩ := h
    rfl
  · obtain ⟨a, as, l, rfl, ha, hP, hl, hb, q⟩ := h
    refine ⟨_, rfl, a, as, l, rfl, ha, hP, hl, fun H1 g bs s1 ng hg hB => ?_⟩
    have lb : bs.length = l.length := hB.len.trans (sides_len l)
    refine ⟨g, rfl, ⟨_, SqL.of hg⟩, fun D nD => ?_⟩
    refine lc_list (K := K) (a := g) (xs := bs.map V.ref) (fun i H' => Same H1 H' ∧ H' D = some (.lst ((dbs l i).map V.int))) ?_ ?_ ?_ ?_
    · exact ⟨Same.new nD, upd_same⟩
    · rintro i H2 _ ⟨s2, _⟩
      exact SqL.of (s2 _ _ hg)
    · rintro i y H2 hi ⟨s2, hD2⟩
      obtain ⟨b, hb', rfl⟩ := ref_of hi
      obtain ⟨sd, hs, p⟩ := hB.at hb'
      have il : i < l.length := by
        have := (List.getElem?_eq_some_iff.mp hb').1
        omega
      rw [sides_get il] at hs
      cases hs
      obtain ⟨x1, x2, hx, h1, h2⟩ := SiAt.tu (Tu.of s2) _ _ p
      have h0 : 0 < l.length := by omega
      have b1 := hb _ (at2_mem h0 i)
      have b2 := hb _ (at2_mem h0 (i + 1))
      have c1 := b1.a; have c2 := b1.b; have c3 := b1.c; have c4 := b1.d; have c5 := b2.a; have c6 := b2.b; have c7 := b2.c; have c8 := b2.d
      refine ⟨rfl, ?_⟩
      unfold tYes
      refine ifT rfl ?_
      refine ⟨_, rfl, b, _, 0, _, rfl, rfl, SqT.of hx, rfl, x1, _, 0, _, rfl, rfl, SqT.of h1, rfl, _, rfl, b, _, 1, _, rfl, rfl, SqT.of hx, rfl, x2, _, 1, _, rfl, rfl, SqT.of h2, rfl, _, _, rfl, rfl, .inl ⟨by dsimp only; omega, by dsimp only; omega⟩, ?_⟩
      refine ⟨_, rfl, b, _, 1, _, rfl, rfl, SqT.of hx, rfl, x2, _, 0, _, rfl, rfl, SqT.of h2, rfl, _, rfl, b, _, 0, _, rfl, rfl, SqT.of hx, rfl, x1, _, 1, _, rfl, rfl, SqT.of h1, rfl, _, _, rfl, rfl, .inl ⟨by dsimp only; omega, by dsimp only; omega⟩, ?_⟩
      refine ⟨_, _, rfl, rfl, _, hD2, ?_, ?_, ?_⟩
      · rw [List.length_map, dbs_len, szl]; omega
      · intro b o e
        rw [upd_ne (ne_of_none e nD)]
        exact s2 _ _ e
      · rw [upd_same, dbs_more, List.map_append]; rfl
    · rintro H2 ⟨s2, hD2⟩
      rw [List.length_map, lb] at hD2
      refine ⟨D, _, rfl, SqL.of hD2, ?_⟩
      rw [dbs_sum]
      exact q H2 (s1.trans s2)
end
end ScA
namespace ScA
open PySem PySem.Spec PyProof.Rows L2
open Sc
def wrongN (ns : List Int) : Prop := ns.length % 2 ≠ 0 ∨ ns.length / 2 < 3 ∨ 8 < ns.length / 2
def farN (ns : List Int) : Bool := ns.any fun x => decide (50 < x.natAbs)
theorem rd_bad1 {ns : List Int} (h : wrongN ns) : rdFig ns = none := by unfold rdFig; exact if_pos h
theorem rd_bad2 {ns : List Int} (h : farN ns = true) : rdFig ns = none := by
  unfold rdFig
  by_cases c : ns.length % 2 ≠ 0 ∨ ns.length / 2 < 3 ∨ 8 < ns.length / 2
  · exact if_pos c
  · exact (if_neg c).trans (if_pos h)
theorem rd_fig {ns : List Int} (h1 : ¬ wrongN ns) (h2 : farN ns = false) : rdFig ns = if figI (prs ns) = true then some (prs ns) else none := by
  unfold rdFig
  unfold farN at h2
  exact (if_neg h1).trans (if_neg (by rw [h2]; decide))
theorem prs_bd {ns : List Int} (h2 : farN ns = false) : ∀ c ∈ prs ns, Bd c := fun c hc => by
  have far : ∀ k, -50 ≤ ns.getD k 0 ∧ ns.getD k 0 ≤ 50 := fun k => by
    rw [List.getD_eq_getElem?_getD]
    cases e : ns[k]? with
    | none => exact ⟨by decide, by decide⟩
    | some x =>
      unfold farN at h2
      have := List.any_eq_false.mp h2 x (List.mem_of_getElem? e)
      rw [decide_eq_true_eq] at this
      show -50 ≤ x ∧ x ≤ 50
      omega
  obtain ⟨k, hk, e⟩ := List.mem_iff_getElem.mp hc
  rw [prs_len] at hk
  have e2 := prs_get ns k (by omega)
  rw [List.getElem?_eq_getElem (by rw [prs_len]; exact hk), e] at e2
  have e2 := Option.some.inj e2
  subst e2
  exact ⟨(far _).1, (far _).2, (far _).1, (far _).2⟩
def fars (ns : List Int) (i : Nat) : List Bool := (ns.take i).map fun x => decide (50 < x.natAbs)
theorem fars_more {ns : List Int} {i : Nat} {x : Int} (h : ns[i]? = some x) : fars ns (i + 1) = fars ns i ++ [decide (50 < x.natAbs)] := by
  unfold fars
  rw [take_more h, List.map_append]; rfl
theorem fars_any (ns : List Int) : (fars ns ns.length).any id = farN ns := by
  unfold fars farN
  rw [List.take_length, List.any_map]; rfl
theorem map_int {ns : List Int} {i : Nat} {y : V} (h : (ns.map V.int)[i]? = some y) : ∃ x, ns[i]? = some x ∧ y = V.int x := by
  rw [List.getElem?_map] at h
  cases e : ns[i]? with
  | none => rw [e] at h; cases h
  | some z => rw [e] at h; exact ⟨z, rfl, (Option.some.inj h).symm⟩
theorem int_map {ns : List Int} {i : Nat} (h : i < ns.length) : (ns.map V.int)[i]? = some (V.int (ns.getD i 0)) := by
  rw [List.getElem?_map, List.getD_eq_getElem?_getD, List.getElem?_eq_getElem h]; rfl
section
variable {Pg : Program} {w : World} {K : PySem.W.Frag} {mg : Str → Option Value} {base : Heap} {CF CS fS : Addr}
/-! read_corners -/
def spRc (K : PySem.W.Frag) (CF : Addr) : Sp := fun vs H Q E => ∃ (a : Addr) (ns : List Int), vs = [.ref a] ∧ SqL K H a (ns.map V.int) ∧ (wrongN ns → E (.ref CF) none H) ∧ (farN ns = true → ∀ H', Same H H' → E (.ref CF) none H') ∧
  (¬ wrongN ns → farN ns = false → ∀ H' q as, Same H H' → H q = none → H' q = some (.lst (as.map V.ref)) → LsAt CoAt H' as (prs ns) → Q (.ref q) H')
theorem scRc : FnScope ["row", "count", "number", "k"] ["row"] (defScope s_read_corners) := ⟨rfl, rfl, rfl, by decide +kernel, rfl, by decide +kernel, by decide +kernel⟩
theorem ok_rc {f : Addr} {fd : FuncData} (F : Fun K "read_corners" "read_corners" s_read_corners f fd) (T : ErrTxt K mg CF) (mLen : mg "len" = none) (mRange : mg "range" = none) (mAbs : mg "abs" = none) (mAny : mg "any" = none)
    {t1 t2 t3 : Tok} (m1 : mg "FEWEST_CORNERS" = some (.int 3 t1)) (m2 : mg "MOST_CORNERS" = some (.int 8 t2)) (m3 : mg "FARTHEST" = some (.int 50 t3)) :
    FnOk Pg w K mg base (L2.CX Pg w) 1 f fd ["row"] (spRc K CF) := by
  refine F.okX scRc (fun vs H Q E h => ?_) (fun cdv A outer s H vs Q E hr h => ⟨_,
    pss_cons (ps_set (i := 1) scRc.nd rfl (Or.inl rfl) (pe_op op_fdivNN (pe_callB call_len_seq (by rfl) mLen PySem.boot_len (pa_cons (pv 0) pa_nil)) pe_int))
    (pss_cons (ps_if (PW.pt (pw_or (pt_cmpR op_ne (pe_op op_mod (pe_callB call_len_seq (by rfl) mLen PySem.boot_len (pa_cons (pv 0) pa_nil)) pe_int) pe_int (nomark _))
        (pw_or (pt_cmpR op_lt (pv 1) (pe_glob (v := V.int 3) rfl m1 ⟨_, rfl⟩) (nomark _)) (pw_or1 (pt_cmpR op_gt (pv 1) (pe_glob (v := V.int 8) rfl m2 ⟨_, rfl⟩) (nomark _))))))
      (pss_one (ps_raise rfl (takes_of rfl rfl rfl rfl) (pmk_own PySem.F.excBase_ValueError T.x T.g T.k (raises_own T.b T.t) (by exact rfl)))) pss_nil)
    (pss_cons (ps_if (pt_val (pe_callB (cr_any rfl) (by rfl) mAny (by decide +kernel) (pa_cons (pe_lc (own := [("number", 2)]) (g := gName 2) (tt := tYes) rfl scRc.nd (pi_list (pv 0))
        (blkOk_by (own := [("number", 2)]) (N := ["row", "count", "number", "k"]) (sc := defScope s_read_corners) (by decide +kernel))
        (fun _ _ _ _ _ => pg_name (i := 2) scRc.nd rfl (Or.inl rfl))
        (fun _ _ _ _ _ => pts_nil)
        (fun _ _ _ _ _ => pe_cmpR op_gt (pe_callB call_abs (by rfl) mAbs (by decide +kernel) (pa_cons (pv 2) pa_nil)) (pe_glob (v := V.int 50) rfl m3 ⟨_, rfl⟩) (nomark _))) pa_nil)))
      (pss_one (ps_raise rfl (takes_of rfl rfl rfl rfl) (pmk_own PySem.F.excBase_ValueError T.x T.g T.k (raises_own T.b T.t) (by exact rfl)))) pss_nil)
    (pss_one (ps_ret (pe_lc (own := [("k", 3)]) (g := gName 3) (tt := tYes) rfl scRc.nd (pi_range1 rfl mRange (pa_cons (pv 1) pa_nil))
      (blkOk_by (own := [("k", 3)]) (N := ["row", "count", "number", "k"]) (sc := defScope s_read_corners) (by decide +kernel))
      (fun _ _ _ _ _ => pg_name (i := 3) scRc.nd rfl (Or.inl rfl))
      (fun _ _ _ _ _ => pts_nil)
      (fun _ _ _ _ _ => pe_tup (pa_cons (pe_ix (r := rIxL K) ix_list (pv 0) (pe_op op_mul pe_int (pv 3)) (fun _ _ => rfl)) (pa_cons (pe_ix (r := rIxL K) ix_list (pv 0) (pe_op op_add (pe_op op_mul pe_int (pv 3)) pe_int) (fun _ _ => rfl)) pa_nil)))))))), ?_⟩)
  · obtain ⟨a, ns, rfl, _⟩ := h
    rfl
  · obtain ⟨a, ns, rfl, hS, kE1, kE2, kQ⟩ := h
    have ef : (ns.map V.int).length = ns.length := List.length_map _
    refine ⟨_, rfl, a, _, rfl, .inl hS, _, 2, rfl, rfl, ⟨by decide, by decide⟩, ?_⟩
    refine ⟨_, rfl, a, _, rfl, .inl hS, _, _, rfl, rfl, (by show (0 : Int) < 2; decide), rfl, _, rfl, ?_⟩
    by_cases c1 : ns.length % 2 = 0
    · refine ifF (by rw [List.length_map]; simp; omega) ?_
      refine ⟨_, rfl, _, _, rfl, rfl, _, rfl, ?_⟩
      by_cases c2 : ns.length / 2 < 3
      · refine ifT (decide_eq_true (by omega)) ?_
        exact ifT rfl (kE1 (.inr (.inl c2)))
      · refine ifF (decide_eq_false (by omega)) ?_
        refine ⟨_, rfl, _, _, rfl, rfl, _, rfl, ?_⟩
        by_cases c3 : 8 < ns.length / 2
        · exact ifT (decide_eq_true (by omega)) (kE1 (.inr (.inr c3)))
        · refine ifF (decide_eq_false (by omega)) ?_
          have nw : ¬ wrongN ns := by unfold wrongN; omega
          refine ⟨_, rfl, a, rfl, ⟨_, hS⟩, fun D nD => ?_⟩
          refine lc_list (K := K) (a := a) (xs := ns.map V.int) (fun i H' => Same H H' ∧ H' D = some (.lst ((fars ns i).map V.bl))) ?_ ?_ ?_ ?_
          · exact ⟨Same.new nD, upd_same⟩
          · rintro i H2 _ ⟨s2, _⟩
            exact s2.seq hS
          · rintro i y H2 hi ⟨s2, hD2⟩
            obtain ⟨x, hx, rfl⟩ := map_int hi
            have hil := (List.getElem?_eq_some_iff.mp hx).1
            refine ⟨rfl, ?_⟩
            unfold tYes
            refine ifT rfl ?_
            refine ⟨_, rfl, _, rfl, _, _, rfl, rfl, _, hD2, ?_, ?_, ?_⟩
            · rw [List.length_map, szl]; unfold fars; rw [List.length_map, List.length_take]; omega
            · intro b o e
              rw [upd_ne (ne_of_none e nD)]
              exact s2 _ _ e
            · rw [upd_same, fars_more hx, List.map_append]
              have e : decide ((50 : Int) < (if x < 0 then -x else x)) = decide (50 < x.natAbs) := by
                rw [decide_eq_decide]; split <;> omega
              show _ = some (HO.lst (_ ++ [V.bl (decide (50 < x.natAbs))]))
              rw [← e]
          · rintro H2 ⟨s2, hD2⟩
            rw [List.length_map] at hD2
            refine ⟨D, _, rfl, SqL.of hD2, _, rfl, ?_⟩
            rw [fars_any]
            cases cf : farN ns with
            | true => exact ifT rfl (kE2 cf H2 s2)
            | false =>
              refine ifF rfl ?_
              refine ⟨_, rfl, _, rfl, by omega, by omega, fun D3 nD3 => ?_⟩
              rw [Int.toNat_natCast, ef]
              refine lc_range (lo := 0) (n := ns.length / 2) (fun i H' => Same H2 H' ∧ ∃ as, H' D3 = some (.lst (as.map V.ref)) ∧ LsAt CoAt H' as ((prs ns).take i)) ?_ ?_ ?_
              · exact ⟨Same.new nD3, [], upd_same, trivial⟩
              · rintro i H3 hi ⟨s3, as, hD4, hP4⟩
                have hS3 : SqL K H3 a (ns.map V.int) := s3.seq (s2.seq hS)
                have g1 := int_map (show 2 * i < ns.length by omega)
                have g2 := int_map (show 2 * i + 1 < ns.length by omega)
                have gp := prs_get ns i (by omega)
                have l4 := hP4.len
                rw [List.length_take, prs_len] at l4
                refine ⟨rfl, ?_⟩
                unfold tYes
                refine ifT rfl ?_
                refine ⟨_, rfl, _, rfl, _, _, rfl, rfl, .inl ⟨by omega, by omega⟩, a, _, _, _, rfl, rfl, hS3, at_of (by omega) g1, _, rfl, _, rfl, _, _, rfl, rfl, .inl ⟨by omega, by omega⟩, _, _, rfl, rfl, a, _, _, _, rfl, rfl, hS3, at_of (by omega) g2, (by show 2 ≤ sizeLine; decide), fun p np => ?_⟩
                have s5 := Same.new (o := .tup [.int (ns.getD (2 * i) 0), .int (ns.getD (2 * i + 1) 0)]) np
                have hD5 := s5 _ _ hD4
                have t6 := Tu.lst (o := .lst (as.map V.ref ++ [V.ref p])) hD5
                refine ⟨_, hD5, ?_, ?_, as ++ [p], ?_, ?_⟩
                · rw [List.length_map, szl]; omega
                · intro b o e
                  rw [upd_ne (ne_of_none e nD3)]
                  exact s5 _ _ (s3 _ _ e)
                · rw [upd_same, List.map_append]; rfl
                · rw [take_more gp]
                  exact LsAt.snoc (t6 _ _ upd_same) (LsAt.tu (CoAt.tu ((Tu.of s5).trans t6)) hP4)
              · rintro H3 ⟨s3, as, hD4, hP4⟩
                rw [← prs_len, List.take_length] at hP4
                exact kQ nw cf H3 D3 as (s2.trans s3) (s2.free nD3) hD4 hP4
    · refine ifT (by rw [List.length_map]; simp; omega) ?_
      exact ifT rfl (kE1 (.inl c1))
end
end ScA
namespace ScA
open PySem PySem.Spec PyProof.Rows L2
open Sc
section
variable {Pg : Program} {w : World} {K : PySem.W.Frag} {mg : Str → Option Value} {base : Heap} {CF CS fS : Addr}
/-! read_figure -/
def spRf (K : PySem.W.Frag) (CF : Addr) : Sp := fun vs H Q E => ∃ (a : Addr) (ns : List Int), vs = [.ref a] ∧ SqL K H a (ns.map V.int) ∧ (rdFig ns = none → ∀ H', Same H H' → E (.ref CF) none H') ∧
  ∀ l, rdFig ns = some l → ∀ H' q as, Same H H' → H q = none → H' q = some (.lst (as.map V.ref)) → LsAt CoAt H' as l → Q (.ref q) H'
theorem scRf : FnScope ["row", "corners"] ["row"] (defScope s_read_figure) := ⟨rfl, rfl, rfl, by decide +kernel, rfl, by decide +kernel, by decide +kernel⟩
theorem ok_rf {f fC fS2 fT fO fD : Addr} {fd fdC fdS fdT fdO fdD : FuncData} (F : Fun K "read_figure" "read_figure" s_read_figure f fd) (T : ErrTxt K mg CF)
    (GC : FnOk Pg w K mg base (L2.CX Pg w) 1 fC fdC ["row"] (spRc K CF)) (mC : mg "read_corners" = some (.ref fC)) (kC : PySem.W.keepIn K (.ref fC) = true) (bC : Binds K fdC ["row"] [])
    (GS : FnOk Pg w K mg base CX0 2 fS2 fdS ["corners"] spHs) (mS : mg "has_straight_corner" = some (.ref fS2)) (kS : PySem.W.keepIn K (.ref fS2) = true) (bS : Binds K fdS ["corners"] [])
    (GT : FnOk Pg w K mg base CX0 4 fT fdT ["sides"] spIt) (mT : mg "is_tangled" = some (.ref fT)) (kT : PySem.W.keepIn K (.ref fT) = true) (bT : Binds K fdT ["sides"] [])
    (GO : FnOk Pg w K mg base CX0 1 fO fdO ["corners"] spSo) (mO : mg "sides_of" = some (.ref fO)) (kO : PySem.W.keepIn K (.ref fO) = true) (bO : Binds K fdO ["corners"] [])
    (GD : FnOk Pg w K mg base CX0 2 fD fdD ["corners"] spDs) (mD : mg "double_size" = some (.ref fD)) (kD : PySem.W.keepIn K (.ref fD) = true) (bD : Binds K fdD ["corners"] []) :
    FnOk Pg w K mg base (L2.CX Pg w) 5 f fd ["row"] (spRf K CF) := by
  refine F.okX scRf (fun vs H Q E h => ?_) (fun cdv A outer s H vs Q E hr h => ⟨_,
    pss_cons (ps_set (i := 1) scRf.nd rfl (Or.inl rfl) (pe_call GC (hr.mono (by decide)) rfl mC kC bC .nil (passes_call (takes_of rfl rfl rfl rfl) (fun _ _ _ _ h => h)) (pa_cons (pv 0) pa_nil)))
    (pss_cons (ps_if (pt_val (pe_call GS (hr.mono (by decide)) rfl mS kS bS .nil pass0 (pa_cons (pv 1) pa_nil)))
      (pss_one (ps_raise rfl (takes_of rfl rfl rfl rfl) (pmk_own PySem.F.excBase_ValueError T.x T.g T.k (raises_own T.b T.t) (by exact rfl)))) pss_nil)
    (pss_cons (ps_if (pt_val (pe_call GT (hr.mono (by decide)) rfl mT kT bT .nil pass0 (pa_cons (pe_call GO (hr.mono (by decide)) rfl mO kO bO .nil pass0 (pa_cons (pv 1) pa_nil)) pa_nil)))
      (pss_one (ps_raise rfl (takes_of rfl rfl rfl rfl) (pmk_own PySem.F.excBase_ValueError T.x T.g T.k (raises_own T.b T.t) (by exact rfl)))) pss_nil)
    (pss_cons (ps_if (pt_cmpR op_le (pe_call GD (hr.mono (by decide)) rfl mD kD bD .nil pass0 (pa_cons (pv 1) pa_nil)) pe_int (nomark _))
      (pss_one (ps_raise rfl (takes_of rfl rfl rfl rfl) (pmk_own PySem.F.excBase_ValueError T.x T.g T.k (raises_own T.b T.t) (by exact rfl)))) pss_nil)
    (pss_one (ps_ret (pv 1)))))), ?_⟩)
  · obtain ⟨a, ns, rfl, _⟩ := h
    rfl
  · obtain ⟨a, ns, rfl, hS, kE, kQ⟩ := h
    refine ⟨_, rfl, a, ns, rfl, hS, fun hw => kE (rd_bad1 hw) H (fun _ _ e => e), fun hw H' s1 => kE (rd_bad2 hw) H' s1, fun nw nf H1 g as s1 ng hg hP => ?_⟩
    have e0 := rd_fig nw nf
    have bd := prs_bd nf
    have hl : (prs ns).length ≤ 1000 := by rw [prs_len]; unfold wrongN at nw; omega
    generalize prs ns = l at *
    refine ⟨_, rfl, g, as, l, rfl, hg, hP, hl, bd, fun H2 s2 => ⟨_, rfl, ?_⟩⟩
    unfold figI at e0
    cases c1 : straightI l with
    | true =>
      rw [c1] at e0
      exact ifT rfl (kE e0 H2 (s1.trans s2))
    | false =>
      rw [c1] at e0
      refine ifF rfl ?_
      refine ⟨_, rfl, g, as, l, rfl, s2 _ _ hg, LsAt.tu (CoAt.tu (Tu.of s2)) hP, hl, fun H3 g3 bs s3 n3 h3 hB => ?_⟩
      refine ⟨g3, bs, l, rfl, h3, hB, hl, bd, _, rfl, ?_⟩
      cases c2 : tangledI l with
      | true =>
        rw [c2] at e0
        exact ifT rfl (kE e0 H3 (s1.trans (s2.trans s3)))
      | false =>
        rw [c2] at e0
        refine ifF rfl ?_
        have s23 := s2.trans s3
        refine ⟨_, rfl, g, as, l, rfl, s23 _ _ hg, LsAt.tu (CoAt.tu (Tu.of s23)) hP, hl, bd, fun H4 s4 => ?_⟩
        have s24 := s23.trans s4
        refine ⟨_, _, rfl, rfl, _, rfl, ?_⟩
        by_cases c3 : dblI l ≤ 0
        · rw [decide_eq_false (show ¬ 0 < dblI l by omega)] at e0
          exact ifT (decide_eq_true c3) (kE e0 H4 (s1.trans s24))
        · rw [decide_eq_true (show 0 < dblI l by omega)] at e0
          refine ifF (decide_eq_false c3) ?_
          exact ⟨_, rfl, kQ l e0 H4 g as (s1.trans s24) ng (s24 _ _ hg) (LsAt.tu (CoAt.tu (Tu.of s24)) hP)⟩
end
end ScA
namespace ScA
open PySem PySem.Spec PyProof.Rows L2
open Sc
def BdAt (H : Hp) (a : Addr) (b : Fr × Fr) : Prop := ∃ x y, H a = some (.tup [.ref x, .ref y]) ∧ FrAt H x b.1 ∧ FrAt H y b.2
theorem BdAt.tu {H H' : Hp} (t : Tu H H') (a : Addr) (c : Fr × Fr) (h : BdAt H a c) : BdAt H' a c :=
  let ⟨x, y, h1, h2, h3⟩ := h
  ⟨x, y, t _ _ h1, t _ _ h2, t _ _ h3⟩
theorem p100 {z : Int} (h1 : -30000 ≤ z) (h2 : z ≤ 30000) : z.natAbs < 2 ^ 13500 :=
  Nat.lt_of_lt_of_le (show z.natAbs < 2 ^ 15 by omega) (Nat.pow_le_pow_right (by decide) (by decide))
section
variable {Pg : Program} {w : World} {K : PySem.W.Frag} {mg : Str → Option Value} {base : Heap} {CF CS fS : Addr}
/-! slice_numbers -/
def spSn (CS : Addr) : Sp := fun vs H Q _ => ∃ (t : Addr) (a b c e : Pt), vs = [.ref t] ∧ SliceAt CS H t a b c e ∧ ∀ H' q, Same H H' → H q = none → H' q = some (.lst ((Kzq1.written [a, b, c, e]).map V.int)) → Q (.ref q) H'
theorem scSn : FnScope ["told", "below", "above"] ["told"] (defScope s_slice_numbers) := ⟨rfl, rfl, rfl, by decide +kernel, rfl, by decide +kernel, by decide +kernel⟩
theorem ok_sn {f fP : Addr} {fd fdP : FuncData} (F : Fun K "slice_numbers" "slice_numbers" s_slice_numbers f fd) (T : ClsTxt K mg "Slice" CS fS slN)
    (GP : FnOk Pg w K mg base CX0 1 fP fdP ["point"] spPn) (mP : mg "point_numbers" = some (.ref fP)) (kP : PySem.W.keepIn K (.ref fP) = true) (bP : Binds K fdP ["point"] []) : FnOk Pg w K mg base CX0 2 f fd ["told"] (spSn CS) := by
  refine F.ok scSn (fun vs H Q E h => ?_) (fun cdv A outer s H vs Q E hr h => ⟨_,
    pss_cons (ps_set (i := 1) scSn.nd rfl (Or.inl rfl) (pe_op op_cat (pe_call GP hr rfl mP kP bP .nil pass0 (pa_cons (pe_fld (pv 0) rfl) pa_nil)) (pe_call GP hr rfl mP kP bP .nil pass0 (pa_cons (pe_fld (pv 0) rfl) pa_nil))))
    (pss_cons (ps_set (i := 2) scSn.nd rfl (Or.inl rfl) (pe_op op_cat (pe_call GP hr rfl mP kP bP .nil pass0 (pa_cons (pe_fld (pv 0) rfl) pa_nil)) (pe_call GP hr rfl mP kP bP .nil pass0 (pa_cons (pe_fld (pv 0) rfl) pa_nil))))
    (pss_one (ps_ret (pe_op op_cat (pv 1) (pv 2))))), ?_⟩)
  · obtain ⟨t, a, b, c, e, rfl, _⟩ := h
    rfl
  · obtain ⟨t, a, b, c, e, rfl, ⟨dx, xa, xb, xc, xe, ht, pa, pb, pc, pe⟩, q⟩ := h
    refine ⟨_, rfl, t, CS, dx, _, _, rfl, ht, T.cl, T.n _ (by simp [slN]), sl_lb, xa, a, rfl, pa, fun q1 n1 => ?_⟩
    have s1 := Same.new (o := .lst ((ptN a).map V.int)) n1
    refine ⟨_, rfl, t, CS, dx, _, _, rfl, s1 _ _ ht, T.cl, T.n _ (by simp [slN]), sl_rb, xb, b, rfl, pb.mono s1, fun q2 n2 => ?_⟩
    have s2 := Same.new (o := .lst ((ptN b).map V.int)) n2
    refine ⟨q1, q2, _, _, rfl, rfl, s2 _ _ upd_same, upd_same, (by show 8 ≤ sizeLine; decide), fun q3 n3 => ?_⟩
    have s3 := Same.new (o := .lst ((ptN a).map V.int ++ (ptN b).map V.int)) n3
    have t3 := s1.trans (s2.trans s3)
    refine ⟨_, rfl, t, CS, dx, _, _, rfl, t3 _ _ ht, T.cl, T.n _ (by simp [slN]), sl_ra, xc, c, rfl, pc.mono t3, fun q4 n4 => ?_⟩
    have s4 := Same.new (o := .lst ((ptN c).map V.int)) n4
    have t4 := t3.trans s4
    refine ⟨_, rfl, t, CS, dx, _, _, rfl, t4 _ _ ht, T.cl, T.n _ (by simp [slN]), sl_la, xe, e, rfl, pe.mono t4, fun q5 n5 => ?_⟩
    have s5 := Same.new (o := .lst ((ptN e).map V.int)) n5
    refine ⟨q4, q5, _, _, rfl, rfl, s5 _ _ upd_same, upd_same, (by show 8 ≤ sizeLine; decide), fun q6 n6 => ?_⟩
    have s6 := Same.new (o := .lst ((ptN c).map V.int ++ (ptN e).map V.int)) n6
    refine ⟨_, rfl, _, rfl, q3, q6, _, _, rfl, rfl, (s4.trans (s5.trans s6)) _ _ upd_same, upd_same, (by show 16 ≤ sizeLine; decide), fun q7 n7 => ?_⟩
    have s7 := Same.new (o := .lst (((ptN a).map V.int ++ (ptN b).map V.int) ++ ((ptN c).map V.int ++ (ptN e).map V.int))) n7
    refine q _ q7 (t4.trans (s5.trans (s6.trans s7))) ((t4.trans (s5.trans s6)).free n7) ?_
    rw [upd_same]
    rfl
/-! reaches_through -/
def spRt : Sp := fun vs H Q _ => ∃ (x : Addr) (s : S2) (lo hi : Int), vs = [.ref x, .int lo, .int hi] ∧ SiAt H x s ∧ Q (.bl (reachS s lo hi)) H
theorem scRt : FnScope ["side", "low", "high"] ["side", "low", "high"] (defScope s_reaches_through) := ⟨rfl, rfl, rfl, by decide +kernel, rfl, by decide +kernel, by decide +kernel⟩
theorem ok_rt {f : Addr} {fd : FuncData} (F : Fun K "reaches_through" "reaches_through" s_reaches_through f fd) (mMin : mg "min" = none) (mMax : mg "max" = none) : FnOk Pg w K mg base CX0 1 f fd ["side", "low", "high"] spRt := by
  refine F.ok scRt (fun vs H Q E h => ?_) (fun cdv A outer s H vs Q E hr h => ⟨_, pss_one (ps_ret (pe_and (pe_cmpR op_le (pe_callB (call_min2 rfl) (by rfl) mMin (by decide +kernel) (pa_cons (pe_ix ix_tup (pe_ix ix_tup (pv 0) pe_int (fun _ _ => rfl)) pe_int (fun _ _ => rfl)) (pa_cons (pe_ix ix_tup (pe_ix ix_tup (pv 0) pe_int (fun _ _ => rfl)) pe_int (fun _ _ => rfl)) pa_nil))) (pv 1) (nomark _))
    (pe_one (pe_cmpR op_ge (pe_callB (call_max2 rfl) (by rfl) mMax (by decide +kernel) (pa_cons (pe_ix ix_tup (pe_ix ix_tup (pv 0) pe_int (fun _ _ => rfl)) pe_int (fun _ _ => rfl)) (pa_cons (pe_ix ix_tup (pe_ix ix_tup (pv 0) pe_int (fun _ _ => rfl)) pe_int (fun _ _ => rfl)) pa_nil))) (pv 2) (nomark _))))), ?_⟩)
  · obtain ⟨x, s, lo, hi, rfl, _⟩ := h
    rfl
  · obtain ⟨x, s, lo, hi, rfl, ⟨x1, x2, hx, h1, h2⟩, q⟩ := h
    unfold reachS at q
    refine ⟨_, rfl, x, _, 0, _, rfl, rfl, SqT.of hx, rfl, x1, _, 1, _, rfl, rfl, SqT.of h1, rfl, _, rfl, x, _, 1, _, rfl, rfl, SqT.of hx, rfl, x2, _, 1, _, rfl, rfl, SqT.of h2, rfl, _, _, rfl, _, rfl, _, _, rfl, rfl, _, rfl, ?_⟩
    cases k : decide ((if s.2.2 < s.1.2 then s.2.2 else s.1.2) ≤ lo) with
    | false => rw [k] at q; exact ifF rfl q
    | true =>
      rw [k, Bool.true_and] at q
      exact ifT rfl ⟨_, rfl, x, _, 0, _, rfl, rfl, SqT.of hx, rfl, x1, _, 1, _, rfl, rfl, SqT.of h1, rfl, _, rfl, x, _, 1, _, rfl, rfl, SqT.of hx, rfl, x2, _, 1, _, rfl, rfl, SqT.of h2, rfl, _, _, rfl, _, rfl, _, _, rfl, rfl, q⟩
/-! right_at -/
def spRa : Sp := fun vs H Q _ => ∃ (x : Addr) (s : S2) (h : Int), vs = [.ref x, .int h] ∧ SiAt H x s ∧ Bd s.1 ∧ Bd s.2 ∧ -50 ≤ h ∧ h ≤ 50 ∧ s.2.2 ≠ s.1.2 ∧ ∀ H' p, Same H H' → H p = none → FrAt H' p (rightAt s h) → Q (.ref p) H'
theorem scRa : FnScope ["side", "height", "start", "rise"] ["side", "height"] (defScope s_right_at) := ⟨rfl, rfl, rfl, by decide +kernel, rfl, by decide +kernel, by decide +kernel⟩
theorem ok_ra {f fR : Addr} {fd fdR : FuncData} (F : Fun K "right_at" "right_at" s_right_at f fd) (GR : FnOk Pg w K mg base CX0 2 fR fdR ["top", "bottom"] spRat) (mR : mg "ratio" = some (.ref fR)) (kR : PySem.W.keepIn K (.ref fR) = true) (bR : Binds K fdR ["top", "bottom"] []) :
    FnOk Pg w K mg base CX0 3 f fd ["side", "height"] spRa := by
  refine F.ok scRa (fun vs H Q E h => ?_) (fun cdv A outer s H vs Q E hr h => ⟨_, pss_cons (ps_set (i := 2) scRa.nd rfl (Or.inl rfl) (pe_ix ix_tup (pv 0) pe_int (fun _ _ => rfl)))
    (pss_cons (ps_set (i := 3) scRa.nd rfl (Or.inl rfl) (pe_op op_sub (pe_ix ix_tup (pe_ix ix_tup (pv 0) pe_int (fun _ _ => rfl)) pe_int (fun _ _ => rfl)) (pe_ix ix_tup (pv 2) pe_int (fun _ _ => rfl))))
    (pss_one (ps_ret (pe_call GR hr rfl mR kR bR .nil pass0 (pa_cons (pe_op op_add (pe_op op_mul (pe_ix ix_tup (pv 2) pe_int (fun _ _ => rfl)) (pv 3))
      (pe_op op_mul (pe_op op_sub (pe_ix ix_tup (pe_ix ix_tup (pv 0) pe_int (fun _ _ => rfl)) pe_int (fun _ _ => rfl)) (pe_ix ix_tup (pv 2) pe_int (fun _ _ => rfl))) (pe_op op_sub (pv 1) (pe_ix ix_tup (pv 2) pe_int (fun _ _ => rfl))))) (pa_cons (pv 3) pa_nil)))))), ?_⟩)
  · obtain ⟨x, s, h, rfl, _⟩ := h
    rfl
  · obtain ⟨x, s, h, rfl, ⟨x1, x2, hx, h1, h2⟩, b1, b2, g1, g2, hne, q⟩ := h
    have c1 := b1.a; have c2 := b1.b; have c3 := b1.c; have c4 := b1.d; have c5 := b2.a; have c6 := b2.b; have c7 := b2.c; have c8 := b2.d
    refine ⟨_, rfl, x, _, 0, _, rfl, rfl, SqT.of hx, rfl, ?_⟩
    refine ⟨_, rfl, x, _, 1, _, rfl, rfl, SqT.of hx, rfl, x2, _, 1, _, rfl, rfl, SqT.of h2, rfl, _, rfl, x1, _, 1, _, rfl, rfl, SqT.of h1, rfl, _, _, rfl, rfl, ?_⟩
    refine ⟨_, rfl, x1, _, 0, _, rfl, rfl, SqT.of h1, rfl, _, rfl, _, _, rfl, rfl, .inl ⟨by omega, by omega⟩, ?_⟩
    refine ⟨_, rfl, x, _, 1, _, rfl, rfl, SqT.of hx, rfl, x2, _, 0, _, rfl, rfl, SqT.of h2, rfl, _, rfl, x1, _, 0, _, rfl, rfl, SqT.of h1, rfl, _, _, rfl, rfl, ?_⟩
    refine ⟨_, rfl, _, rfl, x1, _, 1, _, rfl, rfl, SqT.of h1, rfl, _, _, rfl, rfl, _, _, rfl, rfl, .inl ⟨by omega, by omega⟩, _, _, rfl, rfl, ?_⟩
    have mm : ∀ x y : Int, -100 ≤ x → x ≤ 100 → -100 ≤ y → y ≤ 100 → -10000 ≤ x * y ∧ x * y ≤ 10000 := fun x y h1 h2 h3 h4 => by
      have e1 : (x * y).natAbs ≤ 10000 := by
        rw [Int.natAbs_mul]
        exact Nat.mul_le_mul (show x.natAbs ≤ 100 by omega) (show y.natAbs ≤ 100 by omega)
      omega
    have m1 := mm s.1.1 (s.2.2 - s.1.2) (by omega) (by omega) (by omega) (by omega)
    have m2 := mm (s.2.1 - s.1.1) (h - s.1.2) (by omega) (by omega) (by omega) (by omega)
    exact ⟨_, rfl, _, _, rfl, by omega, p100 (by omega) (by omega), p100 (by omega) (by omega), q⟩
/-! top_over -/
def spTo : Sp := fun vs H Q _ => ∃ (x : Addr) (q : Fr) (c : Int), vs = [.ref x, .int c] ∧ FrAt H x q ∧ 0 < q.d ∧ q.d < 2 ^ 1000 ∧ q.n.natAbs < 2 ^ 1000 ∧ (c.fdiv (q.d : Int)).natAbs < 2 ^ 1000 ∧ Q (.int (q.n * c.fdiv (q.d : Int))) H
theorem scTo : FnScope ["fraction", "common"] ["fraction", "common"] (defScope s_top_over) := ⟨rfl, rfl, rfl, by decide +kernel, rfl, by decide +kernel, by decide +kernel⟩
theorem ok_to {f : Addr} {fd : FuncData} (F : Fun K "top_over" "top_over" s_top_over f fd) : FnOk Pg w K mg base CX0 1 f fd ["fraction", "common"] spTo := by
  refine F.ok scTo (fun vs H Q E h => ?_) (fun cdv A outer s H vs Q E hr h => ⟨_, pss_one (ps_ret (pe_op op_mulW (pe_ix ix_tup (pv 0) pe_int (fun _ _ => rfl)) (pe_op op_fdivY (pv 1) (pe_ix ix_tup (pv 0) pe_int (fun _ _ => rfl))))), ?_⟩)
  · obtain ⟨x, q, c, rfl, _⟩ := h
    rfl
  · obtain ⟨x, q, c, rfl, hx, h0, h1, h2, h3, k⟩ := h
    refine ⟨_, rfl, x, _, 0, _, rfl, rfl, SqT.of hx, rfl, _, rfl, _, rfl, x, _, 1, _, rfl, rfl, SqT.of hx, rfl, _, _, rfl, rfl, ⟨by omega, ?_⟩, _, _, rfl, rfl, wmul h2 h3 (by decide), k⟩
    rw [Int.natAbs_natCast]
    exact Nat.lt_of_lt_of_le h1 (Nat.pow_le_pow_right (by decide) (by decide))
/-! bounded_slice -/
def spBs (CS : Addr) : Sp := fun vs H Q _ => ∃ (x y : Addr) (b c : Fr × Fr) (lo hi : Int), vs = [.ref x, .ref y, .int lo, .int hi] ∧ BdAt H x b ∧ BdAt H y c ∧
  ∀ H' t, Same H H' → H t = none → SliceAt CS H' t ⟨b.1, Kzq1.whole lo⟩ ⟨c.1, Kzq1.whole lo⟩ ⟨c.2, Kzq1.whole hi⟩ ⟨b.2, Kzq1.whole hi⟩ → Q (.ref t) H'
theorem scBs : FnScope ["left", "right", "low", "high", "below", "above"] ["left", "right", "low", "high"] (defScope s_bounded_slice) := ⟨rfl, rfl, rfl, by decide +kernel, rfl, by decide +kernel, by decide +kernel⟩
theorem ok_bs {f : Addr} {fd fdI : FuncData} (F : Fun K "bounded_slice" "bounded_slice" s_bounded_slice f fd) (T : ClsTxt K mg "Slice" CS fS slN)
    (GI : FnOk Pg w K mg base CX0 1 fS fdI ["self", "left_below", "right_below", "right_above", "left_above"] (spSlI CS)) (bI : Binds K fdI ["self", "left_below", "right_below", "right_above", "left_above"] []) :
    FnOk Pg w K mg base CX0 3 f fd ["left", "right", "low", "high"] (spBs CS) := by
  refine F.ok scBs (fun vs H Q E h => ?_) (fun cdv A outer s H vs Q E hr h => ⟨_,
    pss_cons (ps_set (i := 4) scBs.nd rfl (Or.inl rfl) (pe_tup (pa_cons (pv 2) (pa_cons pe_int pa_nil))))
    (pss_cons (ps_set (i := 5) scBs.nd rfl (Or.inl rfl) (pe_tup (pa_cons (pv 3) (pa_cons pe_int pa_nil))))
    (pss_one (ps_ret (pe_make T.m GI (hr.mono (by decide)) rfl T.g bI .nil pass0 (pa_cons (pe_tup (pa_cons (pe_ix ix_tup (pv 0) pe_int (fun _ _ => rfl)) (pa_cons (pv 4) pa_nil))) (pa_cons (pe_tup (pa_cons (pe_ix ix_tup (pv 1) pe_int (fun _ _ => rfl)) (pa_cons (pv 4) pa_nil)))
      (pa_cons (pe_tup (pa_cons (pe_ix ix_tup (pv 1) pe_int (fun _ _ => rfl)) (pa_cons (pv 5) pa_nil))) (pa_cons (pe_tup (pa_cons (pe_ix ix_tup (pv 0) pe_int (fun _ _ => rfl)) (pa_cons (pv 5) pa_nil))) pa_nil)))))))), ?_⟩)
  · obtain ⟨x, y, b, c, lo, hi, rfl, _⟩ := h
    rfl
  · obtain ⟨x, y, b, c, lo, hi, rfl, ⟨x1, x2, hx, hx1, hx2⟩, ⟨y1, y2, hy, hy1, hy2⟩, q⟩ := h
    refine ⟨_, rfl, (by show 2 ≤ sizeLine; decide), fun p1 n1 => ?_⟩
    have s1 := Same.new (o := .tup [.int lo, .int 1]) n1
    refine ⟨_, rfl, (by show 2 ≤ sizeLine; decide), fun p2 n2 => ?_⟩
    have s2 := Same.new (o := .tup [.int hi, .int 1]) n2
    have t2 := s1.trans s2
    refine ⟨_, rfl, x, _, 0, _, rfl, rfl, SqT.of (t2 _ _ hx), rfl, _, rfl, (by show 2 ≤ sizeLine; decide), fun p3 n3 => ?_⟩
    have s3 := Same.new (o := .tup [.ref x1, .ref p1]) n3
    have t3 := t2.trans s3
    refine ⟨_, rfl, y, _, 0, _, rfl, rfl, SqT.of (t3 _ _ hy), rfl, _, rfl, (by show 2 ≤ sizeLine; decide), fun p4 n4 => ?_⟩
    have s4 := Same.new (o := .tup [.ref y1, .ref p1]) n4
    have t4 := t3.trans s4
    refine ⟨_, rfl, y, _, 1, _, rfl, rfl, SqT.of (t4 _ _ hy), rfl, _, rfl, (by show 2 ≤ sizeLine; decide), fun p5 n5 => ?_⟩
    have s5 := Same.new (o := .tup [.ref y2, .ref p2]) n5
    have t5 := t4.trans s5
    refine ⟨_, rfl, x, _, 1, _, rfl, rfl, SqT.of (t5 _ _ hx), rfl, _, rfl, (by show 2 ≤ sizeLine; decide), fun p6 n6 => ?_⟩
    have s6 := Same.new (o := .tup [.ref x2, .ref p2]) n6
    have t6 := t5.trans s6
    intro t dx nt nd ne
    refine ⟨t, dx, _, _, _, _, rfl, upd_same, fun H2 h2 k2 => ⟨rfl, ?_⟩⟩
    have s7 : Same _ H2 := Same.made nt nd k2
    have u6 := s6.trans s7
    have u5 := s5.trans u6
    have u4 := s4.trans u5
    have u3 := s3.trans u4
    have u2 := s2.trans u3
    have t7 := t6.trans s7
    have hp1 : FrAt H2 p1 (Kzq1.whole lo) := u2 _ _ upd_same
    have hp2 : FrAt H2 p2 (Kzq1.whole hi) := u3 _ _ upd_same
    exact q H2 t t7 (t6.free nt) ⟨dx, p3, p4, p5, p6, h2, ⟨x1, p1, u4 _ _ upd_same, t7 _ _ hx1, hp1⟩, ⟨y1, p1, u5 _ _ upd_same, t7 _ _ hy1, hp1⟩, ⟨y2, p2, u6 _ _ upd_same, t7 _ _ hy2, hp2⟩, ⟨x2, p2, s7 _ _ upd_same, t7 _ _ hx2, hp2⟩⟩
end
end ScA
namespace ScA
open PySem PySem.Spec PyProof.Rows L2
open Sc
/-! in order from the left -/
def dS (b : Fr × Fr) : Nat := (Kzq1.add b.1 b.2).d
def cmN : List (Fr × Fr) → Nat
  | [] => 1
  | b :: r => dS b * cmN r
theorem cmN_snoc (b : Fr × Fr) : ∀ l, cmN (l ++ [b]) = cmN l * dS b
  | [] => by show dS b * 1 = 1 * dS b; omega
  | x :: l => by
    show dS x * cmN (l ++ [b]) = dS x * cmN l * dS b
    rw [cmN_snoc b l, Nat.mul_assoc]
theorem cmN_dvd {b : Fr × Fr} : ∀ {l : List (Fr × Fr)}, b ∈ l → dS b ∣ cmN l
  | x :: l, h => by
    rcases List.mem_cons.mp h with rfl | h
    · exact Nat.dvd_mul_right _ _
    · exact Nat.dvd_trans (cmN_dvd h) (Nat.dvd_mul_left _ _)
theorem cmN_pos : ∀ {l : List (Fr × Fr)}, (∀ b ∈ l, 0 < dS b) → 0 < cmN l
  | [], _ => Nat.one_pos
  | x :: l, h => Nat.mul_pos (h x List.mem_cons_self) (cmN_pos fun b hb => h b (List.mem_cons_of_mem _ hb))
theorem cmN_lt {k : Nat} : ∀ {l : List (Fr × Fr)}, (∀ b ∈ l, dS b < 2 ^ k) → cmN l ≤ 2 ^ (k * l.length)
  | [], _ => Nat.le_refl _
  | x :: l, h => by
    have h1 := h x List.mem_cons_self
    have h2 := cmN_lt fun b hb => h b (List.mem_cons_of_mem _ hb)
    show dS x * cmN l ≤ 2 ^ (k * (l.length + 1))
    rw [Nat.mul_add, Nat.mul_one, Nat.add_comm, Nat.pow_add]
    exact Nat.mul_le_mul (Nat.le_of_lt h1) h2
structure OkB (p : Fr × Fr) : Prop where
  a : Ok p.1
  b : Ok p.2
  c : Sz 20 p.1
  d : Sz 20 p.2
theorem addB_sz {b : Fr × Fr} (h : OkB b) : Sz 41 (Kzq1.add b.1 b.2) := add_sz h.a h.b h.c h.d
def keyI (c : Int) (b : Fr × Fr) : Int := (Kzq1.add b.1 b.2).n * c.fdiv ((Kzq1.add b.1 b.2).d : Int)
theorem fdiv_cm {l : List (Fr × Fr)} {b : Fr × Fr} (hb : b ∈ l) : Int.fdiv (cmN l : Int) ((Kzq1.add b.1 b.2).d : Int) = ((cmN l / dS b : Nat) : Int) := by
  rw [Int.fdiv_eq_ediv_of_nonneg _ (by omega)]
  rfl
theorem key_val {l : List (Fr × Fr)} (hl : ∀ b ∈ l, OkB b) {b : Fr × Fr} (hb : b ∈ l) : ((keyI (cmN l : Int) b : Int) : Rat) = val (Kzq1.add b.1 b.2) * ((cmN l : Nat) : Rat) := by
  unfold keyI
  rw [fdiv_cm hb]
  obtain ⟨m, hm⟩ := cmN_dvd hb
  have h0 : 0 < dS b := (add_ok (hl b hb).a (hl b hb).b).1
  rw [hm, Nat.mul_div_cancel_left _ h0]
  unfold val
  rw [Rat.mkRat_eq_div]
  have e : ((dS b : Nat) : Rat) ≠ 0 := by
    intro z
    have z : dS b = 0 := by exact_mod_cast z
    omega
  show _ = ((Kzq1.add b.1 b.2).n : Rat) / ((dS b : Nat) : Rat) * _
  rw [Rat.natCast_mul, Rat.intCast_mul, Rat.intCast_natCast]
  grind
theorem key_le {l : List (Fr × Fr)} (hl : ∀ b ∈ l, OkB b) {x y : Fr × Fr} (hx : x ∈ l) (hy : y ∈ l) : decide (keyI (cmN l : Int) x ≤ keyI (cmN l : Int) y) = leB x y := by
  unfold leB
  rw [decide_eq_decide, ← val_add (hl x hx).a (hl x hx).b, ← val_add (hl y hy).a (hl y hy).b, ← Rat.intCast_le_intCast, key_val hl hx, key_val hl hy]
  have h0 : 0 < cmN l := cmN_pos fun b hb => (add_ok (hl b hb).a (hl b hb).b).1
  have h1 : (0 : Rat) < ((cmN l : Nat) : Rat) := by exact_mod_cast h0
  exact ⟨fun h => Rat.le_of_mul_le_mul_right h h1, fun h => Rat.mul_le_mul_of_nonneg_right h (Rat.le_of_lt h1)⟩
theorem BdAt.one {H : Hp} {a : Addr} {b c : Fr × Fr} (h : BdAt H a b) (g : BdAt H a c) : b = c := by
  obtain ⟨x, y, h1, h2, h3⟩ := h
  obtain ⟨x', y', g1, g2, g3⟩ := g
  have e := h1.symm.trans g1
  simp only [Option.some.injEq, HO.tup.injEq, List.cons.injEq, V.ref.injEq, and_true] at e
  obtain ⟨rfl, rfl⟩ := e
  have one : ∀ {x : Addr} {p q : Fr}, FrAt H x p → FrAt H x q → p = q := fun {x p q} hp hq => by
    have e := Eq.trans (Eq.symm hp) hq
    simp only [Option.some.injEq, HO.tup.injEq, List.cons.injEq, V.int.injEq, and_true] at e
    obtain ⟨n, d⟩ := p
    obtain ⟨n', d'⟩ := q
    dsimp only at e
    obtain ⟨rfl, e2⟩ := e
    have e2 : d = d' := by omega
    subst e2; rfl
  exact Prod.ext (one h2 g2) (one h3 g3)
open Classical in
/-- the key of what lies at an address -/
noncomputable def kap (H : Hp) (c : Int) : V → Int
  | .ref a => if h : ∃ b, BdAt H a b then keyI c (Classical.choose h) else 0
  | _ => 0
theorem kap_at {H : Hp} {c : Int} {a : Addr} {b : Fr × Fr} (h : BdAt H a b) : kap H c (.ref a) = keyI c b := by
  have hx : ∃ b, BdAt H a b := ⟨b, h⟩
  unfold kap
  dsimp only
  rw [dif_pos hx, BdAt.one (Classical.choose_spec hx) h]
theorem LsAt.zip {α : Type} {R : Hp → Addr → α → Prop} {H : Hp} : ∀ {as : List Addr} {xs : List α}, LsAt R H as xs → ∃ zs : List (Addr × α), zs.map Prod.fst = as ∧ zs.map Prod.snd = xs ∧ ∀ z ∈ zs, R H z.1 z.2
  | [], [], _ => ⟨[], rfl, rfl, fun _ h => by cases h⟩
  | a :: as, x :: xs, h => by
    obtain ⟨zs, e1, e2, e3⟩ := LsAt.zip h.2
    refine ⟨(a, x) :: zs, by rw [List.map_cons, e1], by rw [List.map_cons, e2], fun z hz => ?_⟩
    rcases List.mem_cons.mp hz with rfl | hz
    · exact h.1
    · exact e3 z hz
  | [], _ :: _, h => h.elim
  | _ :: _, [], h => h.elim
theorem LsAt.unzip {α : Type} {R : Hp → Addr → α → Prop} {H : Hp} : ∀ {zs : List (Addr × α)}, (∀ z ∈ zs, R H z.1 z.2) → LsAt R H (zs.map Prod.fst) (zs.map Prod.snd)
  | [], _ => trivial
  | z :: zs, h => ⟨h z List.mem_cons_self, LsAt.unzip fun y hy => h y (List.mem_cons_of_mem _ hy)⟩
theorem sorted_at {H : Hp} {as : List Addr} {bs : List (Fr × Fr)} (h : LsAt BdAt H as bs) (ho : ∀ b ∈ bs, OkB b) : ∃ as', ScL.byKey (kap H (cmN bs : Int)) (as.map V.ref) = as'.map V.ref ∧ LsAt BdAt H as' (bs.mergeSort leB) := by
  obtain ⟨zs, rfl, rfl, e3⟩ := h.zip
  refine ⟨(zs.mergeSort fun x y => leB x.2 y.2).map Prod.fst, ?_, ?_⟩
  · unfold ScL.byKey
    rw [PySem.W.dataLe_int, List.map_map, List.map_map]
    refine (List.map_mergeSort (f := V.ref ∘ Prod.fst) (s := fun a b => decide (kap H (cmN (zs.map Prod.snd) : Int) a ≤ kap H (cmN (zs.map Prod.snd) : Int) b)) fun x hx y hy => ?_).symm
    show _ = decide (kap H _ (.ref x.1) ≤ kap H _ (.ref y.1))
    rw [kap_at (e3 x hx), kap_at (e3 y hy), key_le ho (List.mem_map_of_mem hx) (List.mem_map_of_mem hy)]
  · have e : (zs.map Prod.snd).mergeSort leB = (zs.mergeSort fun x y => leB x.2 y.2).map Prod.snd := (List.map_mergeSort (f := Prod.snd) (s := leB) fun x _ y _ => rfl).symm
    rw [e]
    exact LsAt.unzip fun z hz => e3 z ((List.mergeSort_perm _ _).mem_iff.mp hz)
theorem Tu.ext {H H' : Hp} (e : LamX.ExtN H H') : Tu H H' := fun b xs h => e b _ h (fun _ z => by cases z)
/-- a def whose code is known -/
theorem okC {P : Program} {w : World} {K : PySem.W.Frag} {mg : Str → Option Value} {base : Heap} {x qual : Str} {st : Stmt} {f : Addr} {fd : FuncData} {N ps : List Str} {k : Nat} {sp : Sp} (F : Fun K x qual st f fd) (S : FnScope N ps (defScope st)) (len : ∀ vs H Q E, sp vs H Q E → vs.length = ps.length)
    (hbody : ∀ (A : Around) (outer : List Env) (s : Shared) (H : Hp) (vs : List V) (Q : VK) (E : XK), Room k (A.deeper (envOfC qual (defScope st) s.heap.objs.size f fd.code)) → sp vs H Q E →
      ∃ t, PSs (cxOf CX0 P w K mg base N qual (defScope st) f fd.code A outer s H E).nox (defBody st) t ∧ t { nx := fun _ H' => Q .non H', rt := Q } (start N vs) H) : FnOk P w K mg base CX0 (k + 1) f fd ps sp := by
  obtain ⟨oc, od, kV, doc, pm, an, cdv, ct, osl, rfl, lk, hcd⟩ := F.ex
  refine fn_of lk hcd S len fun A outer s H vs Q E hr hsp => ?_
  obtain ⟨t, h, q⟩ := hbody A outer s H vs Q E hr hsp
  exact ⟨t, h.nox, q⟩
section
variable {Pg : Program} {w : World} {K : PySem.W.Frag} {mg : Str → Option Value} {base : Heap} {CF CS fS : Addr}
def lamQ : Str := "from_left_on" ++ ".<locals>." ++ "<lambda>"
def TT (Pt : Addr) : List (Addr × Str) := [(Pt, lamQ)]
def spFlo (Pt : Addr) : Sp := fun vs H Q _ => ∃ (a : Addr) (as : List Addr) (bs : List (Fr × Fr)), vs = [.ref a] ∧ H a = some (.lst (as.map V.ref)) ∧ LsAt BdAt H as bs ∧ bs.length ≤ 20 ∧ (∀ b ∈ bs, OkB b) ∧ LamX.Tabs (TT Pt) H ∧
  ∀ H' q as', LamX.ExtN H H' → LamX.Tabs (TT Pt) H' → H' q = some (.lst (as'.map V.ref)) → LsAt BdAt H' as' (bs.mergeSort leB) → Q (.ref q) H'
theorem scFlo : FnScope ["bounds", "common", "bound"] ["bounds"] (defScope s_from_left_on) := ⟨rfl, rfl, rfl, by decide +kernel, rfl, by decide +kernel, by decide +kernel⟩
theorem ok_flo {f fP fT c Pt : Addr} {fd fdP fdT : FuncData} (F : Fun K "from_left_on" "from_left_on" s_from_left_on f fd) (hcd : fd.code = .ref c) (TB : LamX.TabB base mg c Pt) (mSorted : mg "sorted" = none)
    (GP : FnOk Pg w K mg base CX0 3 fP fdP ["a", "b"] spPlus) (mP : mg "plus" = some (.ref fP)) (kP : PySem.W.keepIn K (.ref fP) = true) (bP : Binds K fdP ["a", "b"] [])
    (GT : FnOk Pg w K mg base CX0 1 fT fdT ["fraction", "common"] spTo) (mT : mg "top_over" = some (.ref fT)) (kT : PySem.W.keepIn K (.ref fT) = true) (bT : Binds K fdT ["fraction", "common"] []) :
    FnOk Pg w K mg base CX0 8 f fd ["bounds"] (spFlo Pt) := by
  refine okC F scFlo (fun vs H Q E h => ?_) (fun A outer s H vs Q E hr h => ⟨_,
    pss_cons (ps_set (i := 1) scFlo.nd rfl (Or.inr rfl) pe_int)
    (pss_cons (ps_for PassesOwn.never rfl (pi_list (pv 0)) (pg_name (i := 2) scFlo.nd rfl (Or.inl rfl))
      (pss_one (ps_set (i := 1) scFlo.nd rfl (Or.inr rfl) (pe_op op_mulW (pv 1) (pe_ix ix_tup (pe_call GP (hr.mono (by decide)) rfl mP kP bP .nil pass0 (pa_cons (pe_ix ix_tup (pv 2) pe_int (fun _ _ => rfl)) (pa_cons (pe_ix ix_tup (pv 2) pe_int (fun _ _ => rfl)) pa_nil))) pe_int (fun _ _ => rfl))))))
    (pss_one (ps_ret (ScL.pe_sortKey (k := 3) (T := TT Pt) (N2 := ["bound", "common"]) (fr := ["common"]) (prm := "bound") (js := [1]) rfl rfl mSorted (pa_cons (pv 0) pa_nil) TB hcd List.mem_cons_self (fun q hq _ => by rcases List.mem_singleton.mp hq with rfl; rfl)
      rfl (NdefX.nscope_by (by decide +kernel)) (by show ∀ y ∈ Scope.names _, y.2 = .free → (defScope s_from_left_on).names.lookup y.1 = some .cell ∨ (defScope s_from_left_on).names.lookup y.1 = some .free; decide +kernel) rfl (fun _ _ _ _ _ _ => rfl) hr
      (fun _ _ _ _ _ _ _ hr2 => pe_call GT (hr2.mono (by decide)) rfl mT kT bT .nil pass0 (pa_cons (pe_call GP hr2 rfl mP kP bP .nil pass0 (pa_cons (pe_ix (r := rIxT K) ix_tup (pv 0) pe_int (fun _ _ => rfl)) (pa_cons (pe_ix (r := rIxT K) ix_tup (pv 0) pe_int (fun _ _ => rfl)) pa_nil))) (pa_cons (pv 1) pa_nil))))))), ?_⟩)
  · obtain ⟨a, as, bs, rfl, _⟩ := h
    rfl
  · obtain ⟨a, as, bs, rfl, ha, hP, hl, ho, hT, q⟩ := h
    have la := hP.len
    have hd : ∀ b ∈ bs, dS b < 2 ^ 41 := fun b hb => (addB_sz (ho b hb)).2
    have cmb : ∀ i, cmN (bs.take i) < 2 ^ 1000 := fun i => by
      refine Nat.lt_of_le_of_lt (cmN_lt (k := 41) (l := bs.take i) fun b hb => hd b (List.mem_of_mem_take hb)) (Nat.pow_lt_pow_right (by decide) ?_)
      rw [List.length_take]; omega
    refine ⟨_, rfl, a, rfl, ⟨_, SqL.of ha⟩, for_list (K := K) (a := a) (xs := as.map V.ref) (fun i σ H' => Same H H' ∧ ∃ r : Option V, σ = [some (.ref a), some (.int ((cmN (bs.take i) : Nat) : Int)), r])
      ⟨fun _ _ e => e, none, rfl⟩ (fun i σ H' _ ⟨s5, _⟩ => SqL.of (s5 _ _ ha)) ?_ ?_⟩
    · rintro i y σ H1 hi ⟨s1, r, rfl⟩
      obtain ⟨b, hb, rfl⟩ := ref_of hi
      obtain ⟨bb, hbb, p⟩ := hP.at hb
      have hm := List.mem_of_getElem? hbb
      obtain ⟨x1, x2, hx, h1, h2⟩ := BdAt.tu (Tu.of s1) _ _ p
      refine ⟨_, rfl, _, rfl, b, _, 0, _, rfl, rfl, SqT.of hx, rfl, _, rfl, b, _, 1, _, rfl, rfl, SqT.of hx, rfl, x1, x2, bb.1, bb.2, 20, 20, rfl, h1, h2, (ho _ hm).a, (ho _ hm).b, (ho _ hm).c, (ho _ hm).d, by omega, fun H2 p2 s2 n2 f2 => ?_⟩
      refine ⟨p2, _, 1, _, rfl, rfl, SqT.of f2, rfl, _, _, rfl, rfl, ?_, ?_⟩
      · refine wmul (a := 1000) (b := 1000) ?_ ?_ (by decide)
        · rw [Int.natAbs_natCast]; exact cmb i
        · rw [Int.natAbs_natCast]
          exact Nat.lt_of_lt_of_le (hd bb hm) (Nat.pow_le_pow_right (by decide) (by decide))
      · refine ⟨s1.trans s2, some (.ref b), ?_⟩
        rw [take_more hbb, cmN_snoc, Int.natCast_mul]
        rfl
    · rintro σ H1 ⟨s1, r, rfl⟩
      rw [List.length_map, la, List.take_length]
      have hP1 : LsAt BdAt H1 as bs := LsAt.tu (BdAt.tu (Tu.of s1)) hP
      obtain ⟨as', e', hP'⟩ := sorted_at hP1 ho
      refine ⟨_, rfl, a, _, kap H1 (cmN bs : Int), rfl, SqL.of (s1 _ _ ha), ScL.tabs_same s1 hT, fun H2 x2 y hy => ?_, fun H4 p x4 t4 n4 => ?_⟩
      · obtain ⟨b, hb, rfl⟩ := List.mem_map.mp hy
        obtain ⟨i, hi⟩ := List.getElem?_of_mem hb
        obtain ⟨bb, hbb, p⟩ := hP1.at hi
        have hm := List.mem_of_getElem? hbb
        obtain ⟨x1, x3, hx, h1, h2⟩ := BdAt.tu (Tu.ext x2) _ _ p
        refine ⟨_, rfl, b, _, 0, _, rfl, rfl, SqT.of hx, rfl, _, rfl, b, _, 1, _, rfl, rfl, SqT.of hx, rfl, x1, x3, bb.1, bb.2, 20, 20, rfl, h1, h2, (ho _ hm).a, (ho _ hm).b, (ho _ hm).c, (ho _ hm).d, by omega, fun H3 p3 s3 n3 f3 => ?_⟩
        have sz := addB_sz (ho _ hm)
        refine ⟨_, rfl, p3, Kzq1.add bb.1 bb.2, (cmN bs : Int), rfl, f3, (add_ok (ho _ hm).a (ho _ hm).b).1, Nat.lt_of_lt_of_le sz.2 (Nat.pow_le_pow_right (by decide) (by decide)), Nat.lt_of_lt_of_le sz.1 (Nat.pow_le_pow_right (by decide) (by decide)), ?_, ?_, s3⟩
        · rw [fdiv_cm hm, Int.natAbs_natCast]
          have := cmb bs.length
          rw [List.take_length] at this
          exact Nat.lt_of_le_of_lt (Nat.div_le_self _ _) this
        · rw [kap_at p]; rfl
      · refine q _ p as' ?_ ?_ ?_ ?_
        · exact (LamX.ExtN.of s1).trans (x4.trans (LamX.ExtN.of (Same.new n4)))
        · exact ScL.tabs_same (Same.new n4) t4
        · rw [upd_same, e']
        · exact LsAt.tu (BdAt.tu ((Tu.ext x4).trans (Tu.of (Same.new n4)))) hP'
end
end ScA
namespace ScA
open PySem PySem.Spec PyProof.Rows L2
open Sc
/-- all but lists and tables stay -/
def St2 (H H' : Hp) : Prop := ∀ b o, H b = some o → (∀ l, o ≠ .lst l) → (∀ ps, o ≠ .tbl ps) → H' b = some o
theorem St2.ext {H H' : Hp} (e : LamX.ExtN H H') : St2 H H' := fun b o h _ n => e b o h n
theorem St2.of {H H' : Hp} (e : Same H H') : St2 H H' := fun b o h _ _ => e b o h
theorem St2.lst {H : Hp} {D : Addr} {l : List V} {o : HO} (h : H D = some (.lst l)) : St2 H (upd H D o) := fun b o' e n _ => by
  have hb : b ≠ D := fun z => by subst z; rw [h] at e; cases e; exact n _ rfl
  rw [upd_ne hb]; exact e
theorem St2.trans {H H1 H2 : Hp} (a : St2 H H1) (b : St2 H1 H2) : St2 H H2 := fun c o e n m => b c o (a c o e n m) n m
theorem St2.tu {H H' : Hp} (s : St2 H H') : Tu H H' := fun b xs e => s b _ e (fun _ z => by cases z) (fun _ z => by cases z)
def SlAt (C : Addr) (H : Hp) (t : Addr) (ps : List Pt) : Prop := ∃ a b c e, ps = [a, b, c, e] ∧ SliceAt C H t a b c e
theorem SlAt.st {C : Addr} {H H' : Hp} (s : St2 H H') (t : Addr) (ps : List Pt) (h : SlAt C H t ps) : SlAt C H' t ps := by
  obtain ⟨a, b, c, e, rfl, dx, xa, xb, xc, xe, h1, h2, h3, h4, h5⟩ := h
  exact ⟨a, b, c, e, rfl, dx, xa, xb, xc, xe, s _ _ h1 (fun _ z => by cases z) (fun _ z => by cases z), h2.tu s.tu, h3.tu s.tu, h4.tu s.tu, h5.tu s.tu⟩
theorem slB_snoc {lo hi : Int} {b c : Fr × Fr} : ∀ l, l.length % 2 = 0 → slB lo hi (l ++ [b, c]) = slB lo hi l ++ [[⟨b.1, Kzq1.whole lo⟩, ⟨c.1, Kzq1.whole lo⟩, ⟨c.2, Kzq1.whole hi⟩, ⟨b.2, Kzq1.whole hi⟩]]
  | [], _ => rfl
  | [x], h => by simp at h
  | x :: y :: r, h => by
    have h' : r.length % 2 = 0 := by
      simp only [List.length_cons] at h
      omega
    show _ :: slB lo hi (r ++ [b, c]) = _ :: (slB lo hi r ++ _)
    rw [slB_snoc r h']
theorem slB_len {lo hi : Int} : ∀ l : List (Fr × Fr), (slB lo hi l).length ≤ l.length
  | [] => Nat.le_refl _
  | [x] => Nat.zero_le _
  | x :: y :: r => by
    have := slB_len (lo := lo) (hi := hi) r
    show (slB lo hi r).length + 1 ≤ r.length + 1 + 1
    omega
theorem take_two {α : Type} {l : List α} {i : Nat} {x y : α} (h1 : l[2 * i]? = some x) (h2 : l[2 * i + 1]? = some y) : l.take (2 * (i + 1)) = l.take (2 * i) ++ [x, y] := by
  rw [show 2 * (i + 1) = 2 * i + 1 + 1 by omega, take_more h2, take_more h1, List.append_assoc]; rfl
theorem rgc2 {n : Nat} (h : n ≤ 1000) : RgC 0 ((2 * n : Nat) : Int) 2 n := by
  refine ⟨by decide, by decide, ?_, ?_⟩
  · unfold Builtin.Range.small
    have e : Builtin.Range.rangeSize 0 ((2 * n : Nat) : Int) 2 = (n : Int) := by
      unfold Builtin.Range.rangeSize
      rw [if_pos (by decide)]
      by_cases c : n = 0
      · subst c; rfl
      · rw [if_pos (by omega)]; omega
    rw [e, if_pos (show (2 : Int) > 0 by decide)]
    have fit : ∀ z : Int, 0 ≤ z → z < 5000 → Builtin.Range.rangeFitsLong z = true := fun z h1 h2 => by
      unfold Builtin.Range.rangeFitsLong
      rw [Bool.and_eq_true]
      exact ⟨decide_eq_true (by omega), decide_eq_true (by omega)⟩
    rw [fit 0 (by omega) (by omega), fit ((2 * n : Nat) : Int) (by omega) (by omega), fit 2 (by omega) (by omega), fit (n : Int) (by omega) (by omega), fit (((2 * n : Nat) : Int) + (2 - 1)) (by omega) (by omega), Bool.or_true]
    rfl
  · unfold Builtin.Range.rangeSize
    rw [if_pos (by decide)]
    by_cases c : n = 0
    · subst c; rfl
    · rw [if_pos (by omega)]; omega
theorem right_sz {s : S2} {h : Int} (b1 : Bd s.1) (b2 : Bd s.2) (h1 : -50 ≤ h) (h2 : h ≤ 50) (hne : s.2.2 ≠ s.1.2) : Sz 20 (rightAt s h) := by
  have c1 := b1.a; have c2 := b1.b; have c3 := b1.c; have c4 := b1.d; have c5 := b2.a; have c6 := b2.b; have c7 := b2.c; have c8 := b2.d
  have m : ∀ x y : Int, -100 ≤ x → x ≤ 100 → -100 ≤ y → y ≤ 100 → -10000 ≤ x * y ∧ x * y ≤ 10000 := fun x y h1 h2 h3 h4 => by
    have e1 : (x * y).natAbs ≤ 10000 := by
      rw [Int.natAbs_mul]
      exact Nat.mul_le_mul (show x.natAbs ≤ 100 by omega) (show y.natAbs ≤ 100 by omega)
    omega
  have p := m s.1.1 (s.2.2 - s.1.2) (by omega) (by omega) (by omega) (by omega)
  have q := m (s.2.1 - s.1.1) (h - s.1.2) (by omega) (by omega) (by omega) (by omega)
  unfold rightAt mkI
  split
  · exact mk_sz (by omega) (by omega) (by omega)
  · exact mk_sz (by omega) (by omega) (by omega)
theorem sides_bd {l : List C2} (hb : ∀ c ∈ l, Bd c) : ∀ s ∈ sidesI l, Bd s.1 ∧ Bd s.2 := fun s hs => by
  unfold sidesI at hs
  obtain ⟨k, hk, rfl⟩ := List.mem_map.mp hs
  have h0 : 0 < l.length := by have := List.mem_range.mp hk; omega
  exact ⟨hb _ (at2_mem h0 _), hb _ (at2_mem h0 _)⟩
section
variable {Pg : Program} {w : World} {K : PySem.W.Frag} {mg : Str → Option Value} {base : Heap} {CF CS fS : Addr}
def spSbt (Pt CS : Addr) : Sp := fun vs H Q _ => ∃ (a : Addr) (as : List Addr) (l : List C2) (lo hi : Int), vs = [.ref a, .int lo, .int hi] ∧ H a = some (.lst (as.map V.ref)) ∧ LsAt SiAt H as (sidesI l) ∧ 0 < l.length ∧ l.length ≤ 8 ∧ (∀ c ∈ l, Bd c) ∧ lo < hi ∧ -50 ≤ lo ∧ hi ≤ 50 ∧
  (∀ c ∈ l, c.2 ≤ lo ∨ hi ≤ c.2) ∧ LamX.Tabs (TT Pt) H ∧
  ∀ H' q ts, LamX.ExtN H H' → LamX.Tabs (TT Pt) H' → H' q = some (.lst (ts.map V.ref)) → LsAt (SlAt CS) H' ts (betw l lo hi) → Q (.ref q) H'
abbrev nSbt : List Str := ["sides", "low", "high", "reaching", "bounds", "side", "k"]
theorem scSbt : FnScope nSbt ["sides", "low", "high"] (defScope s_slices_between) := ⟨rfl, rfl, rfl, by decide +kernel, rfl, by decide +kernel, by decide +kernel⟩
theorem ok_sbt {f fR fA fF fB Pt : Addr} {fd fdR fdA fdF fdB : FuncData} (F : Fun K "slices_between" "slices_between" s_slices_between f fd) (mLen : mg "len" = none) (mRange : mg "range" = none)
    (GR : FnOk Pg w K mg base CX0 1 fR fdR ["side", "low", "high"] spRt) (mR : mg "reaches_through" = some (.ref fR)) (kR : PySem.W.keepIn K (.ref fR) = true) (bR : Binds K fdR ["side", "low", "high"] [])
    (GA : FnOk Pg w K mg base CX0 3 fA fdA ["side", "height"] spRa) (mA : mg "right_at" = some (.ref fA)) (kA : PySem.W.keepIn K (.ref fA) = true) (bA : Binds K fdA ["side", "height"] [])
    (GF : FnOk Pg w K mg base CX0 8 fF fdF ["bounds"] (spFlo Pt)) (mF : mg "from_left_on" = some (.ref fF)) (kF : PySem.W.keepIn K (.ref fF) = true) (bF : Binds K fdF ["bounds"] [])
    (GB : FnOk Pg w K mg base CX0 3 fB fdB ["left", "right", "low", "high"] (spBs CS)) (mB : mg "bounded_slice" = some (.ref fB)) (kB : PySem.W.keepIn K (.ref fB) = true) (bB : Binds K fdB ["left", "right", "low", "high"] []) :
    FnOk Pg w K mg base CX0 9 f fd ["sides", "low", "high"] (spSbt Pt CS) := by
  refine F.ok scSbt (fun vs H Q E h => ?_) (fun cdv A outer s H vs Q E hr h => ⟨_,
    pss_cons (ps_setLc (i := 3) (own := [("side", 5)]) (g := gName 5) rfl scSbt.nd rfl rfl (sw_true rfl rfl rfl (by decide +kernel)) (pi_list (pv 0))
      (blkOk_by (own := [("side", 5)]) (N := nSbt) (sc := defScope s_slices_between) (by decide +kernel))
      (fun _ _ _ _ _ => pg_name (i := 5) scSbt.nd rfl (Or.inl rfl))
      (fun _ _ _ _ _ => pts_one (pt_val (pe_call GR (hr.mono (by decide)) rfl mR kR bR .nil pass0 (pa_cons (pv 5) (pa_cons (pv 1) (pa_cons (pv 2) pa_nil))))))
      (fun _ _ _ _ _ => pv 5))
    (pss_cons (ps_set (i := 4) scSbt.nd rfl (Or.inr rfl) (pe_call GF hr rfl mF kF bF .nil pass0 (pa_cons (pe_lc (own := [("side", 5)]) (g := gName 5) (tt := tYes) rfl scSbt.nd (pi_list (pv 3))
      (blkOk_by (own := [("side", 5)]) (N := nSbt) (sc := defScope s_slices_between) (by decide +kernel))
      (fun _ _ _ _ _ => pg_name (i := 5) scSbt.nd rfl (Or.inl rfl))
      (fun _ _ _ _ _ => pts_nil)
      (fun _ _ _ _ _ => pe_tup (pa_cons (pe_call GA (hr.mono (by decide)) rfl mA kA bA .nil pass0 (pa_cons (pv 5) (pa_cons (pv 1) pa_nil))) (pa_cons (pe_call GA (hr.mono (by decide)) rfl mA kA bA .nil pass0 (pa_cons (pv 5) (pa_cons (pv 2) pa_nil))) pa_nil)))) pa_nil)))
    (pss_one (ps_ret (pe_lc (own := [("k", 6)]) (g := gName 6) (tt := tYes) rfl scSbt.nd (pi_range3 rfl mRange (pa_cons pe_int (pa_cons (pe_callB call_len_seq (by rfl) mLen PySem.boot_len (pa_cons (pv 4) pa_nil)) (pa_cons pe_int pa_nil))))
      (blkOk_by (own := [("k", 6)]) (N := nSbt) (sc := defScope s_slices_between) (by decide +kernel))
      (fun _ _ _ _ _ => pg_name (i := 6) scSbt.nd rfl (Or.inl rfl))
      (fun _ _ _ _ _ => pts_nil)
      (fun _ _ _ _ _ => pe_call GB (hr.mono (by decide)) rfl mB kB bB .nil pass0 (pa_cons (pe_ix (r := rIxL K) ix_list (pv 4) (pv 6) (fun _ _ => rfl)) (pa_cons (pe_ix (r := rIxL K) ix_list (pv 4) (pe_op op_add (pv 6) pe_int) (fun _ _ => rfl)) (pa_cons (pv 1) (pa_cons (pv 2) pa_nil))))))))), ?_⟩)
  · obtain ⟨a, as, l, lo, hi, rfl, _⟩ := h
    rfl
  · obtain ⟨a, as, l, lo, hi, rfl, ha, hP, h0, h8, hb, hlh, hlo, hhi, hht, hT, q⟩ := h
    have la : as.length = l.length := hP.len.trans (sides_len l)
    refine ⟨_, rfl, a, rfl, ⟨_, SqL.of ha⟩, fun D nD => ?_⟩
    refine lc_list (K := K) (a := a) (xs := as.map V.ref) (fun i H' => Same H H' ∧ ∃ rs, H' D = some (.lst (rs.map V.ref)) ∧ LsAt SiAt H' rs (((sidesI l).take i).filter fun s => reachS s lo hi)) ?_ ?_ ?_ ?_
    · exact ⟨Same.new nD, [], upd_same, trivial⟩
    · rintro i H2 _ ⟨s2, _⟩
      exact SqL.of (s2 _ _ ha)
    · rintro i y H2 hi' ⟨s2, rs, hD2, hR2⟩
      obtain ⟨b, hb', rfl⟩ := ref_of hi'
      obtain ⟨sd, hs, p⟩ := hP.at hb'
      have p2 := SiAt.tu (Tu.of s2) _ _ p
      refine ⟨rfl, ?_⟩
      refine ⟨_, rfl, _, rfl, _, rfl, b, sd, lo, hi, rfl, p2, _, rfl, ?_⟩
      cases c : reachS sd lo hi with
      | false =>
        refine ifF rfl ⟨s2, rs, hD2, ?_⟩
        rw [take_more hs, List.filter_append]
        have e : [sd].filter (fun s => reachS s lo hi) = [] := by simp [c]
        rw [e, List.append_nil]
        exact hR2
      | true =>
        refine ifT rfl ?_
        have l2 := hR2.len
        have l3 := List.length_filter_le (fun s => reachS s lo hi) ((sidesI l).take i)
        rw [List.length_take, sides_len] at l3
        refine ⟨_, rfl, _, hD2, ?_, ?_, rs ++ [b], ?_, ?_⟩
        · rw [List.length_map, szl]; omega
        · intro b o e
          rw [upd_ne (ne_of_none e nD)]
          exact s2 _ _ e
        · rw [upd_same, List.map_append]; rfl
        · rw [take_more hs, List.filter_append]
          have e : [sd].filter (fun s => reachS s lo hi) = [sd] := by simp [c]
          rw [e]
          exact LsAt.snoc (SiAt.tu (Tu.lst hD2) _ _ p2) (LsAt.tu (SiAt.tu (Tu.lst hD2)) hR2)
    · rintro H2 ⟨s2, rs, hD2, hR2⟩
      rw [List.length_map, la, ← sides_len, List.take_length] at hR2
      have ev := even_reach hlh h0 hht
      have hin : ∀ s ∈ (sidesI l).filter (fun s => reachS s lo hi), (Bd s.1 ∧ Bd s.2) ∧ s.2.2 ≠ s.1.2 := fun s hs => by
        obtain ⟨h1, h2⟩ := List.mem_filter.mp hs
        exact ⟨sides_bd hb s h1, reach_ne hlh h2⟩
      have lr := List.length_filter_le (fun s => reachS s lo hi) (sidesI l)
      rw [sides_len] at lr
      have eb : betw l lo hi = slB lo hi ((((sidesI l).filter fun s => reachS s lo hi).map (bnd lo hi)).mergeSort leB) := rfl
      generalize (sidesI l).filter (fun s => reachS s lo hi) = R at *
      have l2 := hR2.len
      refine ⟨_, rfl, D, rfl, ⟨_, SqL.of hD2⟩, fun D3 nD3 => ?_⟩
      refine lc_list (K := K) (a := D) (xs := rs.map V.ref) (fun i H' => Same H2 H' ∧ ∃ bs, H' D3 = some (.lst (bs.map V.ref)) ∧ LsAt BdAt H' bs ((R.take i).map (bnd lo hi))) ?_ ?_ ?_ ?_
      · exact ⟨Same.new nD3, [], upd_same, trivial⟩
      · rintro i H3 _ ⟨s3, _⟩
        exact SqL.of (s3 _ _ hD2)
      · rintro i y H3 hi' ⟨s3, bs, hD4, hB4⟩
        obtain ⟨b, hb', rfl⟩ := ref_of hi'
        obtain ⟨sd, hs, p⟩ := hR2.at hb'
        have il := (List.getElem?_eq_some_iff.mp hs).1
        obtain ⟨⟨bd1, bd2⟩, hne⟩ := hin sd (List.mem_of_getElem? hs)
        refine ⟨rfl, ?_⟩
        unfold tYes
        refine ifT rfl ?_
        refine ⟨_, rfl, _, rfl, b, sd, lo, rfl, SiAt.tu (Tu.of s3) _ _ p, bd1, bd2, hlo, by omega, hne, fun H4 p4 s4 n4 f4 => ?_⟩
        refine ⟨_, rfl, _, rfl, b, sd, hi, rfl, SiAt.tu (Tu.of (s3.trans s4)) _ _ p, bd1, bd2, by omega, hhi, hne, fun H5 p5 s5 n5 f5 => ?_⟩
        refine ⟨(by show 2 ≤ sizeLine; decide), fun p6 n6 => ?_⟩
        have s6 := Same.new (o := .tup [.ref p4, .ref p5]) n6
        have t6 := s4.trans (s5.trans s6)
        have hD6 := t6 _ _ hD4
        have u7 := Tu.lst (o := .lst (bs.map V.ref ++ [V.ref p6])) hD6
        have l4 := hB4.len
        rw [List.length_map, List.length_take] at l4
        refine ⟨_, hD6, ?_, ?_, bs ++ [p6], ?_, ?_⟩
        · rw [List.length_map, szl]; omega
        · intro b o e
          rw [upd_ne (ne_of_none e nD3)]
          exact t6 _ _ (s3 _ _ e)
        · rw [upd_same, List.map_append]; rfl
        · rw [take_more hs, List.map_append]
          exact LsAt.snoc ⟨p4, p5, u7 _ _ upd_same, u7 _ _ (s6 _ _ (s5 _ _ f4)), u7 _ _ (s6 _ _ f5)⟩ (LsAt.tu (BdAt.tu ((Tu.of t6).trans u7)) hB4)
      · rintro H3 ⟨s3, bs, hD4, hB4⟩
        rw [List.length_map, l2, List.take_length] at hB4
        have okb : ∀ b ∈ R.map (bnd lo hi), OkB b := fun b hb' => by
          obtain ⟨sd, hs, rfl⟩ := List.mem_map.mp hb'
          obtain ⟨⟨bd1, bd2⟩, hne⟩ := hin sd hs
          exact ⟨rightAt_ok hne lo, rightAt_ok hne hi, right_sz bd1 bd2 hlo (by omega) hne, right_sz bd1 bd2 (by omega) hhi hne⟩
        refine ⟨D3, bs, R.map (bnd lo hi), rfl, hD4, hB4, by rw [List.length_map]; omega, okb, ScL.tabs_same (s2.trans s3) hT, fun H4 g4 as4 x4 t4 hg4 hL4 => ?_⟩
        have lB : ((R.map (bnd lo hi)).mergeSort leB).length = R.length := by rw [List.length_mergeSort, List.length_map]
        generalize hBB : (R.map (bnd lo hi)).mergeSort leB = B at *
        have l5 := hL4.len
        obtain ⟨n, hn⟩ : ∃ n, R.length = 2 * n := ⟨R.length / 2, by omega⟩
        have x04 := (LamX.ExtN.of (s2.trans s3)).trans x4
        refine ⟨_, rfl, g4, _, rfl, .inl (SqL.of hg4), 0, _, 2, n, rfl, ?_, ?_⟩
        · rw [List.length_map, l5, lB, hn]
          exact rgc2 (by omega)
        · intro D5 nD5
          refine lc_it walk_rangeC (fun i H' => Same H4 H' ∧ ∃ ts, H' D5 = some (.lst (ts.map V.ref)) ∧ LsAt (SlAt CS) H' ts (slB lo hi (B.take (2 * i)))) ?_ (fun _ _ _ _ => trivial) ?_ ?_
          · exact ⟨Same.new nD5, [], upd_same, trivial⟩
          · rintro i x H5 H6 hi' ⟨s5, ts, hD6, hS6⟩ ⟨rfl, rfl⟩
            have hi1 : 2 * i < B.length := by omega
            have hi2 : 2 * i + 1 < B.length := by omega
            have e1 := List.getElem?_eq_getElem hi1
            have e2 := List.getElem?_eq_getElem hi2
            obtain ⟨a1, g1, p1⟩ := hL4.get e1
            obtain ⟨a2, g2, p2⟩ := hL4.get e2
            have hS5 : SqL K H6 g4 (as4.map V.ref) := SqL.of (s5 _ _ hg4)
            refine ⟨rfl, ?_⟩
            unfold tYes
            refine ifT rfl ?_
            refine ⟨_, rfl, _, rfl, g4, _, _, _, rfl, rfl, hS5, at_of (by omega) (map_ref g1), _, rfl, _, rfl, _, _, rfl, rfl, g4, _, _, _, rfl, rfl, hS5, at_of (by omega) (map_ref g2), _, rfl, _, rfl, a1, a2, _, _, lo, hi, rfl, BdAt.tu (Tu.of s5) _ _ p1, BdAt.tu (Tu.of s5) _ _ p2, fun H7 t7 s7 n7 sl7 => ?_⟩
            have hD7 := s7 _ _ hD6
            have u8 := St2.lst (o := .lst (ts.map V.ref ++ [V.ref t7])) hD7
            have l6 := hS6.len
            have l7 := slB_len (lo := lo) (hi := hi) (B.take (2 * i))
            rw [List.length_take] at l7
            refine ⟨_, hD7, ?_, ?_, ts ++ [t7], ?_, ?_⟩
            · rw [List.length_map, szl]; omega
            · intro b o e
              rw [upd_ne (ne_of_none e nD5)]
              exact s7 _ _ (s5 _ _ e)
            · rw [upd_same, List.map_append]; rfl
            · rw [take_two e1 e2, slB_snoc _ (by rw [List.length_take]; omega)]
              exact LsAt.snoc (SlAt.st u8 _ _ ⟨_, _, _, _, rfl, sl7⟩) (LsAt.tu (SlAt.st ((St2.of s7).trans u8)) hS6)
          · rintro H5 ⟨s5, ts, hD6, hS6⟩
            rw [List.take_of_length_le (by omega), ← eb] at hS6
            exact q H5 D5 ts (x04.trans (LamX.ExtN.of s5)) (ScL.tabs_same s5 t4) hD6 hS6
end
end ScA
namespace ScA
open PySem PySem.Spec PyProof.Rows L2
open Sc
theorem betw_len (l : List C2) (lo hi : Int) : (betw l lo hi).length ≤ l.length := by
  unfold betw
  refine Nat.le_trans (slB_len _) ?_
  rw [List.length_mergeSort, List.length_map]
  refine Nat.le_trans (List.length_filter_le _ _) ?_
  rw [sides_len]; exact Nat.le_refl _
theorem next_to {hs : List Int} (h : hs.Pairwise (· < ·)) {i : Nat} {lo hi : Int} (h1 : hs[i]? = some lo) (h2 : hs[i + 1]? = some hi) : lo < hi ∧ ∀ c ∈ hs, c ≤ lo ∨ hi ≤ c := by
  obtain ⟨l1, e1⟩ := List.getElem?_eq_some_iff.mp h1
  obtain ⟨l2, e2⟩ := List.getElem?_eq_some_iff.mp h2
  have P := List.pairwise_iff_getElem.mp h
  refine ⟨by rw [← e1, ← e2]; exact P i (i + 1) l1 l2 (by omega), fun c hc => ?_⟩
  obtain ⟨j, hj, e⟩ := List.mem_iff_getElem.mp hc
  rw [← e, ← e1, ← e2]
  rcases Nat.lt_trichotomy j i with z | z | z
  · exact .inl (Int.le_of_lt (P j i hj l1 z))
  · subst z; exact .inl (Int.le_refl _)
  · by_cases w : j = i + 1
    · subst w; exact .inr (Int.le_refl _)
    · exact .inr (Int.le_of_lt (P (i + 1) j l2 hj (by omega)))
theorem cut_one {xs : List V} : cutV xs (some 1) none = xs.drop 1 := by
  unfold cutV
  rw [show (some (1 : Int)) = some ((1 : Nat) : Int) from rfl, HT.sIx_nat, HT.sIx_none]
  by_cases c : 1 ≤ xs.length
  · rw [Nat.min_eq_left c]
    exact List.take_of_length_le (by rw [List.length_drop]; omega)
  · rw [Nat.min_eq_right (by omega), List.drop_eq_nil_of_le (Nat.le_refl _), List.drop_eq_nil_of_le (by omega), List.take_nil]
theorem slices_eq (ns : List Int) : PyKzq2.slices ns = match Kzq1.readFigure ns with
    | none => [-22]
    | some f => ((Kzq2.slices f).length : Int) :: (Kzq2.slices f).flatMap Kzq1.written := by
  have e0 : PyKzq2.slices ns = (Kzq2.answer (.slices ns)).value :: (Kzq2.answer (.slices ns)).nums := rfl
  have e1 : Kzq2.answer (.slices ns) = match Kzq1.readFigure ns with
    | none => Kzq1.say (-22)
    | some f => ⟨((Kzq2.slices f).length : Nat), (Kzq2.slices f).flatMap Kzq1.written⟩ := rfl
  rw [e0, e1]
  cases Kzq1.readFigure ns with
  | none => rfl
  | some f => rfl
theorem rd_some {ns : List Int} {l : List C2} (h : rdFig ns = some l) : figI l = true ∧ 3 ≤ l.length ∧ l.length ≤ 8 ∧ ∀ c ∈ l, Bd c := by
  by_cases c1 : wrongN ns
  · rw [rd_bad1 c1] at h; cases h
  · cases c2 : farN ns with
    | true => rw [rd_bad2 c2] at h; cases h
    | false =>
      rw [rd_fig c1 c2] at h
      by_cases c3 : figI (prs ns) = true
      · rw [if_pos c3] at h
        cases h
        unfold wrongN at c1
        exact ⟨c3, by rw [prs_len]; omega, by rw [prs_len]; omega, prs_bd c2⟩
      · rw [if_neg c3] at h; cases h
theorem tabs_lst {T : List (Addr × Str)} {H : Hp} {D : Addr} {l : List V} {o : HO} (h : H D = some (.lst l)) (t : LamX.Tabs T H) : LamX.Tabs T (upd H D o) := fun p hp => by
  obtain ⟨ps, h1, h2, h3⟩ := t p hp
  refine ⟨ps, ?_, h2, fun pos cv hc => ?_⟩
  · rw [upd_ne (ne_of h1 h (by intro z; cases z))]; exact h1
  · obtain ⟨c, e1, e2⟩ := h3 pos cv hc
    refine ⟨c, e1, ?_⟩
    rw [upd_ne (ne_of e2 h (by intro z; cases z))]; exact e2
section
variable {Pg : Program} {w : World} {K : PySem.W.Frag} {mg : Str → Option Value} {base : Heap} {CF CS fS : Addr}
def spSlo (Pt CS : Addr) : Sp := fun vs H Q _ => ∃ (a : Addr) (as : List Addr) (l : List C2), vs = [.ref a] ∧ H a = some (.lst (as.map V.ref)) ∧ LsAt CoAt H as l ∧ 0 < l.length ∧ l.length ≤ 8 ∧ (∀ c ∈ l, Bd c) ∧ LamX.Tabs (TT Pt) H ∧
  ∀ H' q ts hs, hs.Pairwise (· < ·) → (∀ k, k ∈ hs ↔ k ∈ l.map (·.2)) → ts.length ≤ 64 → H' q = some (.lst (ts.map V.ref)) → LsAt (SlAt CS) H' ts (slicesI l hs) → Q (.ref q) H'
abbrev nSlo : List Str := ["corners", "sides", "heights", "found", "low", "high", "corner"]
theorem scSlo : FnScope nSlo ["corners"] (defScope s_slices_of) := ⟨rfl, rfl, rfl, by decide +kernel, rfl, by decide +kernel, by decide +kernel⟩
theorem ok_slo {f fO fB Pt : Addr} {fd fdO fdB : FuncData} (F : Fun K "slices_of" "slices_of" s_slices_of f fd) (mSorted : mg "sorted" = none) (mSet : mg "set" = none) (mZip : mg "zip" = none)
    (GO : FnOk Pg w K mg base CX0 1 fO fdO ["corners"] spSo) (mO : mg "sides_of" = some (.ref fO)) (kO : PySem.W.keepIn K (.ref fO) = true) (bO : Binds K fdO ["corners"] [])
    (GB : FnOk Pg w K mg base CX0 9 fB fdB ["sides", "low", "high"] (spSbt Pt CS)) (mB : mg "slices_between" = some (.ref fB)) (kB : PySem.W.keepIn K (.ref fB) = true) (bB : Binds K fdB ["sides", "low", "high"] []) :
    FnOk Pg w K mg base CX0 10 f fd ["corners"] (spSlo Pt CS) := by
  refine F.ok scSlo (fun vs H Q E h => ?_) (fun cdv A outer s H vs Q E hr h => ⟨_,
    pss_cons (ps_set (i := 1) scSlo.nd rfl (Or.inl rfl) (pe_call GO (hr.mono (by decide)) rfl mO kO bO .nil pass0 (pa_cons (pv 0) pa_nil)))
    (pss_cons (ps_set (i := 2) scSlo.nd rfl (Or.inl rfl) (pe_callB (cr_sortedSet rfl) (by rfl) mSorted (by decide +kernel) (pa_cons (pe_callTy (ScL.cr_setL rfl) (by rfl) mSet (by decide +kernel) (pa_cons (pe_lc (own := [("corner", 6)]) (g := gName 6) (tt := tYes) rfl scSlo.nd (pi_list (pv 0))
      (blkOk_by (own := [("corner", 6)]) (N := nSlo) (sc := defScope s_slices_of) (by decide +kernel))
      (fun _ _ _ _ _ => pg_name (i := 6) scSlo.nd rfl (Or.inl rfl))
      (fun _ _ _ _ _ => pts_nil)
      (fun _ _ _ _ _ => pe_ix (r := rIxT K) ix_tup (pv 6) pe_int (fun _ _ => rfl))) pa_nil)) pa_nil)))
    (pss_cons (ps_set (i := 3) scSlo.nd rfl (Or.inl rfl) (pe_lst pa_nil))
    (pss_cons (ps_for PassesOwn.never rfl (pi_zip (by rfl) mZip (pa_cons (pv 2) (pa_cons (pe_slice sl_list (pv 2) (po_some pe_int) po_none) pa_nil))) (pg_tup rfl (pgs_cons (pg_name (i := 4) scSlo.nd rfl (Or.inl rfl)) (pgs_cons (pg_name (i := 5) scSlo.nd rfl (Or.inl rfl)) pgs_nil)))
      (pss_one (ps_expr (pe_bm PySem.F.plainAttrs_list PySem.F.slot_list_extend PySem.F.type_list_extend mt_extend (pv 3) (pa_cons (pe_call GB hr rfl mB kB bB .nil pass0 (pa_cons (pv 1) (pa_cons (pv 4) (pa_cons (pv 5) pa_nil)))) pa_nil)))))
    (pss_one (ps_ret (pv 3)))))), ?_⟩)
  · obtain ⟨a, as, l, rfl, _⟩ := h
    rfl
  · obtain ⟨a, as, l, rfl, ha, hP, h0, h8, hb, hT, q⟩ := h
    have la := hP.len
    refine ⟨_, rfl, a, as, l, rfl, ha, hP, by omega, fun H1 g1 ss s1 n1 hg1 hS1 => ?_⟩
    refine ⟨_, rfl, a, rfl, ⟨_, SqL.of (s1 _ _ ha)⟩, fun D nD => ?_⟩
    refine lc_list (K := K) (a := a) (xs := as.map V.ref) (fun i H' => Same H1 H' ∧ H' D = some (.lst (((l.take i).map (·.2)).map V.int))) ?_ ?_ ?_ ?_
    · exact ⟨Same.new nD, upd_same⟩
    · rintro i H2 _ ⟨s2, _⟩
      exact SqL.of (s2 _ _ (s1 _ _ ha))
    · rintro i y H2 hi ⟨s2, hD2⟩
      obtain ⟨b, hb', rfl⟩ := ref_of hi
      obtain ⟨co, hc, p⟩ := hP.at hb'
      have p2 : H2 b = some (.tup [.int co.1, .int co.2]) := s2 _ _ (s1 _ _ p)
      have il := (List.getElem?_eq_some_iff.mp hc).1
      refine ⟨rfl, ?_⟩
      unfold tYes
      refine ifT rfl ?_
      refine ⟨_, rfl, b, _, 1, _, rfl, rfl, SqT.of p2, rfl, _, hD2, ?_, ?_, ?_⟩
      · rw [List.length_map, List.length_map, List.length_take, szl]; omega
      · intro b o e
        rw [upd_ne (ne_of_none e nD)]
        exact s2 _ _ e
      · rw [upd_same, take_more hc, List.map_append, List.map_append]; rfl
    · rintro H2 ⟨s2, hD2⟩
      rw [List.length_map, la, List.take_length] at hD2
      refine ⟨D, l.map (·.2), rfl, SqL.of hD2, by rw [List.length_map]; omega, fun p3 c3 n3 hc3 => ?_⟩
      rw [List.length_map] at hc3
      have s3 := Same.new (o := SetO w p3 (fun j => decide (j ∈ l.map (·.2))) c3) n3
      refine ⟨p3, _, c3, rfl, upd_same, by omega, fun hs p4 inc mem len n4 => ?_⟩
      have s4 := Same.new (o := .lst (hs.map V.int)) n4
      have mem' : ∀ k, k ∈ hs ↔ k ∈ l.map (·.2) := fun k => (mem k).trans decide_eq_true_iff
      have s14 := s2.trans (Same.trans s3 s4)
      clear s4 n4
      generalize hH4 : upd _ p4 (HO.lst (hs.map V.int)) = H4 at s14 ⊢
      have hp4 : H4 p4 = some (.lst (hs.map V.int)) := by rw [← hH4, upd_same]
      clear hH4 s3 n3
      have s04 := s1.trans s14
      have hl8 : hs.length ≤ 8 := by omega
      refine ⟨(by show 0 ≤ sizeLine; decide), fun D5 n5 => ?_⟩
      have s5 := Same.new (o := .lst []) n5
      refine ⟨_, rfl, _, rfl, _, rfl, p4, _, rfl, SqL.of (s5 _ _ hp4), fun p6 n6 => ?_⟩
      have s6 := Same.new (o := .lst (cutV (hs.map V.int) (some 1) none)) n6
      have t56 := s5.trans s6
      have n56 : p6 ≠ D5 := fun z => by rw [z, upd_same] at n6; cases n6
      refine ⟨p4, p6, hs.map V.int, (hs.map V.int).drop 1, rfl, SqL.of (t56 _ _ hp4), SqL.of (by rw [upd_same, cut_one]), ?_⟩
      have lz : (hs.zip hs.tail).length = min (hs.map V.int).length ((hs.map V.int).drop 1).length := by
        rw [List.length_zip, List.length_map, List.length_drop, List.length_tail, List.length_map]
      refine for_it (walk_zip lz) (fun i σ H' => (∃ r1 r2 : Option V, σ = [some (.ref a), some (.ref g1), some (.ref p4), some (.ref D5), r1, r2, none]) ∧ LamX.ExtN H4 H' ∧ LamX.Tabs (TT Pt) H' ∧ H' p6 = some (.lst ((hs.map V.int).drop 1)) ∧
        ∃ ts, ts.length ≤ 8 * i ∧ H' D5 = some (.lst (ts.map V.ref)) ∧ LsAt (SlAt CS) H' ts (((hs.zip hs.tail).take i).flatMap fun y => betw l y.1 y.2)) ?_ ?_ ?_ ?_
      · refine ⟨⟨none, none, rfl⟩, LamX.ExtN.of t56, ScL.tabs_same (s04.trans t56) hT, by rw [upd_same, cut_one], [], Nat.le_refl _, s6 _ _ upd_same, trivial⟩
      · rintro i σ H7 _ ⟨_, x7, _, h7, _⟩
        exact ⟨SqL.of (x7 _ _ hp4 (fun _ z => by cases z)), SqL.of h7⟩
      · rintro i x σ H7 H8 hi ⟨⟨r1, r2, rfl⟩, x7, t7, h7, ts, lt, hD7, hL7⟩ ⟨T, vx, vy, rfl, nT, rfl, ex, ey⟩
        obtain ⟨lo, hlo, rfl⟩ := map_int ex
        have ey : ((hs.map V.int).drop 1)[i]? = some vy := ey
        rw [List.getElem?_drop, Nat.add_comm] at ey
        obtain ⟨hi', hhi, rfl⟩ := map_int ey
        obtain ⟨hlt, hnx⟩ := next_to inc hlo hhi
        have bdh : ∀ k ∈ hs, -50 ≤ k ∧ k ≤ 50 := fun k hk => by
          obtain ⟨c, hc, rfl⟩ := List.mem_map.mp ((mem' k).mp hk)
          exact ⟨(hb c hc).c, (hb c hc).d⟩
        have s8 := Same.new (o := .tup [.int lo, .int hi']) nT
        have x8 : LamX.ExtN H4 _ := x7.trans (LamX.ExtN.of s8)
        have hz : (hs.zip hs.tail)[i]? = some (lo, hi') := by
          rw [List.getElem?_zip_eq_some]
          exact ⟨hlo, by rw [List.getElem?_tail]; exact hhi⟩
        have hS8 : LsAt SiAt _ ss (sidesI l) := LsAt.tu (SiAt.tu ((Tu.of s14).trans (Tu.ext x8))) hS1
        have hc : ∀ c ∈ l, c.2 ≤ lo ∨ hi' ≤ c.2 := fun c hc => hnx _ ((mem' _).mpr (List.mem_map_of_mem hc))
        have b1 := bdh lo (List.mem_of_getElem? hlo)
        have b2 := bdh hi' (List.mem_of_getElem? hhi)
        refine ⟨T, _, rfl, SqT.of upd_same, rfl, _, _, rfl, _, _, rfl, rfl, ?_⟩
        refine ⟨_, rfl, .inl ⟨rfl, _, SqL.of (s8 _ _ hD7)⟩, _, rfl, _, rfl, _, rfl, g1, ss, l, lo, hi', rfl, x8 _ _ (s14 _ _ hg1) (fun _ z => by cases z), hS8, h0, h8, hb, hlt, b1.1, b2.2, hc, ScL.tabs_same s8 t7, fun H9 g9 ts9 x9 t9 hg9 hL9 => ?_⟩
        have hD9 : H9 D5 = some (.lst (ts.map V.ref)) := x9 _ _ (s8 _ _ hD7) (fun _ z => by cases z)
        have l9 := hL9.len
        have l10 := betw_len l lo hi'
        have lzz : i < hs.length := (List.getElem?_eq_some_iff.mp hlo).1
        have u10 := St2.lst (o := .lst (ts.map V.ref ++ ts9.map V.ref)) hD9
        refine ⟨D5, g9, _, _, rfl, rfl, hD9, hg9, ?_, ?_⟩
        · rw [List.length_map, List.length_map, szl]; omega
        · refine ⟨⟨_, _, rfl⟩, ?_, ?_, ?_, ts ++ ts9, ?_, ?_, ?_⟩
          · intro b o e n
            rw [upd_ne (ne_of_none e n5)]
            exact x9 _ _ (x8 _ _ e n) n
          · exact tabs_lst hD9 t9
          · rw [upd_ne n56]
            exact x9 _ _ (s8 _ _ h7) (fun _ z => by cases z)
          · rw [List.length_append]; omega
          · rw [upd_same, List.map_append]
          · rw [take_more hz, List.flatMap_append, List.flatMap_singleton]
            exact LsAt.append (LsAt.tu (SlAt.st (((St2.of s8).trans (St2.ext x9)).trans u10)) hL7) (LsAt.tu (SlAt.st u10) hL9)
      · rintro σ H7 ⟨⟨r1, r2, rfl⟩, x7, t7, h7, ts, lt, hD7, hL7⟩
        rw [List.take_length] at hL7
        refine ⟨_, rfl, q H7 D5 ts hs inc mem' ?_ hD7 hL7⟩
        rw [List.length_zip, List.length_tail] at lt
        omega
end
end ScA
namespace ScA
open PySem PySem.Spec PyProof.Rows L2
open Sc
theorem written4 (a b c e : Pt) : (Kzq1.written [a, b, c, e]).length = 16 := rfl
theorem flat_len : ∀ {C : Addr} {H : Hp} {ts : List Addr} {L : List (List Pt)}, LsAt (SlAt C) H ts L → (L.flatMap Kzq1.written).length = 16 * L.length
  | _, _, [], [], _ => rfl
  | C, H, t :: ts, p :: L, h => by
    obtain ⟨a, b, c, e, rfl, _⟩ := h.1
    rw [List.flatMap_cons, List.length_append, flat_len h.2, written4, List.length_cons]; omega
  | _, _, [], _ :: _, h => h.elim
  | _, _, _ :: _, [], h => h.elim
theorem LsAt.take {α : Type} {R : Hp → Addr → α → Prop} {H : Hp} : ∀ {as : List Addr} {xs : List α} (i : Nat), LsAt R H as xs → LsAt R H (as.take i) (xs.take i)
  | _, _, 0, _ => trivial
  | [], [], _ + 1, h => h
  | _ :: _, _ :: _, i + 1, h => ⟨h.1, LsAt.take i h.2⟩
  | [], _ :: _, _, h => h.elim
  | _ :: _, [], _, h => h.elim
section
variable {Pg : Program} {w : World} {K : PySem.W.Frag} {mg : Str → Option Value} {base : Heap} {CF CS fS : Addr}
def spSl (Pt : Addr) (K : PySem.W.Frag) : Sp := fun vs H Q _ => ∃ (x : Addr) (ns : List Int), vs = [.ref x] ∧ SqL K H x (ns.map V.int) ∧ LamX.Tabs (TT Pt) H ∧
  ∀ (H' : Hp) (p : Addr), H' p = some (.lst ((PyKzq2.slices ns).map V.int)) → Q (.ref p) H'
abbrev nSl : List Str := ["f", "corners", "found", "answer", "told"]
theorem scSl : FnScope nSl ["f"] (defScope s_slices) := ⟨rfl, rfl, rfl, by decide +kernel, rfl, by decide +kernel, by decide +kernel⟩
theorem ok_sl {f fR fO fN Pt : Addr} {fd fdR fdO fdN : FuncData} (F : Fun K "slices" "slices" s_slices f fd) (TE : ErrTxt K mg CF) (mLen : mg "len" = none)
    (GR : FnOk Pg w K mg base (L2.CX Pg w) 5 fR fdR ["row"] (spRf K CF)) (mR : mg "read_figure" = some (.ref fR)) (kR : PySem.W.keepIn K (.ref fR) = true) (bR : Binds K fdR ["row"] [])
    (GO : FnOk Pg w K mg base CX0 10 fO fdO ["corners"] (spSlo Pt CS)) (mO : mg "slices_of" = some (.ref fO)) (kO : PySem.W.keepIn K (.ref fO) = true) (bO : Binds K fdO ["corners"] [])
    (GN : FnOk Pg w K mg base CX0 2 fN fdN ["told"] (spSn CS)) (mN : mg "slice_numbers" = some (.ref fN)) (kN : PySem.W.keepIn K (.ref fN) = true) (bN : Binds K fdN ["told"] []) :
    FnOk Pg w K mg base CX0 12 f fd ["f"] (spSl Pt K) := by
  refine F.ok scSl (fun vs H Q E h => ?_) (fun cdv A outer s H vs Q E hr h => ⟨_,
    pss_cons (ps_try_only (tb := fun W => tAsg (tCallS (spRf K CF) (WE W) (tCons (tVar 0) tNil)) (gName 1)) (Wout := fun _ _ _ _ => False) rfl rfl ⟨rfl, by decide, Or.inl TE.g⟩ takes0
      (fun W pn xe tk _ => pss_one (ps_set (i := 1) scSl.nd rfl (Or.inl rfl) (by exact (pe_callS GR (hr.mono (by decide)) rfl mR kR bR (fun σ => passAt tk σ) (by exact (pa_cons (pv 0) pa_nil))))))
      (fun _ _ _ _ _ _ _ => pss_one (ps_ret (pe_lst (pa_cons (pe_un un_neg pe_int) pa_nil)))))
    (pss_cons (ps_set (i := 2) scSl.nd rfl (Or.inl rfl) (pe_call GO (hr.mono (by decide)) rfl mO kO bO .nil pass0 (pa_cons (pv 1) pa_nil)))
    (pss_cons (ps_set (i := 3) scSl.nd rfl (Or.inl rfl) (pe_lst (pa_cons (pe_callB call_len_seq (by rfl) mLen PySem.boot_len (pa_cons (pv 2) pa_nil)) pa_nil)))
    (pss_cons (ps_for PassesOwn.never rfl (pi_list (pv 2)) (pg_name (i := 4) scSl.nd rfl (Or.inl rfl))
      (pss_one (ps_expr (pe_bm PySem.F.plainAttrs_list PySem.F.slot_list_extend PySem.F.type_list_extend mt_extend (pv 3) (pa_cons (pe_call GN (hr.mono (by decide)) rfl mN kN bN .nil pass0 (pa_cons (pv 4) pa_nil)) pa_nil)))))
    (pss_one (ps_ret (pv 3)))))), ?_⟩)
  · obtain ⟨x, ns, rfl, _⟩ := h
    rfl
  · obtain ⟨x, ns, rfl, hS, hT, k⟩ := h
    have e0 := slices_eq ns
    rw [readFigure_eq] at e0
    refine ⟨_, rfl, x, ns, rfl, hS, fun hn H' s1 => ?_, fun l hl H1 g as s1 n1 hg hP => ?_⟩
    · refine ⟨true, TE.e, fun _ a0 _ => ?_, fun z => Bool.noConfusion z⟩
      rw [hn] at e0
      refine ⟨_, rfl, (by show 1 ≤ sizeLine; decide), fun p np => ?_⟩
      refine k _ p ?_
      rw [e0]; exact upd_same
    · rw [hl] at e0
      obtain ⟨hf, h3, h8, hb⟩ := rd_some hl
      refine ⟨_, rfl, g, as, l, rfl, hg, hP, by omega, h8, hb, ScL.tabs_same s1 hT, fun H2 q2 ts hs inc mem l64 hq2 hL2 => ?_⟩
      have e1 : PyKzq2.slices ns = ((slicesI l hs).length : Int) :: (slicesI l hs).flatMap Kzq1.written := by
        rw [← slices_is hf h3 inc mem]; exact e0
      generalize slicesI l hs = L at *
      have lL := hL2.len
      refine ⟨_, rfl, q2, _, rfl, .inl (SqL.of hq2), (by show 1 ≤ sizeLine; decide), fun r nr => ?_⟩
      have s3 := Same.new (o := .lst [V.int ((ts.map V.ref).length : Int)]) nr
      refine ⟨_, rfl, q2, rfl, ⟨_, SqL.of (s3 _ _ hq2)⟩, for_list (K := K) (a := q2) (xs := ts.map V.ref) (fun i σ H' => (∃ v1 : Option V, σ = [some (.ref x), some (.ref g), some (.ref q2), some (.ref r), v1]) ∧ Same H2 H' ∧ H' r = some (.lst ((((L.length : Nat) : Int) :: (L.take i).flatMap Kzq1.written).map V.int)))
        ⟨⟨none, rfl⟩, s3, ?_⟩ (fun i σ H' _ ⟨_, s5, _⟩ => SqL.of (s5 _ _ hq2)) ?_ ?_⟩
      · rw [upd_same, List.length_map, lL]; rfl
      · rintro i y σ H4 hi ⟨⟨v1, rfl⟩, s4, hr4⟩
        obtain ⟨t, ht, rfl⟩ := ref_of hi
        obtain ⟨ps, hp, a, b, c, e, rfl, sl⟩ := hL2.at ht
        have fl := flat_len (hL2.take i)
        rw [List.length_take] at fl
        refine ⟨_, rfl, .inl ⟨rfl, _, SqL.of hr4⟩, _, rfl, t, a, b, c, e, rfl, sl.mono s4, fun H5 p5 s5 n5 h5 => ?_⟩
        refine ⟨r, p5, _, _, rfl, rfl, s5 _ _ hr4, h5, ?_, ?_⟩
        · rw [List.length_map, List.length_map, List.length_cons, fl, written4, szl]; omega
        · refine ⟨⟨_, rfl⟩, ?_, ?_⟩
          · intro b o e
            rw [upd_ne (ne_of_none e nr)]
            exact s5 _ _ (s4 _ _ e)
          · rw [upd_same, take_more hp, List.flatMap_append, List.flatMap_singleton, ← List.map_append]; rfl
      · rintro σ H4 ⟨⟨v1, rfl⟩, s4, hr4⟩
        rw [List.length_map, lL, List.take_length, ← e1] at hr4
        exact ⟨_, rfl, k H4 r hr4⟩
end
end ScA
namespace ScA
open PySem PySem.Spec PyProof.Rows L2
open Sc
open PySem.W (Codec)
/-- what the codec says of the numbers that are handed in -/
theorem int_bd {l : List Int} {n m : Nat} {b : Bool} (h : ((Codec.inLen n m l && l.all (Codec.inInt (Int.negSucc 115792089237316195423570985008687907853269984665640564039457584007913129639934) (Int.ofNat 115792089237316195423570985008687907853269984665640564039457584007913129639935))) && b) = true) : ∀ z ∈ l, z.natAbs < 2 ^ 256 := by
  intro z hz
  rw [Bool.and_eq_true, Bool.and_eq_true] at h
  have k := List.all_eq_true.mp h.1.2 z hz
  unfold Codec.inInt at k
  rw [Bool.and_eq_true, decide_eq_true_eq, decide_eq_true_eq] at k
  have e : (2 : Nat) ^ 256 = 115792089237316195423570985008687907853269984665640564039457584007913129639936 := by decide +kernel
  have k1 : -(115792089237316195423570985008687907853269984665640564039457584007913129639935 : Int) ≤ z := k.1
  have k2 : z ≤ (115792089237316195423570985008687907853269984665640564039457584007913129639935 : Int) := k.2
  rw [e]
  omega
theorem bd_snd {a b : Bool} (h : (a && b) = true) : b = true := (Bool.and_eq_true _ _ ▸ h).2
/-! the end -/
theorem exm_own {K : PySem.W.Frag} {T S : Addr} {b : Bool} (h1 : PySem.W.subIn K (.ref S) (.type "BaseException") = some true) (h2 : PySem.W.isClsIn K S = true) (h3 : PySem.W.typeIn K (.ref S) = some (.type "type"))
    (h4 : PySem.W.subIn K (.ref T) (.ref S) = some b) : PySem.W.exmOne K (.ref T) (.ref S) = some b := by
  have u1 : (PySem.W.subIn K (.ref S) (.type "BaseException") == some true) = true := by rw [h1] <;> rfl
  have u2 : ((PySem.W.clsIn K S).isSome && PySem.W.typeIn K (.ref S) == some (.type "type")) = true := by
    have h2x : (PySem.W.clsIn K S).isSome = true := h2
    rw [h2x, h3] <;> rfl
  show (if (PySem.W.subIn K (.ref S) (.type "BaseException") == some true) = true then (if ((PySem.W.clsIn K S).isSome && PySem.W.typeIn K (.ref S) == some (.type "type")) = true then PySem.W.subIn K (.ref T) (.ref S) else none)
    else none) = some b
  rw [if_pos u1, if_pos u2]; exact h4
theorem all_mk {Pg p : Program} {loose : List Str} {mean : ExcName → Option Value} {mb : Str → Option Value} {c0 Pt : Addr} {oc0 : Value} {od0 : Option Addr} {vs0 : Array Value} {sl0 : Array (Option Value)} {w : World} {K : PySem.W.Frag} {h : Heap} {mg : Str → Option Value} {fa f_cm f_rat f_plus f_pn f_rf f_rc f_so f_tu f_hs f_it f_sm f_rl f_spm f_ds f_sn f_slo f_sbt f_rt f_ra f_flo f_to f_bs f_sl C_slI f_slI C_err : Addr} (X : K.In h) (T : Top p loose mean mg mb h) (hfa : mg "slices" = some (.ref fa))
    {od_cm an_cm od_rat an_rat od_plus an_plus od_pn an_pn od_rf an_rf od_rc an_rc od_so an_so od_tu an_tu od_hs an_hs od_it an_it od_sm an_sm od_rl an_rl od_spm an_spm od_ds an_ds od_sn an_sn od_slo an_slo od_sbt an_sbt od_rt an_rt od_ra an_ra od_flo an_flo od_to an_to od_bs an_bs od_sl an_sl od_slI an_slI : Option Addr} {sl_cm sl_rat sl_plus sl_pn sl_rf sl_rc sl_so sl_tu sl_hs sl_it sl_sm sl_rl sl_spm sl_ds sl_sn sl_slo sl_sbt sl_rt sl_ra sl_flo sl_to sl_bs sl_sl sl_slI : Array (Option Value)} {oc_cm kV_cm dc_cm pm_cm cd_cm ct_cm oc_rat kV_rat dc_rat pm_rat cd_rat ct_rat oc_plus kV_plus dc_plus pm_plus cd_plus ct_plus oc_pn kV_pn dc_pn pm_pn cd_pn ct_pn oc_rf kV_rf dc_rf pm_rf cd_rf ct_rf oc_rc kV_rc dc_rc pm_rc cd_rc ct_rc oc_so kV_so dc_so pm_so cd_so ct_so oc_tu kV_tu dc_tu pm_tu cd_tu ct_tu oc_hs kV_hs dc_hs pm_hs cd_hs ct_hs oc_it kV_it dc_it pm_it cd_it ct_it oc_sm kV_sm dc_sm pm_sm cd_sm ct_sm oc_rl kV_rl dc_rl pm_rl cd_rl ct_rl oc_spm kV_spm dc_spm pm_spm cd_spm ct_spm oc_ds kV_ds dc_ds pm_ds cd_ds ct_ds oc_sn kV_sn dc_sn pm_sn cd_sn ct_sn oc_slo kV_slo dc_slo pm_slo cd_slo ct_slo oc_sbt kV_sbt dc_sbt pm_sbt cd_sbt ct_sbt oc_rt kV_rt dc_rt pm_rt cd_rt ct_rt oc_ra kV_ra dc_ra pm_ra cd_ra ct_ra oc_flo kV_flo dc_flo pm_flo ct_flo oc_to kV_to dc_to pm_to cd_to ct_to oc_bs kV_bs dc_bs pm_bs cd_bs ct_bs oc_sl kV_sl dc_sl pm_sl cd_sl ct_sl oc_slI kV_slI dc_slI pm_slI cd_slI ct_slI : Value} {t_FC t_MC t_FA : Tok}
    (a_cm : PySem.W.nsIn K mainGlobals "common_measure" = some (some (.ref f_cm)))
    (l_cm : K.lookup f_cm = some ⟨oc_cm, od_cm, .func (PySem.W.fnOf "common_measure" "common_measure" (defArgs s_common_measure) (defBody s_common_measure) (defScope s_common_measure) .none kV_cm dc_cm pm_cm an_cm cd_cm ct_cm), sl_cm⟩)
    (c_cm : PySem.W.codeIn K cd_cm "common_measure" = true)
    (k_cm : PySem.W.keepIn K (.ref f_cm) = true)
    (a_rat : PySem.W.nsIn K mainGlobals "ratio" = some (some (.ref f_rat)))
    (l_rat : K.lookup f_rat = some ⟨oc_rat, od_rat, .func (PySem.W.fnOf "ratio" "ratio" (defArgs s_ratio) (defBody s_ratio) (defScope s_ratio) .none kV_rat dc_rat pm_rat an_rat cd_rat ct_rat), sl_rat⟩)
    (c_rat : PySem.W.codeIn K cd_rat "ratio" = true)
    (k_rat : PySem.W.keepIn K (.ref f_rat) = true)
    (a_plus : PySem.W.nsIn K mainGlobals "plus" = some (some (.ref f_plus)))
    (l_plus : K.lookup f_plus = some ⟨oc_plus, od_plus, .func (PySem.W.fnOf "plus" "plus" (defArgs s_plus) (defBody s_plus) (defScope s_plus) .none kV_plus dc_plus pm_plus an_plus cd_plus ct_plus), sl_plus⟩)
    (c_plus : PySem.W.codeIn K cd_plus "plus" = true)
    (k_plus : PySem.W.keepIn K (.ref f_plus) = true)
    (a_pn : PySem.W.nsIn K mainGlobals "point_numbers" = some (some (.ref f_pn)))
    (l_pn : K.lookup f_pn = some ⟨oc_pn, od_pn, .func (PySem.W.fnOf "point_numbers" "point_numbers" (defArgs s_point_numbers) (defBody s_point_numbers) (defScope s_point_numbers) .none kV_pn dc_pn pm_pn an_pn cd_pn ct_pn), sl_pn⟩)
    (c_pn : PySem.W.codeIn K cd_pn "point_numbers" = true)
    (k_pn : PySem.W.keepIn K (.ref f_pn) = true)
    (a_rf : PySem.W.nsIn K mainGlobals "read_figure" = some (some (.ref f_rf)))
    (l_rf : K.lookup f_rf = some ⟨oc_rf, od_rf, .func (PySem.W.fnOf "read_figure" "read_figure" (defArgs s_read_figure) (defBody s_read_figure) (defScope s_read_figure) .none kV_rf dc_rf pm_rf an_rf cd_rf ct_rf), sl_rf⟩)
    (c_rf : PySem.W.codeIn K cd_rf "read_figure" = true)
    (k_rf : PySem.W.keepIn K (.ref f_rf) = true)
    (a_rc : PySem.W.nsIn K mainGlobals "read_corners" = some (some (.ref f_rc)))
    (l_rc : K.lookup f_rc = some ⟨oc_rc, od_rc, .func (PySem.W.fnOf "read_corners" "read_corners" (defArgs s_read_corners) (defBody s_read_corners) (defScope s_read_corners) .none kV_rc dc_rc pm_rc an_rc cd_rc ct_rc), sl_rc⟩)
    (c_rc : PySem.W.codeIn K cd_rc "read_corners" = true)
    (k_rc : PySem.W.keepIn K (.ref f_rc) = true)
    (a_so : PySem.W.nsIn K mainGlobals "sides_of" = some (some (.ref f_so)))
    (l_so : K.lookup f_so = some ⟨oc_so, od_so, .func (PySem.W.fnOf "sides_of" "sides_of" (defArgs s_sides_of) (defBody s_sides_of) (defScope s_sides_of) .none kV_so dc_so pm_so an_so cd_so ct_so), sl_so⟩)
    (c_so : PySem.W.codeIn K cd_so "sides_of" = true)
    (k_so : PySem.W.keepIn K (.ref f_so) = true)
    (a_tu : PySem.W.nsIn K mainGlobals "turn" = some (some (.ref f_tu)))
    (l_tu : K.lookup f_tu = some ⟨oc_tu, od_tu, .func (PySem.W.fnOf "turn" "turn" (defArgs s_turn) (defBody s_turn) (defScope s_turn) .none kV_tu dc_tu pm_tu an_tu cd_tu ct_tu), sl_tu⟩)
    (c_tu : PySem.W.codeIn K cd_tu "turn" = true)
    (k_tu : PySem.W.keepIn K (.ref f_tu) = true)
    (a_hs : PySem.W.nsIn K mainGlobals "has_straight_corner" = some (some (.ref f_hs)))
    (l_hs : K.lookup f_hs = some ⟨oc_hs, od_hs, .func (PySem.W.fnOf "has_straight_corner" "has_straight_corner" (defArgs s_has_straight_corner) (defBody s_has_straight_corner) (defScope s_has_straight_corner) .none kV_hs dc_hs pm_hs an_hs cd_hs ct_hs), sl_hs⟩)
    (c_hs : PySem.W.codeIn K cd_hs "has_straight_corner" = true)
    (k_hs : PySem.W.keepIn K (.ref f_hs) = true)
    (a_it : PySem.W.nsIn K mainGlobals "is_tangled" = some (some (.ref f_it)))
    (l_it : K.lookup f_it = some ⟨oc_it, od_it, .func (PySem.W.fnOf "is_tangled" "is_tangled" (defArgs s_is_tangled) (defBody s_is_tangled) (defScope s_is_tangled) .none kV_it dc_it pm_it an_it cd_it ct_it), sl_it⟩)
    (c_it : PySem.W.codeIn K cd_it "is_tangled" = true)
    (k_it : PySem.W.keepIn K (.ref f_it) = true)
    (a_sm : PySem.W.nsIn K mainGlobals "sides_meet" = some (some (.ref f_sm)))
    (l_sm : K.lookup f_sm = some ⟨oc_sm, od_sm, .func (PySem.W.fnOf "sides_meet" "sides_meet" (defArgs s_sides_meet) (defBody s_sides_meet) (defScope s_sides_meet) .none kV_sm dc_sm pm_sm an_sm cd_sm ct_sm), sl_sm⟩)
    (c_sm : PySem.W.codeIn K cd_sm "sides_meet" = true)
    (k_sm : PySem.W.keepIn K (.ref f_sm) = true)
    (a_rl : PySem.W.nsIn K mainGlobals "reaches_line" = some (some (.ref f_rl)))
    (l_rl : K.lookup f_rl = some ⟨oc_rl, od_rl, .func (PySem.W.fnOf "reaches_line" "reaches_line" (defArgs s_reaches_line) (defBody s_reaches_line) (defScope s_reaches_line) .none kV_rl dc_rl pm_rl an_rl cd_rl ct_rl), sl_rl⟩)
    (c_rl : PySem.W.codeIn K cd_rl "reaches_line" = true)
    (k_rl : PySem.W.keepIn K (.ref f_rl) = true)
    (a_spm : PySem.W.nsIn K mainGlobals "spans_meet" = some (some (.ref f_spm)))
    (l_spm : K.lookup f_spm = some ⟨oc_spm, od_spm, .func (PySem.W.fnOf "spans_meet" "spans_meet" (defArgs s_spans_meet) (defBody s_spans_meet) (defScope s_spans_meet) .none kV_spm dc_spm pm_spm an_spm cd_spm ct_spm), sl_spm⟩)
    (c_spm : PySem.W.codeIn K cd_spm "spans_meet" = true)
    (k_spm : PySem.W.keepIn K (.ref f_spm) = true)
    (a_ds : PySem.W.nsIn K mainGlobals "double_size" = some (some (.ref f_ds)))
    (l_ds : K.lookup f_ds = some ⟨oc_ds, od_ds, .func (PySem.W.fnOf "double_size" "double_size" (defArgs s_double_size) (defBody s_double_size) (defScope s_double_size) .none kV_ds dc_ds pm_ds an_ds cd_ds ct_ds), sl_ds⟩)
    (c_ds : PySem.W.codeIn K cd_ds "double_size" = true)
    (k_ds : PySem.W.keepIn K (.ref f_ds) = true)
    (a_sn : PySem.W.nsIn K mainGlobals "slice_numbers" = some (some (.ref f_sn)))
    (l_sn : K.lookup f_sn = some ⟨oc_sn, od_sn, .func (PySem.W.fnOf "slice_numbers" "slice_numbers" (defArgs s_slice_numbers) (defBody s_slice_numbers) (defScope s_slice_numbers) .none kV_sn dc_sn pm_sn an_sn cd_sn ct_sn), sl_sn⟩)
    (c_sn : PySem.W.codeIn K cd_sn "slice_numbers" = true)
    (k_sn : PySem.W.keepIn K (.ref f_sn) = true)
    (a_slo : PySem.W.nsIn K mainGlobals "slices_of" = some (some (.ref f_slo)))
    (l_slo : K.lookup f_slo = some ⟨oc_slo, od_slo, .func (PySem.W.fnOf "slices_of" "slices_of" (defArgs s_slices_of) (defBody s_slices_of) (defScope s_slices_of) .none kV_slo dc_slo pm_slo an_slo cd_slo ct_slo), sl_slo⟩)
    (c_slo : PySem.W.codeIn K cd_slo "slices_of" = true)
    (k_slo : PySem.W.keepIn K (.ref f_slo) = true)
    (a_sbt : PySem.W.nsIn K mainGlobals "slices_between" = some (some (.ref f_sbt)))
    (l_sbt : K.lookup f_sbt = some ⟨oc_sbt, od_sbt, .func (PySem.W.fnOf "slices_between" "slices_between" (defArgs s_slices_between) (defBody s_slices_between) (defScope s_slices_between) .none kV_sbt dc_sbt pm_sbt an_sbt cd_sbt ct_sbt), sl_sbt⟩)
    (c_sbt : PySem.W.codeIn K cd_sbt "slices_between" = true)
    (k_sbt : PySem.W.keepIn K (.ref f_sbt) = true)
    (a_rt : PySem.W.nsIn K mainGlobals "reaches_through" = some (some (.ref f_rt)))
    (l_rt : K.lookup f_rt = some ⟨oc_rt, od_rt, .func (PySem.W.fnOf "reaches_through" "reaches_through" (defArgs s_reaches_through) (defBody s_reaches_through) (defScope s_reaches_through) .none kV_rt dc_rt pm_rt an_rt cd_rt ct_rt), sl_rt⟩)
    (c_rt : PySem.W.codeIn K cd_rt "reaches_through" = true)
    (k_rt : PySem.W.keepIn K (.ref f_rt) = true)
    (a_ra : PySem.W.nsIn K mainGlobals "right_at" = some (some (.ref f_ra)))
    (l_ra : K.lookup f_ra = some ⟨oc_ra, od_ra, .func (PySem.W.fnOf "right_at" "right_at" (defArgs s_right_at) (defBody s_right_at) (defScope s_right_at) .none kV_ra dc_ra pm_ra an_ra cd_ra ct_ra), sl_ra⟩)
    (c_ra : PySem.W.codeIn K cd_ra "right_at" = true)
    (k_ra : PySem.W.keepIn K (.ref f_ra) = true)
    (a_flo : PySem.W.nsIn K mainGlobals "from_left_on" = some (some (.ref f_flo)))
    (l_flo : K.lookup f_flo = some ⟨oc_flo, od_flo, .func (PySem.W.fnOf "from_left_on" "from_left_on" (defArgs s_from_left_on) (defBody s_from_left_on) (defScope s_from_left_on) .none kV_flo dc_flo pm_flo an_flo (.ref c0) ct_flo), sl_flo⟩)
    (c_flo : PySem.W.codeIn K (.ref c0) "from_left_on" = true)
    (k_flo : PySem.W.keepIn K (.ref f_flo) = true)
    (a_to : PySem.W.nsIn K mainGlobals "top_over" = some (some (.ref f_to)))
    (l_to : K.lookup f_to = some ⟨oc_to, od_to, .func (PySem.W.fnOf "top_over" "top_over" (defArgs s_top_over) (defBody s_top_over) (defScope s_top_over) .none kV_to dc_to pm_to an_to cd_to ct_to), sl_to⟩)
    (c_to : PySem.W.codeIn K cd_to "top_over" = true)
    (k_to : PySem.W.keepIn K (.ref f_to) = true)
    (a_bs : PySem.W.nsIn K mainGlobals "bounded_slice" = some (some (.ref f_bs)))
    (l_bs : K.lookup f_bs = some ⟨oc_bs, od_bs, .func (PySem.W.fnOf "bounded_slice" "bounded_slice" (defArgs s_bounded_slice) (defBody s_bounded_slice) (defScope s_bounded_slice) .none kV_bs dc_bs pm_bs an_bs cd_bs ct_bs), sl_bs⟩)
    (c_bs : PySem.W.codeIn K cd_bs "bounded_slice" = true)
    (k_bs : PySem.W.keepIn K (.ref f_bs) = true)
    (a_sl : PySem.W.nsIn K mainGlobals "slices" = some (some (.ref f_sl)))
    (l_sl : K.lookup f_sl = some ⟨oc_sl, od_sl, .func (PySem.W.fnOf "slices" "slices" (defArgs s_slices) (defBody s_slices) (defScope s_slices) .none kV_sl dc_sl pm_sl an_sl cd_sl ct_sl), sl_sl⟩)
    (c_sl : PySem.W.codeIn K cd_sl "slices" = true)
    (k_sl : PySem.W.keepIn K (.ref f_sl) = true)
    (aC_slI : PySem.W.nsIn K mainGlobals "Slice" = some (some (.ref C_slI)))
    (a_slI : PySem.W.findIn K (.ref C_slI) "__init__" = some (some (.ref f_slI)))
    (i_slI : PySem.W.isFn K (.ref f_slI) = true)
    (l_slI : K.lookup f_slI = some ⟨oc_slI, od_slI, .func (PySem.W.fnOf "__init__" "Slice.__init__" (defArgs s_Slice) (defBody s_Slice) (defScope s_Slice) .none kV_slI dc_slI pm_slI an_slI cd_slI ct_slI), sl_slI⟩)
    (c_slI : PySem.W.codeIn K cd_slI "Slice.__init__" = true)
    (k_slI : PySem.W.keepIn K (.ref f_slI) = true)
    (pg_slI : PySem.W.plainGet K C_slI Str.empty = true)
    (hd_slI : PySem.W.hasDictIn K C_slI = true)
    (po_slI : PySem.W.plainOver K C_slI = true)
    (sa_slI : PySem.W.findIn K (.ref C_slI) "__setattr__" = some (some (.builtin "object.__setattr__")))
    (mk_slI : PySem.W.makesIn K C_slI = true)
    (kc_slI : PySem.W.keepIn K (.ref C_slI) = true)
    (n0_slI : PySem.W.findIn K (.ref C_slI) "left_below" = some none)
    (n1_slI : PySem.W.findIn K (.ref C_slI) "right_below" = some none)
    (n2_slI : PySem.W.findIn K (.ref C_slI) "right_above" = some none)
    (n3_slI : PySem.W.findIn K (.ref C_slI) "left_above" = some none)
    (aE_err : PySem.W.nsIn K mainGlobals "NotAsTold" = some (some (.ref C_err)))
    (xE_err : PySem.W.excIn K C_err [.type "ValueError", .type "Exception", .type "BaseException", .type "object"] "ValueError.__new__" = true)
    (kE_err : PySem.W.keepIn K (.ref C_err) = true)
    (bE_err : PySem.W.subIn K (.ref C_err) (.type "BaseException") = some true)
    (tE_err : PySem.W.typeIn K (.ref C_err) = some (.type "type"))
    (iE_err : PySem.W.isClsIn K C_err = true)
    (sE_err : PySem.W.subIn K (.ref C_err) (.ref C_err) = some true)
    (aK_FC : PySem.W.nsIn K mainGlobals "FEWEST_CORNERS" = some (some (.int 3 t_FC)))
    (aK_MC : PySem.W.nsIn K mainGlobals "MOST_CORNERS" = some (some (.int 8 t_MC)))
    (aK_FA : PySem.W.nsIn K mainGlobals "FARTHEST" = some (some (.int 50 t_FA)))
    (z_abs : PySem.W.nsIn K mainGlobals "abs" = some none)
    (z_len : PySem.W.nsIn K mainGlobals "len" = some none)
    (z_range : PySem.W.nsIn K mainGlobals "range" = some none)
    (z_min : PySem.W.nsIn K mainGlobals "min" = some none)
    (z_max : PySem.W.nsIn K mainGlobals "max" = some none)
    (z_sum : PySem.W.nsIn K mainGlobals "sum" = some none)
    (z_any : PySem.W.nsIn K mainGlobals "any" = some none)
    (z_sorted : PySem.W.nsIn K mainGlobals "sorted" = some none)
    (z_set : PySem.W.nsIn K mainGlobals "set" = some none)
    (z_zip : PySem.W.nsIn K mainGlobals "zip" = some none)
    (r_flo : ((recsOf p).find? (fun e => e.name == ("from_left_on" : Str))).isSome = true)
    (lc_flo : K.lookup c0 = some ⟨oc0, od0, .fields vs0, sl0⟩)
    (v_flo : vs0[11]? = some (.ref Pt))
    (u_flo : K.lookup Pt = none)
    : ∃ (fd : FuncData) (c Pt : Addr), PySem.W.CodeHd h c Pt ∧ h.get? Pt = some (PySem.W.tabObj #[]) ∧ K.lookup Pt = none ∧ (∀ (s : Shared) (us : List Value), us.length = (["f"] : List Str).length → BindsTo s fd ⟨us, []⟩ ((["f"] : List Str).zip us)) ∧ ∀ base : Heap, K.In base → base.Ns mainGlobals mg → LamX.TabB base mg c Pt → FnOk Pg w K mg base CX0 12 fa fd ["f"] (spSl Pt K) := by
  have e := hfa.symm.trans (PySem.W.mg_of X T.g a_sl)
  cases e
  have F_cm := fun_mk (st := s_common_measure) l_cm c_cm k_cm
  have m_cm := PySem.W.mg_of X T.g a_cm
  have b_cm := F_cm.binds (ps := ["a", "b"]) fun _ _ _ _ _ _ us hl => match us, hl with | [_, _], _ => rfl
  have F_rat := fun_mk (st := s_ratio) l_rat c_rat k_rat
  have m_rat := PySem.W.mg_of X T.g a_rat
  have b_rat := F_rat.binds (ps := ["top", "bottom"]) fun _ _ _ _ _ _ us hl => match us, hl with | [_, _], _ => rfl
  have F_plus := fun_mk (st := s_plus) l_plus c_plus k_plus
  have m_plus := PySem.W.mg_of X T.g a_plus
  have b_plus := F_plus.binds (ps := ["a", "b"]) fun _ _ _ _ _ _ us hl => match us, hl with | [_, _], _ => rfl
  have F_pn := fun_mk (st := s_point_numbers) l_pn c_pn k_pn
  have m_pn := PySem.W.mg_of X T.g a_pn
  have b_pn := F_pn.binds (ps := ["point"]) fun _ _ _ _ _ _ us hl => match us, hl with | [_], _ => rfl
  have F_rf := fun_mk (st := s_read_figure) l_rf c_rf k_rf
  have m_rf := PySem.W.mg_of X T.g a_rf
  have b_rf := F_rf.binds (ps := ["row"]) fun _ _ _ _ _ _ us hl => match us, hl with | [_], _ => rfl
  have F_rc := fun_mk (st := s_read_corners) l_rc c_rc k_rc
  have m_rc := PySem.W.mg_of X T.g a_rc
  have b_rc := F_rc.binds (ps := ["row"]) fun _ _ _ _ _ _ us hl => match us, hl with | [_], _ => rfl
  have F_so := fun_mk (st := s_sides_of) l_so c_so k_so
  have m_so := PySem.W.mg_of X T.g a_so
  have b_so := F_so.binds (ps := ["corners"]) fun _ _ _ _ _ _ us hl => match us, hl with | [_], _ => rfl
  have F_tu := fun_mk (st := s_turn) l_tu c_tu k_tu
  have m_tu := PySem.W.mg_of X T.g a_tu
  have b_tu := F_tu.binds (ps := ["a", "b", "c"]) fun _ _ _ _ _ _ us hl => match us, hl with | [_, _, _], _ => rfl
  have F_hs := fun_mk (st := s_has_straight_corner) l_hs c_hs k_hs
  have m_hs := PySem.W.mg_of X T.g a_hs
  have b_hs := F_hs.binds (ps := ["corners"]) fun _ _ _ _ _ _ us hl => match us, hl with | [_], _ => rfl
  have F_it := fun_mk (st := s_is_tangled) l_it c_it k_it
  have m_it := PySem.W.mg_of X T.g a_it
  have b_it := F_it.binds (ps := ["sides"]) fun _ _ _ _ _ _ us hl => match us, hl with | [_], _ => rfl
  have F_sm := fun_mk (st := s_sides_meet) l_sm c_sm k_sm
  have m_sm := PySem.W.mg_of X T.g a_sm
  have b_sm := F_sm.binds (ps := ["one", "other"]) fun _ _ _ _ _ _ us hl => match us, hl with | [_, _], _ => rfl
  have F_rl := fun_mk (st := s_reaches_line) l_rl c_rl k_rl
  have m_rl := PySem.W.mg_of X T.g a_rl
  have b_rl := F_rl.binds (ps := ["side", "other"]) fun _ _ _ _ _ _ us hl => match us, hl with | [_, _], _ => rfl
  have F_spm := fun_mk (st := s_spans_meet) l_spm c_spm k_spm
  have m_spm := PySem.W.mg_of X T.g a_spm
  have b_spm := F_spm.binds (ps := ["a", "b", "c", "d"]) fun _ _ _ _ _ _ us hl => match us, hl with | [_, _, _, _], _ => rfl
  have F_ds := fun_mk (st := s_double_size) l_ds c_ds k_ds
  have m_ds := PySem.W.mg_of X T.g a_ds
  have b_ds := F_ds.binds (ps := ["corners"]) fun _ _ _ _ _ _ us hl => match us, hl with | [_], _ => rfl
  have F_sn := fun_mk (st := s_slice_numbers) l_sn c_sn k_sn
  have m_sn := PySem.W.mg_of X T.g a_sn
  have b_sn := F_sn.binds (ps := ["told"]) fun _ _ _ _ _ _ us hl => match us, hl with | [_], _ => rfl
  have F_slo := fun_mk (st := s_slices_of) l_slo c_slo k_slo
  have m_slo := PySem.W.mg_of X T.g a_slo
  have b_slo := F_slo.binds (ps := ["corners"]) fun _ _ _ _ _ _ us hl => match us, hl with | [_], _ => rfl
  have F_sbt := fun_mk (st := s_slices_between) l_sbt c_sbt k_sbt
  have m_sbt := PySem.W.mg_of X T.g a_sbt
  have b_sbt := F_sbt.binds (ps := ["sides", "low", "high"]) fun _ _ _ _ _ _ us hl => match us, hl with | [_, _, _], _ => rfl
  have F_rt := fun_mk (st := s_reaches_through) l_rt c_rt k_rt
  have m_rt := PySem.W.mg_of X T.g a_rt
  have b_rt := F_rt.binds (ps := ["side", "low", "high"]) fun _ _ _ _ _ _ us hl => match us, hl with | [_, _, _], _ => rfl
  have F_ra := fun_mk (st := s_right_at) l_ra c_ra k_ra
  have m_ra := PySem.W.mg_of X T.g a_ra
  have b_ra := F_ra.binds (ps := ["side", "height"]) fun _ _ _ _ _ _ us hl => match us, hl with | [_, _], _ => rfl
  have F_flo := fun_mk (st := s_from_left_on) l_flo c_flo k_flo
  have m_flo := PySem.W.mg_of X T.g a_flo
  have b_flo := F_flo.binds (ps := ["bounds"]) fun _ _ _ _ _ _ us hl => match us, hl with | [_], _ => rfl
  have F_to := fun_mk (st := s_top_over) l_to c_to k_to
  have m_to := PySem.W.mg_of X T.g a_to
  have b_to := F_to.binds (ps := ["fraction", "common"]) fun _ _ _ _ _ _ us hl => match us, hl with | [_, _], _ => rfl
  have F_bs := fun_mk (st := s_bounded_slice) l_bs c_bs k_bs
  have m_bs := PySem.W.mg_of X T.g a_bs
  have b_bs := F_bs.binds (ps := ["left", "right", "low", "high"]) fun _ _ _ _ _ _ us hl => match us, hl with | [_, _, _, _], _ => rfl
  have F_sl := fun_mk (st := s_slices) l_sl c_sl k_sl
  have m_sl := PySem.W.mg_of X T.g a_sl
  have F_slI := fun_mk (st := s_Slice) l_slI c_slI k_slI
  have b_slI := F_slI.binds (ps := ["self", "left_below", "right_below", "right_above", "left_above"]) fun _ _ _ _ _ _ us hl => match us, hl with | [_, _, _, _, _], _ => rfl
  have T_slI : ClsTxt K mg "Slice" C_slI f_slI ["left_below", "right_below", "right_above", "left_above"] := ⟨⟨pg_slI, hd_slI, po_slI, sa_slI⟩, PySem.W.mg_of X T.g aC_slI, fun z hz => by
    simp only [List.mem_cons, List.not_mem_nil, or_false] at hz
    rcases hz with rfl | rfl | rfl | rfl
    · exact n0_slI
    · exact n1_slI
    · exact n2_slI
    · exact n3_slI
    , ⟨mk_slI, a_slI, i_slI, kc_slI⟩⟩
  have T_err : ErrTx "NotAsTold" K mg C_err := ⟨PySem.W.mg_of X T.g aE_err, xE_err, kE_err, bE_err, tE_err, exm_own bE_err iE_err tE_err sE_err⟩
  have m_FC := PySem.W.mg_of X T.g aK_FC
  have m_MC := PySem.W.mg_of X T.g aK_MC
  have m_FA := PySem.W.mg_of X T.g aK_FA
  have m_abs := PySem.W.mg_none_of X T.g z_abs
  have m_len := PySem.W.mg_none_of X T.g z_len
  have m_range := PySem.W.mg_none_of X T.g z_range
  have m_min := PySem.W.mg_none_of X T.g z_min
  have m_max := PySem.W.mg_none_of X T.g z_max
  have m_sum := PySem.W.mg_none_of X T.g z_sum
  have m_any := PySem.W.mg_none_of X T.g z_any
  have m_sorted := PySem.W.mg_none_of X T.g z_sorted
  have m_set := PySem.W.mg_none_of X T.g z_set
  have m_zip := PySem.W.mg_none_of X T.g z_zip
  have t_flo : PySem.W.tabIn K "from_left_on" = some (c0, Pt) := by
    unfold PySem.W.tabIn
    rw [a_flo]
    dsimp only
    rw [l_flo]
    dsimp only
    rw [lc_flo]
    dsimp only
    rw [v_flo]
  obtain ⟨dr, hdr⟩ := Option.isSome_iff_exists.mp r_flo
  obtain ⟨hC0, hT0⟩ := PySem.W.tab_of T X hdr t_flo
  refine ⟨PySem.W.fnOf "slices" "slices" (defArgs s_slices) (defBody s_slices) (defScope s_slices) .none kV_sl dc_sl pm_sl an_sl cd_sl ct_sl, c0, Pt, hC0, hT0, u_flo, fun s us hu => match us, hu with | [_], _ => .of_eq rfl, fun base _ _ TB => ?_⟩
  have G_slI := ok_slI (Pg := Pg) (w := w) (base := base) F_slI T_slI
  have G_cm := ok_cm (Pg := Pg) (w := w) (mg := mg) (base := base) F_cm m_abs
  have G_rat := ok_rat F_rat G_cm m_cm k_cm b_cm
  have G_plus := ok_plus F_plus G_rat m_rat k_rat b_rat
  have G_pn := ok_pn (Pg := Pg) (w := w) (mg := mg) (base := base) F_pn
  have G_rc := ok_rc (Pg := Pg) (w := w) (mg := mg) (base := base) F_rc T_err m_len m_range m_abs m_any m_FC m_MC m_FA
  have G_so := ok_so (Pg := Pg) (w := w) (mg := mg) (base := base) F_so m_len m_range
  have G_tu := ok_tu (Pg := Pg) (w := w) (mg := mg) (base := base) F_tu
  have G_hs := ok_hs F_hs m_len m_range G_tu m_tu k_tu b_tu
  have G_rl := ok_rl F_rl G_tu m_tu k_tu b_tu
  have G_spm := ok_spm (Pg := Pg) (w := w) (mg := mg) (base := base) F_spm m_min m_max
  have G_ds := ok_ds F_ds m_sum G_so m_so k_so b_so
  have G_sn := ok_sn F_sn T_slI G_pn m_pn k_pn b_pn
  have G_rt := ok_rt (Pg := Pg) (w := w) (mg := mg) (base := base) F_rt m_min m_max
  have G_ra := ok_ra F_ra G_rat m_rat k_rat b_rat
  have G_to := ok_to (Pg := Pg) (w := w) (mg := mg) (base := base) F_to
  have G_bs := ok_bs F_bs T_slI G_slI b_slI
  have G_sm := ok_sm F_sm G_rl m_rl k_rl b_rl G_spm m_spm k_spm b_spm
  have G_flo := ok_flo F_flo rfl TB m_sorted G_plus m_plus k_plus b_plus G_to m_to k_to b_to
  have G_it := ok_it F_it m_len m_range G_sm m_sm k_sm b_sm
  have G_sbt := ok_sbt F_sbt m_len m_range G_rt m_rt k_rt b_rt G_ra m_ra k_ra b_ra G_flo m_flo k_flo b_flo G_bs m_bs k_bs b_bs
  have G_rf := ok_rf F_rf T_err G_rc m_rc k_rc b_rc G_hs m_hs k_hs b_hs G_it m_it k_it b_it G_so m_so k_so b_so G_ds m_ds k_ds b_ds
  have G_slo := ok_slo F_slo m_sorted m_set m_zip G_so m_so k_so b_so G_sbt m_sbt k_sbt b_sbt
  exact ok_sl F_sl T_err m_len G_rf m_rf k_rf b_rf G_slo m_slo k_slo b_slo G_sn m_sn k_sn b_sn
end ScA
open PySem PySem.W PyProof.Rows
set_option maxRecDepth 100000 in
set_option maxHeartbeats 8000000 in
theorem PySem.Challenge.cw_stripcut_s01_slices_holds : PySem.Challenge.rw_stripcut_s01_slices.Holds := by
  w_on; k_headS; (case hw => exact ⟨[.list []], by decide +kernel, by decide +kernel⟩)
  k_fillS
  refine ScL.walk_specT (r := PySem.Challenge.rw_stripcut_s01_slices) (k := 12) (CX := L2.CX0) (ps := ["f"]) (sp := ScA.spSl) (by decide +kernel) rfl rfl ⟨rfl, by decide, by decide⟩ (fun w h Y => PySem.W.kIn_of Y) ?F ?S (fun _ _ _ _ z => z)
  case F =>
    intro w mg mb mean fa h Y T KX hmg
    refine' ScA.all_mk KX T hmg ?a_cm ?l_cm ?c_cm ?k_cm ?a_rat ?l_rat ?c_rat ?k_rat ?a_plus ?l_plus ?c_plus ?k_plus ?a_pn ?l_pn ?c_pn ?k_pn ?a_rf ?l_rf ?c_rf ?k_rf ?a_rc ?l_rc ?c_rc ?k_rc ?a_so ?l_so ?c_so ?k_so ?a_tu ?l_tu ?c_tu ?k_tu ?a_hs ?l_hs ?c_hs ?k_hs ?a_it ?l_it ?c_it ?k_it ?a_sm ?l_sm ?c_sm ?k_sm ?a_rl ?l_rl ?c_rl ?k_rl ?a_spm ?l_spm ?c_spm ?k_spm ?a_ds ?l_ds ?c_ds ?k_ds ?a_sn ?l_sn ?c_sn ?k_sn ?a_slo ?l_slo ?c_slo ?k_slo ?a_sbt ?l_sbt ?c_sbt ?k_sbt ?a_rt ?l_rt ?c_rt ?k_rt ?a_ra ?l_ra ?c_ra ?k_ra ?a_flo ?l_flo ?c_flo ?k_flo ?a_to ?l_to ?c_to ?k_to ?a_bs ?l_bs ?c_bs ?k_bs ?a_sl ?l_sl ?c_sl ?k_sl ?aC_slI ?a_slI ?i_slI ?l_slI ?c_slI ?k_slI ?pg_slI ?hd_slI ?po_slI ?sa_slI ?mk_slI ?kc_slI ?n0_slI ?n1_slI ?n2_slI ?n3_slI ?aE_err ?xE_err ?kE_err ?bE_err ?tE_err ?iE_err ?sE_err ?aK_FC ?aK_MC ?aK_FA ?z_abs ?z_len ?z_range ?z_min ?z_max ?z_sum ?z_any ?z_sorted ?z_set ?z_zip ?r_flo ?lc_flo ?v_flo ?u_flo
    (case a_cm => k_is)
    (case l_cm => k_is)
    (case c_cm => k_is)
    (case k_cm => k_is)
    (case a_rat => k_is)
    (case l_rat => k_is)
    (case c_rat => k_is)
    (case k_rat => k_is)
    (case a_plus => k_is)
    (case l_plus => k_is)
    (case c_plus => k_is)
    (case k_plus => k_is)
    (case a_pn => k_is)
    (case l_pn => k_is)
    (case c_pn => k_is)
    (case k_pn => k_is)
    (case a_rf => k_is)
    (case l_rf => k_is)
    (case c_rf => k_is)
    (case k_rf => k_is)
    (case a_rc => k_is)
    (case l_rc => k_is)
    (case c_rc => k_is)
    (case k_rc => k_is)
    (case a_so => k_is)
    (case l_so => k_is)
    (case c_so => k_is)
    (case k_so => k_is)
    (case a_tu => k_is)
    (case l_tu => k_is)
    (case c_tu => k_is)
    (case k_tu => k_is)
    (case a_hs => k_is)
    (case l_hs => k_is)
    (case c_hs => k_is)
    (case k_hs => k_is)
    (case a_it => k_is)
    (case l_it => k_is)
    (case c_it => k_is)
    (case k_it => k_is)
    (case a_sm => k_is)
    (case l_sm => k_is)
    (case c_sm => k_is)
    (case k_sm => k_is)
    (case a_rl => k_is)
    (case l_rl => k_is)
    (case c_rl => k_is)
    (case k_rl => k_is)
    (case a_spm => k_is)
    (case l_spm => k_is)
    (case c_spm => k_is)
    (case k_spm => k_is)
    (case a_ds => k_is)
    (case l_ds => k_is)
    (case c_ds => k_is)
    (case k_ds => k_is)
    (case a_sn => k_is)
    (case l_sn => k_is)
    (case c_sn => k_is)
    (case k_sn => k_is)
    (case a_slo => k_is)
    (case l_slo => k_is)
    (case c_slo => k_is)
    (case k_slo => k_is)
    (case a_sbt => k_is)
    (case l_sbt => k_is)
    (case c_sbt => k_is)
    (case k_sbt => k_is)
    (case a_rt => k_is)
    (case l_rt => k_is)
    (case c_rt => k_is)
    (case k_rt => k_is)
    (case a_ra => k_is)
    (case l_ra => k_is)
    (case c_ra => k_is)
    (case k_ra => k_is)
    (case a_flo => k_is)
    (case l_flo => k_is)
    (case c_flo => k_is)
    (case k_flo => k_is)
    (case a_to => k_is)
    (case l_to => k_is)
    (case c_to => k_is)
    (case k_to => k_is)
    (case a_bs => k_is)
    (case l_bs => k_is)
    (case c_bs => k_is)
    (case k_bs => k_is)
    (case a_sl => k_is)
    (case l_sl => k_is)
    (case c_sl => k_is)
    (case k_sl => k_is)
    (case aC_slI => k_is)
    (case a_slI => k_is)
    (case i_slI => k_is)
    (case l_slI => k_is)
    (case c_slI => k_is)
    (case k_slI => k_is)
    (case pg_slI => k_is)
    (case hd_slI => k_is)
    (case po_slI => k_is)
    (case sa_slI => k_is)
    (case mk_slI => k_is)
    (case kc_slI => k_is)
    (case n0_slI => k_is)
    (case n1_slI => k_is)
    (case n2_slI => k_is)
    (case n3_slI => k_is)
    (case aE_err => k_is)
    (case xE_err => k_exc)
    (case kE_err => k_is)
    (case bE_err => k_is)
    (case tE_err => k_is)
    (case iE_err => k_is)
    (case sE_err => first | rfl | k_is)
    (case aK_FC => k_is)
    (case aK_MC => k_is)
    (case aK_FA => k_is)
    (case z_abs => k_is)
    (case z_len => k_is)
    (case z_range => k_is)
    (case z_min => k_is)
    (case z_max => k_is)
    (case z_sum => k_is)
    (case z_any => k_is)
    (case z_sorted => k_is)
    (case z_set => k_is)
    (case z_zip => k_is)
    (case lc_flo => k_is)
    (case v_flo => first | rfl | kernel_rfl | k_is)
    (case u_flo => kernel_rfl)
    (case r_flo => kernel_rfl)
  case S =>
    intro Pt K H xs a hP hwi hask hx
    cases hx with
    | cons h1 h2 =>
      cases h2
      cases h1 with
      | lst hs ha =>
        have e := L2.ints_dw a.1 _ ha
        subst e
        refine ⟨_, a.1, rfl, hs, fun p hp => ?_, fun H' p hp => .lst (L2.SqL.of hp) (L2.dw_ints _)⟩
        rcases List.mem_singleton.mp hp with rfl
        exact LamX.TabS.nil hP
#print axioms PySem.Challenge.cw_stripcut_s01_slices_holds
