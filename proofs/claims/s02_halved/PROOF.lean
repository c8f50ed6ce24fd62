import PyProof.Rows.All
import Wide.All
import OpenK.AllK
import Wide.FinOn
import PyProof.EqAt
import PyProof.EqKinds
import PyProof.TupleCall
import Open.SpecLaws
import KE.OsGo
import HandS.Exc
import HandS.Comp
import HandS.ForSpec
import HandS.Iter
import HandS.Wide
import HandS.Walk
import PySem.Challenge.RW_stripcut_s02_halved
set_option Elab.async false
set_option linter.all false
set_option maxRecDepth 100000
set_option maxHeartbeats 4000000
namespace Sc
open Kzq1 (Q P)
/-! Fractions as rationals -/
def Ok (q : Q) : Prop := 0 < q.d ∧ Nat.gcd q.n.natAbs q.d = 1
def val (q : Q) : Rat := mkRat q.n q.d
theorem okQ_iff (q : Q) : Kzq1.okQ q = true ↔ Ok q := by
  unfold Kzq1.okQ Ok
  simp only [Bool.and_eq_true, decide_eq_true_eq, beq_iff_eq]
  constructor <;> (rintro ⟨a, b⟩; exact ⟨by omega, b⟩)
theorem val_num {q : Q} (h : Ok q) : (val q).num = q.n := by
  unfold val
  rw [Rat.num_mkRat, if_neg (by have := h.1; omega), Nat.gcd_comm, h.2]
  simp
theorem val_den {q : Q} (h : Ok q) : (val q).den = q.d := by
  unfold val
  rw [Rat.den_mkRat, if_neg (by have := h.1; omega), Nat.gcd_comm, h.2, Nat.div_one]
theorem val_inj {a b : Q} (ha : Ok a) (hb : Ok b) (e : val a = val b) : a = b := by
  have h1 := val_num ha
  have h2 := val_den ha
  rw [e] at h1 h2
  rw [val_num hb] at h1
  rw [val_den hb] at h2
  cases a; cases b
  simp_all
/-- mk of a lower number above 0: by the greatest common measure -/
theorem mk_eq {n : Int} {d : Nat} (h : 0 < d) : Kzq1.mk n d = ⟨n / (Nat.gcd n.natAbs d : Nat), d / Nat.gcd n.natAbs d⟩ := by
  have hg : 0 < Nat.gcd n.natAbs d := Nat.gcd_pos_of_pos_right _ h
  have hq : 0 < d / Nat.gcd n.natAbs d := Nat.div_pos (Nat.gcd_le_right _ h) hg
  unfold Kzq1.mk
  dsimp only
  rw [if_neg (by omega), if_neg (by omega)]
theorem mk_ok {n : Int} {d : Nat} (h : 0 < d) : Ok (Kzq1.mk n d) := by
  have hg : 0 < Nat.gcd n.natAbs d := Nat.gcd_pos_of_pos_right _ h
  rw [mk_eq h]
  refine ⟨Nat.div_pos (Nat.gcd_le_right _ h) hg, ?_⟩
  show Nat.gcd (n / (Nat.gcd n.natAbs d : Nat)).natAbs (d / Nat.gcd n.natAbs d) = 1
  have hv : ((Nat.gcd n.natAbs d : Nat) : Int) ∣ n := Int.ofNat_dvd_left.mpr (Nat.gcd_dvd_left _ _)
  rw [Int.natAbs_ediv_of_dvd hv, Int.natAbs_natCast, Nat.gcd_div (Nat.gcd_dvd_left _ _) (Nat.gcd_dvd_right _ _)]
  exact Nat.div_self hg
theorem val_mk {n : Int} {d : Nat} (h : 0 < d) : val (Kzq1.mk n d) = mkRat n d := by
  have h0 : d ≠ 0 := by omega
  have o := mk_ok (n := n) h
  refine Rat.ext ?_ ?_
  · rw [val_num o, Rat.num_mkRat, if_neg h0, mk_eq h, Nat.gcd_comm]
  · rw [val_den o, Rat.den_mkRat, if_neg h0, mk_eq h, Nat.gcd_comm]
theorem whole_ok (n : Int) : Ok (Kzq1.whole n) := ⟨Nat.one_pos, Nat.gcd_one_right _⟩
theorem val_whole (n : Int) : val (Kzq1.whole n) = (n : Rat) := by
  refine Rat.ext ?_ ?_
  · rw [val_num (whole_ok n)]; rfl
  · rw [val_den (whole_ok n)]; rfl
theorem zero_ok : Ok Kzq1.zero := ⟨Nat.one_pos, Nat.gcd_one_right _⟩
theorem val_zero : val Kzq1.zero = 0 := val_whole 0
theorem half_ok : Ok Kzq1.half := ⟨by decide, by decide⟩
theorem val_half : val Kzq1.half = 1 / 2 := by
  show mkRat 1 2 = 1 / 2
  rw [Rat.mkRat_eq_div]; rfl
section
variable {a b : Q}
theorem add_ok (ha : Ok a) (hb : Ok b) : Ok (Kzq1.add a b) := mk_ok (Nat.mul_pos ha.1 hb.1)
theorem val_add (ha : Ok a) (hb : Ok b) : val (Kzq1.add a b) = val a + val b := by
  unfold Kzq1.add
  rw [val_mk (Nat.mul_pos ha.1 hb.1)]
  unfold val
  rw [Rat.mkRat_add_mkRat _ _ (by have := ha.1; omega) (by have := hb.1; omega)]
theorem neg_ok (ha : Ok a) : Ok (Kzq1.neg a) := ⟨ha.1, by show Nat.gcd (-a.n).natAbs a.d = 1; rw [Int.natAbs_neg]; exact ha.2⟩
theorem val_neg (_ : Ok a) : val (Kzq1.neg a) = - val a := by
  unfold val
  rw [Rat.neg_mkRat]; rfl
theorem sub_ok (ha : Ok a) (hb : Ok b) : Ok (Kzq1.sub a b) := add_ok ha (neg_ok hb)
theorem val_sub (ha : Ok a) (hb : Ok b) : val (Kzq1.sub a b) = val a - val b := by
  unfold Kzq1.sub
  rw [val_add ha (neg_ok hb), val_neg hb, Rat.sub_eq_add_neg]
theorem mul_ok (ha : Ok a) (hb : Ok b) : Ok (Kzq1.mul a b) := mk_ok (Nat.mul_pos ha.1 hb.1)
theorem val_mul (ha : Ok a) (hb : Ok b) : val (Kzq1.mul a b) = val a * val b := by
  unfold Kzq1.mul
  rw [val_mk (Nat.mul_pos ha.1 hb.1)]
  unfold val
  rw [Rat.mkRat_mul_mkRat]
theorem n_zero_iff (ha : Ok a) : a.n = 0 ↔ val a = 0 := by
  rw [← Rat.num_eq_zero, val_num ha]
theorem inv_ok (_ : Ok a) (h : val a ≠ 0) : Ok (Kzq1.inv a) := by
  have hn : a.n ≠ 0 := fun e => h ((n_zero_iff ‹_›).mp e)
  unfold Kzq1.inv
  split <;> exact mk_ok (by omega)
theorem val_inv (ha : Ok a) (h : val a ≠ 0) : val (Kzq1.inv a) = (val a)⁻¹ := by
  have hn : a.n ≠ 0 := fun e => h ((n_zero_iff ha).mp e)
  have hp : 0 < a.n.natAbs := by omega
  have e1 : (val a)⁻¹ = Rat.divInt (a.d : Int) a.n := by rw [Rat.inv_def, val_num ha, val_den ha]
  rw [e1]
  unfold Kzq1.inv
  split
  · rename_i c
    rw [val_mk hp, ← Rat.divInt_ofNat, show ((a.n.natAbs : Nat) : Int) = a.n by omega]
  · rename_i c
    rw [val_mk hp, ← Rat.divInt_ofNat, show ((a.n.natAbs : Nat) : Int) = -a.n by omega, Rat.neg_divInt_neg]
theorem div_ok (ha : Ok a) (hb : Ok b) (h : val b ≠ 0) : Ok (Kzq1.div a b) := mul_ok ha (inv_ok hb h)
theorem val_div (ha : Ok a) (hb : Ok b) (h : val b ≠ 0) : val (Kzq1.div a b) = val a / val b := by
  unfold Kzq1.div
  rw [val_mul ha (inv_ok hb h), val_inv hb h, Rat.div_def]
theorem lt_iff (ha : Ok a) (hb : Ok b) : Kzq1.lt a b = true ↔ val a < val b := by
  unfold Kzq1.lt
  rw [decide_eq_true_eq, Rat.lt_iff, val_num ha, val_num hb, val_den ha, val_den hb]
theorem lt_eq (ha : Ok a) (hb : Ok b) : Kzq1.lt a b = decide (val a < val b) := by
  rw [Bool.eq_iff_iff, lt_iff ha hb, decide_eq_true_eq]
theorem le_eq (ha : Ok a) (hb : Ok b) : Kzq1.le a b = decide (val a ≤ val b) := by
  unfold Kzq1.le
  rw [lt_eq hb ha, ← decide_not, decide_eq_decide, Rat.not_lt]
theorem eq_iff (ha : Ok a) (hb : Ok b) : a = b ↔ val a = val b := ⟨fun e => by rw [e], val_inj ha hb⟩
theorem isZero_eq (ha : Ok a) : Kzq1.isZero a = decide (val a = 0) := by
  unfold Kzq1.isZero
  rw [Bool.eq_iff_iff, beq_iff_eq, decide_eq_true_eq, n_zero_iff ha]
theorem pos_eq (ha : Ok a) : Kzq1.pos a = decide (0 < val a) := by
  unfold Kzq1.pos
  rw [Bool.eq_iff_iff, decide_eq_true_eq, decide_eq_true_eq, Rat.lt_iff, val_num ha]
  simp
end
/-! Points -/
def OkP (p : P) : Prop := Ok p.x ∧ Ok p.y
abbrev px (p : P) : Rat := val p.x
abbrev py (p : P) : Rat := val p.y
theorem P_ext {p q : P} (hp : OkP p) (hq : OkP q) (h1 : px p = px q) (h2 : py p = py q) : p = q := by
  have e1 := val_inj hp.1 hq.1 h1
  have e2 := val_inj hp.2 hq.2 h2
  cases p; cases q; simp_all
theorem P_eq_iff {p q : P} (hp : OkP p) (hq : OkP q) : p = q ↔ px p = px q ∧ py p = py q :=
  ⟨fun e => by rw [e]; exact ⟨rfl, rfl⟩, fun h => P_ext hp hq h.1 h.2⟩
theorem origin_ok : OkP Kzq1.origin := ⟨zero_ok, zero_ok⟩
section
variable {p q r : P}
theorem plus_ok (hp : OkP p) (hq : OkP q) : OkP (Kzq1.plus p q) := ⟨add_ok hp.1 hq.1, add_ok hp.2 hq.2⟩
theorem px_plus (hp : OkP p) (hq : OkP q) : px (Kzq1.plus p q) = px p + px q := val_add hp.1 hq.1
theorem py_plus (hp : OkP p) (hq : OkP q) : py (Kzq1.plus p q) = py p + py q := val_add hp.2 hq.2
theorem less_ok (hp : OkP p) (hq : OkP q) : OkP (Kzq1.less p q) := ⟨sub_ok hp.1 hq.1, sub_ok hp.2 hq.2⟩
theorem times_ok {k : Q} (hk : Ok k) (hp : OkP p) : OkP (Kzq1.times k p) := ⟨mul_ok hk hp.1, mul_ok hk hp.2⟩
theorem px_times {k : Q} (hk : Ok k) (hp : OkP p) : px (Kzq1.times k p) = val k * px p := val_mul hk hp.1
theorem py_times {k : Q} (hk : Ok k) (hp : OkP p) : py (Kzq1.times k p) = val k * py p := val_mul hk hp.2
theorem cross_ok (hp : OkP p) (hq : OkP q) : Ok (Kzq1.cross p q) := sub_ok (mul_ok hp.1 hq.2) (mul_ok hp.2 hq.1)
theorem val_cross (hp : OkP p) (hq : OkP q) : val (Kzq1.cross p q) = px p * py q - py p * px q := by
  unfold Kzq1.cross
  rw [val_sub (mul_ok hp.1 hq.2) (mul_ok hp.2 hq.1), val_mul hp.1 hq.2, val_mul hp.2 hq.1]
theorem turn_ok (hp : OkP p) (hq : OkP q) (hr : OkP r) : Ok (Kzq1.turn p q r) := cross_ok (less_ok hq hp) (less_ok hr hp)
theorem val_turn (hp : OkP p) (hq : OkP q) (hr : OkP r) : val (Kzq1.turn p q r) = (px q - px p) * (py r - py p) - (py q - py p) * (px r - px p) := by
  unfold Kzq1.turn
  rw [val_cross (less_ok hq hp) (less_ok hr hp)]
  show val (Kzq1.sub q.x p.x) * val (Kzq1.sub r.y p.y) - val (Kzq1.sub q.y p.y) * val (Kzq1.sub r.x p.x) = _
  rw [val_sub hq.1 hp.1, val_sub hr.2 hp.2, val_sub hq.2 hp.2, val_sub hr.1 hp.1]
end
end Sc
namespace Sc
open Kzq1 (Q P)
/-! Pieces of four corners -/
/-- piece_of: corners that stand twice in a row once, begun with the leftmost -/
def pieceOf (l : List P) : List P := Kzq1.begunWith (Kzq1.unlike l)
theorem formed_of {l : List P} (h3 : 3 ≤ (Kzq1.unlike l).length) (hs : Kzq1.straightened (Kzq1.unlike l) = Kzq1.unlike l) : Kzq1.formed l = pieceOf l := by
  unfold Kzq1.formed pieceOf
  dsimp only
  rw [hs, if_neg (by omega)]
theorem fm_cons {c : Prop} [Decidable c] {i : Nat} {x : P} {f : Nat → Option P} {r : List Nat} (h : f i = if c then none else some x) : (i :: r).filterMap f = (if c then [] else [x]) ++ r.filterMap f := by
  rw [List.filterMap_cons, h]
  by_cases k : c
  · rw [if_pos k, if_pos k]; rfl
  · rw [if_neg k, if_neg k]; rfl
theorem unlike4 (a b c d : P) : Kzq1.unlike [a, b, c, d] = (if a = b then [] else [a]) ++ ((if b = c then [] else [b]) ++ ((if c = d then [] else [c]) ++ (if d = a then [] else [d]))) := by
  have e4 : Kzq1.at0 [a, b, c, d] (3 + 1) = a := by simp [Kzq1.at0]
  show List.filterMap (fun i => if Kzq1.at0 [a, b, c, d] i = Kzq1.at0 [a, b, c, d] (i + 1) then none else some (Kzq1.at0 [a, b, c, d] i)) [0, 1, 2, 3] = _
  rw [fm_cons (c := a = b) (x := a) rfl, fm_cons (c := b = c) (x := b) rfl, fm_cons (c := c = d) (x := c) rfl, fm_cons (c := d = a) (x := d) (by rw [e4]; rfl)]
  simp
theorem straight4 {a b c d : P} (h1 : Kzq1.isZero (Kzq1.turn d a b) = false) (h2 : Kzq1.isZero (Kzq1.turn a b c) = false) (h3 : Kzq1.isZero (Kzq1.turn b c d) = false) (h4 : Kzq1.isZero (Kzq1.turn c d a) = false) :
    Kzq1.straightened [a, b, c, d] = [a, b, c, d] := by
  have r : List.range 4 = [0, 1, 2, 3] := rfl
  unfold Kzq1.straightened
  simp only [List.length_cons, List.length_nil, Nat.zero_add, Nat.reduceAdd, r, List.filterMap_cons, List.filterMap_nil]
  have e0 : Kzq1.at0 [a, b, c, d] 0 = a := by simp [Kzq1.at0]
  have e1 : Kzq1.at0 [a, b, c, d] 1 = b := by simp [Kzq1.at0]
  have e2 : Kzq1.at0 [a, b, c, d] 2 = c := by simp [Kzq1.at0]
  have e3 : Kzq1.at0 [a, b, c, d] 3 = d := by simp [Kzq1.at0]
  have e4 : Kzq1.at0 [a, b, c, d] 4 = a := by simp [Kzq1.at0]
  have e5 : Kzq1.at0 [a, b, c, d] 5 = b := by simp [Kzq1.at0]
  have e6 : Kzq1.at0 [a, b, c, d] 6 = c := by simp [Kzq1.at0]
  simp [e0, e1, e2, e3, e4, e5, e6, h1, h2, h3, h4]
theorem straight3 {a b c : P} (h1 : Kzq1.isZero (Kzq1.turn c a b) = false) (h2 : Kzq1.isZero (Kzq1.turn a b c) = false) (h3 : Kzq1.isZero (Kzq1.turn b c a) = false) :
    Kzq1.straightened [a, b, c] = [a, b, c] := by
  have r : List.range 3 = [0, 1, 2] := rfl
  unfold Kzq1.straightened
  simp only [List.length_cons, List.length_nil, Nat.zero_add, Nat.reduceAdd, r, List.filterMap_cons, List.filterMap_nil]
  have e0 : Kzq1.at0 [a, b, c] 0 = a := by simp [Kzq1.at0]
  have e1 : Kzq1.at0 [a, b, c] 1 = b := by simp [Kzq1.at0]
  have e2 : Kzq1.at0 [a, b, c] 2 = c := by simp [Kzq1.at0]
  have e3 : Kzq1.at0 [a, b, c] 3 = a := by simp [Kzq1.at0]
  have e4 : Kzq1.at0 [a, b, c] 4 = b := by simp [Kzq1.at0]
  simp [e0, e1, e2, e3, e4, h1, h2, h3]
theorem isZero_turn {p q r : P} (hp : OkP p) (hq : OkP q) (hr : OkP r) (h : (px q - px p) * (py r - py p) - (py q - py p) * (px r - px p) ≠ 0) : Kzq1.isZero (Kzq1.turn p q r) = false := by
  rw [isZero_eq (turn_ok hp hq hr), val_turn hp hq hr, decide_eq_false h]
theorem mul_ne {x y : Rat} (hx : 0 < x) (hy : 0 < y) : x * y ≠ 0 := Rat.ne_of_gt (Rat.mul_pos hx hy)
/-- two points below, two above, the upper ones higher; not just one below and one above -/
structure Trap (a b c d : P) : Prop where
  oa : OkP a
  ob : OkP b
  oc : OkP c
  od : OkP d
  y0 : py a = py b
  y1 : py c = py d
  up : py a < py c
  xab : px a ≤ px b
  xdc : px d ≤ px c
  big : px a < px b ∨ px d < px c
theorem Trap.ne {a b c d : P} (t : Trap a b c d) : b ≠ c ∧ d ≠ a := by
  constructor
  · intro e
    have := t.up; have := t.y0
    rw [e] at this; grind
  · intro e
    have := t.up; have := t.y1
    rw [e] at this; grind
theorem Trap.formed {a b c d : P} (t : Trap a b c d) : Kzq1.formed [a, b, c, d] = pieceOf [a, b, c, d] := by
  obtain ⟨nbc, nda⟩ := t.ne
  obtain ⟨oa, ob, oc, od, y0, y1, up, xab, xdc, big⟩ := t
  have hh : 0 < py c - py a := by grind
  by_cases e1 : a = b
  · have nx : px d < px c := by subst e1; grind
    have ncd : c ≠ d := fun e => by rw [e] at nx; grind
    have u : Kzq1.unlike [a, b, c, d] = [b, c, d] := by
      rw [unlike4, if_pos e1, if_neg nbc, if_neg ncd, if_neg nda]; rfl
    subst e1
    have k : 0 < px c - px d := by grind
    have m := mul_ne k hh
    refine formed_of (by rw [u]; simp) (by
      rw [u]
      exact straight3 (isZero_turn od oa oc (by grind)) (isZero_turn oa oc od (by grind)) (isZero_turn oc od oa (by grind)))
  · have nx : px a < px b := by
      rcases Rat.le_iff_lt_or_eq.mp xab with h | h
      · exact h
      · exact absurd (P_ext oa ob h y0) e1
    have k : 0 < px b - px a := by grind
    have m := mul_ne k hh
    by_cases e2 : c = d
    · have u : Kzq1.unlike [a, b, c, d] = [a, b, d] := by
        rw [unlike4, if_neg e1, if_neg nbc, if_pos e2, if_neg nda]; rfl
      subst e2
      refine formed_of (by rw [u]; simp) (by
        rw [u]
        exact straight3 (isZero_turn oc oa ob (by grind)) (isZero_turn oa ob oc (by grind)) (isZero_turn ob oc oa (by grind)))
    · have nx2 : px d < px c := by
        rcases Rat.le_iff_lt_or_eq.mp xdc with h | h
        · exact h
        · exact absurd (P_ext oc od h.symm y1) e2
      have k2 : 0 < px c - px d := by grind
      have m2 := mul_ne k2 hh
      have u : Kzq1.unlike [a, b, c, d] = [a, b, c, d] := by
        rw [unlike4, if_neg e1, if_neg nbc, if_neg e2, if_neg nda]; rfl
      refine formed_of (by rw [u]; simp) (by
        rw [u]
        exact straight4 (isZero_turn od oa ob (by grind)) (isZero_turn oa ob oc (by grind)) (isZero_turn ob oc od (by grind)) (isZero_turn oc od oa (by grind)))
/-- the middle of two points -/
def mid (a b : P) : P := Kzq1.times Kzq1.half (Kzq1.plus a b)
theorem mid_ok {a b : P} (ha : OkP a) (hb : OkP b) : OkP (mid a b) := times_ok half_ok (plus_ok ha hb)
theorem px_mid {a b : P} (ha : OkP a) (hb : OkP b) : px (mid a b) = (px a + px b) / 2 := by
  unfold mid
  rw [px_times half_ok (plus_ok ha hb), px_plus ha hb, val_half]; grind
theorem py_mid {a b : P} (ha : OkP a) (hb : OkP b) : py (mid a b) = (py a + py b) / 2 := by
  unfold mid
  rw [py_times half_ok (plus_ok ha hb), py_plus ha hb, val_half]; grind
theorem Trap.low {a b c d : P} (t : Trap a b c d) : Trap a b (mid b c) (mid a d) := by
  obtain ⟨oa, ob, oc, od, y0, y1, up, xab, xdc, big⟩ := t
  have m1 := px_mid ob oc; have m2 := py_mid ob oc; have m3 := px_mid oa od; have m4 := py_mid oa od
  exact ⟨oa, ob, mid_ok ob oc, mid_ok oa od, y0, by grind, by grind, xab, by grind, .inr (by grind)⟩
theorem Trap.high {a b c d : P} (t : Trap a b c d) : Trap (mid a d) (mid b c) c d := by
  obtain ⟨oa, ob, oc, od, y0, y1, up, xab, xdc, big⟩ := t
  have m1 := px_mid ob oc; have m2 := py_mid ob oc; have m3 := px_mid oa od; have m4 := py_mid oa od
  exact ⟨mid_ok oa od, mid_ok ob oc, oc, od, by grind, y1, by grind, by grind, xdc, .inl (by grind)⟩
theorem mid_twice {b c : P} (hb : OkP b) (hc : OkP c) : Kzq1.plus (mid b c) (mid b c) = Kzq1.plus b c := by
  have m := mid_ok hb hc
  refine P_ext (plus_ok m m) (plus_ok hb hc) ?_ ?_
  · rw [px_plus m m, px_plus hb hc, px_mid hb hc]; grind
  · rw [py_plus m m, py_plus hb hc, py_mid hb hc]; grind
/-- the mirror of slice_halved -/
def halves (a b c e : P) : List Kzq2.Part := [⟨pieceOf [a, b, mid b c, mid a e], Kzq2.stay⟩, ⟨pieceOf [mid a e, mid b c, c, e], ⟨true, Kzq1.plus b c⟩⟩]
theorem halved_is {a b c e : P} (t : Trap a b c e) : (Kzq2.halved a b c e).1 = halves a b c e := by
  show [(⟨Kzq1.formed [a, b, mid b c, mid a e], Kzq2.stay⟩ : Kzq2.Part), ⟨Kzq1.formed [mid a e, mid b c, c, e], ⟨true, Kzq1.plus (mid b c) (mid b c)⟩⟩] = _
  rw [t.low.formed, t.high.formed, mid_twice t.ob t.oc]
  rfl
end Sc
namespace Sc
open Kzq1 (Q P)
/-! Sizes of numbers; the program's own fraction of two numbers -/
def gcdI (a b : Int) : Int := (Nat.gcd a.natAbs b.natAbs : Nat)
def Sz (k : Nat) (q : Q) : Prop := q.n.natAbs < 2 ^ k ∧ q.d < 2 ^ k
theorem Sz.mono {j k : Nat} {q : Q} (h : Sz j q) (hk : j ≤ k) : Sz k q :=
  have p : 2 ^ j ≤ 2 ^ k := Nat.pow_le_pow_right (by omega) hk
  ⟨Nat.lt_of_lt_of_le h.1 p, Nat.lt_of_lt_of_le h.2 p⟩
theorem mk_sz {n : Int} {d k : Nat} (h : 0 < d) (hn : n.natAbs < 2 ^ k) (hd : d < 2 ^ k) : Sz k (Kzq1.mk n d) := by
  have hv : ((Nat.gcd n.natAbs d : Nat) : Int) ∣ n := Int.ofNat_dvd_left.mpr (Nat.gcd_dvd_left _ _)
  rw [mk_eq h]
  refine ⟨?_, Nat.lt_of_le_of_lt (Nat.div_le_self _ _) hd⟩
  show (n / (Nat.gcd n.natAbs d : Nat)).natAbs < _
  rw [Int.natAbs_ediv_of_dvd hv, Int.natAbs_natCast]
  exact Nat.lt_of_le_of_lt (Nat.div_le_self _ _) hn
theorem mul_lt {i j : Int} {a b : Nat} (ha : i.natAbs < 2 ^ a) (hb : j.natAbs < 2 ^ b) : (i * j).natAbs < 2 ^ (a + b) := by
  rw [Int.natAbs_mul, Nat.pow_add]
  exact Nat.mul_lt_mul'' ha hb
theorem cross_lt {i j k l : Int} {a b : Nat} (h1 : i.natAbs < 2 ^ a) (h2 : j.natAbs < 2 ^ b) (h3 : k.natAbs < 2 ^ b) (h4 : l.natAbs < 2 ^ a) : (i * j + k * l).natAbs < 2 ^ (a + b + 1) := by
  have p := mul_lt h1 h2
  have q := mul_lt h3 h4
  rw [Nat.add_comm b a] at q
  have e : 2 ^ (a + b + 1) = 2 ^ (a + b) + 2 ^ (a + b) := by rw [Nat.pow_succ]; omega
  have := Int.natAbs_add_le (i * j) (k * l)
  omega
section
variable {a b : Q} {j k : Nat}
theorem add_sz (ha : Ok a) (hb : Ok b) (h1 : Sz j a) (h2 : Sz k b) : Sz (j + k + 1) (Kzq1.add a b) := by
  refine mk_sz (Nat.mul_pos ha.1 hb.1) (cross_lt h1.1 (by simpa using h2.2) h2.1 (by simpa using h1.2)) ?_
  have p : a.d * b.d < 2 ^ j * 2 ^ k := Nat.mul_lt_mul'' h1.2 h2.2
  rw [← Nat.pow_add] at p
  exact Nat.lt_of_lt_of_le p (Nat.pow_le_pow_right (by omega) (by omega))
theorem neg_sz (h : Sz j a) : Sz j (Kzq1.neg a) := ⟨by show (-a.n).natAbs < _; rw [Int.natAbs_neg]; exact h.1, h.2⟩
theorem sub_sz (ha : Ok a) (hb : Ok b) (h1 : Sz j a) (h2 : Sz k b) : Sz (j + k + 1) (Kzq1.sub a b) := add_sz ha (neg_ok hb) h1 (neg_sz h2)
theorem mul_sz (ha : Ok a) (hb : Ok b) (h1 : Sz j a) (h2 : Sz k b) : Sz (j + k) (Kzq1.mul a b) := by
  refine mk_sz (Nat.mul_pos ha.1 hb.1) (mul_lt h1.1 h2.1) ?_
  have p : a.d * b.d < 2 ^ j * 2 ^ k := Nat.mul_lt_mul'' h1.2 h2.2
  rw [← Nat.pow_add] at p
  exact p
theorem half_sz : Sz 2 Kzq1.half := ⟨by decide, by decide⟩
end
def SzP (k : Nat) (p : P) : Prop := Sz k p.x ∧ Sz k p.y
theorem SzP.mono {j k : Nat} {p : P} (h : SzP j p) (hk : j ≤ k) : SzP k p := ⟨h.1.mono hk, h.2.mono hk⟩
theorem plus_sz {p q : P} {j k : Nat} (hp : OkP p) (hq : OkP q) (h1 : SzP j p) (h2 : SzP k q) : SzP (j + k + 1) (Kzq1.plus p q) := ⟨add_sz hp.1 hq.1 h1.1 h2.1, add_sz hp.2 hq.2 h1.2 h2.2⟩
theorem mid_sz {p q : P} {j k : Nat} (hp : OkP p) (hq : OkP q) (h1 : SzP j p) (h2 : SzP k q) : SzP (j + k + 3) (mid p q) := by
  have o := plus_ok hp hq
  have z := plus_sz hp hq h1 h2
  exact ⟨(mul_sz half_ok o.1 half_sz z.1).mono (by omega), (mul_sz half_ok o.2 half_sz z.2).mono (by omega)⟩
/-- ratio(top, bottom): the lower number may be below 0 -/
def mkI (t b : Int) : Q := if b < 0 then Kzq1.mk (-t) b.natAbs else Kzq1.mk t b.natAbs
theorem mkI_ok {t b : Int} (h : b ≠ 0) : Ok (mkI t b) := by
  unfold mkI
  split <;> exact mk_ok (by omega)
theorem mkI_pos {t b : Int} (h : 0 < b) : mkI t b = Kzq1.mk t b.toNat := by
  unfold mkI
  rw [if_neg (by omega)]
  congr 1; omega
theorem mkI_nat {t : Int} {d : Nat} (h : 0 < d) : mkI t (d : Int) = Kzq1.mk t d := by
  rw [mkI_pos (by omega)]; rfl
theorem gcdI_pos {t b : Int} (h : b ≠ 0) : 0 < gcdI t b := by
  have : 0 < Nat.gcd t.natAbs b.natAbs := Nat.gcd_pos_of_pos_right _ (by omega)
  unfold gcdI; omega
theorem mkI_up {t b : Int} (h : b ≠ 0) : t.fdiv (if b < 0 then -gcdI t b else gcdI t b) = (mkI t b).n := by
  have hg := gcdI_pos (t := t) h
  have hd : gcdI t b ∣ t := Int.ofNat_dvd_left.mpr (Nat.gcd_dvd_left _ _)
  unfold mkI
  by_cases c : b < 0
  · rw [if_pos c, if_pos c, mk_eq (by omega)]
    show _ = -t / (Nat.gcd (-t).natAbs b.natAbs : Nat)
    rw [Int.natAbs_neg]
    obtain ⟨x, hx⟩ := hd
    show _ = -t / gcdI t b
    generalize gcdI t b = g at *
    subst hx
    rw [← Int.mul_neg, Int.mul_ediv_cancel_left _ (by omega), show g * x = (-g) * (-x) by rw [Int.neg_mul_neg], Int.mul_fdiv_cancel_left _ (by omega)]
  · rw [if_neg c, if_neg c, mk_eq (by omega)]
    show _ = t / gcdI t b
    exact Int.fdiv_eq_ediv_of_nonneg _ (by omega)
theorem mkI_low {t b : Int} (h : b ≠ 0) : b.fdiv (if b < 0 then -gcdI t b else gcdI t b) = ((mkI t b).d : Int) := by
  have hg := gcdI_pos (t := t) h
  have hd : gcdI t b ∣ b := Int.ofNat_dvd_left.mpr (Nat.gcd_dvd_right _ _)
  have key : ((b.natAbs / Nat.gcd t.natAbs b.natAbs : Nat) : Int) = (b.natAbs : Int) / gcdI t b := by
    rw [Int.natCast_ediv]; rfl
  unfold mkI
  by_cases c : b < 0
  · rw [if_pos c, if_pos c, mk_eq (by omega)]
    show _ = ((b.natAbs / Nat.gcd (-t).natAbs b.natAbs : Nat) : Int)
    rw [Int.natAbs_neg, key, show ((b.natAbs : Nat) : Int) = -b by omega]
    obtain ⟨x, hx⟩ := hd
    generalize gcdI t b = g at *
    subst hx
    rw [← Int.mul_neg, Int.mul_ediv_cancel_left _ (by omega), show g * x = (-g) * (-x) by rw [Int.neg_mul_neg], Int.mul_fdiv_cancel_left _ (by omega)]
  · rw [if_neg c, if_neg c, mk_eq (by omega)]
    show _ = ((b.natAbs / Nat.gcd t.natAbs b.natAbs : Nat) : Int)
    rw [key, show ((b.natAbs : Nat) : Int) = b by omega]
    exact Int.fdiv_eq_ediv_of_nonneg _ (by omega)
theorem gcdI_le {t b : Int} (h : b ≠ 0) : (gcdI t b).natAbs ≤ b.natAbs := by
  have := Nat.gcd_le_right t.natAbs (show 0 < b.natAbs by omega)
  unfold gcdI; omega
end Sc
namespace Sc
open Kzq1 (Q P)
/-! Reading points -/
def rdPt : List Int → Option P
  | [a, b, c, d] => match Kzq1.readQ a b, Kzq1.readQ c d with
    | some x, some y => some ⟨x, y⟩
    | _, _ => none
  | _ => none
theorem rp_cons (a b c d : Int) (l : List Int) : Kzq1.readPoints (a :: b :: c :: d :: l) = match rdPt [a, b, c, d], Kzq1.readPoints l with
    | some x, some r => some (x :: r)
    | _, _ => none := by
  show (match Kzq1.readQ a b, Kzq1.readQ c d, Kzq1.readPoints l with
    | some x, some y, some r => some ((⟨x, y⟩ : P) :: r)
    | _, _, _ => none) = (match (match Kzq1.readQ a b, Kzq1.readQ c d with
    | some x, some y => some (⟨x, y⟩ : P)
    | _, _ => none), Kzq1.readPoints l with
    | some x, some r => some (x :: r)
    | _, _ => none)
  cases Kzq1.readQ a b <;> cases Kzq1.readQ c d <;> cases Kzq1.readPoints l <;> rfl
theorem rp_app : ∀ (n : Nat) (l m : List Int), l.length = 4 * n → Kzq1.readPoints (l ++ m) = match Kzq1.readPoints l, Kzq1.readPoints m with
    | some x, some y => some (x ++ y)
    | _, _ => none
  | 0, l, m, h => by
    have e : l = [] := List.length_eq_zero_iff.mp (by omega)
    subst e
    show Kzq1.readPoints m = (match some ([] : List P), Kzq1.readPoints m with
      | some x, some y => some (x ++ y)
      | _, _ => none)
    cases Kzq1.readPoints m <;> rfl
  | n + 1, l, m, h => by
    match l, h with
    | a :: b :: c :: d :: r, h =>
      have h' : r.length = 4 * n := by simp at h; omega
      show Kzq1.readPoints (a :: b :: c :: d :: (r ++ m)) = _
      rw [rp_cons, rp_cons, rp_app n r m h']
      cases rdPt [a, b, c, d] <;> cases Kzq1.readPoints r <;> cases Kzq1.readPoints m <;> rfl
theorem rp_four {l : List Int} (h : l.length = 4) : Kzq1.readPoints l = (rdPt l).map fun p => [p] := by
  match l, h with
  | [a, b, c, d], _ =>
    rw [rp_cons]
    show (match rdPt [a, b, c, d], some ([] : List P) with
      | some x, some r => some (x :: r)
      | _, _ => none) = _
    cases rdPt [a, b, c, d] <;> rfl
/-- four more numbers -/
theorem rp_more {ns : List Int} {i n : Nat} (h : ns.length = 4 * n) (hi : i < n) : Kzq1.readPoints (ns.take (4 * (i + 1))) = match Kzq1.readPoints (ns.take (4 * i)), rdPt ((ns.drop (4 * i)).take 4) with
    | some x, some y => some (x ++ [y])
    | _, _ => none := by
  have e : ns.take (4 * (i + 1)) = ns.take (4 * i) ++ (ns.drop (4 * i)).take 4 := by
    rw [← List.take_add, Nat.mul_succ]
  rw [e, rp_app i _ _ (by rw [List.length_take]; omega), rp_four (l := (ns.drop (4 * i)).take 4) (by rw [List.length_take, List.length_drop]; omega)]
  cases Kzq1.readPoints (ns.take (4 * i)) <;> cases rdPt ((ns.drop (4 * i)).take 4) <;> rfl
theorem rp_bad {ns : List Int} {i n : Nat} (h : ns.length = 4 * n) (hi : i < n) (hr : rdPt ((ns.drop (4 * i)).take 4) = none) : Kzq1.readPoints ns = none := by
  have e : ns = ns.take (4 * (i + 1)) ++ ns.drop (4 * (i + 1)) := (List.take_append_drop _ _).symm
  rw [e, rp_app (i + 1) _ _ (by rw [List.length_take]; omega), rp_more h hi, hr]
  cases Kzq1.readPoints (ns.take (4 * i)) <;> rfl
theorem readQ_ok {a b : Int} {q : Q} (h : Kzq1.readQ a b = some q) : Ok q ∧ q.n = a ∧ (q.d : Int) = b := by
  unfold Kzq1.readQ at h
  split at h
  · cases h
  · split at h
    · rename_i c1 c2
      cases h
      exact ⟨(okQ_iff _).mp c2, rfl, by show ((b.toNat : Nat) : Int) = b; omega⟩
    · cases h
theorem rdPt_ok {l : List Int} {p : P} (h : rdPt l = some p) : OkP p ∧ l = [p.x.n, (p.x.d : Int), p.y.n, (p.y.d : Int)] := by
  unfold rdPt at h
  split at h
  · split at h
    · rename_i x y h1 h2
      cases h
      obtain ⟨o1, e1, e2⟩ := readQ_ok h1
      obtain ⟨o2, e3, e4⟩ := readQ_ok h2
      exact ⟨⟨o1, o2⟩, by rw [e1, e2, e3, e4]⟩
    · cases h
  · cases h
/-- what is read has fractions as told, of the numbers that were handed in -/
theorem rp_ok : ∀ {l : List Int} {ps : List P}, Kzq1.readPoints l = some ps → l = Kzq1.written ps ∧ ∀ p ∈ ps, OkP p
  | [], ps, h => by
    cases h
    exact ⟨rfl, fun p hp => by cases hp⟩
  | [_], ps, h => by cases h
  | [_, _], ps, h => by cases h
  | [_, _, _], ps, h => by cases h
  | a :: b :: c :: d :: r, ps, h => by
    rw [rp_cons] at h
    cases h1 : rdPt [a, b, c, d] with
    | none => rw [h1] at h; cases h
    | some p =>
      cases h2 : Kzq1.readPoints r with
      | none => rw [h1, h2] at h; cases h
      | some qs =>
        rw [h1, h2] at h
        cases h
        obtain ⟨o, e⟩ := rdPt_ok h1
        obtain ⟨e2, o2⟩ := rp_ok h2
        refine ⟨?_, fun z hz => ?_⟩
        · show _ = (p.x.n :: (p.x.d : Int) :: p.y.n :: (p.y.d : Int) :: Kzq1.written qs)
          rw [← e2]
          injection e with e3 e4
          injection e4 with e5 e6
          injection e6 with e7 e8
          injection e8 with e9 _
          rw [e3, e5, e7, e9]
        · rcases List.mem_cons.mp hz with rfl | hz
          · exact o
          · exact o2 z hz
theorem written_len : ∀ ps : List P, (Kzq1.written ps).length = 4 * ps.length
  | [] => rfl
  | p :: r => by
    show (p.x.n :: (p.x.d : Int) :: p.y.n :: (p.y.d : Int) :: Kzq1.written r).length = _
    simp only [List.length_cons, written_len r]
    omega
theorem rp_len {l : List Int} {ps : List P} (h : Kzq1.readPoints l = some ps) : l.length = 4 * ps.length := by
  obtain ⟨e, _⟩ := rp_ok h
  rw [e, written_len]
theorem rp_sz {l : List Int} {ps : List P} {k : Nat} (h : Kzq1.readPoints l = some ps) (hl : ∀ x ∈ l, x.natAbs < 2 ^ k) : ∀ p ∈ ps, SzP k p := by
  obtain ⟨e, _⟩ := rp_ok h
  intro p hp
  have m : ∀ x ∈ [p.x.n, (p.x.d : Int), p.y.n, (p.y.d : Int)], x.natAbs < 2 ^ k := fun x hx => hl x (by
    rw [e]
    exact List.mem_flatMap.mpr ⟨p, hp, hx⟩)
  have a1 := m p.x.n (by simp)
  have a2 := m (p.x.d : Int) (by simp)
  have a3 := m p.y.n (by simp)
  have a4 := m (p.y.d : Int) (by simp)
  rw [Int.natAbs_natCast] at a2 a4
  exact ⟨⟨a1, a2⟩, ⟨a3, a4⟩⟩
end Sc
namespace Sc
open Kzq1 (Q P)
/-! halved: what is read, what is answered -/
def good (a b c e : P) : Bool := (decide (a.y = b.y) && decide (e.y = c.y)) && ((Kzq1.lt a.y e.y && (!Kzq1.lt b.x a.x && !Kzq1.lt c.x e.x)) && !(decide (a = b) && decide (e = c)))
def rdSl (l : List Int) : Option (P × P × P × P) := match Kzq1.readPoints l with
  | some [a, b, c, e] => if good a b c e = true then some (a, b, c, e) else none
  | _ => none
theorem good_iff (a b c e : P) : good a b c e = true ↔ ¬ (a.y ≠ b.y ∨ c.y ≠ e.y ∨ Kzq1.lt a.y c.y = false ∨ Kzq1.lt b.x a.x = true ∨ Kzq1.lt c.x e.x = true ∨ (a = b ∧ c = e)) := by
  unfold good
  simp only [Bool.and_eq_true, decide_eq_true_eq, Bool.not_eq_true', Bool.and_eq_false_iff, decide_eq_false_iff_not]
  constructor
  · rintro ⟨⟨h1, h2⟩, ⟨h3, h4, h5⟩, h6⟩ h
    rw [h2] at h3
    rcases h with h | h | h | h | h | h
    · exact h h1
    · exact h h2.symm
    · rw [h3] at h; cases h
    · rw [h4] at h; cases h
    · rw [h5] at h; cases h
    · rcases h6 with h6 | h6
      · exact h6 h.1
      · exact h6 h.2.symm
  · intro h
    have h1 : a.y = b.y := Classical.byContradiction fun z => h (.inl z)
    have h2 : c.y = e.y := Classical.byContradiction fun z => h (.inr (.inl z))
    have h3 : Kzq1.lt a.y c.y = true := by
      cases z : Kzq1.lt a.y c.y with
      | true => rfl
      | false => exact absurd (.inr (.inr (.inl z))) h
    have h4 : Kzq1.lt b.x a.x = false := by
      cases z : Kzq1.lt b.x a.x with
      | false => rfl
      | true => exact absurd (.inr (.inr (.inr (.inl z)))) h
    have h5 : Kzq1.lt c.x e.x = false := by
      cases z : Kzq1.lt c.x e.x with
      | false => rfl
      | true => exact absurd (.inr (.inr (.inr (.inr (.inl z))))) h
    refine ⟨⟨h1, h2.symm⟩, ⟨by rw [← h2]; exact h3, h4, h5⟩, ?_⟩
    by_cases z : a = b
    · exact .inr fun z2 => h (.inr (.inr (.inr (.inr (.inr ⟨z, z2.symm⟩)))))
    · exact .inl z
theorem good_trap {a b c e : P} (oa : OkP a) (ob : OkP b) (oc : OkP c) (oe : OkP e) (h : good a b c e = true) : Trap a b c e := by
  rw [good_iff] at h
  have h1 : a.y = b.y := Classical.byContradiction fun z => h (.inl z)
  have h2 : c.y = e.y := Classical.byContradiction fun z => h (.inr (.inl z))
  have h3 : py a < py c := by
    rw [← lt_iff oa.2 oc.2]
    cases z : Kzq1.lt a.y c.y with
    | true => rfl
    | false => exact absurd (.inr (.inr (.inl z))) h
  have h4 : px a ≤ px b := by
    refine Rat.not_lt.mp fun z => h (.inr (.inr (.inr (.inl ?_))))
    exact (lt_iff ob.1 oa.1).mpr z
  have h5 : px e ≤ px c := by
    refine Rat.not_lt.mp fun z => h (.inr (.inr (.inr (.inr (.inl ?_)))))
    exact (lt_iff oc.1 oe.1).mpr z
  have y0 : py a = py b := by show val a.y = val b.y; rw [h1]
  have y1 : py c = py e := by show val c.y = val e.y; rw [h2]
  refine ⟨oa, ob, oc, oe, y0, y1, h3, h4, h5, ?_⟩
  refine Classical.byContradiction fun z => h (.inr (.inr (.inr (.inr (.inr ⟨?_, ?_⟩)))))
  · exact P_ext oa ob (by grind) y0
  · exact P_ext oc oe (by grind) y1
theorem halved_eq (l : List Int) : PyKzq2.halved l = match rdSl l with
    | none => [-22]
    | some (a, b, c, e) => 2 :: Kzq2.writtenCut (halves a b c e) := by
  have e0 : PyKzq2.halved l = (Kzq2.answer (.halved l)).value :: (Kzq2.answer (.halved l)).nums := rfl
  rw [e0]
  unfold rdSl
  have e1 : Kzq2.answer (.halved l) = match Kzq1.readPoints l with
    | some [a, b, c, e] => if a.y ≠ b.y ∨ c.y ≠ e.y ∨ Kzq1.lt a.y c.y = false ∨ Kzq1.lt b.x a.x = true ∨ Kzq1.lt c.x e.x = true ∨ (a = b ∧ c = e) then Kzq1.say (-22) else Kzq2.tellCut (Kzq2.halved a b c e).1
    | _ => Kzq1.say (-22) := rfl
  rw [e1]
  cases h : Kzq1.readPoints l with
  | none => rfl
  | some ps =>
    match ps, h with
    | [], _ => rfl
    | [_], _ => rfl
    | [_, _], _ => rfl
    | [_, _, _], _ => rfl
    | _ :: _ :: _ :: _ :: _ :: _, _ => rfl
    | [a, b, c, e], h =>
      obtain ⟨_, ok⟩ := rp_ok h
      dsimp only
      by_cases g : good a b c e = true
      · rw [if_pos g, if_neg ((good_iff a b c e).mp g), halved_is (good_trap (ok a (by simp)) (ok b (by simp)) (ok c (by simp)) (ok e (by simp)) g)]
        rfl
      · rw [if_neg g, if_pos (Classical.byContradiction fun z => g ((good_iff a b c e).mpr z))]
        rfl
end Sc
/-! A comprehension whose item may raise: the error leaves the block, its names are let go, and it goes on in the def. -/
namespace ScL
open PySem PySem.Spec PyProof.Rows L2
/-- what is due behind a block's end: z is the block's own scene -/
def PostX (M : Model) (A : Around) (E : Value → Shared → Prop) (Qv : Value → Shared → Prop) (acc : Value) (z : Env) : Result → Shared → Prop
  | .ok _, t => ∃ m, t.heap.Ns z.locals m ∧ ∀ g, Heap.SameBut z.locals t.heap g → Qv acc { t with heap := g }
  | .error u, t => ∃ m, t.heap.Ns z.locals m ∧ ∀ g, Heap.SameBut z.locals t.heap g → wpAny M A (passOn "comprehension.variables-let-go" u z : Sem Value) (fun _ _ => False) E { t with heap := g }
theorem comp_any {M : Model} {A : Around} {E : Value → Shared → Prop} {s : Shared} {env : Env} {e : Expr} {scope : Scope} {pos : Pos} {newAcc first : Sem Value} {g : Comprehension} {gs : List Comprehension} {cl : List (Str × Addr)} {Qv : Value → Shared → Prop}
    (h1 : clausesOf e = g :: gs) (h2 : ∀ x, foldedSetIterable g.iter env x = pure x) (h3 : closureFor scope env = pure cl) (h4 : scope.kind = .function)
    (h5 : ∀ x ∈ scope.names, x.2 = .local → scope.names.lookup x.1 = some .local)
    (h : wpAny M A first (fun x t1 => wpAny M A (pyIter x) (fun it t2 => wpAny M A newAcc (fun acc t3 =>
      wpAny M A (newFunctionEnv scope env.globals cl [] env.qual none .none (some env)) (fun ce t4 =>
        codeAny M A (.compStart e 0 it acc { ce with scope := relabel scope env }) (PostX M A E Qv acc { ce with scope := relabel scope env }) t4) E t3) E t2) E t1) E s) :
    wpAny M A (comprehension e scope env pos newAcc false first none) Qv E s := by
  unfold comprehension
  rw [h3, h1]
  refine wpAny_bind (wpAny_mono h (fun x t1 k1 => wpAny_bind (wpAny_standAt (wpAny_bind (wpAny_of_eq (h2 x) (wpAny_bind (wpAny_holding (wpAny_mono k1 (fun it t2 k2 =>
    wpAny_standIf (wpAny_bind (wpAny_mono k2 (fun acc t3 k3 => wpAny_bind (wpAny_pure (wpAny_bind (wpAny_mono k3 (fun ce t4 k4 => ?_) fun _ _ y => y)))) fun _ _ y => y))) fun _ _ y => y))))))) fun _ _ y => y)
  dsimp only
  have hv : ∀ x ∈ (scope.names.filter fun x => (x.2 == .local || x.2 == .cell) && x.1 != (".0" : Str)).reverse, x.2 = .local → Env.kindOf { ce with scope := relabel scope env } x.1 = some .local :=
    fun x hx hl => lookup_relabel_local (h5 x (List.mem_filter.mp (List.mem_reverse.mp hx)).1 hl)
  refine wpAny_holding (wpAny_bind (wpAny_attempt (wpAny_holding (wpAny_run (codeAny_mono k4 fun r t5 hr => ?_)))))
  cases r with
  | ok f =>
    obtain ⟨m, hn, hr⟩ := hr
    exact wpAny_bind (wpAny_holding (wpAny_comp_letGo (cenv := { ce with scope := relabel scope env }) h4 _ t5 m hv hn fun g' m' _ hs' => wpAny_pure (hr g' hs')))
  | error u =>
    obtain ⟨m, hn, hr⟩ := hr
    exact wpAny_bind (wpAny_holding (wpAny_comp_letGo (cenv := { ce with scope := relabel scope env }) h4 _ t5 m hv hn fun g' m' _ hs' => wpAny_mono (hr g' hs') (fun _ _ f => f.elim) fun _ _ y => y))
/-- the block's scene with a wish of exceptions -/
abbrev blkX (X : Cx) (s : Shared) (H : Hp) (scope : Scope) (ce : Env) (fp : List Addr) (xe : Value → Shared → Prop) : Cx := (X.blk s H scope ce fp).tr [] xe
theorem toX {X : Cx} {s : Shared} {H H' : Hp} {scope : Scope} {ce : Env} {fp : List Addr} {xe : Value → Shared → Prop} {pins : List (Addr × Obj)} {σ : L2.St} {t : Shared}
    (I : Inv (X.blk s H scope ce fp) pins σ H' t) : Inv (blkX X s H scope ce fp xe) pins σ H' t :=
  ⟨I.ok.toTry _ _, I.os, I.bare, I.base, I.loc, I.cell, I.free, I.freeC, I.pin, I.hok, I.len⟩
theorem note_env {M : Model} {A : Around} {E : Value → Shared → Prop} {s : Shared} {u : Value} {e1 e2 : Env} {Q : Unit → Shared → Prop} (h : e1.frame = e2.frame) (k : wpAny M A (noteFrame u e2) Q E s) : wpAny M A (noteFrame u e1) Q E s := by
  have q : noteFrame u e1 = noteFrame u e2 := by
    unfold noteFrame PySem.frameOf
    rw [h]
  rw [q]
  exact k
/-- an error that a call within the block lets out is, behind the block, in the def's own air -/
theorem out_of {X : Cx} {pins pins' : List (Addr × Obj)} {σ σ' : L2.St} {H3 H : Hp} {s3 s s' : Shared} {scope : Scope} {ce : Env} {fp : List Addr} {E : XK} {xe : Value → Shared → Prop} {u : Value} {Qv : Value → Shared → Prop} {acc : Value}
    (hs : X.stack = X.env :: X.outer) (hf : X.env.frame = some X.env.locals) (hce : ce.frame = X.env.frame) (hcl : s3.heap.objs.size = ce.locals)
    (I3 : Inv X pins σ H3 s3) (f3 : ∀ b ∈ fp, FpOk X pins H3 b) (tk : Takes X (fun cls d _ H' => E cls d H'))
    (I : Inv (blkX X s3 H3 scope ce fp xe) pins' σ' H s) (c : CX X.prog X.w X.stack H s E u s') :
    notedBy (model X.prog X.w) X.A ce (fun e t => PostX (model X.prog X.w) X.A X.xe Qv acc ce (.error e) t) u s' := by
  obtain ⟨a, B, H', cls, d, rfl, fl, hok, ub, na, os, ag, hE⟩ := c
  have nC : H ce.locals = none := I.free
  have nfr : ce.locals ∉ frs X.stack := fun hb => by
    obtain ⟨_, o, ho, _⟩ := I.ok.funs.mem hb
    have z := Heap.lt_size ho
    have z2 : s3.heap.objs.size ≤ ce.locals := I.ok.above
    exact absurd (Nat.lt_of_lt_of_le z z2) (Nat.lt_irrefl _)
  obtain ⟨mC, ⟨oC, esC, epC, hoC, rC⟩, _⟩ := I.loc
  have hoC : s.heap.get? ce.locals = some oC := hoC
  have BC : B.get? ce.locals = some oC := ub.keep _ _ hoC nC nfr
  have nC' : H' ce.locals = none := ub.free _ _ hoC nC
  have fl' : HandSPX.FlyingZ B (X.env :: X.outer) a (Zc cls d) s'.heap := by rw [← hs]; exact fl
  have hfr : X.A.frames = some (X.env :: X.outer) := by rw [I3.ok.frames, hs]
  refine note_env hce (HandSPX.looks_onZ Zc.steady hfr hf fl' fun g1 held up1 => ?_)
  obtain ⟨st1, nBa, ff1, oe, vs, T, oT, ts, he, hz, hd, h1, hnT, hTe, hT, hdT, hts⟩ := held
  have hC1 : g1.get? ce.locals = some oC := st1 _ _ BC
  refine ⟨mC, ⟨oC, esC, epC, hC1, rC⟩, fun g2 sb => ?_⟩
  have aC : a ≠ ce.locals := fun e => by rw [e, BC] at nBa; cases nBa
  have TC : T ≠ ce.locals := fun e => by rw [e, BC] at hnT; cases hnT
  -- the ground without the block's scene
  obtain ⟨B2, b1, b2⟩ := restrict B fun b => decide (b ≠ ce.locals)
  have bk : ∀ b, b ≠ ce.locals → B2.get? b = B.get? b := fun b hb => b1 b (decide_eq_true hb)
  have bn : B2.get? ce.locals = none := b2 _ (by simp)
  have ofB : ∀ b o, B2.get? b = some o → b ≠ ce.locals ∧ B.get? b = some o := fun b o q => by
    by_cases hb : b = ce.locals
    · rw [hb, bn] at q; cases q
    · rw [bk b hb] at q; exact ⟨hb, q⟩
  have nB2 : ∀ b, B.get? b = none → B2.get? b = none := fun b q => by
    by_cases hb : b = ce.locals
    · rw [hb]; exact bn
    · rw [bk b hb]; exact q
  have st2 : B2.StaysIn g2 := fun b o q => by
    obtain ⟨hb, q⟩ := ofB b o q
    exact (sb.2 b hb).trans (st1 b o q)
  have ff2 : g2.FunFrames B2 (X.env :: X.outer) := by
    have ffB : g1.FunFrames B2 (X.env :: X.outer) := funFrames_none ff1 fun L hL => nB2 L (ff1.mem hL).1
    have aux : ∀ l : List Env, (∀ b ∈ frs l, b ≠ ce.locals) → g1.FunFrames B2 l → g2.FunFrames B2 l := by
      intro l
      induction l with
      | nil => intro _ _; trivial
      | cons e0 r ih =>
        intro hn hl
        obtain ⟨hk, ⟨L, o, hfL, hnL, ho, hdL⟩, hr⟩ := hl
        have hL : L ∈ frs (e0 :: r) := by unfold frs; rw [List.filterMap_cons, hfL]; exact List.mem_cons_self
        refine ⟨hk, ⟨L, o, hfL, hnL, (sb.2 L (hn L hL)).trans ho, hdL⟩, ih (fun b hb => hn b ?_) hr⟩
        unfold frs; rw [List.filterMap_cons, hfL]; exact List.mem_cons_of_mem _ hb
    exact aux _ (fun b hb e => nfr (by rw [hs, ← e]; exact hb)) ffB
  have tr2 : HandSPX.TracedZ g2 B2 a (Zc cls d) (rawInt X.env.locals) :=
    ⟨oe, vs, T, oT, ts, (sb.2 a aC).trans he, hz, hd, h1, nB2 T hnT, hTe, (sb.2 T TC).trans hT, hdT, hts⟩
  -- it is passed on
  unfold PySem.passOn
  refine wpAny_bind (wpAny_field ((sb.2 a aC).trans he) hd h1 ?_)
  rw [if_neg (show ¬ ((Value.ref T == Value.none) = true) from by simp)]
  refine wpAny_bind ?_
  rw [hce, hf]
  refine HandSPX.setFlight_onZ (base := B2) (l := X.env :: X.outer) (Z := Zc cls d) (L := X.env.locals) ⟨st2, nB2 a nBa, ff2, tr2⟩ fun g3 held3 up3 => ?_
  refine wpAny_throw (tk _ _ ?_)
  -- the state without it
  obtain ⟨G, k1, k2⟩ := restrict s'.heap fun b => ((B.get? b).isSome || decide (b ∈ frs X.stack)) && decide (b ≠ ce.locals)
  have st : B.StaysIn s'.heap := fl.1
  have gB : ∀ b o, b ≠ ce.locals → B.get? b = some o → G.get? b = some o := fun b o hb q => by
    rw [k1 b (by simp [q, hb])]
    exact st b o q
  have gF : ∀ b, b ∈ frs X.stack → G.get? b = s'.heap.get? b := fun b hb => k1 b (by
    have hn : b ≠ ce.locals := fun e => nfr (e ▸ hb)
    simp [hb, hn])
  have og : ∀ b o, G.get? b = some o → s'.heap.get? b = some o ∧ b ≠ ce.locals ∧ (b ∈ frs X.stack ∨ B.get? b = some o) := fun b o q => by
    cases z : (((B.get? b).isSome || decide (b ∈ frs X.stack)) && decide (b ≠ ce.locals)) with
    | false => rw [k2 b z] at q; cases q
    | true =>
      rw [k1 b z] at q
      rw [Bool.and_eq_true] at z
      have hn : b ≠ ce.locals := of_decide_eq_true z.2
      refine ⟨q, hn, ?_⟩
      by_cases hb : b ∈ frs X.stack
      · exact .inl hb
      · have z1 := z.1
        rw [decide_eq_false hb, Bool.or_false] at z1
        obtain ⟨o', q'⟩ := Option.isSome_iff_exists.mp z1
        have q2 := st b o' q'
        rw [q] at q2; cases q2
        exact .inr q'
  have old : ∀ b o, s3.heap.get? b = some o → b ≠ ce.locals := fun b o q e => by
    have z := Heap.lt_size q
    rw [e, ← hcl] at z
    exact absurd z (Nat.lt_irrefl _)
  have nt : ∀ b u, H' b = some u → b ≠ ce.locals := fun b u q e => by rw [e, nC'] at q; cases q
  have hokG : HOk X.prog X.w H' G := fun b o q => (hok b o q).stay (fun b2 u2 hc r => gB b2 u2 (by
    rcases hc with hc | hc
    · rw [hc]; exact nt b o q
    · exact nt b2 _ hc) r) (fun _ r => r) fun _ _ r => r
  have Ub := I.base
  have un : Un (frs X.stack) fp H3 H' s3.heap G := by
    refine ⟨fun b o q n hb hx => ?_, fun b o q n hb hx => ?_, fun b o q n hx => ?_, fun b o q hx => ?_, fun b xs q => ub.tups b xs (Ub.tups b xs q), fun b o xs q => ub.frzs b o xs (Ub.frzs b o xs q), fun b ps q => ?_⟩
    · exact gB b o (old b o q) (ub.keep b o (Ub.keep b o q n hb hx) (Ub.free b o q n hx) hb)
    · obtain ⟨sl, q1⟩ := Ub.slot b o q n hb hx
      obtain ⟨sl2, q2⟩ := ub.slot b _ q1 hb
      exact ⟨sl2, by rw [gF b hb]; exact q2⟩
    · obtain ⟨o1, q1⟩ := Ub.there b o q hx
      exact ub.free b o1 q1 (Ub.free b o q n hx)
    · obtain ⟨o1, q1⟩ := Ub.there b o q hx
      by_cases hb : b ∈ frs X.stack
      · obtain ⟨sl2, q2⟩ := ub.slot b _ q1 hb
        exact ⟨_, by rw [gF b hb]; exact q2⟩
      · obtain ⟨o2, q2⟩ := ub.there b o1 q1 hb
        exact ⟨o2, gB b o2 (old b o q) q2⟩
    · obtain ⟨m1, q1⟩ := Ub.tbls b ps q
      obtain ⟨m2, q2⟩ := ub.tbls b _ q1
      exact ⟨m1 ++ m2, by rw [q2, Array.append_assoc]⟩
  have hos : s.os = s3.os := I.os
  have J : Inv X pins σ H' { s3 with heap := G, gens := s'.gens, drawn := s'.drawn, toks := s'.toks } :=
    I3.call (ch := fp) un hokG ag fun b hb => ⟨(f3 b hb).2.2.2.1, (f3 b hb).2.1, (f3 b hb).2.2.2.2.1, (f3 b hb).2.2.2.2.2⟩
  have sbU : ∀ b o, b ≠ ce.locals → s'.heap.get? b = some o → (∀ vs, o.data ≠ .fields vs) → ∃ sl, g3.get? b = some { o with slots := sl } := fun b o hb q hn => by
    obtain ⟨sl, q1⟩ := up1 b o q hn
    obtain ⟨sl2, q2⟩ := up3 b _ ((sb.2 b hb).trans q1) hn
    exact ⟨sl2, q2⟩
  refine ⟨a, B2, _, pins, σ, H', cls, d, rfl, J, fun b o q hb => ?_, fun b o q hn => ?_, .inr (.inr (by rw [hs]; exact held3)), na, ?_, ag, hE⟩
  · obtain ⟨_, hn, z⟩ := og b o q
    rcases z with z | z
    · exact absurd z hb
    · rw [bk b hn]; exact z
  · obtain ⟨q1, hn1, _⟩ := og b o q
    exact sbU b o hn1 q1 hn
  · exact os.trans hos
/-- [elt for tg in iter if ..], its item may let an error out -/
theorem pe_lcX {X : Cx} {elt tg iter : Expr} {ifs : List Expr} {scope : Scope} {own : List (Str × Nat)} {pos : Pos} {wi : TI} {g : TG} {tt : TT} {te : TE} {E : XK} (hc : X.calm = true) (hN : X.N.Nodup)
    (hs : X.stack = X.env :: X.outer) (hf : X.env.frame = some X.env.locals) (tk : Takes X (fun cls d _ H' => E cls d H')) (hi : PI X tg iter wi) (ok : BlkOk X.N X.env.scope scope own)
    (hg : ∀ (s : Shared) (H : Hp) (C : Addr) (cl : List (Str × Addr)) (fp : List Addr) (xe : Value → Shared → Prop), PG (blkX X s H scope (compEnvC scope cl C X.env) fp xe) tg g)
    (ht : ∀ (s : Shared) (H : Hp) (C : Addr) (cl : List (Str × Addr)) (fp : List Addr) (xe : Value → Shared → Prop), PTs (blkX X s H scope (compEnvC scope cl C X.env) fp xe) ifs tt)
    (he : ∀ (s : Shared) (H : Hp) (C : Addr) (cl : List (Str × Addr)) (fp : List Addr) (xe : Value → Shared → Prop), Passes (CX X.prog X.w) (blkX X s H scope (compEnvC scope cl C X.env) fp xe) E → PE (blkX X s H scope (compEnvC scope cl C X.env) fp xe) elt te)
    (hfs : ∀ x, foldedSetIterable iter X.env x = pure x := by intro _; rfl) : PE X (.ListComp elt [⟨tg, iter, ifs, 0⟩] scope pos) (tLc wi g tt te (own.map (·.2))) := by
  refine ⟨fun pins s σ H Q I h => ?_⟩
  rw [eval_ListComp]
  have hfree : ∀ y ∈ scope.names, y.2 = .free → ∃ c, X.env.cells.lookup y.1 = some c := fun y hy e => by
    rcases ok.free y hy e with k | k
    · exact I.ok.has _ (.inl k)
    · exact I.ok.has _ (.inr k)
  refine comp_any rfl hfs (closure_ok hfree) ok.kind (fun y hy e => by rw [ok.uniq y hy, e]) (thn (hi.run pins s σ H _ I h) fun xv s1 hx => thn hx fun itv s2 h2 => ?_)
  obtain ⟨it, fp, tn, J, H2, e, I2, T, st2, f2, q⟩ := h2
  subst e
  refine wpAny_newObj_type (newEnv_comp ?_) (by show 0 ≤ sizeLine; decide)
  generalize hD : s2.heap.objs.size = D
  have hDn : H2 D = none := I2.hok.fresh (Nat.le_of_eq hD)
  obtain ⟨W, ⟨m0, w0⟩, turn⟩ := q D hDn
  generalize hs3 : ({ s2 with heap := s2.heap.push { cls := .type "list", data := .seq ([] : List Value).toArray } } : Shared) = s3
  have h3 : s3.heap = s2.heap.push { cls := .type "list", data := .seq ([] : List Value).toArray } := by rw [← hs3]
  have I3 : Inv X pins σ (upd H2 D (.lst [])) s3 := by
    rw [← hs3]
    refine I2.laid (t' := s2.toks) (fun b o q => Heap.get?_push_of_some _ q) (Nat.le_of_eq hD) ⟨Nat.zero_le _, [], 0, .nil, ?_⟩
    rw [← hD]; exact Heap.get?_push_size _ rfl
  have f3 : ∀ b ∈ fp, FpOk X pins (upd H2 D (.lst [])) b ∧ b < s3.heap.objs.size := fun b hb => by
    obtain ⟨o, e, _⟩ := T.obj _ _ st2 b hb
    have hlt := Heap.lt_size e
    refine ⟨⟨?_, (f2 b hb).2⟩, by rw [h3, Heap.size_push]; exact Nat.lt_succ_of_lt hlt⟩
    rw [upd_ne (by rw [← hD]; exact Nat.ne_of_lt hlt)]; exact (f2 b hb).1
  have st3 : tn 0 s3.heap := T.keep _ _ _ st2 fun b _ o e => by rw [h3]; exact Heap.get?_push_of_some _ e
  have I4 := block_start I3 ok hN f3
  have pg := hg s3 (upd H2 D (.lst [])) s3.heap.objs.size (cellsFrom (s3.heap.objs.size + 1) scope.names (cloFrom X.env.cells scope.names [])) fp
  have pt := ht s3 (upd H2 D (.lst [])) s3.heap.objs.size (cellsFrom (s3.heap.objs.size + 1) scope.names (cloFrom X.env.cells scope.names [])) fp
  have pe := he s3 (upd H2 D (.lst [])) s3.heap.objs.size (cellsFrom (s3.heap.objs.size + 1) scope.names (cloFrom X.env.cells scope.names [])) fp
  show codeAny _ _ (.compStart (.ListComp elt [⟨tg, iter, ifs, 0⟩] scope pos) 0 (.ref it) (.ref D) (compEnvC scope (cellsFrom (s3.heap.objs.size + 1) scope.names (cloFrom X.env.cells scope.names [])) s3.heap.objs.size X.env))
    (PostX (model X.prog X.w) X.A X.xe (EP X pins σ Q) (.ref D) (compEnvC scope (cellsFrom (s3.heap.objs.size + 1) scope.names (cloFrom X.env.cells scope.names [])) s3.heap.objs.size X.env)) { s3 with heap := pushCells (s3.heap.push { cls := .type "dict", data := .dict #[] }) scope.names }
  have nfp : ∀ b ∈ fp, (upd H2 D (.lst [])) b = none := fun b hb => (f3 b hb).1.1
  generalize hce : compEnvC scope (cellsFrom (s3.heap.objs.size + 1) scope.names (cloFrom X.env.cells scope.names [])) s3.heap.objs.size X.env = ce at I4 pg pt pe ⊢
  have cL : ce.locals = s3.heap.objs.size := by subst hce; rfl
  have cF : ce.frame = X.env.frame := by subst hce; rfl
  generalize hH3 : upd H2 D (.lst []) = H3 at I3 I4 pg pt pe w0 nfp f3
  generalize hs4 : ({ s3 with heap := pushCells (s3.heap.push { cls := .type "dict", data := .dict #[] }) scope.names } : Shared) = s4 at I4 ⊢
  have st4 : tn 0 s4.heap := T.keep _ _ _ st3 fun b _ o e => by rw [← hs4]; exact pushCells_keeps _ _ _ _ (Heap.get?_push_of_some _ e)
  -- the wish of the block's errors
  obtain ⟨R, hR⟩ : ∃ R, R = PostX (model X.prog X.w) X.A X.xe (EP X pins σ Q) (.ref D) ce := ⟨_, rfl⟩
  rw [← hR]
  obtain ⟨xe, hxe⟩ : ∃ xe : Value → Shared → Prop, xe = notedBy (model X.prog X.w) X.A ce fun e t => R (.error e) t := ⟨_, rfl⟩
  have I4 : Inv (blkX X s3 H3 scope ce fp xe) [] (wipe σ (own.map (·.2))) H3 s4 := toX I4
  have pg := pg xe
  have pt := pt xe
  have pe := pe xe (fun pins' σ' H' t u t' I' c => by
    show xe u t'
    rw [hxe, hR]
    exact out_of hs hf cF cL.symm I3 (fun b hb => (f3 b hb).1) tk I' c)
  have stat : ∀ {σ' : L2.St} {H' : Hp} {t : Shared}, Inv (blkX X s3 H3 scope ce fp xe) [] σ' H' t → (∀ b ∈ fp, H' b = none) → ∀ b ∈ fp, FpOk (blkX X s3 H3 scope ce fp xe) [] H' b := fun {σ' H' t} I' hn b hb =>
    ⟨hn b hb, (I'.ok.exf b hb).1, I'.ok.exfs b hb, .inl hb, fun x c e => (I'.ok.exf b hb).2 x c e, fun p hp => absurd (show p ∈ ([] : List (Addr × Obj)) ++ [] from hp) (by simp)⟩
  have loop : codeAny (model X.prog X.w) X.A (.compLoop (.ListComp elt [⟨tg, iter, ifs, 0⟩] scope pos) 0 (.ref it) (.ref D) ce) R s4 := by
    refine compLoop_any (fun n t => ∃ i H', Inv (blkX X s3 H3 scope ce fp xe) [] (wipe σ (own.map (·.2))) H' t ∧ tn i t.heap ∧ (∀ b ∈ fp, H' b = none) ∧ W i n H') ?_ m0 ⟨0, H3, I4, st4, nfp, w0⟩
    rintro n s5 ⟨i, H5, I5, st5, n5, w5⟩
    rw [← hxe]
    rcases turn i n H5 w5 with ⟨stop, qq⟩ | ⟨go, Nx, hNx, step⟩
    · have td := T.done (blkX X s3 H3 scope ce fp xe) rfl rfl rfl hc i [] s5 _ H5 xe I5 (stat I5 n5) st5 stop
      refine thn td fun r s6 ⟨hr, I6⟩ => ?_
      subst hr
      have I7 : Inv X pins σ H5 s6 := I3.call' (ch := fp) I6.os I6.base I6.hok I6.bare fun b hb => ⟨(f3 b hb).1.2.2.2.1, (f3 b hb).1.2.1, (f3 b hb).1.2.2.2.2.1, (f3 b hb).1.2.2.2.2.2⟩
      have nC : H5 s3.heap.objs.size = none := by
        have z : H5 ce.locals = none := I6.free
        rw [cL] at z; exact z
      obtain ⟨m, hn, _⟩ := I6.loc
      have hn : s6.heap.Ns ce.locals m := hn
      show R (.ok .next) s6
      rw [hR]
      refine ⟨m, hn, fun g' sb => ?_⟩
      rw [cL] at sb
      obtain ⟨y0, y1, y2, y3, y4, y5⟩ := I3.fpOk (Nat.le_refl _) nC
      exact ⟨.ref D, H5, I7.turned (t' := s6.toks) (fun b o hb e => (sb.2 b hb).trans e) y0 y1 y3 y4 y5, rfl, qq⟩
    · have ti := T.item (blkX X s3 H3 scope ce fp xe) rfl rfl rfl hc i [] s5 _ H5 xe I5 (stat I5 n5) st5 go
      refine thn ti fun r s6 ⟨u, hr, h6⟩ => ?_
      subst hr
      refine thn h6 fun _ s7 ⟨x, H7, I7, r7, y7, st7, n7⟩ => ?_
      have I7' := I7.pinned (stat I7 n7) (T.obj _ _ st7)
      refine thn (pg.run _ s7 _ H7 x u _ I7' r7 (step x H7 y7)) fun _ s8 ⟨σ8, H8, I8, hw8, q8⟩ => ?_
      refine thn (pt.run _ s8 σ8 H8 _ I8 q8) fun b s9 ⟨H9, I9, q9⟩ => ?_
      have fin : ∀ {t : Shared} {H' : Hp}, Inv (blkX X s3 H3 scope ce fp xe) ([] ++ pinsAt fp s7.heap) σ8 H' t → Nx H' →
          ∃ m, m < n ∧ ∃ i H', Inv (blkX X s3 H3 scope ce fp xe) [] (wipe σ (own.map (·.2))) H' t ∧ tn i t.heap ∧ (∀ b ∈ fp, H' b = none) ∧ W i m H' := fun {t H'} I' nx => by
        obtain ⟨m', hm, w'⟩ := hNx H' nx
        have pin' : ∀ b ∈ fp, ∀ o, s7.heap.get? b = some o → t.heap.get? b = some o ∧ H' b = none := fun b hb o e =>
          let z := I'.pin (b, o) (List.mem_append_right _ (List.mem_append_right _ (mem_pinsAt hb e)))
          ⟨z.1, z.2.1⟩
        have hl : (wipe σ (own.map (·.2))).length = σ8.length := by rw [← hw8, wipe_length]
        refine ⟨m', hm, i + 1, H', (I'.unpinned (pins := [])).weak hl (fun j v e => by rw [← hw8] at e; exact (wipe_some e).1), T.keep _ _ _ st7 fun b hb o e => (pin' b hb o e).1, fun b hb => ?_, w'⟩
        obtain ⟨o, e, _⟩ := T.obj _ _ st7 b hb
        exact (pin' b hb o e).2
      cases b with
      | false =>
        simp only [Bool.false_eq_true, if_false] at q9 ⊢
        exact fin I9 q9
      | true =>
        simp only [if_true] at q9 ⊢
        refine thn (pe.run _ s9 σ8 H9 _ I9 q9) fun z s10 ⟨yv, H10, I10, r10, acc, hD10, hz10, nx⟩ => ?_
        exact app_ok (X := blkX X s3 H3 scope ce fp xe) I10 hD10 hz10 r10 fun s11 I11 => fin I11 nx
  exact codeAny_compStart_list loop (T.self X.A 0 _ _ _ st4 loop)
end ScL
namespace ScA
open PySem PySem.Spec PyProof.Rows L2
open Sc
abbrev Fr := Kzq1.Q
abbrev Pt := Kzq1.P
def top (i : Nat) : Stmt := PySem.Challenge.pw_stripcut_s02_halved.main.body.getD i (.Pass ⟨0, 0, 0, 0⟩)
abbrev sCm : Stmt := top 1
abbrev sIsr : Stmt := top 2
abbrev sRat : Stmt := top 3
abbrev sPlus : Stmt := top 4
abbrev sHalf : Stmt := top 5
abbrev sLess : Stmt := top 6
theorem ifT {c : Bool} {A B : Prop} (hc : c = true) (h : A) : if c = true then A else B := by rw [if_pos hc]; exact h
theorem ifF {c : Bool} {A B : Prop} (hc : c = false) (h : B) : if c = true then A else B := by rw [hc, if_neg Bool.false_ne_true]; exact h
/-! how fractions and points lie in the heap -/
def FrAt (H : Hp) (a : Addr) (q : Fr) : Prop := H a = some (.tup [.int q.n, .int (q.d : Int)])
def PtAt (H : Hp) (a : Addr) (p : Pt) : Prop := ∃ x y, H a = some (.tup [.ref x, .ref y]) ∧ FrAt H x p.x ∧ FrAt H y p.y
theorem FrAt.mono {H H' : Hp} {a : Addr} {q : Fr} (h : FrAt H a q) (s : Same H H') : FrAt H' a q := s _ _ h
theorem PtAt.mono {H H' : Hp} {a : Addr} {p : Pt} (h : PtAt H a p) (s : Same H H') : PtAt H' a p :=
  let ⟨x, y, h1, h2, h3⟩ := h
  ⟨x, y, s _ _ h1, h2.mono s, h3.mono s⟩
theorem Same.new {H : Hp} {p : Addr} {o : HO} (h : H p = none) : Same H (upd H p o) := fun b o' e => by rw [upd_ne (ne_of_none e h)]; exact e
section
variable {X : Cx}
/-- // by a divisor that is not 0, below 2 ^ 9000 in size -/
theorem op_fdivZ : OpR X (binaryOp .FloorDiv) (rI (fun _ j => j ≠ 0 ∧ j.natAbs < 2 ^ 9000) fun i j => .int (i.fdiv j)) :=
  opI fun _ j _ _ _ _ _ hc q => floordiv_int hc.1 q (.inl (PyProof.noPylong_of_log2 (PySem.Flt.log2_lt_of (by decide) hc.2)))
end
theorem wmul {i j : Int} {k : Nat} (ha : i.natAbs < 2 ^ k) (hb : j.natAbs < 2 ^ k) (hk : k ≤ 4000) : CMulW i j := by
  have p : 2 ^ k ≤ 2 ^ 4001 := Nat.pow_le_pow_right (by omega) (by omega)
  exact wide_mul (a := 4001) (b := 4001) (Nat.lt_of_lt_of_le ha p) (Nat.lt_of_lt_of_le hb p) (by omega) (by omega) (by omega)
section
variable {Pg : Program} {w : World} {K : PySem.W.Frag} {mg : Str → Option Value} {base : Heap}
/-! common_measure -/
def spCm : Sp := fun vs H Q _ => ∃ a b : Int, vs = [.int a, .int b] ∧ Q (.int (gcdI a b)) H
theorem scCm : FnScope ["a", "b", "larger", "smaller", "rest"] ["a", "b"] (defScope sCm) := ⟨rfl, rfl, rfl, by decide +kernel, rfl, by decide +kernel, by decide +kernel⟩
theorem ok_cm {f : Addr} {fd : FuncData} (F : Fun K "common_measure" "common_measure" sCm f fd) (mAbs : mg "abs" = none) : FnOk Pg w K mg base CX0 1 f fd ["a", "b"] spCm := by
  refine F.ok scCm (fun vs H Q E h => ?_) (fun cdv A outer s H vs Q E hr h => ⟨_, pss_cons (ps_set (i := 2) scCm.nd rfl (Or.inl rfl) (pe_callB call_abs (by rfl) mAbs (by decide +kernel) (pa_cons (pv 0) pa_nil)))
    (pss_cons (ps_set (i := 3) scCm.nd rfl (Or.inl rfl) (pe_callB call_abs (by rfl) mAbs (by decide +kernel) (pa_cons (pv 1) pa_nil)))
    (pss_cons (ps_while PassesOwn.never (pt_cmpR op_ne (pv 3) pe_int (nomark _)) (pss_cons (ps_set (i := 4) scCm.nd rfl (Or.inl rfl) (pe_op op_mod (pv 2) (pv 3))) (pss_cons (ps_set (i := 2) scCm.nd rfl (Or.inl rfl) (pv 3)) (pss_one (ps_set (i := 3) scCm.nd rfl (Or.inl rfl) (pv 4))))))
    (pss_one (ps_ret (pv 2))))), ?_⟩)
  · obtain ⟨a, b, rfl, _⟩ := h
    rfl
  · obtain ⟨a, b, rfl, k⟩ := h
    refine ⟨_, rfl, _, rfl, ?_⟩
    refine ⟨_, rfl, _, rfl, ?_⟩
    refine while_by (fun σ H' => H' = H ∧ ∃ (x y : Int) (r : Option V), σ = [some (.int a), some (.int b), some (.int x), some (.int y), r] ∧ 0 ≤ x ∧ 0 ≤ y ∧ gcdI x y = gcdI a b)
      (fun σ _ => match σ with
        | [_, _, _, some (.int y), _] => y.natAbs
        | _ => 0) ⟨rfl, _, _, none, rfl, by split <;> omega, by split <;> omega, ?_⟩ ?_ ?_
    · unfold gcdI
      congr 2 <;> (split <;> omega)
    · rintro σ H' ⟨rfl, x, y, r, rfl, hx, hy, hg⟩
      refine ⟨_, rfl, rfl, _, rfl, ?_⟩
      by_cases c : y = 0
      · subst c
        refine ifF rfl ?_
        refine ⟨_, rfl, ?_⟩
        have e : gcdI x 0 = x := by unfold gcdI; rw [Int.natAbs_zero, Nat.gcd_zero_right]; omega
        rw [e] at hg
        rw [hg]; exact k
      · have cy : 0 < y := by omega
        refine ifT (by simp [c]) ?_
        refine ⟨_, rfl, _, rfl, _, _, rfl, rfl, cy, _, rfl, _, rfl, ⟨rfl, y, x % y, _, rfl, hy, Int.emod_nonneg _ c, ?_⟩, ?_⟩
        · rw [← hg]
          unfold gcdI
          have e : (x % y).natAbs = x.natAbs % y.natAbs := by
            rw [Int.natAbs_emod_of_nonneg hx]
          rw [e, Nat.gcd_comm x.natAbs, Nat.gcd_rec y.natAbs x.natAbs, Nat.gcd_comm]
        · show (x % y).natAbs < y.natAbs
          have h1 := Int.emod_nonneg x c
          have h2 := Int.emod_lt_of_pos x cy
          omega
    · rintro σ H' Q1 Q2 hQ ⟨v, hv, hs, b, e, q⟩
      exact ⟨v, hv, hs, b, e, hQ _ _ q⟩
/-! is_ratio -/
def isR (t b : Int) : Bool := decide (1 ≤ b) && decide (gcdI t b = 1)
def spIsr : Sp := fun vs H Q _ => ∃ t b : Int, vs = [.int t, .int b] ∧ Q (.bl (isR t b)) H
theorem scIsr : FnScope ["top", "bottom"] ["top", "bottom"] (defScope sIsr) := ⟨rfl, rfl, rfl, by decide +kernel, rfl, by decide +kernel, by decide +kernel⟩
theorem ok_isr {f fC : Addr} {fd fdC : FuncData} (F : Fun K "is_ratio" "is_ratio" sIsr f fd) (GC : FnOk Pg w K mg base CX0 1 fC fdC ["a", "b"] spCm) (mC : mg "common_measure" = some (.ref fC)) (kC : PySem.W.keepIn K (.ref fC) = true) (bC : Binds K fdC ["a", "b"] []) :
    FnOk Pg w K mg base CX0 2 f fd ["top", "bottom"] spIsr := by
  refine F.ok scIsr (fun vs H Q E h => ?_) (fun cdv A outer s H vs Q E hr h => ⟨_, pss_one (ps_ret (pe_and (pe_cmpR op_ge (pv 1) pe_int (nomark _)) (pe_one (pe_cmpR op_eq (pe_call GC hr rfl mC kC bC .nil pass0 (pa_cons (pv 0) (pa_cons (pv 1) pa_nil))) pe_int (nomark _))))), ?_⟩)
  · obtain ⟨a, b, rfl, _⟩ := h
    rfl
  · obtain ⟨t, b, rfl, k⟩ := h
    refine ⟨_, rfl, _, _, rfl, rfl, _, rfl, ?_⟩
    unfold isR at k
    by_cases c : 1 ≤ b
    · rw [decide_eq_true c] at k ⊢
      refine ifT rfl ?_
      refine ⟨_, rfl, _, rfl, _, _, rfl, rfl, ?_⟩
      rw [Bool.true_and] at k
      have e : decide (V.int (gcdI t b) = V.int 1) = decide (gcdI t b = 1) := by
        rw [decide_eq_decide]; exact ⟨fun e => by injection e, fun e => by rw [e]⟩
      show Q (V.bl (decide (V.int (gcdI t b) = V.int 1))) H
      rw [e]; exact k
    · rw [decide_eq_false c] at k ⊢
      exact ifF rfl k
/-! ratio -/
def spRat : Sp := fun vs H Q _ => ∃ t b : Int, vs = [.int t, .int b] ∧ b ≠ 0 ∧ b.natAbs < 2 ^ 9000 ∧ ∀ H' p, Same H H' → H p = none → FrAt H' p (mkI t b) → Q (.ref p) H'
theorem scRat : FnScope ["top", "bottom", "measure"] ["top", "bottom"] (defScope sRat) := ⟨rfl, rfl, rfl, by decide +kernel, rfl, by decide +kernel, by decide +kernel⟩
theorem ok_rat {f fC : Addr} {fd fdC : FuncData} (F : Fun K "ratio" "ratio" sRat f fd) (GC : FnOk Pg w K mg base CX0 1 fC fdC ["a", "b"] spCm) (mC : mg "common_measure" = some (.ref fC)) (kC : PySem.W.keepIn K (.ref fC) = true) (bC : Binds K fdC ["a", "b"] []) :
    FnOk Pg w K mg base CX0 2 f fd ["top", "bottom"] spRat := by
  refine F.ok scRat (fun vs H Q E h => ?_) (fun cdv A outer s H vs Q E hr h => ⟨_, pss_cons (ps_set (i := 2) scRat.nd rfl (Or.inl rfl) (pe_call GC hr rfl mC kC bC .nil pass0 (pa_cons (pv 0) (pa_cons (pv 1) pa_nil))))
    (pss_cons (ps_if (pt_cmpR op_lt (pv 1) pe_int (nomark _)) (pss_one (ps_set (i := 2) scRat.nd rfl (Or.inl rfl) (pe_un un_neg (pv 2)))) pss_nil)
    (pss_one (ps_ret (pe_tup (pa_cons (pe_op op_fdivZ (pv 0) (pv 2)) (pa_cons (pe_op op_fdivZ (pv 1) (pv 2)) pa_nil)))))), ?_⟩)
  · obtain ⟨a, b, rfl, _⟩ := h
    rfl
  · obtain ⟨t, b, rfl, h0, hb, k⟩ := h
    have hg := gcdI_pos (t := t) h0
    have hl := gcdI_le (t := t) h0
    have fin : ∀ m : Int, m = (if b < 0 then -gcdI t b else gcdI t b) → ∀ p, H p = none → Q (.ref p) (upd H p (.tup [.int (t.fdiv m), .int (b.fdiv m)])) := fun m e p np => by
      subst e
      refine k _ p (Same.new np) np ?_
      unfold FrAt
      rw [upd_same, mkI_up h0, mkI_low h0]
    refine ⟨_, rfl, _, rfl, _, _, rfl, ?_⟩
    refine ⟨_, rfl, _, _, rfl, rfl, _, rfl, ?_⟩
    by_cases c : b < 0
    · refine ifT (decide_eq_true c) ?_
      refine ⟨_, rfl, _, rfl, ?_⟩
      refine ⟨_, rfl, _, rfl, _, _, rfl, rfl, ⟨by omega, by omega⟩, _, rfl, _, rfl, _, _, rfl, rfl, ⟨by omega, by omega⟩, (by show 2 ≤ sizeLine; decide), fin _ (by rw [if_pos c])⟩
    · refine ifF (decide_eq_false c) ?_
      refine ⟨_, rfl, _, rfl, _, _, rfl, rfl, ⟨by omega, by omega⟩, _, rfl, _, rfl, _, _, rfl, rfl, ⟨by omega, by omega⟩, (by show 2 ≤ sizeLine; decide), fin _ (by rw [if_neg c])⟩
/-! plus, half, is_less -/
def spPlus : Sp := fun vs H Q _ => ∃ (x y : Addr) (a b : Fr) (k : Nat), vs = [.ref x, .ref y] ∧ FrAt H x a ∧ FrAt H y b ∧ Ok a ∧ Ok b ∧ Sz k a ∧ Sz k b ∧ k ≤ 4000 ∧ ∀ H' p, Same H H' → H p = none → FrAt H' p (Kzq1.add a b) → Q (.ref p) H'
theorem scPlus : FnScope ["a", "b"] ["a", "b"] (defScope sPlus) := ⟨rfl, rfl, rfl, by decide +kernel, rfl, by decide +kernel, by decide +kernel⟩
theorem ok_plus {f fR : Addr} {fd fdR : FuncData} (F : Fun K "plus" "plus" sPlus f fd) (GR : FnOk Pg w K mg base CX0 2 fR fdR ["top", "bottom"] spRat) (mR : mg "ratio" = some (.ref fR)) (kR : PySem.W.keepIn K (.ref fR) = true) (bR : Binds K fdR ["top", "bottom"] []) :
    FnOk Pg w K mg base CX0 3 f fd ["a", "b"] spPlus := by
  refine F.ok scPlus (fun vs H Q E h => ?_) (fun cdv A outer s H vs Q E hr h => ⟨_, pss_one (ps_ret (pe_call GR hr rfl mR kR bR .nil pass0
    (pa_cons (pe_op op_add (pe_op op_mulW (pe_ix ix_tup (pv 0) pe_int (fun _ _ => rfl)) (pe_ix ix_tup (pv 1) pe_int (fun _ _ => rfl))) (pe_op op_mulW (pe_ix ix_tup (pv 1) pe_int (fun _ _ => rfl)) (pe_ix ix_tup (pv 0) pe_int (fun _ _ => rfl))))
      (pa_cons (pe_op op_mulW (pe_ix ix_tup (pv 0) pe_int (fun _ _ => rfl)) (pe_ix ix_tup (pv 1) pe_int (fun _ _ => rfl))) pa_nil)))), ?_⟩)
  · obtain ⟨x, y, a, b, k, rfl, _⟩ := h
    rfl
  · obtain ⟨x, y, a, b, k, rfl, hx, hy, oa, ob, sa, sb, hk, q⟩ := h
    have da : ((a.d : Int)).natAbs < 2 ^ k := by simpa using sa.2
    have db : ((b.d : Int)).natAbs < 2 ^ k := by simpa using sb.2
    have hp : 0 < a.d * b.d := Nat.mul_pos oa.1 ob.1
    have hp2 : ((a.d : Int) * (b.d : Int)) = ((a.d * b.d : Nat) : Int) := by simp
    refine ⟨_, rfl, x, _, 0, _, rfl, rfl, SqT.of hx, rfl, _, rfl, y, _, 1, _, rfl, rfl, SqT.of hy, rfl, _, _, rfl, rfl, wmul sa.1 db hk, ?_⟩
    refine ⟨_, rfl, y, _, 0, _, rfl, rfl, SqT.of hy, rfl, _, rfl, x, _, 1, _, rfl, rfl, SqT.of hx, rfl, _, _, rfl, rfl, wmul sb.1 da hk, ?_⟩
    refine ⟨_, _, rfl, rfl, ?_⟩
    refine ⟨_, rfl, x, _, 1, _, rfl, rfl, SqT.of hx, rfl, _, rfl, y, _, 1, _, rfl, rfl, SqT.of hy, rfl, _, _, rfl, rfl, wmul da db hk, ?_⟩
    refine ⟨_, _, rfl, by rw [hp2]; omega, ?_, fun H' p s' np fr => q H' p s' np ?_⟩
    · exact Nat.lt_of_lt_of_le (mul_lt da db) (Nat.pow_le_pow_right (by omega) (by omega))
    · rw [hp2, mkI_nat hp] at fr
      exact fr
def spHalf : Sp := fun vs H Q _ => ∃ (x : Addr) (a : Fr) (k : Nat), vs = [.ref x] ∧ FrAt H x a ∧ Ok a ∧ Sz k a ∧ k ≤ 4000 ∧ ∀ H' p, Same H H' → H p = none → FrAt H' p (Kzq1.mul Kzq1.half a) → Q (.ref p) H'
theorem scHalf : FnScope ["a"] ["a"] (defScope sHalf) := ⟨rfl, rfl, rfl, by decide +kernel, rfl, by decide +kernel, by decide +kernel⟩
theorem ok_half {f fR : Addr} {fd fdR : FuncData} (F : Fun K "half" "half" sHalf f fd) (GR : FnOk Pg w K mg base CX0 2 fR fdR ["top", "bottom"] spRat) (mR : mg "ratio" = some (.ref fR)) (kR : PySem.W.keepIn K (.ref fR) = true) (bR : Binds K fdR ["top", "bottom"] []) :
    FnOk Pg w K mg base CX0 3 f fd ["a"] spHalf := by
  refine F.ok scHalf (fun vs H Q E h => ?_) (fun cdv A outer s H vs Q E hr h => ⟨_, pss_one (ps_ret (pe_call GR hr rfl mR kR bR .nil pass0
    (pa_cons (pe_ix ix_tup (pv 0) pe_int (fun _ _ => rfl)) (pa_cons (pe_op op_mulW pe_int (pe_ix ix_tup (pv 0) pe_int (fun _ _ => rfl))) pa_nil)))), ?_⟩)
  · obtain ⟨x, a, k, rfl, _⟩ := h
    rfl
  · obtain ⟨x, a, k, rfl, hx, oa, sa, hk, q⟩ := h
    have da : ((a.d : Int)).natAbs < 2 ^ k := by simpa using sa.2
    have h2 : (2 : Int) * (a.d : Int) = ((2 * a.d : Nat) : Int) := by simp
    have hp : 0 < 2 * a.d := by have := oa.1; omega
    have dm : ((a.d : Int)).natAbs < 2 ^ 4000 := Nat.lt_of_lt_of_le da (Nat.pow_le_pow_right (by omega) hk)
    refine ⟨_, rfl, x, _, 0, _, rfl, rfl, SqT.of hx, rfl, _, rfl, x, _, 1, _, rfl, rfl, SqT.of hx, rfl, _, _, rfl, rfl, wmul (k := 4000) ?_ dm (Nat.le_refl _), ?_⟩
    · exact Nat.lt_of_lt_of_le (show (2 : Int).natAbs < 2 ^ 2 by decide) (Nat.pow_le_pow_right (by omega) (by omega))
    refine ⟨_, _, rfl, by rw [h2]; omega, ?_, fun H' p s' np fr => q H' p s' np ?_⟩
    · rw [h2]
      have e : 2 ^ 4001 = 2 ^ 4000 * 2 := Nat.pow_succ 2 4000
      have e2 : 2 ^ 4001 ≤ 2 ^ 9000 := Nat.pow_le_pow_right (by omega) (by omega)
      simp only [Int.natAbs_natCast] at dm ⊢
      omega
    · rw [h2, mkI_nat hp] at fr
      show FrAt H' p (Kzq1.mk (1 * a.n) (2 * a.d))
      rw [Int.one_mul]
      exact fr
def spLess : Sp := fun vs H Q _ => ∃ (x y : Addr) (a b : Fr) (k : Nat), vs = [.ref x, .ref y] ∧ FrAt H x a ∧ FrAt H y b ∧ Sz k a ∧ Sz k b ∧ k ≤ 4000 ∧ Q (.bl (Kzq1.lt a b)) H
theorem scLess : FnScope ["a", "b"] ["a", "b"] (defScope sLess) := ⟨rfl, rfl, rfl, by decide +kernel, rfl, by decide +kernel, by decide +kernel⟩
theorem ok_less {f : Addr} {fd : FuncData} (F : Fun K "is_less" "is_less" sLess f fd) : FnOk Pg w K mg base CX0 1 f fd ["a", "b"] spLess := by
  refine F.ok scLess (fun vs H Q E h => ?_) (fun cdv A outer s H vs Q E hr h => ⟨_, pss_one (ps_ret (pe_cmpR op_lt
    (pe_op op_mulW (pe_ix ix_tup (pv 0) pe_int (fun _ _ => rfl)) (pe_ix ix_tup (pv 1) pe_int (fun _ _ => rfl))) (pe_op op_mulW (pe_ix ix_tup (pv 1) pe_int (fun _ _ => rfl)) (pe_ix ix_tup (pv 0) pe_int (fun _ _ => rfl))) (nomark _))), ?_⟩)
  · obtain ⟨x, y, a, b, k, rfl, _⟩ := h
    rfl
  · obtain ⟨x, y, a, b, k, rfl, hx, hy, sa, sb, hk, q⟩ := h
    have da : ((a.d : Int)).natAbs < 2 ^ k := by simpa using sa.2
    have db : ((b.d : Int)).natAbs < 2 ^ k := by simpa using sb.2
    refine ⟨_, rfl, x, _, 0, _, rfl, rfl, SqT.of hx, rfl, _, rfl, y, _, 1, _, rfl, rfl, SqT.of hy, rfl, _, _, rfl, rfl, wmul sa.1 db hk, ?_⟩
    refine ⟨_, rfl, y, _, 0, _, rfl, rfl, SqT.of hy, rfl, _, rfl, x, _, 1, _, rfl, rfl, SqT.of hx, rfl, _, _, rfl, rfl, wmul sb.1 da hk, ?_⟩
    exact ⟨_, _, rfl, rfl, q⟩
end
end ScA
namespace ScA
open PySem PySem.Spec PyProof.Rows L2
open Sc
abbrev sRp : Stmt := top 11
abbrev sRps : Stmt := top 12
abbrev sPn : Stmt := top 13
abbrev sOr : Stmt := top 14
abbrev sPs : Stmt := top 15
abbrev sMid : Stmt := top 16
abbrev sBef : Stmt := top 17
/-- what the top has written of NotAsTold -/
structure ErrTxt (K : PySem.W.Frag) (mg : Str → Option Value) (C : Addr) : Prop where
  g : mg "NotAsTold" = some (.ref C)
  x : PySem.W.excIn K C [.type "ValueError", .type "Exception", .type "BaseException", .type "object"] "ValueError.__new__" = true
  k : PySem.W.keepIn K (.ref C) = true
  b : PySem.W.subIn K (.ref C) (.type "BaseException") = some true
  t : PySem.W.typeIn K (.ref C) = some (.type "type")
  e : PySem.W.exmOne K (.ref C) (.ref C) = some true
section
variable {Pg : Program} {w : World} {K : PySem.W.Frag} {mg : Str → Option Value} {base : Heap} {CF : Addr}
theorem readQ_isR (a b : Int) : Kzq1.readQ a b = if isR a b = true then some ⟨a, b.toNat⟩ else none := by
  unfold Kzq1.readQ isR
  by_cases c : b < 1
  · rw [if_pos c, decide_eq_false (by omega)]; rfl
  · rw [if_neg c, decide_eq_true (show 1 ≤ b by omega), Bool.true_and]
    have e : Kzq1.okQ ⟨a, b.toNat⟩ = decide (gcdI a b = 1) := by
      rw [Bool.eq_iff_iff, okQ_iff, decide_eq_true_eq]
      unfold Ok gcdI
      have e2 : b.toNat = b.natAbs := by omega
      dsimp only
      rw [e2]
      constructor
      · rintro ⟨_, h⟩; rw [h]; rfl
      · intro h; exact ⟨by omega, by omega⟩
    rw [e]
theorem rdPt_eq (x0 x1 x2 x3 : Int) : rdPt [x0, x1, x2, x3] = if isR x0 x1 = true then (if isR x2 x3 = true then some ⟨⟨x0, x1.toNat⟩, ⟨x2, x3.toNat⟩⟩ else none) else none := by
  show (match Kzq1.readQ x0 x1, Kzq1.readQ x2 x3 with
    | some x, some y => some (⟨x, y⟩ : Pt)
    | _, _ => none) = _
  rw [readQ_isR, readQ_isR]
  by_cases c1 : isR x0 x1 = true <;> by_cases c2 : isR x2 x3 = true
  · rw [if_pos c1, if_pos c2, if_pos c1, if_pos c2]
  · rw [if_pos c1, if_neg c2, if_pos c1, if_neg c2]
  · rw [if_neg c1, if_pos c2, if_neg c1]
  · rw [if_neg c1, if_neg c2, if_neg c1]
theorem isR_ok {t b : Int} (h : isR t b = true) : Ok ⟨t, b.toNat⟩ ∧ ((b.toNat : Nat) : Int) = b := by
  unfold isR at h
  rw [Bool.and_eq_true, decide_eq_true_eq, decide_eq_true_eq] at h
  obtain ⟨h1, h2⟩ := h
  unfold gcdI at h2
  have e2 : b.toNat = b.natAbs := by omega
  refine ⟨⟨by show 0 < b.toNat; omega, ?_⟩, by omega⟩
  show Nat.gcd t.natAbs b.toNat = 1
  rw [e2]; omega
def spRp (K : PySem.W.Frag) (CF : Addr) : Sp := fun vs H Q E => ∃ (a : Addr) (ns : List Int), vs = [.ref a] ∧ SqL K H a (ns.map V.int) ∧ ns.length = 4 ∧ (rdPt ns = none → E (.ref CF) none H) ∧
  ∀ p, rdPt ns = some p → ∀ H' q, Same H H' → H q = none → PtAt H' q p → Q (.ref q) H'
theorem scRp : FnScope ["numbers"] ["numbers"] (defScope sRp) := ⟨rfl, rfl, rfl, by decide +kernel, rfl, by decide +kernel, by decide +kernel⟩
theorem ok_rp {f fI : Addr} {fd fdI : FuncData} (F : Fun K "read_point" "read_point" sRp f fd) (T : ErrTxt K mg CF) (mLen : mg "len" = none) {tPL : Tok} (mPL : mg "POINT_LENGTH" = some (.int 4 tPL))
    (GI : FnOk Pg w K mg base CX0 2 fI fdI ["top", "bottom"] spIsr) (mI : mg "is_ratio" = some (.ref fI)) (kI : PySem.W.keepIn K (.ref fI) = true) (bI : Binds K fdI ["top", "bottom"] []) :
    FnOk Pg w K mg base (L2.CX Pg w) 3 f fd ["numbers"] (spRp K CF) := by
  refine F.okX scRp (fun vs H Q E h => ?_) (fun cdv A outer s H vs Q E hr h => ⟨_, pss_cons (ps_if (pt_cmpR op_ne (pe_callB call_len_seq (by rfl) mLen PySem.boot_len (pa_cons (pv 0) pa_nil)) (pe_glob (v := V.int 4) rfl mPL ⟨_, rfl⟩) (nomark _))
      (pss_one (ps_raise rfl (takes_of rfl rfl rfl rfl) (pmk_own PySem.F.excBase_ValueError T.x T.g T.k (raises_own T.b T.t) (by exact rfl)))) pss_nil)
    (pss_cons (ps_if (PW.pt (pw_or (pt_not (pt_val (pe_call GI hr rfl mI kI bI .nil pass0 (pa_cons (pe_ix ix_list (pv 0) pe_int (fun _ _ => rfl)) (pa_cons (pe_ix ix_list (pv 0) pe_int (fun _ _ => rfl)) pa_nil)))))
        (pw_or1 (pt_not (pt_val (pe_call GI hr rfl mI kI bI .nil pass0 (pa_cons (pe_ix ix_list (pv 0) pe_int (fun _ _ => rfl)) (pa_cons (pe_ix ix_list (pv 0) pe_int (fun _ _ => rfl)) pa_nil))))))))
      (pss_one (ps_raise rfl (takes_of rfl rfl rfl rfl) (pmk_own PySem.F.excBase_ValueError T.x T.g T.k (raises_own T.b T.t) (by exact rfl)))) pss_nil)
    (pss_one (ps_ret (pe_tup (pa_cons (pe_tup (pa_cons (pe_ix ix_list (pv 0) pe_int (fun _ _ => rfl)) (pa_cons (pe_ix ix_list (pv 0) pe_int (fun _ _ => rfl)) pa_nil)))
      (pa_cons (pe_tup (pa_cons (pe_ix ix_list (pv 0) pe_int (fun _ _ => rfl)) (pa_cons (pe_ix ix_list (pv 0) pe_int (fun _ _ => rfl)) pa_nil))) pa_nil)))))), ?_⟩)
  · obtain ⟨a, ns, rfl, _⟩ := h
    rfl
  · obtain ⟨a, ns, rfl, hS, h4, kE, kQ⟩ := h
    match ns, h4 with
    | [x0, x1, x2, x3], _ =>
      refine ⟨_, rfl, a, _, rfl, .inl hS, rfl, _, rfl, ?_⟩
      refine ifF (by simp) ?_
      have e := rdPt_eq x0 x1 x2 x3
      refine ⟨_, rfl, a, _, 0, _, rfl, rfl, hS, rfl, _, rfl, a, _, 1, _, rfl, rfl, hS, rfl, x0, x1, rfl, _, rfl, ?_⟩
      by_cases c1 : isR x0 x1 = true
      · rw [c1]
        refine ifF rfl ?_
        refine ⟨_, rfl, a, _, 2, _, rfl, rfl, hS, rfl, _, rfl, a, _, 3, _, rfl, rfl, hS, rfl, x2, x3, rfl, _, rfl, ?_⟩
        by_cases c2 : isR x2 x3 = true
        · rw [c2]
          refine ifF rfl ?_
          rw [if_pos c1, if_pos c2] at e
          refine ⟨_, rfl, a, _, 0, _, rfl, rfl, hS, rfl, _, rfl, a, _, 1, _, rfl, rfl, hS, rfl, (by show 2 ≤ sizeLine; decide), fun p1 n1 => ?_⟩
          have s1 : Same H (upd H p1 (.tup [.int x0, .int x1])) := Same.new n1
          have hS1 := s1.seq hS
          refine ⟨_, rfl, a, _, 2, _, rfl, rfl, hS1, rfl, _, rfl, a, _, 3, _, rfl, rfl, hS1, rfl, (by show 2 ≤ sizeLine; decide), fun p2 n2 => ?_⟩
          have s2 := Same.new (o := .tup [.int x2, .int x3]) n2
          refine ⟨(by show 2 ≤ sizeLine; decide), fun p3 n3 => ?_⟩
          have s3 := Same.new (o := .tup [.ref p1, .ref p2]) n3
          refine kQ _ e _ p3 ((s1.trans s2).trans s3) ((s1.trans s2).free n3) ⟨p1, p2, upd_same, ?_, ?_⟩
          · refine FrAt.mono (FrAt.mono (q := ⟨x0, x1.toNat⟩) ?_ s2) s3
            unfold FrAt
            rw [upd_same, (isR_ok c1).2]
          · refine FrAt.mono (q := ⟨x2, x3.toNat⟩) ?_ s3
            unfold FrAt
            rw [upd_same, (isR_ok c2).2]
        · rw [Bool.not_eq_true] at c2
          rw [c2]
          refine ifT rfl ?_
          rw [if_pos c1, if_neg (by rw [c2]; decide)] at e
          exact kE e
      · rw [Bool.not_eq_true] at c1
        rw [c1]
        refine ifT rfl ?_
        rw [if_neg (by rw [c1]; decide)] at e
        exact ifT rfl (kE e)
/-! read_points -/
/-- tuples stay -/
def Tu (H H' : Hp) : Prop := ∀ b xs, H b = some (.tup xs) → H' b = some (.tup xs)
theorem Tu.of {H H' : Hp} (s : Same H H') : Tu H H' := fun b xs e => s b _ e
theorem Tu.trans {H H1 H2 : Hp} (a : Tu H H1) (b : Tu H1 H2) : Tu H H2 := fun c xs e => b c xs (a c xs e)
theorem Tu.lst {H : Hp} {D : Addr} {l : List V} {o : HO} (h : H D = some (.lst l)) : Tu H (upd H D o) := fun b xs e => by
  rw [upd_ne (ne_of e h (by intro z; cases z))]; exact e
theorem PtAt.tu {H H' : Hp} {a : Addr} {p : Pt} (h : PtAt H a p) (s : Tu H H') : PtAt H' a p :=
  let ⟨x, y, h1, h2, h3⟩ := h
  ⟨x, y, s _ _ h1, s _ _ h2, s _ _ h3⟩
def PtsAt (H : Hp) : List Addr → List Pt → Prop
  | [], [] => True
  | a :: as, p :: ps => PtAt H a p ∧ PtsAt H as ps
  | _, _ => False
theorem PtsAt.tu {H H' : Hp} (s : Tu H H') : ∀ {as : List Addr} {ps : List Pt}, PtsAt H as ps → PtsAt H' as ps
  | [], [], h => h
  | _ :: _, _ :: _, h => ⟨h.1.tu s, PtsAt.tu s h.2⟩
  | [], _ :: _, h => h.elim
  | _ :: _, [], h => h.elim
theorem PtsAt.len {H : Hp} : ∀ {as : List Addr} {ps : List Pt}, PtsAt H as ps → as.length = ps.length
  | [], [], _ => rfl
  | _ :: _, _ :: _, h => congrArg (· + 1) (PtsAt.len h.2)
  | [], _ :: _, h => h.elim
  | _ :: _, [], h => h.elim
theorem PtsAt.snoc {H : Hp} {a : Addr} {p : Pt} (hp : PtAt H a p) : ∀ {as : List Addr} {ps : List Pt}, PtsAt H as ps → PtsAt H (as ++ [a]) (ps ++ [p])
  | [], [], _ => ⟨hp, trivial⟩
  | _ :: _, _ :: _, h => ⟨h.1, PtsAt.snoc hp h.2⟩
  | [], _ :: _, h => h.elim
  | _ :: _, [], h => h.elim
theorem PtsAt.get {H : Hp} : ∀ {as : List Addr} {ps : List Pt} {i : Nat} {p : Pt}, PtsAt H as ps → ps[i]? = some p → ∃ a, as[i]? = some a ∧ PtAt H a p
  | a :: _, p :: _, 0, q, h, e => by
    have e : p = q := Option.some.inj e
    subst e
    exact ⟨a, rfl, h.1⟩
  | _ :: _, _ :: _, i + 1, q, h, e => PtsAt.get (i := i) (p := q) h.2 e
  | [], [], _, _, _, e => by simp at e
  | [], _ :: _, _, _, h, _ => h.elim
  | _ :: _, [], _, _, h, _ => h.elim
theorem cut4 (ns : List Int) (i : Nat) (z z' : Int) (hz : z = ((4 * i : Nat) : Int)) (hz' : z' = ((4 * i + 4 : Nat) : Int)) (h : 4 * i + 4 ≤ ns.length) : cutV (ns.map V.int) (some z) (some z') = ((ns.drop (4 * i)).take 4).map V.int := by
  subst hz hz'
  unfold cutV
  rw [HT.sIx_nat, HT.sIx_nat, List.length_map, Nat.min_eq_left (by omega), Nat.min_eq_left (by omega), show 4 * i + 4 - 4 * i = 4 by omega, List.map_take, List.map_drop]
theorem rgc4 {n : Nat} (h : n ≤ 1000) : RgC 0 ((4 * n : Nat) : Int) 4 n := by
  refine ⟨by decide, by decide, ?_, ?_⟩
  · unfold Builtin.Range.small
    have e : Builtin.Range.rangeSize 0 ((4 * n : Nat) : Int) 4 = (n : Int) := by
      unfold Builtin.Range.rangeSize
      rw [if_pos (by decide)]
      by_cases c : n = 0
      · subst c; rfl
      · rw [if_pos (by omega)]; omega
    rw [e, if_pos (show (4 : Int) > 0 by decide)]
    have fit : ∀ z : Int, 0 ≤ z → z < 5000 → Builtin.Range.rangeFitsLong z = true := fun z h1 h2 => by
      unfold Builtin.Range.rangeFitsLong
      rw [Bool.and_eq_true]
      exact ⟨decide_eq_true (by omega), decide_eq_true (by omega)⟩
    rw [fit 0 (by omega) (by omega), fit ((4 * n : Nat) : Int) (by omega) (by omega), fit 4 (by omega) (by omega), fit (n : Int) (by omega) (by omega), fit (((4 * n : Nat) : Int) + (4 - 1)) (by omega) (by omega), Bool.or_true]
    rfl
  · unfold Builtin.Range.rangeSize
    rw [if_pos (by decide)]
    by_cases c : n = 0
    · subst c; rfl
    · rw [if_pos (by omega)]; omega
def spRps (K : PySem.W.Frag) (CF : Addr) : Sp := fun vs H Q E => ∃ (a : Addr) (ns : List Int) (n : Nat), vs = [.ref a] ∧ SqL K H a (ns.map V.int) ∧ ns.length = 4 * n ∧ n ≤ 1000 ∧ (Kzq1.readPoints ns = none → ∀ H', Same H H' → E (.ref CF) none H') ∧
  ∀ ps, Kzq1.readPoints ns = some ps → ∀ H' q as, Same H H' → H q = none → H' q = some (.lst (as.map V.ref)) → PtsAt H' as ps → Q (.ref q) H'
theorem scRps : FnScope ["numbers", "k"] ["numbers"] (defScope sRps) := ⟨rfl, rfl, rfl, by decide +kernel, rfl, by decide +kernel, by decide +kernel⟩
theorem ok_rps {f fI : Addr} {fd fdI : FuncData} (F : Fun K "read_points" "read_points" sRps f fd) (T : ErrTxt K mg CF) (mLen : mg "len" = none) (mRange : mg "range" = none) {tPL : Tok} (mPL : mg "POINT_LENGTH" = some (.int 4 tPL))
    (GI : FnOk Pg w K mg base (L2.CX Pg w) 3 fI fdI ["numbers"] (spRp K CF)) (mI : mg "read_point" = some (.ref fI)) (kI : PySem.W.keepIn K (.ref fI) = true) (bI : Binds K fdI ["numbers"] []) :
    FnOk Pg w K mg base (L2.CX Pg w) 4 f fd ["numbers"] (spRps K CF) := by
  refine F.okX scRps (fun vs H Q E h => ?_) (fun cdv A outer s H vs Q E hr h => ⟨_, pss_one (ps_ret (ScL.pe_lcX (own := [("k", 1)]) (g := gName 1) (E := E) rfl scRps.nd rfl rfl (takes_of rfl rfl rfl rfl)
      (pi_range3 rfl mRange (pa_cons pe_int (pa_cons (pe_callB call_len_seq (by rfl) mLen PySem.boot_len (pa_cons (pv 0) pa_nil)) (pa_cons (pe_glob (v := V.int 4) rfl mPL ⟨_, rfl⟩) pa_nil))))
      (blkOk_by (own := [("k", 1)]) (N := ["numbers", "k"]) (sc := defScope sRps) (by decide +kernel))
      (fun _ _ _ _ _ _ => pg_name (i := 1) scRps.nd rfl (Or.inl rfl)) (fun _ _ _ _ _ _ => pts_nil)
      (fun _ _ _ _ _ _ hx => pe_call GI hr rfl mI kI bI .nil hx (pa_cons (pe_slice (r := rSlL K) sl_list (pv 0) (po_some (pv 1)) (po_some (pe_op op_add (pv 1) (pe_glob (v := V.int 4) rfl mPL ⟨_, rfl⟩)))) pa_nil)))), ?_⟩)
  · obtain ⟨a, ns, n, rfl, _⟩ := h
    rfl
  · obtain ⟨a, ns, n, rfl, hS, h4, hn, kE, kQ⟩ := h
    refine ⟨_, rfl, a, _, rfl, .inl hS, 0, _, 4, n, rfl, ?_, ?_⟩
    · rw [List.length_map, h4]
      exact rgc4 hn
    · intro D nD
      refine lc_it walk_rangeC (fun i H' => Same H H' ∧ ∃ as ps, Kzq1.readPoints (ns.take (4 * i)) = some ps ∧ H' D = some (.lst (as.map V.ref)) ∧ PtsAt H' as ps) ?_ (fun _ _ _ _ => trivial) ?_ ?_
      · exact ⟨Same.new nD, [], [], rfl, upd_same, trivial⟩
      · rintro i x H1 H2 hi ⟨s1, as, ps, hr1, hD1, hP1⟩ ⟨rfl, rfl⟩
        have hSn := s1.seq hS
        refine ⟨rfl, ?_⟩
        unfold tYes
        refine ifT rfl ?_
        refine ⟨_, rfl, _, rfl, _, rfl, _, rfl, _, _, rfl, rfl, _, rfl, _, _, rfl, hSn, fun q nq => ?_⟩
        have ec := cut4 ns i (0 + (i : Int) * 4) (0 + (i : Int) * 4 + 4) (by omega) (by omega) (by omega)
        have s2 := Same.new (o := .lst (cutV (ns.map V.int) (some (0 + (i : Int) * 4)) (some (0 + (i : Int) * 4 + 4)))) nq
        refine ⟨q, (ns.drop (4 * i)).take 4, rfl, ?_, by rw [List.length_take, List.length_drop]; omega, fun hbad => ?_, fun p hp H3 a3 s3 n3 h3 => ?_⟩
        · rw [← ec]; exact SqL.of upd_same
        · exact kE (rp_bad h4 hi hbad) _ (s1.trans s2)
        · have hD3 := s3 _ _ (s2 _ _ hD1)
          have t3 : Tu H3 (upd H3 D (.lst (as.map V.ref ++ [V.ref a3]))) := Tu.lst hD3
          have l1 := hP1.len
          have l2 := rp_len hr1
          rw [List.length_take] at l2
          refine ⟨_, hD3, ?_, ?_, as ++ [a3], ps ++ [p], ?_, ?_, ?_⟩
          · rw [List.length_map]
            show as.length < sizeLine
            have e : sizeLine = 16777216 := by decide
            rw [e]; omega
          · intro b o e
            have hb : b ≠ D := ne_of_none e nD
            rw [upd_ne hb]
            exact s3 _ _ (s2 _ _ (s1 _ _ e))
          · rw [rp_more h4 hi, hr1, hp]
          · rw [upd_same, List.map_append]; rfl
          · exact PtsAt.snoc (h3.tu t3) (PtsAt.tu (((Tu.of s2).trans (Tu.of s3)).trans t3) hP1)
      · rintro H1 ⟨s1, as, ps, hr1, hD1, hP1⟩
        rw [← h4, List.take_length] at hr1
        exact kQ ps hr1 H1 D as s1 nD hD1 hP1
end
end ScA
namespace ScA
open PySem PySem.Spec PyProof.Rows L2
open Sc
/-! data of fractions and points, compared -/
def frD (q : Fr) : PyData := .tuple [.int q.n, .int (q.d : Int)]
def ptD (p : Pt) : PyData := .tuple [frD p.x, frD p.y]
theorem eqv_fr (a b : Fr) : PyData.eqv (frD a) (frD b) = decide (a = b) := by
  obtain ⟨n, d⟩ := a
  obtain ⟨m, e⟩ := b
  show ((n == m) && (((d : Int) == (e : Int)) && true)) = _
  rw [Bool.eq_iff_iff, Bool.and_true, Bool.and_eq_true, beq_iff_eq, beq_iff_eq, decide_eq_true_eq]
  constructor
  · rintro ⟨h1, h2⟩
    have h2 : d = e := by omega
    rw [h1, h2]
  · intro h
    injection h with h1 h2
    exact ⟨h1, by rw [h2]⟩
theorem eqv_pt (a b : Pt) : PyData.eqv (ptD a) (ptD b) = decide (a = b) := by
  obtain ⟨x, y⟩ := a
  obtain ⟨z, t⟩ := b
  show (PyData.eqv (frD x) (frD z) && (PyData.eqv (frD y) (frD t) && true)) = _
  rw [eqv_fr, eqv_fr, Bool.eq_iff_iff, Bool.and_true, Bool.and_eq_true, decide_eq_true_eq, decide_eq_true_eq, decide_eq_true_eq]
  constructor
  · rintro ⟨h1, h2⟩
    rw [h1, h2]
  · intro h
    injection h with h1 h2
    exact ⟨h1, h2⟩
theorem frSh (a : Fr) : SeqAt.shaped (frD a) = true := rfl
theorem ptSh (a : Pt) : SeqAt.shaped (ptD a) = true := rfl
section
variable {Pg : Program} {w : World} {K : PySem.W.Frag} {mg : Str → Option Value} {base : Heap} {CF : Addr}
theorem FrAt.dp {H : Hp} {a : Addr} {q : Fr} (h : FrAt H a q) : Dp K H (.ref a) (frD q) := .tup (SqT.of h) (.cons (.int _) (.cons (.int _) .nil))
theorem PtAt.dp {H : Hp} {a : Addr} {p : Pt} (h : PtAt H a p) : Dp K H (.ref a) (ptD p) :=
  let ⟨_, _, h1, h2, h3⟩ := h
  .tup (SqT.of h1) (.cons h2.dp (.cons h3.dp .nil))
/-! point_numbers -/
def ptN (p : Pt) : List Int := [p.x.n, (p.x.d : Int), p.y.n, (p.y.d : Int)]
def spPn : Sp := fun vs H Q _ => ∃ (x : Addr) (p : Pt), vs = [.ref x] ∧ PtAt H x p ∧ ∀ q, H q = none → Q (.ref q) (upd H q (.lst ((ptN p).map V.int)))
theorem scPn : FnScope ["point"] ["point"] (defScope sPn) := ⟨rfl, rfl, rfl, by decide +kernel, rfl, by decide +kernel, by decide +kernel⟩
theorem ok_pn {f : Addr} {fd : FuncData} (F : Fun K "point_numbers" "point_numbers" sPn f fd) : FnOk Pg w K mg base CX0 1 f fd ["point"] spPn := by
  refine F.ok scPn (fun vs H Q E h => ?_) (fun cdv A outer s H vs Q E hr h => ⟨_, pss_one (ps_ret (pe_lst
    (pa_cons (pe_ix ix_tup (pe_ix ix_tup (pv 0) pe_int (fun _ _ => rfl)) pe_int (fun _ _ => rfl)) (pa_cons (pe_ix ix_tup (pe_ix ix_tup (pv 0) pe_int (fun _ _ => rfl)) pe_int (fun _ _ => rfl))
    (pa_cons (pe_ix ix_tup (pe_ix ix_tup (pv 0) pe_int (fun _ _ => rfl)) pe_int (fun _ _ => rfl)) (pa_cons (pe_ix ix_tup (pe_ix ix_tup (pv 0) pe_int (fun _ _ => rfl)) pe_int (fun _ _ => rfl)) pa_nil)))))), ?_⟩)
  · obtain ⟨x, p, rfl, _⟩ := h
    rfl
  · obtain ⟨x, p, rfl, ⟨u, v, hx, hu, hv⟩, k⟩ := h
    refine ⟨_, rfl, x, _, 0, _, rfl, rfl, SqT.of hx, rfl, u, _, 0, _, rfl, rfl, SqT.of hu, rfl, ?_⟩
    refine ⟨_, rfl, x, _, 0, _, rfl, rfl, SqT.of hx, rfl, u, _, 1, _, rfl, rfl, SqT.of hu, rfl, ?_⟩
    refine ⟨_, rfl, x, _, 1, _, rfl, rfl, SqT.of hx, rfl, v, _, 0, _, rfl, rfl, SqT.of hv, rfl, ?_⟩
    refine ⟨_, rfl, x, _, 1, _, rfl, rfl, SqT.of hx, rfl, v, _, 1, _, rfl, rfl, SqT.of hv, rfl, ?_⟩
    exact ⟨(by show 4 ≤ sizeLine; decide), k⟩
/-! origin -/
def spOr : Sp := fun vs H Q _ => vs = [] ∧ ∀ H' q, Same H H' → H q = none → PtAt H' q Kzq1.origin → Q (.ref q) H'
theorem scOr : FnScope [] [] (defScope sOr) := ⟨rfl, rfl, rfl, by decide +kernel, rfl, by decide +kernel, by decide +kernel⟩
theorem ok_or {f : Addr} {fd : FuncData} (F : Fun K "origin" "origin" sOr f fd) : FnOk Pg w K mg base CX0 1 f fd [] spOr := by
  refine F.ok scOr (fun vs H Q E h => ?_) (fun cdv A outer s H vs Q E hr h => ⟨_, pss_one (ps_ret (pe_tup (pa_cons (pe_tup (pa_cons pe_int (pa_cons pe_int pa_nil))) (pa_cons (pe_tup (pa_cons pe_int (pa_cons pe_int pa_nil))) pa_nil)))), ?_⟩)
  · obtain ⟨rfl, _⟩ := h
    rfl
  · obtain ⟨rfl, k⟩ := h
    refine ⟨(by show 2 ≤ sizeLine; decide), fun p1 n1 => ⟨(by show 2 ≤ sizeLine; decide), fun p2 n2 => ⟨(by show 2 ≤ sizeLine; decide), fun p3 n3 => ?_⟩⟩⟩
    have s1 := Same.new (o := .tup [.int 0, .int 1]) n1
    have s2 := Same.new (o := .tup [.int 0, .int 1]) n2
    have s3 := Same.new (o := .tup [.ref p1, .ref p2]) n3
    exact k _ p3 ((s1.trans s2).trans s3) ((s1.trans s2).free n3) ⟨p1, p2, upd_same, s3 _ _ (s2 _ _ upd_same), s3 _ _ upd_same⟩
/-! point_sum, middle -/
def spPs : Sp := fun vs H Q _ => ∃ (x y : Addr) (a b : Pt) (k : Nat), vs = [.ref x, .ref y] ∧ PtAt H x a ∧ PtAt H y b ∧ OkP a ∧ OkP b ∧ SzP k a ∧ SzP k b ∧ k ≤ 4000 ∧ ∀ H' p, Same H H' → H p = none → PtAt H' p (Kzq1.plus a b) → Q (.ref p) H'
theorem scPs : FnScope ["a", "b"] ["a", "b"] (defScope sPs) := ⟨rfl, rfl, rfl, by decide +kernel, rfl, by decide +kernel, by decide +kernel⟩
theorem ok_ps {f fR : Addr} {fd fdR : FuncData} (F : Fun K "point_sum" "point_sum" sPs f fd) (GR : FnOk Pg w K mg base CX0 3 fR fdR ["a", "b"] spPlus) (mR : mg "plus" = some (.ref fR)) (kR : PySem.W.keepIn K (.ref fR) = true) (bR : Binds K fdR ["a", "b"] []) :
    FnOk Pg w K mg base CX0 4 f fd ["a", "b"] spPs := by
  refine F.ok scPs (fun vs H Q E h => ?_) (fun cdv A outer s H vs Q E hr h => ⟨_, pss_one (ps_ret (pe_tup
    (pa_cons (pe_call GR hr rfl mR kR bR .nil pass0 (pa_cons (pe_ix ix_tup (pv 0) pe_int (fun _ _ => rfl)) (pa_cons (pe_ix ix_tup (pv 1) pe_int (fun _ _ => rfl)) pa_nil)))
    (pa_cons (pe_call GR hr rfl mR kR bR .nil pass0 (pa_cons (pe_ix ix_tup (pv 0) pe_int (fun _ _ => rfl)) (pa_cons (pe_ix ix_tup (pv 1) pe_int (fun _ _ => rfl)) pa_nil))) pa_nil)))), ?_⟩)
  · obtain ⟨x, y, a, b, k, rfl, _⟩ := h
    rfl
  · obtain ⟨x, y, a, b, k, rfl, ⟨x1, x2, hx, hx1, hx2⟩, ⟨y1, y2, hy, hy1, hy2⟩, oa, ob, sa, sb, hk, q⟩ := h
    refine ⟨_, rfl, x, _, 0, _, rfl, rfl, SqT.of hx, rfl, _, rfl, y, _, 0, _, rfl, rfl, SqT.of hy, rfl, ?_⟩
    refine ⟨x1, y1, a.x, b.x, k, rfl, hx1, hy1, oa.1, ob.1, sa.1, sb.1, hk, fun H1 p1 s1 n1 f1 => ?_⟩
    refine ⟨_, rfl, x, _, 1, _, rfl, rfl, SqT.of (s1 _ _ hx), rfl, _, rfl, y, _, 1, _, rfl, rfl, SqT.of (s1 _ _ hy), rfl, ?_⟩
    refine ⟨x2, y2, a.y, b.y, k, rfl, hx2.mono s1, hy2.mono s1, oa.2, ob.2, sa.2, sb.2, hk, fun H2 p2 s2 n2 f2 => ?_⟩
    refine ⟨(by show 2 ≤ sizeLine; decide), fun p3 n3 => ?_⟩
    have s3 := Same.new (o := .tup [.ref p1, .ref p2]) n3
    exact q _ p3 ((s1.trans s2).trans s3) ((s1.trans s2).free n3) ⟨p1, p2, upd_same, (f1.mono s2).mono s3, f2.mono s3⟩
def spMid : Sp := fun vs H Q _ => ∃ (x y : Addr) (a b : Pt) (k : Nat), vs = [.ref x, .ref y] ∧ PtAt H x a ∧ PtAt H y b ∧ OkP a ∧ OkP b ∧ SzP k a ∧ SzP k b ∧ k ≤ 1000 ∧ ∀ H' p, Same H H' → H p = none → PtAt H' p (mid a b) → Q (.ref p) H'
theorem scMid : FnScope ["a", "b", "both"] ["a", "b"] (defScope sMid) := ⟨rfl, rfl, rfl, by decide +kernel, rfl, by decide +kernel, by decide +kernel⟩
theorem ok_mid {f fS fR : Addr} {fd fdS fdR : FuncData} (F : Fun K "middle" "middle" sMid f fd) (GS : FnOk Pg w K mg base CX0 4 fS fdS ["a", "b"] spPs) (mS : mg "point_sum" = some (.ref fS)) (kS : PySem.W.keepIn K (.ref fS) = true) (bS : Binds K fdS ["a", "b"] [])
    (GR : FnOk Pg w K mg base CX0 3 fR fdR ["a"] spHalf) (mR : mg "half" = some (.ref fR)) (kR : PySem.W.keepIn K (.ref fR) = true) (bR : Binds K fdR ["a"] []) :
    FnOk Pg w K mg base CX0 5 f fd ["a", "b"] spMid := by
  refine F.ok scMid (fun vs H Q E h => ?_) (fun cdv A outer s H vs Q E hr h => ⟨_, pss_cons (ps_set (i := 2) scMid.nd rfl (Or.inl rfl) (pe_call GS hr rfl mS kS bS .nil pass0 (pa_cons (pv 0) (pa_cons (pv 1) pa_nil))))
    (pss_one (ps_ret (pe_tup
    (pa_cons (pe_call GR (hr.mono (by decide)) rfl mR kR bR .nil pass0 (pa_cons (pe_ix ix_tup (pv 2) pe_int (fun _ _ => rfl)) pa_nil))
    (pa_cons (pe_call GR (hr.mono (by decide)) rfl mR kR bR .nil pass0 (pa_cons (pe_ix ix_tup (pv 2) pe_int (fun _ _ => rfl)) pa_nil)) pa_nil))))), ?_⟩)
  · obtain ⟨x, y, a, b, k, rfl, _⟩ := h
    rfl
  · obtain ⟨x, y, a, b, k, rfl, hx, hy, oa, ob, sa, sb, hk, q⟩ := h
    have o := plus_ok oa ob
    have z := plus_sz oa ob sa sb
    refine ⟨_, rfl, _, rfl, x, y, a, b, k, rfl, hx, hy, oa, ob, sa, sb, by omega, fun H0 p0 s0 n0 f0 => ?_⟩
    obtain ⟨x1, x2, h0, h1, h2⟩ := f0
    refine ⟨_, rfl, p0, _, 0, _, rfl, rfl, SqT.of h0, rfl, x1, _, _, rfl, h1, o.1, z.1, by omega, fun H1 p1 s1 n1 f1 => ?_⟩
    refine ⟨_, rfl, p0, _, 1, _, rfl, rfl, SqT.of (s1 _ _ h0), rfl, x2, _, _, rfl, h2.mono s1, o.2, z.2, by omega, fun H2 p2 s2 n2 f2 => ?_⟩
    refine ⟨(by show 2 ≤ sizeLine; decide), fun p3 n3 => ?_⟩
    have s3 := Same.new (o := .tup [.ref p1, .ref p2]) n3
    exact q _ p3 (((s0.trans s1).trans s2).trans s3) (((s0.trans s1).trans s2).free n3) ⟨p1, p2, upd_same, (f1.mono s2).mono s3, f2.mono s3⟩
/-! is_before -/
theorem before_eq (a b : Pt) : Kzq1.before a b = if a.x = b.x then Kzq1.lt a.y b.y else Kzq1.lt a.x b.x := by
  unfold Kzq1.before
  by_cases c : a.x = b.x
  · have e : Kzq1.lt a.x b.x = false := by rw [c]; exact decide_eq_false (by omega)
    rw [if_pos c, e, c]
    simp
  · rw [if_neg c]
    have e : (a.x == b.x) = false := by simpa using c
    rw [e]; simp
def spBef : Sp := fun vs H Q _ => ∃ (x y : Addr) (a b : Pt) (k : Nat), vs = [.ref x, .ref y] ∧ PtAt H x a ∧ PtAt H y b ∧ SzP k a ∧ SzP k b ∧ k ≤ 4000 ∧ Q (.bl (Kzq1.before a b)) H
theorem scBef : FnScope ["a", "b"] ["a", "b"] (defScope sBef) := ⟨rfl, rfl, rfl, by decide +kernel, rfl, by decide +kernel, by decide +kernel⟩
theorem ok_bef {f fR : Addr} {fd fdR : FuncData} (F : Fun K "is_before" "is_before" sBef f fd) (GR : FnOk Pg w K mg base CX0 1 fR fdR ["a", "b"] spLess) (mR : mg "is_less" = some (.ref fR)) (kR : PySem.W.keepIn K (.ref fR) = true) (bR : Binds K fdR ["a", "b"] []) :
    FnOk Pg w K mg base CX0 2 f fd ["a", "b"] spBef := by
  refine F.ok scBef (fun vs H Q E h => ?_) (fun cdv A outer s H vs Q E hr h => ⟨_, pss_cons (ps_if (pt_cmpR (op_eqD hr.units) (pe_ix ix_tup (pv 0) pe_int (fun _ _ => rfl)) (pe_ix ix_tup (pv 1) pe_int (fun _ _ => rfl)) (nomark _))
      (pss_one (ps_ret (pe_call GR hr rfl mR kR bR .nil pass0 (pa_cons (pe_ix ix_tup (pv 0) pe_int (fun _ _ => rfl)) (pa_cons (pe_ix ix_tup (pv 1) pe_int (fun _ _ => rfl)) pa_nil))))) pss_nil)
    (pss_one (ps_ret (pe_call GR hr rfl mR kR bR .nil pass0 (pa_cons (pe_ix ix_tup (pv 0) pe_int (fun _ _ => rfl)) (pa_cons (pe_ix ix_tup (pv 1) pe_int (fun _ _ => rfl)) pa_nil))))), ?_⟩)
  · obtain ⟨x, y, a, b, k, rfl, _⟩ := h
    rfl
  · obtain ⟨x, y, a, b, k, rfl, ⟨x1, x2, hx, hx1, hx2⟩, ⟨y1, y2, hy, hy1, hy2⟩, sa, sb, hk, q⟩ := h
    rw [before_eq] at q
    refine ⟨_, rfl, x, _, 0, _, rfl, rfl, SqT.of hx, rfl, _, rfl, y, _, 0, _, rfl, rfl, SqT.of hy, rfl, frD a.x, frD b.x, hx1.dp, hy1.dp, frSh _, frSh _, _, rfl, ?_⟩
    rw [eqv_fr]
    by_cases c : a.x = b.x
    · rw [if_pos c] at q
      refine ifT (decide_eq_true c) ?_
      exact ⟨_, rfl, x, _, 1, _, rfl, rfl, SqT.of hx, rfl, _, rfl, y, _, 1, _, rfl, rfl, SqT.of hy, rfl, x2, y2, a.y, b.y, k, rfl, hx2, hy2, sa.2, sb.2, hk, q⟩
    · rw [if_neg c] at q
      refine ifF (decide_eq_false c) ?_
      exact ⟨_, rfl, x, _, 0, _, rfl, rfl, SqT.of hx, rfl, _, rfl, y, _, 0, _, rfl, rfl, SqT.of hy, rfl, x1, y1, a.x, b.x, k, rfl, hx1, hy1, sa.1, sb.1, hk, q⟩
end
end ScA
namespace ScA
open PySem PySem.Spec PyProof.Rows L2
open Sc
abbrev sPtI : Stmt := inClass (top 19) 0
abbrev sCn : Stmt := top 20
abbrev sPc : Stmt := top 21
abbrev sSh : Stmt := top 23
abbrev sSlI : Stmt := inClass (top 25) 0
abbrev sRs : Stmt := top 26
abbrev sLv : Stmt := top 27
abbrev sIo : Stmt := top 28
abbrev sWs : Stmt := top 29
abbrev sHv : Stmt := top 31
theorem PtsAt.append {H : Hp} : ∀ {as bs : List Addr} {ps qs : List Pt}, PtsAt H as ps → PtsAt H bs qs → PtsAt H (as ++ bs) (ps ++ qs)
  | [], _, [], _, _, h => h
  | _ :: _, _, _ :: _, _, h, g => ⟨h.1, PtsAt.append h.2 g⟩
  | [], _, _ :: _, _, h, _ => h.elim
  | _ :: _, _, [], _, h, _ => h.elim
theorem PtsAt.drop {H : Hp} : ∀ {as : List Addr} {ps : List Pt} (i : Nat), PtsAt H as ps → PtsAt H (as.drop i) (ps.drop i)
  | _, _, 0, h => h
  | [], [], _ + 1, h => h
  | _ :: _, _ :: _, i + 1, h => PtsAt.drop i h.2
  | [], _ :: _, _, h => h.elim
  | _ :: _, [], _, h => h.elim
theorem PtsAt.take {H : Hp} : ∀ {as : List Addr} {ps : List Pt} (i : Nat), PtsAt H as ps → PtsAt H (as.take i) (ps.take i)
  | _, _, 0, _ => trivial
  | [], [], _ + 1, h => h
  | _ :: _, _ :: _, i + 1, h => ⟨h.1, PtsAt.take i h.2⟩
  | [], _ :: _, _, h => h.elim
  | _ :: _, [], _, h => h.elim
/-- what the top has written of a class with an __init__ -/
structure ClsTxt (K : PySem.W.Frag) (mg : Str → Option Value) (nm : Str) (C fI : Addr) (fs : List Str) : Prop where
  cl : Cls K C
  g : mg nm = some (.ref C)
  n : ∀ f ∈ fs, NoAttr K C f
  m : Mk K C fI
theorem lkH {k : Str} {v : V} {r : List (Str × V)} : List.lookup k ((k, v) :: r) = some v := by
  have e : (k == k) = true := beq_self_eq_true k
  simp only [List.lookup, e]
theorem lkP {k g : Str} {v : V} {r : List (Str × V)} (h : (k == g) = false) : List.lookup k ((g, v) :: r) = List.lookup k r := by
  simp only [List.lookup, h]
section
variable {Pg : Program} {w : World} {K : PySem.W.Frag} {mg : Str → Option Value} {base : Heap} {CF CP CS fP fS : Addr}
/-! Part -/
def ptF (a b c : V) : List (Str × V) := [("piece", a), ("turned", b), ("slid", c)]
def spPtI (C : Addr) : Sp := fun vs H Q _ => ∃ (p dx : Addr) (a b c : V), vs = [.ref p, a, b, c] ∧ H p = some (.ins C dx []) ∧ ∀ H' : Hp, H' p = some (.ins C dx (ptF a b c)) → (∀ q o, H q = some o → q ≠ p → H' q = some o) → Q .non H'
theorem scPtI : FnScope ["self", "piece", "turned", "slid"] ["self", "piece", "turned", "slid"] (defScope sPtI) := ⟨rfl, rfl, rfl, by decide +kernel, rfl, by decide +kernel, by decide +kernel⟩
theorem ok_ptI {f : Addr} {fd : FuncData} (F : Fun K "__init__" "Part.__init__" sPtI f fd) (T : ClsTxt K mg "Part" CP fP ["piece", "turned", "slid"]) : FnOk Pg w K mg base CX0 1 f fd ["self", "piece", "turned", "slid"] (spPtI CP) := by
  refine F.ok scPtI (fun vs H Q E h => ?_) (fun cdv A outer s H vs Q E hr h => ⟨_, pss_cons (ps_fld (pv 0) (pv 1) rfl) (pss_cons (ps_fld (pv 0) (pv 2) rfl) (pss_one (ps_fld (pv 0) (pv 3) rfl))), ?_⟩)
  · obtain ⟨p, dx, a, b, c, rfl, _⟩ := h
    rfl
  · obtain ⟨p, dx, a, b, c, rfl, hp, k⟩ := h
    refine ⟨_, rfl, _, rfl, p, CP, dx, [], rfl, hp, T.cl, T.n _ (by simp), (by show 0 < 1000; decide), ?_⟩
    refine ⟨_, rfl, _, rfl, p, CP, dx, _, rfl, upd_same, T.cl, T.n _ (by simp), (by show 1 < 1000; decide), ?_⟩
    refine ⟨_, rfl, _, rfl, p, CP, dx, _, rfl, upd_same, T.cl, T.n _ (by simp), (by show 2 < 1000; decide), ?_⟩
    refine k _ ?_ fun q o e hq => by rw [upd_ne hq, upd_ne hq, upd_ne hq]; exact e
    rw [upd_same]
    have e : putF "slid" c (putF "turned" b (putF "piece" a [])) = ptF a b c := by
      unfold ptF
      have n1 : ¬ (("piece" : Str) = "turned") := by decide +kernel
      have n2 : ¬ (("piece" : Str) = "slid") := by decide +kernel
      have n3 : ¬ (("turned" : Str) = "slid") := by decide +kernel
      simp only [putF, if_neg n1, if_neg n2, if_neg n3]
    exact congrArg (fun z => some (HO.ins CP dx z)) e
/-! Slice -/
def slF (a b c d : V) : List (Str × V) := [("left_below", a), ("right_below", b), ("right_above", c), ("left_above", d)]
def spSlI (C : Addr) : Sp := fun vs H Q _ => ∃ (p dx : Addr) (a b c d : V), vs = [.ref p, a, b, c, d] ∧ H p = some (.ins C dx []) ∧ ∀ H' : Hp, H' p = some (.ins C dx (slF a b c d)) → (∀ q o, H q = some o → q ≠ p → H' q = some o) → Q .non H'
theorem scSlI : FnScope ["self", "left_below", "right_below", "right_above", "left_above"] ["self", "left_below", "right_below", "right_above", "left_above"] (defScope sSlI) := ⟨rfl, rfl, rfl, by decide +kernel, rfl, by decide +kernel, by decide +kernel⟩
theorem ok_slI {f : Addr} {fd : FuncData} (F : Fun K "__init__" "Slice.__init__" sSlI f fd) (T : ClsTxt K mg "Slice" CS fS ["left_below", "right_below", "right_above", "left_above"]) :
    FnOk Pg w K mg base CX0 1 f fd ["self", "left_below", "right_below", "right_above", "left_above"] (spSlI CS) := by
  refine F.ok scSlI (fun vs H Q E h => ?_) (fun cdv A outer s H vs Q E hr h => ⟨_, pss_cons (ps_fld (pv 0) (pv 1) rfl) (pss_cons (ps_fld (pv 0) (pv 2) rfl) (pss_cons (ps_fld (pv 0) (pv 3) rfl) (pss_one (ps_fld (pv 0) (pv 4) rfl)))), ?_⟩)
  · obtain ⟨p, dx, a, b, c, d, rfl, _⟩ := h
    rfl
  · obtain ⟨p, dx, a, b, c, d, rfl, hp, k⟩ := h
    refine ⟨_, rfl, _, rfl, p, CS, dx, [], rfl, hp, T.cl, T.n _ (by simp), (by show 0 < 1000; decide), ?_⟩
    refine ⟨_, rfl, _, rfl, p, CS, dx, _, rfl, upd_same, T.cl, T.n _ (by simp), (by show 1 < 1000; decide), ?_⟩
    refine ⟨_, rfl, _, rfl, p, CS, dx, _, rfl, upd_same, T.cl, T.n _ (by simp), (by show 2 < 1000; decide), ?_⟩
    refine ⟨_, rfl, _, rfl, p, CS, dx, _, rfl, upd_same, T.cl, T.n _ (by simp), (by show 3 < 1000; decide), ?_⟩
    refine k _ ?_ fun q o e hq => by rw [upd_ne hq, upd_ne hq, upd_ne hq, upd_ne hq]; exact e
    rw [upd_same]
    have e : putF "left_above" d (putF "right_above" c (putF "right_below" b (putF "left_below" a []))) = slF a b c d := by
      unfold slF
      have n1 : ¬ (("left_below" : Str) = "right_below") := by decide +kernel
      have n2 : ¬ (("left_below" : Str) = "right_above") := by decide +kernel
      have n3 : ¬ (("left_below" : Str) = "left_above") := by decide +kernel
      have n4 : ¬ (("right_below" : Str) = "right_above") := by decide +kernel
      have n5 : ¬ (("right_below" : Str) = "left_above") := by decide +kernel
      have n6 : ¬ (("right_above" : Str) = "left_above") := by decide +kernel
      simp only [putF, if_neg n1, if_neg n2, if_neg n3, if_neg n4, if_neg n5, if_neg n6]
    exact congrArg (fun z => some (HO.ins CS dx z)) e
end
end ScA
namespace ScA
open PySem PySem.Spec PyProof.Rows L2
open Sc
/-! piece_of -/
def unl (ps : List Pt) (i : Nat) : List Pt := (List.range i).filterMap fun i => if Kzq1.at0 ps i = Kzq1.at0 ps (i + 1) then none else some (Kzq1.at0 ps i)
theorem unl_all (ps : List Pt) : unl ps ps.length = Kzq1.unlike ps := rfl
theorem unl_more (ps : List Pt) (i : Nat) : unl ps (i + 1) = unl ps i ++ if Kzq1.at0 ps i = Kzq1.at0 ps (i + 1) then [] else [Kzq1.at0 ps i] := by
  unfold unl
  rw [List.range_succ, List.filterMap_append]
  congr 1
  rw [List.filterMap_cons]
  by_cases c : Kzq1.at0 ps i = Kzq1.at0 ps (i + 1)
  · rw [if_pos c, if_pos c]; rfl
  · rw [if_neg c, if_neg c]; rfl
theorem unl_len (ps : List Pt) (i : Nat) : (unl ps i).length ≤ i := by
  unfold unl
  refine Nat.le_trans (List.length_filterMap_le _ _) ?_
  rw [List.length_range]; exact Nat.le_refl _
theorem at0_get {ps : List Pt} {i : Nat} (h : i < ps.length) : ps[i]? = some (Kzq1.at0 ps i) := by
  unfold Kzq1.at0
  rw [Nat.mod_eq_of_lt h, List.getD_eq_getElem?_getD, List.getElem?_eq_getElem h]; rfl
theorem at0_mod (ps : List Pt) (i : Nat) : Kzq1.at0 ps (i % ps.length) = Kzq1.at0 ps i := by
  unfold Kzq1.at0
  rw [Nat.mod_mod]
theorem at0_mem {ps : List Pt} {i : Nat} (h : 0 < ps.length) : Kzq1.at0 ps i ∈ ps := by
  rw [← at0_mod]
  exact List.mem_of_getElem? (at0_get (Nat.mod_lt _ h))
theorem unlike_mem {ps : List Pt} {p : Pt} (h : p ∈ Kzq1.unlike ps) : p ∈ ps := by
  obtain ⟨i, hi, e⟩ := List.mem_filterMap.mp h
  have hi : i < ps.length := List.mem_range.mp hi
  by_cases c : Kzq1.at0 ps i = Kzq1.at0 ps (i + 1)
  · rw [if_pos c] at e; cases e
  · rw [if_neg c] at e
    cases e
    exact at0_mem (by omega)
/-- the leftmost corner's place, as far as i of them are looked at -/
def fst (l : List Pt) (i : Nat) : Nat := (List.range i).foldl (fun a j => if Kzq1.before (Kzq1.at0 l j) (Kzq1.at0 l a) then j else a) 0
theorem fst_more (l : List Pt) (i : Nat) : fst l (i + 1) = if Kzq1.before (Kzq1.at0 l i) (Kzq1.at0 l (fst l i)) then i else fst l i := by
  unfold fst
  rw [List.range_succ, List.foldl_append]; rfl
theorem fst_le (l : List Pt) : ∀ i, fst l i ≤ i - 1
  | 0 => Nat.le_refl _
  | i + 1 => by
    rw [fst_more]
    have := fst_le l i
    split <;> omega
theorem begun_fst (l : List Pt) : Kzq1.begunWith l = l.drop (fst l l.length) ++ l.take (fst l l.length) := rfl
theorem cut_from {xs : List V} {j : Nat} : cutV xs (some (j : Int)) none = xs.drop j := by
  unfold cutV
  rw [HT.sIx_nat, HT.sIx_none]
  by_cases c : j ≤ xs.length
  · rw [Nat.min_eq_left c]
    exact List.take_of_length_le (by rw [List.length_drop]; omega)
  · rw [Nat.min_eq_right (by omega), List.drop_eq_nil_of_le (Nat.le_refl _), List.drop_eq_nil_of_le (by omega), List.take_nil]
theorem cut_to {xs : List V} {j : Nat} : cutV xs none (some (j : Int)) = xs.take j := by
  unfold cutV
  rw [HT.sIx_nat, HT.sIx_none, List.drop_zero, Nat.sub_zero]
  by_cases c : j ≤ xs.length
  · rw [Nat.min_eq_left c]
  · rw [Nat.min_eq_right (by omega), List.take_of_length_le (Nat.le_refl _), List.take_of_length_le (by omega)]
section
variable {Pg : Program} {w : World} {K : PySem.W.Frag} {mg : Str → Option Value} {base : Heap} {CF CP CS fP fS : Addr}
def spPc : Sp := fun vs H Q _ => ∃ (a : Addr) (as : List Addr) (ps : List Pt) (k : Nat), vs = [.ref a] ∧ H a = some (.lst (as.map V.ref)) ∧ PtsAt H as ps ∧ (∀ p ∈ ps, SzP k p) ∧ k ≤ 4000 ∧ ps.length ≤ 1000 ∧
  ∀ H' q as', Same H H' → H q = none → H' q = some (.lst (as'.map V.ref)) → PtsAt H' as' (pieceOf ps) → Q (.ref q) H'
theorem scPc : FnScope ["corners", "count", "row", "first", "k"] ["corners"] (defScope sPc) := ⟨rfl, rfl, rfl, by decide +kernel, rfl, by decide +kernel, by decide +kernel⟩
theorem ok_pc {f fB : Addr} {fd fdB : FuncData} (F : Fun K "piece_of" "piece_of" sPc f fd) (mLen : mg "len" = none) (mRange : mg "range" = none)
    (GB : FnOk Pg w K mg base CX0 2 fB fdB ["a", "b"] spBef) (mB : mg "is_before" = some (.ref fB)) (kB : PySem.W.keepIn K (.ref fB) = true) (bB : Binds K fdB ["a", "b"] []) :
    FnOk Pg w K mg base CX0 3 f fd ["corners"] spPc := by
  refine F.ok scPc (fun vs H Q E h => ?_) (fun cdv A outer s H vs Q E hr h => ⟨_,
    pss_cons (ps_set (i := 1) scPc.nd rfl (Or.inr rfl) (pe_callB call_len_seq (by rfl) mLen PySem.boot_len (pa_cons (pv 0) pa_nil)))
    (pss_cons (ps_setLc (i := 2) (own := [("k", 4)]) (g := gName 4) rfl scPc.nd rfl rfl (sw_true rfl rfl rfl (by decide +kernel)) (pi_range1 rfl mRange (pa_cons (pv 1) pa_nil))
      (blkOk_by (own := [("k", 4)]) (N := ["corners", "count", "row", "first", "k"]) (sc := defScope sPc) (by decide +kernel))
      (fun _ _ _ _ _ => pg_name (i := 4) scPc.nd rfl (Or.inl rfl))
      (fun _ _ _ _ _ => pts_one (pt_cmpR (r := rNeD K) (op_neD hr.units) (pe_ix (r := rIxL K) ix_list (pv 0) (pv 4) (fun _ _ => rfl)) (pe_ix (r := rIxL K) ix_list (pv 0) (pe_op op_mod (pe_op op_add (pv 4) pe_int) (pv 1)) (fun _ _ => rfl)) (nomark _)))
      (fun _ _ _ _ _ => pe_ix (r := rIxL K) ix_list (pv 0) (pv 4) (fun _ _ => rfl)))
    (pss_cons (ps_set (i := 3) scPc.nd rfl (Or.inl rfl) pe_int)
    (pss_cons (ps_for PassesOwn.never rfl (pi_range1 rfl mRange (pa_cons (pe_callB call_len_seq (by rfl) mLen PySem.boot_len (pa_cons (pv 2) pa_nil)) pa_nil)) (pg_name (i := 4) scPc.nd rfl (Or.inl rfl))
      (pss_one (ps_if (pt_val (pe_call GB hr rfl mB kB bB .nil pass0 (pa_cons (pe_ix ix_list (pv 2) (pv 4) (fun _ _ => rfl)) (pa_cons (pe_ix ix_list (pv 2) (pv 3) (fun _ _ => rfl)) pa_nil))))
        (pss_one (ps_set (i := 3) scPc.nd rfl (Or.inl rfl) (pv 4))) pss_nil)))
    (pss_one (ps_ret (pe_op op_cat (pe_slice sl_list (pv 2) (po_some (pv 3)) po_none) (pe_slice sl_list (pv 2) po_none (po_some (pv 3))))))))), ?_⟩)
  · obtain ⟨a, as, ps, k, rfl, _⟩ := h
    rfl
  · obtain ⟨a, as, ps, k, rfl, ha, hP, hz, hk, hl, q⟩ := h
    have la := hP.len
    refine ⟨_, rfl, a, _, rfl, .inl (SqL.of ha), ?_⟩
    refine ⟨_, rfl, _, rfl, by omega, by rw [List.length_map]; omega, fun D nD => ?_⟩
    rw [List.length_map, la, Int.toNat_natCast]
    refine lc_range (lo := 0) (n := ps.length) (fun i H' => Same H H' ∧ ∃ as', H' D = some (.lst (as'.map V.ref)) ∧ PtsAt H' as' (unl ps i)) ?_ ?_ ?_
    · exact ⟨Same.new nD, [], upd_same, trivial⟩
    · rintro i H1 hi ⟨s1, as', hD1, hP1⟩
      have hP0 := PtsAt.tu (Tu.of s1) hP
      obtain ⟨a1, e1, p1⟩ := hP0.get (at0_get hi)
      have hm : (i + 1) % ps.length < ps.length := Nat.mod_lt _ (by omega)
      obtain ⟨a2, e2, p2⟩ := hP0.get (at0_get hm)
      rw [at0_mod] at p2
      have g1 : (as.map V.ref)[i]? = some (V.ref a1) := by rw [List.getElem?_map, e1]; rfl
      have g2 : (as.map V.ref)[(i + 1) % ps.length]? = some (V.ref a2) := by rw [List.getElem?_map, e2]; rfl
      refine ⟨rfl, ?_⟩
      have hS1 : SqL K H1 a (as.map V.ref) := SqL.of (s1 _ _ ha)
      have em : (0 + (i : Int) + 1) % (ps.length : Int) = (((i + 1) % ps.length : Nat) : Int) := by
        rw [Int.natCast_emod]; congr 1; omega
      refine ⟨_, rfl, _, rfl, a, _, _, _, rfl, rfl, hS1, at_of (by omega) g1, _, rfl, _, rfl, _, _, rfl, rfl, _, rfl, _, _, rfl, rfl, (by show (0 : Int) < (ps.length : Int); omega), a, _, _, _, rfl, rfl, hS1, at_of em g2, ptD (Kzq1.at0 ps i), ptD (Kzq1.at0 ps (i + 1)), p1.dp, p2.dp, ptSh _, ptSh _, _, rfl, ?_⟩
      rw [eqv_pt]
      by_cases c : Kzq1.at0 ps i = Kzq1.at0 ps (i + 1)
      · refine ifF (by rw [decide_eq_true c]; rfl) ⟨s1, as', hD1, ?_⟩
        rw [unl_more, if_pos c, List.append_nil]; exact hP1
      · refine ifT (by rw [decide_eq_false c]; rfl) ?_
        have l1 := hP1.len
        have l2 := unl_len ps i
        refine ⟨_, rfl, _, rfl, a, _, _, _, rfl, rfl, hS1, at_of (by omega) g1, _, hD1, ?_, ?_, as' ++ [a1], ?_, ?_⟩
        · rw [List.length_map]
          have e : sizeLine = 16777216 := by decide
          rw [e]; omega
        · intro b o e
          rw [upd_ne (ne_of_none e nD)]
          exact s1 _ _ e
        · rw [upd_same, List.map_append]; rfl
        · rw [unl_more, if_neg c]
          exact PtsAt.snoc (p1.tu (Tu.lst hD1)) (PtsAt.tu (Tu.lst hD1) hP1)
    · rintro H1 ⟨s1, as', hD1, hP1⟩
      rw [unl_all] at hP1
      have l1 := hP1.len
      have l2 : (Kzq1.unlike ps).length ≤ ps.length := by rw [← unl_all]; exact unl_len ps _
      refine ⟨_, rfl, D, _, rfl, .inl (SqL.of hD1), _, rfl, by omega, by rw [List.length_map]; omega, ?_⟩
      rw [List.length_map, l1, Int.toNat_natCast]
      have szU : ∀ p ∈ Kzq1.unlike ps, SzP k p := fun p hp => hz p (unlike_mem hp)
      refine for_range (lo := 0) (n := (Kzq1.unlike ps).length) (fun i σ H' => H' = H1 ∧ ∃ r : Option V, σ = [some (.ref a), some (.int (ps.length : Int)), some (.ref D), some (.int ((fst (Kzq1.unlike ps) i : Nat) : Int)), r]) ?_ ?_ ?_
      · exact ⟨rfl, none, rfl⟩
      · rintro i σ H2 hi ⟨rfl, r, rfl⟩
        have hf : fst (Kzq1.unlike ps) i < (Kzq1.unlike ps).length := by have := fst_le (Kzq1.unlike ps) i; omega
        obtain ⟨a1, e1, p1⟩ := hP1.get (at0_get hi)
        obtain ⟨a2, e2, p2⟩ := hP1.get (at0_get hf)
        have g1 : (as'.map V.ref)[i]? = some (V.ref a1) := by rw [List.getElem?_map, e1]; rfl
        have g2 : (as'.map V.ref)[fst (Kzq1.unlike ps) i]? = some (V.ref a2) := by rw [List.getElem?_map, e2]; rfl
        refine ⟨_, rfl, _, rfl, D, _, _, _, rfl, rfl, SqL.of hD1, at_of (by omega) g1, _, rfl, _, rfl, D, _, _, _, rfl, rfl, SqL.of hD1, atI_nat g2, a1, a2, _, _, k, rfl, p1, p2, szU _ (at0_mem (by omega)), szU _ (at0_mem (by omega)), hk, _, rfl, ?_⟩
        by_cases c : Kzq1.before (Kzq1.at0 (Kzq1.unlike ps) i) (Kzq1.at0 (Kzq1.unlike ps) (fst (Kzq1.unlike ps) i)) = true
        · refine ifT c ?_
          refine ⟨_, rfl, rfl, some (.int (0 + (i : Int))), ?_⟩
          rw [fst_more, if_pos c, Int.zero_add]
          rfl
        · refine ifF (by simpa using c) ?_
          refine ⟨rfl, some (.int (0 + (i : Int))), ?_⟩
          rw [fst_more, if_neg c]
          rfl
      · rintro σ H2 ⟨rfl, r, rfl⟩
        refine ⟨_, rfl, _, rfl, _, rfl, D, _, rfl, SqL.of hD1, fun b1 n1 => ?_⟩
        generalize hj : fst (Kzq1.unlike ps) (Kzq1.unlike ps).length = j at *
        have t1 := Same.new (o := .lst (cutV (as'.map V.ref) (some (j : Int)) none)) n1
        refine ⟨_, rfl, _, rfl, _, rfl, D, _, rfl, SqL.of (t1 _ _ hD1), fun b2 n2 => ?_⟩
        have t2 := Same.new (o := .lst (cutV (as'.map V.ref) none (some (j : Int)))) n2
        have x1 := cutV_length (as'.map V.ref) (some (j : Int)) none
        have x2 := cutV_length (as'.map V.ref) none (some (j : Int))
        rw [List.length_map] at x1 x2
        refine ⟨b1, b2, _, _, rfl, rfl, t2 _ _ upd_same, upd_same, ?_, fun b3 n3 => ?_⟩
        · have e : sizeLine = 16777216 := by decide
          rw [e]; omega
        have t3 := Same.new (o := .lst (cutV (as'.map V.ref) (some (j : Int)) none ++ cutV (as'.map V.ref) none (some (j : Int)))) n3
        have tt := (s1.trans t1).trans (t2.trans t3)
        refine q _ b3 (as'.drop j ++ as'.take j) tt ((s1.trans (t1.trans t2)).free n3) ?_ ?_
        · rw [upd_same, cut_from, cut_to, List.map_append, List.map_drop, List.map_take]
        · unfold pieceOf
          rw [begun_fst, hj]
          have hP3 := PtsAt.tu (Tu.of (t1.trans (t2.trans t3))) hP1
          exact PtsAt.append (hP3.drop j) (hP3.take j)
end
end ScA
namespace ScA
open PySem PySem.Spec PyProof.Rows L2
open Sc
/-! parts in the heap; cutting_numbers -/
def hI (b : Bool) : Int := if b then 1 else 0
def PartAt (C : Addr) (H : Hp) (a : Addr) (p : Kzq2.Part) : Prop := ∃ dx pc sl as, H a = some (.ins C dx (ptF (.ref pc) (.int (hI p.m.h)) (.ref sl))) ∧ H pc = some (.lst (as.map V.ref)) ∧ PtsAt H as p.l ∧ PtAt H sl p.m.t
theorem PartAt.mono {C : Addr} {H H' : Hp} {a : Addr} {p : Kzq2.Part} (h : PartAt C H a p) (s : Same H H') : PartAt C H' a p :=
  let ⟨dx, pc, sl, as, h1, h2, h3, h4⟩ := h
  ⟨dx, pc, sl, as, s _ _ h1, s _ _ h2, PtsAt.tu (Tu.of s) h3, h4.mono s⟩
def PartsAt (C : Addr) (H : Hp) : List Addr → List Kzq2.Part → Prop
  | [], [] => True
  | a :: as, p :: ps => PartAt C H a p ∧ PartsAt C H as ps
  | _, _ => False
theorem PartsAt.mono {C : Addr} {H H' : Hp} (s : Same H H') : ∀ {as : List Addr} {ps : List Kzq2.Part}, PartsAt C H as ps → PartsAt C H' as ps
  | [], [], h => h
  | _ :: _, _ :: _, h => ⟨h.1.mono s, PartsAt.mono s h.2⟩
  | [], _ :: _, h => h.elim
  | _ :: _, [], h => h.elim
theorem PartsAt.len {C : Addr} {H : Hp} : ∀ {as : List Addr} {ps : List Kzq2.Part}, PartsAt C H as ps → as.length = ps.length
  | [], [], _ => rfl
  | _ :: _, _ :: _, h => congrArg (· + 1) (PartsAt.len h.2)
  | [], _ :: _, h => h.elim
  | _ :: _, [], h => h.elim
theorem PartsAt.get {C : Addr} {H : Hp} : ∀ {as : List Addr} {ps : List Kzq2.Part} {i : Nat} {a : Addr}, PartsAt C H as ps → as[i]? = some a → ∃ p, ps[i]? = some p ∧ PartAt C H a p
  | a :: _, p :: _, 0, q, h, e => by
    have e : a = q := Option.some.inj e
    subst e
    exact ⟨p, rfl, h.1⟩
  | _ :: _, _ :: _, i + 1, q, h, e => PartsAt.get (i := i) (a := q) h.2 e
  | [], [], _, _, _, e => by simp at e
  | [], _ :: _, _, _, h, _ => h.elim
  | _ :: _, [], _, _, h, _ => h.elim
theorem PtsAt.at {H : Hp} : ∀ {as : List Addr} {ps : List Pt} {i : Nat} {a : Addr}, PtsAt H as ps → as[i]? = some a → ∃ p, ps[i]? = some p ∧ PtAt H a p
  | a :: _, p :: _, 0, q, h, e => by
    have e : a = q := Option.some.inj e
    subst e
    exact ⟨p, rfl, h.1⟩
  | _ :: _, _ :: _, i + 1, q, h, e => PtsAt.at (i := i) (a := q) h.2 e
  | [], [], _, _, _, e => by simp at e
  | [], _ :: _, _, _, h, _ => h.elim
  | _ :: _, [], _, _, h, _ => h.elim
theorem take_more {α : Type} {l : List α} {i : Nat} {x : α} (h : l[i]? = some x) : l.take (i + 1) = l.take i ++ [x] := by
  rw [List.take_succ, h]; rfl
theorem written_snoc (l : List Pt) (p : Pt) : Kzq1.written (l ++ [p]) = Kzq1.written l ++ ptN p := by
  unfold Kzq1.written
  rw [List.flatMap_append, List.flatMap_singleton]; rfl
theorem cut_snoc (l : List Kzq2.Part) (p : Kzq2.Part) : Kzq2.writtenCut (l ++ [p]) = Kzq2.writtenCut l ++ (((p.l.length : Nat) : Int) :: (Kzq1.written p.l ++ (hI p.m.h :: ptN p.m.t))) := by
  unfold Kzq2.writtenCut
  rw [List.flatMap_append, List.flatMap_singleton]
  rfl
theorem cut_len (l : List Kzq2.Part) {n : Nat} (h : ∀ p ∈ l, p.l.length ≤ n) : (Kzq2.writtenCut l).length ≤ l.length * (4 * n + 6) := by
  induction l with
  | nil => exact Nat.zero_le _
  | cons p r ih =>
    have e : Kzq2.writtenCut (p :: r) = (((p.l.length : Nat) : Int) :: (Kzq1.written p.l ++ Kzq2.writtenMove p.m)) ++ Kzq2.writtenCut r := rfl
    have h1 := ih fun q hq => h q (List.mem_cons_of_mem _ hq)
    have h2 := h p List.mem_cons_self
    have e2 : (Kzq2.writtenMove p.m).length = 5 := rfl
    rw [e, List.length_append, List.length_cons, List.length_append, written_len, e2, List.length_cons, Nat.add_mul, Nat.one_mul]
    omega
section
variable {Pg : Program} {w : World} {K : PySem.W.Frag} {mg : Str → Option Value} {base : Heap} {CF CP CS fP fS : Addr}
theorem szl : sizeLine = 16777216 := by decide
def spCn (C : Addr) : Sp := fun vs H Q _ => ∃ (a : Addr) (as : List Addr) (ps : List Kzq2.Part), vs = [.ref a] ∧ H a = some (.lst (as.map V.ref)) ∧ PartsAt C H as ps ∧ ps.length ≤ 1000 ∧ (∀ p ∈ ps, p.l.length ≤ 1000) ∧
  ∀ H' q, Same H H' → H q = none → H' q = some (.lst ((Kzq2.writtenCut ps).map V.int)) → Q (.ref q) H'
theorem scCn : FnScope ["parts", "row", "part", "corner"] ["parts"] (defScope sCn) := ⟨rfl, rfl, rfl, by decide +kernel, rfl, by decide +kernel, by decide +kernel⟩
theorem ok_cn {f fB : Addr} {fd fdB : FuncData} (F : Fun K "cutting_numbers" "cutting_numbers" sCn f fd) (T : ClsTxt K mg "Part" CP fP ["piece", "turned", "slid"]) (mLen : mg "len" = none)
    (GB : FnOk Pg w K mg base CX0 1 fB fdB ["point"] spPn) (mB : mg "point_numbers" = some (.ref fB)) (kB : PySem.W.keepIn K (.ref fB) = true) (bB : Binds K fdB ["point"] []) :
    FnOk Pg w K mg base CX0 2 f fd ["parts"] (spCn CP) := by
  refine F.ok scCn (fun vs H Q E h => ?_) (fun cdv A outer s H vs Q E hr h => ⟨_,
    pss_cons (ps_set (i := 1) scCn.nd rfl (Or.inl rfl) (pe_lst pa_nil))
    (pss_cons (ps_for PassesOwn.never rfl (pi_list (pv 0)) (pg_name (i := 2) scCn.nd rfl (Or.inl rfl))
      (pss_cons (ps_expr (pe_bm PySem.F.plainAttrs_list PySem.F.slot_list_append PySem.F.type_list_append mt_append (pv 1) (pa_cons (pe_callB call_len_seq (by rfl) mLen PySem.boot_len (pa_cons (pe_fld (pv 2) rfl) pa_nil)) pa_nil)))
      (pss_cons (ps_for PassesOwn.never rfl (pi_list (pe_fld (pv 2) rfl)) (pg_name (i := 3) scCn.nd rfl (Or.inl rfl))
        (pss_one (ps_expr (pe_bm PySem.F.plainAttrs_list PySem.F.slot_list_extend PySem.F.type_list_extend mt_extend (pv 1) (pa_cons (pe_call GB hr rfl mB kB bB .nil pass0 (pa_cons (pv 3) pa_nil)) pa_nil)))))
      (pss_cons (ps_expr (pe_bm PySem.F.plainAttrs_list PySem.F.slot_list_append PySem.F.type_list_append mt_append (pv 1) (pa_cons (pe_fld (pv 2) rfl) pa_nil)))
      (pss_one (ps_expr (pe_bm PySem.F.plainAttrs_list PySem.F.slot_list_extend PySem.F.type_list_extend mt_extend (pv 1) (pa_cons (pe_call GB hr rfl mB kB bB .nil pass0 (pa_cons (pe_fld (pv 2) rfl) pa_nil)) pa_nil))))))))
    (pss_one (ps_ret (pv 1)))), ?_⟩)
  · obtain ⟨a, as, ps, rfl, _⟩ := h
    rfl
  · obtain ⟨a, as, ps, rfl, ha, hP, hl, hpl, q⟩ := h
    have la := hP.len
    refine ⟨(by show 0 ≤ sizeLine; decide), fun r nr => ?_⟩
    have s0 := Same.new (o := .lst []) nr
    refine ⟨_, rfl, a, rfl, ⟨_, SqL.of (s0 _ _ ha)⟩, for_list (K := K) (a := a) (xs := as.map V.ref) (fun i σ H' => ∃ v1 v2 : Option V, σ = [some (.ref a), some (.ref r), v1, v2] ∧ Same H H' ∧ H' r = some (.lst ((Kzq2.writtenCut (ps.take i)).map V.int)))
      ⟨none, none, rfl, s0, upd_same⟩ (fun i σ H' _ ⟨_, _, _, s5, _⟩ => SqL.of (s5 _ _ ha)) ?_ ?_⟩
    · rintro i y σ H1 hi ⟨v1, v2, rfl, s1, hr1⟩
      obtain ⟨b, hb, rfl⟩ : ∃ b, as[i]? = some b ∧ y = V.ref b := by
        rw [List.getElem?_map] at hi
        cases e : as[i]? with
        | none => rw [e] at hi; cases hi
        | some z => rw [e] at hi; exact ⟨z, rfl, (Option.some.inj hi).symm⟩
      obtain ⟨p, hp, pa⟩ := hP.get hb
      have bd : (Kzq2.writtenCut (ps.take i)).length ≤ 1000 * 4006 := by
        have z := cut_len (ps.take i) (n := 1000) fun z hz => hpl z (List.mem_of_mem_take hz)
        rw [List.length_take] at z
        refine Nat.le_trans z (Nat.mul_le_mul ?_ (by omega))
        omega
      have pl : p.l.length ≤ 1000 := hpl p (List.mem_of_getElem? hp)
      generalize hw : Kzq2.writtenCut (ps.take i) = nums at *
      have fin : Kzq2.writtenCut (ps.take (i + 1)) = nums ++ (((p.l.length : Nat) : Int) :: (Kzq1.written p.l ++ (hI p.m.h :: ptN p.m.t))) := by rw [take_more hp, cut_snoc, hw]
      obtain ⟨dx, pc, sl, cs, h1, h2, h3, h4⟩ := pa
      have lc := h3.len
      have step : ∀ {H2 : Hp} {o : HO}, Same H H2 → Same H (upd H2 r o) := fun {H2 o} s2 b o' e => by
        rw [upd_ne (ne_of_none e nr)]; exact s2 _ _ e
      refine ⟨_, rfl, .inl ⟨rfl, _, SqL.of hr1⟩, _, rfl, b, CP, dx, _, _, rfl, s1 _ _ h1, T.cl, T.n _ (by simp), lkH, pc, _, rfl, .inl (SqL.of (s1 _ _ h2)), r, _, _, rfl, rfl, hr1, ?_, ?_⟩
      · rw [List.length_map, szl]; omega
      have s2 := step (o := .lst (nums.map V.int ++ [V.int ((cs.map V.ref).length : Int)])) s1
      refine ⟨_, rfl, b, CP, dx, _, _, rfl, s2 _ _ h1, T.cl, T.n _ (by simp), lkH, pc, rfl, ⟨_, SqL.of (s2 _ _ h2)⟩, for_list (K := K) (a := pc) (xs := cs.map V.ref)
        (fun j σ H' => ∃ v2 : Option V, σ = [some (.ref a), some (.ref r), some (.ref b), v2] ∧ Same H H' ∧ H' r = some (.lst ((nums ++ (((p.l.length : Nat) : Int) :: Kzq1.written (p.l.take j))).map V.int)))
        ⟨v2, rfl, s2, ?_⟩ (fun j σ H' _ ⟨_, _, s5, _⟩ => SqL.of (s5 _ _ h2)) ?_ ?_⟩
      · rw [upd_same, List.length_map, lc, List.map_append]; rfl
      · rintro j y σ H3 hj ⟨v3, rfl, s3, hr3⟩
        obtain ⟨c, hc, rfl⟩ : ∃ c, cs[j]? = some c ∧ y = V.ref c := by
          rw [List.getElem?_map] at hj
          cases e : cs[j]? with
          | none => rw [e] at hj; cases hj
          | some z => rw [e] at hj; exact ⟨z, rfl, (Option.some.inj hj).symm⟩
        obtain ⟨pt, hpt, hca⟩ := h3.at hc
        refine ⟨_, rfl, .inl ⟨rfl, _, SqL.of hr3⟩, _, rfl, c, pt, rfl, hca.mono s3, fun d nd => ?_⟩
        have s4 := Same.new (o := .lst ((ptN pt).map V.int)) nd
        have wl := written_len (p.l.take j)
        rw [List.length_take] at wl
        refine ⟨r, d, _, _, rfl, rfl, s4 _ _ hr3, upd_same, ?_, ?_⟩
        · rw [List.length_map, List.length_append, List.length_cons, List.length_map, szl]
          show _ + 4 ≤ _
          omega
        · refine ⟨some (.ref c), rfl, step (s3.trans s4), ?_⟩
          rw [upd_same, take_more hpt, written_snoc, ← List.map_append, List.append_assoc]; rfl
      · rintro σ H3 ⟨v3, rfl, s3, hr3⟩
        rw [List.length_map, lc, List.take_length] at hr3
        have wl := written_len p.l
        refine ⟨_, rfl, .inl ⟨rfl, _, SqL.of hr3⟩, _, rfl, b, CP, dx, _, _, rfl, s3 _ _ h1, T.cl, T.n _ (by simp), (lkP (by decide +kernel)).trans lkH, r, _, _, rfl, rfl, hr3, ?_, ?_⟩
        · rw [List.length_map, List.length_append, List.length_cons, szl]; omega
        have s4 := step (o := .lst ((nums ++ (((p.l.length : Nat) : Int) :: Kzq1.written p.l)).map V.int ++ [V.int (hI p.m.h)])) s3
        refine ⟨_, rfl, .inl ⟨rfl, _, SqL.of upd_same⟩, _, rfl, b, CP, dx, _, _, rfl, s4 _ _ h1, T.cl, T.n _ (by simp), (lkP (by decide +kernel)).trans ((lkP (by decide +kernel)).trans lkH), sl, p.m.t, rfl, h4.mono s4, fun d nd => ?_⟩
        have s5 := Same.new (o := .lst ((ptN p.m.t).map V.int)) nd
        refine ⟨r, d, _, _, rfl, rfl, s5 _ _ upd_same, upd_same, ?_, ?_⟩
        · rw [List.length_append, List.length_map, List.length_append, List.length_cons, List.length_map, szl]
          show _ + 1 + 4 ≤ _
          omega
        · refine ⟨some (.ref b), v3, rfl, step (s4.trans s5), ?_⟩
          rw [upd_same, fin]
          simp only [List.map_append, List.map_cons, List.append_assoc, List.cons_append, List.nil_append]
    · rintro σ H1 ⟨v1, v2, rfl, s1, hr1⟩
      rw [List.length_map, la, List.take_length] at hr1
      exact ⟨_, rfl, q H1 r s1 nr hr1⟩
end
end ScA
namespace ScA
open PySem PySem.Spec PyProof.Rows L2
open Sc
def SliceAt (C : Addr) (H : Hp) (t : Addr) (a b c e : Pt) : Prop := ∃ dx xa xb xc xe, H t = some (.ins C dx (slF (.ref xa) (.ref xb) (.ref xc) (.ref xe))) ∧ PtAt H xa a ∧ PtAt H xb b ∧ PtAt H xc c ∧ PtAt H xe e
theorem sl_lb {a b c d : V} : (slF a b c d).lookup ("left_below" : Str) = some a := lkH
theorem sl_rb {a b c d : V} : (slF a b c d).lookup ("right_below" : Str) = some b := (lkP (by decide +kernel)).trans lkH
theorem sl_ra {a b c d : V} : (slF a b c d).lookup ("right_above" : Str) = some c := (lkP (by decide +kernel)).trans ((lkP (by decide +kernel)).trans lkH)
theorem sl_la {a b c d : V} : (slF a b c d).lookup ("left_above" : Str) = some d := (lkP (by decide +kernel)).trans ((lkP (by decide +kernel)).trans ((lkP (by decide +kernel)).trans lkH))
section
variable {Pg : Program} {w : World} {K : PySem.W.Frag} {mg : Str → Option Value} {base : Heap} {CF CP CS fP fS : Addr}
def spSh (CS CP : Addr) : Sp := fun vs H Q _ => ∃ (t : Addr) (a b c e : Pt), vs = [.ref t] ∧ SliceAt CS H t a b c e ∧ (OkP a ∧ OkP b ∧ OkP c ∧ OkP e) ∧ (SzP 300 a ∧ SzP 300 b ∧ SzP 300 c ∧ SzP 300 e) ∧
  ∀ H' q as, Same H H' → H q = none → H' q = some (.lst (as.map V.ref)) → PartsAt CP H' as (halves a b c e) → Q (.ref q) H'
theorem scSh : FnScope ["told", "left", "right", "lower", "upper", "slid"] ["told"] (defScope sSh) := ⟨rfl, rfl, rfl, by decide +kernel, rfl, by decide +kernel, by decide +kernel⟩
theorem ok_sh {f fM fC fU fO : Addr} {fd fdM fdC fdU fdO fdI : FuncData} (F : Fun K "slice_halved" "slice_halved" sSh f fd) (T : ClsTxt K mg "Slice" CS fS ["left_below", "right_below", "right_above", "left_above"]) (TP : ClsTxt K mg "Part" CP fP ["piece", "turned", "slid"])
    (GM : FnOk Pg w K mg base CX0 5 fM fdM ["a", "b"] spMid) (mM : mg "middle" = some (.ref fM)) (kM : PySem.W.keepIn K (.ref fM) = true) (bM : Binds K fdM ["a", "b"] [])
    (GC : FnOk Pg w K mg base CX0 3 fC fdC ["corners"] spPc) (mC : mg "piece_of" = some (.ref fC)) (kC : PySem.W.keepIn K (.ref fC) = true) (bC : Binds K fdC ["corners"] [])
    (GU : FnOk Pg w K mg base CX0 4 fU fdU ["a", "b"] spPs) (mU : mg "point_sum" = some (.ref fU)) (kU : PySem.W.keepIn K (.ref fU) = true) (bU : Binds K fdU ["a", "b"] [])
    (GO : FnOk Pg w K mg base CX0 1 fO fdO [] spOr) (mO : mg "origin" = some (.ref fO)) (kO : PySem.W.keepIn K (.ref fO) = true) (bO : Binds K fdO [] [])
    (GI : FnOk Pg w K mg base CX0 1 fP fdI ["self", "piece", "turned", "slid"] (spPtI CP)) (bI : Binds K fdI ["self", "piece", "turned", "slid"] []) :
    FnOk Pg w K mg base CX0 6 f fd ["told"] (spSh CS CP) := by
  refine F.ok scSh (fun vs H Q E h => ?_) (fun cdv A outer s H vs Q E hr h => ⟨_,
    pss_cons (ps_set (i := 1) scSh.nd rfl (Or.inl rfl) (pe_call GM hr rfl mM kM bM .nil pass0 (pa_cons (pe_fld (pv 0) rfl) (pa_cons (pe_fld (pv 0) rfl) pa_nil))))
    (pss_cons (ps_set (i := 2) scSh.nd rfl (Or.inl rfl) (pe_call GM hr rfl mM kM bM .nil pass0 (pa_cons (pe_fld (pv 0) rfl) (pa_cons (pe_fld (pv 0) rfl) pa_nil))))
    (pss_cons (ps_set (i := 3) scSh.nd rfl (Or.inl rfl) (pe_call GC (hr.mono (by decide)) rfl mC kC bC .nil pass0 (pa_cons (pe_lst (pa_cons (pe_fld (pv 0) rfl) (pa_cons (pe_fld (pv 0) rfl) (pa_cons (pv 2) (pa_cons (pv 1) pa_nil))))) pa_nil)))
    (pss_cons (ps_set (i := 4) scSh.nd rfl (Or.inl rfl) (pe_call GC (hr.mono (by decide)) rfl mC kC bC .nil pass0 (pa_cons (pe_lst (pa_cons (pv 1) (pa_cons (pv 2) (pa_cons (pe_fld (pv 0) rfl) (pa_cons (pe_fld (pv 0) rfl) pa_nil))))) pa_nil)))
    (pss_cons (ps_set (i := 5) scSh.nd rfl (Or.inl rfl) (pe_call GU (hr.mono (by decide)) rfl mU kU bU .nil pass0 (pa_cons (pe_fld (pv 0) rfl) (pa_cons (pe_fld (pv 0) rfl) pa_nil))))
    (pss_one (ps_ret (pe_lst (pa_cons (pe_make TP.m GI (hr.mono (by decide)) rfl TP.g bI .nil pass0 (pa_cons (pv 3) (pa_cons pe_int (pa_cons (pe_call0 GO (hr.mono (by decide)) rfl mO kO bO .nil pass0) pa_nil))))
      (pa_cons (pe_make TP.m GI (hr.mono (by decide)) rfl TP.g bI .nil pass0 (pa_cons (pv 4) (pa_cons pe_int (pa_cons (pv 5) pa_nil)))) pa_nil))))))))), ?_⟩)
  · obtain ⟨t, a, b, c, e, rfl, _⟩ := h
    rfl
  · obtain ⟨t, a, b, c, e, rfl, ⟨dx, xa, xb, xc, xe, ht, pa, pb, pc, pe⟩, ⟨oa, ob, oc, oe⟩, ⟨za, zb, zc, ze⟩, q⟩ := h
    -- left, right
    refine ⟨_, rfl, t, CS, dx, _, _, rfl, ht, T.cl, T.n _ (by simp), sl_lb, _, rfl, t, CS, dx, _, _, rfl, ht, T.cl, T.n _ (by simp), sl_la, xa, xe, a, e, 300, rfl, pa, pe, oa, oe, za, ze, by omega, fun H1 l s1 n1 p1 => ?_⟩
    have ht1 := s1 _ _ ht
    refine ⟨_, rfl, t, CS, dx, _, _, rfl, ht1, T.cl, T.n _ (by simp), sl_rb, _, rfl, t, CS, dx, _, _, rfl, ht1, T.cl, T.n _ (by simp), sl_ra, xb, xc, b, c, 300, rfl, pb.mono s1, pc.mono s1, ob, oc, zb, zc, by omega, fun H2 r s2 n2 p2 => ?_⟩
    have t2 := s1.trans s2
    have ht2 := t2 _ _ ht
    have zl : SzP 700 (mid a e) := (mid_sz oa oe za ze).mono (by omega)
    have zr : SzP 700 (mid b c) := (mid_sz ob oc zb zc).mono (by omega)
    have z4 : SzP 700 a ∧ SzP 700 b ∧ SzP 700 c ∧ SzP 700 e := ⟨za.mono (by omega), zb.mono (by omega), zc.mono (by omega), ze.mono (by omega)⟩
    -- lower
    refine ⟨_, rfl, t, CS, dx, _, _, rfl, ht2, T.cl, T.n _ (by simp), sl_lb, _, rfl, t, CS, dx, _, _, rfl, ht2, T.cl, T.n _ (by simp), sl_rb, _, rfl, _, rfl, (by show 4 ≤ sizeLine; decide), fun g1 m1 => ?_⟩
    have s3 := Same.new (o := .lst [V.ref xa, V.ref xb, V.ref r, V.ref l]) m1
    have t3 := t2.trans s3
    refine ⟨g1, [xa, xb, r, l], [a, b, mid b c, mid a e], 700, rfl, upd_same, ⟨pa.mono t3, pb.mono t3, p2.mono s3, (p1.mono s2).mono s3, trivial⟩, ?_, by omega, by simp, fun H4 lo as4 s4 n4 h4 P4 => ?_⟩
    · intro p hp
      simp only [List.mem_cons, List.not_mem_nil, or_false] at hp
      rcases hp with rfl | rfl | rfl | rfl
      · exact z4.1
      · exact z4.2.1
      · exact zr
      · exact zl
    have t4 := t3.trans s4
    have ht4 := t4 _ _ ht
    -- upper
    refine ⟨_, rfl, _, rfl, _, rfl, t, CS, dx, _, _, rfl, ht4, T.cl, T.n _ (by simp), sl_ra, _, rfl, t, CS, dx, _, _, rfl, ht4, T.cl, T.n _ (by simp), sl_la, (by show 4 ≤ sizeLine; decide), fun g2 m2 => ?_⟩
    have s5 := Same.new (o := .lst [V.ref l, V.ref r, V.ref xc, V.ref xe]) m2
    have t5 := t4.trans s5
    have s35 := (s3.trans s4).trans s5
    refine ⟨g2, [l, r, xc, xe], [mid a e, mid b c, c, e], 700, rfl, upd_same, ⟨(p1.mono s2).mono s35, p2.mono s35, pc.mono t5, pe.mono t5, trivial⟩, ?_, by omega, by simp, fun H6 hi as6 s6 n6 h6 P6 => ?_⟩
    · intro p hp
      simp only [List.mem_cons, List.not_mem_nil, or_false] at hp
      rcases hp with rfl | rfl | rfl | rfl
      · exact zl
      · exact zr
      · exact z4.2.2.1
      · exact z4.2.2.2
    have t6 := t5.trans s6
    have ht6 := t6 _ _ ht
    -- slid
    refine ⟨_, rfl, t, CS, dx, _, _, rfl, ht6, T.cl, T.n _ (by simp), sl_rb, _, rfl, t, CS, dx, _, _, rfl, ht6, T.cl, T.n _ (by simp), sl_ra, xb, xc, b, c, 300, rfl, pb.mono t6, pc.mono t6, ob, oc, zb, zc, by omega, fun H7 sl s7 n7 p7 => ?_⟩
    have t7 := t6.trans s7
    -- the parts
    refine ⟨_, rfl, rfl, fun H8 og s8 n8 p8 x1 d1 nx1 nd1 ne1 => ?_⟩
    refine ⟨x1, d1, _, _, _, rfl, upd_same, fun H9 h9 k9 => ⟨rfl, ?_⟩⟩
    have s9 : Same H8 H9 := Same.made nx1 nd1 k9
    refine ⟨_, rfl, _, rfl, fun x2 d2 nx2 nd2 ne2 => ?_⟩
    refine ⟨x2, d2, _, _, _, rfl, upd_same, fun H10 h10 k10 => ⟨rfl, ?_⟩⟩
    have s10 : Same H9 H10 := Same.made nx2 nd2 k10
    refine ⟨(by show 2 ≤ sizeLine; decide), fun g3 m3 => ?_⟩
    have s11 := Same.new (o := .lst [V.ref x1, V.ref x2]) m3
    have e1 := (s10.trans s11)
    have e2 := s9.trans e1
    have e3 := s8.trans e2
    have e4 := s7.trans e3
    have e5 := (s5.trans s6).trans e4
    refine q _ g3 [x1, x2] (t7.trans e3) ((t7.trans (s8.trans (s9.trans s10))).free m3) upd_same ⟨⟨d1, lo, og, as4, e1 _ _ h9, e5 _ _ h4, PtsAt.tu (Tu.of e5) P4, p8.mono e2⟩, ⟨d2, hi, sl, as6, s11 _ _ h10, e4 _ _ h6, PtsAt.tu (Tu.of e4) P6, p7.mono e3⟩, trivial⟩
end
end ScA
namespace ScA
open PySem PySem.Spec PyProof.Rows L2
open Sc
section
variable {Pg : Program} {w : World} {K : PySem.W.Frag} {mg : Str → Option Value} {base : Heap} {CF CP CS fP fS : Addr}
abbrev slN : List Str := ["left_below", "right_below", "right_above", "left_above"]
/-! is_level -/
def spLv (CS : Addr) : Sp := fun vs H Q _ => ∃ (t : Addr) (a b c e : Pt), vs = [.ref t] ∧ SliceAt CS H t a b c e ∧ Q (.bl (decide (a.y = b.y) && decide (e.y = c.y))) H
theorem scLv : FnScope ["told"] ["told"] (defScope sLv) := ⟨rfl, rfl, rfl, by decide +kernel, rfl, by decide +kernel, by decide +kernel⟩
theorem ok_lv {f : Addr} {fd : FuncData} (F : Fun K "is_level" "is_level" sLv f fd) (T : ClsTxt K mg "Slice" CS fS slN) : FnOk Pg w K mg base CX0 1 f fd ["told"] (spLv CS) := by
  refine F.ok scLv (fun vs H Q E h => ?_) (fun cdv A outer s H vs Q E hr h => ⟨_, pss_one (ps_ret (pe_and
    (pe_cmpR (op_eqD hr.units) (pe_ix ix_tup (pe_fld (pv 0) rfl) pe_int (fun _ _ => rfl)) (pe_ix ix_tup (pe_fld (pv 0) rfl) pe_int (fun _ _ => rfl)) (nomark _))
    (pe_one (pe_cmpR (op_eqD hr.units) (pe_ix ix_tup (pe_fld (pv 0) rfl) pe_int (fun _ _ => rfl)) (pe_ix ix_tup (pe_fld (pv 0) rfl) pe_int (fun _ _ => rfl)) (nomark _))))), ?_⟩)
  · obtain ⟨t, a, b, c, e, rfl, _⟩ := h
    rfl
  · obtain ⟨t, a, b, c, e, rfl, ⟨dx, xa, xb, xc, xe, ht, ⟨a1, a2, ha, ha1, ha2⟩, ⟨b1, b2, hb, hb1, hb2⟩, ⟨c1, c2, hc, hc1, hc2⟩, ⟨e1, e2, he, he1, he2⟩⟩, q⟩ := h
    refine ⟨_, rfl, t, CS, dx, _, _, rfl, ht, T.cl, T.n _ (by simp [slN]), sl_lb, xa, _, 1, _, rfl, rfl, SqT.of ha, rfl, _, rfl, t, CS, dx, _, _, rfl, ht, T.cl, T.n _ (by simp [slN]), sl_rb, xb, _, 1, _, rfl, rfl, SqT.of hb, rfl, frD a.y, frD b.y, ha2.dp, hb2.dp, frSh _, frSh _, _, rfl, ?_⟩
    rw [eqv_fr]
    by_cases k : a.y = b.y
    · rw [decide_eq_true k] at q ⊢
      refine ifT rfl ?_
      refine ⟨_, rfl, t, CS, dx, _, _, rfl, ht, T.cl, T.n _ (by simp [slN]), sl_la, xe, _, 1, _, rfl, rfl, SqT.of he, rfl, _, rfl, t, CS, dx, _, _, rfl, ht, T.cl, T.n _ (by simp [slN]), sl_ra, xc, _, 1, _, rfl, rfl, SqT.of hc, rfl, frD e.y, frD c.y, he2.dp, hc2.dp, frSh _, frSh _, ?_⟩
      rw [eqv_fr]
      exact q
    · rw [decide_eq_false k] at q ⊢
      exact ifF rfl q
/-! is_in_order -/
def spIo (CS : Addr) : Sp := fun vs H Q _ => ∃ (t : Addr) (a b c e : Pt), vs = [.ref t] ∧ SliceAt CS H t a b c e ∧ (SzP 300 a ∧ SzP 300 b ∧ SzP 300 c ∧ SzP 300 e) ∧ Q (.bl (Kzq1.lt a.y e.y && (!Kzq1.lt b.x a.x && !Kzq1.lt c.x e.x))) H
theorem scIo : FnScope ["told"] ["told"] (defScope sIo) := ⟨rfl, rfl, rfl, by decide +kernel, rfl, by decide +kernel, by decide +kernel⟩
theorem ok_io {f fL : Addr} {fd fdL : FuncData} (F : Fun K "is_in_order" "is_in_order" sIo f fd) (T : ClsTxt K mg "Slice" CS fS slN)
    (GL : FnOk Pg w K mg base CX0 1 fL fdL ["a", "b"] spLess) (mL : mg "is_less" = some (.ref fL)) (kL : PySem.W.keepIn K (.ref fL) = true) (bL : Binds K fdL ["a", "b"] []) : FnOk Pg w K mg base CX0 2 f fd ["told"] (spIo CS) := by
  refine F.ok scIo (fun vs H Q E h => ?_) (fun cdv A outer s H vs Q E hr h => ⟨_, pss_one (ps_ret (pe_and
    (pe_call GL hr rfl mL kL bL .nil pass0 (pa_cons (pe_ix ix_tup (pe_fld (pv 0) rfl) pe_int (fun _ _ => rfl)) (pa_cons (pe_ix ix_tup (pe_fld (pv 0) rfl) pe_int (fun _ _ => rfl)) pa_nil)))
    (pe_and (pe_not (pe_call GL hr rfl mL kL bL .nil pass0 (pa_cons (pe_ix ix_tup (pe_fld (pv 0) rfl) pe_int (fun _ _ => rfl)) (pa_cons (pe_ix ix_tup (pe_fld (pv 0) rfl) pe_int (fun _ _ => rfl)) pa_nil))))
    (pe_one (pe_not (pe_call GL hr rfl mL kL bL .nil pass0 (pa_cons (pe_ix ix_tup (pe_fld (pv 0) rfl) pe_int (fun _ _ => rfl)) (pa_cons (pe_ix ix_tup (pe_fld (pv 0) rfl) pe_int (fun _ _ => rfl)) pa_nil)))))))), ?_⟩)
  · obtain ⟨t, a, b, c, e, rfl, _⟩ := h
    rfl
  · obtain ⟨t, a, b, c, e, rfl, ⟨dx, xa, xb, xc, xe, ht, ⟨a1, a2, ha, ha1, ha2⟩, ⟨b1, b2, hb, hb1, hb2⟩, ⟨c1, c2, hc, hc1, hc2⟩, ⟨e1, e2, he, he1, he2⟩⟩, ⟨za, zb, zc, ze⟩, q⟩ := h
    refine ⟨_, rfl, t, CS, dx, _, _, rfl, ht, T.cl, T.n _ (by simp [slN]), sl_lb, xa, _, 1, _, rfl, rfl, SqT.of ha, rfl, _, rfl, t, CS, dx, _, _, rfl, ht, T.cl, T.n _ (by simp [slN]), sl_la, xe, _, 1, _, rfl, rfl, SqT.of he, rfl, a2, e2, a.y, e.y, 300, rfl, ha2, he2, za.2, ze.2, by omega, _, rfl, ?_⟩
    cases k1 : Kzq1.lt a.y e.y with
    | false =>
      rw [k1] at q
      exact ifF rfl q
    | true =>
      rw [k1] at q
      refine ifT rfl ?_
      refine ⟨_, rfl, t, CS, dx, _, _, rfl, ht, T.cl, T.n _ (by simp [slN]), sl_rb, xb, _, 0, _, rfl, rfl, SqT.of hb, rfl, _, rfl, t, CS, dx, _, _, rfl, ht, T.cl, T.n _ (by simp [slN]), sl_lb, xa, _, 0, _, rfl, rfl, SqT.of ha, rfl, b1, a1, b.x, a.x, 300, rfl, hb1, ha1, zb.1, za.1, by omega, _, rfl, _, rfl, ?_⟩
      cases k2 : Kzq1.lt b.x a.x with
      | true =>
        rw [k2] at q
        exact ifF rfl q
      | false =>
        rw [k2] at q
        refine ifT rfl ?_
        exact ⟨_, rfl, t, CS, dx, _, _, rfl, ht, T.cl, T.n _ (by simp [slN]), sl_ra, xc, _, 0, _, rfl, rfl, SqT.of hc, rfl, _, rfl, t, CS, dx, _, _, rfl, ht, T.cl, T.n _ (by simp [slN]), sl_la, xe, _, 0, _, rfl, rfl, SqT.of he, rfl, c1, e1, c.x, e.x, 300, rfl, hc1, he1, zc.1, ze.1, by omega, _, rfl, q⟩
/-! is_without_size -/
def spWs (CS : Addr) : Sp := fun vs H Q _ => ∃ (t : Addr) (a b c e : Pt), vs = [.ref t] ∧ SliceAt CS H t a b c e ∧ Q (.bl (decide (a = b) && decide (e = c))) H
theorem scWs : FnScope ["told"] ["told"] (defScope sWs) := ⟨rfl, rfl, rfl, by decide +kernel, rfl, by decide +kernel, by decide +kernel⟩
theorem ok_ws {f : Addr} {fd : FuncData} (F : Fun K "is_without_size" "is_without_size" sWs f fd) (T : ClsTxt K mg "Slice" CS fS slN) : FnOk Pg w K mg base CX0 1 f fd ["told"] (spWs CS) := by
  refine F.ok scWs (fun vs H Q E h => ?_) (fun cdv A outer s H vs Q E hr h => ⟨_, pss_one (ps_ret (pe_and
    (pe_cmpR (op_eqD hr.units) (pe_fld (pv 0) rfl) (pe_fld (pv 0) rfl) (nomark _))
    (pe_one (pe_cmpR (op_eqD hr.units) (pe_fld (pv 0) rfl) (pe_fld (pv 0) rfl) (nomark _))))), ?_⟩)
  · obtain ⟨t, a, b, c, e, rfl, _⟩ := h
    rfl
  · obtain ⟨t, a, b, c, e, rfl, ⟨dx, xa, xb, xc, xe, ht, ha, hb, hc, he⟩, q⟩ := h
    refine ⟨_, rfl, t, CS, dx, _, _, rfl, ht, T.cl, T.n _ (by simp [slN]), sl_lb, _, rfl, t, CS, dx, _, _, rfl, ht, T.cl, T.n _ (by simp [slN]), sl_rb, ptD a, ptD b, ha.dp, hb.dp, ptSh _, ptSh _, _, rfl, ?_⟩
    rw [eqv_pt]
    by_cases k : a = b
    · rw [decide_eq_true k] at q ⊢
      refine ifT rfl ?_
      refine ⟨_, rfl, t, CS, dx, _, _, rfl, ht, T.cl, T.n _ (by simp [slN]), sl_la, _, rfl, t, CS, dx, _, _, rfl, ht, T.cl, T.n _ (by simp [slN]), sl_ra, ptD e, ptD c, he.dp, hc.dp, ptSh _, ptSh _, ?_⟩
      rw [eqv_pt]
      exact q
    · rw [decide_eq_false k] at q ⊢
      exact ifF rfl q
/-! read_slice -/
def spRs (K : PySem.W.Frag) (CF CS : Addr) : Sp := fun vs H Q E => ∃ (x : Addr) (ns : List Int), vs = [.ref x] ∧ SqL K H x (ns.map V.int) ∧ (∀ z ∈ ns, z.natAbs < 2 ^ 300) ∧ (rdSl ns = none → ∀ H', Same H H' → E (.ref CF) none H') ∧
  ∀ a b c e, rdSl ns = some (a, b, c, e) → ∀ H' q, Same H H' → SliceAt CS H' q a b c e → Q (.ref q) H'
theorem scRs : FnScope ["numbers", "points", "told"] ["numbers"] (defScope sRs) := ⟨rfl, rfl, rfl, by decide +kernel, rfl, by decide +kernel, by decide +kernel⟩
theorem ok_rs {f fR fL fO fW : Addr} {fd fdR fdL fdO fdW fdI : FuncData} (F : Fun K "read_slice" "read_slice" sRs f fd) (TE : ErrTxt K mg CF) (T : ClsTxt K mg "Slice" CS fS slN) (mLen : mg "len" = none) {tPL : Tok} (mPL : mg "POINT_LENGTH" = some (.int 4 tPL))
    (GR : FnOk Pg w K mg base (L2.CX Pg w) 4 fR fdR ["numbers"] (spRps K CF)) (mR : mg "read_points" = some (.ref fR)) (kR : PySem.W.keepIn K (.ref fR) = true) (bR : Binds K fdR ["numbers"] [])
    (GL : FnOk Pg w K mg base CX0 1 fL fdL ["told"] (spLv CS)) (mL : mg "is_level" = some (.ref fL)) (kL : PySem.W.keepIn K (.ref fL) = true) (bL : Binds K fdL ["told"] [])
    (GO : FnOk Pg w K mg base CX0 2 fO fdO ["told"] (spIo CS)) (mO : mg "is_in_order" = some (.ref fO)) (kO : PySem.W.keepIn K (.ref fO) = true) (bO : Binds K fdO ["told"] [])
    (GW : FnOk Pg w K mg base CX0 1 fW fdW ["told"] (spWs CS)) (mW : mg "is_without_size" = some (.ref fW)) (kW : PySem.W.keepIn K (.ref fW) = true) (bW : Binds K fdW ["told"] [])
    (GI : FnOk Pg w K mg base CX0 1 fS fdI ["self", "left_below", "right_below", "right_above", "left_above"] (spSlI CS)) (bI : Binds K fdI ["self", "left_below", "right_below", "right_above", "left_above"] []) :
    FnOk Pg w K mg base (L2.CX Pg w) 5 f fd ["numbers"] (spRs K CF CS) := by
  refine F.okX scRs (fun vs H Q E h => ?_) (fun cdv A outer s H vs Q E hr h => ⟨_,
    pss_cons (ps_if (pt_cmpR op_ne (pe_callB call_len_seq (by rfl) mLen PySem.boot_len (pa_cons (pv 0) pa_nil)) (pe_op op_mulW pe_int (pe_glob (v := V.int 4) rfl mPL ⟨_, rfl⟩)) (nomark _))
      (pss_one (ps_raise rfl (takes_of rfl rfl rfl rfl) (pmk_own PySem.F.excBase_ValueError TE.x TE.g TE.k (raises_own TE.b TE.t) (by exact rfl)))) pss_nil)
    (pss_cons (ps_set (i := 1) scRs.nd rfl (Or.inl rfl) (pe_call GR hr rfl mR kR bR .nil (passes_call (takes_of rfl rfl rfl rfl) (fun _ _ _ _ h => h)) (pa_cons (pv 0) pa_nil)))
    (pss_cons (ps_set (i := 2) scRs.nd rfl (Or.inl rfl) (pe_make T.m GI (hr.mono (by decide)) rfl T.g bI .nil pass0 (pa_cons (pe_ix ix_list (pv 1) pe_int (fun _ _ => rfl)) (pa_cons (pe_ix ix_list (pv 1) pe_int (fun _ _ => rfl)) (pa_cons (pe_ix ix_list (pv 1) pe_int (fun _ _ => rfl)) (pa_cons (pe_ix ix_list (pv 1) pe_int (fun _ _ => rfl)) pa_nil))))))
    (pss_cons (ps_if (PW.pt (pw_or (pt_not (pt_val (pe_call GL (hr.mono (by decide)) rfl mL kL bL .nil pass0 (pa_cons (pv 2) pa_nil)))) (pw_or (pt_not (pt_val (pe_call GO (hr.mono (by decide)) rfl mO kO bO .nil pass0 (pa_cons (pv 2) pa_nil))))
        (pw_or1 (pt_val (pe_call GW (hr.mono (by decide)) rfl mW kW bW .nil pass0 (pa_cons (pv 2) pa_nil)))))))
      (pss_one (ps_raise rfl (takes_of rfl rfl rfl rfl) (pmk_own PySem.F.excBase_ValueError TE.x TE.g TE.k (raises_own TE.b TE.t) (by exact rfl)))) pss_nil)
    (pss_one (ps_ret (pv 2)))))), ?_⟩)
  · obtain ⟨x, ns, rfl, _⟩ := h
    rfl
  · obtain ⟨x, ns, rfl, hS, hz, kE, kQ⟩ := h
    refine ⟨_, rfl, x, _, rfl, .inl hS, _, _, rfl, rfl, (by show CMulW 4 4; unfold CMulW; decide +kernel), rfl, _, rfl, ?_⟩
    by_cases h16 : ns.length = 16
    · refine ifF (by rw [List.length_map, h16]; rfl) ?_
      refine ⟨_, rfl, x, ns, 4, rfl, hS, h16, by omega, fun hn H' s1 => kE (by unfold rdSl; rw [hn]) H' s1, fun ps hps H1 g as s1 n1 h1 P1 => ?_⟩
      have lp := rp_len hps
      have hl : ps.length = 4 := by omega
      match ps, hl with
      | [a, b, c, e], _ =>
        have zz := rp_sz hps hz
        have ha := P1.len
        match as, ha with
        | [xa, xb, xc, xe], _ =>
          obtain ⟨pa, pb, pc, pe, _⟩ := P1
          refine ⟨_, rfl, g, _, 0, _, rfl, rfl, SqL.of h1, rfl, _, rfl, g, _, 1, _, rfl, rfl, SqL.of h1, rfl, _, rfl, g, _, 2, _, rfl, rfl, SqL.of h1, rfl, _, rfl, g, _, 3, _, rfl, rfl, SqL.of h1, rfl, fun t dx nt nd ne => ?_⟩
          refine ⟨t, dx, _, _, _, _, rfl, upd_same, fun H2 h2 k2 => ⟨rfl, ?_⟩⟩
          have s2 : Same H1 H2 := Same.made nt nd k2
          have sl : SliceAt CS H2 t a b c e := ⟨dx, xa, xb, xc, xe, h2, pa.mono s2, pb.mono s2, pc.mono s2, pe.mono s2⟩
          have e1 : rdSl ns = if good a b c e = true then some (a, b, c, e) else none := by unfold rdSl; rw [hps]
          refine ⟨_, rfl, t, a, b, c, e, rfl, sl, _, rfl, ?_⟩
          have bad : good a b c e = false → E (.ref CF) none H2 := fun hb => kE (by rw [e1, hb]; rfl) H2 (s1.trans s2)
          unfold good at bad e1
          cases k1 : (decide (a.y = b.y) && decide (e.y = c.y)) with
          | false =>
            rw [k1] at bad
            exact ifT rfl (ifT rfl (bad rfl))
          | true =>
            rw [k1] at bad e1
            refine ifF rfl ?_
            refine ⟨_, rfl, t, a, b, c, e, rfl, sl, ⟨zz a (by simp), zz b (by simp), zz c (by simp), zz e (by simp)⟩, _, rfl, ?_⟩
            cases k2 : (Kzq1.lt a.y e.y && (!Kzq1.lt b.x a.x && !Kzq1.lt c.x e.x)) with
            | false =>
              rw [k2] at bad
              exact ifT rfl (ifT rfl (bad rfl))
            | true =>
              rw [k2] at bad e1
              refine ifF rfl ?_
              refine ⟨_, rfl, t, a, b, c, e, rfl, sl, _, rfl, ?_⟩
              cases k3 : (decide (a = b) && decide (e = c)) with
              | true =>
                rw [k3] at bad
                exact ifT rfl (bad rfl)
              | false =>
                rw [k3] at e1
                refine ifF rfl ?_
                exact ⟨_, rfl, kQ a b c e e1 H2 t (s1.trans s2) sl⟩
    · refine ifT ?_ (kE ?_ H (Same.refl H))
      · rw [List.length_map]
        have : ¬ (V.int (ns.length : Int) = V.int (4 * 4)) := fun z => by injection z with z; omega
        rw [decide_eq_false this]; rfl
      · unfold rdSl
        cases hr' : Kzq1.readPoints ns with
        | none => rfl
        | some ps =>
          have l := rp_len hr'
          match ps, l with
          | [], _ => rfl
          | [_], _ => rfl
          | [_, _], _ => rfl
          | [_, _, _], _ => rfl
          | _ :: _ :: _ :: _ :: _ :: _, _ => rfl
          | [_, _, _, _], l => exact absurd (by simpa using l) h16
end
end ScA
namespace ScA
open PySem PySem.Spec PyProof.Rows L2
open Sc
section
variable {Pg : Program} {w : World} {K : PySem.W.Frag} {mg : Str → Option Value} {base : Heap} {CF CP CS fP fS : Addr}
theorem begun_len (l : List Pt) : (Kzq1.begunWith l).length = l.length := by
  rw [begun_fst, List.length_append, List.length_drop, List.length_take]; omega
theorem piece_len (l : List Pt) : (pieceOf l).length ≤ l.length := by
  unfold pieceOf
  rw [begun_len, ← unl_all]
  exact unl_len l _
def spHv (K : PySem.W.Frag) : Sp := fun vs H Q _ => ∃ (x : Addr) (ns : List Int), vs = [.ref x] ∧ SqL K H x (ns.map V.int) ∧ (∀ z ∈ ns, z.natAbs < 2 ^ 256) ∧
  ∀ (H' : Hp) (p : Addr), H' p = some (.lst ((PyKzq2.halved ns).map V.int)) → Q (.ref p) H'
theorem scHv : FnScope ["s", "told", "parts"] ["s"] (defScope sHv) := ⟨rfl, rfl, rfl, by decide +kernel, rfl, by decide +kernel, by decide +kernel⟩
theorem ok_hv {f fR fH fC : Addr} {fd fdR fdH fdC : FuncData} (F : Fun K "halved" "halved" sHv f fd) (TE : ErrTxt K mg CF) (mLen : mg "len" = none)
    (GR : FnOk Pg w K mg base (L2.CX Pg w) 5 fR fdR ["numbers"] (spRs K CF CS)) (mR : mg "read_slice" = some (.ref fR)) (kR : PySem.W.keepIn K (.ref fR) = true) (bR : Binds K fdR ["numbers"] [])
    (GH : FnOk Pg w K mg base CX0 6 fH fdH ["told"] (spSh CS CP)) (mH : mg "slice_halved" = some (.ref fH)) (kH : PySem.W.keepIn K (.ref fH) = true) (bH : Binds K fdH ["told"] [])
    (GC : FnOk Pg w K mg base CX0 2 fC fdC ["parts"] (spCn CP)) (mC : mg "cutting_numbers" = some (.ref fC)) (kC : PySem.W.keepIn K (.ref fC) = true) (bC : Binds K fdC ["parts"] []) :
    FnOk Pg w K mg base CX0 8 f fd ["s"] (spHv K) := by
  refine F.ok scHv (fun vs H Q E h => ?_) (fun cdv A outer s H vs Q E hr h => ⟨_,
    pss_cons (ps_try_only (tb := fun W => tAsg (tCallS (spRs K CF CS) (WE W) (tCons (tVar 0) tNil)) (gName 1)) (Wout := fun _ _ _ _ => False) rfl rfl ⟨rfl, by decide, Or.inl TE.g⟩ takes0
      (fun W pn xe tk _ => pss_one (ps_set (i := 1) scHv.nd rfl (Or.inl rfl) (by exact (pe_callS GR (hr.mono (by decide)) rfl mR kR bR (fun σ => passAt tk σ) (by exact (pa_cons (pv 0) pa_nil))))))
      (fun _ _ _ _ _ _ _ => pss_one (ps_ret (pe_lst (pa_cons (pe_un un_neg pe_int) pa_nil)))))
    (pss_cons (ps_set (i := 2) scHv.nd rfl (Or.inl rfl) (pe_call GH (hr.mono (by decide)) rfl mH kH bH .nil pass0 (pa_cons (pv 1) pa_nil)))
    (pss_one (ps_ret (pe_op op_cat (pe_lst (pa_cons (pe_callB call_len_seq (by rfl) mLen PySem.boot_len (pa_cons (pv 2) pa_nil)) pa_nil)) (pe_call GC (hr.mono (by decide)) rfl mC kC bC .nil pass0 (pa_cons (pv 2) pa_nil)))))), ?_⟩)
  · obtain ⟨x, ns, rfl, _⟩ := h
    rfl
  · obtain ⟨x, ns, rfl, hS, hz, k⟩ := h
    have e0 := halved_eq ns
    refine ⟨_, rfl, x, ns, rfl, hS, fun z hz' => Nat.lt_of_lt_of_le (hz z hz') (Nat.pow_le_pow_right (by omega) (by omega)), fun hn H' s1 => ?_, fun a b c e he H1 t s1 sl => ?_⟩
    · refine ⟨true, TE.e, fun _ a0 _ => ?_, fun z => Bool.noConfusion z⟩
      rw [hn] at e0
      refine ⟨_, rfl, (by show 1 ≤ sizeLine; decide), fun p np => ?_⟩
      refine k _ p ?_
      rw [e0]; exact upd_same
    · rw [he] at e0
      have hr' : Kzq1.readPoints ns = some [a, b, c, e] := by
        unfold rdSl at he
        split at he
        · rename_i a' b' c' e' hh
          split at he
          · cases he; exact hh
          · cases he
        · cases he
      obtain ⟨_, ok⟩ := rp_ok hr'
      have zz := rp_sz hr' (k := 300) fun z hz' => Nat.lt_of_lt_of_le (hz z hz') (Nat.pow_le_pow_right (by omega) (by omega))
      refine ⟨_, rfl, t, a, b, c, e, rfl, sl, ⟨ok a (by simp), ok b (by simp), ok c (by simp), ok e (by simp)⟩, ⟨zz a (by simp), zz b (by simp), zz c (by simp), zz e (by simp)⟩, fun H2 g as s2 n2 h2 P2 => ?_⟩
      have la : as.length = 2 := P2.len
      refine ⟨_, rfl, g, _, rfl, .inl (SqL.of h2), (by show 1 ≤ sizeLine; decide), fun g3 n3 => ?_⟩
      have s3 := Same.new (o := .lst [V.int ((as.map V.ref).length : Int)]) n3
      refine ⟨_, rfl, g, as, halves a b c e, rfl, s3 _ _ h2, PartsAt.mono s3 P2, (by show 2 ≤ 1000; decide), ?_, fun H4 g4 s4 n4 h4 => ?_⟩
      · intro p hp
        have hp : p = ⟨pieceOf [a, b, mid b c, mid a e], Kzq2.stay⟩ ∨ p = ⟨pieceOf [mid a e, mid b c, c, e], ⟨true, Kzq1.plus b c⟩⟩ := by
          unfold halves at hp
          simpa using hp
        rcases hp with rfl | rfl
        · exact Nat.le_trans (piece_len _) (by simp)
        · exact Nat.le_trans (piece_len _) (by simp)
      · refine ⟨g3, g4, _, _, rfl, rfl, s4 _ _ upd_same, h4, ?_, fun g5 n5 => ?_⟩
        · rw [List.length_map, szl]
          have := cut_len (halves a b c e) (n := 4) (fun p hp => by
            have hp : p = ⟨pieceOf [a, b, mid b c, mid a e], Kzq2.stay⟩ ∨ p = ⟨pieceOf [mid a e, mid b c, c, e], ⟨true, Kzq1.plus b c⟩⟩ := by
              unfold halves at hp
              simpa using hp
            rcases hp with rfl | rfl
            · exact piece_len _
            · exact piece_len _)
          have l2 : (halves a b c e).length = 2 := rfl
          rw [l2] at this
          simp only [List.length_cons, List.length_nil, List.length_map]
          omega
        · refine k _ g5 ?_
          rw [upd_same, e0, List.length_map, la]
          rfl
end
end ScA
namespace ScA
open PySem PySem.Spec PyProof.Rows L2
open Sc
open PySem.W (Codec)
/-- what the codec says of the numbers that are handed in -/
theorem int_bd {l : List Int} {n m : Nat} (h : ((Codec.inLen n m l && l.all (Codec.inInt (Int.negSucc 115792089237316195423570985008687907853269984665640564039457584007913129639934) (Int.ofNat 115792089237316195423570985008687907853269984665640564039457584007913129639935))) && true) = true) : ∀ z ∈ l, z.natAbs < 2 ^ 256 := by
  intro z hz
  rw [Bool.and_true, Bool.and_eq_true] at h
  have k := List.all_eq_true.mp h.2 z hz
  unfold Codec.inInt at k
  rw [Bool.and_eq_true, decide_eq_true_eq, decide_eq_true_eq] at k
  have e : (2 : Nat) ^ 256 = 115792089237316195423570985008687907853269984665640564039457584007913129639936 := by decide +kernel
  have k1 : -(115792089237316195423570985008687907853269984665640564039457584007913129639935 : Int) ≤ z := k.1
  have k2 : z ≤ (115792089237316195423570985008687907853269984665640564039457584007913129639935 : Int) := k.2
  rw [e]
  omega
/-! the end -/
theorem exm_own {K : PySem.W.Frag} {S : Addr} (h1 : PySem.W.subIn K (.ref S) (.type "BaseException") = some true) (h2 : PySem.W.isClsIn K S = true) (h3 : PySem.W.typeIn K (.ref S) = some (.type "type"))
    (h4 : PySem.W.subIn K (.ref S) (.ref S) = some true) : PySem.W.exmOne K (.ref S) (.ref S) = some true := by
  have u1 : (PySem.W.subIn K (.ref S) (.type "BaseException") == some true) = true := by rw [h1] <;> rfl
  have u2 : ((PySem.W.clsIn K S).isSome && PySem.W.typeIn K (.ref S) == some (.type "type")) = true := by
    have h2x : (PySem.W.clsIn K S).isSome = true := h2
    rw [h2x, h3] <;> rfl
  show (if (PySem.W.subIn K (.ref S) (.type "BaseException") == some true) = true then (if ((PySem.W.clsIn K S).isSome && PySem.W.typeIn K (.ref S) == some (.type "type")) = true then PySem.W.subIn K (.ref S) (.ref S) else none)
    else none) = some true
  rw [if_pos u1, if_pos u2]; exact h4
theorem all_mk {Pg : Program} {w : World} {K : PySem.W.Frag} {h : Heap} {mg : Str → Option Value} {fa f_cm f_isr f_rat f_plus f_half f_less f_rp f_rps f_pn f_or f_ps f_mid f_bef f_cn f_pc f_sh f_rs f_lv f_io f_ws f_hv C_ptI f_ptI C_slI f_slI C_err : Addr} (X : K.In h) (G : h.Ns mainGlobals mg) (hfa : mg "halved" = some (.ref fa))
    {od_cm an_cm od_isr an_isr od_rat an_rat od_plus an_plus od_half an_half od_less an_less od_rp an_rp od_rps an_rps od_pn an_pn od_or an_or od_ps an_ps od_mid an_mid od_bef an_bef od_cn an_cn od_pc an_pc od_sh an_sh od_rs an_rs od_lv an_lv od_io an_io od_ws an_ws od_hv an_hv od_ptI an_ptI od_slI an_slI : Option Addr} {sl_cm sl_isr sl_rat sl_plus sl_half sl_less sl_rp sl_rps sl_pn sl_or sl_ps sl_mid sl_bef sl_cn sl_pc sl_sh sl_rs sl_lv sl_io sl_ws sl_hv sl_ptI sl_slI : Array (Option Value)} {oc_cm kV_cm dc_cm pm_cm cd_cm ct_cm oc_isr kV_isr dc_isr pm_isr cd_isr ct_isr oc_rat kV_rat dc_rat pm_rat cd_rat ct_rat oc_plus kV_plus dc_plus pm_plus cd_plus ct_plus oc_half kV_half dc_half pm_half cd_half ct_half oc_less kV_less dc_less pm_less cd_less ct_less oc_rp kV_rp dc_rp pm_rp cd_rp ct_rp oc_rps kV_rps dc_rps pm_rps cd_rps ct_rps oc_pn kV_pn dc_pn pm_pn cd_pn ct_pn oc_or kV_or dc_or pm_or cd_or ct_or oc_ps kV_ps dc_ps pm_ps cd_ps ct_ps oc_mid kV_mid dc_mid pm_mid cd_mid ct_mid oc_bef kV_bef dc_bef pm_bef cd_bef ct_bef oc_cn kV_cn dc_cn pm_cn cd_cn ct_cn oc_pc kV_pc dc_pc pm_pc cd_pc ct_pc oc_sh kV_sh dc_sh pm_sh cd_sh ct_sh oc_rs kV_rs dc_rs pm_rs cd_rs ct_rs oc_lv kV_lv dc_lv pm_lv cd_lv ct_lv oc_io kV_io dc_io pm_io cd_io ct_io oc_ws kV_ws dc_ws pm_ws cd_ws ct_ws oc_hv kV_hv dc_hv pm_hv cd_hv ct_hv oc_ptI kV_ptI dc_ptI pm_ptI cd_ptI ct_ptI oc_slI kV_slI dc_slI pm_slI cd_slI ct_slI : Value} {t_PL : Tok}
    (a_cm : PySem.W.nsIn K mainGlobals "common_measure" = some (some (.ref f_cm)))
    (l_cm : K.lookup f_cm = some ⟨oc_cm, od_cm, .func (PySem.W.fnOf "common_measure" "common_measure" (defArgs sCm) (defBody sCm) (defScope sCm) .none kV_cm dc_cm pm_cm an_cm cd_cm ct_cm), sl_cm⟩)
    (c_cm : PySem.W.codeIn K cd_cm "common_measure" = true)
    (k_cm : PySem.W.keepIn K (.ref f_cm) = true)
    (a_isr : PySem.W.nsIn K mainGlobals "is_ratio" = some (some (.ref f_isr)))
    (l_isr : K.lookup f_isr = some ⟨oc_isr, od_isr, .func (PySem.W.fnOf "is_ratio" "is_ratio" (defArgs sIsr) (defBody sIsr) (defScope sIsr) .none kV_isr dc_isr pm_isr an_isr cd_isr ct_isr), sl_isr⟩)
    (c_isr : PySem.W.codeIn K cd_isr "is_ratio" = true)
    (k_isr : PySem.W.keepIn K (.ref f_isr) = true)
    (a_rat : PySem.W.nsIn K mainGlobals "ratio" = some (some (.ref f_rat)))
    (l_rat : K.lookup f_rat = some ⟨oc_rat, od_rat, .func (PySem.W.fnOf "ratio" "ratio" (defArgs sRat) (defBody sRat) (defScope sRat) .none kV_rat dc_rat pm_rat an_rat cd_rat ct_rat), sl_rat⟩)
    (c_rat : PySem.W.codeIn K cd_rat "ratio" = true)
    (k_rat : PySem.W.keepIn K (.ref f_rat) = true)
    (a_plus : PySem.W.nsIn K mainGlobals "plus" = some (some (.ref f_plus)))
    (l_plus : K.lookup f_plus = some ⟨oc_plus, od_plus, .func (PySem.W.fnOf "plus" "plus" (defArgs sPlus) (defBody sPlus) (defScope sPlus) .none kV_plus dc_plus pm_plus an_plus cd_plus ct_plus), sl_plus⟩)
    (c_plus : PySem.W.codeIn K cd_plus "plus" = true)
    (k_plus : PySem.W.keepIn K (.ref f_plus) = true)
    (a_half : PySem.W.nsIn K mainGlobals "half" = some (some (.ref f_half)))
    (l_half : K.lookup f_half = some ⟨oc_half, od_half, .func (PySem.W.fnOf "half" "half" (defArgs sHalf) (defBody sHalf) (defScope sHalf) .none kV_half dc_half pm_half an_half cd_half ct_half), sl_half⟩)
    (c_half : PySem.W.codeIn K cd_half "half" = true)
    (k_half : PySem.W.keepIn K (.ref f_half) = true)
    (a_less : PySem.W.nsIn K mainGlobals "is_less" = some (some (.ref f_less)))
    (l_less : K.lookup f_less = some ⟨oc_less, od_less, .func (PySem.W.fnOf "is_less" "is_less" (defArgs sLess) (defBody sLess) (defScope sLess) .none kV_less dc_less pm_less an_less cd_less ct_less), sl_less⟩)
    (c_less : PySem.W.codeIn K cd_less "is_less" = true)
    (k_less : PySem.W.keepIn K (.ref f_less) = true)
    (a_rp : PySem.W.nsIn K mainGlobals "read_point" = some (some (.ref f_rp)))
    (l_rp : K.lookup f_rp = some ⟨oc_rp, od_rp, .func (PySem.W.fnOf "read_point" "read_point" (defArgs sRp) (defBody sRp) (defScope sRp) .none kV_rp dc_rp pm_rp an_rp cd_rp ct_rp), sl_rp⟩)
    (c_rp : PySem.W.codeIn K cd_rp "read_point" = true)
    (k_rp : PySem.W.keepIn K (.ref f_rp) = true)
    (a_rps : PySem.W.nsIn K mainGlobals "read_points" = some (some (.ref f_rps)))
    (l_rps : K.lookup f_rps = some ⟨oc_rps, od_rps, .func (PySem.W.fnOf "read_points" "read_points" (defArgs sRps) (defBody sRps) (defScope sRps) .none kV_rps dc_rps pm_rps an_rps cd_rps ct_rps), sl_rps⟩)
    (c_rps : PySem.W.codeIn K cd_rps "read_points" = true)
    (k_rps : PySem.W.keepIn K (.ref f_rps) = true)
    (a_pn : PySem.W.nsIn K mainGlobals "point_numbers" = some (some (.ref f_pn)))
    (l_pn : K.lookup f_pn = some ⟨oc_pn, od_pn, .func (PySem.W.fnOf "point_numbers" "point_numbers" (defArgs sPn) (defBody sPn) (defScope sPn) .none kV_pn dc_pn pm_pn an_pn cd_pn ct_pn), sl_pn⟩)
    (c_pn : PySem.W.codeIn K cd_pn "point_numbers" = true)
    (k_pn : PySem.W.keepIn K (.ref f_pn) = true)
    (a_or : PySem.W.nsIn K mainGlobals "origin" = some (some (.ref f_or)))
    (l_or : K.lookup f_or = some ⟨oc_or, od_or, .func (PySem.W.fnOf "origin" "origin" (defArgs sOr) (defBody sOr) (defScope sOr) .none kV_or dc_or pm_or an_or cd_or ct_or), sl_or⟩)
    (c_or : PySem.W.codeIn K cd_or "origin" = true)
    (k_or : PySem.W.keepIn K (.ref f_or) = true)
    (a_ps : PySem.W.nsIn K mainGlobals "point_sum" = some (some (.ref f_ps)))
    (l_ps : K.lookup f_ps = some ⟨oc_ps, od_ps, .func (PySem.W.fnOf "point_sum" "point_sum" (defArgs sPs) (defBody sPs) (defScope sPs) .none kV_ps dc_ps pm_ps an_ps cd_ps ct_ps), sl_ps⟩)
    (c_ps : PySem.W.codeIn K cd_ps "point_sum" = true)
    (k_ps : PySem.W.keepIn K (.ref f_ps) = true)
    (a_mid : PySem.W.nsIn K mainGlobals "middle" = some (some (.ref f_mid)))
    (l_mid : K.lookup f_mid = some ⟨oc_mid, od_mid, .func (PySem.W.fnOf "middle" "middle" (defArgs sMid) (defBody sMid) (defScope sMid) .none kV_mid dc_mid pm_mid an_mid cd_mid ct_mid), sl_mid⟩)
    (c_mid : PySem.W.codeIn K cd_mid "middle" = true)
    (k_mid : PySem.W.keepIn K (.ref f_mid) = true)
    (a_bef : PySem.W.nsIn K mainGlobals "is_before" = some (some (.ref f_bef)))
    (l_bef : K.lookup f_bef = some ⟨oc_bef, od_bef, .func (PySem.W.fnOf "is_before" "is_before" (defArgs sBef) (defBody sBef) (defScope sBef) .none kV_bef dc_bef pm_bef an_bef cd_bef ct_bef), sl_bef⟩)
    (c_bef : PySem.W.codeIn K cd_bef "is_before" = true)
    (k_bef : PySem.W.keepIn K (.ref f_bef) = true)
    (a_cn : PySem.W.nsIn K mainGlobals "cutting_numbers" = some (some (.ref f_cn)))
    (l_cn : K.lookup f_cn = some ⟨oc_cn, od_cn, .func (PySem.W.fnOf "cutting_numbers" "cutting_numbers" (defArgs sCn) (defBody sCn) (defScope sCn) .none kV_cn dc_cn pm_cn an_cn cd_cn ct_cn), sl_cn⟩)
    (c_cn : PySem.W.codeIn K cd_cn "cutting_numbers" = true)
    (k_cn : PySem.W.keepIn K (.ref f_cn) = true)
    (a_pc : PySem.W.nsIn K mainGlobals "piece_of" = some (some (.ref f_pc)))
    (l_pc : K.lookup f_pc = some ⟨oc_pc, od_pc, .func (PySem.W.fnOf "piece_of" "piece_of" (defArgs sPc) (defBody sPc) (defScope sPc) .none kV_pc dc_pc pm_pc an_pc cd_pc ct_pc), sl_pc⟩)
    (c_pc : PySem.W.codeIn K cd_pc "piece_of" = true)
    (k_pc : PySem.W.keepIn K (.ref f_pc) = true)
    (a_sh : PySem.W.nsIn K mainGlobals "slice_halved" = some (some (.ref f_sh)))
    (l_sh : K.lookup f_sh = some ⟨oc_sh, od_sh, .func (PySem.W.fnOf "slice_halved" "slice_halved" (defArgs sSh) (defBody sSh) (defScope sSh) .none kV_sh dc_sh pm_sh an_sh cd_sh ct_sh), sl_sh⟩)
    (c_sh : PySem.W.codeIn K cd_sh "slice_halved" = true)
    (k_sh : PySem.W.keepIn K (.ref f_sh) = true)
    (a_rs : PySem.W.nsIn K mainGlobals "read_slice" = some (some (.ref f_rs)))
    (l_rs : K.lookup f_rs = some ⟨oc_rs, od_rs, .func (PySem.W.fnOf "read_slice" "read_slice" (defArgs sRs) (defBody sRs) (defScope sRs) .none kV_rs dc_rs pm_rs an_rs cd_rs ct_rs), sl_rs⟩)
    (c_rs : PySem.W.codeIn K cd_rs "read_slice" = true)
    (k_rs : PySem.W.keepIn K (.ref f_rs) = true)
    (a_lv : PySem.W.nsIn K mainGlobals "is_level" = some (some (.ref f_lv)))
    (l_lv : K.lookup f_lv = some ⟨oc_lv, od_lv, .func (PySem.W.fnOf "is_level" "is_level" (defArgs sLv) (defBody sLv) (defScope sLv) .none kV_lv dc_lv pm_lv an_lv cd_lv ct_lv), sl_lv⟩)
    (c_lv : PySem.W.codeIn K cd_lv "is_level" = true)
    (k_lv : PySem.W.keepIn K (.ref f_lv) = true)
    (a_io : PySem.W.nsIn K mainGlobals "is_in_order" = some (some (.ref f_io)))
    (l_io : K.lookup f_io = some ⟨oc_io, od_io, .func (PySem.W.fnOf "is_in_order" "is_in_order" (defArgs sIo) (defBody sIo) (defScope sIo) .none kV_io dc_io pm_io an_io cd_io ct_io), sl_io⟩)
    (c_io : PySem.W.codeIn K cd_io "is_in_order" = true)
    (k_io : PySem.W.keepIn K (.ref f_io) = true)
    (a_ws : PySem.W.nsIn K mainGlobals "is_without_size" = some (some (.ref f_ws)))
    (l_ws : K.lookup f_ws = some ⟨oc_ws, od_ws, .func (PySem.W.fnOf "is_without_size" "is_without_size" (defArgs sWs) (defBody sWs) (defScope sWs) .none kV_ws dc_ws pm_ws an_ws cd_ws ct_ws), sl_ws⟩)
    (c_ws : PySem.W.codeIn K cd_ws "is_without_size" = true)
    (k_ws : PySem.W.keepIn K (.ref f_ws) = true)
    (a_hv : PySem.W.nsIn K mainGlobals "halved" = some (some (.ref f_hv)))
    (l_hv : K.lookup f_hv = some ⟨oc_hv, od_hv, .func (PySem.W.fnOf "halved" "halved" (defArgs sHv) (defBody sHv) (defScope sHv) .none kV_hv dc_hv pm_hv an_hv cd_hv ct_hv), sl_hv⟩)
    (c_hv : PySem.W.codeIn K cd_hv "halved" = true)
    (k_hv : PySem.W.keepIn K (.ref f_hv) = true)
    (aC_ptI : PySem.W.nsIn K mainGlobals "Part" = some (some (.ref C_ptI)))
    (a_ptI : PySem.W.findIn K (.ref C_ptI) "__init__" = some (some (.ref f_ptI)))
    (i_ptI : PySem.W.isFn K (.ref f_ptI) = true)
    (l_ptI : K.lookup f_ptI = some ⟨oc_ptI, od_ptI, .func (PySem.W.fnOf "__init__" "Part.__init__" (defArgs sPtI) (defBody sPtI) (defScope sPtI) .none kV_ptI dc_ptI pm_ptI an_ptI cd_ptI ct_ptI), sl_ptI⟩)
    (c_ptI : PySem.W.codeIn K cd_ptI "Part.__init__" = true)
    (k_ptI : PySem.W.keepIn K (.ref f_ptI) = true)
    (pg_ptI : PySem.W.plainGet K C_ptI Str.empty = true)
    (hd_ptI : PySem.W.hasDictIn K C_ptI = true)
    (po_ptI : PySem.W.plainOver K C_ptI = true)
    (sa_ptI : PySem.W.findIn K (.ref C_ptI) "__setattr__" = some (some (.builtin "object.__setattr__")))
    (mk_ptI : PySem.W.makesIn K C_ptI = true)
    (kc_ptI : PySem.W.keepIn K (.ref C_ptI) = true)
    (n0_ptI : PySem.W.findIn K (.ref C_ptI) "piece" = some none)
    (n1_ptI : PySem.W.findIn K (.ref C_ptI) "turned" = some none)
    (n2_ptI : PySem.W.findIn K (.ref C_ptI) "slid" = some none)
    (aC_slI : PySem.W.nsIn K mainGlobals "Slice" = some (some (.ref C_slI)))
    (a_slI : PySem.W.findIn K (.ref C_slI) "__init__" = some (some (.ref f_slI)))
    (i_slI : PySem.W.isFn K (.ref f_slI) = true)
    (l_slI : K.lookup f_slI = some ⟨oc_slI, od_slI, .func (PySem.W.fnOf "__init__" "Slice.__init__" (defArgs sSlI) (defBody sSlI) (defScope sSlI) .none kV_slI dc_slI pm_slI an_slI cd_slI ct_slI), sl_slI⟩)
    (c_slI : PySem.W.codeIn K cd_slI "Slice.__init__" = true)
    (k_slI : PySem.W.keepIn K (.ref f_slI) = true)
    (pg_slI : PySem.W.plainGet K C_slI Str.empty = true)
    (hd_slI : PySem.W.hasDictIn K C_slI = true)
    (po_slI : PySem.W.plainOver K C_slI = true)
    (sa_slI : PySem.W.findIn K (.ref C_slI) "__setattr__" = some (some (.builtin "object.__setattr__")))
    (mk_slI : PySem.W.makesIn K C_slI = true)
    (kc_slI : PySem.W.keepIn K (.ref C_slI) = true)
    (n0_slI : PySem.W.findIn K (.ref C_slI) "left_below" = some none)
    (n1_slI : PySem.W.findIn K (.ref C_slI) "right_below" = some none)
    (n2_slI : PySem.W.findIn K (.ref C_slI) "right_above" = some none)
    (n3_slI : PySem.W.findIn K (.ref C_slI) "left_above" = some none)
    (aE_err : PySem.W.nsIn K mainGlobals "NotAsTold" = some (some (.ref C_err)))
    (xE_err : PySem.W.excIn K C_err [.type "ValueError", .type "Exception", .type "BaseException", .type "object"] "ValueError.__new__" = true)
    (kE_err : PySem.W.keepIn K (.ref C_err) = true)
    (bE_err : PySem.W.subIn K (.ref C_err) (.type "BaseException") = some true)
    (tE_err : PySem.W.typeIn K (.ref C_err) = some (.type "type"))
    (iE_err : PySem.W.isClsIn K C_err = true)
    (sE_err : PySem.W.subIn K (.ref C_err) (.ref C_err) = some true)
    (aK_PL : PySem.W.nsIn K mainGlobals "POINT_LENGTH" = some (some (.int 4 t_PL)))
    (z_abs : PySem.W.nsIn K mainGlobals "abs" = some none)
    (z_len : PySem.W.nsIn K mainGlobals "len" = some none)
    (z_range : PySem.W.nsIn K mainGlobals "range" = some none)
    : ∃ fd : FuncData, (∀ (s : Shared) (us : List Value), us.length = (["s"] : List Str).length → BindsTo s fd ⟨us, []⟩ ((["s"] : List Str).zip us)) ∧ ∀ base : Heap, K.In base → base.Ns mainGlobals mg → FnOk Pg w K mg base CX0 8 fa fd ["s"] (spHv K) := by
  have e := hfa.symm.trans (PySem.W.mg_of X G a_hv)
  cases e
  have F_cm := fun_mk (st := sCm) l_cm c_cm k_cm
  have m_cm := PySem.W.mg_of X G a_cm
  have b_cm := F_cm.binds (ps := ["a", "b"]) fun _ _ _ _ _ _ us hl => match us, hl with | [_, _], _ => rfl
  have F_isr := fun_mk (st := sIsr) l_isr c_isr k_isr
  have m_isr := PySem.W.mg_of X G a_isr
  have b_isr := F_isr.binds (ps := ["top", "bottom"]) fun _ _ _ _ _ _ us hl => match us, hl with | [_, _], _ => rfl
  have F_rat := fun_mk (st := sRat) l_rat c_rat k_rat
  have m_rat := PySem.W.mg_of X G a_rat
  have b_rat := F_rat.binds (ps := ["top", "bottom"]) fun _ _ _ _ _ _ us hl => match us, hl with | [_, _], _ => rfl
  have F_plus := fun_mk (st := sPlus) l_plus c_plus k_plus
  have m_plus := PySem.W.mg_of X G a_plus
  have b_plus := F_plus.binds (ps := ["a", "b"]) fun _ _ _ _ _ _ us hl => match us, hl with | [_, _], _ => rfl
  have F_half := fun_mk (st := sHalf) l_half c_half k_half
  have m_half := PySem.W.mg_of X G a_half
  have b_half := F_half.binds (ps := ["a"]) fun _ _ _ _ _ _ us hl => match us, hl with | [_], _ => rfl
  have F_less := fun_mk (st := sLess) l_less c_less k_less
  have m_less := PySem.W.mg_of X G a_less
  have b_less := F_less.binds (ps := ["a", "b"]) fun _ _ _ _ _ _ us hl => match us, hl with | [_, _], _ => rfl
  have F_rp := fun_mk (st := sRp) l_rp c_rp k_rp
  have m_rp := PySem.W.mg_of X G a_rp
  have b_rp := F_rp.binds (ps := ["numbers"]) fun _ _ _ _ _ _ us hl => match us, hl with | [_], _ => rfl
  have F_rps := fun_mk (st := sRps) l_rps c_rps k_rps
  have m_rps := PySem.W.mg_of X G a_rps
  have b_rps := F_rps.binds (ps := ["numbers"]) fun _ _ _ _ _ _ us hl => match us, hl with | [_], _ => rfl
  have F_pn := fun_mk (st := sPn) l_pn c_pn k_pn
  have m_pn := PySem.W.mg_of X G a_pn
  have b_pn := F_pn.binds (ps := ["point"]) fun _ _ _ _ _ _ us hl => match us, hl with | [_], _ => rfl
  have F_or := fun_mk (st := sOr) l_or c_or k_or
  have m_or := PySem.W.mg_of X G a_or
  have b_or := F_or.binds (ps := []) fun _ _ _ _ _ _ us hl => match us, hl with | [], _ => rfl
  have F_ps := fun_mk (st := sPs) l_ps c_ps k_ps
  have m_ps := PySem.W.mg_of X G a_ps
  have b_ps := F_ps.binds (ps := ["a", "b"]) fun _ _ _ _ _ _ us hl => match us, hl with | [_, _], _ => rfl
  have F_mid := fun_mk (st := sMid) l_mid c_mid k_mid
  have m_mid := PySem.W.mg_of X G a_mid
  have b_mid := F_mid.binds (ps := ["a", "b"]) fun _ _ _ _ _ _ us hl => match us, hl with | [_, _], _ => rfl
  have F_bef := fun_mk (st := sBef) l_bef c_bef k_bef
  have m_bef := PySem.W.mg_of X G a_bef
  have b_bef := F_bef.binds (ps := ["a", "b"]) fun _ _ _ _ _ _ us hl => match us, hl with | [_, _], _ => rfl
  have F_cn := fun_mk (st := sCn) l_cn c_cn k_cn
  have m_cn := PySem.W.mg_of X G a_cn
  have b_cn := F_cn.binds (ps := ["parts"]) fun _ _ _ _ _ _ us hl => match us, hl with | [_], _ => rfl
  have F_pc := fun_mk (st := sPc) l_pc c_pc k_pc
  have m_pc := PySem.W.mg_of X G a_pc
  have b_pc := F_pc.binds (ps := ["corners"]) fun _ _ _ _ _ _ us hl => match us, hl with | [_], _ => rfl
  have F_sh := fun_mk (st := sSh) l_sh c_sh k_sh
  have m_sh := PySem.W.mg_of X G a_sh
  have b_sh := F_sh.binds (ps := ["told"]) fun _ _ _ _ _ _ us hl => match us, hl with | [_], _ => rfl
  have F_rs := fun_mk (st := sRs) l_rs c_rs k_rs
  have m_rs := PySem.W.mg_of X G a_rs
  have b_rs := F_rs.binds (ps := ["numbers"]) fun _ _ _ _ _ _ us hl => match us, hl with | [_], _ => rfl
  have F_lv := fun_mk (st := sLv) l_lv c_lv k_lv
  have m_lv := PySem.W.mg_of X G a_lv
  have b_lv := F_lv.binds (ps := ["told"]) fun _ _ _ _ _ _ us hl => match us, hl with | [_], _ => rfl
  have F_io := fun_mk (st := sIo) l_io c_io k_io
  have m_io := PySem.W.mg_of X G a_io
  have b_io := F_io.binds (ps := ["told"]) fun _ _ _ _ _ _ us hl => match us, hl with | [_], _ => rfl
  have F_ws := fun_mk (st := sWs) l_ws c_ws k_ws
  have m_ws := PySem.W.mg_of X G a_ws
  have b_ws := F_ws.binds (ps := ["told"]) fun _ _ _ _ _ _ us hl => match us, hl with | [_], _ => rfl
  have F_hv := fun_mk (st := sHv) l_hv c_hv k_hv
  have m_hv := PySem.W.mg_of X G a_hv
  have F_ptI := fun_mk (st := sPtI) l_ptI c_ptI k_ptI
  have b_ptI := F_ptI.binds (ps := ["self", "piece", "turned", "slid"]) fun _ _ _ _ _ _ us hl => match us, hl with | [_, _, _, _], _ => rfl
  have T_ptI : ClsTxt K mg "Part" C_ptI f_ptI ["piece", "turned", "slid"] := ⟨⟨pg_ptI, hd_ptI, po_ptI, sa_ptI⟩, PySem.W.mg_of X G aC_ptI, fun z hz => by
    simp only [List.mem_cons, List.not_mem_nil, or_false] at hz
    rcases hz with rfl | rfl | rfl
    · exact n0_ptI
    · exact n1_ptI
    · exact n2_ptI
    , ⟨mk_ptI, a_ptI, i_ptI, kc_ptI⟩⟩
  have F_slI := fun_mk (st := sSlI) l_slI c_slI k_slI
  have b_slI := F_slI.binds (ps := ["self", "left_below", "right_below", "right_above", "left_above"]) fun _ _ _ _ _ _ us hl => match us, hl with | [_, _, _, _, _], _ => rfl
  have T_slI : ClsTxt K mg "Slice" C_slI f_slI ["left_below", "right_below", "right_above", "left_above"] := ⟨⟨pg_slI, hd_slI, po_slI, sa_slI⟩, PySem.W.mg_of X G aC_slI, fun z hz => by
    simp only [List.mem_cons, List.not_mem_nil, or_false] at hz
    rcases hz with rfl | rfl | rfl | rfl
    · exact n0_slI
    · exact n1_slI
    · exact n2_slI
    · exact n3_slI
    , ⟨mk_slI, a_slI, i_slI, kc_slI⟩⟩
  have T_err : ErrTxt K mg C_err := ⟨PySem.W.mg_of X G aE_err, xE_err, kE_err, bE_err, tE_err, exm_own bE_err iE_err tE_err sE_err⟩
  have m_PL := PySem.W.mg_of X G aK_PL
  have m_abs := PySem.W.mg_none_of X G z_abs
  have m_len := PySem.W.mg_none_of X G z_len
  have m_range := PySem.W.mg_none_of X G z_range
  refine ⟨PySem.W.fnOf "halved" "halved" (defArgs sHv) (defBody sHv) (defScope sHv) .none kV_hv dc_hv pm_hv an_hv cd_hv ct_hv, fun s us hu => match us, hu with | [_], _ => .of_eq rfl, fun base _ _ => ?_⟩
  have G_cm := ok_cm (Pg := Pg) (w := w) (base := base) F_cm m_abs
  have G_isr := ok_isr F_isr G_cm m_cm k_cm b_cm
  have G_rat := ok_rat F_rat G_cm m_cm k_cm b_cm
  have G_plus := ok_plus F_plus G_rat m_rat k_rat b_rat
  have G_half := ok_half F_half G_rat m_rat k_rat b_rat
  have G_less := ok_less (Pg := Pg) (w := w) (mg := mg) (base := base) F_less
  have G_rp := ok_rp F_rp T_err m_len m_PL G_isr m_isr k_isr b_isr
  have G_rps := ok_rps F_rps T_err m_len m_range m_PL G_rp m_rp k_rp b_rp
  have G_pn := ok_pn (Pg := Pg) (w := w) (mg := mg) (base := base) F_pn
  have G_or := ok_or (Pg := Pg) (w := w) (mg := mg) (base := base) F_or
  have G_ps := ok_ps F_ps G_plus m_plus k_plus b_plus
  have G_mid := ok_mid F_mid G_ps m_ps k_ps b_ps G_half m_half k_half b_half
  have G_bef := ok_bef F_bef G_less m_less k_less b_less
  have G_ptI := ok_ptI (Pg := Pg) (w := w) (base := base) F_ptI T_ptI
  have G_slI := ok_slI (Pg := Pg) (w := w) (base := base) F_slI T_slI
  have G_cn := ok_cn F_cn T_ptI m_len G_pn m_pn k_pn b_pn
  have G_pc := ok_pc F_pc m_len m_range G_bef m_bef k_bef b_bef
  have G_sh := ok_sh F_sh T_slI T_ptI G_mid m_mid k_mid b_mid G_pc m_pc k_pc b_pc G_ps m_ps k_ps b_ps G_or m_or k_or b_or G_ptI b_ptI
  have G_lv := ok_lv (Pg := Pg) (w := w) (base := base) F_lv T_slI
  have G_io := ok_io F_io T_slI G_less m_less k_less b_less
  have G_ws := ok_ws (Pg := Pg) (w := w) (base := base) F_ws T_slI
  have G_rs := ok_rs F_rs T_err T_slI m_len m_PL G_rps m_rps k_rps b_rps G_lv m_lv k_lv b_lv G_io m_io k_io b_io G_ws m_ws k_ws b_ws G_slI b_slI
  exact ok_hv F_hv T_err m_len G_rs m_rs k_rs b_rs G_sh m_sh k_sh b_sh G_cn m_cn k_cn b_cn
end ScA
open PySem PySem.W PyProof.Rows
set_option maxRecDepth 100000 in
set_option maxHeartbeats 8000000 in
theorem PySem.Challenge.cw_stripcut_s02_halved_holds : PySem.Challenge.rw_stripcut_s02_halved.Holds := by
  w_on; k_headS; (case hw => exact ⟨[.list []], by decide +kernel, by decide +kernel⟩)
  k_fillS
  refine L2.walk_specK (r := PySem.Challenge.rw_stripcut_s02_halved) (k := 8) (CX := L2.CX0) (ps := ["s"]) (sp := ScA.spHv) (by decide +kernel) rfl rfl ⟨rfl, by decide, by decide⟩ (fun w h Y => PySem.W.kIn_of Y) ?F ?S (fun _ _ _ _ z => z)
  case F =>
    intro w mg fa h Y KX G hmg
    refine' ScA.all_mk KX G hmg ?a_cm ?l_cm ?c_cm ?k_cm ?a_isr ?l_isr ?c_isr ?k_isr ?a_rat ?l_rat ?c_rat ?k_rat ?a_plus ?l_plus ?c_plus ?k_plus ?a_half ?l_half ?c_half ?k_half ?a_less ?l_less ?c_less ?k_less ?a_rp ?l_rp ?c_rp ?k_rp ?a_rps ?l_rps ?c_rps ?k_rps ?a_pn ?l_pn ?c_pn ?k_pn ?a_or ?l_or ?c_or ?k_or ?a_ps ?l_ps ?c_ps ?k_ps ?a_mid ?l_mid ?c_mid ?k_mid ?a_bef ?l_bef ?c_bef ?k_bef ?a_cn ?l_cn ?c_cn ?k_cn ?a_pc ?l_pc ?c_pc ?k_pc ?a_sh ?l_sh ?c_sh ?k_sh ?a_rs ?l_rs ?c_rs ?k_rs ?a_lv ?l_lv ?c_lv ?k_lv ?a_io ?l_io ?c_io ?k_io ?a_ws ?l_ws ?c_ws ?k_ws ?a_hv ?l_hv ?c_hv ?k_hv ?aC_ptI ?a_ptI ?i_ptI ?l_ptI ?c_ptI ?k_ptI ?pg_ptI ?hd_ptI ?po_ptI ?sa_ptI ?mk_ptI ?kc_ptI ?n0_ptI ?n1_ptI ?n2_ptI ?aC_slI ?a_slI ?i_slI ?l_slI ?c_slI ?k_slI ?pg_slI ?hd_slI ?po_slI ?sa_slI ?mk_slI ?kc_slI ?n0_slI ?n1_slI ?n2_slI ?n3_slI ?aE_err ?xE_err ?kE_err ?bE_err ?tE_err ?iE_err ?sE_err ?aK_PL ?z_abs ?z_len ?z_range
    (case a_cm => k_is)
    (case l_cm => k_is)
    (case c_cm => k_is)
    (case k_cm => k_is)
    (case a_isr => k_is)
    (case l_isr => k_is)
    (case c_isr => k_is)
    (case k_isr => k_is)
    (case a_rat => k_is)
    (case l_rat => k_is)
    (case c_rat => k_is)
    (case k_rat => k_is)
    (case a_plus => k_is)
    (case l_plus => k_is)
    (case c_plus => k_is)
    (case k_plus => k_is)
    (case a_half => k_is)
    (case l_half => k_is)
    (case c_half => k_is)
    (case k_half => k_is)
    (case a_less => k_is)
    (case l_less => k_is)
    (case c_less => k_is)
    (case k_less => k_is)
    (case a_rp => k_is)
    (case l_rp => k_is)
    (case c_rp => k_is)
    (case k_rp => k_is)
    (case a_rps => k_is)
    (case l_rps => k_is)
    (case c_rps => k_is)
    (case k_rps => k_is)
    (case a_pn => k_is)
    (case l_pn => k_is)
    (case c_pn => k_is)
    (case k_pn => k_is)
    (case a_or => k_is)
    (case l_or => k_is)
    (case c_or => k_is)
    (case k_or => k_is)
    (case a_ps => k_is)
    (case l_ps => k_is)
    (case c_ps => k_is)
    (case k_ps => k_is)
    (case a_mid => k_is)
    (case l_mid => k_is)
    (case c_mid => k_is)
    (case k_mid => k_is)
    (case a_bef => k_is)
    (case l_bef => k_is)
    (case c_bef => k_is)
    (case k_bef => k_is)
    (case a_cn => k_is)
    (case l_cn => k_is)
    (case c_cn => k_is)
    (case k_cn => k_is)
    (case a_pc => k_is)
    (case l_pc => k_is)
    (case c_pc => k_is)
    (case k_pc => k_is)
    (case a_sh => k_is)
    (case l_sh => k_is)
    (case c_sh => k_is)
    (case k_sh => k_is)
    (case a_rs => k_is)
    (case l_rs => k_is)
    (case c_rs => k_is)
    (case k_rs => k_is)
    (case a_lv => k_is)
    (case l_lv => k_is)
    (case c_lv => k_is)
    (case k_lv => k_is)
    (case a_io => k_is)
    (case l_io => k_is)
    (case c_io => k_is)
    (case k_io => k_is)
    (case a_ws => k_is)
    (case l_ws => k_is)
    (case c_ws => k_is)
    (case k_ws => k_is)
    (case a_hv => k_is)
    (case l_hv => k_is)
    (case c_hv => k_is)
    (case k_hv => k_is)
    (case aC_ptI => k_is)
    (case a_ptI => k_is)
    (case i_ptI => k_is)
    (case l_ptI => k_is)
    (case c_ptI => k_is)
    (case k_ptI => k_is)
    (case pg_ptI => k_is)
    (case hd_ptI => k_is)
    (case po_ptI => k_is)
    (case sa_ptI => k_is)
    (case mk_ptI => k_is)
    (case kc_ptI => k_is)
    (case n0_ptI => k_is)
    (case n1_ptI => k_is)
    (case n2_ptI => k_is)
    (case aC_slI => k_is)
    (case a_slI => k_is)
    (case i_slI => k_is)
    (case l_slI => k_is)
    (case c_slI => k_is)
    (case k_slI => k_is)
    (case pg_slI => k_is)
    (case hd_slI => k_is)
    (case po_slI => k_is)
    (case sa_slI => k_is)
    (case mk_slI => k_is)
    (case kc_slI => k_is)
    (case n0_slI => k_is)
    (case n1_slI => k_is)
    (case n2_slI => k_is)
    (case n3_slI => k_is)
    (case aE_err => k_is)
    (case xE_err => k_exc)
    (case kE_err => k_is)
    (case bE_err => k_is)
    (case tE_err => k_is)
    (case iE_err => k_is)
    (case sE_err => first | rfl | k_is)
    (case aK_PL => k_is)
    (case z_abs => k_is)
    (case z_len => k_is)
    (case z_range => k_is)
  case S =>
    intro K H xs a hO hwi hask hx
    cases hx with
    | cons h1 h2 =>
      cases h2
      cases h1 with
      | lst hs ha =>
        have e := L2.ints_dw a.1 _ ha
        subst e
        refine ⟨_, a.1, rfl, hs, ScA.int_bd hwi, fun H' p hp => .lst (L2.SqL.of hp) (L2.dw_ints _)⟩
#print axioms PySem.Challenge.cw_stripcut_s02_halved_holds
