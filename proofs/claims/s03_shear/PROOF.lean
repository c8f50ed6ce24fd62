import PyProof.Rows.All
import Wide.All
import OpenK.AllK
import Wide.FinOn
import PyProof.EqAt
import PyProof.EqKinds
import PyProof.TupleCall
import Open.SpecLaws
import KE.OsGo
import HandS.Exc
import HandS.ForSpec
import HandS.Comp
import HandS.Iter
import HandS.Wide
import HandS.Walk
import KE.SortData
import HandS.Conv
import HandS.TryMany
import HandS.TryOnly
import HandS.WideBits
import PySem.Challenge.RW_stripcut_s03_shear
set_option Elab.async false
set_option linter.all false
set_option maxRecDepth 100000
set_option maxHeartbeats 4000000
namespace Sc
open Kzq1 (Q P)
/-! Fractions as rationals -/
def Ok (q : Q) : Prop := 0 < q.d ∧ Nat.gcd q.n.natAbs q.d = 1
def val (q : Q) : Rat := mkRat q.n q.d
theorem okQ_iff (q : Q) : Kzq1.okQ q = true ↔ Ok q := by
  unfold Kzq1.okQ Ok
  simp only [Bool.and_eq_true, decide_eq_true_eq, beq_iff_eq]
  constructor <;> (rintro ⟨a, b⟩; exact ⟨by omega, b⟩)
theorem val_num {q : Q} (h : Ok q) : (val q).num = q.n := by
  unfold val
  rw [Rat.num_mkRat, if_neg (by have := h.1; omega), Nat.gcd_comm, h.2]
  simp
theorem val_den {q : Q} (h : Ok q) : (val q).den = q.d := by
  unfold val
  rw [Rat.den_mkRat, if_neg (by have := h.1; omega), Nat.gcd_comm, h.2, Nat.div_one]
theorem val_inj {a b : Q} (ha : Ok a) (hb : Ok b) (e : val a = val b) : a = b := by
  have h1 := val_num ha
  have h2 := val_den ha
  rw [e] at h1 h2
  rw [val_num hb] at h1
  rw [val_den hb] at h2
  cases a; cases b
  simp_all
/-- mk of a lower number above 0: by the greatest common measure -/
theorem mk_eq {n : Int} {d : Nat} (h : 0 < d) : Kzq1.mk n d = ⟨n / (Nat.gcd n.natAbs d : Nat), d / Nat.gcd n.natAbs d⟩ := by
  have hg : 0 < Nat.gcd n.natAbs d := Nat.gcd_pos_of_pos_right _ h
  have hq : 0 < d / Nat.gcd n.natAbs d := Nat.div_pos (Nat.gcd_le_right _ h) hg
  unfold Kzq1.mk
  dsimp only
  rw [if_neg (by omega), if_neg (by omega)]
theorem mk_ok {n : Int} {d : Nat} (h : 0 < d) : Ok (Kzq1.mk n d) := by
  have hg : 0 < Nat.gcd n.natAbs d := Nat.gcd_pos_of_pos_right _ h
  rw [mk_eq h]
  refine ⟨Nat.div_pos (Nat.gcd_le_right _ h) hg, ?_⟩
  show Nat.gcd (n / (Nat.gcd n.natAbs d : Nat)).natAbs (d / Nat.gcd n.natAbs d) = 1
  have hv : ((Nat.gcd n.natAbs d : Nat) : Int) ∣ n := Int.ofNat_dvd_left.mpr (Nat.gcd_dvd_left _ _)
  rw [Int.natAbs_ediv_of_dvd hv, Int.natAbs_natCast, Nat.gcd_div (Nat.gcd_dvd_left _ _) (Nat.gcd_dvd_right _ _)]
  exact Nat.div_self hg
theorem val_mk {n : Int} {d : Nat} (h : 0 < d) : val (Kzq1.mk n d) = mkRat n d := by
  have h0 : d ≠ 0 := by omega
  have o := mk_ok (n := n) h
  refine Rat.ext ?_ ?_
  · rw [val_num o, Rat.num_mkRat, if_neg h0, mk_eq h, Nat.gcd_comm]
  · rw [val_den o, Rat.den_mkRat, if_neg h0, mk_eq h, Nat.gcd_comm]
theorem whole_ok (n : Int) : Ok (Kzq1.whole n) := ⟨Nat.one_pos, Nat.gcd_one_right _⟩
theorem val_whole (n : Int) : val (Kzq1.whole n) = (n : Rat) := by
  refine Rat.ext ?_ ?_
  · rw [val_num (whole_ok n)]; rfl
  · rw [val_den (whole_ok n)]; rfl
theorem zero_ok : Ok Kzq1.zero := ⟨Nat.one_pos, Nat.gcd_one_right _⟩
theorem val_zero : val Kzq1.zero = 0 := val_whole 0
theorem half_ok : Ok Kzq1.half := ⟨by decide, by decide⟩
theorem val_half : val Kzq1.half = 1 / 2 := by
  show mkRat 1 2 = 1 / 2
  rw [Rat.mkRat_eq_div]; rfl
section
variable {a b : Q}
theorem add_ok (ha : Ok a) (hb : Ok b) : Ok (Kzq1.add a b) := mk_ok (Nat.mul_pos ha.1 hb.1)
theorem val_add (ha : Ok a) (hb : Ok b) : val (Kzq1.add a b) = val a + val b := by
  unfold Kzq1.add
  rw [val_mk (Nat.mul_pos ha.1 hb.1)]
  unfold val
  rw [Rat.mkRat_add_mkRat _ _ (by have := ha.1; omega) (by have := hb.1; omega)]
theorem neg_ok (ha : Ok a) : Ok (Kzq1.neg a) := ⟨ha.1, by show Nat.gcd (-a.n).natAbs a.d = 1; rw [Int.natAbs_neg]; exact ha.2⟩
theorem val_neg (_ : Ok a) : val (Kzq1.neg a) = - val a := by
  unfold val
  rw [Rat.neg_mkRat]; rfl
theorem sub_ok (ha : Ok a) (hb : Ok b) : Ok (Kzq1.sub a b) := add_ok ha (neg_ok hb)
theorem val_sub (ha : Ok a) (hb : Ok b) : val (Kzq1.sub a b) = val a - val b := by
  unfold Kzq1.sub
  rw [val_add ha (neg_ok hb), val_neg hb, Rat.sub_eq_add_neg]
theorem mul_ok (ha : Ok a) (hb : Ok b) : Ok (Kzq1.mul a b) := mk_ok (Nat.mul_pos ha.1 hb.1)
theorem val_mul (ha : Ok a) (hb : Ok b) : val (Kzq1.mul a b) = val a * val b := by
  unfold Kzq1.mul
  rw [val_mk (Nat.mul_pos ha.1 hb.1)]
  unfold val
  rw [Rat.mkRat_mul_mkRat]
theorem n_zero_iff (ha : Ok a) : a.n = 0 ↔ val a = 0 := by
  rw [← Rat.num_eq_zero, val_num ha]
theorem inv_ok (_ : Ok a) (h : val a ≠ 0) : Ok (Kzq1.inv a) := by
  have hn : a.n ≠ 0 := fun e => h ((n_zero_iff ‹_›).mp e)
  unfold Kzq1.inv
  split <;> exact mk_ok (by omega)
theorem val_inv (ha : Ok a) (h : val a ≠ 0) : val (Kzq1.inv a) = (val a)⁻¹ := by
  have hn : a.n ≠ 0 := fun e => h ((n_zero_iff ha).mp e)
  have hp : 0 < a.n.natAbs := by omega
  have e1 : (val a)⁻¹ = Rat.divInt (a.d : Int) a.n := by rw [Rat.inv_def, val_num ha, val_den ha]
  rw [e1]
  unfold Kzq1.inv
  split
  · rename_i c
    rw [val_mk hp, ← Rat.divInt_ofNat, show ((a.n.natAbs : Nat) : Int) = a.n by omega]
  · rename_i c
    rw [val_mk hp, ← Rat.divInt_ofNat, show ((a.n.natAbs : Nat) : Int) = -a.n by omega, Rat.neg_divInt_neg]
theorem div_ok (ha : Ok a) (hb : Ok b) (h : val b ≠ 0) : Ok (Kzq1.div a b) := mul_ok ha (inv_ok hb h)
theorem val_div (ha : Ok a) (hb : Ok b) (h : val b ≠ 0) : val (Kzq1.div a b) = val a / val b := by
  unfold Kzq1.div
  rw [val_mul ha (inv_ok hb h), val_inv hb h, Rat.div_def]
theorem lt_iff (ha : Ok a) (hb : Ok b) : Kzq1.lt a b = true ↔ val a < val b := by
  unfold Kzq1.lt
  rw [decide_eq_true_eq, Rat.lt_iff, val_num ha, val_num hb, val_den ha, val_den hb]
theorem lt_eq (ha : Ok a) (hb : Ok b) : Kzq1.lt a b = decide (val a < val b) := by
  rw [Bool.eq_iff_iff, lt_iff ha hb, decide_eq_true_eq]
theorem le_eq (ha : Ok a) (hb : Ok b) : Kzq1.le a b = decide (val a ≤ val b) := by
  unfold Kzq1.le
  rw [lt_eq hb ha, ← decide_not, decide_eq_decide, Rat.not_lt]
theorem eq_iff (ha : Ok a) (hb : Ok b) : a = b ↔ val a = val b := ⟨fun e => by rw [e], val_inj ha hb⟩
theorem isZero_eq (ha : Ok a) : Kzq1.isZero a = decide (val a = 0) := by
  unfold Kzq1.isZero
  rw [Bool.eq_iff_iff, beq_iff_eq, decide_eq_true_eq, n_zero_iff ha]
theorem pos_eq (ha : Ok a) : Kzq1.pos a = decide (0 < val a) := by
  unfold Kzq1.pos
  rw [Bool.eq_iff_iff, decide_eq_true_eq, decide_eq_true_eq, Rat.lt_iff, val_num ha]
  simp
end
/-! Points -/
def OkP (p : P) : Prop := Ok p.x ∧ Ok p.y
abbrev px (p : P) : Rat := val p.x
abbrev py (p : P) : Rat := val p.y
theorem P_ext {p q : P} (hp : OkP p) (hq : OkP q) (h1 : px p = px q) (h2 : py p = py q) : p = q := by
  have e1 := val_inj hp.1 hq.1 h1
  have e2 := val_inj hp.2 hq.2 h2
  cases p; cases q; simp_all
theorem P_eq_iff {p q : P} (hp : OkP p) (hq : OkP q) : p = q ↔ px p = px q ∧ py p = py q :=
  ⟨fun e => by rw [e]; exact ⟨rfl, rfl⟩, fun h => P_ext hp hq h.1 h.2⟩
theorem origin_ok : OkP Kzq1.origin := ⟨zero_ok, zero_ok⟩
section
variable {p q r : P}
theorem plus_ok (hp : OkP p) (hq : OkP q) : OkP (Kzq1.plus p q) := ⟨add_ok hp.1 hq.1, add_ok hp.2 hq.2⟩
theorem px_plus (hp : OkP p) (hq : OkP q) : px (Kzq1.plus p q) = px p + px q := val_add hp.1 hq.1
theorem py_plus (hp : OkP p) (hq : OkP q) : py (Kzq1.plus p q) = py p + py q := val_add hp.2 hq.2
theorem less_ok (hp : OkP p) (hq : OkP q) : OkP (Kzq1.less p q) := ⟨sub_ok hp.1 hq.1, sub_ok hp.2 hq.2⟩
theorem times_ok {k : Q} (hk : Ok k) (hp : OkP p) : OkP (Kzq1.times k p) := ⟨mul_ok hk hp.1, mul_ok hk hp.2⟩
theorem px_times {k : Q} (hk : Ok k) (hp : OkP p) : px (Kzq1.times k p) = val k * px p := val_mul hk hp.1
theorem py_times {k : Q} (hk : Ok k) (hp : OkP p) : py (Kzq1.times k p) = val k * py p := val_mul hk hp.2
theorem cross_ok (hp : OkP p) (hq : OkP q) : Ok (Kzq1.cross p q) := sub_ok (mul_ok hp.1 hq.2) (mul_ok hp.2 hq.1)
theorem val_cross (hp : OkP p) (hq : OkP q) : val (Kzq1.cross p q) = px p * py q - py p * px q := by
  unfold Kzq1.cross
  rw [val_sub (mul_ok hp.1 hq.2) (mul_ok hp.2 hq.1), val_mul hp.1 hq.2, val_mul hp.2 hq.1]
theorem turn_ok (hp : OkP p) (hq : OkP q) (hr : OkP r) : Ok (Kzq1.turn p q r) := cross_ok (less_ok hq hp) (less_ok hr hp)
theorem val_turn (hp : OkP p) (hq : OkP q) (hr : OkP r) : val (Kzq1.turn p q r) = (px q - px p) * (py r - py p) - (py q - py p) * (px r - px p) := by
  unfold Kzq1.turn
  rw [val_cross (less_ok hq hp) (less_ok hr hp)]
  show val (Kzq1.sub q.x p.x) * val (Kzq1.sub r.y p.y) - val (Kzq1.sub q.y p.y) * val (Kzq1.sub r.x p.x) = _
  rw [val_sub hq.1 hp.1, val_sub hr.2 hp.2, val_sub hq.2 hp.2, val_sub hr.1 hp.1]
end
end Sc
namespace Sc
open Kzq1 (Q P)
/-! Pieces of four corners -/
/-- piece_of: corners that stand twice in a row once, begun with the leftmost -/
def pieceOf (l : List P) : List P := Kzq1.begunWith (Kzq1.unlike l)
theorem formed_of {l : List P} (h3 : 3 ≤ (Kzq1.unlike l).length) (hs : Kzq1.straightened (Kzq1.unlike l) = Kzq1.unlike l) : Kzq1.formed l = pieceOf l := by
  unfold Kzq1.formed pieceOf
  dsimp only
  rw [hs, if_neg (by omega)]
theorem fm_cons {c : Prop} [Decidable c] {i : Nat} {x : P} {f : Nat → Option P} {r : List Nat} (h : f i = if c then none else some x) : (i :: r).filterMap f = (if c then [] else [x]) ++ r.filterMap f := by
  rw [List.filterMap_cons, h]
  by_cases k : c
  · rw [if_pos k, if_pos k]; rfl
  · rw [if_neg k, if_neg k]; rfl
theorem unlike4 (a b c d : P) : Kzq1.unlike [a, b, c, d] = (if a = b then [] else [a]) ++ ((if b = c then [] else [b]) ++ ((if c = d then [] else [c]) ++ (if d = a then [] else [d]))) := by
  have e4 : Kzq1.at0 [a, b, c, d] (3 + 1) = a := by simp [Kzq1.at0]
  show List.filterMap (fun i => if Kzq1.at0 [a, b, c, d] i = Kzq1.at0 [a, b, c, d] (i + 1) then none else some (Kzq1.at0 [a, b, c, d] i)) [0, 1, 2, 3] = _
  rw [fm_cons (c := a = b) (x := a) rfl, fm_cons (c := b = c) (x := b) rfl, fm_cons (c := c = d) (x := c) rfl, fm_cons (c := d = a) (x := d) (by rw [e4]; rfl)]
  simp
theorem straight4 {a b c d : P} (h1 : Kzq1.isZero (Kzq1.turn d a b) = false) (h2 : Kzq1.isZero (Kzq1.turn a b c) = false) (h3 : Kzq1.isZero (Kzq1.turn b c d) = false) (h4 : Kzq1.isZero (Kzq1.turn c d a) = false) :
    Kzq1.straightened [a, b, c, d] = [a, b, c, d] := by
  have r : List.range 4 = [0, 1, 2, 3] := rfl
  unfold Kzq1.straightened
  simp only [List.length_cons, List.length_nil, Nat.zero_add, Nat.reduceAdd, r, List.filterMap_cons, List.filterMap_nil]
  have e0 : Kzq1.at0 [a, b, c, d] 0 = a := by simp [Kzq1.at0]
  have e1 : Kzq1.at0 [a, b, c, d] 1 = b := by simp [Kzq1.at0]
  have e2 : Kzq1.at0 [a, b, c, d] 2 = c := by simp [Kzq1.at0]
  have e3 : Kzq1.at0 [a, b, c, d] 3 = d := by simp [Kzq1.at0]
  have e4 : Kzq1.at0 [a, b, c, d] 4 = a := by simp [Kzq1.at0]
  have e5 : Kzq1.at0 [a, b, c, d] 5 = b := by simp [Kzq1.at0]
  have e6 : Kzq1.at0 [a, b, c, d] 6 = c := by simp [Kzq1.at0]
  simp [e0, e1, e2, e3, e4, e5, e6, h1, h2, h3, h4]
theorem straight3 {a b c : P} (h1 : Kzq1.isZero (Kzq1.turn c a b) = false) (h2 : Kzq1.isZero (Kzq1.turn a b c) = false) (h3 : Kzq1.isZero (Kzq1.turn b c a) = false) :
    Kzq1.straightened [a, b, c] = [a, b, c] := by
  have r : List.range 3 = [0, 1, 2] := rfl
  unfold Kzq1.straightened
  simp only [List.length_cons, List.length_nil, Nat.zero_add, Nat.reduceAdd, r, List.filterMap_cons, List.filterMap_nil]
  have e0 : Kzq1.at0 [a, b, c] 0 = a := by simp [Kzq1.at0]
  have e1 : Kzq1.at0 [a, b, c] 1 = b := by simp [Kzq1.at0]
  have e2 : Kzq1.at0 [a, b, c] 2 = c := by simp [Kzq1.at0]
  have e3 : Kzq1.at0 [a, b, c] 3 = a := by simp [Kzq1.at0]
  have e4 : Kzq1.at0 [a, b, c] 4 = b := by simp [Kzq1.at0]
  simp [e0, e1, e2, e3, e4, h1, h2, h3]
theorem isZero_turn {p q r : P} (hp : OkP p) (hq : OkP q) (hr : OkP r) (h : (px q - px p) * (py r - py p) - (py q - py p) * (px r - px p) ≠ 0) : Kzq1.isZero (Kzq1.turn p q r) = false := by
  rw [isZero_eq (turn_ok hp hq hr), val_turn hp hq hr, decide_eq_false h]
theorem mul_ne {x y : Rat} (hx : 0 < x) (hy : 0 < y) : x * y ≠ 0 := Rat.ne_of_gt (Rat.mul_pos hx hy)
/-- two points below, two above, the upper ones higher; not just one below and one above -/
structure Trap (a b c d : P) : Prop where
  oa : OkP a
  ob : OkP b
  oc : OkP c
  od : OkP d
  y0 : py a = py b
  y1 : py c = py d
  up : py a < py c
  xab : px a ≤ px b
  xdc : px d ≤ px c
  big : px a < px b ∨ px d < px c
theorem Trap.ne {a b c d : P} (t : Trap a b c d) : b ≠ c ∧ d ≠ a := by
  constructor
  · intro e
    have := t.up; have := t.y0
    rw [e] at this; grind
  · intro e
    have := t.up; have := t.y1
    rw [e] at this; grind
theorem Trap.formed {a b c d : P} (t : Trap a b c d) : Kzq1.formed [a, b, c, d] = pieceOf [a, b, c, d] := by
  obtain ⟨nbc, nda⟩ := t.ne
  obtain ⟨oa, ob, oc, od, y0, y1, up, xab, xdc, big⟩ := t
  have hh : 0 < py c - py a := by grind
  by_cases e1 : a = b
  · have nx : px d < px c := by subst e1; grind
    have ncd : c ≠ d := fun e => by rw [e] at nx; grind
    have u : Kzq1.unlike [a, b, c, d] = [b, c, d] := by
      rw [unlike4, if_pos e1, if_neg nbc, if_neg ncd, if_neg nda]; rfl
    subst e1
    have k : 0 < px c - px d := by grind
    have m := mul_ne k hh
    refine formed_of (by rw [u]; simp) (by
      rw [u]
      exact straight3 (isZero_turn od oa oc (by grind)) (isZero_turn oa oc od (by grind)) (isZero_turn oc od oa (by grind)))
  · have nx : px a < px b := by
      rcases Rat.le_iff_lt_or_eq.mp xab with h | h
      · exact h
      · exact absurd (P_ext oa ob h y0) e1
    have k : 0 < px b - px a := by grind
    have m := mul_ne k hh
    by_cases e2 : c = d
    · have u : Kzq1.unlike [a, b, c, d] = [a, b, d] := by
        rw [unlike4, if_neg e1, if_neg nbc, if_pos e2, if_neg nda]; rfl
      subst e2
      refine formed_of (by rw [u]; simp) (by
        rw [u]
        exact straight3 (isZero_turn oc oa ob (by grind)) (isZero_turn oa ob oc (by grind)) (isZero_turn ob oc oa (by grind)))
    · have nx2 : px d < px c := by
        rcases Rat.le_iff_lt_or_eq.mp xdc with h | h
        · exact h
        · exact absurd (P_ext oc od h.symm y1) e2
      have k2 : 0 < px c - px d := by grind
      have m2 := mul_ne k2 hh
      have u : Kzq1.unlike [a, b, c, d] = [a, b, c, d] := by
        rw [unlike4, if_neg e1, if_neg nbc, if_neg e2, if_neg nda]; rfl
      refine formed_of (by rw [u]; simp) (by
        rw [u]
        exact straight4 (isZero_turn od oa ob (by grind)) (isZero_turn oa ob oc (by grind)) (isZero_turn ob oc od (by grind)) (isZero_turn oc od oa (by grind)))
/-- the middle of two points -/
def mid (a b : P) : P := Kzq1.times Kzq1.half (Kzq1.plus a b)
theorem mid_ok {a b : P} (ha : OkP a) (hb : OkP b) : OkP (mid a b) := times_ok half_ok (plus_ok ha hb)
theorem px_mid {a b : P} (ha : OkP a) (hb : OkP b) : px (mid a b) = (px a + px b) / 2 := by
  unfold mid
  rw [px_times half_ok (plus_ok ha hb), px_plus ha hb, val_half]; grind
theorem py_mid {a b : P} (ha : OkP a) (hb : OkP b) : py (mid a b) = (py a + py b) / 2 := by
  unfold mid
  rw [py_times half_ok (plus_ok ha hb), py_plus ha hb, val_half]; grind
theorem Trap.low {a b c d : P} (t : Trap a b c d) : Trap a b (mid b c) (mid a d) := by
  obtain ⟨oa, ob, oc, od, y0, y1, up, xab, xdc, big⟩ := t
  have m1 := px_mid ob oc; have m2 := py_mid ob oc; have m3 := px_mid oa od; have m4 := py_mid oa od
  exact ⟨oa, ob, mid_ok ob oc, mid_ok oa od, y0, by grind, by grind, xab, by grind, .inr (by grind)⟩
theorem Trap.high {a b c d : P} (t : Trap a b c d) : Trap (mid a d) (mid b c) c d := by
  obtain ⟨oa, ob, oc, od, y0, y1, up, xab, xdc, big⟩ := t
  have m1 := px_mid ob oc; have m2 := py_mid ob oc; have m3 := px_mid oa od; have m4 := py_mid oa od
  exact ⟨mid_ok oa od, mid_ok ob oc, oc, od, by grind, y1, by grind, by grind, xdc, .inl (by grind)⟩
theorem mid_twice {b c : P} (hb : OkP b) (hc : OkP c) : Kzq1.plus (mid b c) (mid b c) = Kzq1.plus b c := by
  have m := mid_ok hb hc
  refine P_ext (plus_ok m m) (plus_ok hb hc) ?_ ?_
  · rw [px_plus m m, px_plus hb hc, px_mid hb hc]; grind
  · rw [py_plus m m, py_plus hb hc, py_mid hb hc]; grind
/-- the mirror of slice_halved -/
def halves (a b c e : P) : List Kzq2.Part := [⟨pieceOf [a, b, mid b c, mid a e], Kzq2.stay⟩, ⟨pieceOf [mid a e, mid b c, c, e], ⟨true, Kzq1.plus b c⟩⟩]
theorem halved_is {a b c e : P} (t : Trap a b c e) : (Kzq2.halved a b c e).1 = halves a b c e := by
  show [(⟨Kzq1.formed [a, b, mid b c, mid a e], Kzq2.stay⟩ : Kzq2.Part), ⟨Kzq1.formed [mid a e, mid b c, c, e], ⟨true, Kzq1.plus (mid b c) (mid b c)⟩⟩] = _
  rw [t.low.formed, t.high.formed, mid_twice t.ob t.oc]
  rfl
end Sc
namespace Sc
open Kzq1 (Q P)
/-! Sizes of numbers; the program's own fraction of two numbers -/
def gcdI (a b : Int) : Int := (Nat.gcd a.natAbs b.natAbs : Nat)
def Sz (k : Nat) (q : Q) : Prop := q.n.natAbs < 2 ^ k ∧ q.d < 2 ^ k
theorem Sz.mono {j k : Nat} {q : Q} (h : Sz j q) (hk : j ≤ k) : Sz k q :=
  have p : 2 ^ j ≤ 2 ^ k := Nat.pow_le_pow_right (by omega) hk
  ⟨Nat.lt_of_lt_of_le h.1 p, Nat.lt_of_lt_of_le h.2 p⟩
theorem mk_sz {n : Int} {d k : Nat} (h : 0 < d) (hn : n.natAbs < 2 ^ k) (hd : d < 2 ^ k) : Sz k (Kzq1.mk n d) := by
  have hv : ((Nat.gcd n.natAbs d : Nat) : Int) ∣ n := Int.ofNat_dvd_left.mpr (Nat.gcd_dvd_left _ _)
  rw [mk_eq h]
  refine ⟨?_, Nat.lt_of_le_of_lt (Nat.div_le_self _ _) hd⟩
  show (n / (Nat.gcd n.natAbs d : Nat)).natAbs < _
  rw [Int.natAbs_ediv_of_dvd hv, Int.natAbs_natCast]
  exact Nat.lt_of_le_of_lt (Nat.div_le_self _ _) hn
theorem mul_lt {i j : Int} {a b : Nat} (ha : i.natAbs < 2 ^ a) (hb : j.natAbs < 2 ^ b) : (i * j).natAbs < 2 ^ (a + b) := by
  rw [Int.natAbs_mul, Nat.pow_add]
  exact Nat.mul_lt_mul'' ha hb
theorem cross_lt {i j k l : Int} {a b : Nat} (h1 : i.natAbs < 2 ^ a) (h2 : j.natAbs < 2 ^ b) (h3 : k.natAbs < 2 ^ b) (h4 : l.natAbs < 2 ^ a) : (i * j + k * l).natAbs < 2 ^ (a + b + 1) := by
  have p := mul_lt h1 h2
  have q := mul_lt h3 h4
  rw [Nat.add_comm b a] at q
  have e : 2 ^ (a + b + 1) = 2 ^ (a + b) + 2 ^ (a + b) := by rw [Nat.pow_succ]; omega
  have := Int.natAbs_add_le (i * j) (k * l)
  omega
section
variable {a b : Q} {j k : Nat}
theorem add_sz (ha : Ok a) (hb : Ok b) (h1 : Sz j a) (h2 : Sz k b) : Sz (j + k + 1) (Kzq1.add a b) := by
  refine mk_sz (Nat.mul_pos ha.1 hb.1) (cross_lt h1.1 (by simpa using h2.2) h2.1 (by simpa using h1.2)) ?_
  have p : a.d * b.d < 2 ^ j * 2 ^ k := Nat.mul_lt_mul'' h1.2 h2.2
  rw [← Nat.pow_add] at p
  exact Nat.lt_of_lt_of_le p (Nat.pow_le_pow_right (by omega) (by omega))
theorem neg_sz (h : Sz j a) : Sz j (Kzq1.neg a) := ⟨by show (-a.n).natAbs < _; rw [Int.natAbs_neg]; exact h.1, h.2⟩
theorem sub_sz (ha : Ok a) (hb : Ok b) (h1 : Sz j a) (h2 : Sz k b) : Sz (j + k + 1) (Kzq1.sub a b) := add_sz ha (neg_ok hb) h1 (neg_sz h2)
theorem mul_sz (ha : Ok a) (hb : Ok b) (h1 : Sz j a) (h2 : Sz k b) : Sz (j + k) (Kzq1.mul a b) := by
  refine mk_sz (Nat.mul_pos ha.1 hb.1) (mul_lt h1.1 h2.1) ?_
  have p : a.d * b.d < 2 ^ j * 2 ^ k := Nat.mul_lt_mul'' h1.2 h2.2
  rw [← Nat.pow_add] at p
  exact p
theorem half_sz : Sz 2 Kzq1.half := ⟨by decide, by decide⟩
end
def SzP (k : Nat) (p : P) : Prop := Sz k p.x ∧ Sz k p.y
theorem SzP.mono {j k : Nat} {p : P} (h : SzP j p) (hk : j ≤ k) : SzP k p := ⟨h.1.mono hk, h.2.mono hk⟩
theorem plus_sz {p q : P} {j k : Nat} (hp : OkP p) (hq : OkP q) (h1 : SzP j p) (h2 : SzP k q) : SzP (j + k + 1) (Kzq1.plus p q) := ⟨add_sz hp.1 hq.1 h1.1 h2.1, add_sz hp.2 hq.2 h1.2 h2.2⟩
theorem mid_sz {p q : P} {j k : Nat} (hp : OkP p) (hq : OkP q) (h1 : SzP j p) (h2 : SzP k q) : SzP (j + k + 3) (mid p q) := by
  have o := plus_ok hp hq
  have z := plus_sz hp hq h1 h2
  exact ⟨(mul_sz half_ok o.1 half_sz z.1).mono (by omega), (mul_sz half_ok o.2 half_sz z.2).mono (by omega)⟩
/-- ratio(top, bottom): the lower number may be below 0 -/
def mkI (t b : Int) : Q := if b < 0 then Kzq1.mk (-t) b.natAbs else Kzq1.mk t b.natAbs
theorem mkI_ok {t b : Int} (h : b ≠ 0) : Ok (mkI t b) := by
  unfold mkI
  split <;> exact mk_ok (by omega)
theorem mkI_pos {t b : Int} (h : 0 < b) : mkI t b = Kzq1.mk t b.toNat := by
  unfold mkI
  rw [if_neg (by omega)]
  congr 1; omega
theorem mkI_nat {t : Int} {d : Nat} (h : 0 < d) : mkI t (d : Int) = Kzq1.mk t d := by
  rw [mkI_pos (by omega)]; rfl
theorem gcdI_pos {t b : Int} (h : b ≠ 0) : 0 < gcdI t b := by
  have : 0 < Nat.gcd t.natAbs b.natAbs := Nat.gcd_pos_of_pos_right _ (by omega)
  unfold gcdI; omega
theorem mkI_up {t b : Int} (h : b ≠ 0) : t.fdiv (if b < 0 then -gcdI t b else gcdI t b) = (mkI t b).n := by
  have hg := gcdI_pos (t := t) h
  have hd : gcdI t b ∣ t := Int.ofNat_dvd_left.mpr (Nat.gcd_dvd_left _ _)
  unfold mkI
  by_cases c : b < 0
  · rw [if_pos c, if_pos c, mk_eq (by omega)]
    show _ = -t / (Nat.gcd (-t).natAbs b.natAbs : Nat)
    rw [Int.natAbs_neg]
    obtain ⟨x, hx⟩ := hd
    show _ = -t / gcdI t b
    generalize gcdI t b = g at *
    subst hx
    rw [← Int.mul_neg, Int.mul_ediv_cancel_left _ (by omega), show g * x = (-g) * (-x) by rw [Int.neg_mul_neg], Int.mul_fdiv_cancel_left _ (by omega)]
  · rw [if_neg c, if_neg c, mk_eq (by omega)]
    show _ = t / gcdI t b
    exact Int.fdiv_eq_ediv_of_nonneg _ (by omega)
theorem mkI_low {t b : Int} (h : b ≠ 0) : b.fdiv (if b < 0 then -gcdI t b else gcdI t b) = ((mkI t b).d : Int) := by
  have hg := gcdI_pos (t := t) h
  have hd : gcdI t b ∣ b := Int.ofNat_dvd_left.mpr (Nat.gcd_dvd_right _ _)
  have key : ((b.natAbs / Nat.gcd t.natAbs b.natAbs : Nat) : Int) = (b.natAbs : Int) / gcdI t b := by
    rw [Int.natCast_ediv]; rfl
  unfold mkI
  by_cases c : b < 0
  · rw [if_pos c, if_pos c, mk_eq (by omega)]
    show _ = ((b.natAbs / Nat.gcd (-t).natAbs b.natAbs : Nat) : Int)
    rw [Int.natAbs_neg, key, show ((b.natAbs : Nat) : Int) = -b by omega]
    obtain ⟨x, hx⟩ := hd
    generalize gcdI t b = g at *
    subst hx
    rw [← Int.mul_neg, Int.mul_ediv_cancel_left _ (by omega), show g * x = (-g) * (-x) by rw [Int.neg_mul_neg], Int.mul_fdiv_cancel_left _ (by omega)]
  · rw [if_neg c, if_neg c, mk_eq (by omega)]
    show _ = ((b.natAbs / Nat.gcd t.natAbs b.natAbs : Nat) : Int)
    rw [key, show ((b.natAbs : Nat) : Int) = b by omega]
    exact Int.fdiv_eq_ediv_of_nonneg _ (by omega)
theorem gcdI_le {t b : Int} (h : b ≠ 0) : (gcdI t b).natAbs ≤ b.natAbs := by
  have := Nat.gcd_le_right t.natAbs (show 0 < b.natAbs by omega)
  unfold gcdI; omega
end Sc
namespace Sc
open Kzq1 (Q P)
/-! Reading points -/
def rdPt : List Int → Option P
  | [a, b, c, d] => match Kzq1.readQ a b, Kzq1.readQ c d with
    | some x, some y => some ⟨x, y⟩
    | _, _ => none
  | _ => none
theorem rp_cons (a b c d : Int) (l : List Int) : Kzq1.readPoints (a :: b :: c :: d :: l) = match rdPt [a, b, c, d], Kzq1.readPoints l with
    | some x, some r => some (x :: r)
    | _, _ => none := by
  show (match Kzq1.readQ a b, Kzq1.readQ c d, Kzq1.readPoints l with
    | some x, some y, some r => some ((⟨x, y⟩ : P) :: r)
    | _, _, _ => none) = (match (match Kzq1.readQ a b, Kzq1.readQ c d with
    | some x, some y => some (⟨x, y⟩ : P)
    | _, _ => none), Kzq1.readPoints l with
    | some x, some r => some (x :: r)
    | _, _ => none)
  cases Kzq1.readQ a b <;> cases Kzq1.readQ c d <;> cases Kzq1.readPoints l <;> rfl
theorem rp_app : ∀ (n : Nat) (l m : List Int), l.length = 4 * n → Kzq1.readPoints (l ++ m) = match Kzq1.readPoints l, Kzq1.readPoints m with
    | some x, some y => some (x ++ y)
    | _, _ => none
  | 0, l, m, h => by
    have e : l = [] := List.length_eq_zero_iff.mp (by omega)
    subst e
    show Kzq1.readPoints m = (match some ([] : List P), Kzq1.readPoints m with
      | some x, some y => some (x ++ y)
      | _, _ => none)
    cases Kzq1.readPoints m <;> rfl
  | n + 1, l, m, h => by
    match l, h with
    | a :: b :: c :: d :: r, h =>
      have h' : r.length = 4 * n := by simp at h; omega
      show Kzq1.readPoints (a :: b :: c :: d :: (r ++ m)) = _
      rw [rp_cons, rp_cons, rp_app n r m h']
      cases rdPt [a, b, c, d] <;> cases Kzq1.readPoints r <;> cases Kzq1.readPoints m <;> rfl
theorem rp_four {l : List Int} (h : l.length = 4) : Kzq1.readPoints l = (rdPt l).map fun p => [p] := by
  match l, h with
  | [a, b, c, d], _ =>
    rw [rp_cons]
    show (match rdPt [a, b, c, d], some ([] : List P) with
      | some x, some r => some (x :: r)
      | _, _ => none) = _
    cases rdPt [a, b, c, d] <;> rfl
/-- four more numbers -/
theorem rp_more {ns : List Int} {i n : Nat} (h : ns.length = 4 * n) (hi : i < n) : Kzq1.readPoints (ns.take (4 * (i + 1))) = match Kzq1.readPoints (ns.take (4 * i)), rdPt ((ns.drop (4 * i)).take 4) with
    | some x, some y => some (x ++ [y])
    | _, _ => none := by
  have e : ns.take (4 * (i + 1)) = ns.take (4 * i) ++ (ns.drop (4 * i)).take 4 := by
    rw [← List.take_add, Nat.mul_succ]
  rw [e, rp_app i _ _ (by rw [List.length_take]; omega), rp_four (l := (ns.drop (4 * i)).take 4) (by rw [List.length_take, List.length_drop]; omega)]
  cases Kzq1.readPoints (ns.take (4 * i)) <;> cases rdPt ((ns.drop (4 * i)).take 4) <;> rfl
theorem rp_bad {ns : List Int} {i n : Nat} (h : ns.length = 4 * n) (hi : i < n) (hr : rdPt ((ns.drop (4 * i)).take 4) = none) : Kzq1.readPoints ns = none := by
  have e : ns = ns.take (4 * (i + 1)) ++ ns.drop (4 * (i + 1)) := (List.take_append_drop _ _).symm
  rw [e, rp_app (i + 1) _ _ (by rw [List.length_take]; omega), rp_more h hi, hr]
  cases Kzq1.readPoints (ns.take (4 * i)) <;> rfl
theorem readQ_ok {a b : Int} {q : Q} (h : Kzq1.readQ a b = some q) : Ok q ∧ q.n = a ∧ (q.d : Int) = b := by
  unfold Kzq1.readQ at h
  split at h
  · cases h
  · split at h
    · rename_i c1 c2
      cases h
      exact ⟨(okQ_iff _).mp c2, rfl, by show ((b.toNat : Nat) : Int) = b; omega⟩
    · cases h
theorem rdPt_ok {l : List Int} {p : P} (h : rdPt l = some p) : OkP p ∧ l = [p.x.n, (p.x.d : Int), p.y.n, (p.y.d : Int)] := by
  unfold rdPt at h
  split at h
  · split at h
    · rename_i x y h1 h2
      cases h
      obtain ⟨o1, e1, e2⟩ := readQ_ok h1
      obtain ⟨o2, e3, e4⟩ := readQ_ok h2
      exact ⟨⟨o1, o2⟩, by rw [e1, e2, e3, e4]⟩
    · cases h
  · cases h
/-- what is read has fractions as told, of the numbers that were handed in -/
theorem rp_ok : ∀ {l : List Int} {ps : List P}, Kzq1.readPoints l = some ps → l = Kzq1.written ps ∧ ∀ p ∈ ps, OkP p
  | [], ps, h => by
    cases h
    exact ⟨rfl, fun p hp => by cases hp⟩
  | [_], ps, h => by cases h
  | [_, _], ps, h => by cases h
  | [_, _, _], ps, h => by cases h
  | a :: b :: c :: d :: r, ps, h => by
    rw [rp_cons] at h
    cases h1 : rdPt [a, b, c, d] with
    | none => rw [h1] at h; cases h
    | some p =>
      cases h2 : Kzq1.readPoints r with
      | none => rw [h1, h2] at h; cases h
      | some qs =>
        rw [h1, h2] at h
        cases h
        obtain ⟨o, e⟩ := rdPt_ok h1
        obtain ⟨e2, o2⟩ := rp_ok h2
        refine ⟨?_, fun z hz => ?_⟩
        · show _ = (p.x.n :: (p.x.d : Int) :: p.y.n :: (p.y.d : Int) :: Kzq1.written qs)
          rw [← e2]
          injection e with e3 e4
          injection e4 with e5 e6
          injection e6 with e7 e8
          injection e8 with e9 _
          rw [e3, e5, e7, e9]
        · rcases List.mem_cons.mp hz with rfl | hz
          · exact o
          · exact o2 z hz
theorem written_len : ∀ ps : List P, (Kzq1.written ps).length = 4 * ps.length
  | [] => rfl
  | p :: r => by
    show (p.x.n :: (p.x.d : Int) :: p.y.n :: (p.y.d : Int) :: Kzq1.written r).length = _
    simp only [List.length_cons, written_len r]
    omega
theorem rp_len {l : List Int} {ps : List P} (h : Kzq1.readPoints l = some ps) : l.length = 4 * ps.length := by
  obtain ⟨e, _⟩ := rp_ok h
  rw [e, written_len]
theorem rp_sz {l : List Int} {ps : List P} {k : Nat} (h : Kzq1.readPoints l = some ps) (hl : ∀ x ∈ l, x.natAbs < 2 ^ k) : ∀ p ∈ ps, SzP k p := by
  obtain ⟨e, _⟩ := rp_ok h
  intro p hp
  have m : ∀ x ∈ [p.x.n, (p.x.d : Int), p.y.n, (p.y.d : Int)], x.natAbs < 2 ^ k := fun x hx => hl x (by
    rw [e]
    exact List.mem_flatMap.mpr ⟨p, hp, hx⟩)
  have a1 := m p.x.n (by simp)
  have a2 := m (p.x.d : Int) (by simp)
  have a3 := m p.y.n (by simp)
  have a4 := m (p.y.d : Int) (by simp)
  rw [Int.natAbs_natCast] at a2 a4
  exact ⟨⟨a1, a2⟩, ⟨a3, a4⟩⟩
end Sc
/-! A comprehension whose item may raise: the error leaves the block, its names are let go, and it goes on in the def. -/
namespace ScL
open PySem PySem.Spec PyProof.Rows L2
/-- what is due behind a block's end: z is the block's own scene -/
def PostOk (M : Model) (A : Around) (E : Value → Shared → Prop) (use : Option (Value → Sem Unit)) (Qv : Value → Shared → Prop) (acc : Value) (z : Env) (t : Shared) : Prop := match use with
  | none => ∃ m, t.heap.Ns z.locals m ∧ ∀ g, Heap.SameBut z.locals t.heap g → Qv acc { t with heap := g }
  | some u => wpAny M A (u acc) (fun _ t2 => ∃ m, t2.heap.Ns z.locals m ∧ ∀ g, Heap.SameBut z.locals t2.heap g → Qv .none { t2 with heap := g }) E t
def PostX (M : Model) (A : Around) (E : Value → Shared → Prop) (use : Option (Value → Sem Unit)) (Qv : Value → Shared → Prop) (acc : Value) (z : Env) : Result → Shared → Prop
  | .ok _, t => PostOk M A E use Qv acc z t
  | .error u, t => ∃ m, t.heap.Ns z.locals m ∧ ∀ g, Heap.SameBut z.locals t.heap g → wpAny M A (passOn "comprehension.variables-let-go" u z : Sem Value) (fun _ _ => False) E { t with heap := g }
theorem comp_any {M : Model} {A : Around} {E : Value → Shared → Prop} {s : Shared} {env : Env} {e : Expr} {scope : Scope} {pos : Pos} {newAcc first : Sem Value} {g : Comprehension} {gs : List Comprehension} {cl : List (Str × Addr)} {use : Option (Value → Sem Unit)} {Qv : Value → Shared → Prop}
    (h1 : clausesOf e = g :: gs) (h2 : ∀ x, foldedSetIterable g.iter env x = pure x) (h3 : closureFor scope env = pure cl) (h4 : scope.kind = .function)
    (h5 : ∀ x ∈ scope.names, x.2 = .local → scope.names.lookup x.1 = some .local)
    (h : wpAny M A first (fun x t1 => wpAny M A (pyIter x) (fun it t2 => wpAny M A newAcc (fun acc t3 =>
      wpAny M A (newFunctionEnv scope env.globals cl [] env.qual none .none (some env)) (fun ce t4 =>
        codeAny M A (.compStart e 0 it acc { ce with scope := relabel scope env }) (PostX M A E use Qv acc { ce with scope := relabel scope env }) t4) E t3) E t2) E t1) E s) :
    wpAny M A (comprehension e scope env pos newAcc false first use) Qv E s := by
  unfold comprehension
  rw [h3, h1]
  refine wpAny_bind (wpAny_mono h (fun x t1 k1 => wpAny_bind (wpAny_standAt (wpAny_bind (wpAny_of_eq (h2 x) (wpAny_bind (wpAny_holding (wpAny_mono k1 (fun it t2 k2 =>
    wpAny_standIf (wpAny_bind (wpAny_mono k2 (fun acc t3 k3 => wpAny_bind (wpAny_pure (wpAny_bind (wpAny_mono k3 (fun ce t4 k4 => ?_) fun _ _ y => y)))) fun _ _ y => y))) fun _ _ y => y))))))) fun _ _ y => y)
  dsimp only
  have hv : ∀ x ∈ (scope.names.filter fun x => (x.2 == .local || x.2 == .cell) && x.1 != (".0" : Str)).reverse, x.2 = .local → Env.kindOf { ce with scope := relabel scope env } x.1 = some .local :=
    fun x hx hl => lookup_relabel_local (h5 x (List.mem_filter.mp (List.mem_reverse.mp hx)).1 hl)
  have hw : ∀ x ∈ (scope.names.filter fun x => (x.2 == .local || x.2 == .cell) && x.1 != (".0" : Str)).reverse.drop 1 ++ (scope.names.filter fun x => (x.2 == .local || x.2 == .cell) && x.1 != (".0" : Str)).reverse.take 1, x.2 = .local → Env.kindOf { ce with scope := relabel scope env } x.1 = some .local := fun x hx hl => by
    rcases List.mem_append.mp hx with k | k
    · exact hv x (List.mem_of_mem_drop k) hl
    · exact hv x (List.mem_of_mem_take k) hl
  refine wpAny_holding (wpAny_bind (wpAny_attempt (wpAny_holding (wpAny_run (codeAny_mono k4 fun r t5 hr => ?_)))))
  cases r with
  | ok f =>
    cases use with
    | none =>
      obtain ⟨m, hn, hr⟩ := hr
      exact wpAny_bind (wpAny_holding (wpAny_comp_letGo (cenv := { ce with scope := relabel scope env }) h4 _ t5 m hv hn fun g' m' _ hs' => wpAny_pure (hr g' hs')))
    | some u =>
      refine wpAny_bind (wpAny_rule (wpAny_bind (wpAny_holding (wpAny_mono hr (fun _ t6 hr' => ?_) fun _ _ y => y))))
      obtain ⟨m, hn, hr'⟩ := hr'
      exact wpAny_bind (wpAny_comp_letGo (cenv := { ce with scope := relabel scope env }) h4 _ t6 m hw hn fun g' m' _ hs' => wpAny_pure (hr' g' hs'))
  | error u =>
    have hr : ∃ m, t5.heap.Ns ce.locals m ∧ ∀ g, Heap.SameBut ce.locals t5.heap g → wpAny M A (passOn "comprehension.variables-let-go" u { ce with scope := relabel scope env } : Sem Value) (fun _ _ => False) E { t5 with heap := g } := hr
    obtain ⟨m, hn, hr⟩ := hr
    exact wpAny_bind (wpAny_holding (wpAny_comp_letGo (cenv := { ce with scope := relabel scope env }) h4 _ t5 m hv hn fun g' m' _ hs' => wpAny_mono (hr g' hs') (fun _ _ f => f.elim) fun _ _ y => y))
/-- the block's scene with a wish of exceptions -/
abbrev blkX (X : Cx) (s : Shared) (H : Hp) (scope : Scope) (ce : Env) (fp : List Addr) (xe : Value → Shared → Prop) : Cx := (X.blk s H scope ce fp).tr [] xe
theorem toX {X : Cx} {s : Shared} {H H' : Hp} {scope : Scope} {ce : Env} {fp : List Addr} {xe : Value → Shared → Prop} {pins : List (Addr × Obj)} {σ : L2.St} {t : Shared}
    (I : Inv (X.blk s H scope ce fp) pins σ H' t) : Inv (blkX X s H scope ce fp xe) pins σ H' t :=
  ⟨I.ok.toTry _ _, I.os, I.bare, I.base, I.loc, I.cell, I.free, I.freeC, I.pin, I.hok, I.len⟩
theorem note_env {M : Model} {A : Around} {E : Value → Shared → Prop} {s : Shared} {u : Value} {e1 e2 : Env} {Q : Unit → Shared → Prop} (h : e1.frame = e2.frame) (k : wpAny M A (noteFrame u e2) Q E s) : wpAny M A (noteFrame u e1) Q E s := by
  have q : noteFrame u e1 = noteFrame u e2 := by
    unfold noteFrame PySem.frameOf
    rw [h]
  rw [q]
  exact k
/-- an error that a call within the block lets out is, behind the block, in the def's own air -/
theorem out_of {X : Cx} {pins pins' : List (Addr × Obj)} {σ σ' : L2.St} {H3 H : Hp} {s3 s s' : Shared} {scope : Scope} {ce : Env} {fp : List Addr} {E : XK} {xe : Value → Shared → Prop} {u : Value} {use : Option (Value → Sem Unit)} {Qv : Value → Shared → Prop} {acc : Value}
    (hs : X.stack = X.env :: X.outer) (hf : X.env.frame = some X.env.locals) (hce : ce.frame = X.env.frame) (hcl : s3.heap.objs.size = ce.locals)
    (I3 : Inv X pins σ H3 s3) (f3 : ∀ b ∈ fp, FpOk X pins H3 b) (tk : Takes X (fun cls d _ H' => E cls d H'))
    (I : Inv (blkX X s3 H3 scope ce fp xe) pins' σ' H s) (c : CX X.prog X.w X.stack H s E u s') :
    notedBy (model X.prog X.w) X.A ce (fun e t => PostX (model X.prog X.w) X.A X.xe use Qv acc ce (.error e) t) u s' := by
  obtain ⟨a, B, H', cls, d, rfl, fl, hok, ub, na, os, ag, hE⟩ := c
  have nC : H ce.locals = none := I.free
  have nfr : ce.locals ∉ frs X.stack := fun hb => by
    obtain ⟨_, o, ho, _⟩ := I.ok.funs.mem hb
    have z := Heap.lt_size ho
    have z2 : s3.heap.objs.size ≤ ce.locals := I.ok.above
    exact absurd (Nat.lt_of_lt_of_le z z2) (Nat.lt_irrefl _)
  obtain ⟨mC, ⟨oC, esC, epC, hoC, rC⟩, _⟩ := I.loc
  have hoC : s.heap.get? ce.locals = some oC := hoC
  have BC : B.get? ce.locals = some oC := ub.keep _ _ hoC nC nfr
  have nC' : H' ce.locals = none := ub.free _ _ hoC nC
  have fl' : HandSPX.FlyingZ B (X.env :: X.outer) a (Zc cls d) s'.heap := by rw [← hs]; exact fl
  have hfr : X.A.frames = some (X.env :: X.outer) := by rw [I3.ok.frames, hs]
  refine note_env hce (HandSPX.looks_onZ Zc.steady hfr hf fl' fun g1 held up1 => ?_)
  obtain ⟨st1, nBa, ff1, oe, vs, T, oT, ts, he, hz, hd, h1, hnT, hTe, hT, hdT, hts⟩ := held
  have hC1 : g1.get? ce.locals = some oC := st1 _ _ BC
  refine ⟨mC, ⟨oC, esC, epC, hC1, rC⟩, fun g2 sb => ?_⟩
  have aC : a ≠ ce.locals := fun e => by rw [e, BC] at nBa; cases nBa
  have TC : T ≠ ce.locals := fun e => by rw [e, BC] at hnT; cases hnT
  -- the ground without the block's scene
  obtain ⟨B2, b1, b2⟩ := restrict B fun b => decide (b ≠ ce.locals)
  have bk : ∀ b, b ≠ ce.locals → B2.get? b = B.get? b := fun b hb => b1 b (decide_eq_true hb)
  have bn : B2.get? ce.locals = none := b2 _ (by simp)
  have ofB : ∀ b o, B2.get? b = some o → b ≠ ce.locals ∧ B.get? b = some o := fun b o q => by
    by_cases hb : b = ce.locals
    · rw [hb, bn] at q; cases q
    · rw [bk b hb] at q; exact ⟨hb, q⟩
  have nB2 : ∀ b, B.get? b = none → B2.get? b = none := fun b q => by
    by_cases hb : b = ce.locals
    · rw [hb]; exact bn
    · rw [bk b hb]; exact q
  have st2 : B2.StaysIn g2 := fun b o q => by
    obtain ⟨hb, q⟩ := ofB b o q
    exact (sb.2 b hb).trans (st1 b o q)
  have ff2 : g2.FunFrames B2 (X.env :: X.outer) := by
    have ffB : g1.FunFrames B2 (X.env :: X.outer) := funFrames_none ff1 fun L hL => nB2 L (ff1.mem hL).1
    have aux : ∀ l : List Env, (∀ b ∈ frs l, b ≠ ce.locals) → g1.FunFrames B2 l → g2.FunFrames B2 l := by
      intro l
      induction l with
      | nil => intro _ _; trivial
      | cons e0 r ih =>
        intro hn hl
        obtain ⟨hk, ⟨L, o, hfL, hnL, ho, hdL⟩, hr⟩ := hl
        have hL : L ∈ frs (e0 :: r) := by unfold frs; rw [List.filterMap_cons, hfL]; exact List.mem_cons_self
        refine ⟨hk, ⟨L, o, hfL, hnL, (sb.2 L (hn L hL)).trans ho, hdL⟩, ih (fun b hb => hn b ?_) hr⟩
        unfold frs; rw [List.filterMap_cons, hfL]; exact List.mem_cons_of_mem _ hb
    exact aux _ (fun b hb e => nfr (by rw [hs, ← e]; exact hb)) ffB
  have tr2 : HandSPX.TracedZ g2 B2 a (Zc cls d) (rawInt X.env.locals) :=
    ⟨oe, vs, T, oT, ts, (sb.2 a aC).trans he, hz, hd, h1, nB2 T hnT, hTe, (sb.2 T TC).trans hT, hdT, hts⟩
  -- it is passed on
  unfold PySem.passOn
  refine wpAny_bind (wpAny_field ((sb.2 a aC).trans he) hd h1 ?_)
  rw [if_neg (show ¬ ((Value.ref T == Value.none) = true) from by simp)]
  refine wpAny_bind ?_
  rw [hce, hf]
  refine HandSPX.setFlight_onZ (base := B2) (l := X.env :: X.outer) (Z := Zc cls d) (L := X.env.locals) ⟨st2, nB2 a nBa, ff2, tr2⟩ fun g3 held3 up3 => ?_
  refine wpAny_throw (tk _ _ ?_)
  -- the state without it
  obtain ⟨G, k1, k2⟩ := restrict s'.heap fun b => ((B.get? b).isSome || decide (b ∈ frs X.stack)) && decide (b ≠ ce.locals)
  have st : B.StaysIn s'.heap := fl.1
  have gB : ∀ b o, b ≠ ce.locals → B.get? b = some o → G.get? b = some o := fun b o hb q => by
    rw [k1 b (by simp [q, hb])]
    exact st b o q
  have gF : ∀ b, b ∈ frs X.stack → G.get? b = s'.heap.get? b := fun b hb => k1 b (by
    have hn : b ≠ ce.locals := fun e => nfr (e ▸ hb)
    simp [hb, hn])
  have og : ∀ b o, G.get? b = some o → s'.heap.get? b = some o ∧ b ≠ ce.locals ∧ (b ∈ frs X.stack ∨ B.get? b = some o) := fun b o q => by
    cases z : (((B.get? b).isSome || decide (b ∈ frs X.stack)) && decide (b ≠ ce.locals)) with
    | false => rw [k2 b z] at q; cases q
    | true =>
      rw [k1 b z] at q
      rw [Bool.and_eq_true] at z
      have hn : b ≠ ce.locals := of_decide_eq_true z.2
      refine ⟨q, hn, ?_⟩
      by_cases hb : b ∈ frs X.stack
      · exact .inl hb
      · have z1 := z.1
        rw [decide_eq_false hb, Bool.or_false] at z1
        obtain ⟨o', q'⟩ := Option.isSome_iff_exists.mp z1
        have q2 := st b o' q'
        rw [q] at q2; cases q2
        exact .inr q'
  have old : ∀ b o, s3.heap.get? b = some o → b ≠ ce.locals := fun b o q e => by
    have z := Heap.lt_size q
    rw [e, ← hcl] at z
    exact absurd z (Nat.lt_irrefl _)
  have nt : ∀ b u, H' b = some u → b ≠ ce.locals := fun b u q e => by rw [e, nC'] at q; cases q
  have hokG : HOk X.prog X.w H' G := fun b o q => (hok b o q).stay (fun b2 u2 hc r => gB b2 u2 (by
    rcases hc with hc | hc
    · rw [hc]; exact nt b o q
    · exact nt b2 _ hc) r) (fun _ r => r) fun _ _ r => r
  have Ub := I.base
  have un : Un (frs X.stack) fp H3 H' s3.heap G := by
    refine ⟨fun b o q n hb hx => ?_, fun b o q n hb hx => ?_, fun b o q n hx => ?_, fun b o q hx => ?_, fun b xs q => ub.tups b xs (Ub.tups b xs q), fun b o xs q => ub.frzs b o xs (Ub.frzs b o xs q), fun b ps q => ?_⟩
    · exact gB b o (old b o q) (ub.keep b o (Ub.keep b o q n hb hx) (Ub.free b o q n hx) hb)
    · obtain ⟨sl, q1⟩ := Ub.slot b o q n hb hx
      obtain ⟨sl2, q2⟩ := ub.slot b _ q1 hb
      exact ⟨sl2, by rw [gF b hb]; exact q2⟩
    · obtain ⟨o1, q1⟩ := Ub.there b o q hx
      exact ub.free b o1 q1 (Ub.free b o q n hx)
    · obtain ⟨o1, q1⟩ := Ub.there b o q hx
      by_cases hb : b ∈ frs X.stack
      · obtain ⟨sl2, q2⟩ := ub.slot b _ q1 hb
        exact ⟨_, by rw [gF b hb]; exact q2⟩
      · obtain ⟨o2, q2⟩ := ub.there b o1 q1 hb
        exact ⟨o2, gB b o2 (old b o q) q2⟩
    · obtain ⟨m1, q1⟩ := Ub.tbls b ps q
      obtain ⟨m2, q2⟩ := ub.tbls b _ q1
      exact ⟨m1 ++ m2, by rw [q2, Array.append_assoc]⟩
  have hos : s.os = s3.os := I.os
  have J : Inv X pins σ H' { s3 with heap := G, gens := s'.gens, drawn := s'.drawn, toks := s'.toks } :=
    I3.call (ch := fp) un hokG ag fun b hb => ⟨(f3 b hb).2.2.2.1, (f3 b hb).2.1, (f3 b hb).2.2.2.2.1, (f3 b hb).2.2.2.2.2⟩
  have sbU : ∀ b o, b ≠ ce.locals → s'.heap.get? b = some o → (∀ vs, o.data ≠ .fields vs) → ∃ sl, g3.get? b = some { o with slots := sl } := fun b o hb q hn => by
    obtain ⟨sl, q1⟩ := up1 b o q hn
    obtain ⟨sl2, q2⟩ := up3 b _ ((sb.2 b hb).trans q1) hn
    exact ⟨sl2, q2⟩
  refine ⟨a, B2, _, pins, σ, H', cls, d, rfl, J, fun b o q hb => ?_, fun b o q hn => ?_, .inr (.inr (by rw [hs]; exact held3)), na, ?_, ag, hE⟩
  · obtain ⟨_, hn, z⟩ := og b o q
    rcases z with z | z
    · exact absurd z hb
    · rw [bk b hn]; exact z
  · obtain ⟨q1, hn1, _⟩ := og b o q
    exact sbU b o hn1 q1 hn
  · exact os.trans hos
/-- [elt for tg in iter if ..], its item may let an error out -/
theorem lcX_core {X : Cx} {pins : List (Addr × Obj)} {s : Shared} {σ : L2.St} {H : Hp} {Q : VK} {elt tg iter : Expr} {ifs : List Expr} {scope : Scope} {own : List (Str × Nat)} {pos pos' : Pos} {wi : TI} {g : TG} {tt : TT} {te : TE} {E : XK} {use : Option (Value → Sem Unit)} {Qf : Value → Shared → Prop} (hc : X.calm = true) (hN : X.N.Nodup) (I : Inv X pins σ H s)
    (hs : X.stack = X.env :: X.outer) (hf : X.env.frame = some X.env.locals) (tk : Takes X (fun cls d _ H' => E cls d H')) (hi : PI X tg iter wi) (ok : BlkOk X.N X.env.scope scope own)
    (hg : ∀ (s : Shared) (H : Hp) (C : Addr) (cl : List (Str × Addr)) (fp : List Addr) (xe : Value → Shared → Prop), PG (blkX X s H scope (compEnvC scope cl C X.env) fp xe) tg g)
    (ht : ∀ (s : Shared) (H : Hp) (C : Addr) (cl : List (Str × Addr)) (fp : List Addr) (xe : Value → Shared → Prop), PTs (blkX X s H scope (compEnvC scope cl C X.env) fp xe) ifs tt)
    (he : ∀ (s : Shared) (H : Hp) (C : Addr) (cl : List (Str × Addr)) (fp : List Addr) (xe : Value → Shared → Prop), Passes (CX X.prog X.w) (blkX X s H scope (compEnvC scope cl C X.env) fp xe) E → PE (blkX X s H scope (compEnvC scope cl C X.env) fp xe) elt te)
    (hfs : ∀ x, foldedSetIterable iter X.env x = pure x) (h : tLc wi g tt te (own.map (·.2)) σ H Q)
    (hRR : ∀ D (ce : Env) s' m H', Inv X pins σ H' s' → Q (.ref D) H' → s'.heap.Ns ce.locals m → FpOk X pins H' ce.locals → PostOk (model X.prog X.w) X.A X.xe use Qf (.ref D) ce s') :
    wpAny (model X.prog X.w) X.A (comprehension (.ListComp elt [⟨tg, iter, ifs, 0⟩] scope pos) scope X.env pos' (newList []) false (eval iter X.env) use) Qf X.xe s := by
  have hfree : ∀ y ∈ scope.names, y.2 = .free → ∃ c, X.env.cells.lookup y.1 = some c := fun y hy e => by
    rcases ok.free y hy e with k | k
    · exact I.ok.has _ (.inl k)
    · exact I.ok.has _ (.inr k)
  refine comp_any rfl hfs (closure_ok hfree) ok.kind (fun y hy e => by rw [ok.uniq y hy, e]) (thn (hi.run pins s σ H _ I h) fun xv s1 hx => thn hx fun itv s2 h2 => ?_)
  obtain ⟨it, fp, tn, J, H2, e, I2, T, st2, f2, q⟩ := h2
  subst e
  refine wpAny_newObj_type (newEnv_comp ?_) (by show 0 ≤ sizeLine; decide)
  generalize hD : s2.heap.objs.size = D
  have hDn : H2 D = none := I2.hok.fresh (Nat.le_of_eq hD)
  obtain ⟨W, ⟨m0, w0⟩, turn⟩ := q D hDn
  generalize hs3 : ({ s2 with heap := s2.heap.push { cls := .type "list", data := .seq ([] : List Value).toArray } } : Shared) = s3
  have h3 : s3.heap = s2.heap.push { cls := .type "list", data := .seq ([] : List Value).toArray } := by rw [← hs3]
  have I3 : Inv X pins σ (upd H2 D (.lst [])) s3 := by
    rw [← hs3]
    refine I2.laid (t' := s2.toks) (fun b o q => Heap.get?_push_of_some _ q) (Nat.le_of_eq hD) ⟨Nat.zero_le _, [], 0, .nil, ?_⟩
    rw [← hD]; exact Heap.get?_push_size _ rfl
  have f3 : ∀ b ∈ fp, FpOk X pins (upd H2 D (.lst [])) b ∧ b < s3.heap.objs.size := fun b hb => by
    obtain ⟨o, e, _⟩ := T.obj _ _ st2 b hb
    have hlt := Heap.lt_size e
    refine ⟨⟨?_, (f2 b hb).2⟩, by rw [h3, Heap.size_push]; exact Nat.lt_succ_of_lt hlt⟩
    rw [upd_ne (by rw [← hD]; exact Nat.ne_of_lt hlt)]; exact (f2 b hb).1
  have st3 : tn 0 s3.heap := T.keep _ _ _ st2 fun b _ o e => by rw [h3]; exact Heap.get?_push_of_some _ e
  have I4 := block_start I3 ok hN f3
  have pg := hg s3 (upd H2 D (.lst [])) s3.heap.objs.size (cellsFrom (s3.heap.objs.size + 1) scope.names (cloFrom X.env.cells scope.names [])) fp
  have pt := ht s3 (upd H2 D (.lst [])) s3.heap.objs.size (cellsFrom (s3.heap.objs.size + 1) scope.names (cloFrom X.env.cells scope.names [])) fp
  have pe := he s3 (upd H2 D (.lst [])) s3.heap.objs.size (cellsFrom (s3.heap.objs.size + 1) scope.names (cloFrom X.env.cells scope.names [])) fp
  show codeAny _ _ (.compStart (.ListComp elt [⟨tg, iter, ifs, 0⟩] scope pos) 0 (.ref it) (.ref D) (compEnvC scope (cellsFrom (s3.heap.objs.size + 1) scope.names (cloFrom X.env.cells scope.names [])) s3.heap.objs.size X.env))
    (PostX (model X.prog X.w) X.A X.xe use Qf (.ref D) (compEnvC scope (cellsFrom (s3.heap.objs.size + 1) scope.names (cloFrom X.env.cells scope.names [])) s3.heap.objs.size X.env)) { s3 with heap := pushCells (s3.heap.push { cls := .type "dict", data := .dict #[] }) scope.names }
  have nfp : ∀ b ∈ fp, (upd H2 D (.lst [])) b = none := fun b hb => (f3 b hb).1.1
  generalize hce : compEnvC scope (cellsFrom (s3.heap.objs.size + 1) scope.names (cloFrom X.env.cells scope.names [])) s3.heap.objs.size X.env = ce at I4 pg pt pe ⊢
  have cL : ce.locals = s3.heap.objs.size := by subst hce; rfl
  have cF : ce.frame = X.env.frame := by subst hce; rfl
  generalize hH3 : upd H2 D (.lst []) = H3 at I3 I4 pg pt pe w0 nfp f3
  generalize hs4 : ({ s3 with heap := pushCells (s3.heap.push { cls := .type "dict", data := .dict #[] }) scope.names } : Shared) = s4 at I4 ⊢
  have st4 : tn 0 s4.heap := T.keep _ _ _ st3 fun b _ o e => by rw [← hs4]; exact pushCells_keeps _ _ _ _ (Heap.get?_push_of_some _ e)
  -- the wish of the block's errors
  obtain ⟨R, hR⟩ : ∃ R, R = PostX (model X.prog X.w) X.A X.xe use Qf (.ref D) ce := ⟨_, rfl⟩
  rw [← hR]
  obtain ⟨xe, hxe⟩ : ∃ xe : Value → Shared → Prop, xe = notedBy (model X.prog X.w) X.A ce fun e t => R (.error e) t := ⟨_, rfl⟩
  have I4 : Inv (blkX X s3 H3 scope ce fp xe) [] (wipe σ (own.map (·.2))) H3 s4 := toX I4
  have pg := pg xe
  have pt := pt xe
  have pe := pe xe (fun pins' σ' H' t u t' I' c => by
    show xe u t'
    rw [hxe, hR]
    exact out_of hs hf cF cL.symm I3 (fun b hb => (f3 b hb).1) tk I' c)
  have stat : ∀ {σ' : L2.St} {H' : Hp} {t : Shared}, Inv (blkX X s3 H3 scope ce fp xe) [] σ' H' t → (∀ b ∈ fp, H' b = none) → ∀ b ∈ fp, FpOk (blkX X s3 H3 scope ce fp xe) [] H' b := fun {σ' H' t} I' hn b hb =>
    ⟨hn b hb, (I'.ok.exf b hb).1, I'.ok.exfs b hb, .inl hb, fun x c e => (I'.ok.exf b hb).2 x c e, fun p hp => absurd (show p ∈ ([] : List (Addr × Obj)) ++ [] from hp) (by simp)⟩
  have loop : codeAny (model X.prog X.w) X.A (.compLoop (.ListComp elt [⟨tg, iter, ifs, 0⟩] scope pos) 0 (.ref it) (.ref D) ce) R s4 := by
    refine compLoop_any (fun n t => ∃ i H', Inv (blkX X s3 H3 scope ce fp xe) [] (wipe σ (own.map (·.2))) H' t ∧ tn i t.heap ∧ (∀ b ∈ fp, H' b = none) ∧ W i n H') ?_ m0 ⟨0, H3, I4, st4, nfp, w0⟩
    rintro n s5 ⟨i, H5, I5, st5, n5, w5⟩
    rw [← hxe]
    rcases turn i n H5 w5 with ⟨stop, qq⟩ | ⟨go, Nx, hNx, step⟩
    · have td := T.done (blkX X s3 H3 scope ce fp xe) rfl rfl rfl hc i [] s5 _ H5 xe I5 (stat I5 n5) st5 stop
      refine thn td fun r s6 ⟨hr, I6⟩ => ?_
      subst hr
      have I7 : Inv X pins σ H5 s6 := I3.call' (ch := fp) I6.os I6.base I6.hok I6.bare fun b hb => ⟨(f3 b hb).1.2.2.2.1, (f3 b hb).1.2.1, (f3 b hb).1.2.2.2.2.1, (f3 b hb).1.2.2.2.2.2⟩
      have nC : H5 s3.heap.objs.size = none := by
        have z : H5 ce.locals = none := I6.free
        rw [cL] at z; exact z
      obtain ⟨m, hn, _⟩ := I6.loc
      have hn : s6.heap.Ns ce.locals m := hn
      show R (.ok .next) s6
      rw [hR]
      have fo := I3.fpOk (Nat.le_refl _) nC
      rw [← cL] at fo
      exact hRR D ce s6 m H5 I7 qq hn fo
    · have ti := T.item (blkX X s3 H3 scope ce fp xe) rfl rfl rfl hc i [] s5 _ H5 xe I5 (stat I5 n5) st5 go
      refine thn ti fun r s6 ⟨u, hr, h6⟩ => ?_
      subst hr
      refine thn h6 fun _ s7 ⟨x, H7, I7, r7, y7, st7, n7⟩ => ?_
      have I7' := I7.pinned (stat I7 n7) (T.obj _ _ st7)
      refine thn (pg.run _ s7 _ H7 x u _ I7' r7 (step x H7 y7)) fun _ s8 ⟨σ8, H8, I8, hw8, q8⟩ => ?_
      refine thn (pt.run _ s8 σ8 H8 _ I8 q8) fun b s9 ⟨H9, I9, q9⟩ => ?_
      have fin : ∀ {t : Shared} {H' : Hp}, Inv (blkX X s3 H3 scope ce fp xe) ([] ++ pinsAt fp s7.heap) σ8 H' t → Nx H' →
          ∃ m, m < n ∧ ∃ i H', Inv (blkX X s3 H3 scope ce fp xe) [] (wipe σ (own.map (·.2))) H' t ∧ tn i t.heap ∧ (∀ b ∈ fp, H' b = none) ∧ W i m H' := fun {t H'} I' nx => by
        obtain ⟨m', hm, w'⟩ := hNx H' nx
        have pin' : ∀ b ∈ fp, ∀ o, s7.heap.get? b = some o → t.heap.get? b = some o ∧ H' b = none := fun b hb o e =>
          let z := I'.pin (b, o) (List.mem_append_right _ (List.mem_append_right _ (mem_pinsAt hb e)))
          ⟨z.1, z.2.1⟩
        have hl : (wipe σ (own.map (·.2))).length = σ8.length := by rw [← hw8, wipe_length]
        refine ⟨m', hm, i + 1, H', (I'.unpinned (pins := [])).weak hl (fun j v e => by rw [← hw8] at e; exact (wipe_some e).1), T.keep _ _ _ st7 fun b hb o e => (pin' b hb o e).1, fun b hb => ?_, w'⟩
        obtain ⟨o, e, _⟩ := T.obj _ _ st7 b hb
        exact (pin' b hb o e).2
      cases b with
      | false =>
        simp only [Bool.false_eq_true, if_false] at q9 ⊢
        exact fin I9 q9
      | true =>
        simp only [if_true] at q9 ⊢
        refine thn (pe.run _ s9 σ8 H9 _ I9 q9) fun z s10 ⟨yv, H10, I10, r10, acc, hD10, hz10, nx⟩ => ?_
        exact app_ok (X := blkX X s3 H3 scope ce fp xe) I10 hD10 hz10 r10 fun s11 I11 => fin I11 nx
  exact codeAny_compStart_list loop (T.self X.A 0 _ _ _ st4 loop)
theorem pe_lcX {X : Cx} {elt tg iter : Expr} {ifs : List Expr} {scope : Scope} {own : List (Str × Nat)} {pos : Pos} {wi : TI} {g : TG} {tt : TT} {te : TE} {E : XK} (hc : X.calm = true) (hN : X.N.Nodup)
    (hs : X.stack = X.env :: X.outer) (hf : X.env.frame = some X.env.locals) (tk : Takes X (fun cls d _ H' => E cls d H')) (hi : PI X tg iter wi) (ok : BlkOk X.N X.env.scope scope own)
    (hg : ∀ (s : Shared) (H : Hp) (C : Addr) (cl : List (Str × Addr)) (fp : List Addr) (xe : Value → Shared → Prop), PG (blkX X s H scope (compEnvC scope cl C X.env) fp xe) tg g)
    (ht : ∀ (s : Shared) (H : Hp) (C : Addr) (cl : List (Str × Addr)) (fp : List Addr) (xe : Value → Shared → Prop), PTs (blkX X s H scope (compEnvC scope cl C X.env) fp xe) ifs tt)
    (he : ∀ (s : Shared) (H : Hp) (C : Addr) (cl : List (Str × Addr)) (fp : List Addr) (xe : Value → Shared → Prop), Passes (CX X.prog X.w) (blkX X s H scope (compEnvC scope cl C X.env) fp xe) E → PE (blkX X s H scope (compEnvC scope cl C X.env) fp xe) elt te)
    (hfs : ∀ x, foldedSetIterable iter X.env x = pure x := by intro _; rfl) : PE X (.ListComp elt [⟨tg, iter, ifs, 0⟩] scope pos) (tLc wi g tt te (own.map (·.2))) := by
  refine ⟨fun pins s σ H Q I h => ?_⟩
  rw [eval_ListComp]
  refine lcX_core (E := E) hc hN I hs hf tk hi ok hg ht he hfs h fun D ce s' m H' I' q hn f => ⟨m, hn, fun g' sb => ?_⟩
  obtain ⟨y0, y1, y2, y3, y4, y5⟩ := f
  exact ⟨.ref D, H', I'.turned (t' := s'.toks) (fun b o hb e => (sb.2 b hb).trans e) y0 y1 y3 y4 y5, rfl, q⟩
/-- y = [elt for tg in iter if ..] on one line, its item may let an error out -/
theorem ps_setLcX {X : Cx} {i : Nat} {y : Str} {py : Pos} {elt tg iter : Expr} {ifs : List Expr} {scope : Scope} {own : List (Str × Nat)} {pos spos : Pos} {wi : TI} {g : TG} {tt : TT} {te : TE} {E : XK} (hc : X.calm = true) (hN : X.N.Nodup) (hy : X.N[i]? = some y) (hyl : X.env.scope.names.lookup y = some .local)
    (hsw : swapsWith (.ListComp elt [⟨tg, iter, ifs, 0⟩] scope pos) (some (.Name y py)) spos.line X.env = pure true)
    (hs : X.stack = X.env :: X.outer) (hf : X.env.frame = some X.env.locals) (tk : Takes X (fun cls d _ H' => E cls d H')) (hi : PI X tg iter wi) (ok : BlkOk X.N X.env.scope scope own)
    (hg : ∀ (s : Shared) (H : Hp) (C : Addr) (cl : List (Str × Addr)) (fp : List Addr) (xe : Value → Shared → Prop), PG (blkX X s H scope (compEnvC scope cl C X.env) fp xe) tg g)
    (ht : ∀ (s : Shared) (H : Hp) (C : Addr) (cl : List (Str × Addr)) (fp : List Addr) (xe : Value → Shared → Prop), PTs (blkX X s H scope (compEnvC scope cl C X.env) fp xe) ifs tt)
    (he : ∀ (s : Shared) (H : Hp) (C : Addr) (cl : List (Str × Addr)) (fp : List Addr) (xe : Value → Shared → Prop), Passes (CX X.prog X.w) (blkX X s H scope (compEnvC scope cl C X.env) fp xe) E → PE (blkX X s H scope (compEnvC scope cl C X.env) fp xe) elt te)
    (hfs : ∀ x, foldedSetIterable iter X.env x = pure x := by intro _; rfl) :
    PS X (.Assign [.Name y py] (.ListComp elt [⟨tg, iter, ifs, 0⟩] scope pos) spos) (tAsg (tLc wi g tt te (own.map (·.2))) (gName i)) := by
  refine ⟨fun pins s σ H D I h => ?_⟩
  rw [exec_Assign_Name_used _ _ _ _ hsw]
  refine wpAny_bind (wpAny_standAt (wpAny_bind ?_))
  show wpAny _ X.A (do let _ ← comprehension (.ListComp elt [⟨tg, iter, ifs, 0⟩] scope pos) scope X.env (firstIterPos [⟨tg, iter, ifs, 0⟩] pos) (newList []) false (eval iter X.env) (some (assign (.Name y py) X.env))) _ _ s
  have h : tLc wi g tt te (own.map (·.2)) σ H (fun x H1 => gName i x σ H1 D.nx) := h
  refine wpAny_bind (thn (lcX_core (E := E) (Qf := fun _ s' => SP X pins D .next s') hc hN I hs hf tk hi ok hg ht he hfs h fun L ce s' m H' I' q hn f => ?_) fun _ s' hq => wpAny_pure (wpAny_pure hq))
  show wpAny _ _ (assign (.Name y py) X.env (.ref L)) _ _ _
  refine wpAny_assign_Name (store_ok2 (v := V.ref L) I' hN hy (.inl hyl) rfl (fun s2 I2 ⟨a, sb, ha⟩ => ?_) (.inr hyl))
  obtain ⟨f0, f1, f2, f3, f4, f5⟩ := f
  have haC : ce.locals ≠ a := by
    rcases ha with z | z
    · rw [z]; exact f1
    · exact fun e => f4 y a z e.symm
  refine ⟨m, hn.sameBut sb haC, fun h3 sb3 => ?_⟩
  exact ⟨_, H', I2.turned (t' := s2.toks) (fun b o hb e => (sb3.2 b hb).trans e) f0 f1 f3 f4 f5, q⟩
end ScL
namespace Sc
open Kzq1 (Q P)
theorem rat_mk {n : Int} {d : Nat} (h : d ≠ 0) : mkRat n d = (n : Rat) / ((d : Nat) : Rat) := by
  rw [Rat.mkRat_eq_div]
theorem val_mkJ {t b : Int} (h : b ≠ 0) : val (mkI t b) = (t : Rat) / (b : Rat) := by
  unfold mkI
  by_cases c : b < 0
  · rw [if_pos c, val_mk (by omega), ← Rat.divInt_ofNat, show ((b.natAbs : Nat) : Int) = -b by omega, Rat.neg_divInt_neg, Rat.divInt_eq_div]
  · rw [if_neg c, val_mk (by omega), ← Rat.divInt_ofNat, show ((b.natAbs : Nat) : Int) = b by omega, Rat.divInt_eq_div]
theorem val_nd {a : Q} (h : Ok a) : val a = (a.n : Rat) / ((a.d : Int) : Rat) := by
  unfold val
  rw [Rat.mkRat_eq_div]; rfl
theorem mkI_div {a b : Q} (ha : Ok a) (hb : Ok b) (h : b.n ≠ 0) : mkI (a.n * (b.d : Int)) ((a.d : Int) * b.n) = Kzq1.div a b := by
  have hv : val b ≠ 0 := fun e => h ((n_zero_iff hb).mpr e)
  have hd : (a.d : Int) ≠ 0 := by have := ha.1; omega
  have hbd : (b.d : Int) ≠ 0 := by have := hb.1; omega
  have h0 : (a.d : Int) * b.n ≠ 0 := Int.mul_ne_zero hd h
  refine val_inj (mkI_ok h0) (div_ok ha hb hv) ?_
  rw [val_mkJ h0, val_div ha hb hv, val_nd ha, val_nd hb, Rat.intCast_mul, Rat.intCast_mul]
  have e1 : ((a.d : Int) : Rat) ≠ 0 := by simpa using hd
  have e2 : ((b.d : Int) : Rat) ≠ 0 := by simpa using hbd
  have e3 : (b.n : Rat) ≠ 0 := by simpa using h
  generalize ((a.d : Int) : Rat) = x at *
  generalize ((b.d : Int) : Rat) = y at *
  generalize (a.n : Rat) = p at *
  generalize (b.n : Rat) = q at *
  grind
theorem mkI_sz {t b : Int} {k : Nat} (h : b ≠ 0) (h1 : t.natAbs < 2 ^ k) (h2 : b.natAbs < 2 ^ k) : Sz k (mkI t b) := by
  unfold mkI
  split
  · exact mk_sz (by omega) (by rw [Int.natAbs_neg]; exact h1) h2
  · exact mk_sz (by omega) h1 h2
theorem div_sz {a b : Q} {j k : Nat} (ha : Ok a) (hb : Ok b) (h : b.n ≠ 0) (h1 : Sz j a) (h2 : Sz k b) : Sz (j + k) (Kzq1.div a b) := by
  have hd : (a.d : Int) ≠ 0 := by have := ha.1; omega
  rw [← mkI_div ha hb h]
  refine mkI_sz (Int.mul_ne_zero hd h) (mul_lt h1.1 (by simpa using h2.2)) ?_
  have := mul_lt (i := (a.d : Int)) (j := b.n) (a := j) (b := k) (by simpa using h1.2) h2.1
  exact this
end Sc
namespace Sc
/-! Pieces in the plane of rationals -/
structure V2 where
  x : Rat
  y : Rat
deriving DecidableEq
def tn (a b c : V2) : Rat := (b.x - a.x) * (c.y - a.y) - (b.y - a.y) * (c.x - a.x)
def mx (t : Rat) (a b : V2) : V2 := ⟨a.x + t * (b.x - a.x), a.y + t * (b.y - a.y)⟩
theorem tn_cyc (a b c : V2) : tn b c a = tn a b c := by unfold tn; grind
theorem tn_cyc2 (a b c : V2) : tn c a b = tn a b c := by unfold tn; grind
theorem tn_swap (a b c : V2) : tn b a c = - tn a b c := by unfold tn; grind
theorem tn_aa (a c : V2) : tn a a c = 0 := by unfold tn; grind
theorem tn_bb (a b : V2) : tn a b b = 0 := by unfold tn; grind
theorem tn_ab (a b : V2) : tn a b a = 0 := by unfold tn; grind
theorem tn_mx1 (t : Rat) (a b p q : V2) : tn (mx t a b) p q = (1 - t) * tn a p q + t * tn b p q := by unfold tn mx; grind
theorem tn_mx2 (t : Rat) (a b p q : V2) : tn p (mx t a b) q = (1 - t) * tn p a q + t * tn p b q := by unfold tn mx; grind
theorem tn_mx3 (t : Rat) (a b p q : V2) : tn p q (mx t a b) = (1 - t) * tn p q a + t * tn p q b := by unfold tn mx; grind
theorem mx_zero (a b : V2) : mx 0 a b = a := by cases a; unfold mx; simp [Rat.zero_mul, Rat.add_zero]
theorem V2.ext' {a b : V2} (h1 : a.x = b.x) (h2 : a.y = b.y) : a = b := by cases a; cases b; simp_all
/-- the three shares of a point in a triangle -/
theorem bary (o b c z : V2) : tn b c z + tn c o z + tn o b z = tn o b c := by unfold tn; grind
theorem bary_tn (s t o b c z : V2) : tn o b c * tn s t z = tn b c z * tn s t o + tn c o z * tn s t b + tn o b z * tn s t c := by unfold tn; grind
/-- what lies on two lines that aren't one lies where they cross -/
theorem two_lines {u v w p : V2} (h : tn u v w ≠ 0) (h1 : tn u v p = 0) (h2 : tn v w p = 0) : p = v := by
  have e1 : tn u v w * (p.x - v.x) = tn u v p * (w.x - v.x) + tn v w p * (u.x - v.x) := by unfold tn; grind
  have e2 : tn u v w * (p.y - v.y) = tn u v p * (w.y - v.y) + tn v w p * (u.y - v.y) := by unfold tn; grind
  rw [h1, h2, Rat.zero_mul, Rat.zero_mul, Rat.add_zero] at e1 e2
  have f1 : p.x - v.x = 0 := (Rat.mul_eq_zero.mp e1).resolve_left h
  have f2 : p.y - v.y = 0 := (Rat.mul_eq_zero.mp e2).resolve_left h
  exact V2.ext' (by grind) (by grind)
/-- two lines through the same two points: alike at all points -/
theorem same_line {s t p q v z : V2} (hp : tn s t p = 0) (hq : tn s t q = 0) : tn s t z * tn p q v = tn p q z * tn s t v := by
  have e : tn s t z * tn p q v - tn p q z * tn s t v = (tn s t q) * tn p z v + (tn s t p) * tn z q v := by unfold tn; grind
  rw [hp, hq] at e
  grind
theorem nn_mul {a b : Rat} (h1 : 0 ≤ a) (h2 : 0 ≤ b) : 0 ≤ a * b := Rat.mul_nonneg h1 h2
theorem p_mul {a b : Rat} (h1 : 0 < a) (h2 : 0 < b) : 0 < a * b := Rat.mul_pos h1 h2
/-! corners, counted round and round -/
def ac (l : List V2) (i : Nat) : V2 := l.getD (i % l.length) ⟨0, 0⟩
theorem ac_lt {l : List V2} {i : Nat} (h : i < l.length) : ac l i = l[i] := by
  unfold ac
  rw [Nat.mod_eq_of_lt h, List.getD_eq_getElem?_getD, List.getElem?_eq_getElem h]; rfl
theorem ac_mod (l : List V2) (i : Nat) : ac l (i % l.length) = ac l i := by unfold ac; rw [Nat.mod_mod]
theorem ac_add (l : List V2) (i : Nat) : ac l (i + l.length) = ac l i := by unfold ac; rw [Nat.add_mod_right]
theorem ac_len (l : List V2) : ac l l.length = ac l 0 := by unfold ac; rw [Nat.mod_self, Nat.zero_mod]
theorem ac_mem {l : List V2} (i : Nat) (h : 0 < l.length) : ac l i ∈ l := by
  rw [← ac_mod, ac_lt (Nat.mod_lt _ h)]
  exact List.getElem_mem _
theorem mem_ac {l : List V2} {v : V2} (h : v ∈ l) : ∃ i, i < l.length ∧ v = ac l i := by
  obtain ⟨i, hi, e⟩ := List.mem_iff_getElem.mp h
  exact ⟨i, hi, by rw [ac_lt hi, e]⟩
/-- all corners in order turn to the left -/
def Tri (l : List V2) : Prop := ∀ a b c, [a, b, c].Sublist l → 0 < tn a b c
theorem Tri.at {l : List V2} (h : Tri l) {i j k : Nat} (h1 : i < j) (h2 : j < k) (h3 : k < l.length) : 0 < tn (ac l i) (ac l j) (ac l k) := by
  rw [ac_lt (show i < l.length by omega), ac_lt (show j < l.length by omega), ac_lt h3]
  refine h _ _ _ ?_
  have s3 : [l[k]].Sublist (l.drop (j + 1)) := List.singleton_sublist.mpr (List.mem_iff_getElem.mpr ⟨k - (j + 1), by rw [List.length_drop]; omega, by rw [List.getElem_drop]; congr 1; omega⟩)
  have s2 : [l[j], l[k]].Sublist (l.drop (i + 1)) := by
    have e : l.drop j = (l.drop (i + 1)).drop (j - (i + 1)) := by rw [List.drop_drop]; congr 1; omega
    refine List.Sublist.trans ?_ (List.drop_sublist (j - (i + 1)) (l.drop (i + 1)))
    rw [← e, List.drop_eq_getElem_cons (show j < l.length by omega)]
    exact s3.cons_cons _
  refine List.Sublist.trans ?_ (List.drop_sublist i l)
  rw [List.drop_eq_getElem_cons (show i < l.length by omega)]
  exact s2.cons_cons _
theorem Tri.weak {l : List V2} (h : Tri l) {i j k : Nat} (h1 : i ≤ j) (h2 : j ≤ k) (h3 : k ≤ l.length) : 0 ≤ tn (ac l i) (ac l j) (ac l k) := by
  by_cases c1 : i = j
  · subst c1; rw [tn_aa]; exact Rat.le_refl
  by_cases c2 : j = k
  · subst c2; rw [tn_bb]; exact Rat.le_refl
  by_cases c3 : k < l.length
  · exact Rat.le_of_lt (h.at (by omega) (by omega) c3)
  have e : k = l.length := by omega
  subst e
  rw [ac_len]
  by_cases c4 : i = 0
  · subst c4; rw [tn_ab]; exact Rat.le_refl
  · rw [tn_cyc]
    exact Rat.le_of_lt (h.at (by omega) (by omega) (by omega))
theorem Tri.strict {l : List V2} (h : Tri l) {i j k : Nat} (h1 : i < j) (h2 : j < k) (h3 : k ≤ l.length) (h4 : 0 < i ∨ k < l.length) : 0 < tn (ac l i) (ac l j) (ac l k) := by
  by_cases c3 : k < l.length
  · exact h.at (by omega) (by omega) c3
  have e : k = l.length := by omega
  subst e
  rw [ac_len, ← tn_cyc2]
  exact h.at (by omega) (by omega) (by omega)
theorem Tri.sub {l m : List V2} (h : Tri l) (s : m.Sublist l) : Tri m := fun a b c k => h a b c (k.trans s)
theorem Tri.rot {l m : List V2} (h : Tri (l ++ m)) : Tri (m ++ l) := by
  intro a b c s
  obtain ⟨u, v, e, h1, h2⟩ := List.sublist_append_iff.mp s
  have k := h2.append h1
  match u, e with
  | [], e => 
    subst e
    exact h _ _ _ (by simpa using k)
  | [_], e => 
    simp at e
    obtain ⟨rfl, rfl⟩ := e
    rw [← tn_cyc]; exact h _ _ _ k
  | [_, _], e => 
    simp at e
    obtain ⟨rfl, rfl, rfl⟩ := e
    rw [← tn_cyc2]; exact h _ _ _ k
  | [_, _, _], e => 
    simp at e
    obtain ⟨rfl, rfl, rfl, rfl⟩ := e
    exact h _ _ _ (by simpa using k)
  | _ :: _ :: _ :: _ :: _, e => simp at e
/-- on the left of all sides -/
def Rg (l : List V2) (z : V2) : Prop := ∀ i, 0 ≤ tn (ac l i) (ac l (i + 1)) z
theorem Rg.of {l : List V2} {z : V2} (h : ∀ i, i < l.length → 0 ≤ tn (ac l i) (ac l (i + 1)) z) : Rg l z := by
  intro i
  by_cases c : l.length = 0
  · have e : l = [] := List.length_eq_zero_iff.mp c
    subst e
    show 0 ≤ tn ⟨0, 0⟩ ⟨0, 0⟩ z
    rw [tn_aa]; exact Rat.le_refl
  · have k := h (i % l.length) (Nat.mod_lt _ (by omega))
    have e : ac l (i % l.length + 1) = ac l (i + 1) := by
      unfold ac
      rw [Nat.mod_add_mod]
    rw [ac_mod, e] at k
    exact k
theorem ac_rot (l m : List V2) (i : Nat) : ac (m ++ l) i = ac (l ++ m) (i + l.length) := by
  by_cases c : (m ++ l).length = 0
  · have h1 : m = [] := by cases m with
      | nil => rfl
      | cons a b => simp at c
    have h2 : l = [] := by cases l with
      | nil => rfl
      | cons a b => simp at c
    subst h1; subst h2; rfl
  · rw [← ac_mod (m ++ l) i, ← ac_mod (l ++ m) (i + l.length)]
    have hl : (l ++ m).length = (m ++ l).length := by simp [Nat.add_comm]
    have hi : i % (m ++ l).length < (m ++ l).length := Nat.mod_lt _ (by omega)
    have e0 : (i + l.length) % (l ++ m).length = (i % (m ++ l).length + l.length) % (m ++ l).length := by rw [hl, Nat.mod_add_mod]
    rw [e0]
    generalize i % (m ++ l).length = k at *
    have hk : k < m.length + l.length := by simpa using hi
    rw [ac_lt hi]
    by_cases c2 : k < m.length
    · have e1 : (k + l.length) % (m ++ l).length = k + l.length := Nat.mod_eq_of_lt (by rw [List.length_append]; omega)
      rw [e1, ac_lt (by rw [List.length_append]; omega), List.getElem_append_left c2, List.getElem_append_right (by omega)]
      congr 1; omega
    · have e1 : (k + l.length) % (m ++ l).length = k - m.length := by
        rw [List.length_append, show k + l.length = (k - m.length) + (m.length + l.length) by omega, Nat.add_mod_right]
        exact Nat.mod_eq_of_lt (by omega)
      rw [e1, ac_lt (by rw [List.length_append]; omega), List.getElem_append_right (by omega), List.getElem_append_left (by omega)]
theorem Rg.rot {l m : List V2} {z : V2} (h : Rg (l ++ m) z) : Rg (m ++ l) z := by
  intro i
  rw [ac_rot l m i, ac_rot l m (i + 1), show i + 1 + l.length = i + l.length + 1 by omega]
  exact h _
theorem Rg.rot_iff {l m : List V2} {z : V2} : Rg (l ++ m) z ↔ Rg (m ++ l) z := ⟨Rg.rot, Rg.rot⟩
/-- from each side all other corners lie on the left -/
theorem Tri.side {l : List V2} (h : Tri l) {i j : Nat} (hi : i < l.length) (hj : j < l.length) : j = i ∨ j = (i + 1) % l.length ∨ 0 < tn (ac l i) (ac l (i + 1)) (ac l j) := by
  by_cases c1 : j = i
  · exact .inl c1
  by_cases c2 : j = (i + 1) % l.length
  · exact .inr (.inl c2)
  refine .inr (.inr ?_)
  by_cases c3 : i + 1 < l.length
  · rw [Nat.mod_eq_of_lt c3] at c2
    by_cases c4 : j < i
    · rw [← tn_cyc2]
      exact h.at c4 (by omega) c3
    · exact h.at (by omega) (by omega) hj
  · have e : i + 1 = l.length := by omega
    rw [e, Nat.mod_self] at c2
    rw [e, ac_len, tn_cyc2]
    exact h.at (by omega) (by omega) hi
theorem Tri.mem_rg {l : List V2} (h : Tri l) {v : V2} (hv : v ∈ l) : Rg l v := by
  obtain ⟨j, hj, rfl⟩ := mem_ac hv
  refine Rg.of fun i hi => ?_
  rcases h.side hi hj with e | e | e
  · rw [e, tn_ab]; exact Rat.le_refl
  · rw [e, ac_mod, tn_bb]; exact Rat.le_refl
  · exact Rat.le_of_lt e
theorem Tri.ne {l : List V2} (h : Tri l) (h3 : 3 ≤ l.length) {i j : Nat} (h1 : i < j) (h2 : j < l.length) : ac l i ≠ ac l j := by
  intro e
  by_cases c : j + 1 < l.length
  · have k := h.at h1 (show j < j + 1 by omega) c
    rw [e, tn_aa] at k; exact absurd k (by decide)
  · by_cases c2 : 0 < i
    · have k := h.at (show 0 < i by omega) h1 h2
      rw [e, tn_bb] at k; exact absurd k (by decide)
    · have k := h.at (show i < 1 by omega) (show 1 < j by omega) h2
      rw [e, tn_ab] at k; exact absurd k (by decide)
/-- a point on the left of all sides lies in a triangle of the corners -/
theorem Rg.fan {l : List V2} {z : V2} (h : Rg l z) (h3 : 3 ≤ l.length) : ∃ i, 1 ≤ i ∧ i + 1 < l.length ∧ 0 ≤ tn (ac l 0) (ac l i) z ∧ 0 ≤ tn (ac l i) (ac l (i + 1)) z ∧ 0 ≤ tn (ac l (i + 1)) (ac l 0) z := by
  refine Classical.byContradiction fun no => ?_
  have key : ∀ i, 1 ≤ i → i < l.length → 0 ≤ tn (ac l 0) (ac l i) z := by
    intro i h1
    induction i with
    | zero => omega
    | succ i ih =>
      intro hi
      by_cases c : i = 0
      · subst c; exact h 0
      · have k := ih (by omega) (by omega)
        have k2 : ¬ 0 ≤ tn (ac l (i + 1)) (ac l 0) z := fun q => no ⟨i, by omega, hi, k, h i, q⟩
        rw [tn_swap] at k2
        grind
  have k := key (l.length - 2) (by omega) (by omega)
  have e : l.length - 2 + 1 = l.length - 1 := by omega
  have e2 : l.length - 1 + 1 = l.length := by omega
  have s1 := h (l.length - 2)
  have s2 := h (l.length - 1)
  rw [e] at s1
  rw [e2, ac_len] at s2
  exact no ⟨l.length - 2, by omega, by omega, k, by rw [e]; exact s1, by rw [e]; exact s2⟩
/-- what all corners keep all points keep -/
theorem Rg.hull {l : List V2} {z s t : V2} (T : Tri l) (h : Rg l z) (h3 : 3 ≤ l.length) (k : ∀ v ∈ l, 0 ≤ tn s t v) : 0 ≤ tn s t z := by
  obtain ⟨i, h1, h2, a, b, c⟩ := h.fan h3
  have D := T.at (show 0 < i by omega) (show i < i + 1 by omega) h2
  have e := bary_tn s t (ac l 0) (ac l i) (ac l (i + 1)) z
  have p1 := nn_mul b (k _ (ac_mem 0 (by omega)))
  have p2 := nn_mul c (k _ (ac_mem i (by omega)))
  have p3 := nn_mul a (k _ (ac_mem (i + 1) (by omega)))
  refine Rat.not_lt.mp fun n => ?_
  have := Rat.mul_pos D (show 0 < - tn s t z by grind)
  grind
/-- the corners are told by what lies on the left of the sides -/
theorem same_corners {l m : List V2} (T : Tri l) (U : Tri m) (hl : 3 ≤ l.length) (hm : 3 ≤ m.length) (h : ∀ z, Rg l z ↔ Rg m z) {v : V2} (hv : v ∈ l) : v ∈ m := by
  have r := (h v).mp (T.mem_rg hv)
  obtain ⟨i, h1, h2, a, b, c⟩ := r.fan hm
  have D := U.at (show 0 < i by omega) (show i < i + 1 by omega) h2
  obtain ⟨j, hj, rfl⟩ := mem_ac hv
  -- the two sides at the corner
  let p := j + l.length - 1
  have ep : p + 1 = j + l.length := by omega
  have eq : ac l (p + 1) = ac l j := by rw [ep, ac_add]
  have turn : tn (ac l p) (ac l j) (ac l (j + 1)) ≠ 0 := by
    by_cases c0 : j = 0
    · have e1 : ac l p = ac l (l.length - 1) := by show ac l (j + l.length - 1) = _; rw [c0, Nat.zero_add]
      rw [e1, c0, ← tn_cyc]
      exact Rat.ne_of_gt (T.at (by omega) (by omega) (by omega))
    · have e1 : ac l p = ac l (j - 1) := by rw [← ac_add l (j - 1)]; congr 1; omega
      rw [e1]
      exact Rat.ne_of_gt (T.strict (by omega) (by omega) (by omega) (by omega))
  have on1 : ∀ q, q ∈ m → 0 ≤ tn (ac l p) (ac l j) q := fun q hq => by
    have := (h q).mpr (U.mem_rg hq) p
    rw [eq] at this; exact this
  have on2 : ∀ q, q ∈ m → 0 ≤ tn (ac l j) (ac l (j + 1)) q := fun q hq => (h q).mpr (U.mem_rg hq) j
  have e1 := bary_tn (ac l p) (ac l j) (ac m 0) (ac m i) (ac m (i + 1)) (ac l j)
  have e2 := bary_tn (ac l j) (ac l (j + 1)) (ac m 0) (ac m i) (ac m (i + 1)) (ac l j)
  rw [tn_bb, Rat.mul_zero] at e1
  rw [tn_ab, Rat.mul_zero] at e2
  have m0 := ac_mem (l := m) 0 (by omega)
  have m1 := ac_mem (l := m) i (by omega)
  have m2 := ac_mem (l := m) (i + 1) (by omega)
  have p1 := nn_mul b (on1 _ m0); have p2 := nn_mul c (on1 _ m1); have p3 := nn_mul a (on1 _ m2)
  have q1 := nn_mul b (on2 _ m0); have q2 := nn_mul c (on2 _ m1); have q3 := nn_mul a (on2 _ m2)
  have s := bary (ac m 0) (ac m i) (ac m (i + 1)) (ac l j)
  have z1 : tn (ac m i) (ac m (i + 1)) (ac l j) * tn (ac l p) (ac l j) (ac m 0) = 0 := by grind
  have z2 : tn (ac m (i + 1)) (ac m 0) (ac l j) * tn (ac l p) (ac l j) (ac m i) = 0 := by grind
  have z3 : tn (ac m 0) (ac m i) (ac l j) * tn (ac l p) (ac l j) (ac m (i + 1)) = 0 := by grind
  have y1 : tn (ac m i) (ac m (i + 1)) (ac l j) * tn (ac l j) (ac l (j + 1)) (ac m 0) = 0 := by grind
  have y2 : tn (ac m (i + 1)) (ac m 0) (ac l j) * tn (ac l j) (ac l (j + 1)) (ac m i) = 0 := by grind
  have y3 : tn (ac m 0) (ac m i) (ac l j) * tn (ac l j) (ac l (j + 1)) (ac m (i + 1)) = 0 := by grind
  by_cases w1 : tn (ac m i) (ac m (i + 1)) (ac l j) = 0
  · by_cases w2 : tn (ac m (i + 1)) (ac m 0) (ac l j) = 0
    · have w3 : tn (ac m 0) (ac m i) (ac l j) ≠ 0 := by grind
      rw [← two_lines turn ((Rat.mul_eq_zero.mp z3).resolve_left w3) ((Rat.mul_eq_zero.mp y3).resolve_left w3)]
      exact m2
    · rw [← two_lines turn ((Rat.mul_eq_zero.mp z2).resolve_left w2) ((Rat.mul_eq_zero.mp y2).resolve_left w2)]
      exact m1
  · rw [← two_lines turn ((Rat.mul_eq_zero.mp z1).resolve_left w1) ((Rat.mul_eq_zero.mp y1).resolve_left w1)]
    exact m0
/-- two rows in order with the same members are one -/
theorem sorted_eq {α : Type} {R : α → α → Prop} (as : ∀ a b, R a b → ¬ R b a) : ∀ {l m : List α}, l.Pairwise R → m.Pairwise R → (∀ x, x ∈ l ↔ x ∈ m) → l = m
  | [], [], _, _, _ => rfl
  | [], y :: m, _, _, h => absurd ((h y).mpr List.mem_cons_self) (by simp)
  | x :: l, [], _, _, h => absurd ((h x).mp List.mem_cons_self) (by simp)
  | x :: l, y :: m, h1, h2, h => by
    obtain ⟨a1, b1⟩ := List.pairwise_cons.mp h1
    obtain ⟨a2, b2⟩ := List.pairwise_cons.mp h2
    have e : x = y := by
      refine Classical.byContradiction fun n => ?_
      have hx : x ∈ m := by
        rcases List.mem_cons.mp ((h x).mp List.mem_cons_self) with e | e
        · exact absurd e n
        · exact e
      have hy : y ∈ l := by
        rcases List.mem_cons.mp ((h y).mpr List.mem_cons_self) with e | e
        · exact absurd e.symm n
        · exact e
      exact as _ _ (a1 y hy) (a2 x hx)
    subst e
    have ir : ¬ R x x := fun r => as _ _ r r
    rw [sorted_eq as b1 b2 fun z => ?_]
    constructor
    · intro hz
      rcases List.mem_cons.mp ((h z).mp (List.mem_cons_of_mem _ hz)) with e | e
      · subst e; exact absurd (a1 z hz) ir
      · exact e
    · intro hz
      rcases List.mem_cons.mp ((h z).mpr (List.mem_cons_of_mem _ hz)) with e | e
      · subst e; exact absurd (a2 z hz) ir
      · exact e
theorem Tri.pw {a : V2} {l : List V2} (h : Tri (a :: l)) : l.Pairwise fun b c => 0 < tn a b c :=
  List.pairwise_iff_forall_sublist.mpr fun s => h _ _ _ (s.cons_cons a)
/-- two pieces with the same points, begun with the same corner, are one -/
theorem same_piece {a : V2} {l m : List V2} (T : Tri (a :: l)) (U : Tri (a :: m)) (hl : 2 ≤ l.length) (hm : 2 ≤ m.length) (h : ∀ z, Rg (a :: l) z ↔ Rg (a :: m) z) : l = m := by
  have hl' : 3 ≤ (a :: l).length := by simp; omega
  have hm' : 3 ≤ (a :: m).length := by simp; omega
  have nl : a ∉ l := fun ha => by
    obtain ⟨i, hi, e⟩ := mem_ac ha
    have k := T.ne hl' (show 0 < i + 1 by omega) (by simpa using hi)
    rw [ac_lt (by simp), ac_lt (by simpa using hi)] at k
    rw [ac_lt hi] at e
    exact k (by simpa using e)
  have nm : a ∉ m := fun ha => by
    obtain ⟨i, hi, e⟩ := mem_ac ha
    have k := U.ne hm' (show 0 < i + 1 by omega) (by simpa using hi)
    rw [ac_lt (by simp), ac_lt (by simpa using hi)] at k
    rw [ac_lt hi] at e
    exact k (by simpa using e)
  refine sorted_eq (fun b c h1 h2 => ?_) T.pw U.pw fun x => ?_
  · have e : tn a c b = - tn a b c := by unfold tn; grind
    grind
  · constructor
    · intro hx
      rcases List.mem_cons.mp (same_corners T U hl' hm' h (List.mem_cons_of_mem _ hx)) with e | e
      · subst e; exact absurd hx nl
      · exact e
    · intro hx
      rcases List.mem_cons.mp (same_corners U T hm' hl' (fun z => (h z).symm) (List.mem_cons_of_mem _ hx)) with e | e
      · subst e; exact absurd hx nm
      · exact e
end Sc
namespace Sc
/-! A piece cut along a line -/
/-- neighbours in a row made of rows -/
theorem head_fm {α : Type} (g : Nat → List α) : ∀ (k a : Nat) (q : α) (v : List α), (List.range' a k).flatMap g = q :: v → ∃ j v', a ≤ j ∧ g j = q :: v' ∧ ∀ m, a ≤ m → m < j → g m = []
  | 0, a, q, v, h => by simp at h
  | k + 1, a, q, v, h => by
    rw [List.range'_succ, List.flatMap_cons] at h
    cases e : g a with
    | nil =>
      rw [e, List.nil_append] at h
      obtain ⟨j, v', h1, h2, h3⟩ := head_fm g k (a + 1) q v h
      refine ⟨j, v', by omega, h2, fun m hm hj => ?_⟩
      by_cases c : m = a
      · rw [c]; exact e
      · exact h3 m (by omega) hj
    | cons y t =>
      rw [e, List.cons_append] at h
      injection h with h1 h2
      subst h1
      exact ⟨a, t, Nat.le_refl _, e, fun m h1 h2 => by omega⟩
theorem adj_fm {α : Type} (g : Nat → List α) : ∀ (k a : Nat) (u : List α) (p q : α) (v : List α), (List.range' a k).flatMap g = u ++ p :: q :: v →
    (∃ i u' v', g i = u' ++ p :: q :: v') ∨ (∃ i j u' v', i < j ∧ g i = u' ++ [p] ∧ g j = q :: v' ∧ ∀ m, i < m → m < j → g m = [])
  | 0, a, u, p, q, v, h => by simp at h
  | k + 1, a, u, p, q, v, h => by
    rw [List.range'_succ, List.flatMap_cons] at h
    rcases List.append_eq_append_iff.mp h with ⟨w, e1, e2⟩ | ⟨w, e1, e2⟩
    · exact adj_fm g k (a + 1) w p q v e2
    · cases w with
      | nil =>
        rw [List.nil_append] at e2
        exact adj_fm g k (a + 1) [] p q v (by rw [← e2]; rfl)
      | cons p' w =>
        rw [List.cons_append] at e2
        injection e2 with e3 e4
        subst e3
        cases w with
        | nil =>
          rw [List.nil_append] at e4
          obtain ⟨j, v', h1, h2, h3⟩ := head_fm g k (a + 1) q v e4.symm
          exact .inr ⟨a, j, u, v', by omega, e1, h2, fun m hm hj => h3 m (by omega) hj⟩
        | cons q' w =>
          rw [List.cons_append] at e4
          injection e4 with e5 e6
          subst e5
          exact .inl ⟨a, u, w, e1⟩
/-- three of a row made of rows -/
theorem sub_fm {α : Type} (g : Nat → List α) (p q r : α) : ∀ (k a : Nat), [p, q, r].Sublist ((List.range' a k).flatMap g) →
    (∃ i j l, i < j ∧ j < l ∧ l < a + k ∧ p ∈ g i ∧ q ∈ g j ∧ r ∈ g l) ∨ (∃ i j, i < j ∧ j < a + k ∧ [p, q].Sublist (g i) ∧ r ∈ g j) ∨ (∃ i j, i < j ∧ j < a + k ∧ p ∈ g i ∧ [q, r].Sublist (g j)) ∨ ∃ i, [p, q, r].Sublist (g i) := by
  have one : ∀ (k a : Nat) (x : α), [x].Sublist ((List.range' a k).flatMap g) → ∃ i, a ≤ i ∧ i < a + k ∧ x ∈ g i := fun k a x h => by
    obtain ⟨i, hi, hx⟩ := List.mem_flatMap.mp (List.singleton_sublist.mp h)
    obtain ⟨h1, h2⟩ := List.mem_range'_1.mp hi
    exact ⟨i, h1, h2, hx⟩
  have two : ∀ (k a : Nat) (x y : α), [x, y].Sublist ((List.range' a k).flatMap g) → (∃ i j, a ≤ i ∧ i < j ∧ j < a + k ∧ x ∈ g i ∧ y ∈ g j) ∨ ∃ i, a ≤ i ∧ i < a + k ∧ [x, y].Sublist (g i) := by
    intro k
    induction k with
    | zero => intro a x y h; simp at h
    | succ k ih =>
      intro a x y h
      rw [List.range'_succ, List.flatMap_cons] at h
      obtain ⟨u, v, e, h1, h2⟩ := List.sublist_append_iff.mp h
      match u, e with
      | [], e =>
        simp at e; subst e
        rcases ih (a + 1) x y h2 with ⟨i, j, q1, q2, q3, q4, q5⟩ | ⟨i, q1, q2, q3⟩
        · exact .inl ⟨i, j, by omega, q2, by omega, q4, q5⟩
        · exact .inr ⟨i, by omega, by omega, q3⟩
      | [_], e =>
        simp at e; obtain ⟨rfl, rfl⟩ := e
        obtain ⟨j, q1, q2, q3⟩ := one k (a + 1) y h2
        exact .inl ⟨a, j, Nat.le_refl _, by omega, by omega, List.singleton_sublist.mp h1, q3⟩
      | [_, _], e =>
        simp at e; obtain ⟨rfl, rfl, rfl⟩ := e
        exact .inr ⟨a, Nat.le_refl _, by omega, h1⟩
      | _ :: _ :: _ :: _, e => simp at e
  intro k
  induction k with
  | zero => intro a h; simp at h
  | succ k ih =>
    intro a h
    rw [List.range'_succ, List.flatMap_cons] at h
    obtain ⟨u, v, e, h1, h2⟩ := List.sublist_append_iff.mp h
    match u, e with
    | [], e =>
      simp at e; subst e
      rcases ih (a + 1) h2 with ⟨i, j, l, q1, q2, q3, q4⟩ | ⟨i, j, q1, q2, q3⟩ | ⟨i, j, q1, q2, q3⟩ | q
      · exact .inl ⟨i, j, l, q1, q2, by omega, q4⟩
      · exact .inr (.inl ⟨i, j, q1, by omega, q3⟩)
      · exact .inr (.inr (.inl ⟨i, j, q1, by omega, q3⟩))
      · exact .inr (.inr (.inr q))
    | [_], e =>
      simp at e; obtain ⟨rfl, rfl⟩ := e
      rcases two k (a + 1) q r h2 with ⟨i, j, q1, q2, q3, q4, q5⟩ | ⟨i, q1, q2, q3⟩
      · exact .inl ⟨a, i, j, by omega, q2, by omega, List.singleton_sublist.mp h1, q4, q5⟩
      · exact .inr (.inr (.inl ⟨a, i, by omega, by omega, List.singleton_sublist.mp h1, q3⟩))
    | [_, _], e =>
      simp at e; obtain ⟨rfl, rfl, rfl⟩ := e
      obtain ⟨j, q1, q2, q3⟩ := one k (a + 1) r h2
      exact .inr (.inl ⟨a, j, by omega, by omega, h1, q3⟩)
    | [_, _, _], e =>
      simp at e; obtain ⟨rfl, rfl, rfl, rfl⟩ := e
      exact .inr (.inr (.inr ⟨a, h1⟩))
    | _ :: _ :: _ :: _ :: _, e => simp at e
/-- of the side from a to b: its first corner, if it's on the left; where it crosses -/
def crosses (s t a b : V2) : Prop := (0 < tn s t a ∧ tn s t b < 0) ∨ (tn s t a < 0 ∧ 0 < tn s t b)
instance (s t a b : V2) : Decidable (crosses s t a b) := inferInstanceAs (Decidable (_ ∨ _))
def xp (s t a b : V2) : V2 := mx (tn s t a / (tn s t a - tn s t b)) a b
def gp (s t a b : V2) : List V2 := (if tn s t a < 0 then [] else [a]) ++ if crosses s t a b then [xp s t a b] else []
def clip2 (s t : V2) (l : List V2) : List V2 := (List.range l.length).flatMap fun i => gp s t (ac l i) (ac l (i + 1))
theorem share {u v : Rat} (h : (0 < u ∧ v < 0) ∨ (u < 0 ∧ 0 < v)) : 0 < u / (u - v) ∧ u / (u - v) < 1 ∧ (1 - u / (u - v)) * u + u / (u - v) * v = 0 := by
  have h0 : u - v ≠ 0 := by grind
  have e : u / (u - v) * (u - v) = u := Rat.div_mul_cancel h0
  generalize u / (u - v) = t at *
  have e3 : (1 - t) * u + t * v = 0 := by grind
  refine ⟨?_, ?_, e3⟩
  · refine Rat.not_le.mp fun n => ?_
    rcases h with ⟨h1, h2⟩ | ⟨h1, h2⟩
    · have := nn_mul (show 0 ≤ -t by grind) (show 0 ≤ u - v by grind)
      grind
    · have := nn_mul (show 0 ≤ -t by grind) (show 0 ≤ v - u by grind)
      grind
  · refine Rat.not_le.mp fun n => ?_
    rcases h with ⟨h1, h2⟩ | ⟨h1, h2⟩
    · have := nn_mul (show 0 ≤ t - 1 by grind) (show 0 ≤ u - v by grind)
      grind
    · have := nn_mul (show 0 ≤ t - 1 by grind) (show 0 ≤ v - u by grind)
      grind
/-- a point of gp, told as its share of the side -/
structure OnSide (s t a b : V2) (p : V2) (r : Rat) : Prop where
  e : p = mx r a b
  lo : 0 ≤ r
  hi : r < 1
  f : 0 ≤ tn s t p
  z : r = 0 ∨ tn s t p = 0
  a0 : tn s t a < 0 → 0 < r
theorem xp_on {s t a b : V2} (h : crosses s t a b) : OnSide s t a b (xp s t a b) (tn s t a / (tn s t a - tn s t b)) ∧ 0 < tn s t a / (tn s t a - tn s t b) := by
  obtain ⟨h1, h2, h3⟩ := share h
  have z : tn s t (xp s t a b) = 0 := by unfold xp; rw [tn_mx3]; exact h3
  exact ⟨⟨rfl, Rat.le_of_lt h1, h2, by rw [z]; exact Rat.le_refl, .inr z, fun _ => h1⟩, h1⟩
theorem gp_on {s t a b p : V2} (h : p ∈ gp s t a b) : ∃ r, OnSide s t a b p r := by
  unfold gp at h
  rcases List.mem_append.mp h with h | h
  · by_cases c : tn s t a < 0
    · rw [if_pos c] at h; simp at h
    · rw [if_neg c] at h
      simp at h
      subst h
      exact ⟨0, (mx_zero _ _).symm, Rat.le_refl, by decide, Rat.not_lt.mp c, .inl rfl, fun k => absurd k c⟩
  · by_cases c : crosses s t a b
    · rw [if_pos c] at h
      simp at h
      subst h
      exact ⟨_, (xp_on c).1⟩
    · rw [if_neg c] at h; simp at h
theorem gp_two {s t a b p q : V2} (h : [p, q].Sublist (gp s t a b)) : p = a ∧ q = xp s t a b ∧ 0 < tn s t a ∧ tn s t b < 0 := by
  unfold gp at h
  by_cases c : tn s t a < 0
  · rw [if_pos c, List.nil_append] at h
    split at h
    · have := h.length_le; simp at this
    · have := h.length_le; simp at this
  · rw [if_neg c] at h
    by_cases k : crosses s t a b
    · rw [if_pos k] at h
      have e : [p, q] = [a, xp s t a b] := h.eq_of_length rfl
      injection e with e1 e2
      injection e2 with e2 _
      refine ⟨e1, e2, ?_⟩
      rcases k with k | k
      · exact k
      · exact absurd k.1 c
    · rw [if_neg k] at h
      have := h.length_le; simp at this
theorem gp_three {s t a b p q r : V2} (h : [p, q, r].Sublist (gp s t a b)) : False := by
  have h1 := h.length_le
  unfold gp at h1
  rw [List.length_append] at h1
  have a1 : (if tn s t a < 0 then ([] : List V2) else [a]).length ≤ 1 := by split <;> simp
  have a2 : (if crosses s t a b then [xp s t a b] else []).length ≤ 1 := by split <;> simp
  simp only [List.length_cons, List.length_nil] at h1
  omega
theorem add_pos1 {a b : Rat} (h1 : 0 < a) (h2 : 0 ≤ b) : 0 < a + b := by grind
/-- a piece cut along a line keeps turning to the left -/
theorem clip_tri {s t : V2} {l : List V2} (T : Tri l) (h3 : 3 ≤ l.length) : Tri (clip2 s t l) := by
  intro p q r h
  unfold clip2 at h
  rw [List.range_eq_range'] at h
  rcases sub_fm _ p q r _ _ h with ⟨i, j, k, h1, h2, h3', hp, hq, hr⟩ | ⟨i, j, h1, h2, hpq, hr⟩ | ⟨i, j, h1, h2, hp, hqr⟩ | ⟨i, k⟩
  · -- on three sides
    obtain ⟨x, ⟨rfl, x0, x1, _, _, _⟩⟩ := gp_on hp
    obtain ⟨y, ⟨rfl, y0, y1, _, _, _⟩⟩ := gp_on hq
    obtain ⟨z, ⟨rfl, z0, z1, _, _, _⟩⟩ := gp_on hr
    have hx : 0 < 1 - x := by grind
    have hy : 0 < 1 - y := by grind
    have hz : 0 < 1 - z := by grind
    rw [tn_mx1, tn_mx2, tn_mx2, tn_mx3, tn_mx3, tn_mx3, tn_mx3]
    have w := fun (a b c : Nat) (h1 : a ≤ b) (h2 : b ≤ c) (h3 : c ≤ l.length) => T.weak h1 h2 h3
    refine add_pos1 (p_mul hx (add_pos1 (p_mul hy (add_pos1 (p_mul hz (T.at h1 h2 (by omega))) (nn_mul z0 (w _ _ _ (by omega) (by omega) (by omega))))) (nn_mul y0 ?_))) (nn_mul x0 ?_)
    · have a1 := nn_mul (Rat.le_of_lt hz) (w i (j + 1) k (by omega) (by omega) (by omega))
      have a2 := nn_mul z0 (w i (j + 1) (k + 1) (by omega) (by omega) (by omega))
      grind
    · have a1 := nn_mul (Rat.le_of_lt hy) (nn_mul (Rat.le_of_lt hz) (w (i + 1) j k (by omega) (by omega) (by omega)))
      have a2 := nn_mul (Rat.le_of_lt hy) (nn_mul z0 (w (i + 1) j (k + 1) (by omega) (by omega) (by omega)))
      have a3 := nn_mul y0 (nn_mul (Rat.le_of_lt hz) (w (i + 1) (j + 1) k (by omega) (by omega) (by omega)))
      have a4 := nn_mul y0 (nn_mul z0 (w (i + 1) (j + 1) (k + 1) (by omega) (by omega) (by omega)))
      grind
  · -- two on one side, one behind
    obtain ⟨rfl, rfl, fa, fb⟩ := gp_two hpq
    obtain ⟨z, ⟨rfl, z0, z1, fz, _, za⟩⟩ := gp_on hr
    obtain ⟨_, u0⟩ := xp_on (.inl ⟨fa, fb⟩)
    have hz : 0 < 1 - z := by grind
    unfold xp
    rw [tn_mx2, tn_aa, Rat.mul_zero, Rat.zero_add, tn_mx3]
    refine p_mul u0 ?_
    by_cases c : j = i + 1
    · subst c
      have zz := za fb
      have k := T.strict (i := i) (j := i + 1) (k := i + 1 + 1) (by omega) (by omega) (by omega) (by omega)
      have := p_mul zz k
      rw [tn_bb]
      grind
    · have k := p_mul hz (T.at (i := i) (j := i + 1) (k := j) (by omega) (by omega) (by omega))
      have k2 := nn_mul z0 (T.weak (i := i) (j := i + 1) (k := j + 1) (by omega) (by omega) (by omega))
      exact add_pos1 k k2
  · -- one, and two on one side behind
    obtain ⟨rfl, rfl, fa, fb⟩ := gp_two hqr
    obtain ⟨z, ⟨rfl, z0, z1, fz, _, za⟩⟩ := gp_on hp
    obtain ⟨_, u0⟩ := xp_on (.inl ⟨fa, fb⟩)
    have hz : 0 < 1 - z := by grind
    unfold xp
    rw [tn_mx3, tn_bb, Rat.mul_zero, Rat.zero_add, tn_mx1]
    refine p_mul u0 ?_
    by_cases c : i = 0 ∧ j + 1 = l.length
    · obtain ⟨rfl, c2⟩ := c
      rw [c2, ac_len] at fb ⊢
      have zz := za fb
      have k := T.at (i := 0) (j := 0 + 1) (k := j) (by omega) (by omega) (by omega)
      have := p_mul zz k
      rw [tn_ab, tn_cyc]
      grind
    · have k := p_mul hz (T.strict (i := i) (j := j) (k := j + 1) (by omega) (by omega) (by omega) (by omega))
      have k2 := nn_mul z0 (T.weak (i := i + 1) (j := j) (k := j + 1) (by omega) (by omega) (by omega))
      exact add_pos1 k k2
  · exact (gp_three k).elim
/-- all corners of what's left lie in the piece, and on the left of the line -/
theorem clip_mem {s t : V2} {l : List V2} (T : Tri l) (h3 : 3 ≤ l.length) {p : V2} (h : p ∈ clip2 s t l) : Rg l p ∧ 0 ≤ tn s t p := by
  unfold clip2 at h
  obtain ⟨i, hi, hp⟩ := List.mem_flatMap.mp h
  obtain ⟨r, ⟨rfl, r0, r1, f, _, _⟩⟩ := gp_on hp
  refine ⟨fun j => ?_, f⟩
  have a := T.mem_rg (ac_mem (l := l) i (by omega)) j
  have b := T.mem_rg (ac_mem (l := l) (i + 1) (by omega)) j
  rw [tn_mx3]
  have p1 := nn_mul (show 0 ≤ 1 - r by grind) a
  have p2 := nn_mul r0 b
  grind
theorem gp_in {s t : V2} {l : List V2} {i : Nat} {p : V2} (hl : 0 < l.length) (h : p ∈ gp s t (ac l i) (ac l (i + 1))) : p ∈ clip2 s t l := by
  unfold clip2
  refine List.mem_flatMap.mpr ⟨i % l.length, List.mem_range.mpr (Nat.mod_lt _ hl), ?_⟩
  have e : ac l (i % l.length + 1) = ac l (i + 1) := by unfold ac; rw [Nat.mod_add_mod]
  show p ∈ gp s t (ac l (i % l.length)) (ac l (i % l.length + 1))
  rw [ac_mod, e]; exact h
/-- if some corner lies on the left, and not on the line, three are left at least -/
theorem clip_len {s t : V2} {l : List V2} (T : Tri l) (h3 : 3 ≤ l.length) {v : V2} (hv : v ∈ l) (fv : 0 < tn s t v) : 3 ≤ (clip2 s t l).length := by
  obtain ⟨j, hj, rfl⟩ := mem_ac hv
  have hl : 0 < l.length := by omega
  let i := j + l.length - 1
  have ei : ac l (i + 1) = ac l j := by rw [show i + 1 = j + l.length by omega, ac_add]
  -- the corner itself
  have m1 : ac l j ∈ clip2 s t l := gp_in (i := j) hl (by
    unfold gp
    rw [if_neg (by grind)]; simp)
  -- one behind it
  have m2 : ∃ r, 0 < r ∧ mx r (ac l j) (ac l (j + 1)) ∈ clip2 s t l := by
    by_cases c : tn s t (ac l (j + 1)) < 0
    · refine ⟨_, (xp_on (.inl ⟨fv, c⟩)).2, gp_in (i := j) hl ?_⟩
      unfold gp
      rw [if_pos (show crosses s t (ac l j) (ac l (j + 1)) from .inl ⟨fv, c⟩)]
      exact List.mem_append_right _ (List.mem_singleton.mpr rfl)
    · refine ⟨1, by decide, gp_in (i := j + 1) hl ?_⟩
      have e : mx 1 (ac l j) (ac l (j + 1)) = ac l (j + 1) := V2.ext' (by unfold mx; grind) (by unfold mx; grind)
      rw [e]
      unfold gp
      rw [if_neg c]; simp
  -- one before it
  have m3 : ∃ r, 0 ≤ r ∧ r < 1 ∧ mx r (ac l i) (ac l j) ∈ clip2 s t l := by
    by_cases c : tn s t (ac l i) < 0
    · have k : crosses s t (ac l i) (ac l j) := .inr ⟨c, fv⟩
      refine ⟨_, (xp_on k).1.lo, (xp_on k).1.hi, gp_in (i := i) hl ?_⟩
      unfold gp
      rw [ei, if_pos k]
      exact List.mem_append_right _ (List.mem_singleton.mpr rfl)
    · refine ⟨0, Rat.le_refl, by decide, gp_in (i := i) hl ?_⟩
      rw [mx_zero]
      unfold gp
      rw [if_neg c]; simp
  have turn : 0 < tn (ac l i) (ac l j) (ac l (j + 1)) := by
    by_cases c0 : j = 0
    · have e1 : ac l i = ac l (l.length - 1) := by show ac l (j + l.length - 1) = _; rw [c0, Nat.zero_add]
      rw [e1, c0, ← tn_cyc]
      exact T.at (by omega) (by omega) (by omega)
    · have e1 : ac l i = ac l (j - 1) := by rw [← ac_add l (j - 1)]; congr 1; omega
      rw [e1]
      exact T.strict (by omega) (by omega) (by omega) (by omega)
  obtain ⟨r, r0, m2⟩ := m2
  obtain ⟨q, q0, q1, m3⟩ := m3
  have d : 0 < tn (mx q (ac l i) (ac l j)) (ac l j) (mx r (ac l j) (ac l (j + 1))) := by
    rw [tn_mx1, tn_aa, tn_mx3, tn_bb]
    have := p_mul (show 0 < 1 - q by grind) (p_mul r0 turn)
    grind
  have n1 : ac l j ≠ mx r (ac l j) (ac l (j + 1)) := fun e => by rw [← e, tn_bb] at d; exact absurd d (by decide)
  have n2 : mx q (ac l i) (ac l j) ≠ ac l j := fun e => by rw [e, tn_aa] at d; exact absurd d (by decide)
  have n3 : mx q (ac l i) (ac l j) ≠ mx r (ac l j) (ac l (j + 1)) := fun e => by rw [e, tn_ab] at d; exact absurd d (by decide)
  generalize mx r (ac l j) (ac l (j + 1)) = A at *
  generalize mx q (ac l i) (ac l j) = B at *
  generalize ac l j = C at *
  match hc : clip2 s t l with
  | [] => rw [hc] at m1; simp at m1
  | [x] => rw [hc] at m1 m2; simp at m1 m2; exact absurd (m1.trans m2.symm) n1
  | [x, y] =>
    rw [hc] at m1 m2 m3
    simp at m1 m2 m3
    grind
  | _ :: _ :: _ :: _ => simp
/-- neighbours in what's left: on one side, or both on the line -/
theorem clip_adj {s t : V2} {l : List V2} (hl : 0 < l.length) (hc : 0 < (clip2 s t l).length) (I : Nat) :
    (∃ i x y, x ≤ y ∧ ac (clip2 s t l) I = mx x (ac l i) (ac l (i + 1)) ∧ ac (clip2 s t l) (I + 1) = mx y (ac l i) (ac l (i + 1))) ∨ (tn s t (ac (clip2 s t l) I) = 0 ∧ tn s t (ac (clip2 s t l) (I + 1)) = 0) := by
  let g : Nat → List V2 := fun i => gp s t (ac l i) (ac l (i + 1))
  have per : ∀ i, g (i + l.length) = g i := fun i => by
    show gp s t (ac l (i + l.length)) (ac l (i + l.length + 1)) = _
    rw [ac_add, show i + l.length + 1 = i + 1 + l.length by omega, ac_add]
  have e0 : clip2 s t l = (List.range' 0 l.length).flatMap g := by unfold clip2; rw [List.range_eq_range']
  have shift : ∀ k a, (List.range' (a + l.length) k).flatMap g = (List.range' a k).flatMap g := by
    intro k
    induction k with
    | zero => intro a; rfl
    | succ k ih =>
      intro a
      rw [List.range'_succ, List.range'_succ, List.flatMap_cons, List.flatMap_cons, per, show a + l.length + 1 = a + 1 + l.length by omega, ih]
  have e2 : (List.range' 0 (l.length + l.length)).flatMap g = clip2 s t l ++ clip2 s t l := by
    rw [← List.range'_append_1, List.flatMap_append, Nat.zero_add, ← e0]
    have := shift l.length 0
    rw [Nat.zero_add] at this
    rw [this, ← e0]
  generalize clip2 s t l = c at *
  -- two neighbours in the row twice
  have sp : ∃ u v, c ++ c = u ++ ac c I :: ac c (I + 1) :: v := by
    have hI : I % c.length < c.length := Nat.mod_lt _ hc
    have a1 : ac c I = (c ++ c)[I % c.length]'(by rw [List.length_append]; omega) := by
      rw [← ac_mod, ac_lt hI, List.getElem_append_left hI]
    have a2 : ac c (I + 1) = (c ++ c)[I % c.length + 1]'(by rw [List.length_append]; omega) := by
      have e : ac c (I + 1) = ac c (I % c.length + 1) := by unfold ac; rw [Nat.mod_add_mod]
      rw [e]
      by_cases k : I % c.length + 1 < c.length
      · rw [ac_lt k, List.getElem_append_left k]
      · have k2 : I % c.length + 1 = c.length := by omega
        have k3 : ac c (I % c.length + 1) = c[0] := by rw [k2, ac_len, ac_lt hc]
        rw [List.getElem_append_right (by omega), k3]
        congr 1; omega
    refine ⟨(c ++ c).take (I % c.length), (c ++ c).drop (I % c.length + 1 + 1), ?_⟩
    rw [a1, a2, ← List.drop_eq_getElem_cons, ← List.drop_eq_getElem_cons, List.take_append_drop]
  obtain ⟨u, v, sp⟩ := sp
  rw [← e2] at sp
  generalize ac c I = p at *
  generalize ac c (I + 1) = q at *
  rcases adj_fm g _ _ u p q v sp with ⟨i, u', v', e⟩ | ⟨i, j, u', v', hij, h1, h2, h3⟩
  · have k : [p, q].Sublist (gp s t (ac l i) (ac l (i + 1))) := by
      show [p, q].Sublist (g i)
      rw [e]
      exact (show [p, q].Sublist (p :: q :: v') by simp).trans (List.sublist_append_right _ _)
    obtain ⟨rfl, rfl, f1, f2⟩ := gp_two k
    have x := xp_on (.inl ⟨f1, f2⟩)
    exact .inl ⟨i, 0, _, x.1.lo, (mx_zero _ _).symm, rfl⟩
  · have hp : p ∈ gp s t (ac l i) (ac l (i + 1)) := by show p ∈ g i; rw [h1]; simp
    have hq : q ∈ gp s t (ac l j) (ac l (j + 1)) := by show q ∈ g j; rw [h2]; simp
    by_cases c1 : tn s t (ac l (i + 1)) < 0
    · refine .inr ⟨?_, ?_⟩
      · obtain ⟨r, o⟩ := gp_on hp
        rcases o.z with z | z
        · -- the corner itself is the last one: the side doesn't cross
          have ep : p = ac l i := by rw [o.e, z, mx_zero]
          by_cases c2 : 0 < tn s t (ac l i)
          · exfalso
            have k : crosses s t (ac l i) (ac l (i + 1)) := .inl ⟨c2, c1⟩
            have e : g i = [ac l i, xp s t (ac l i) (ac l (i + 1))] := by
              show gp s t (ac l i) (ac l (i + 1)) = _
              unfold gp
              rw [if_neg (by grind), if_pos k]; rfl
            rw [e] at h1
            have h1' : [ac l i] ++ [xp s t (ac l i) (ac l (i + 1))] = u' ++ [p] := h1
            have e5 := (List.append_inj' h1' rfl).2
            injection e5 with e6 _
            have x := (xp_on k).1
            have f0 : tn s t p = 0 := by
              rcases x.z with z2 | z2
              · have := (xp_on k).2; grind
              · rw [← e6]; exact z2
            rw [ep] at f0
            grind
          · have := o.f
            rw [ep] at this ⊢
            grind
        · exact z
      · obtain ⟨r, o⟩ := gp_on hq
        rcases o.z with z | z
        · have eq : q = ac l j := by rw [o.e, z, mx_zero]
          have fq := o.f
          rw [eq] at fq ⊢
          have n1 : j ≠ i + 1 := fun e => by rw [e] at fq; grind
          have h4 := h3 (j - 1) (by omega) (by omega)
          have h5 : gp s t (ac l (j - 1)) (ac l (j - 1 + 1)) = [] := h4
          rw [show j - 1 + 1 = j by omega] at h5
          unfold gp at h5
          rw [List.append_eq_nil_iff] at h5
          have c3 : tn s t (ac l (j - 1)) < 0 := by
            refine Classical.byContradiction fun n => ?_
            have := h5.1
            rw [if_neg n] at this; simp at this
          have c4 : ¬ crosses s t (ac l (j - 1)) (ac l j) := fun n => by
            have := h5.2
            rw [if_pos n] at this; simp at this
          have c5 : ¬ 0 < tn s t (ac l j) := fun n => c4 (.inr ⟨c3, n⟩)
          grind
        · exact z
    · -- the next corner is left
      have e1 : ∃ w, g (i + 1) = ac l (i + 1) :: w := by
        show ∃ w, gp s t (ac l (i + 1)) (ac l (i + 1 + 1)) = _
        unfold gp
        rw [if_neg c1]
        exact ⟨_, rfl⟩
      obtain ⟨w, e1⟩ := e1
      have ej : j = i + 1 := by
        refine Classical.byContradiction fun n => ?_
        have := h3 (i + 1) (by omega) (by omega)
        rw [e1] at this; simp at this
      subst ej
      rw [e1] at h2
      injection h2 with h2 _
      obtain ⟨r, o⟩ := gp_on hp
      refine .inl ⟨i, r, 1, Rat.le_of_lt o.hi, o.e, ?_⟩
      rw [← h2]
      exact V2.ext' (by unfold mx; grind) (by unfold mx; grind)
theorem fm_one (l : List V2) : ∀ r : List Nat, r.flatMap (fun i => [ac l i]) = r.map (ac l)
  | [] => rfl
  | a :: r => by rw [List.flatMap_cons, List.map_cons, fm_one l r]; rfl
theorem map_ac (l : List V2) : (List.range l.length).map (ac l) = l := by
  refine List.ext_getElem (by simp) fun i h1 h2 => ?_
  rw [List.getElem_map, List.getElem_range]
  exact ac_lt h2
/-- a line that has all corners on its left cuts nothing off -/
theorem clip_id {s t : V2} {l : List V2} (h : ∀ v ∈ l, 0 ≤ tn s t v) : clip2 s t l = l := by
  by_cases c : l.length = 0
  · have e : l = [] := List.length_eq_zero_iff.mp c
    subst e; rfl
  · have e2 : (fun i => gp s t (ac l i) (ac l (i + 1))) = fun i => [ac l i] := funext fun i => by
      have h1 := h _ (ac_mem (l := l) i (by omega))
      have h2 := h _ (ac_mem (l := l) (i + 1) (by omega))
      unfold gp
      rw [if_neg (Rat.not_lt.mpr h1), if_neg (by unfold crosses; grind)]; rfl
    unfold clip2
    rw [e2, fm_one, map_ac]
/-- what's left is what lies in the piece and on the left of the line -/
theorem clip_rg {s t : V2} {l : List V2} (T : Tri l) (h3 : 3 ≤ l.length) (hc : 3 ≤ (clip2 s t l).length) (z : V2) : Rg (clip2 s t l) z ↔ Rg l z ∧ 0 ≤ tn s t z := by
  have U := clip_tri (s := s) (t := t) T h3
  constructor
  · intro h
    refine ⟨fun i => ?_, ?_⟩
    · exact h.hull U hc fun v hv => (clip_mem T h3 hv).1 i
    · exact h.hull U hc fun v hv => (clip_mem T h3 hv).2
  · rintro ⟨h, f⟩
    by_cases hst : ∀ w, tn s t w = 0
    · rw [clip_id fun v _ => by rw [hst]; exact Rat.le_refl]
      exact h
    -- a corner off the line
    have ex : ∃ v, v ∈ clip2 s t l ∧ 0 < tn s t v := by
      refine Classical.byContradiction fun no => ?_
      have z0 : ∀ v ∈ clip2 s t l, tn s t v = 0 := fun v hv => by
        have a := (clip_mem T h3 hv).2
        have b : ¬ 0 < tn s t v := fun n => no ⟨v, hv, n⟩
        grind
      have d := U.at (show 0 < 1 by omega) (show 1 < 2 by omega) (show 2 < (clip2 s t l).length by omega)
      have y0 := z0 _ (ac_mem 0 (by omega))
      have y1 := z0 _ (ac_mem 1 (by omega))
      have y2 := z0 _ (ac_mem 2 (by omega))
      generalize ac (clip2 s t l) 0 = a at *
      generalize ac (clip2 s t l) 1 = b at *
      generalize ac (clip2 s t l) 2 = c at *
      -- then the line is none
      have st : ∀ w, tn s t w = 0 := fun w => by
        have := bary_tn s t a b c w
        rw [y0, y1, y2, Rat.mul_zero, Rat.mul_zero, Rat.mul_zero] at this
        have e : tn a b c * tn s t w = 0 := by grind
        exact (Rat.mul_eq_zero.mp e).resolve_left (Rat.ne_of_gt d)
      exact hst st
    obtain ⟨v, hv, fv⟩ := ex
    intro I
    rcases clip_adj (s := s) (t := t) (l := l) (by omega) (by omega) I with ⟨i, x, y, hxy, e1, e2⟩ | ⟨z1, z2⟩
    · have e : tn (ac (clip2 s t l) I) (ac (clip2 s t l) (I + 1)) z = (y - x) * tn (ac l i) (ac l (i + 1)) z := by
        rw [e1, e2]
        unfold tn mx
        grind
      rw [e]
      exact nn_mul (by grind) (h i)
    · have hI : I % (clip2 s t l).length < (clip2 s t l).length := Nat.mod_lt _ (by omega)
      obtain ⟨j, hj, ej⟩ := mem_ac hv
      have e3 : ac (clip2 s t l) (I % (clip2 s t l).length + 1) = ac (clip2 s t l) (I + 1) := by unfold ac; rw [Nat.mod_add_mod]
      have sd := U.side hI hj
      rw [ac_mod, e3, ← ej] at sd
      rcases sd with q | q | q
      · exfalso
        rw [q, ac_mod] at ej
        rw [ej, z1] at fv
        exact absurd fv (by decide)
      · exfalso
        rw [q, ac_mod, e3] at ej
        rw [ej, z2] at fv
        exact absurd fv (by decide)
      · have k := same_line (v := v) (z := z) z1 z2
        refine Rat.not_lt.mp fun n => ?_
        have a1 := nn_mul f (Rat.le_of_lt q)
        have a2 := p_mul (show 0 < - tn (ac (clip2 s t l) I) (ac (clip2 s t l) (I + 1)) z by grind) fv
        grind
end Sc
namespace Sc
open Kzq1 (Q P)
/-! One cut behind another; pieces of points with fractions -/
theorem Tri.corner {l : List V2} (T : Tri l) (h3 : 3 ≤ l.length) {j : Nat} (hj : j < l.length) : 0 < tn (ac l (j + l.length - 1)) (ac l j) (ac l (j + 1)) := by
  by_cases c0 : j = 0
  · rw [c0, Nat.zero_add, ← tn_cyc]
    exact T.at (by omega) (by omega) (by omega)
  · have e1 : ac l (j + l.length - 1) = ac l (j - 1) := by rw [← ac_add l (j - 1)]; congr 1; omega
    rw [e1]
    exact T.strict (by omega) (by omega) (by omega) (by omega)
theorem tn_none {s t : V2} (h : ∀ w, tn s t w = 0) : s = t := by
  have k1 := h ⟨s.x, s.y + 1⟩
  have k2 := h ⟨s.x + 1, s.y⟩
  unfold tn at k1 k2
  exact V2.ext' (by grind) (by grind)
/-- a corner off the line, where a point is -/
theorem off_line {l : List V2} {s t z : V2} (T : Tri l) (h3 : 3 ≤ l.length) (h : Rg l z) (f : 0 < tn s t z) : ∃ v ∈ l, 0 < tn s t v := by
  refine Classical.byContradiction fun no => ?_
  have k := h.hull (s := t) (t := s) T h3 fun v hv => by
    rw [tn_swap]
    have : ¬ 0 < tn s t v := fun n => no ⟨v, hv, n⟩
    grind
  rw [tn_swap] at k
  grind
/-- the middle of three corners lies within -/
theorem within {l : List V2} (T : Tri l) (h3 : 3 ≤ l.length) : ∃ z, Rg l z ∧ ∀ s t, s ≠ t → (∀ v ∈ l, 0 ≤ tn s t v) → 0 < tn s t z := by
  have d := T.at (show 0 < 1 by omega) (show 1 < 2 by omega) (show 2 < l.length by omega)
  have m0 := ac_mem (l := l) 0 (by omega)
  have m1 := ac_mem (l := l) 1 (by omega)
  have m2 := ac_mem (l := l) 2 (by omega)
  generalize ac l 0 = a at *
  generalize ac l 1 = b at *
  generalize ac l 2 = c at *
  let z : V2 := ⟨(a.x + b.x + c.x) / 3, (a.y + b.y + c.y) / 3⟩
  have e : ∀ s t, tn s t z = (tn s t a + tn s t b + tn s t c) / 3 := fun s t => by
    show tn s t ⟨(a.x + b.x + c.x) / 3, (a.y + b.y + c.y) / 3⟩ = _
    unfold tn
    grind
  refine ⟨z, fun i => ?_, fun s t hst k => ?_⟩
  · have k0 := T.mem_rg m0 i
    have k1 := T.mem_rg m1 i
    have k2 := T.mem_rg m2 i
    rw [e]
    grind
  · have k0 := k _ m0
    have k1 := k _ m1
    have k2 := k _ m2
    rw [e]
    refine Rat.not_le.mp fun n => hst (tn_none fun w => ?_)
    have z0 : tn s t a = 0 := by grind
    have z1 : tn s t b = 0 := by grind
    have z2 : tn s t c = 0 := by grind
    have := bary_tn s t a b c w
    rw [z0, z1, z2, Rat.mul_zero, Rat.mul_zero, Rat.mul_zero] at this
    have e : tn a b c * tn s t w = 0 := by grind
    exact (Rat.mul_eq_zero.mp e).resolve_left (Rat.ne_of_gt d)
/-- points on one line -/
def Flat (l : List V2) : Prop := ∃ u w : V2, ∀ p ∈ l, ∃ r : Rat, p = ⟨u.x + r * w.x, u.y + r * w.y⟩
theorem Flat.short {l : List V2} (h : l.length < 3) : Flat l := by
  match l, h with
  | [], _ => exact ⟨⟨0, 0⟩, ⟨0, 0⟩, fun p hp => by simp at hp⟩
  | [a], _ => exact ⟨a, ⟨0, 0⟩, fun p hp => ⟨0, by simp at hp; subst hp; exact V2.ext' (by show p.x = p.x + 0 * 0; grind) (by show p.y = p.y + 0 * 0; grind)⟩⟩
  | [a, b], _ => 
    refine ⟨a, ⟨b.x - a.x, b.y - a.y⟩, fun p hp => ?_⟩
    simp at hp
    rcases hp with rfl | rfl
    · exact ⟨0, V2.ext' (by show p.x = p.x + 0 * (b.x - p.x); grind) (by show p.y = p.y + 0 * (b.y - p.y); grind)⟩
    · exact ⟨1, V2.ext' (by show p.x = a.x + 1 * (p.x - a.x); grind) (by show p.y = a.y + 1 * (p.y - a.y); grind)⟩
  | _ :: _ :: _ :: _, h => simp at h; omega
theorem Flat.sub {l m : List V2} (h : Flat l) (k : ∀ p ∈ m, p ∈ l) : Flat m :=
  let ⟨u, w, f⟩ := h
  ⟨u, w, fun p hp => f p (k p hp)⟩
theorem Flat.tn {l : List V2} (h : Flat l) {a b c : V2} (ha : a ∈ l) (hb : b ∈ l) (hc : c ∈ l) : tn a b c = 0 := by
  obtain ⟨u, w, f⟩ := h
  obtain ⟨r, rfl⟩ := f a ha
  obtain ⟨q, rfl⟩ := f b hb
  obtain ⟨p, rfl⟩ := f c hc
  unfold Sc.tn
  grind
theorem Flat.clip {l : List V2} (h : Flat l) (s t : V2) : Flat (clip2 s t l) := by
  obtain ⟨u, w, f⟩ := h
  refine ⟨u, w, fun p hp => ?_⟩
  unfold clip2 at hp
  obtain ⟨i, hi, hp⟩ := List.mem_flatMap.mp hp
  have hl : 0 < l.length := by have := List.mem_range.mp hi; omega
  obtain ⟨x, ex⟩ := f _ (ac_mem i hl)
  obtain ⟨y, ey⟩ := f _ (ac_mem (i + 1) hl)
  obtain ⟨r, o⟩ := gp_on hp
  refine ⟨x + r * (y - x), ?_⟩
  rw [o.e, ex, ey]
  unfold mx
  exact V2.ext' (by grind) (by grind)
def clips (ss : List (V2 × V2)) (l : List V2) : List V2 := ss.foldl (fun l s => clip2 s.1 s.2 l) l
theorem clips_alive : ∀ (ss : List (V2 × V2)) {l : List V2} (_ : Tri l) (_ : 3 ≤ l.length) {z : V2} (_ : Rg l z) (_ : ∀ s ∈ ss, 0 < tn s.1 s.2 z),
    Tri (clips ss l) ∧ 3 ≤ (clips ss l).length ∧ ∀ z, Rg (clips ss l) z ↔ Rg l z ∧ ∀ s ∈ ss, 0 ≤ tn s.1 s.2 z
  | [], l, T, h3, z, h, f => ⟨T, h3, fun z => ⟨fun k => ⟨k, fun s hs => by simp at hs⟩, fun k => k.1⟩⟩
  | s :: ss, l, T, h3, z, h, f => by
    have f0 := f s List.mem_cons_self
    obtain ⟨v, hv, fv⟩ := off_line T h3 h f0
    have hc := clip_len T h3 hv fv
    have r := clip_rg T h3 hc
    obtain ⟨a, b, c⟩ := clips_alive ss (clip_tri T h3) hc ((r z).mpr ⟨h, Rat.le_of_lt f0⟩) fun q hq => f q (List.mem_cons_of_mem _ hq)
    refine ⟨a, b, fun w => (c w).trans ?_⟩
    rw [r w]
    constructor
    · rintro ⟨⟨h1, h2⟩, h4⟩
      refine ⟨h1, fun q hq => ?_⟩
      rcases List.mem_cons.mp hq with rfl | hq
      · exact h2
      · exact h4 q hq
    · rintro ⟨h1, h2⟩
      exact ⟨⟨h1, h2 s List.mem_cons_self⟩, fun q hq => h2 q (List.mem_cons_of_mem _ hq)⟩
theorem clips_flat : ∀ (ss : List (V2 × V2)) {l : List V2}, Flat l → Flat (clips ss l)
  | [], _, h => h
  | s :: ss, _, h => clips_flat ss (h.clip s.1 s.2)
/-- either three corners are left at least, or all is on one line -/
theorem clips_dead : ∀ (ss : List (V2 × V2)) {l : List V2} (_ : Tri l) (_ : 3 ≤ l.length) (_ : ∀ s ∈ ss, s.1 ≠ s.2) (_ : ¬ ∃ z, Rg l z ∧ ∀ s ∈ ss, 0 < tn s.1 s.2 z), Flat (clips ss l) := by
  have key : ∀ (ss : List (V2 × V2)) {l : List V2} (_ : Tri l) (_ : 3 ≤ l.length), Flat (clips ss l) ∨ (Tri (clips ss l) ∧ 3 ≤ (clips ss l).length ∧ ∀ z, Rg (clips ss l) z → Rg l z ∧ ∀ s ∈ ss, 0 ≤ tn s.1 s.2 z) := by
    intro ss
    induction ss with
    | nil => intro l T h3; exact .inr ⟨T, h3, fun z k => ⟨k, fun s hs => by simp at hs⟩⟩
    | cons s ss ih =>
      intro l T h3
      by_cases c : 3 ≤ (clip2 s.1 s.2 l).length
      · rcases ih (clip_tri (s := s.1) (t := s.2) T h3) c with h | ⟨h1, h2, h4⟩
        · exact .inl h
        · refine .inr ⟨h1, h2, fun z k => ?_⟩
          obtain ⟨k1, k2⟩ := h4 z k
          obtain ⟨k3, k4⟩ := (clip_rg T h3 c z).mp k1
          refine ⟨k3, fun q hq => ?_⟩
          rcases List.mem_cons.mp hq with rfl | hq
          · exact k4
          · exact k2 q hq
      · exact .inl (clips_flat ss (l := clip2 s.1 s.2 l) (Flat.short (by omega)))
  intro ss l T h3 hs no
  rcases key ss T h3 with h | ⟨h1, h2, h4⟩
  · exact h
  · obtain ⟨z, hz, k⟩ := within h1 h2
    exact absurd ⟨z, (h4 z hz).1, fun s hs' => k _ _ (hs s hs') fun v hv => (h4 v (h1.mem_rg hv)).2 s hs'⟩ no
/-! points with fractions -/
def pv (p : P) : V2 := ⟨px p, py p⟩
theorem pv_inj {p q : P} (hp : OkP p) (hq : OkP q) (h : pv p = pv q) : p = q := by
  injection h with h1 h2
  exact P_ext hp hq h1 h2
theorem pv_origin : pv Kzq1.origin = ⟨0, 0⟩ := by
  show V2.mk (val Kzq1.zero) (val Kzq1.zero) = _
  rw [val_zero]
def OkL (l : List P) : Prop := ∀ p ∈ l, OkP p
theorem at0_pv (l : List P) (i : Nat) : ac (l.map pv) i = pv (Kzq1.at0 l i) := by
  unfold ac Kzq1.at0
  rw [List.length_map, List.getD_eq_getElem?_getD, List.getD_eq_getElem?_getD, List.getElem?_map]
  cases l[i % l.length]? with
  | none => show _ = pv Kzq1.origin; rw [pv_origin]; rfl
  | some x => rfl
theorem at0_ok {l : List P} (h : OkL l) (i : Nat) : OkP (Kzq1.at0 l i) := by
  unfold Kzq1.at0
  rw [List.getD_eq_getElem?_getD]
  cases e : l[i % l.length]? with
  | none => exact origin_ok
  | some x => exact h x (List.mem_of_getElem? e)
theorem val_tn {a b c : P} (ha : OkP a) (hb : OkP b) (hc : OkP c) : val (Kzq1.turn a b c) = tn (pv a) (pv b) (pv c) := val_turn ha hb hc
theorem px_less {p q : P} (hp : OkP p) (hq : OkP q) : px (Kzq1.less p q) = px p - px q := val_sub hp.1 hq.1
theorem py_less {p q : P} (hp : OkP p) (hq : OkP q) : py (Kzq1.less p q) = py p - py q := val_sub hp.2 hq.2
/-- where a side crosses a line -/
theorem onLine_is {s t a b : P} (hs : OkP s) (ht : OkP t) (ha : OkP a) (hb : OkP b) (h : crosses (pv s) (pv t) (pv a) (pv b)) : OkP (Kzq1.onLine (s, t) a b) ∧ pv (Kzq1.onLine (s, t) a b) = xp (pv s) (pv t) (pv a) (pv b) := by
  have u := turn_ok hs ht ha
  have v := turn_ok hs ht hb
  have w := sub_ok u v
  have n : val (Kzq1.sub (Kzq1.turn s t a) (Kzq1.turn s t b)) ≠ 0 := by
    rw [val_sub u v, val_tn hs ht ha, val_tn hs ht hb]
    unfold crosses at h
    grind
  have d := div_ok u w n
  have lb := less_ok hb ha
  have tk := times_ok d lb
  unfold Kzq1.onLine
  refine ⟨plus_ok ha tk, ?_⟩
  unfold xp mx pv
  dsimp only
  have e : val (Kzq1.div (Kzq1.turn s t a) (Kzq1.sub (Kzq1.turn s t a) (Kzq1.turn s t b))) = tn (pv s) (pv t) (pv a) / (tn (pv s) (pv t) (pv a) - tn (pv s) (pv t) (pv b)) := by
    rw [val_div u w n, val_sub u v, val_tn hs ht ha, val_tn hs ht hb]
  refine V2.ext' ?_ ?_
  · show px (Kzq1.plus a _) = _
    rw [px_plus ha tk, px_times d lb, px_less hb ha, e]; rfl
  · show py (Kzq1.plus a _) = _
    rw [py_plus ha tk, py_times d lb, py_less hb ha, e]; rfl
theorem crosses_iff {s t a b : P} (hs : OkP s) (ht : OkP t) (ha : OkP a) (hb : OkP b) : ((Kzq1.pos (Kzq1.turn s t a) && Kzq1.lt (Kzq1.turn s t b) Kzq1.zero) || (Kzq1.lt (Kzq1.turn s t a) Kzq1.zero && Kzq1.pos (Kzq1.turn s t b))) = true ↔ crosses (pv s) (pv t) (pv a) (pv b) := by
  have u := turn_ok hs ht ha
  have v := turn_ok hs ht hb
  rw [pos_eq u, pos_eq v, lt_eq u zero_ok, lt_eq v zero_ok, val_zero, val_tn hs ht ha, val_tn hs ht hb]
  unfold crosses
  simp
/-- clip's row of one side -/
def gP (s : P × P) (a b : P) : List P := (if Kzq1.lt (Kzq1.turn s.1 s.2 a) Kzq1.zero then [] else [a]) ++ if (Kzq1.pos (Kzq1.turn s.1 s.2 a) && Kzq1.lt (Kzq1.turn s.1 s.2 b) Kzq1.zero) || (Kzq1.lt (Kzq1.turn s.1 s.2 a) Kzq1.zero && Kzq1.pos (Kzq1.turn s.1 s.2 b)) then [Kzq1.onLine s a b] else []
theorem gP_is {s : P × P} {a b : P} (hs : OkP s.1) (ht : OkP s.2) (ha : OkP a) (hb : OkP b) : OkL (gP s a b) ∧ (gP s a b).map pv = gp (pv s.1) (pv s.2) (pv a) (pv b) := by
  have u := turn_ok hs ht ha
  unfold gP gp
  have c1 : Kzq1.lt (Kzq1.turn s.1 s.2 a) Kzq1.zero = true ↔ tn (pv s.1) (pv s.2) (pv a) < 0 := by rw [lt_iff u zero_ok, val_zero, val_tn hs ht ha]
  have c2 := crosses_iff hs ht ha hb
  by_cases k1 : tn (pv s.1) (pv s.2) (pv a) < 0 <;> by_cases k2 : crosses (pv s.1) (pv s.2) (pv a) (pv b)
  · rw [if_pos k1, if_pos k2, if_pos (c1.mpr k1), if_pos (c2.mpr k2)]
    obtain ⟨o, e⟩ := onLine_is hs ht ha hb k2
    exact ⟨fun p hp => by simp at hp; subst hp; exact o, by simp; exact e⟩
  · rw [if_pos k1, if_neg k2, if_pos (c1.mpr k1), if_neg (fun n => k2 (c2.mp n))]
    exact ⟨fun p hp => by simp at hp, rfl⟩
  · rw [if_neg k1, if_pos k2, if_neg (fun n => k1 (c1.mp n)), if_pos (c2.mpr k2)]
    obtain ⟨o, e⟩ := onLine_is hs ht ha hb k2
    refine ⟨fun p hp => ?_, by simp; exact e⟩
    simp at hp
    rcases hp with rfl | rfl
    · exact ha
    · exact o
  · rw [if_neg k1, if_neg k2, if_neg (fun n => k1 (c1.mp n)), if_neg (fun n => k2 (c2.mp n))]
    exact ⟨fun p hp => by simp at hp; subst hp; exact ha, rfl⟩
theorem clip_is {s : P × P} {l : List P} (hs : OkP s.1) (ht : OkP s.2) (hl : OkL l) : OkL (Kzq1.clip s l) ∧ (Kzq1.clip s l).map pv = clip2 (pv s.1) (pv s.2) (l.map pv) := by
  have e : Kzq1.clip s l = (List.range l.length).flatMap fun i => gP s (Kzq1.at0 l i) (Kzq1.at0 l (i + 1)) := rfl
  rw [e]
  constructor
  · intro p hp
    obtain ⟨i, _, hp⟩ := List.mem_flatMap.mp hp
    exact (gP_is hs ht (at0_ok hl i) (at0_ok hl (i + 1))).1 p hp
  · unfold clip2
    rw [List.map_flatMap, List.length_map]
    congr 1
    funext i
    rw [at0_pv, at0_pv]
    exact (gP_is hs ht (at0_ok hl i) (at0_ok hl (i + 1))).2
theorem clips_is : ∀ (ss : List (P × P)) {l : List P} (_ : ∀ s ∈ ss, OkP s.1 ∧ OkP s.2) (_ : OkL l),
    OkL (ss.foldl (fun l s => Kzq1.clip s l) l) ∧ (ss.foldl (fun l s => Kzq1.clip s l) l).map pv = clips (ss.map fun s => (pv s.1, pv s.2)) (l.map pv)
  | [], l, _, hl => ⟨hl, rfl⟩
  | s :: ss, l, hs, hl => by
    have h0 := hs s List.mem_cons_self
    obtain ⟨a, b⟩ := clip_is h0.1 h0.2 hl
    obtain ⟨c, d⟩ := clips_is ss (l := Kzq1.clip s l) (fun q hq => hs q (List.mem_cons_of_mem _ hq)) a
    refine ⟨c, ?_⟩
    show ((ss.foldl (fun l s => Kzq1.clip s l) (Kzq1.clip s l)).map pv) = clips (ss.map fun s => (pv s.1, pv s.2)) (clip2 (pv s.1) (pv s.2) (l.map pv))
    rw [d, b]
/-! formed -/
theorem fm_some {α : Type} {f : Nat → Option α} {g : Nat → α} : ∀ (r : List Nat), (∀ i ∈ r, f i = some (g i)) → r.filterMap f = r.map g
  | [], _ => rfl
  | i :: r, h => by rw [List.filterMap_cons, h i List.mem_cons_self, List.map_cons, fm_some r fun j hj => h j (List.mem_cons_of_mem _ hj)]
theorem map_at0 (l : List P) : (List.range l.length).map (Kzq1.at0 l) = l := by
  refine List.ext_getElem (by simp) fun i h1 h2 => ?_
  rw [List.getElem_map, List.getElem_range]
  unfold Kzq1.at0
  rw [Nat.mod_eq_of_lt h2, List.getD_eq_getElem?_getD, List.getElem?_eq_getElem h2]; rfl
theorem formed_tri {l : List P} (ok : OkL l) (T : Tri (l.map pv)) (h3 : 3 ≤ l.length) : Kzq1.unlike l = l ∧ Kzq1.straightened l = l ∧ Kzq1.formed l = Kzq1.begunWith l := by
  have h3' : 3 ≤ (l.map pv).length := by rw [List.length_map]; exact h3
  have cor : ∀ i < l.length, 0 < tn (pv (Kzq1.at0 l (i + l.length - 1))) (pv (Kzq1.at0 l i)) (pv (Kzq1.at0 l (i + 1))) := fun i hi => by
    have := T.corner h3' (j := i) (by rw [List.length_map]; exact hi)
    rw [at0_pv, at0_pv, at0_pv, List.length_map] at this
    exact this
  have u : Kzq1.unlike l = l := by
    unfold Kzq1.unlike
    rw [fm_some (g := Kzq1.at0 l) _ fun i hi => ?_, map_at0]
    refine if_neg fun e => ?_
    have := cor i (List.mem_range.mp hi)
    rw [e, tn_bb] at this
    exact absurd this (by decide)
  have s : Kzq1.straightened l = l := by
    unfold Kzq1.straightened
    rw [fm_some (g := Kzq1.at0 l) _ fun i hi => ?_, map_at0]
    refine if_neg fun e => ?_
    have := cor i (List.mem_range.mp hi)
    rw [isZero_eq (turn_ok (at0_ok ok _) (at0_ok ok _) (at0_ok ok _)), decide_eq_true_eq, val_tn (at0_ok ok _) (at0_ok ok _) (at0_ok ok _)] at e
    rw [e] at this
    exact absurd this (by decide)
  refine ⟨u, s, ?_⟩
  unfold Kzq1.formed
  dsimp only
  rw [u, s, if_neg (by omega)]
theorem unlike_sub {ps : List P} {p : P} (h : p ∈ Kzq1.unlike ps) : ∃ i, p = Kzq1.at0 ps i ∧ i < ps.length := by
  obtain ⟨i, hi, e⟩ := List.mem_filterMap.mp h
  by_cases c : Kzq1.at0 ps i = Kzq1.at0 ps (i + 1)
  · rw [if_pos c] at e; cases e
  · rw [if_neg c] at e
    cases e
    exact ⟨i, rfl, List.mem_range.mp hi⟩
theorem formed_flat {l : List P} (ok : OkL l) (F : Flat (l.map pv)) : Kzq1.formed l = [] := by
  have hm : ∀ p ∈ Kzq1.unlike l, pv p ∈ l.map pv := fun p hp => by
    obtain ⟨i, rfl, hi⟩ := unlike_sub hp
    rw [← at0_pv]
    exact ac_mem i (by rw [List.length_map]; omega)
  have oku : OkL (Kzq1.unlike l) := fun p hp => by
    obtain ⟨i, rfl, _⟩ := unlike_sub hp
    exact at0_ok ok i
  have F2 : Flat ((Kzq1.unlike l).map pv) := F.sub fun q hq => by
    obtain ⟨p, hp, rfl⟩ := List.mem_map.mp hq
    exact hm p hp
  have s : ∀ m : List P, OkL m → Flat (m.map pv) → Kzq1.straightened m = [] := by
    intro m oku F2
    unfold Kzq1.straightened
    rw [List.filterMap_eq_nil_iff]
    intro i hi
    refine if_pos ?_
    have hl : 0 < (m.map pv).length := by rw [List.length_map]; have := List.mem_range.mp hi; omega
    rw [isZero_eq (turn_ok (at0_ok oku _) (at0_ok oku _) (at0_ok oku _)), decide_eq_true_eq, val_tn (at0_ok oku _) (at0_ok oku _) (at0_ok oku _), ← at0_pv, ← at0_pv, ← at0_pv]
    exact F2.tn (ac_mem _ hl) (ac_mem _ hl) (ac_mem _ hl)
  unfold Kzq1.formed
  dsimp only
  rw [s _ oku F2]
  rfl
/-! begun with the leftmost -/
theorem before_iff {a b : P} (ha : OkP a) (hb : OkP b) : Kzq1.before a b = true ↔ px a < px b ∨ (px a = px b ∧ py a < py b) := by
  unfold Kzq1.before
  rw [Bool.or_eq_true, Bool.and_eq_true, beq_iff_eq, lt_iff ha.1 hb.1, lt_iff ha.2 hb.2, eq_iff ha.1 hb.1]
def fmin (l : List P) (n : Nat) : Nat := (List.range n).foldl (fun a j => if Kzq1.before (Kzq1.at0 l j) (Kzq1.at0 l a) then j else a) 0
theorem fmin_more (l : List P) (i : Nat) : fmin l (i + 1) = if Kzq1.before (Kzq1.at0 l i) (Kzq1.at0 l (fmin l i)) then i else fmin l i := by
  unfold fmin
  rw [List.range_succ, List.foldl_append]; rfl
theorem fmin_lt (l : List P) : ∀ n, 0 < n → fmin l n < n
  | 0, h => by omega
  | 1, _ => by
    rw [fmin_more]
    split
    · omega
    · exact Nat.zero_lt_one
  | n + 2, _ => by
    rw [fmin_more]
    have := fmin_lt l (n + 1) (by omega)
    split <;> omega
theorem fmin_min {l : List P} (ok : OkL l) : ∀ n j, j < n → Kzq1.before (Kzq1.at0 l j) (Kzq1.at0 l (fmin l n)) = false
  | 0, j, h => by omega
  | n + 1, j, h => by
    rw [fmin_more]
    rw [Bool.eq_false_iff]
    intro k
    have o := at0_ok ok
    by_cases c : Kzq1.before (Kzq1.at0 l n) (Kzq1.at0 l (fmin l n)) = true
    · rw [if_pos c] at k
      rw [before_iff (o _) (o _)] at c k
      by_cases cj : j = n
      · subst cj; grind
      · have ih := fmin_min ok n j (by omega)
        rw [Bool.eq_false_iff, ne_eq, before_iff (o _) (o _)] at ih
        grind
    · rw [if_neg c] at k
      by_cases cj : j = n
      · subst cj; exact c k
      · have ih := fmin_min ok n j (by omega)
        rw [ih] at k; cases k
theorem begun_is {l : List P} (h : 0 < l.length) : ∃ t u, l = u ++ Kzq1.at0 l (fmin l l.length) :: t ∧ Kzq1.begunWith l = Kzq1.at0 l (fmin l l.length) :: (t ++ u) := by
  have hi := fmin_lt l l.length h
  have e : Kzq1.begunWith l = l.drop (fmin l l.length) ++ l.take (fmin l l.length) := rfl
  generalize fmin l l.length = i at *
  have e0 : Kzq1.at0 l i = l[i] := by
    unfold Kzq1.at0
    rw [Nat.mod_eq_of_lt hi, List.getD_eq_getElem?_getD, List.getElem?_eq_getElem hi]; rfl
  refine ⟨l.drop (i + 1), l.take i, ?_, ?_⟩
  · rw [e0, ← List.drop_eq_getElem_cons hi, List.take_append_drop]
  · rw [e, List.drop_eq_getElem_cons hi, e0]; rfl
/-- two rows of corners of one piece, begun with the leftmost, are one -/
theorem begun_eq {l m : List P} (ol : OkL l) (om : OkL m) (T : Tri (l.map pv)) (U : Tri (m.map pv)) (hl : 3 ≤ l.length) (hm : 3 ≤ m.length) (h : ∀ z, Rg (l.map pv) z ↔ Rg (m.map pv) z) : Kzq1.begunWith l = Kzq1.begunWith m := by
  obtain ⟨t, u, e1, e2⟩ := begun_is (l := l) (by omega)
  obtain ⟨t', u', e3, e4⟩ := begun_is (l := m) (by omega)
  have hl' : 3 ≤ (l.map pv).length := by rw [List.length_map]; exact hl
  have hm' : 3 ≤ (m.map pv).length := by rw [List.length_map]; exact hm
  -- the leftmost is one
  have oa := at0_ok ol (fmin l l.length)
  have ob := at0_ok om (fmin m m.length)
  have ab : Kzq1.at0 l (fmin l l.length) = Kzq1.at0 m (fmin m m.length) := by
    have min1 := fmin_min ol l.length
    have min2 := fmin_min om m.length
    have in1 : pv (Kzq1.at0 l (fmin l l.length)) ∈ m.map pv := same_corners T U hl' hm' h (by rw [← at0_pv]; exact ac_mem _ (by omega))
    have in2 : pv (Kzq1.at0 m (fmin m m.length)) ∈ l.map pv := same_corners U T hm' hl' (fun z => (h z).symm) (by rw [← at0_pv]; exact ac_mem _ (by omega))
    obtain ⟨i, hi, ei⟩ := mem_ac in1
    obtain ⟨j, hj, ej⟩ := mem_ac in2
    rw [at0_pv] at ei ej
    rw [List.length_map] at hi hj
    have ei := pv_inj oa (at0_ok om i) ei
    have ej := pv_inj ob (at0_ok ol j) ej
    have k1 := min2 i hi
    have k2 := min1 j hj
    rw [← ei] at k1
    rw [← ej] at k2
    rw [Bool.eq_false_iff, ne_eq, before_iff oa ob] at k1
    rw [Bool.eq_false_iff, ne_eq, before_iff ob oa] at k2
    exact P_ext oa ob (by grind) (by grind)
  rw [e2, e4, ← ab]
  rw [← ab] at e3
  generalize Kzq1.at0 l (fmin l l.length) = a at *
  have s1 : l.map pv = u.map pv ++ (pv a :: t.map pv) := by rw [e1]; simp
  have s3 : m.map pv = u'.map pv ++ (pv a :: t'.map pv) := by rw [e3]; simp
  have T' : Tri (pv a :: (t.map pv ++ u.map pv)) := by rw [s1] at T; exact T.rot
  have U' : Tri (pv a :: (t'.map pv ++ u'.map pv)) := by rw [s3] at U; exact U.rot
  have R' : ∀ z, Rg (pv a :: (t.map pv ++ u.map pv)) z ↔ Rg (pv a :: (t'.map pv ++ u'.map pv)) z := fun z => by
    have := h z
    rw [s1, s3] at this
    exact (Rg.rot_iff (l := u.map pv) (m := pv a :: t.map pv)).symm.trans (this.trans (Rg.rot_iff (l := u'.map pv) (m := pv a :: t'.map pv)))
  have l1 : l.length = u.length + (t.length + 1) := by rw [e1]; simp
  have l2 : m.length = u'.length + (t'.length + 1) := by rw [e3]; simp
  have k := same_piece T' U' (by simp; omega) (by simp; omega) R'
  rw [← List.map_append, ← List.map_append] at k
  have inj : ∀ (x y : List P), OkL x → OkL y → x.map pv = y.map pv → x = y := by
    intro x
    induction x with
    | nil => intro y _ _ e; cases y with
      | nil => rfl
      | cons b y => simp at e
    | cons a x ih => intro y ox oy e; cases y with
      | nil => simp at e
      | cons b y =>
        rw [List.map_cons, List.map_cons] at e
        injection e with e1 e2
        rw [pv_inj (ox a List.mem_cons_self) (oy b List.mem_cons_self) e1, ih y (fun p hp => ox p (List.mem_cons_of_mem _ hp)) (fun p hp => oy p (List.mem_cons_of_mem _ hp)) e2]
  have sub1 : OkL (t ++ u) := fun p hp => ol p (by
    rw [e1]
    rcases List.mem_append.mp hp with h | h
    · exact List.mem_append_right _ (List.mem_cons_of_mem _ h)
    · exact List.mem_append_left _ h)
  have sub2 : OkL (t' ++ u') := fun p hp => om p (by
    rw [e3]
    rcases List.mem_append.mp hp with h | h
    · exact List.mem_append_right _ (List.mem_cons_of_mem _ h)
    · exact List.mem_append_left _ h)
  rw [inj _ _ sub1 sub2 k]
theorem begun_rot (l : List P) : ∃ u v, l = u ++ v ∧ Kzq1.begunWith l = v ++ u := by
  refine ⟨l.take (fmin l l.length), l.drop (fmin l l.length), (List.take_append_drop _ _).symm, rfl⟩
/-! what lies in both of two pieces -/
structure Piece (l : List P) : Prop where
  ok : OkL l
  tri : Tri (l.map pv)
  three : 3 ≤ l.length
abbrev RgP (l : List P) (z : V2) : Prop := Rg (l.map pv) z
def Meets (p q : List P) : Prop := ∃ z, RgP p z ∧ ∀ i, 0 < tn (pv (Kzq1.at0 q i)) (pv (Kzq1.at0 q (i + 1))) z
theorem Piece.formed {l : List P} (h : Piece l) : Kzq1.formed l = Kzq1.begunWith l := (formed_tri h.ok h.tri h.three).2.2
theorem Piece.piece {l : List P} (h : Piece l) : pieceOf l = Kzq1.formed l := by
  unfold pieceOf
  rw [(formed_tri h.ok h.tri h.three).1, h.formed]
theorem Piece.rot {l m : List P} (h : Piece (l ++ m)) : Piece (m ++ l) := by
  refine ⟨fun p hp => h.ok p ?_, ?_, ?_⟩
  · rcases List.mem_append.mp hp with k | k
    · exact List.mem_append_right _ k
    · exact List.mem_append_left _ k
  · have := h.tri
    rw [List.map_append] at this ⊢
    exact this.rot
  · have := h.three
    rw [List.length_append] at this ⊢
    omega
theorem Piece.begun {l : List P} (h : Piece l) : Piece (Kzq1.begunWith l) := by
  obtain ⟨u, v, e1, e2⟩ := begun_rot l
  rw [e2]
  rw [e1] at h
  exact h.rot
theorem RgP.begun {l : List P} {z : V2} : RgP (Kzq1.begunWith l) z ↔ RgP l z := by
  obtain ⟨u, v, e1, e2⟩ := begun_rot l
  rw [e2]
  conv => rhs; rw [e1]
  unfold RgP
  rw [List.map_append, List.map_append]
  exact Rg.rot_iff
theorem Piece.same {l m : List P} (h : Piece l) (k : Piece m) (e : ∀ z, RgP l z ↔ RgP m z) : Kzq1.formed l = Kzq1.formed m := by
  rw [h.formed, k.formed]
  exact begun_eq h.ok k.ok h.tri k.tri h.three k.three e
theorem sides_pv (q : List P) : (Kzq1.sides q).map (fun s => (pv s.1, pv s.2)) = (List.range q.length).map fun i => (pv (Kzq1.at0 q i), pv (Kzq1.at0 q (i + 1))) := by
  unfold Kzq1.sides
  rw [List.map_map]; rfl
theorem at0_period (q : List P) (i : Nat) : Kzq1.at0 q (i % q.length) = Kzq1.at0 q i ∧ Kzq1.at0 q (i % q.length + 1) = Kzq1.at0 q (i + 1) := by
  unfold Kzq1.at0
  rw [Nat.mod_mod, Nat.mod_add_mod]
  exact ⟨rfl, rfl⟩
theorem all_sides {q : List P} (h : 0 < q.length) {F : V2 → V2 → Prop} : (∀ s ∈ (Kzq1.sides q).map (fun s => (pv s.1, pv s.2)), F s.1 s.2) ↔ ∀ i, F (pv (Kzq1.at0 q i)) (pv (Kzq1.at0 q (i + 1))) := by
  rw [sides_pv]
  constructor
  · intro k i
    have := k (pv (Kzq1.at0 q (i % q.length)), pv (Kzq1.at0 q (i % q.length + 1))) (List.mem_map.mpr ⟨i % q.length, List.mem_range.mpr (Nat.mod_lt _ h), rfl⟩)
    rw [(at0_period q i).1, (at0_period q i).2] at this
    exact this
  · intro k s hs
    obtain ⟨i, _, rfl⟩ := List.mem_map.mp hs
    exact k i
theorem rg_sides (q : List P) (z : V2) : RgP q z ↔ ∀ i, 0 ≤ tn (pv (Kzq1.at0 q i)) (pv (Kzq1.at0 q (i + 1))) z := by
  unfold RgP Rg
  constructor
  · intro h i
    have := h i
    rw [at0_pv, at0_pv] at this
    exact this
  · intro h i
    rw [at0_pv, at0_pv]
    exact h i
theorem meet_alive {p q : List P} (hp : Piece p) (hq : Piece q) (h : Meets p q) : ∃ r, Piece r ∧ (∀ z, RgP r z ↔ RgP p z ∧ RgP q z) ∧ Kzq1.meet p q = Kzq1.formed r := by
  obtain ⟨z, hz, f⟩ := h
  have q0 : 0 < q.length := by have := hq.three; omega
  have okS : ∀ s ∈ Kzq1.sides q, OkP s.1 ∧ OkP s.2 := fun s hs => by
    obtain ⟨i, _, rfl⟩ := List.mem_map.mp hs
    exact ⟨at0_ok hq.ok _, at0_ok hq.ok _⟩
  obtain ⟨ok, e⟩ := clips_is (Kzq1.sides q) okS hp.ok
  obtain ⟨a, b, c⟩ := clips_alive ((Kzq1.sides q).map fun s => (pv s.1, pv s.2)) hp.tri (by rw [List.length_map]; exact hp.three) hz ((all_sides q0 (F := fun a b => 0 < tn a b z)).mpr f)
  rw [← e] at a b c
  refine ⟨_, ⟨ok, a, by rw [List.length_map] at b; exact b⟩, fun w => (c w).trans ?_, rfl⟩
  rw [all_sides q0 (F := fun a b => 0 ≤ tn a b w), rg_sides q]
theorem meet_dead {p q : List P} (hp : Piece p) (hq : Piece q) (h : ¬ Meets p q) : Kzq1.meet p q = [] := by
  have q0 : 0 < q.length := by have := hq.three; omega
  have okS : ∀ s ∈ Kzq1.sides q, OkP s.1 ∧ OkP s.2 := fun s hs => by
    obtain ⟨i, _, rfl⟩ := List.mem_map.mp hs
    exact ⟨at0_ok hq.ok _, at0_ok hq.ok _⟩
  obtain ⟨ok, e⟩ := clips_is (Kzq1.sides q) okS hp.ok
  have hq3 : 3 ≤ (q.map pv).length := by rw [List.length_map]; exact hq.three
  have ne : ∀ s ∈ (Kzq1.sides q).map (fun s => (pv s.1, pv s.2)), s.1 ≠ s.2 := by
    rw [sides_pv]
    intro s hs
    obtain ⟨i, hi, rfl⟩ := List.mem_map.mp hs
    have := hq.tri.corner hq3 (j := i) (by rw [List.length_map]; exact List.mem_range.mp hi)
    intro e
    have e : pv (Kzq1.at0 q i) = pv (Kzq1.at0 q (i + 1)) := e
    rw [at0_pv, at0_pv, at0_pv, e, tn_bb] at this
    exact absurd this (by decide)
  have F := clips_dead ((Kzq1.sides q).map fun s => (pv s.1, pv s.2)) hp.tri (by rw [List.length_map]; exact hp.three) ne (by
    rintro ⟨z, hz, f⟩
    exact h ⟨z, hz, (all_sides q0 (F := fun a b => 0 < tn a b z)).mp f⟩)
  rw [← e] at F
  exact formed_flat ok F
end Sc
namespace Sc
open Kzq1 (Q P)
/-! The program's way of cutting: of each corner first where the side before it crosses -/
def xg (s t a b : V2) : List V2 := if crosses s t a b then [xp s t a b] else []
def kg (s t a : V2) : List V2 := if tn s t a < 0 then [] else [a]
theorem gp_eq (s t a b : V2) : gp s t a b = kg s t a ++ xg s t a b := rfl
def cut2 (s t : V2) (l : List V2) : List V2 := (List.range l.length).flatMap fun k => xg s t (ac l (k + l.length - 1)) (ac l k) ++ kg s t (ac l k)
theorem shift_fm {α : Type} (X K : Nat → List α) : ∀ n a, (List.range' (a + 1) n).flatMap (fun k => X (k - 1) ++ K k) ++ X (a + n) = X a ++ (List.range' (a + 1) n).flatMap (fun k => K k ++ X k)
  | 0, a => by simp
  | n + 1, a => by
    rw [List.range'_succ, List.flatMap_cons, List.flatMap_cons, Nat.add_sub_cancel]
    have := shift_fm X K n (a + 1)
    rw [show a + (n + 1) = a + 1 + n by omega, List.append_assoc, List.append_assoc, this]
    simp only [List.append_assoc]
/-- the same row, begun elsewhere -/
theorem cut_rot (s t : V2) (l : List V2) : ∃ u v, clip2 s t l = u ++ v ∧ cut2 s t l = v ++ u := by
  by_cases c : l.length = 0
  · have e : l = [] := List.length_eq_zero_iff.mp c
    subst e; exact ⟨[], [], rfl, rfl⟩
  obtain ⟨n, hn⟩ : ∃ n, l.length = n + 1 := ⟨l.length - 1, by omega⟩
  let X : Nat → List V2 := fun i => xg s t (ac l i) (ac l (i + 1))
  let K : Nat → List V2 := fun i => kg s t (ac l i)
  have e1 : clip2 s t l = K 0 ++ X 0 ++ (List.range' 1 n).flatMap fun k => K k ++ X k := by
    unfold clip2
    rw [hn, List.range_eq_range', List.range'_succ, List.flatMap_cons]
    rfl
  have e2 : cut2 s t l = X n ++ (K 0 ++ (List.range' 1 n).flatMap fun k => X (k - 1) ++ K k) := by
    unfold cut2
    rw [hn, List.range_eq_range', List.range'_succ, List.flatMap_cons]
    have a : xg s t (ac l (0 + (n + 1) - 1)) (ac l 0) = X n := by
      show _ = xg s t (ac l n) (ac l (n + 1))
      rw [← hn, ac_len, hn, Nat.zero_add, Nat.add_sub_cancel]
    rw [a, List.append_assoc]
    congr 2
    rw [List.flatMap_def, List.flatMap_def]
    congr 1
    refine List.map_congr_left fun k hk => ?_
    have hk := (List.mem_range'_1.mp hk).1
    show xg s t (ac l (k + (n + 1) - 1)) (ac l k) ++ K k = xg s t (ac l (k - 1)) (ac l (k - 1 + 1)) ++ K k
    have e : ac l (k + (n + 1) - 1) = ac l (k - 1) := by
      rw [← ac_add l (k - 1), hn]; congr 1; omega
    rw [e, show k - 1 + 1 = k by omega]
  have sh := shift_fm X K n 0
  simp only [Nat.zero_add] at sh
  refine ⟨K 0 ++ (List.range' 1 n).flatMap fun k => X (k - 1) ++ K k, X n, ?_, e2⟩
  rw [e1, List.append_assoc, List.append_assoc, sh]
theorem cut_len_eq (s t : V2) (l : List V2) : (cut2 s t l).length = (clip2 s t l).length := by
  obtain ⟨u, v, e1, e2⟩ := cut_rot s t l
  rw [e1, e2, List.length_append, List.length_append, Nat.add_comm]
theorem cut_tri {s t : V2} {l : List V2} (T : Tri l) (h3 : 3 ≤ l.length) : Tri (cut2 s t l) := by
  have := clip_tri (s := s) (t := t) T h3
  obtain ⟨u, v, e1, e2⟩ := cut_rot s t l
  rw [e1] at this
  rw [e2]
  exact this.rot
theorem cut_rg {s t : V2} {l : List V2} (T : Tri l) (h3 : 3 ≤ l.length) (hc : 3 ≤ (cut2 s t l).length) (z : V2) : Rg (cut2 s t l) z ↔ Rg l z ∧ 0 ≤ tn s t z := by
  rw [cut_len_eq] at hc
  have := clip_rg T h3 hc z
  obtain ⟨u, v, e1, e2⟩ := cut_rot s t l
  rw [e1, Rg.rot_iff] at this
  rw [e2]
  exact this
theorem cut_many {s t : V2} {l : List V2} {v : V2} (T : Tri l) (h3 : 3 ≤ l.length) (hv : v ∈ l) (fv : 0 < tn s t v) : 3 ≤ (cut2 s t l).length := by
  rw [cut_len_eq]
  exact clip_len T h3 hv fv
/-- points with fractions: left_corners, without its last row -/
def xP (s t a b : P) : List P := if (Kzq1.turn s t a).n * (Kzq1.turn s t b).n < 0 then [Kzq1.onLine (s, t) a b] else []
def kP (s t a : P) : List P := if 0 ≤ (Kzq1.turn s t a).n then [a] else []
def keptP (s t : P) (l : List P) : List P := (List.range l.length).flatMap fun k => xP s t (Kzq1.at0 l (k + l.length - 1)) (Kzq1.at0 l k) ++ kP s t (Kzq1.at0 l k)
def leftP (s t : P) (l : List P) : List P := if 3 ≤ (keptP s t l).length then keptP s t l else []
theorem n_sign {a : Q} (h : Ok a) : (0 < a.n ↔ 0 < val a) ∧ (a.n < 0 ↔ val a < 0) := by
  constructor
  · rw [Rat.lt_iff, val_num h]; simp
  · rw [Rat.lt_iff, val_num h]; simp
theorem xP_is {s t a b : P} (hs : OkP s) (ht : OkP t) (ha : OkP a) (hb : OkP b) : OkL (xP s t a b) ∧ (xP s t a b).map pv = xg (pv s) (pv t) (pv a) (pv b) := by
  have u := turn_ok hs ht ha
  have v := turn_ok hs ht hb
  have su := n_sign u
  have sv := n_sign v
  rw [val_tn hs ht ha] at su
  rw [val_tn hs ht hb] at sv
  have c : (Kzq1.turn s t a).n * (Kzq1.turn s t b).n < 0 ↔ crosses (pv s) (pv t) (pv a) (pv b) := by
    unfold crosses
    rw [← su.1, ← su.2, ← sv.1, ← sv.2]
    generalize (Kzq1.turn s t a).n = x
    generalize (Kzq1.turn s t b).n = y
    constructor
    · intro h
      rcases Int.lt_trichotomy x 0 with k | k | k
      · right
        refine ⟨k, ?_⟩
        refine Int.not_le.mp fun n => ?_
        have := Int.mul_nonneg_of_nonpos_of_nonpos (Int.le_of_lt k) n
        omega
      · rw [k, Int.zero_mul] at h; omega
      · left
        refine ⟨k, Int.not_le.mp fun n => ?_⟩
        have := Int.mul_nonneg (Int.le_of_lt k) n
        omega
    · rintro (⟨h1, h2⟩ | ⟨h1, h2⟩)
      · exact Int.mul_neg_of_pos_of_neg h1 h2
      · exact Int.mul_neg_of_neg_of_pos h1 h2
  unfold xP xg
  by_cases k : crosses (pv s) (pv t) (pv a) (pv b)
  · rw [if_pos k, if_pos (c.mpr k)]
    obtain ⟨o, e⟩ := onLine_is hs ht ha hb k
    exact ⟨fun p hp => by simp at hp; subst hp; exact o, by simp; exact e⟩
  · rw [if_neg k, if_neg (fun n => k (c.mp n))]
    exact ⟨fun p hp => by simp at hp, rfl⟩
theorem kP_is {s t a : P} (hs : OkP s) (ht : OkP t) (ha : OkP a) : OkL (kP s t a) ∧ (kP s t a).map pv = kg (pv s) (pv t) (pv a) := by
  have u := turn_ok hs ht ha
  have su := n_sign u
  rw [val_tn hs ht ha] at su
  unfold kP kg
  by_cases k : tn (pv s) (pv t) (pv a) < 0
  · have : ¬ 0 ≤ (Kzq1.turn s t a).n := by have := su.2.mpr k; omega
    rw [if_pos k, if_neg this]
    exact ⟨fun p hp => by simp at hp, rfl⟩
  · have : 0 ≤ (Kzq1.turn s t a).n := by
      refine Int.not_lt.mp fun n => k (su.2.mp n)
    rw [if_neg k, if_pos this]
    exact ⟨fun p hp => by simp at hp; subst hp; exact ha, rfl⟩
theorem kept_is {s t : P} {l : List P} (hs : OkP s) (ht : OkP t) (hl : OkL l) : OkL (keptP s t l) ∧ (keptP s t l).map pv = cut2 (pv s) (pv t) (l.map pv) := by
  unfold keptP
  constructor
  · intro p hp
    obtain ⟨i, _, hp⟩ := List.mem_flatMap.mp hp
    rcases List.mem_append.mp hp with hp | hp
    · exact (xP_is hs ht (at0_ok hl _) (at0_ok hl _)).1 p hp
    · exact (kP_is hs ht (at0_ok hl _)).1 p hp
  · unfold cut2
    rw [List.map_flatMap, List.length_map]
    congr 1
    funext i
    rw [at0_pv, at0_pv, List.map_append, (xP_is hs ht (at0_ok hl _) (at0_ok hl _)).2, (kP_is hs ht (at0_ok hl _)).2]
/-- common_corners -/
def commonP (p q : List P) : List P := (List.range q.length).foldl (fun l k => leftP (Kzq1.at0 q (k + q.length - 1)) (Kzq1.at0 q k) l) p
theorem lefts_alive (q : List P) (hq : OkL q) : ∀ (ks : List Nat) {l : List P} (_ : Piece l) {z : V2} (_ : RgP l z) (_ : ∀ k ∈ ks, 0 < tn (pv (Kzq1.at0 q (k + q.length - 1))) (pv (Kzq1.at0 q k)) z),
    Piece (ks.foldl (fun l k => leftP (Kzq1.at0 q (k + q.length - 1)) (Kzq1.at0 q k) l) l) ∧ ∀ z, RgP (ks.foldl (fun l k => leftP (Kzq1.at0 q (k + q.length - 1)) (Kzq1.at0 q k) l) l) z ↔ RgP l z ∧ ∀ k ∈ ks, 0 ≤ tn (pv (Kzq1.at0 q (k + q.length - 1))) (pv (Kzq1.at0 q k)) z
  | [], l, h, z, hz, f => ⟨h, fun w => ⟨fun k => ⟨k, fun s hs => by simp at hs⟩, fun k => k.1⟩⟩
  | k :: ks, l, h, z, hz, f => by
    have f0 := f k List.mem_cons_self
    have h3 : 3 ≤ (l.map pv).length := by rw [List.length_map]; exact h.three
    have os := at0_ok hq (k + q.length - 1)
    have ot := at0_ok hq k
    obtain ⟨ok, e⟩ := kept_is os ot h.ok
    obtain ⟨v, hv, fv⟩ := off_line h.tri h3 hz f0
    have hc := cut_many h.tri h3 hv fv
    have r := cut_rg h.tri h3 hc
    have T := cut_tri (s := pv (Kzq1.at0 q (k + q.length - 1))) (t := pv (Kzq1.at0 q k)) h.tri h3
    rw [← e] at hc r T
    rw [List.length_map] at hc
    have el : leftP (Kzq1.at0 q (k + q.length - 1)) (Kzq1.at0 q k) l = keptP (Kzq1.at0 q (k + q.length - 1)) (Kzq1.at0 q k) l := by unfold leftP; rw [if_pos hc]
    rw [List.foldl_cons, el]
    obtain ⟨a, b⟩ := lefts_alive q hq ks ⟨ok, T, hc⟩ ((r z).mpr ⟨hz, Rat.le_of_lt f0⟩) fun j hj => f j (List.mem_cons_of_mem _ hj)
    refine ⟨a, fun w => (b w).trans ?_⟩
    have rw' := r w
    unfold RgP
    rw [rw']
    constructor
    · rintro ⟨⟨h1, h2⟩, h4⟩
      refine ⟨h1, fun j hj => ?_⟩
      rcases List.mem_cons.mp hj with rfl | hj
      · exact h2
      · exact h4 j hj
    · rintro ⟨h1, h2⟩
      exact ⟨⟨h1, h2 k List.mem_cons_self⟩, fun j hj => h2 j (List.mem_cons_of_mem _ hj)⟩
/-- sides counted by their last corner -/
theorem back_sides {q : List P} (h : 0 < q.length) {F : V2 → V2 → Prop} : (∀ k ∈ List.range q.length, F (pv (Kzq1.at0 q (k + q.length - 1))) (pv (Kzq1.at0 q k))) ↔ ∀ i, F (pv (Kzq1.at0 q i)) (pv (Kzq1.at0 q (i + 1))) := by
  constructor
  · intro k i
    have := k ((i + 1) % q.length) (List.mem_range.mpr (Nat.mod_lt _ h))
    have e1 : Kzq1.at0 q ((i + 1) % q.length) = Kzq1.at0 q (i + 1) := (at0_period q (i + 1)).1
    have e2 : Kzq1.at0 q ((i + 1) % q.length + q.length - 1) = Kzq1.at0 q i := by
      unfold Kzq1.at0
      congr 1
      rw [show (i + 1) % q.length + q.length - 1 = (i + 1) % q.length + (q.length - 1) by omega, Nat.mod_add_mod, show i + 1 + (q.length - 1) = i + q.length by omega, Nat.add_mod_right]
    rw [e1, e2] at this
    exact this
  · intro k j hj
    have hj := List.mem_range.mp hj
    have := k (j + q.length - 1)
    have e : Kzq1.at0 q (j + q.length - 1 + 1) = Kzq1.at0 q j := by
      rw [show j + q.length - 1 + 1 = j + q.length by omega]
      unfold Kzq1.at0
      rw [Nat.add_mod_right]
    rw [e] at this
    exact this
theorem common_alive {p q : List P} (hp : Piece p) (hq : Piece q) (h : Meets p q) : Piece (commonP p q) ∧ ∀ z, RgP (commonP p q) z ↔ RgP p z ∧ RgP q z := by
  obtain ⟨z, hz, f⟩ := h
  have q0 : 0 < q.length := by have := hq.three; omega
  obtain ⟨a, b⟩ := lefts_alive q hq.ok (List.range q.length) hp hz ((back_sides q0 (F := fun a b => 0 < tn a b z)).mpr f)
  refine ⟨a, fun w => (b w).trans ?_⟩
  rw [back_sides q0 (F := fun a b => 0 ≤ tn a b w), rg_sides q]
/-- what's made of both by the program is what they have in common -/
theorem common_meet {p q : List P} (hp : Piece p) (hq : Piece q) (h : Meets p q) : Kzq1.meet p q = Kzq1.formed (commonP p q) := by
  obtain ⟨r, a, b, c⟩ := meet_alive hp hq h
  obtain ⟨d, e⟩ := common_alive hp hq h
  rw [c]
  exact a.same d fun z => (b z).trans (e z).symm
end Sc
namespace Sc
open Kzq1 (Q P)
/-! Stairs -/
theorem tri_cons {a : V2} {l : List V2} (h1 : l.Pairwise fun b c => 0 < tn a b c) (h2 : Tri l) : Tri (a :: l) := by
  intro x y z s
  cases s with
  | cons _ s => exact h2 _ _ _ s
  | cons_cons _ s => exact (List.pairwise_iff_forall_sublist.mp h1) s
theorem tri_nil : Tri [] := fun a b c s => by simp at s
theorem tri3 {a b c : V2} (h : 0 < tn a b c) : Tri [a, b, c] := tri_cons (by simp; exact h) (tri_cons (by simp) (tri_cons (by simp) tri_nil))
theorem tri4 {a b c d : V2} (h1 : 0 < tn a b c) (h2 : 0 < tn a b d) (h3 : 0 < tn a c d) (h4 : 0 < tn b c d) : Tri [a, b, c, d] := tri_cons (by simp; exact ⟨⟨h1, h2⟩, h3⟩) (tri3 h4)
theorem tri5 {a b c d e : V2} (h1 : 0 < tn a b c) (h2 : 0 < tn a b d) (h3 : 0 < tn a b e) (h4 : 0 < tn a c d) (h5 : 0 < tn a c e) (h6 : 0 < tn a d e) (k1 : 0 < tn b c d) (k2 : 0 < tn b c e) (k3 : 0 < tn b d e) (k4 : 0 < tn c d e) : Tri [a, b, c, d, e] :=
  tri_cons (by simp; exact ⟨⟨h1, h2, h3⟩, ⟨h4, h5⟩, h6⟩) (tri4 k1 k2 k3 k4)
theorem unlike5 (a b c d e : P) : Kzq1.unlike [a, b, c, d, e] = (if a = b then [] else [a]) ++ ((if b = c then [] else [b]) ++ ((if c = d then [] else [c]) ++ ((if d = e then [] else [d]) ++ (if e = a then [] else [e])))) := by
  have e4 : Kzq1.at0 [a, b, c, d, e] (4 + 1) = a := by simp [Kzq1.at0]
  show List.filterMap (fun i => if Kzq1.at0 [a, b, c, d, e] i = Kzq1.at0 [a, b, c, d, e] (i + 1) then none else some (Kzq1.at0 [a, b, c, d, e] i)) [0, 1, 2, 3, 4] = _
  rw [fm_cons (c := a = b) (x := a) rfl, fm_cons (c := b = c) (x := b) rfl, fm_cons (c := c = d) (x := c) rfl, fm_cons (c := d = e) (x := d) rfl, fm_cons (c := e = a) (x := e) (by rw [e4]; rfl)]
  simp
/-- what is handed in to stairs -/
structure Stair (a b c : Q) : Prop where
  oa : Ok a
  ob : Ok b
  oc : Ok c
  pa : 0 < val a
  pb : 0 < val b
  pc : 0 < val c
  lt : val c < val a
  ge : val a ≤ 2 * val c
def stRest (a c : Q) : Q := Kzq1.sub a c
def stStep (a b c : Q) : Q := Kzq1.div (Kzq1.mul b (stRest a c)) c
section
variable {a b c : Q}
theorem Stair.rest (h : Stair a b c) : Ok (stRest a c) ∧ val (stRest a c) = val a - val c := ⟨sub_ok h.oa h.oc, val_sub h.oa h.oc⟩
theorem Stair.step (h : Stair a b c) : Ok (stStep a b c) ∧ val (stStep a b c) * val c = val b * (val a - val c) := by
  have n : val c ≠ 0 := Rat.ne_of_gt h.pc
  have o := mul_ok h.ob h.rest.1
  refine ⟨div_ok o h.oc n, ?_⟩
  unfold stStep
  rw [val_div o h.oc n, Rat.div_mul_cancel n, val_mul h.ob h.rest.1, h.rest.2]
theorem Stair.is_step (h : Stair a b c) : Kzq1.sub (Kzq1.div (Kzq1.mul a b) c) b = stStep a b c := by
  have n : val c ≠ 0 := Rat.ne_of_gt h.pc
  have o := mul_ok h.oa h.ob
  have od := div_ok o h.oc n
  refine val_inj (sub_ok od h.ob) h.step.1 ?_
  have e := h.step.2
  have e2 : val (Kzq1.sub (Kzq1.div (Kzq1.mul a b) c) b) * val c = val b * (val a - val c) := by
    rw [val_sub od h.ob, val_div o h.oc n, val_mul h.oa h.ob]
    have := Rat.div_mul_cancel (a := val a * val b) n
    grind
  have e3 : (val (Kzq1.sub (Kzq1.div (Kzq1.mul a b) c) b) - val (stStep a b c)) * val c = 0 := by grind
  have := (Rat.mul_eq_zero.mp e3).resolve_right n
  grind
/-- the corners of the three parts, as the program tells them -/
def st1 (a b c : Q) : List P := [⟨Kzq1.zero, Kzq1.zero⟩, ⟨c, Kzq1.zero⟩, ⟨c, stStep a b c⟩, ⟨stRest a c, b⟩, ⟨Kzq1.zero, b⟩]
def st2 (a b c : Q) : List P := [⟨c, Kzq1.zero⟩, ⟨a, Kzq1.zero⟩, ⟨c, stStep a b c⟩]
def st3 (a b c : Q) : List P := [⟨stRest a c, b⟩, ⟨a, Kzq1.zero⟩, ⟨a, b⟩]
def stParts (a b c : Q) : List Kzq2.Part := [⟨pieceOf (st1 a b c), Kzq2.stay⟩, ⟨pieceOf (st2 a b c), ⟨false, ⟨Kzq1.sub Kzq1.zero c, b⟩⟩⟩, ⟨pieceOf (st3 a b c), ⟨false, ⟨Kzq1.sub Kzq1.zero (stRest a c), stStep a b c⟩⟩⟩]
theorem neg_is {q : Q} (h : Ok q) : Kzq1.sub Kzq1.zero q = Kzq1.neg q := by
  refine val_inj (sub_ok zero_ok h) (neg_ok h) ?_
  rw [val_sub zero_ok h, val_neg h, val_zero]; grind
theorem Stair.vals (h : Stair a b c) : 0 < val (stRest a c) ∧ 0 < val (stStep a b c) ∧ val (stStep a b c) ≤ val b ∧ val (stRest a c) ≤ val c ∧ (val (stRest a c) = val c → val (stStep a b c) = val b) ∧ (val (stRest a c) < val c → val (stStep a b c) < val b) := by
  have e := h.step.2
  have r := h.rest.2
  have lt := h.lt
  have ge := h.ge
  have pc := h.pc
  have pb := h.pb
  rw [r]
  have pr : 0 < val a - val c := by grind
  have m := Rat.mul_pos pb pr
  generalize val (stStep a b c) = s at *
  have key : val b * val c - s * val c = val b * (2 * val c - val a) := by grind
  have ps : 0 < s := by
    refine Rat.not_le.mp fun n => ?_
    have := nn_mul (show 0 ≤ -s by grind) (Rat.le_of_lt pc)
    grind
  refine ⟨pr, ps, ?_, by grind, fun q => ?_, fun q => ?_⟩
  · refine Rat.not_lt.mp fun n => ?_
    have := Rat.mul_pos (show 0 < s - val b by grind) pc
    have := nn_mul (Rat.le_of_lt pb) (show 0 ≤ 2 * val c - val a by grind)
    grind
  · have q2 : 2 * val c - val a = 0 := by grind
    rw [q2, Rat.mul_zero] at key
    have : (val b - s) * val c = 0 := by grind
    have := (Rat.mul_eq_zero.mp this).resolve_right (Rat.ne_of_gt pc)
    grind
  · refine Rat.not_le.mp fun n => ?_
    have := nn_mul (show 0 ≤ s - val b by grind) (Rat.le_of_lt pc)
    have := Rat.mul_pos pb (show 0 < 2 * val c - val a by grind)
    grind
theorem pv_mk (x y : Q) : pv ⟨x, y⟩ = ⟨val x, val y⟩ := rfl
theorem Stair.first (h : Stair a b c) : Kzq1.formed (st1 a b c) = pieceOf (st1 a b c) := by
  obtain ⟨pr, ps, sb, rc, eq, lt⟩ := h.vals
  have pc := h.pc
  have pb := h.pb
  have oz : Ok Kzq1.zero := zero_ok
  have orr := h.rest.1
  have os := h.step.1
  have ok : OkL (st1 a b c) := fun p hp => by
    unfold st1 at hp
    simp only [List.mem_cons, List.not_mem_nil, or_false] at hp
    rcases hp with rfl | rfl | rfl | rfl | rfl
    · exact ⟨oz, oz⟩
    · exact ⟨h.oc, oz⟩
    · exact ⟨h.oc, os⟩
    · exact ⟨orr, h.ob⟩
    · exact ⟨oz, h.ob⟩
  have m1 := Rat.mul_pos pc pb
  have m2 := Rat.mul_pos pr pb
  have m3 := Rat.mul_pos pc ps
  have m4 := Rat.mul_pos pr ps
  by_cases k : val (stRest a c) = val c
  · -- c is half of a
    have e1 : stRest a c = c := val_inj orr h.oc k
    have e2 : stStep a b c = b := val_inj os h.ob (eq k)
    have n1 : (⟨Kzq1.zero, Kzq1.zero⟩ : P) ≠ ⟨c, Kzq1.zero⟩ := fun e => by
      injection e with e _
      rw [← e, val_zero] at pc; exact absurd pc (by decide)
    have n2 : (⟨c, Kzq1.zero⟩ : P) ≠ ⟨c, b⟩ := fun e => by
      injection e with _ e
      rw [← e, val_zero] at pb; exact absurd pb (by decide)
    have n3 : (⟨c, b⟩ : P) ≠ ⟨Kzq1.zero, b⟩ := fun e => by
      injection e with e _
      rw [e, val_zero] at pc; exact absurd pc (by decide)
    have n4 : (⟨Kzq1.zero, b⟩ : P) ≠ ⟨Kzq1.zero, Kzq1.zero⟩ := fun e => by
      injection e with _ e
      rw [e, val_zero] at pb; exact absurd pb (by decide)
    have u : Kzq1.unlike (st1 a b c) = [⟨Kzq1.zero, Kzq1.zero⟩, ⟨c, Kzq1.zero⟩, ⟨c, b⟩, ⟨Kzq1.zero, b⟩] := by
      unfold st1
      rw [unlike5, e1, e2, if_neg n1, if_neg n2, if_pos rfl, if_neg n3, if_neg n4]; rfl
    have T : Tri ([(⟨Kzq1.zero, Kzq1.zero⟩ : P), ⟨c, Kzq1.zero⟩, ⟨c, b⟩, ⟨Kzq1.zero, b⟩].map pv) := by
      simp only [List.map_cons, List.map_nil, pv_mk, val_zero]
      refine tri4 ?_ ?_ ?_ ?_ <;> (unfold tn; dsimp only; grind)
    have ok' : OkL [(⟨Kzq1.zero, Kzq1.zero⟩ : P), ⟨c, Kzq1.zero⟩, ⟨c, b⟩, ⟨Kzq1.zero, b⟩] := fun p hp => by
      simp only [List.mem_cons, List.not_mem_nil, or_false] at hp
      rcases hp with rfl | rfl | rfl | rfl
      · exact ⟨oz, oz⟩
      · exact ⟨h.oc, oz⟩
      · exact ⟨h.oc, h.ob⟩
      · exact ⟨oz, h.ob⟩
    refine formed_of (by rw [u]; simp) ?_
    rw [u]
    exact (formed_tri ok' T (by simp)).2.1
  · have q : val (stRest a c) < val c := by grind
    have m5 := Rat.mul_pos pr (show 0 < val b - val (stStep a b c) by have := lt q; grind)
    have m6 := Rat.mul_pos ps (show 0 < val c - val (stRest a c) by grind)
    have m7 := Rat.mul_pos pc (show 0 < val b - val (stStep a b c) by have := lt q; grind)
    have m8 := Rat.mul_pos pb (show 0 < val c - val (stRest a c) by grind)
    have T : Tri ((st1 a b c).map pv) := by
      unfold st1
      simp only [List.map_cons, List.map_nil, pv_mk, val_zero]
      refine tri5 ?_ ?_ ?_ ?_ ?_ ?_ ?_ ?_ ?_ ?_ <;> (unfold tn; dsimp only; grind)
    have P5 : Piece (st1 a b c) := ⟨ok, T, by unfold st1; simp⟩
    exact P5.piece.symm
theorem Stair.second (h : Stair a b c) : Kzq1.formed (st2 a b c) = pieceOf (st2 a b c) := by
  obtain ⟨pr, ps, sb, rc, eq, lt⟩ := h.vals
  have e := h.rest.2
  rw [e] at pr
  have m := Rat.mul_pos pr ps
  have P3 : Piece (st2 a b c) := by
    refine ⟨fun p hp => ?_, ?_, by unfold st2; simp⟩
    · unfold st2 at hp
      simp only [List.mem_cons, List.not_mem_nil, or_false] at hp
      rcases hp with rfl | rfl | rfl
      · exact ⟨h.oc, zero_ok⟩
      · exact ⟨h.oa, zero_ok⟩
      · exact ⟨h.oc, h.step.1⟩
    · unfold st2
      simp only [List.map_cons, List.map_nil, pv_mk, val_zero]
      refine tri3 ?_
      unfold tn; dsimp only; grind
  exact P3.piece.symm
theorem Stair.third (h : Stair a b c) : Kzq1.formed [⟨a, Kzq1.zero⟩, ⟨a, b⟩, ⟨stRest a c, b⟩] = pieceOf (st3 a b c) := by
  have pb := h.pb
  have e := h.rest.2
  have pc := h.pc
  have m := Rat.mul_pos pc pb
  have P3 : Piece (st3 a b c) := by
    refine ⟨fun p hp => ?_, ?_, by unfold st3; simp⟩
    · unfold st3 at hp
      simp only [List.mem_cons, List.not_mem_nil, or_false] at hp
      rcases hp with rfl | rfl | rfl
      · exact ⟨h.rest.1, h.ob⟩
      · exact ⟨h.oa, zero_ok⟩
      · exact ⟨h.oa, h.ob⟩
    · unfold st3
      simp only [List.map_cons, List.map_nil, pv_mk, val_zero, e]
      refine tri3 ?_
      unfold tn; dsimp only; grind
  have e3 : st3 a b c = [⟨stRest a c, b⟩] ++ [⟨a, Kzq1.zero⟩, ⟨a, b⟩] := rfl
  have P4 : Piece ([⟨a, Kzq1.zero⟩, ⟨a, b⟩] ++ [⟨stRest a c, b⟩]) := by
    rw [e3] at P3
    exact P3.rot
  rw [P3.piece]
  exact Piece.same P4 P3 fun z => Rg.rot_iff (l := [pv ⟨a, Kzq1.zero⟩, pv ⟨a, b⟩]) (m := [pv ⟨stRest a c, b⟩])
theorem stairs_is (h : Stair a b c) : Kzq2.stairs a b c = stParts a b c := by
  show [(⟨Kzq1.formed [Kzq1.origin, ⟨c, Kzq1.zero⟩, ⟨c, Kzq1.sub (Kzq1.div (Kzq1.mul a b) c) b⟩, ⟨stRest a c, b⟩, ⟨Kzq1.zero, b⟩], Kzq2.stay⟩ : Kzq2.Part), ⟨Kzq1.formed [⟨c, Kzq1.zero⟩, ⟨a, Kzq1.zero⟩, ⟨c, Kzq1.sub (Kzq1.div (Kzq1.mul a b) c) b⟩], ⟨false, ⟨Kzq1.neg c, b⟩⟩⟩,
    ⟨Kzq1.formed [⟨a, Kzq1.zero⟩, ⟨a, b⟩, ⟨stRest a c, b⟩], ⟨false, ⟨Kzq1.neg (stRest a c), Kzq1.sub (Kzq1.div (Kzq1.mul a b) c) b⟩⟩⟩] = _
  rw [h.is_step, h.third]
  have e1 : Kzq1.formed [Kzq1.origin, ⟨c, Kzq1.zero⟩, ⟨c, stStep a b c⟩, ⟨stRest a c, b⟩, ⟨Kzq1.zero, b⟩] = pieceOf (st1 a b c) := h.first
  have e2 : Kzq1.formed [⟨c, Kzq1.zero⟩, ⟨a, Kzq1.zero⟩, ⟨c, stStep a b c⟩] = pieceOf (st2 a b c) := h.second
  rw [e1, e2, ← neg_is h.oc, ← neg_is h.rest.1]
  rfl
end
/-! what is read -/
def goodSt (a b c : Q) : Bool := !(decide (a.n ≤ 0) || (decide (b.n ≤ 0) || decide (c.n ≤ 0))) && (Kzq1.lt c a && !Kzq1.lt c (Kzq1.mul Kzq1.half a))
def rdQs : List Int → Option (List Q)
  | [] => some []
  | a :: b :: l => match Kzq1.readQ a b, rdQs l with
    | some x, some r => some (x :: r)
    | _, _ => none
  | _ => none
def rdSt (l : List Int) : Option (Q × Q × Q) := match rdQs l with
  | some [a, b, c] => if goodSt a b c = true then some (a, b, c) else none
  | _ => none
theorem good_stair {a b c : Q} (oa : Ok a) (ob : Ok b) (oc : Ok c) : goodSt a b c = true ↔ Stair a b c := by
  have sa := (n_pos oa); have sb := (n_pos ob); have sc := (n_pos oc)
  unfold goodSt
  rw [Bool.and_eq_true, Bool.and_eq_true, Bool.not_eq_true', Bool.or_eq_false_iff, Bool.or_eq_false_iff, decide_eq_false_iff_not, decide_eq_false_iff_not, decide_eq_false_iff_not, Bool.not_eq_true', lt_iff oc oa, Bool.eq_false_iff, ne_eq, lt_iff oc (mul_ok half_ok oa), val_mul half_ok oa, val_half, Int.not_le, Int.not_le, Int.not_le, sa, sb, sc]
  constructor
  · rintro ⟨⟨h1, h2, h3⟩, h4, h5⟩
    exact ⟨oa, ob, oc, h1, h2, h3, h4, by grind⟩
  · rintro ⟨_, _, _, h1, h2, h3, h4, h5⟩
    exact ⟨⟨h1, h2, h3⟩, h4, by grind⟩
where
  n_pos {q : Q} (h : Ok q) : 0 < q.n ↔ 0 < val q := by rw [Rat.lt_iff, val_num h]; simp
def rdQ1 : List Int → Option Q
  | [a, b] => Kzq1.readQ a b
  | _ => none
theorem rq_cons (a b : Int) (l : List Int) : rdQs (a :: b :: l) = match rdQ1 [a, b], rdQs l with
    | some x, some r => some (x :: r)
    | _, _ => none := rfl
theorem rq_app : ∀ (n : Nat) (l m : List Int), l.length = 2 * n → rdQs (l ++ m) = match rdQs l, rdQs m with
    | some x, some y => some (x ++ y)
    | _, _ => none
  | 0, l, m, h => by
    have e : l = [] := List.length_eq_zero_iff.mp (by omega)
    subst e
    show rdQs m = (match some ([] : List Q), rdQs m with
      | some x, some y => some (x ++ y)
      | _, _ => none)
    cases rdQs m <;> rfl
  | n + 1, l, m, h => by
    match l, h with
    | a :: b :: r, h =>
      have h' : r.length = 2 * n := by simp at h; omega
      show rdQs (a :: b :: (r ++ m)) = _
      rw [rq_cons, rq_cons, rq_app n r m h']
      cases rdQ1 [a, b] <;> cases rdQs r <;> cases rdQs m <;> rfl
theorem rq_two {l : List Int} (h : l.length = 2) : rdQs l = (rdQ1 l).map fun p => [p] := by
  match l, h with
  | [a, b], _ =>
    rw [rq_cons]
    show (match rdQ1 [a, b], some ([] : List Q) with
      | some x, some r => some (x :: r)
      | _, _ => none) = _
    cases rdQ1 [a, b] <;> rfl
theorem rq_more {ns : List Int} {i n : Nat} (h : ns.length = 2 * n) (hi : i < n) : rdQs (ns.take (2 * (i + 1))) = match rdQs (ns.take (2 * i)), rdQ1 ((ns.drop (2 * i)).take 2) with
    | some x, some y => some (x ++ [y])
    | _, _ => none := by
  have e : ns.take (2 * (i + 1)) = ns.take (2 * i) ++ (ns.drop (2 * i)).take 2 := by
    rw [← List.take_add, Nat.mul_succ]
  rw [e, rq_app i _ _ (by rw [List.length_take]; omega), rq_two (l := (ns.drop (2 * i)).take 2) (by rw [List.length_take, List.length_drop]; omega)]
  cases rdQs (ns.take (2 * i)) <;> cases rdQ1 ((ns.drop (2 * i)).take 2) <;> rfl
theorem rq_bad {ns : List Int} {i n : Nat} (h : ns.length = 2 * n) (hi : i < n) (hr : rdQ1 ((ns.drop (2 * i)).take 2) = none) : rdQs ns = none := by
  have e : ns = ns.take (2 * (i + 1)) ++ ns.drop (2 * (i + 1)) := (List.take_append_drop _ _).symm
  rw [e, rq_app (i + 1) _ _ (by rw [List.length_take]; omega), rq_more h hi, hr]
  cases rdQs (ns.take (2 * i)) <;> rfl
theorem rq_ok : ∀ {l : List Int} {ps : List Q}, rdQs l = some ps → l.length = 2 * ps.length ∧ (∀ p ∈ ps, Ok p) ∧ ∀ k, (∀ x ∈ l, x.natAbs < 2 ^ k) → ∀ p ∈ ps, Sz k p
  | [], ps, h => by
    cases h
    exact ⟨rfl, fun p hp => (by cases hp), fun _ _ p hp => (by cases hp)⟩
  | [_], ps, h => by cases h
  | a :: b :: r, ps, h => by
    rw [rq_cons] at h
    cases h1 : rdQ1 [a, b] with
    | none => rw [h1] at h; cases h
    | some p =>
      cases h2 : rdQs r with
      | none => rw [h1, h2] at h; cases h
      | some qs =>
        rw [h1, h2] at h
        cases h
        obtain ⟨o, e1, e2⟩ := readQ_ok (a := a) (b := b) h1
        obtain ⟨l2, o2, z2⟩ := rq_ok h2
        refine ⟨by simp; omega, fun z hz => ?_, fun k hk z hz => ?_⟩
        · rcases List.mem_cons.mp hz with rfl | hz
          · exact o
          · exact o2 z hz
        · rcases List.mem_cons.mp hz with rfl | hz
          · have k1 := hk a (by simp)
            have k2 := hk b (by simp)
            rw [← e1] at k1
            rw [← e2, Int.natAbs_natCast] at k2
            exact ⟨k1, k2⟩
          · exact z2 k (fun x hx => hk x (by simp [hx])) z hz
theorem stairs_eq (l : List Int) : PyKzq2.stairs l = match rdSt l with
    | none => [-22]
    | some (a, b, c) => 3 :: Kzq2.writtenCut (stParts a b c) := by
  have e0 : PyKzq2.stairs l = (Kzq2.answer (.stairs l)).value :: (Kzq2.answer (.stairs l)).nums := rfl
  rw [e0]
  unfold rdSt
  match l with
  | [] => rfl
  | [_] => rfl
  | [a, b] => 
    have e : rdQs [a, b] = (Kzq1.readQ a b).map fun x => [x] := by
      show (match Kzq1.readQ a b, some ([] : List Q) with
        | some x, some r => some (x :: r)
        | _, _ => none) = _
      cases Kzq1.readQ a b <;> rfl
    rw [e]
    cases Kzq1.readQ a b <;> rfl
  | [a, b, c] => 
    have e : rdQs [a, b, c] = none := by
      show (match Kzq1.readQ a b, (none : Option (List Q)) with
        | some x, some r => some (x :: r)
        | _, _ => none) = _
      cases Kzq1.readQ a b <;> rfl
    rw [e]; rfl
  | [a, b, c, d] => 
    have e : rdQs [a, b, c, d] = (match Kzq1.readQ a b, Kzq1.readQ c d with
      | some x, some y => some [x, y]
      | _, _ => none) := by
      show (match Kzq1.readQ a b, (match Kzq1.readQ c d, some ([] : List Q) with
        | some x, some r => some (x :: r)
        | _, _ => none) with
        | some x, some r => some (x :: r)
        | _, _ => none) = _
      cases Kzq1.readQ a b <;> cases Kzq1.readQ c d <;> rfl
    rw [e]
    cases Kzq1.readQ a b <;> cases Kzq1.readQ c d <;> rfl
  | [a, b, c, d, x] => 
    have e : rdQs [a, b, c, d, x] = none := by
      show (match Kzq1.readQ a b, (match Kzq1.readQ c d, (none : Option (List Q)) with
        | some x, some r => some (x :: r)
        | _, _ => none) with
        | some x, some r => some (x :: r)
        | _, _ => none) = _
      cases Kzq1.readQ a b <;> cases Kzq1.readQ c d <;> rfl
    rw [e]; rfl
  | [a, b, c, d, x, y] => 
    have e : rdQs [a, b, c, d, x, y] = (match Kzq1.readQ a b, Kzq1.readQ c d, Kzq1.readQ x y with
      | some p, some q, some r => some [p, q, r]
      | _, _, _ => none) := by
      show (match Kzq1.readQ a b, (match Kzq1.readQ c d, (match Kzq1.readQ x y, some ([] : List Q) with
        | some x, some r => some (x :: r)
        | _, _ => none) with
        | some x, some r => some (x :: r)
        | _, _ => none) with
        | some x, some r => some (x :: r)
        | _, _ => none) = _
      cases Kzq1.readQ a b <;> cases Kzq1.readQ c d <;> cases Kzq1.readQ x y <;> rfl
    have e2 : Kzq2.answer (.stairs [a, b, c, d, x, y]) = (match Kzq1.readQ a b, Kzq1.readQ c d, Kzq1.readQ x y with
      | some x, some y, some z => if Kzq1.pos x = false ∨ Kzq1.pos y = false ∨ Kzq1.lt z x = false ∨ Kzq1.lt (Kzq1.add z z) x = true then Kzq1.say (-22) else Kzq2.tellCut (Kzq2.stairs x y z)
      | _, _, _ => Kzq1.say (-22)) := rfl
    rw [e, e2]
    cases h1 : Kzq1.readQ a b with
    | none => cases Kzq1.readQ c d <;> cases Kzq1.readQ x y <;> rfl
    | some p =>
      cases h2 : Kzq1.readQ c d with
      | none => cases Kzq1.readQ x y <;> rfl
      | some q =>
        cases h3 : Kzq1.readQ x y with
        | none => rfl
        | some r =>
          have op := (readQ_ok h1).1
          have oq := (readQ_ok h2).1
          have or := (readQ_ok h3).1
          have bad : (Kzq1.pos p = false ∨ Kzq1.pos q = false ∨ Kzq1.lt r p = false ∨ Kzq1.lt (Kzq1.add r r) p = true) ↔ ¬ Stair p q r := by
            rw [pos_eq op, pos_eq oq, lt_eq or op, lt_eq (add_ok or or) op, val_add or or, decide_eq_false_iff_not, decide_eq_false_iff_not, decide_eq_false_iff_not, decide_eq_true_eq]
            constructor
            · rintro h ⟨_, _, _, a1, a2, a3, a4, a5⟩
              grind
            · intro h
              refine Classical.byContradiction fun n => h ⟨op, oq, or, by grind, by grind, by grind, by grind, by grind⟩
          dsimp only
          by_cases g : Stair p q r
          · rw [if_pos ((good_stair op oq or).mpr g), if_neg (fun n => bad.mp n g), stairs_is g]
            rfl
          · rw [if_neg (fun n => g ((good_stair op oq or).mp n)), if_pos (bad.mpr g)]
            rfl
  | a :: b :: c :: d :: x :: y :: z :: t => 
    have e : Kzq2.answer (.stairs (a :: b :: c :: d :: x :: y :: z :: t)) = Kzq1.say (-22) := rfl
    rw [e]
    cases h : rdQs (a :: b :: c :: d :: x :: y :: z :: t) with
    | none => rfl
    | some ps =>
      match ps, h with
      | [], _ => rfl
      | [_], _ => rfl
      | [_, _], _ => rfl
      | _ :: _ :: _ :: _ :: _, _ => rfl
      | [p, q, r], h => 
        exfalso
        have nil : ∀ m : List Int, rdQs m = some [] → m = [] := fun m hm => by
          match m, hm with
          | [], _ => rfl
          | [_], hm => cases hm
          | u :: v :: s, hm =>
            have hm : (match Kzq1.readQ u v, rdQs s with
              | some x, some r => some (x :: r)
              | _, _ => none) = some [] := hm
            cases h1 : Kzq1.readQ u v <;> cases h2 : rdQs s <;> rw [h1, h2] at hm <;> cases hm
        have cons : ∀ (u v : Int) (s : List Int) (p : Q) (ps : List Q), rdQs (u :: v :: s) = some (p :: ps) → rdQs s = some ps := fun u v s p ps hm => by
          have hm : (match Kzq1.readQ u v, rdQs s with
            | some x, some r => some (x :: r)
            | _, _ => none) = some (p :: ps) := hm
          cases h1 : Kzq1.readQ u v <;> cases h2 : rdQs s <;> rw [h1, h2] at hm <;> cases hm
          rfl
        have := nil _ (cons _ _ _ _ _ (cons _ _ _ _ _ (cons _ _ _ _ _ h)))
        cases this
end Sc
namespace Sc
open Kzq1 (Q P)
/-! What has four sides, sheared -/
structure Aff where
  o : V2
  u : V2
  v : V2
def Aff.det (A : Aff) : Rat := A.u.x * A.v.y - A.u.y * A.v.x
def Aff.at (A : Aff) (z : V2) : V2 := ⟨A.o.x + (z.x * A.u.x + z.y * A.v.x), A.o.y + (z.x * A.u.y + z.y * A.v.y)⟩
theorem Aff.tn (A : Aff) (a b c : V2) : Sc.tn (A.at a) (A.at b) (A.at c) = A.det * Sc.tn a b c := by unfold Sc.tn Aff.at Aff.det; grind
theorem Aff.sur (A : Aff) (h : A.det ≠ 0) (w : V2) : ∃ z, A.at z = w := by
  let p := (w.x - A.o.x) * A.v.y - (w.y - A.o.y) * A.v.x
  let q := A.u.x * (w.y - A.o.y) - A.u.y * (w.x - A.o.x)
  have e1 : (p / A.det) * A.det = p := Rat.div_mul_cancel h
  have e2 : (q / A.det) * A.det = q := Rat.div_mul_cancel h
  refine ⟨⟨p / A.det, q / A.det⟩, V2.ext' ?_ ?_⟩
  · show A.o.x + (p / A.det * A.u.x + q / A.det * A.v.x) = w.x
    have : (A.o.x + (p / A.det * A.u.x + q / A.det * A.v.x) - w.x) * A.det = 0 := by
      generalize p / A.det = s at *
      generalize q / A.det = t at *
      have : (A.o.x - w.x) * A.det + (s * A.det) * A.u.x + (t * A.det) * A.v.x = 0 := by
        rw [e1, e2]
        unfold Aff.det
        grind
      grind
    have := (Rat.mul_eq_zero.mp this).resolve_right h
    grind
  · show A.o.y + (p / A.det * A.u.y + q / A.det * A.v.y) = w.y
    have : (A.o.y + (p / A.det * A.u.y + q / A.det * A.v.y) - w.y) * A.det = 0 := by
      generalize p / A.det = s at *
      generalize q / A.det = t at *
      have : (A.o.y - w.y) * A.det + (s * A.det) * A.u.y + (t * A.det) * A.v.y = 0 := by
        rw [e1, e2]
        unfold Aff.det
        grind
      grind
    have := (Rat.mul_eq_zero.mp this).resolve_right h
    grind
theorem Aff.tri (A : Aff) (h : 0 < A.det) {l : List V2} (T : Tri l) : Tri (l.map A.at) := by
  intro a b c s
  obtain ⟨m, hm, e⟩ := List.sublist_map_iff.mp s
  match m, e with
  | [x, y, z], e =>
    simp only [List.map_cons, List.map_nil, List.cons.injEq, and_true] at e
    obtain ⟨rfl, rfl, rfl⟩ := e
    rw [A.tn]
    exact Rat.mul_pos h (T _ _ _ hm)
  | [], e => simp at e
  | [_], e => simp at e
  | [_, _], e => simp at e
  | _ :: _ :: _ :: _ :: _, e => simp at e
theorem ac_map (A : Aff) {l : List V2} (h : 0 < l.length) (i : Nat) : ac (l.map A.at) i = A.at (ac l i) := by
  have hi : i % l.length < l.length := Nat.mod_lt _ h
  rw [← ac_mod, ← ac_mod l, List.length_map, ac_lt (by rw [List.length_map]; exact hi), ac_lt hi, List.getElem_map]
theorem mul_nn_iff {d x : Rat} (h : 0 < d) : 0 ≤ d * x ↔ 0 ≤ x := by
  constructor
  · intro k
    refine Rat.not_lt.mp fun n => ?_
    have := Rat.mul_pos h (show 0 < -x by grind)
    grind
  · exact nn_mul (Rat.le_of_lt h)
theorem mul_p_iff {d x : Rat} (h : 0 < d) : 0 < d * x ↔ 0 < x := by
  constructor
  · intro k
    refine Rat.not_le.mp fun n => ?_
    have := nn_mul (Rat.le_of_lt h) (show 0 ≤ -x by grind)
    grind
  · exact p_mul h
theorem Aff.rg (A : Aff) (h : 0 < A.det) {l : List V2} (hl : 0 < l.length) (z : V2) : Rg (l.map A.at) (A.at z) ↔ Rg l z := by
  unfold Rg
  constructor
  · intro k i
    have := k i
    rw [ac_map A hl, ac_map A hl, A.tn] at this
    exact (mul_nn_iff h).mp this
  · intro k i
    rw [ac_map A hl, ac_map A hl, A.tn]
    exact (mul_nn_iff h).mpr (k i)
/-- strictly on the left of all sides -/
def In (l : List V2) (z : V2) : Prop := ∀ i, 0 < tn (ac l i) (ac l (i + 1)) z
theorem In.rot {l m : List V2} {z : V2} (h : In (l ++ m) z) : In (m ++ l) z := by
  intro i
  rw [ac_rot l m i, ac_rot l m (i + 1), show i + 1 + l.length = i + l.length + 1 by omega]
  exact h _
theorem Aff.ins (A : Aff) (h : 0 < A.det) {l : List V2} (hl : 0 < l.length) (z : V2) : In (l.map A.at) (A.at z) ↔ In l z := by
  unfold In
  constructor
  · intro k i
    have := k i
    rw [ac_map A hl, ac_map A hl, A.tn] at this
    exact (mul_p_iff h).mp this
  · intro k i
    rw [ac_map A hl, ac_map A hl, A.tn]
    exact (mul_p_iff h).mpr (k i)
theorem meets_iff (p q : List P) : Meets p q ↔ ∃ z, RgP p z ∧ In (q.map pv) z := by
  unfold Meets In
  constructor
  · rintro ⟨z, h, k⟩
    exact ⟨z, h, fun i => by rw [at0_pv, at0_pv]; exact k i⟩
  · rintro ⟨z, h, k⟩
    refine ⟨z, h, fun i => ?_⟩
    have := k i
    rw [at0_pv, at0_pv] at this
    exact this
theorem In.begun {l : List P} {z : V2} : In ((Kzq1.begunWith l).map pv) z ↔ In (l.map pv) z := by
  obtain ⟨u, v, e1, e2⟩ := begun_rot l
  rw [e2]
  conv => rhs; rw [e1]
  rw [List.map_append, List.map_append]
  exact ⟨In.rot, In.rot⟩
def ptAt (o u v s : P) : P := Kzq1.plus o (Kzq1.plus (Kzq1.times s.x u) (Kzq1.times s.y v))
def affP (o u v : P) : Aff := ⟨pv o, pv u, pv v⟩
section
variable {o u v : P}
theorem ptAt_is (ho : OkP o) (hu : OkP u) (hv : OkP v) {s : P} (hs : OkP s) : OkP (ptAt o u v s) ∧ pv (ptAt o u v s) = (affP o u v).at (pv s) := by
  have a := times_ok hs.1 hu
  have b := times_ok hs.2 hv
  have c := plus_ok a b
  refine ⟨plus_ok ho c, V2.ext' ?_ ?_⟩
  · show px (Kzq1.plus o _) = _
    rw [px_plus ho c, px_plus a b, px_times hs.1 hu, px_times hs.2 hv]; rfl
  · show py (Kzq1.plus o _) = _
    rw [py_plus ho c, py_plus a b, py_times hs.1 hu, py_times hs.2 hv]; rfl
theorem map_ptAt (ho : OkP o) (hu : OkP u) (hv : OkP v) {l : List P} (hl : OkL l) : OkL (l.map (ptAt o u v)) ∧ (l.map (ptAt o u v)).map pv = (l.map pv).map (affP o u v).at := by
  constructor
  · intro p hp
    obtain ⟨s, hs, rfl⟩ := List.mem_map.mp hp
    exact (ptAt_is ho hu hv (hl s hs)).1
  · rw [List.map_map, List.map_map]
    exact List.map_congr_left fun s hs => (ptAt_is ho hu hv (hl s hs)).2
theorem Piece.aff (ho : OkP o) (hu : OkP u) (hv : OkP v) (hd : 0 < (affP o u v).det) {l : List P} (h : Piece l) : Piece (l.map (ptAt o u v)) := by
  obtain ⟨a, b⟩ := map_ptAt ho hu hv h.ok
  exact ⟨a, by rw [b]; exact Aff.tri _ hd h.tri, by rw [List.length_map]; exact h.three⟩
end
/-- the old one and the new one, told by shares -/
def one : Q := Kzq1.whole 1
def sqP : List P := [⟨Kzq1.zero, Kzq1.zero⟩, ⟨one, Kzq1.zero⟩, ⟨one, one⟩, ⟨Kzq1.zero, one⟩]
def slP (k : Q) (j : Int) : List P := [⟨Kzq1.whole j, Kzq1.zero⟩, ⟨Kzq1.whole (j + 1), Kzq1.zero⟩, ⟨Kzq1.add (Kzq1.add k (Kzq1.whole j)) one, one⟩, ⟨Kzq1.add k (Kzq1.whole j), one⟩]
theorem one_ok : Ok one := whole_ok 1
theorem val_one : val one = 1 := val_whole 1
theorem sq_pv : sqP.map pv = [⟨0, 0⟩, ⟨1, 0⟩, ⟨1, 1⟩, ⟨0, 1⟩] := by
  unfold sqP
  simp only [List.map_cons, List.map_nil, pv_mk, val_zero, val_one]
theorem sl_pv {k : Q} (h : Ok k) (j : Int) : (slP k j).map pv = [⟨(j : Rat), 0⟩, ⟨(j : Rat) + 1, 0⟩, ⟨val k + (j : Rat) + 1, 1⟩, ⟨val k + (j : Rat), 1⟩] := by
  unfold slP
  have e : ((j + 1 : Int) : Rat) = (j : Rat) + 1 := by rw [Rat.intCast_add]; rfl
  simp only [List.map_cons, List.map_nil, pv_mk, val_zero, val_one, val_whole, val_add h (whole_ok j), val_add (add_ok h (whole_ok j)) one_ok, e]
theorem sq_piece : Piece sqP := by
  refine ⟨fun p hp => ?_, ?_, by simp [sqP]⟩
  · unfold sqP at hp
    simp only [List.mem_cons, List.not_mem_nil, or_false] at hp
    rcases hp with rfl | rfl | rfl | rfl
    · exact ⟨zero_ok, zero_ok⟩
    · exact ⟨one_ok, zero_ok⟩
    · exact ⟨one_ok, one_ok⟩
    · exact ⟨zero_ok, one_ok⟩
  · rw [sq_pv]
    refine tri4 ?_ ?_ ?_ ?_ <;> (unfold tn; decide +kernel)
theorem sl_piece {k : Q} (h : Ok k) (j : Int) : Piece (slP k j) := by
  have w := whole_ok j
  have ka := add_ok h w
  refine ⟨fun p hp => ?_, ?_, by simp [slP]⟩
  · unfold slP at hp
    simp only [List.mem_cons, List.not_mem_nil, or_false] at hp
    rcases hp with rfl | rfl | rfl | rfl
    · exact ⟨w, zero_ok⟩
    · exact ⟨whole_ok _, zero_ok⟩
    · exact ⟨add_ok ka one_ok, one_ok⟩
    · exact ⟨ka, one_ok⟩
  · rw [sl_pv h]
    refine tri4 ?_ ?_ ?_ ?_ <;> (unfold tn; dsimp only; grind)
theorem ac4 (a b c d : V2) : ac [a, b, c, d] (3 + 1) = a := by simp [ac]
theorem in4 {a b c d z : V2} : In [a, b, c, d] z ↔ 0 < tn a b z ∧ 0 < tn b c z ∧ 0 < tn c d z ∧ 0 < tn d a z := by
  constructor
  · intro h
    have k := h 3
    rw [ac4] at k
    exact ⟨h 0, h 1, h 2, k⟩
  · rintro ⟨h0, h1, h2, h3⟩ i
    have hi : i % 4 < 4 := Nat.mod_lt _ (by omega)
    have e1 : ac [a, b, c, d] i = ac [a, b, c, d] (i % 4) := (ac_mod [a, b, c, d] i).symm
    have e2 : ac [a, b, c, d] (i + 1) = ac [a, b, c, d] (i % 4 + 1) := by unfold ac; rw [show ([a, b, c, d] : List V2).length = 4 from rfl, Nat.mod_add_mod]
    rw [e1, e2]
    match i % 4, hi with
    | 0, _ => exact h0
    | 1, _ => exact h1
    | 2, _ => exact h2
    | 3, _ => rw [ac4]; exact h3
    | n + 4, h => omega
theorem rg4 {a b c d z : V2} : Rg [a, b, c, d] z ↔ 0 ≤ tn a b z ∧ 0 ≤ tn b c z ∧ 0 ≤ tn c d z ∧ 0 ≤ tn d a z := by
  constructor
  · intro h
    have k := h 3
    rw [ac4] at k
    exact ⟨h 0, h 1, h 2, k⟩
  · rintro ⟨h0, h1, h2, h3⟩
    refine Rg.of fun i hi => ?_
    have hi : i < 4 := hi
    match i, hi with
    | 0, _ => exact h0
    | 1, _ => exact h1
    | 2, _ => exact h2
    | 3, _ => rw [ac4]; exact h3
    | n + 4, h => omega
/-- when the two have a piece in common -/
theorem meets_sq {k : Q} (h : Ok k) (j : Int) : Meets sqP (slP k j) ↔ ∃ t : Rat, 0 < t ∧ t < 1 ∧ -1 < (j : Rat) + val k * t ∧ (j : Rat) + val k * t < 1 := by
  rw [meets_iff]
  unfold RgP
  rw [sq_pv, sl_pv h]
  constructor
  · rintro ⟨z, a, b⟩
    obtain ⟨a0, a1, a2, a3⟩ := rg4.mp a
    obtain ⟨b0, b1, b2, b3⟩ := in4.mp b
    unfold tn at a0 a1 a2 a3 b0 b1 b2 b3
    dsimp only at a0 a1 a2 a3 b0 b1 b2 b3
    exact ⟨z.y, by grind, by grind, by grind, by grind⟩
  · rintro ⟨t, t0, t1, y0, y1⟩
    refine ⟨⟨((j : Rat) + val k * t + 1) / 2, t⟩, rg4.mpr ?_, in4.mpr ?_⟩
    · unfold tn
      dsimp only
      refine ⟨?_, ?_, ?_, ?_⟩ <;> grind
    · unfold tn
      dsimp only
      refine ⟨?_, ?_, ?_, ?_⟩ <;> grind
/-! whole numbers below -/
def fl (q : Q) : Int := q.n / (q.d : Int)
theorem fl_le {q : Q} (h : Ok q) : (fl q : Rat) ≤ val q ∧ val q < (fl q : Rat) + 1 := by
  have d0 : 0 < (q.d : Int) := by have := h.1; omega
  have dr : (0 : Rat) < ((q.d : Int) : Rat) := by
    have := Rat.intCast_lt_intCast.mpr d0
    exact this
  have e : val q * ((q.d : Int) : Rat) = (q.n : Rat) := by
    rw [val_nd h, Rat.div_mul_cancel (Rat.ne_of_gt dr)]
  have h1 : fl q * (q.d : Int) ≤ q.n := Int.ediv_mul_le _ (by omega)
  have h2 : q.n < (fl q + 1) * (q.d : Int) := Int.lt_ediv_add_one_mul_self _ d0
  have h1 := Rat.intCast_le_intCast.mpr h1
  have h2 := Rat.intCast_lt_intCast.mpr h2
  rw [Rat.intCast_mul] at h1 h2
  rw [Rat.intCast_add] at h2
  have e1 : ((1 : Int) : Rat) = 1 := rfl
  rw [e1] at h2
  rw [← e] at h1 h2
  generalize ((q.d : Int) : Rat) = d at *
  generalize (fl q : Rat) = f at *
  constructor
  · refine Rat.not_lt.mp fun n => ?_
    have := Rat.mul_pos (show 0 < f - val q by grind) dr
    grind
  · refine Rat.not_le.mp fun n => ?_
    have := nn_mul (show 0 ≤ val q - (f + 1) by grind) (Rat.le_of_lt dr)
    grind
theorem fl_lt_iff {q : Q} (h : Ok q) (z : Int) : val q < (z : Rat) ↔ fl q < z := by
  obtain ⟨a, b⟩ := fl_le h
  constructor
  · intro k
    have : (fl q : Rat) < (z : Rat) := by grind
    exact Rat.intCast_lt_intCast.mp this
  · intro k
    have k : fl q + 1 ≤ z := k
    have := Rat.intCast_le_intCast.mpr k
    rw [Rat.intCast_add] at this
    have e1 : ((1 : Int) : Rat) = 1 := rfl
    grind
/-- a number whose K-fold lies near a -/
theorem near {K a : Rat} (hK : 0 ≤ K) (ha : a = 0 ∨ 1 ≤ a) (h : a < K + 1) : ∃ t, 0 < t ∧ t < 1 ∧ a - 1 < K * t ∧ K * t < a + 1 := by
  rcases ha with ha | ha
  · have d : K + 2 ≠ 0 := by grind
    have e : 1 / (K + 2) * (K + 2) = 1 := Rat.div_mul_cancel d
    generalize 1 / (K + 2) = t at *
    have t0 : 0 < t := by
      refine Rat.not_le.mp fun n => ?_
      have := nn_mul (show 0 ≤ -t by grind) (show 0 ≤ K + 2 by grind)
      grind
    have m := nn_mul hK (Rat.le_of_lt t0)
    exact ⟨t, t0, by grind, by grind, by grind⟩
  · -- the middle of a - 1 and the lesser of K and a + 1
    have hp : 0 < K := by grind
    have d : K ≠ 0 := Rat.ne_of_gt hp
    have key : ∀ m : Rat, a - 1 < m → m < K → m < a + 1 → 0 < m → ∃ t, 0 < t ∧ t < 1 ∧ a - 1 < K * t ∧ K * t < a + 1 := fun m h1 h2 h3 h4 => by
      have e : m / K * K = m := Rat.div_mul_cancel d
      generalize m / K = t at *
      refine ⟨t, ?_, ?_, by grind, by grind⟩
      · refine Rat.not_le.mp fun n => ?_
        have := nn_mul (show 0 ≤ -t by grind) hK
        grind
      · refine Rat.not_le.mp fun n => ?_
        have := nn_mul (show 0 ≤ t - 1 by grind) hK
        grind
    by_cases c : K ≤ a + 1
    · exact key ((a - 1 + K) / 2) (by grind) (by grind) (by grind) (by grind)
    · exact key a (by grind) (by grind) (by grind) (by grind)
def jFirst (k : Q) : Int := min 0 (fl (Kzq1.neg k))
def jLast (k : Q) : Int := max 0 (-(fl k))
theorem meets_range {k : Q} (h : Ok k) (j : Int) : Meets sqP (slP k j) ↔ jFirst k ≤ j ∧ j ≤ jLast k := by
  have on := neg_ok h
  rw [meets_sq h]
  have f1 := fl_lt_iff on (j + 1)
  have f2 := fl_lt_iff h (1 - j)
  have f3 := fl_lt_iff on 0
  have f4 := fl_lt_iff h 0
  have f6 := fl_lt_iff on 1
  rw [val_neg h] at f1 f3 f6
  have e0 : ((0 : Int) : Rat) = 0 := rfl
  have e1 : ((1 : Int) : Rat) = 1 := rfl
  rw [Rat.intCast_add, e1] at f1
  rw [Rat.intCast_sub, e1] at f2
  rw [e0] at f3 f4
  rw [e1] at f6
  unfold jFirst jLast
  constructor
  · rintro ⟨t, t0, t1, y0, y1⟩
    rcases Rat.le_total (a := 0) (b := val k) with hk | hk
    · -- rightwards
      have m := nn_mul hk (Rat.le_of_lt t0)
      have m2 := nn_mul hk (show 0 ≤ 1 - t by grind)
      have j1 : (j : Rat) < 1 := by grind
      have j2 : -val k < (j : Rat) + 1 := by grind
      have j1 : j < 1 := Rat.intCast_lt_intCast.mp (by rw [e1]; exact j1)
      have j2 := f1.mp j2
      have k0 : ¬ fl k < 0 := fun n => by have := f4.mpr n; grind
      omega
    · have m := nn_mul (show 0 ≤ -val k by grind) (Rat.le_of_lt t0)
      have m2 := nn_mul (show 0 ≤ -val k by grind) (show 0 ≤ 1 - t by grind)
      have j1 : -1 < (j : Rat) := by grind
      have j2 : val k < 1 - (j : Rat) := by grind
      have j1 : -1 < j := Rat.intCast_lt_intCast.mp (by have : ((-1 : Int) : Rat) = -1 := rfl; rw [this]; exact j1)
      have j2 := f2.mp j2
      have k0 : ¬ fl (Kzq1.neg k) < 0 := fun n => by have := f3.mpr n; grind
      omega
  · rintro ⟨h1, h2⟩
    rcases Rat.le_total (a := 0) (b := val k) with hk | hk
    · have k0 : ¬ fl k < 0 := fun n => by have := f4.mpr n; grind
      have j0 : j ≤ 0 := by omega
      have k1 : fl (Kzq1.neg k) < 1 := f6.mp (by grind)
      have j1 : fl (Kzq1.neg k) < j + 1 := by omega
      have j1 := f1.mpr j1
      obtain ⟨t, t0, t1, y0, y1⟩ := near (K := val k) (a := -(j : Rat)) hk (by
        by_cases c : j = 0
        · left; rw [c]; rfl
        · right
          have : j ≤ -1 := by omega
          have := Rat.intCast_le_intCast.mpr this
          have e2 : ((-1 : Int) : Rat) = -1 := rfl
          grind) (by grind)
      exact ⟨t, t0, t1, by grind, by grind⟩
    · have k0 : ¬ fl (Kzq1.neg k) < 0 := fun n => by have := f3.mpr n; grind
      have j0 : 0 ≤ j := by omega
      by_cases c : j = 0
      · obtain ⟨t, t0, t1, y0, y1⟩ := near (K := -val k) (a := 0) (by grind) (.inl rfl) (by grind)
        have e : (j : Rat) = 0 := by rw [c]; rfl
        exact ⟨t, t0, t1, by grind, by grind⟩
      · have j2 : fl k < 1 - j := by omega
        have j2 := f2.mpr j2
        obtain ⟨t, t0, t1, y0, y1⟩ := near (K := -val k) (a := (j : Rat)) (by grind) (.inr (by
          have : 1 ≤ j := by omega
          have := Rat.intCast_le_intCast.mpr this
          grind)) (by grind)
        exact ⟨t, t0, t1, by grind, by grind⟩
end Sc
namespace Sc
open Kzq1 (Q P)
def parL (o u v : P) : List P := [o, Kzq1.plus o u, Kzq1.plus (Kzq1.plus o u) v, Kzq1.plus o v]
theorem pv_plus {p q : P} (hp : OkP p) (hq : OkP q) : pv (Kzq1.plus p q) = ⟨px p + px q, py p + py q⟩ := V2.ext' (px_plus hp hq) (py_plus hp hq)
section
variable {o u v : P}
theorem parL_ok (ho : OkP o) (hu : OkP u) (hv : OkP v) : OkL (parL o u v) := fun p hp => by
  have a := plus_ok ho hu
  unfold parL at hp
  simp only [List.mem_cons, List.not_mem_nil, or_false] at hp
  rcases hp with rfl | rfl | rfl | rfl
  · exact ho
  · exact a
  · exact plus_ok a hv
  · exact plus_ok ho hv
theorem parL_pv (ho : OkP o) (hu : OkP u) (hv : OkP v) : (parL o u v).map pv = [⟨px o, py o⟩, ⟨px o + px u, py o + py u⟩, ⟨px o + px u + px v, py o + py u + py v⟩, ⟨px o + px v, py o + py v⟩] := by
  have a := plus_ok ho hu
  unfold parL
  simp only [List.map_cons, List.map_nil, pv_plus ho hu, pv_plus a hv, pv_plus ho hv, px_plus ho hu, py_plus ho hu]
  rfl
theorem det_cross (hu : OkP u) (hv : OkP v) : (affP o u v).det = val (Kzq1.cross u v) := (val_cross hu hv).symm
theorem parOld (ho : OkP o) (hu : OkP u) (hv : OkP v) : (parL o u v).map pv = (sqP.map pv).map (affP o u v).at := by
  rw [parL_pv ho hu hv, sq_pv]
  simp only [List.map_cons, List.map_nil, Aff.at, affP, pv]
  congr 1
  · exact V2.ext' (by grind) (by grind)
  congr 1
  · exact V2.ext' (by grind) (by grind)
  congr 1
  · exact V2.ext' (by grind) (by grind)
  congr 1
  · exact V2.ext' (by grind) (by grind)
theorem parNew (ho : OkP o) (hu : OkP u) (hv : OkP v) {k : Q} (hk : Ok k) (j : Int) : (parL (Kzq1.plus o (Kzq1.times (Kzq1.whole j) u)) u (Kzq1.plus v (Kzq1.times k u))).map pv = ((slP k j).map pv).map (affP o u v).at := by
  have w := whole_ok j
  have t1 := times_ok w hu
  have t2 := times_ok hk hu
  have a := plus_ok ho t1
  have b := plus_ok hv t2
  rw [parL_pv a hu b, sl_pv hk, px_plus ho t1, py_plus ho t1, px_plus hv t2, py_plus hv t2, px_times w hu, py_times w hu, px_times hk hu, py_times hk hu, val_whole]
  simp only [List.map_cons, List.map_nil, Aff.at, affP, pv]
  congr 1
  · exact V2.ext' (by grind) (by grind)
  congr 1
  · exact V2.ext' (by grind) (by grind)
  congr 1
  · exact V2.ext' (by grind) (by grind)
  congr 1
  · exact V2.ext' (by grind) (by grind)
/-- a part, as the program makes it -/
def shPiece (o u v : P) (k : Q) (j : Int) : List P := (commonP sqP (slP k j)).map (ptAt o u v)
def shPart (o u v : P) (k : Q) (j : Int) : Kzq2.Part := ⟨pieceOf (shPiece o u v k j), ⟨false, Kzq1.times (Kzq1.whole (-j)) u⟩⟩
theorem opp_times (hu : OkP u) (j : Int) : Kzq2.opp (Kzq1.times (Kzq1.whole j) u) = Kzq1.times (Kzq1.whole (-j)) u := by
  have w := whole_ok j
  have w2 := whole_ok (-j)
  have t := times_ok w hu
  have e : ((-j : Int) : Rat) = -(j : Rat) := Rat.intCast_neg j
  refine P_ext ⟨neg_ok t.1, neg_ok t.2⟩ (times_ok w2 hu) ?_ ?_
  · show val (Kzq1.neg _) = _
    rw [val_neg t.1, px_times w2 hu, val_whole, e]
    show - px (Kzq1.times (Kzq1.whole j) u) = _
    rw [px_times w hu, val_whole]; grind
  · show val (Kzq1.neg _) = _
    rw [val_neg t.2, py_times w2 hu, val_whole, e]
    show - py (Kzq1.times (Kzq1.whole j) u) = _
    rw [py_times w hu, val_whole]; grind
theorem par_meet (ho : OkP o) (hu : OkP u) (hv : OkP v) (hd : 0 < val (Kzq1.cross u v)) {k : Q} (hk : Ok k) (j : Int) :
    let m := Kzq1.meet (Kzq2.par ⟨o, u, v⟩) (Kzq2.par ⟨Kzq1.plus o (Kzq1.times (Kzq1.whole j) u), u, Kzq1.plus v (Kzq1.times k u)⟩)
    (Meets sqP (slP k j) → m = pieceOf (shPiece o u v k j) ∧ m ≠ []) ∧ (¬ Meets sqP (slP k j) → m = []) := by
  intro m
  rw [← det_cross (o := o) hu hv] at hd
  have t1 := times_ok (whole_ok j) hu
  have t2 := times_ok hk hu
  have a := plus_ok ho t1
  have b := plus_ok hv t2
  have sq := sq_piece
  have sl := sl_piece hk j
  have e1 := parOld ho hu hv
  have e2 := parNew ho hu hv hk j
  have l1 : 0 < (sqP.map pv).length := by rw [List.length_map]; have := sq.three; omega
  have l2 : 0 < ((slP k j).map pv).length := by rw [List.length_map]; have := sl.three; omega
  have P1 : Piece (parL o u v) := ⟨parL_ok ho hu hv, by rw [e1]; exact Aff.tri _ hd sq.tri, by simp [parL]⟩
  have P2 : Piece (parL (Kzq1.plus o (Kzq1.times (Kzq1.whole j) u)) u (Kzq1.plus v (Kzq1.times k u))) := ⟨parL_ok a hu b, by rw [e2]; exact Aff.tri _ hd sl.tri, by simp [parL]⟩
  have f1 : Kzq2.par ⟨o, u, v⟩ = Kzq1.begunWith (parL o u v) := P1.formed
  have f2 : Kzq2.par ⟨Kzq1.plus o (Kzq1.times (Kzq1.whole j) u), u, Kzq1.plus v (Kzq1.times k u)⟩ = Kzq1.begunWith (parL (Kzq1.plus o (Kzq1.times (Kzq1.whole j) u)) u (Kzq1.plus v (Kzq1.times k u))) := P2.formed
  have em : m = Kzq1.meet (Kzq1.begunWith (parL o u v)) (Kzq1.begunWith (parL (Kzq1.plus o (Kzq1.times (Kzq1.whole j) u)) u (Kzq1.plus v (Kzq1.times k u)))) := by show Kzq1.meet _ _ = _; rw [f1, f2]
  have mm : Meets (Kzq1.begunWith (parL o u v)) (Kzq1.begunWith (parL (Kzq1.plus o (Kzq1.times (Kzq1.whole j) u)) u (Kzq1.plus v (Kzq1.times k u)))) ↔ Meets sqP (slP k j) := by
    rw [meets_iff, meets_iff]
    constructor
    · rintro ⟨w, h1, h2⟩
      obtain ⟨z, rfl⟩ := Aff.sur (affP o u v) (Rat.ne_of_gt hd) w
      refine ⟨z, ?_, ?_⟩
      · have := RgP.begun.mp h1
        unfold RgP at this
        rw [e1] at this
        exact (Aff.rg _ hd l1 z).mp this
      · have := In.begun.mp h2
        rw [e2] at this
        exact (Aff.ins _ hd l2 z).mp this
    · rintro ⟨z, h1, h2⟩
      refine ⟨(affP o u v).at z, ?_, ?_⟩
      · refine RgP.begun.mpr ?_
        unfold RgP
        rw [e1]
        exact (Aff.rg _ hd l1 z).mpr h1
      · refine In.begun.mpr ?_
        rw [e2]
        exact (Aff.ins _ hd l2 z).mpr h2
  constructor
  · intro h
    obtain ⟨r, p, rg, e⟩ := meet_alive P1.begun P2.begun (mm.mpr h)
    obtain ⟨c, crg⟩ := common_alive sq sl h
    have P3 : Piece (shPiece o u v k j) := Piece.aff ho hu hv hd c
    have l3 : 0 < ((commonP sqP (slP k j)).map pv).length := by rw [List.length_map]; have := c.three; omega
    have key : Kzq1.formed r = Kzq1.formed (shPiece o u v k j) := by
      refine p.same P3 fun w => ?_
      obtain ⟨z, rfl⟩ := Aff.sur (affP o u v) (Rat.ne_of_gt hd) w
      rw [rg, RgP.begun, RgP.begun]
      unfold RgP shPiece
      rw [e1, e2, (map_ptAt ho hu hv c.ok).2, Aff.rg _ hd l1, Aff.rg _ hd l2, Aff.rg _ hd l3]
      exact (crg z).symm
    have e3 : m = pieceOf (shPiece o u v k j) := by rw [em, e, key, P3.piece]
    refine ⟨e3, ?_⟩
    rw [e3, P3.piece, P3.formed]
    intro n
    have := P3.begun.three
    rw [n] at this
    simp at this
  · intro h
    rw [em]
    exact meet_dead P1.begun P2.begun fun n => h (mm.mp n)
end
theorem fm_prefix {α : Type} {f : Nat → Option α} {g : Nat → α} {M : Nat} : ∀ N, M ≤ N → (∀ i, i < N → f i = if i < M then some (g i) else none) → (List.range N).filterMap f = (List.range M).map g := by
  have key : ∀ N, (∀ i, i < N → f i = if i < M then some (g i) else none) → (List.range N).filterMap f = (List.range (min N M)).map g := by
    intro N
    induction N with
    | zero => intro _; simp
    | succ N ih =>
      intro h
      rw [List.range_succ, List.filterMap_append, ih fun i hi => h i (by omega), List.filterMap_cons, h N (by omega)]
      by_cases c : N < M
      · rw [if_pos c, Nat.min_eq_left (by omega), Nat.min_eq_left (by omega), List.range_succ, List.map_append]; rfl
      · rw [if_neg c, Nat.min_eq_right (by omega), Nat.min_eq_right (by omega)]; simp
  intro N h k
  rw [key N k, Nat.min_eq_right h]
def jCount (k : Q) : Nat := (jLast k - jFirst k + 1).toNat
def shParts (o u v : P) (k : Q) : List Kzq2.Part := (List.range (jCount k)).map fun (i : Nat) => shPart o u v k (jFirst k + (i : Int))
theorem shear_is {o u v : P} (ho : OkP o) (hu : OkP u) (hv : OkP v) (hd : 0 < val (Kzq1.cross u v)) {k : Q} (hk : Ok k) : (Kzq2.shear ⟨o, u, v⟩ k).1 = shParts o u v k := by
  have on := neg_ok hk
  have o1 := whole_ok 1
  have os := sub_ok o1 hk
  have e0 : Kzq2.floor Kzq1.zero = 0 := by decide
  have e1 : Kzq2.floor (Kzq1.whole 1) = 1 := by decide
  have f0 := fl_lt_iff on 0
  have f1 := fl_lt_iff on 1
  have c0 : ((0 : Int) : Rat) = 0 := rfl
  have c1 : ((1 : Int) : Rat) = 1 := rfl
  rw [val_neg hk] at f0 f1
  rw [c0] at f0
  rw [c1] at f1
  have lo : Kzq2.floor (Kzq2.least Kzq1.zero (Kzq1.neg k)) = jFirst k := by
    unfold Kzq2.least jFirst
    by_cases c : Kzq1.lt Kzq1.zero (Kzq1.neg k) = true
    · rw [if_pos c, e0]
      rw [lt_iff zero_ok on, val_zero, val_neg hk] at c
      have : ¬ fl (Kzq1.neg k) < 0 := fun n => by have := f0.mpr n; grind
      omega
    · rw [if_neg c]
      rw [lt_iff zero_ok on, val_zero, val_neg hk] at c
      have : fl (Kzq1.neg k) < 1 := f1.mp (by grind)
      show fl (Kzq1.neg k) = _
      omega
  have hi : jLast k ≤ Kzq2.floor (Kzq2.most1 (Kzq1.whole 1) (Kzq1.sub (Kzq1.whole 1) k)) + 1 := by
    unfold Kzq2.most1 jLast
    by_cases c : Kzq1.lt (Kzq1.whole 1) (Kzq1.sub (Kzq1.whole 1) k) = true
    · rw [if_pos c]
      show max 0 (-fl k) ≤ fl (Kzq1.sub (Kzq1.whole 1) k) + 1
      rw [lt_iff o1 os, val_sub o1 hk, val_whole, c1] at c
      have a := fl_le hk
      have b := fl_lt_iff os (-fl k)
      have b0 := fl_lt_iff os 0
      rw [val_sub o1 hk, val_whole, c1] at b b0
      rw [Rat.intCast_neg] at b
      rw [c0] at b0
      have n1 : ¬ fl (Kzq1.sub (Kzq1.whole 1) k) < -fl k := fun n => by have := b.mpr n; grind
      have n2 : ¬ fl (Kzq1.sub (Kzq1.whole 1) k) < 0 := fun n => by have := b0.mpr n; grind
      omega
    · rw [if_neg c, e1]
      rw [lt_iff o1 os, val_sub o1 hk, val_whole, c1] at c
      have b := fl_lt_iff hk 0
      rw [c0] at b
      have : ¬ fl k < 0 := fun n => by have := b.mpr n; grind
      omega
  have jf : jFirst k ≤ 0 := by unfold jFirst; omega
  have jl : 0 ≤ jLast k := by unfold jLast; omega
  show ((List.range (Kzq2.floor (Kzq2.most1 (Kzq1.whole 1) (Kzq1.sub (Kzq1.whole 1) k)) + 1 - Kzq2.floor (Kzq2.least Kzq1.zero (Kzq1.neg k)) + 1).toNat).filterMap fun (i : Nat) =>
    if Kzq1.meet (Kzq2.par ⟨o, u, v⟩) (Kzq2.par ⟨Kzq1.plus o (Kzq1.times (Kzq1.whole (Kzq2.floor (Kzq2.least Kzq1.zero (Kzq1.neg k)) + (i : Int))) u), u, Kzq1.plus v (Kzq1.times k u)⟩) = [] then none
    else some (⟨Kzq1.meet (Kzq2.par ⟨o, u, v⟩) (Kzq2.par ⟨Kzq1.plus o (Kzq1.times (Kzq1.whole (Kzq2.floor (Kzq2.least Kzq1.zero (Kzq1.neg k)) + (i : Int))) u), u, Kzq1.plus v (Kzq1.times k u)⟩), ⟨false, Kzq2.opp (Kzq1.times (Kzq1.whole (Kzq2.floor (Kzq2.least Kzq1.zero (Kzq1.neg k)) + (i : Int))) u)⟩⟩ : Kzq2.Part)) = _
  rw [lo]
  unfold shParts
  refine fm_prefix _ (by unfold jCount; omega) fun i _ => ?_
  obtain ⟨a, b⟩ := par_meet ho hu hv hd hk (jFirst k + (i : Int))
  have r := meets_range hk (jFirst k + (i : Int))
  by_cases c : i < jCount k
  · have al := r.mpr ⟨by omega, by unfold jCount at c; omega⟩
    obtain ⟨a1, a2⟩ := a al
    rw [if_pos c, if_neg a2, a1, opp_times hu]
    rfl
  · have de : ¬ Meets sqP (slP k (jFirst k + (i : Int))) := fun n => by
      have := r.mp n
      unfold jCount at c
      omega
    rw [if_neg c, if_pos (b de)]
/-! what is read -/
def rd4 (l : List Int) : Option (P × P × P) := match Kzq1.readPoints l with
  | some [o, u, v] => if 0 < (Kzq1.cross u v).n then some (o, u, v) else none
  | _ => none
theorem rd4_ok {l : List Int} {o u v : P} (h : rd4 l = some (o, u, v)) : Kzq1.readPoints l = some [o, u, v] ∧ (OkP o ∧ OkP u ∧ OkP v) ∧ 0 < val (Kzq1.cross u v) := by
  unfold rd4 at h
  split at h
  · rename_i a b c hh
    obtain ⟨_, ok⟩ := rp_ok hh
    split at h
    · rename_i g
      cases h
      have k := cross_ok (ok u (by simp)) (ok v (by simp))
      exact ⟨hh, ⟨ok o (by simp), ok u (by simp), ok v (by simp)⟩, (n_sign k).1.mp g⟩
    · cases h
  · cases h
theorem rdQ1_len {l : List Int} {q : Q} (h : rdQ1 l = some q) : ∃ n d, l = [n, d] ∧ Kzq1.readQ n d = some q := by
  match l, h with
  | [n, d], h => exact ⟨n, d, rfl, h⟩
theorem shear_eq (g l : List Int) : PyKzq2.shear g l = match rd4 g with
    | none => [-22]
    | some (o, u, v) => match rdQ1 l with
      | none => [-22]
      | some k => if 60 * (k.d : Int) < (k.n.natAbs : Int) then [-28] else ((shParts o u v k).length : Int) :: Kzq2.writtenCut (shParts o u v k) := by
  have e1 : Kzq2.answer (.shear g l) = match Kzq1.readPoints g, l with
    | some [o, u, v], [n, d] => (match Kzq1.readQ n d with
      | some q => if Kzq1.pos (Kzq1.cross u v) = false then Kzq1.say (-22) else if Kzq2.tooMuch q then Kzq1.say (-28) else Kzq2.tellCut (Kzq2.shear ⟨o, u, v⟩ q).1
      | none => Kzq1.say (-22))
    | _, _ => Kzq1.say (-22) := rfl
  have e0 : PyKzq2.shear g l = (Kzq2.answer (.shear g l)).value :: (Kzq2.answer (.shear g l)).nums := rfl
  rw [e0, e1]
  cases h : rd4 g with
  | none =>
    unfold rd4 at h
    dsimp only
    cases hr : Kzq1.readPoints g with
    | none => rfl
    | some ps =>
      rw [hr] at h
      match ps, h with
      | [], _ => rfl
      | [_], _ => rfl
      | [_, _], _ => rfl
      | _ :: _ :: _ :: _ :: _, _ => rfl
      | [o, u, v], h =>
        dsimp only at h
        have c : ¬ 0 < (Kzq1.cross u v).n := fun n => by rw [if_pos n] at h; cases h
        have c2 : Kzq1.pos (Kzq1.cross u v) = false := decide_eq_false c
        match l with
        | [] => rfl
        | [_] => rfl
        | _ :: _ :: _ :: _ => rfl
        | [n, d] =>
          dsimp only
          cases Kzq1.readQ n d with
          | none => rfl
          | some q => dsimp only; rw [if_pos c2]; rfl
  | some x =>
    obtain ⟨o, u, v⟩ := x
    obtain ⟨hr, ⟨ho, hu, hv⟩, hd⟩ := rd4_ok h
    rw [hr]
    dsimp only
    have c2 : Kzq1.pos (Kzq1.cross u v) = true := by rw [pos_eq (cross_ok hu hv)]; exact decide_eq_true hd
    match l with
    | [] => rfl
    | [_] => rfl
    | _ :: _ :: _ :: _ => rfl
    | [n, d] =>
      have key : ∀ r : Option Q, (∀ q, r = some q → Ok q) → ∀ a : Kzq1.Ans, a = (match r with
        | some q => if Kzq1.pos (Kzq1.cross u v) = false then Kzq1.say (-22) else if Kzq2.tooMuch q then Kzq1.say (-28) else Kzq2.tellCut (Kzq2.shear ⟨o, u, v⟩ q).1
        | none => Kzq1.say (-22)) → a.value :: a.nums = (match r with
        | none => [-22]
        | some k => if 60 * (k.d : Int) < (k.n.natAbs : Int) then [-28] else ((shParts o u v k).length : Int) :: Kzq2.writtenCut (shParts o u v k)) := by
        intro r hr a ha
        cases r with
        | none => rw [ha]; rfl
        | some q =>
          have oq := hr q rfl
          have ct : Kzq2.tooMuch q = true ↔ 60 * (q.d : Int) < (q.n.natAbs : Int) := by
            unfold Kzq2.tooMuch Kzq2.mostTimes
            rw [decide_eq_true_eq]; omega
          dsimp only at ha ⊢
          rw [if_neg (by rw [c2]; decide)] at ha
          by_cases c : 60 * (q.d : Int) < (q.n.natAbs : Int)
          · rw [if_pos (ct.mpr c)] at ha
            rw [if_pos c, ha]; rfl
          · rw [if_neg (fun n => c (ct.mp n)), shear_is ho hu hv hd oq] at ha
            rw [if_neg c, ha]; rfl
      exact key (Kzq1.readQ n d) (fun q hq => (readQ_ok hq).1) _ rfl
end Sc
namespace Sc
open Kzq1 (Q P)
/-! How long the numbers get: corners lie where two lines of whole numbers cross -/
structure Ln where
  a : Int
  b : Int
  c : Int
def Ln.On (L : Ln) (z : V2) : Prop := (L.a : Rat) * z.x + (L.b : Rat) * z.y + (L.c : Rat) = 0
structure Ln.Sz (k : Nat) (L : Ln) : Prop where
  a : L.a.natAbs < 2 ^ k
  b : L.b.natAbs < 2 ^ k
  c : L.c.natAbs < 2 ^ k
  n : L.a ≠ 0 ∨ L.b ≠ 0
def Lined (k : Nat) (l : List V2) : Prop := ∀ i, ∃ L : Ln, L.Sz k ∧ L.On (ac l i) ∧ L.On (ac l (i + 1))
theorem Ln.On.mx {L : Ln} {p q : V2} (hp : L.On p) (hq : L.On q) (t : Rat) : L.On (mx t p q) := by
  unfold Ln.On at *
  unfold Sc.mx
  dsimp only
  grind
theorem Lined.rot {k : Nat} {l m : List V2} (h : Lined k (l ++ m)) : Lined k (m ++ l) := by
  intro i
  rw [ac_rot l m i, ac_rot l m (i + 1), show i + 1 + l.length = i + l.length + 1 by omega]
  exact h _
theorem Lined.clip {k : Nat} {s t : V2} {l : List V2} (h : Lined k l) (hl : 0 < l.length) (hc : 0 < (clip2 s t l).length) (L : Ln) (hL : L.Sz k) (hO : ∀ z, tn s t z = 0 → L.On z) : Lined k (clip2 s t l) := by
  intro I
  rcases clip_adj (s := s) (t := t) hl hc I with ⟨i, x, y, _, e1, e2⟩ | ⟨z1, z2⟩
  · obtain ⟨M, m1, m2, m3⟩ := h i
    rw [e1, e2]
    exact ⟨M, m1, m2.mx m3 x, m2.mx m3 y⟩
  · exact ⟨L, hL, hO _ z1, hO _ z2⟩
theorem Lined.cut {k : Nat} {s t : V2} {l : List V2} (h : Lined k l) (hl : 0 < l.length) (hc : 0 < (cut2 s t l).length) (L : Ln) (hL : L.Sz k) (hO : ∀ z, tn s t z = 0 → L.On z) : Lined k (cut2 s t l) := by
  rw [cut_len_eq] at hc
  have := h.clip (s := s) (t := t) hl hc L hL hO
  obtain ⟨u, v, e1, e2⟩ := cut_rot s t l
  rw [e1] at this
  rw [e2]
  exact this.rot
theorem int_zero {z : Int} (h : (z : Rat) = 0) : z = 0 := by simpa using h
/-- a corner of such a piece -/
theorem Lined.corner {k : Nat} {l : List V2} (h : Lined k l) (T : Tri l) (h3 : 3 ≤ l.length) {j : Nat} (hj : j < l.length) :
    ∃ N M D : Int, D ≠ 0 ∧ N.natAbs < 2 ^ (2 * k + 1) ∧ M.natAbs < 2 ^ (2 * k + 1) ∧ D.natAbs < 2 ^ (2 * k + 1) ∧ (ac l j).x = (N : Rat) / (D : Rat) ∧ (ac l j).y = (M : Rat) / (D : Rat) := by
  have tu := T.corner h3 hj
  obtain ⟨L, hL, u1, u2⟩ := h (j + l.length - 1)
  obtain ⟨M, hM, w1, w2⟩ := h j
  have e : ac l (j + l.length - 1 + 1) = ac l j := by rw [show j + l.length - 1 + 1 = j + l.length by omega, ac_add]
  rw [e] at u2
  generalize ac l (j + l.length - 1) = u at *
  generalize ac l (j + 1) = w at *
  generalize ac l j = v at *
  unfold Ln.On at u1 u2 w1 w2
  have bd : ∀ {a b c d : Int}, a.natAbs < 2 ^ k → b.natAbs < 2 ^ k → c.natAbs < 2 ^ k → d.natAbs < 2 ^ k → (a * b - c * d).natAbs < 2 ^ (2 * k + 1) := fun {a b c d} h1 h2 h3 h4 => by
    have := cross_lt (i := a) (j := b) (k := -c) (l := d) (a := k) (b := k) h1 h2 (by rw [Int.natAbs_neg]; exact h3) h4
    rw [Int.neg_mul] at this
    rw [show 2 * k + 1 = k + k + 1 by omega]
    exact this
  -- the two aren't one
  have hD : L.a * M.b - M.a * L.b ≠ 0 := by
    intro z
    have z : ((L.a * M.b - M.a * L.b : Int) : Rat) = 0 := by rw [z]; rfl
    rw [Rat.intCast_sub, Rat.intCast_mul, Rat.intCast_mul] at z
    have nL : (L.a : Rat) ≠ 0 ∨ (L.b : Rat) ≠ 0 := by
      rcases hL.n with n | n
      · exact .inl fun q => n (int_zero q)
      · exact .inr fun q => n (int_zero q)
    have nM : (M.a : Rat) ≠ 0 ∨ (M.b : Rat) ≠ 0 := by
      rcases hM.n with n | n
      · exact .inl fun q => n (int_zero q)
      · exact .inr fun q => n (int_zero q)
    generalize (L.a : Rat) = a1 at *
    generalize (L.b : Rat) = b1 at *
    generalize (M.a : Rat) = a2 at *
    generalize (M.b : Rat) = b2 at *
    generalize (L.c : Rat) = c1 at *
    generalize (M.c : Rat) = c2 at *
    have p1 : a1 * (u.x - v.x) + b1 * (u.y - v.y) = 0 := by grind
    have q2 : a2 * (w.x - v.x) + b2 * (w.y - v.y) = 0 := by grind
    have r1 : a2 * (a1 * (w.x - v.x) + b1 * (w.y - v.y)) = 0 := by
      have : a2 * (a1 * (w.x - v.x) + b1 * (w.y - v.y)) = a1 * (a2 * (w.x - v.x) + b2 * (w.y - v.y)) - (a1 * b2 - a2 * b1) * (w.y - v.y) := by grind
      rw [this, q2, z]; grind
    have r2 : b2 * (a1 * (w.x - v.x) + b1 * (w.y - v.y)) = 0 := by
      have : b2 * (a1 * (w.x - v.x) + b1 * (w.y - v.y)) = b1 * (a2 * (w.x - v.x) + b2 * (w.y - v.y)) + (a1 * b2 - a2 * b1) * (w.x - v.x) := by grind
      rw [this, q2, z]; grind
    have q1 : a1 * (w.x - v.x) + b1 * (w.y - v.y) = 0 := by
      rcases nM with n | n
      · exact (Rat.mul_eq_zero.mp r1).resolve_left n
      · exact (Rat.mul_eq_zero.mp r2).resolve_left n
    have s1 : a1 * tn u v w = 0 := by
      have : a1 * tn u v w = (a1 * (w.x - v.x) + b1 * (w.y - v.y)) * (u.y - v.y) - (a1 * (u.x - v.x) + b1 * (u.y - v.y)) * (w.y - v.y) := by unfold tn; grind
      rw [this, p1, q1]; grind
    have s2 : b1 * tn u v w = 0 := by
      have : b1 * tn u v w = (a1 * (u.x - v.x) + b1 * (u.y - v.y)) * (w.x - v.x) - (a1 * (w.x - v.x) + b1 * (w.y - v.y)) * (u.x - v.x) := by unfold tn; grind
      rw [this, p1, q1]; grind
    have t0 : tn u v w ≠ 0 := Rat.ne_of_gt tu
    rcases nL with n | n
    · exact n ((Rat.mul_eq_zero.mp s1).resolve_right t0)
    · exact n ((Rat.mul_eq_zero.mp s2).resolve_right t0)
  have dR : ((L.a * M.b - M.a * L.b : Int) : Rat) ≠ 0 := fun q => hD (int_zero q)
  refine ⟨L.b * M.c - M.b * L.c, M.a * L.c - L.a * M.c, L.a * M.b - M.a * L.b, hD, bd hL.b hM.c hM.b hL.c, bd hM.a hL.c hL.a hM.c, bd hL.a hM.b hM.a hL.b, ?_, ?_⟩
  · have e : v.x * ((L.a * M.b - M.a * L.b : Int) : Rat) = ((L.b * M.c - M.b * L.c : Int) : Rat) := by
      rw [Rat.intCast_sub, Rat.intCast_sub, Rat.intCast_mul, Rat.intCast_mul, Rat.intCast_mul, Rat.intCast_mul]
      grind
    rw [← e, Rat.mul_div_cancel dR]
  · have e : v.y * ((L.a * M.b - M.a * L.b : Int) : Rat) = ((M.a * L.c - L.a * M.c : Int) : Rat) := by
      rw [Rat.intCast_sub, Rat.intCast_sub, Rat.intCast_mul, Rat.intCast_mul, Rat.intCast_mul, Rat.intCast_mul]
      grind
    rw [← e, Rat.mul_div_cancel dR]
theorem sz_of {q : Q} (h : Ok q) {N D : Int} {k : Nat} (hD : D ≠ 0) (h1 : N.natAbs < 2 ^ k) (h2 : D.natAbs < 2 ^ k) (e : val q = (N : Rat) / (D : Rat)) : Sz k q := by
  have : q = mkI N D := val_inj h (mkI_ok hD) (by rw [e, val_mkJ hD])
  rw [this]
  exact mkI_sz hD h1 h2
theorem Lined.sz {k : Nat} {l : List P} (h : Piece l) (hL : Lined k (l.map pv)) : ∀ p ∈ l, SzP (2 * k + 1) p := fun p hp => by
  obtain ⟨j, hj, e⟩ := mem_ac (List.mem_map_of_mem (f := pv) hp)
  obtain ⟨N, M, D, d0, b1, b2, b3, e1, e2⟩ := hL.corner h.tri (by rw [List.length_map]; exact h.three) hj
  rw [← e] at e1 e2
  exact ⟨sz_of (h.ok p hp).1 d0 b1 b3 e1, sz_of (h.ok p hp).2 d0 b2 b3 e2⟩
/-- the cuts so far -/
def prefP (p q : List P) (i : Nat) : List P := (List.range i).foldl (fun l k => leftP (Kzq1.at0 q (k + q.length - 1)) (Kzq1.at0 q k) l) p
theorem prefP_all (p q : List P) : prefP p q q.length = commonP p q := rfl
theorem prefP_more (p q : List P) (i : Nat) : prefP p q (i + 1) = leftP (Kzq1.at0 q (i + q.length - 1)) (Kzq1.at0 q i) (prefP p q i) := by
  unfold prefP
  rw [List.range_succ, List.foldl_append]; rfl
/-- while two pieces have one in common, all cuts so far have corners of that length -/
theorem pref_sz {k : Nat} {p q : List P} (hp : Piece p) (hq : Piece q) (hm : Meets p q) (hL : Lined k (p.map pv)) (hs : ∀ i, ∃ L : Ln, L.Sz k ∧ ∀ z, tn (pv (Kzq1.at0 q i)) (pv (Kzq1.at0 q (i + 1))) z = 0 → L.On z) :
    ∀ i, i ≤ q.length → Piece (prefP p q i) ∧ Lined k ((prefP p q i).map pv) := by
  obtain ⟨z, hz, f⟩ := hm
  have q0 : 0 < q.length := by have := hq.three; omega
  have f' := (back_sides q0 (F := fun a b => 0 < tn a b z)).mpr f
  have hs' := (back_sides q0 (F := fun a b => ∃ L : Ln, L.Sz k ∧ ∀ z, tn a b z = 0 → L.On z)).mpr hs
  have key : ∀ i, i ≤ q.length → Piece (prefP p q i) ∧ Lined k ((prefP p q i).map pv) ∧ RgP (prefP p q i) z := by
    intro i
    induction i with
    | zero => intro _; exact ⟨hp, hL, hz⟩
    | succ i ih =>
      intro hi
      obtain ⟨h, l, r⟩ := ih (by omega)
      have f0 := f' i (List.mem_range.mpr (by omega))
      obtain ⟨L, L1, L2⟩ := hs' i (List.mem_range.mpr (by omega))
      rw [prefP_more]
      generalize prefP p q i = c at *
      have h3 : 3 ≤ (c.map pv).length := by rw [List.length_map]; exact h.three
      obtain ⟨ok, e⟩ := kept_is (at0_ok hq.ok (i + q.length - 1)) (at0_ok hq.ok i) h.ok
      obtain ⟨v, hv, fv⟩ := off_line h.tri h3 r f0
      have hc := cut_many h.tri h3 hv fv
      have rg := cut_rg h.tri h3 hc
      have T := cut_tri (s := pv (Kzq1.at0 q (i + q.length - 1))) (t := pv (Kzq1.at0 q i)) h.tri h3
      have ll := l.cut (s := pv (Kzq1.at0 q (i + q.length - 1))) (t := pv (Kzq1.at0 q i)) (by omega) (by omega) L L1 L2
      rw [← e] at hc rg T ll
      rw [List.length_map] at hc
      have el : leftP (Kzq1.at0 q (i + q.length - 1)) (Kzq1.at0 q i) c = keptP (Kzq1.at0 q (i + q.length - 1)) (Kzq1.at0 q i) c := by unfold leftP; rw [if_pos hc]
      rw [el]
      exact ⟨⟨ok, T, hc⟩, ll, (rg z).mpr ⟨r, Rat.le_of_lt f0⟩⟩
  exact fun i hi => ⟨(key i hi).1, (key i hi).2.1⟩
/-! the square and the slid one -/
theorem all4 {a b c d : V2} {F : V2 → V2 → Prop} (h0 : F a b) (h1 : F b c) (h2 : F c d) (h3 : F d a) (i : Nat) : F (ac [a, b, c, d] i) (ac [a, b, c, d] (i + 1)) := by
  have hi : i % 4 < 4 := Nat.mod_lt _ (by omega)
  have e1 : ac [a, b, c, d] i = ac [a, b, c, d] (i % 4) := (ac_mod [a, b, c, d] i).symm
  have e2 : ac [a, b, c, d] (i + 1) = ac [a, b, c, d] (i % 4 + 1) := by unfold ac; rw [show ([a, b, c, d] : List V2).length = 4 from rfl, Nat.mod_add_mod]
  rw [e1, e2]
  match i % 4, hi with
  | 0, _ => exact h0
  | 1, _ => exact h1
  | 2, _ => exact h2
  | 3, _ => rw [ac4]; exact h3
  | n + 4, h => omega
theorem sq_lined : Lined 263 (sqP.map pv) := by
  rw [sq_pv]
  have one : ∀ z : Int, z.natAbs ≤ 1 → z.natAbs < 2 ^ 263 := fun z h => Nat.lt_of_le_of_lt h (by decide +kernel)
  intro i
  refine all4 (F := fun a b => ∃ L : Ln, L.Sz 263 ∧ L.On a ∧ L.On b) ?_ ?_ ?_ ?_ i
  · exact ⟨⟨0, 1, 0⟩, ⟨one _ (by decide), one _ (by decide), one _ (by decide), .inr (by decide)⟩, by unfold Ln.On; decide +kernel, by unfold Ln.On; decide +kernel⟩
  · exact ⟨⟨1, 0, -1⟩, ⟨one _ (by decide), one _ (by decide), one _ (by decide), .inl (by decide)⟩, by unfold Ln.On; decide +kernel, by unfold Ln.On; decide +kernel⟩
  · exact ⟨⟨0, 1, -1⟩, ⟨one _ (by decide), one _ (by decide), one _ (by decide), .inr (by decide)⟩, by unfold Ln.On; decide +kernel, by unfold Ln.On; decide +kernel⟩
  · exact ⟨⟨1, 0, 0⟩, ⟨one _ (by decide), one _ (by decide), one _ (by decide), .inl (by decide)⟩, by unfold Ln.On; decide +kernel, by unfold Ln.On; decide +kernel⟩
theorem sl_lines {k : Q} (hk : Ok k) (hz : Sz 256 k) {j : Int} (hj : j.natAbs ≤ 61) (i : Nat) : ∃ L : Ln, L.Sz 263 ∧ ∀ z, tn (pv (Kzq1.at0 (slP k j) i)) (pv (Kzq1.at0 (slP k j) (i + 1))) z = 0 → L.On z := by
  rw [← at0_pv, ← at0_pv, sl_pv hk]
  have up : ∀ z : Int, z.natAbs < 2 ^ 256 → z.natAbs < 2 ^ 263 := fun z h => Nat.lt_of_lt_of_le h (Nat.pow_le_pow_right (by omega) (by omega))
  have one : ∀ z : Int, z.natAbs ≤ 1 → z.natAbs < 2 ^ 263 := fun z h => Nat.lt_of_le_of_lt h (by decide +kernel)
  have d0 : (k.d : Int) ≠ 0 := by have := hk.1; omega
  have dr : ((k.d : Int) : Rat) ≠ 0 := fun q => d0 (int_zero q)
  have ev : val k * ((k.d : Int) : Rat) = (k.n : Rat) := by rw [val_nd hk, Rat.div_mul_cancel dr]
  have bdj : ∀ m : Int, m.natAbs ≤ 62 → (-(m * (k.d : Int))).natAbs < 2 ^ 263 := fun m hm => by
    rw [Int.natAbs_neg, Int.natAbs_mul, Int.natAbs_natCast]
    have : m.natAbs * k.d < 2 ^ 6 * 2 ^ 256 := by
      have h1 : m.natAbs < 2 ^ 6 := by omega
      exact Nat.mul_lt_mul'' h1 hz.2
    rw [← Nat.pow_add] at this
    exact Nat.lt_of_lt_of_le this (Nat.pow_le_pow_right (by omega) (by omega))
  have slant : ∀ m : Int, m.natAbs ≤ 62 → ∃ L : Ln, L.Sz 263 ∧ ∀ z : V2, z.x - (m : Rat) - val k * z.y = 0 → L.On z := fun m hm => by
    refine ⟨⟨(k.d : Int), -k.n, -(m * (k.d : Int))⟩, ⟨up _ (by simpa using hz.2), up _ (by rw [Int.natAbs_neg]; exact hz.1), bdj m hm, .inl d0⟩, fun z h => ?_⟩
    unfold Ln.On
    dsimp only
    rw [Rat.intCast_neg, Rat.intCast_neg, Rat.intCast_mul, ← ev]
    generalize ((k.d : Int) : Rat) = d at *
    have : d * (z.x - (m : Rat) - val k * z.y) = 0 := by rw [h, Rat.mul_zero]
    grind
  refine all4 (F := fun a b => ∃ L : Ln, L.Sz 263 ∧ ∀ z, tn a b z = 0 → L.On z) ?_ ?_ ?_ ?_ i
  · refine ⟨⟨0, 1, 0⟩, ⟨one _ (by decide), one _ (by decide), one _ (by decide), .inr (by decide)⟩, fun z h => ?_⟩
    unfold tn at h
    unfold Ln.On
    dsimp only at h ⊢
    have c0 : ((0 : Int) : Rat) = 0 := rfl
    have c1 : ((1 : Int) : Rat) = 1 := rfl
    rw [c0, c1]
    grind
  · obtain ⟨L, a, b⟩ := slant (j + 1) (by omega)
    refine ⟨L, a, fun z h => b z ?_⟩
    rw [Rat.intCast_add]
    have c1 : ((1 : Int) : Rat) = 1 := rfl
    unfold tn at h
    dsimp only at h
    grind
  · refine ⟨⟨0, 1, -1⟩, ⟨one _ (by decide), one _ (by decide), one _ (by decide), .inr (by decide)⟩, fun z h => ?_⟩
    unfold tn at h
    unfold Ln.On
    dsimp only at h ⊢
    have c0 : ((0 : Int) : Rat) = 0 := rfl
    have c1 : ((1 : Int) : Rat) = 1 := rfl
    have c2 : ((-1 : Int) : Rat) = -1 := rfl
    rw [c0, c1, c2]
    grind
  · obtain ⟨L, a, b⟩ := slant j (by omega)
    refine ⟨L, a, fun z h => b z ?_⟩
    unfold tn at h
    dsimp only at h
    grind
/-- the cuts of a part that's made -/
theorem shear_pref {k : Q} (hk : Ok k) (hz : Sz 256 k) {j : Int} (hj : j.natAbs ≤ 61) (hr : jFirst k ≤ j ∧ j ≤ jLast k) (i : Nat) (hi : i ≤ 4) : Piece (prefP sqP (slP k j) i) ∧ ∀ p ∈ prefP sqP (slP k j) i, SzP 527 p := by
  obtain ⟨a, b⟩ := pref_sz sq_piece (sl_piece hk j) ((meets_range hk j).mpr hr) sq_lined (sl_lines hk hz hj) i hi
  exact ⟨a, fun p hp => (b.sz a p hp).mono (by omega)⟩
theorem kept_len (s t : P) (l : List P) : (keptP s t l).length ≤ 2 * l.length := by
  unfold keptP
  rw [List.length_flatMap]
  have : ∀ r : List Nat, (r.map fun k => (xP s t (Kzq1.at0 l (k + l.length - 1)) (Kzq1.at0 l k) ++ kP s t (Kzq1.at0 l k)).length).sum ≤ 2 * r.length := by
    intro r
    induction r with
    | nil => simp
    | cons a r ih =>
      rw [List.map_cons, List.sum_cons, List.length_append, List.length_cons]
      have a1 : (xP s t (Kzq1.at0 l (a + l.length - 1)) (Kzq1.at0 l a)).length ≤ 1 := by unfold xP; split <;> simp
      have a2 : (kP s t (Kzq1.at0 l a)).length ≤ 1 := by unfold kP; split <;> simp
      omega
  have := this (List.range l.length)
  rw [List.length_range] at this
  exact this
theorem left_len (s t : P) (l : List P) : (leftP s t l).length ≤ 2 * l.length := by
  unfold leftP
  split
  · exact kept_len s t l
  · simp
theorem common_len {k : Q} {j : Int} : (commonP sqP (slP k j)).length ≤ 64 := by
  rw [← prefP_all]
  have e : (slP k j).length = 4 := rfl
  have e0 : (sqP).length = 4 := rfl
  rw [e]
  have s0 : (prefP sqP (slP k j) 0).length = 4 := rfl
  have st : ∀ i, (prefP sqP (slP k j) (i + 1)).length ≤ 2 * (prefP sqP (slP k j) i).length := fun i => by rw [prefP_more]; exact left_len _ _ _
  have s1 : (prefP sqP (slP k j) 1).length ≤ 2 * (prefP sqP (slP k j) 0).length := st 0
  have s2 : (prefP sqP (slP k j) 2).length ≤ 2 * (prefP sqP (slP k j) 1).length := st 1
  have s3 : (prefP sqP (slP k j) 3).length ≤ 2 * (prefP sqP (slP k j) 2).length := st 2
  have s4 : (prefP sqP (slP k j) 4).length ≤ 2 * (prefP sqP (slP k j) 3).length := st 3
  omega
theorem jFirst_bd {k : Q} (hk : Ok k) (h : ¬ 60 * (k.d : Int) < (k.n.natAbs : Int)) : -60 ≤ jFirst k ∧ jLast k ≤ 60 ∧ jFirst k ≤ 0 ∧ 0 ≤ jLast k := by
  have d0 : 0 < (k.d : Int) := by have := hk.1; omega
  have n1 : -(60 * (k.d : Int)) ≤ k.n := by omega
  have n2 : k.n ≤ 60 * (k.d : Int) := by omega
  have f1 : -60 ≤ fl (Kzq1.neg k) := by
    show -60 ≤ -k.n / (k.d : Int)
    exact (Int.le_ediv_iff_mul_le d0).mpr (by omega)
  have f2 : -60 ≤ fl k := by
    show -60 ≤ k.n / (k.d : Int)
    exact (Int.le_ediv_iff_mul_le d0).mpr (by omega)
  unfold jFirst jLast
  omega
end Sc
namespace Sc
open Kzq1 (Q P)
/-! A piece, as the specification asks it of what's handed in -/
theorem sub3 {l : List V2} {a b c : V2} (h : [a, b, c].Sublist l) : ∃ i j k, i < j ∧ j < k ∧ k < l.length ∧ a = ac l i ∧ b = ac l j ∧ c = ac l k := by
  rw [← map_ac l] at h
  obtain ⟨m, hm, e⟩ := List.sublist_map_iff.mp h
  match m, e with
  | [i, j, k], e =>
    simp only [List.map_cons, List.map_nil, List.cons.injEq, and_true] at e
    obtain ⟨e1, e2, e3⟩ := e
    have pw := List.Pairwise.sublist hm List.pairwise_lt_range
    simp only [List.pairwise_cons, List.mem_cons, List.not_mem_nil, or_false] at pw
    have mk : k ∈ List.range l.length := hm.subset (by simp)
    exact ⟨i, j, k, pw.1 j (.inl rfl), pw.2.1 k rfl, List.mem_range.mp mk, e1, e2, e3⟩
  | [], e => simp at e
  | [_], e => simp at e
  | [_, _], e => simp at e
  | _ :: _ :: _ :: _ :: _, e => simp at e
/-- from each side all other corners on its left: then all corners in order turn to the left -/
theorem tri_of_sides {l : List V2} (h : ∀ i, i < l.length → ∀ j, j < l.length → j ≠ i → j ≠ (i + 1) % l.length → 0 < tn (ac l i) (ac l (i + 1)) (ac l j)) : Tri l := by
  intro a b c s
  obtain ⟨i, j, k, hij, hjk, hk, rfl, rfl, rfl⟩ := sub3 s
  have base : ∀ m, i + 1 < m → m < l.length → 0 < tn (ac l i) (ac l (i + 1)) (ac l m) := fun m h1 h2 => by
    have e : (i + 1) % l.length = i + 1 := Nat.mod_eq_of_lt (by omega)
    exact h i (by omega) m h2 (by omega) (by omega)
  have next : ∀ m, i < m → m + 1 < l.length → 0 < tn (ac l i) (ac l m) (ac l (m + 1)) := fun m h1 h2 => by
    rw [← tn_cyc]
    have e : (m + 1) % l.length = m + 1 := Nat.mod_eq_of_lt h2
    exact h m (by omega) i (by omega) (by omega) (by omega)
  have key : ∀ d, j + 1 + d < l.length → 0 < tn (ac l i) (ac l j) (ac l (j + 1 + d)) := by
    intro d
    induction d with
    | zero => intro hd; exact next j hij hd
    | succ d ih =>
      intro hd
      have k1 := ih (by omega)
      have k2 := next (j + 1 + d) (by omega) hd
      have e : j + 1 + (d + 1) = j + 1 + d + 1 := by omega
      rw [e]
      by_cases c : j = i + 1
      · rw [c]; exact base _ (by omega) (by omega)
      · have b1 := base j (by omega) (by omega)
        have b2 := base (j + 1 + d) (by omega) (by omega)
        have b3 := base (j + 1 + d + 1) (by omega) (by omega)
        generalize ac l (j + 1 + d + 1) = D at *
        generalize ac l (j + 1 + d) = C at *
        generalize ac l j = B at *
        generalize ac l (i + 1) = A at *
        generalize ac l i = O at *
        have pl : tn O A C * tn O B D = tn O A B * tn O C D + tn O A D * tn O B C := by unfold tn; grind
        have p1 := Rat.mul_pos b1 k2
        have p2 := Rat.mul_pos b3 k1
        refine (mul_p_iff b2).mp ?_
        rw [pl]; grind
  have := key (k - (j + 1)) (by omega)
  rw [show j + 1 + (k - (j + 1)) = k by omega] at this
  exact this
theorem convex_iff {l : List P} (ok : OkL l) : Kzq1.convex l = true ↔ 3 ≤ l.length ∧ Tri (l.map pv) := by
  have ev : ∀ i j, Kzq1.pos (Kzq1.turn (Kzq1.at0 l i) (Kzq1.at0 l (i + 1)) (Kzq1.at0 l j)) = true ↔ 0 < tn (ac (l.map pv) i) (ac (l.map pv) (i + 1)) (ac (l.map pv) j) := fun i j => by
    rw [pos_eq (turn_ok (at0_ok ok _) (at0_ok ok _) (at0_ok ok _)), decide_eq_true_eq, val_tn (at0_ok ok _) (at0_ok ok _) (at0_ok ok _), at0_pv, at0_pv, at0_pv]
  unfold Kzq1.convex
  rw [Bool.and_eq_true, decide_eq_true_eq, List.all_eq_true]
  constructor
  · rintro ⟨h3, h⟩
    refine ⟨h3, tri_of_sides fun i hi j hj n1 n2 => ?_⟩
    rw [List.length_map] at hi hj n2
    have k := List.all_eq_true.mp (h i (List.mem_range.mpr hi)) j (List.mem_range.mpr hj)
    rw [Bool.or_eq_true, Bool.or_eq_true, beq_iff_eq, beq_iff_eq, ev] at k
    rcases k with (k | k) | k
    · exact absurd k n1
    · exact absurd k n2
    · exact k
  · rintro ⟨h3, T⟩
    refine ⟨h3, fun i hi => List.all_eq_true.mpr fun j hj => ?_⟩
    rw [Bool.or_eq_true, Bool.or_eq_true, beq_iff_eq, beq_iff_eq, ev]
    have := T.side (i := i) (j := j) (by rw [List.length_map]; exact List.mem_range.mp hi) (by rw [List.length_map]; exact List.mem_range.mp hj)
    rw [List.length_map] at this
    rcases this with k | k | k
    · exact .inl (.inl k)
    · exact .inl (.inr k)
    · exact .inr k
/-! Moves -/
def affM (m : Kzq2.Move) : Aff := ⟨pv m.t, if m.h then ⟨-1, 0⟩ else ⟨1, 0⟩, if m.h then ⟨0, -1⟩ else ⟨0, 1⟩⟩
theorem affM_det (m : Kzq2.Move) : (affM m).det = 1 := by
  unfold affM Aff.det
  cases m.h
  · show (1 : Rat) * 1 - 0 * 0 = 1
    decide +kernel
  · show (-1 : Rat) * -1 - 0 * 0 = 1
    decide +kernel
theorem affM_pos (m : Kzq2.Move) : 0 < (affM m).det := by rw [affM_det]; decide
theorem opp_ok {z : P} (h : OkP z) : OkP (Kzq2.opp z) := ⟨neg_ok h.1, neg_ok h.2⟩
theorem px_opp {z : P} (h : OkP z) : px (Kzq2.opp z) = - px z := val_neg h.1
theorem py_opp {z : P} (h : OkP z) : py (Kzq2.opp z) = - py z := val_neg h.2
theorem go_is {m : Kzq2.Move} (hm : OkP m.t) {z : P} (hz : OkP z) : OkP (Kzq2.go m z) ∧ pv (Kzq2.go m z) = (affM m).at (pv z) := by
  unfold Kzq2.go affM Aff.at
  cases m.h with
  | false =>
    rw [if_neg (by decide)]
    refine ⟨plus_ok hz hm, V2.ext' ?_ ?_⟩
    · show px (Kzq1.plus z m.t) = _
      rw [px_plus hz hm]
      show _ = px m.t + (px z * 1 + py z * 0)
      grind
    · show py (Kzq1.plus z m.t) = _
      rw [py_plus hz hm]
      show _ = py m.t + (px z * 0 + py z * 1)
      grind
  | true =>
    have o := opp_ok hz
    rw [if_pos rfl]
    refine ⟨plus_ok o hm, V2.ext' ?_ ?_⟩
    · show px (Kzq1.plus (Kzq2.opp z) m.t) = _
      rw [px_plus o hm, px_opp hz]
      show _ = px m.t + (px z * (-1) + py z * 0)
      grind
    · show py (Kzq1.plus (Kzq2.opp z) m.t) = _
      rw [py_plus o hm, py_opp hz]
      show _ = py m.t + (px z * 0 + py z * (-1))
      grind
theorem map_go {m : Kzq2.Move} (hm : OkP m.t) {l : List P} (hl : OkL l) : OkL (l.map (Kzq2.go m)) ∧ (l.map (Kzq2.go m)).map pv = (l.map pv).map (affM m).at := by
  constructor
  · intro p hp
    obtain ⟨s, hs, rfl⟩ := List.mem_map.mp hp
    exact (go_is hm (hl s hs)).1
  · rw [List.map_map, List.map_map]
    exact List.map_congr_left fun s hs => (go_is hm (hl s hs)).2
theorem Piece.go {m : Kzq2.Move} (hm : OkP m.t) {l : List P} (h : Piece l) : Piece (l.map (Kzq2.go m)) := by
  obtain ⟨a, b⟩ := map_go hm h.ok
  exact ⟨a, by rw [b]; exact Aff.tri _ (affM_pos m) h.tri, by rw [List.length_map]; exact h.three⟩
theorem RgP.go {m : Kzq2.Move} (hm : OkP m.t) {l : List P} (h : Piece l) (z : V2) : RgP (l.map (Kzq2.go m)) ((affM m).at z) ↔ RgP l z := by
  unfold RgP
  rw [(map_go hm h.ok).2]
  exact Aff.rg _ (affM_pos m) (by rw [List.length_map]; have := h.three; omega) z
theorem undone_ok {m : Kzq2.Move} (hm : OkP m.t) : OkP (Kzq2.undone m).t := by
  unfold Kzq2.undone
  cases m.h
  · exact opp_ok hm
  · exact hm
theorem andThen_ok {m r : Kzq2.Move} (hm : OkP m.t) (hr : OkP r.t) : OkP (Kzq2.andThen m r).t := by
  unfold Kzq2.andThen
  cases r.h
  · exact plus_ok hm hr
  · exact plus_ok (opp_ok hm) hr
/-- pieces with the same points, moved alike -/
theorem same_go {m : Kzq2.Move} (hm : OkP m.t) {l r : List P} (hl : Piece l) (hr : Piece r) (e : ∀ z, RgP l z ↔ RgP r z) : Kzq1.formed (l.map (Kzq2.go m)) = Kzq1.formed (r.map (Kzq2.go m)) := by
  refine Piece.same (hl.go hm) (hr.go hm) fun w => ?_
  obtain ⟨z, rfl⟩ := Aff.sur (affM m) (Rat.ne_of_gt (affM_pos m)) w
  rw [RgP.go hm hl, RgP.go hm hr]
  exact e z
/-- begun anywhere, moved: as it's told -/
theorem goes_begun {m : Kzq2.Move} (hm : OkP m.t) {l : List P} (h : Piece l) : Kzq2.goes m (Kzq1.begunWith l) = Kzq1.formed (l.map (Kzq2.go m)) := same_go hm h.begun h fun _ => RgP.begun
theorem goes_formed {m : Kzq2.Move} (hm : OkP m.t) {l : List P} (h : Piece l) : Kzq2.goes m (Kzq1.formed l) = Kzq1.formed (l.map (Kzq2.go m)) := by rw [h.formed]; exact goes_begun hm h
theorem Piece.form {l : List P} (h : Piece l) : Piece (Kzq1.formed l) := by rw [h.formed]; exact h.begun
theorem RgP.form {l : List P} (h : Piece l) {z : V2} : RgP (Kzq1.formed l) z ↔ RgP l z := by rw [h.formed]; exact RgP.begun
theorem In.same {l r : List P} (hl : Piece l) (hr : Piece r) (e : ∀ z, RgP l z ↔ RgP r z) (z : V2) : In (l.map pv) z ↔ In (r.map pv) z := by
  have := begun_eq hl.ok hr.ok hl.tri hr.tri hl.three hr.three e
  rw [← In.begun, this, In.begun]
theorem meets_same {p q p' q' : List P} (hq : Piece q) (hq' : Piece q') (e1 : ∀ z, RgP p z ↔ RgP p' z) (e2 : ∀ z, RgP q z ↔ RgP q' z) : Meets p q ↔ Meets p' q' := by
  rw [meets_iff, meets_iff]
  constructor
  · rintro ⟨z, a, b⟩; exact ⟨z, (e1 z).mp a, (In.same hq hq' e2 z).mp b⟩
  · rintro ⟨z, a, b⟩; exact ⟨z, (e1 z).mpr a, (In.same hq hq' e2 z).mpr b⟩
/-- what a part, moved, has in common with another, moved back -/
theorem behind_piece {m : Kzq2.Move} (hm : OkP m.t) {a b : List P} (ha : Piece a) (hb : Piece b) :
    (Meets (a.map (Kzq2.go m)) b → Kzq1.meet (Kzq2.goes m (Kzq1.formed a)) (Kzq1.formed b) ≠ [] ∧ Piece (commonP (a.map (Kzq2.go m)) b) ∧
      Kzq2.goes (Kzq2.undone m) (Kzq1.meet (Kzq2.goes m (Kzq1.formed a)) (Kzq1.formed b)) = Kzq1.formed ((commonP (a.map (Kzq2.go m)) b).map (Kzq2.go (Kzq2.undone m)))) ∧
    (¬ Meets (a.map (Kzq2.go m)) b → Kzq1.meet (Kzq2.goes m (Kzq1.formed a)) (Kzq1.formed b) = []) := by
  have pa := ha.go hm
  rw [goes_formed hm ha]
  have ms : Meets (Kzq1.formed (a.map (Kzq2.go m))) (Kzq1.formed b) ↔ Meets (a.map (Kzq2.go m)) b := meets_same hb.form hb (fun _ => RgP.form pa) (fun _ => RgP.form hb)
  constructor
  · intro h
    obtain ⟨r, pr, rg, e⟩ := meet_alive pa.form hb.form (ms.mpr h)
    obtain ⟨c, crg⟩ := common_alive pa hb h
    rw [e]
    refine ⟨fun n => ?_, c, ?_⟩
    · have := pr.form.three
      rw [n] at this; simp at this
    · rw [goes_formed (undone_ok hm) pr]
      refine same_go (undone_ok hm) pr c fun z => ?_
      rw [rg, crg, RgP.form pa, RgP.form hb]
  · intro h
    exact meet_dead pa.form hb.form fun n => h (ms.mp n)
end Sc
namespace Sc
open Kzq1 (Q P)
/-! How long the numbers get, more closely -/
def Vt (M : Nat) (z : V2) : Prop := ∃ N1 N2 D : Int, D ≠ 0 ∧ N1.natAbs < 2 ^ M ∧ N2.natAbs < 2 ^ M ∧ D.natAbs < 2 ^ M ∧ z.x = (N1 : Rat) / (D : Rat) ∧ z.y = (N2 : Rat) / (D : Rat)
theorem Vt.mono {M N : Nat} {z : V2} (h : Vt M z) (k : M ≤ N) : Vt N z := by
  obtain ⟨a, b, d, h0, h1, h2, h3, h4, h5⟩ := h
  have p : 2 ^ M ≤ 2 ^ N := Nat.pow_le_pow_right (by omega) k
  exact ⟨a, b, d, h0, by omega, by omega, by omega, h4, h5⟩
theorem Vt.sz {M : Nat} {p : P} (ok : OkP p) (h : Vt M (pv p)) : SzP M p := by
  obtain ⟨a, b, d, h0, h1, h2, h3, h4, h5⟩ := h
  exact ⟨sz_of ok.1 h0 h1 h3 h4, sz_of ok.2 h0 h2 h3 h5⟩
theorem val_q {q : Q} (h : Ok q) : ((q.d : Int) : Rat) ≠ 0 ∧ val q * ((q.d : Int) : Rat) = (q.n : Rat) := by
  have d0 : (q.d : Int) ≠ 0 := by have := h.1; omega
  have dr : ((q.d : Int) : Rat) ≠ 0 := fun e => d0 (int_zero e)
  exact ⟨dr, by rw [val_nd h, Rat.div_mul_cancel dr]⟩
theorem rat_div {x n d : Rat} (h : d ≠ 0) (e : x * d = n) : x = n / d := by rw [← e, Rat.mul_div_cancel h]
theorem Vt.of {m : Nat} {p : P} (ok : OkP p) (z : SzP m p) : Vt (2 * m) (pv p) := by
  obtain ⟨dx, ex⟩ := val_q ok.1
  obtain ⟨dy, ey⟩ := val_q ok.2
  have bx : ((p.x.d : Int)).natAbs < 2 ^ m := by simpa using z.1.2
  have by' : ((p.y.d : Int)).natAbs < 2 ^ m := by simpa using z.2.2
  have e : 2 * m = m + m := by omega
  have d1 : (p.x.d : Int) ≠ 0 := by have := ok.1.1; omega
  have d2 : (p.y.d : Int) ≠ 0 := by have := ok.2.1; omega
  rw [e]
  have dr : (((p.x.d : Int) * (p.y.d : Int) : Int) : Rat) ≠ 0 := fun q => (Int.mul_ne_zero d1 d2) (int_zero q)
  refine ⟨p.x.n * (p.y.d : Int), p.y.n * (p.x.d : Int), (p.x.d : Int) * (p.y.d : Int), Int.mul_ne_zero d1 d2, mul_lt z.1.1 by', mul_lt z.2.1 bx, mul_lt bx by', rat_div dr ?_, rat_div dr ?_⟩
  · rw [Rat.intCast_mul, Rat.intCast_mul, ← ex]
    show val p.x * _ = _
    grind
  · rw [Rat.intCast_mul, Rat.intCast_mul, ← ey]
    show val p.y * _ = _
    grind
/-- the line through two points, by whole numbers -/
theorem line_of {m : Nat} {a b : P} (oa : OkP a) (ob : OkP b) (za : SzP m a) (zb : SzP m b) : ∃ (L : Ln) (s : Int), s ≠ 0 ∧ s.natAbs < 2 ^ (4 * m) ∧ L.a.natAbs < 2 ^ (4 * m + 1) ∧ L.b.natAbs < 2 ^ (4 * m + 1) ∧ L.c.natAbs < 2 ^ (4 * m + 1) ∧
    ∀ z : V2, (s : Rat) * tn (pv a) (pv b) z = (L.a : Rat) * z.x + (L.b : Rat) * z.y + (L.c : Rat) := by
  obtain ⟨r1, e1⟩ := val_q oa.1
  obtain ⟨r2, e2⟩ := val_q oa.2
  obtain ⟨r3, e3⟩ := val_q ob.1
  obtain ⟨r4, e4⟩ := val_q ob.2
  have c1 : ((a.x.d : Int)).natAbs < 2 ^ m := by simpa using za.1.2
  have c2 : ((a.y.d : Int)).natAbs < 2 ^ m := by simpa using za.2.2
  have c3 : ((b.x.d : Int)).natAbs < 2 ^ m := by simpa using zb.1.2
  have c4 : ((b.y.d : Int)).natAbs < 2 ^ m := by simpa using zb.2.2
  have n1 : (a.x.d : Int) ≠ 0 := by have := oa.1.1; omega
  have n2 : (a.y.d : Int) ≠ 0 := by have := oa.2.1; omega
  have n3 : (b.x.d : Int) ≠ 0 := by have := ob.1.1; omega
  have n4 : (b.y.d : Int) ≠ 0 := by have := ob.2.1; omega
  have four : ∀ {w x y z : Int}, w.natAbs < 2 ^ m → x.natAbs < 2 ^ m → y.natAbs < 2 ^ m → z.natAbs < 2 ^ m → (w * x * (y * z)).natAbs < 2 ^ (4 * m) := fun h1 h2 h3 h4 => by
    have := mul_lt (mul_lt h1 h2) (mul_lt h3 h4)
    rw [show 4 * m = m + m + (m + m) by omega]; exact this
  have dif : ∀ {x y : Int}, x.natAbs < 2 ^ (4 * m) → y.natAbs < 2 ^ (4 * m) → (x - y).natAbs < 2 ^ (4 * m + 1) := fun {x y} h1 h2 => by
    have : 2 ^ (4 * m + 1) = 2 ^ (4 * m) + 2 ^ (4 * m) := by rw [Nat.pow_succ]; omega
    omega
  refine ⟨⟨a.y.n * (b.y.d : Int) * ((a.x.d : Int) * (b.x.d : Int)) - b.y.n * (a.y.d : Int) * ((a.x.d : Int) * (b.x.d : Int)), b.x.n * (a.x.d : Int) * ((a.y.d : Int) * (b.y.d : Int)) - a.x.n * (b.x.d : Int) * ((a.y.d : Int) * (b.y.d : Int)), a.x.n * b.y.n * ((a.y.d : Int) * (b.x.d : Int)) - a.y.n * b.x.n * ((a.x.d : Int) * (b.y.d : Int))⟩,
    (a.x.d : Int) * (a.y.d : Int) * ((b.x.d : Int) * (b.y.d : Int)), Int.mul_ne_zero (Int.mul_ne_zero n1 n2) (Int.mul_ne_zero n3 n4), four c1 c2 c3 c4, dif (four za.2.1 c4 c1 c3) (four zb.2.1 c2 c1 c3), dif (four zb.1.1 c1 c2 c4) (four za.1.1 c3 c2 c4), dif (four za.1.1 zb.2.1 c2 c3) (four za.2.1 zb.1.1 c1 c4), fun z => ?_⟩
  dsimp only
  simp only [Rat.intCast_mul, Rat.intCast_sub]
  rw [← e1, ← e2, ← e3, ← e4]
  show _ * tn ⟨val a.x, val a.y⟩ ⟨val b.x, val b.y⟩ z = _
  unfold tn
  dsimp only
  generalize ((a.x.d : Int) : Rat) = d1
  generalize ((a.y.d : Int) : Rat) = d2
  generalize ((b.x.d : Int) : Rat) = d3
  generalize ((b.y.d : Int) : Rat) = d4
  grind
/-- such a line, if the points are two -/
theorem line_ln {m : Nat} {a b : P} (oa : OkP a) (ob : OkP b) (za : SzP m a) (zb : SzP m b) (n : pv a ≠ pv b) : ∃ L : Ln, L.Sz (4 * m + 1) ∧ ∀ z, L.On z ↔ tn (pv a) (pv b) z = 0 := by
  obtain ⟨L, s, s0, _, h1, h2, h3, e⟩ := line_of oa ob za zb
  have sr : (s : Rat) ≠ 0 := fun q => s0 (int_zero q)
  have iff : ∀ z, L.On z ↔ tn (pv a) (pv b) z = 0 := fun z => by
    unfold Ln.On
    rw [← e z]
    constructor
    · intro h; exact (Rat.mul_eq_zero.mp h).resolve_left sr
    · intro h; rw [h, Rat.mul_zero]
  refine ⟨L, ⟨h1, h2, h3, ?_⟩, iff⟩
  refine Classical.byContradiction fun no => n ?_
  have a0 : L.a = 0 := Classical.byContradiction fun q => no (.inl q)
  have b0 : L.b = 0 := Classical.byContradiction fun q => no (.inr q)
  have c0 : (L.c : Rat) = 0 := by
    have := e (pv a)
    rw [tn_ab, Rat.mul_zero, a0, b0] at this
    have z : ((0 : Int) : Rat) = 0 := rfl
    rw [z] at this
    grind
  refine tn_none fun w => (iff w).mp ?_
  unfold Ln.On
  rw [a0, b0, c0]
  have z : ((0 : Int) : Rat) = 0 := rfl
  rw [z]; grind
theorem add3_lt {x y z : Int} {k : Nat} (h1 : x.natAbs < 2 ^ k) (h2 : y.natAbs < 2 ^ k) (h3 : z.natAbs < 2 ^ k) : (x + y + z).natAbs < 2 ^ (k + 2) := by
  have : 2 ^ (k + 2) = 2 ^ k + 2 ^ k + (2 ^ k + 2 ^ k) := by rw [Nat.pow_succ, Nat.pow_succ]; omega
  omega
/-- how far off a corner is: by whole numbers -/
theorem off_of {m M : Nat} {a b : P} (oa : OkP a) (ob : OkP b) (za : SzP m a) (zb : SzP m b) {z : V2} {N1 N2 D : Int} (h1 : N1.natAbs < 2 ^ M) (h2 : N2.natAbs < 2 ^ M) (h3 : D.natAbs < 2 ^ M) (d0 : D ≠ 0) (e1 : z.x = (N1 : Rat) / (D : Rat)) (e2 : z.y = (N2 : Rat) / (D : Rat))
    {L : Ln} {s : Int} (h5 : L.a.natAbs < 2 ^ (4 * m + 1)) (h6 : L.b.natAbs < 2 ^ (4 * m + 1)) (h7 : L.c.natAbs < 2 ^ (4 * m + 1)) (e : ∀ z : V2, (s : Rat) * tn (pv a) (pv b) z = (L.a : Rat) * z.x + (L.b : Rat) * z.y + (L.c : Rat)) :
    ∃ U : Int, U.natAbs < 2 ^ (4 * m + M + 3) ∧ (s : Rat) * tn (pv a) (pv b) z * (D : Rat) = (U : Rat) := by
  have dr : (D : Rat) ≠ 0 := fun q => d0 (int_zero q)
  refine ⟨L.a * N1 + L.b * N2 + L.c * D, ?_, ?_⟩
  · have := add3_lt (mul_lt h5 h1) (mul_lt h6 h2) (mul_lt h7 h3)
    rw [show 4 * m + M + 3 = 4 * m + 1 + M + 2 by omega]; exact this
  · rw [e z, e1, e2, Rat.intCast_add, Rat.intCast_add, Rat.intCast_mul, Rat.intCast_mul, Rat.intCast_mul]
    have q1 : (N1 : Rat) / (D : Rat) * (D : Rat) = N1 := Rat.div_mul_cancel dr
    have q2 : (N2 : Rat) / (D : Rat) * (D : Rat) = N2 := Rat.div_mul_cancel dr
    generalize (N1 : Rat) / (D : Rat) = x at *
    generalize (N2 : Rat) / (D : Rat) = y at *
    grind
theorem turn_vt {m M : Nat} {a b c : P} (oa : OkP a) (ob : OkP b) (oc : OkP c) (za : SzP m a) (zb : SzP m b) (zc : Vt M (pv c)) : Sz (4 * m + M + 3) (Kzq1.turn a b c) := by
  obtain ⟨L, s, s0, s1, h5, h6, h7, e⟩ := line_of oa ob za zb
  obtain ⟨N1, N2, D, d0, h1, h2, h3, e1, e2⟩ := zc
  obtain ⟨U, u1, u2⟩ := off_of oa ob za zb h1 h2 h3 d0 e1 e2 h5 h6 h7 e
  have n0 : s * D ≠ 0 := Int.mul_ne_zero s0 d0
  refine sz_of (N := U) (D := s * D) (turn_ok oa ob oc) n0 u1 ?_ ?_
  · have := mul_lt s1 h3
    exact Nat.lt_of_lt_of_le this (Nat.pow_le_pow_right (by omega) (by omega))
  · rw [val_tn oa ob oc]
    refine rat_div (fun q => n0 (int_zero q)) ?_
    rw [← u2, Rat.intCast_mul]; grind
/-- the share at which a side crosses a line -/
theorem share_vt {m M : Nat} {a b p q : P} (oa : OkP a) (ob : OkP b) (op : OkP p) (oq : OkP q) (za : SzP m a) (zb : SzP m b) (zp : Vt M (pv p)) (zq : Vt M (pv q)) (h : (Kzq1.sub (Kzq1.turn a b p) (Kzq1.turn a b q)).n ≠ 0) :
    Sz (4 * m + 2 * M + 4) (Kzq1.div (Kzq1.turn a b p) (Kzq1.sub (Kzq1.turn a b p) (Kzq1.turn a b q))) := by
  obtain ⟨L, s, s0, s1, h5, h6, h7, e⟩ := line_of oa ob za zb
  obtain ⟨N1, N2, D, d0, h1, h2, h3, e1, e2⟩ := zp
  obtain ⟨N1', N2', D', d0', h1', h2', h3', e1', e2'⟩ := zq
  obtain ⟨U, u1, u2⟩ := off_of oa ob za zb h1 h2 h3 d0 e1 e2 h5 h6 h7 e
  obtain ⟨W, w1, w2⟩ := off_of oa ob za zb h1' h2' h3' d0' e1' e2' h5 h6 h7 e
  have ou := turn_ok oa ob op
  have ov := turn_ok oa ob oq
  have od := sub_ok ou ov
  have vn : val (Kzq1.sub (Kzq1.turn a b p) (Kzq1.turn a b q)) ≠ 0 := fun q => h ((n_zero_iff od).mpr q)
  have sr : (s : Rat) ≠ 0 := fun q => s0 (int_zero q)
  have dr : (D : Rat) ≠ 0 := fun q => d0 (int_zero q)
  have dr' : (D' : Rat) ≠ 0 := fun q => d0' (int_zero q)
  have vd := val_sub ou ov
  rw [val_tn oa ob op, val_tn oa ob oq] at vd
  -- U D' - W D is s D D' times the difference
  have key : ((U * D' - W * D : Int) : Rat) = (s : Rat) * (D : Rat) * (D' : Rat) * (tn (pv a) (pv b) (pv p) - tn (pv a) (pv b) (pv q)) := by
    rw [Rat.intCast_sub, Rat.intCast_mul, Rat.intCast_mul, ← u2, ← w2]; grind
  have n0 : U * D' - W * D ≠ 0 := fun z => by
    have z : ((U * D' - W * D : Int) : Rat) = 0 := by rw [z]; rfl
    rw [key, ← vd] at z
    rcases Rat.mul_eq_zero.mp z with z | z
    · rcases Rat.mul_eq_zero.mp z with z | z
      · rcases Rat.mul_eq_zero.mp z with z | z
        · exact sr z
        · exact dr z
      · exact dr' z
    · exact vn z
  refine sz_of (N := U * D') (D := U * D' - W * D) (div_ok ou od vn) n0 ?_ ?_ ?_
  · have := mul_lt u1 h3'
    exact Nat.lt_of_lt_of_le this (Nat.pow_le_pow_right (by omega) (by omega))
  · have := cross_lt (i := U) (j := D') (k := -W) (l := D) (a := 4 * m + M + 3) (b := M)
    have a1 := mul_lt u1 h3'
    have a2 := mul_lt w1 h3
    have e : 2 ^ (4 * m + 2 * M + 4) = 2 ^ (4 * m + M + 3 + M) + 2 ^ (4 * m + M + 3 + M) := by
      rw [show 4 * m + 2 * M + 4 = 4 * m + M + 3 + M + 1 by omega, Nat.pow_succ]; omega
    omega
  · refine rat_div (fun q => n0 (int_zero q)) ?_
    rw [key, val_div ou od vn, vd, val_tn oa ob op, Rat.intCast_mul, ← u2]
    rw [vd] at vn
    have c := Rat.div_mul_cancel (a := tn (pv a) (pv b) (pv p)) vn
    generalize tn (pv a) (pv b) (pv p) / (tn (pv a) (pv b) (pv p) - tn (pv a) (pv b) (pv q)) = t at *
    generalize tn (pv a) (pv b) (pv p) - tn (pv a) (pv b) (pv q) = d at *
    grind
/-- where two lines cross -/
theorem Vt.meet {k j : Nat} {L M : Ln} (hL : L.Sz k) (hM : M.Sz j) {v : V2} (o1 : L.On v) (o2 : M.On v) (hD : L.a * M.b - M.a * L.b ≠ 0) : Vt (k + j + 1) v := by
  have bd : ∀ {a b c d : Int}, a.natAbs < 2 ^ k → b.natAbs < 2 ^ j → c.natAbs < 2 ^ j → d.natAbs < 2 ^ k → (a * b - c * d).natAbs < 2 ^ (k + j + 1) := fun {a b c d} h1 h2 h3 h4 => by
    have := cross_lt (i := a) (j := b) (k := -c) (l := d) (a := k) (b := j) h1 h2 (by rw [Int.natAbs_neg]; exact h3) h4
    rw [Int.neg_mul] at this
    exact this
  have bd2 : ∀ {a b c d : Int}, a.natAbs < 2 ^ j → b.natAbs < 2 ^ k → c.natAbs < 2 ^ k → d.natAbs < 2 ^ j → (a * b - c * d).natAbs < 2 ^ (k + j + 1) := fun {a b c d} h1 h2 h3 h4 => by
    have := cross_lt (i := a) (j := b) (k := -c) (l := d) (a := j) (b := k) h1 h2 (by rw [Int.natAbs_neg]; exact h3) h4
    rw [Int.neg_mul, Nat.add_comm j k] at this
    exact this
  have dR : ((L.a * M.b - M.a * L.b : Int) : Rat) ≠ 0 := fun q => hD (int_zero q)
  unfold Ln.On at o1 o2
  refine ⟨L.b * M.c - M.b * L.c, M.a * L.c - L.a * M.c, L.a * M.b - M.a * L.b, hD, bd hL.b hM.c hM.b hL.c, bd2 hM.a hL.c hL.a hM.c, bd hL.a hM.b hM.a hL.b, rat_div dR ?_, rat_div dR ?_⟩
  · rw [Rat.intCast_sub, Rat.intCast_sub, Rat.intCast_mul, Rat.intCast_mul, Rat.intCast_mul, Rat.intCast_mul]
    grind
  · rw [Rat.intCast_sub, Rat.intCast_sub, Rat.intCast_mul, Rat.intCast_mul, Rat.intCast_mul, Rat.intCast_mul]
    grind
/-- a side that crosses a line isn't along it -/
theorem not_along {L M : Ln} {p q : V2} (nL : L.a ≠ 0 ∨ L.b ≠ 0) (hp : L.On p) (hq : L.On q) (c : (M.a : Rat) * p.x + (M.b : Rat) * p.y + (M.c : Rat) ≠ (M.a : Rat) * q.x + (M.b : Rat) * q.y + (M.c : Rat)) : L.a * M.b - M.a * L.b ≠ 0 := by
  intro z
  have z : ((L.a * M.b - M.a * L.b : Int) : Rat) = 0 := by rw [z]; rfl
  rw [Rat.intCast_sub, Rat.intCast_mul, Rat.intCast_mul] at z
  have nL : (L.a : Rat) ≠ 0 ∨ (L.b : Rat) ≠ 0 := by
    rcases nL with n | n
    · exact .inl fun q => n (int_zero q)
    · exact .inr fun q => n (int_zero q)
  unfold Ln.On at hp hq
  refine c ?_
  generalize (L.a : Rat) = a1 at *
  generalize (L.b : Rat) = b1 at *
  generalize (M.a : Rat) = a2 at *
  generalize (M.b : Rat) = b2 at *
  have d1 : a1 * (p.x - q.x) + b1 * (p.y - q.y) = 0 := by grind
  have r1 : a1 * (a2 * (p.x - q.x) + b2 * (p.y - q.y)) = 0 := by
    have : a1 * (a2 * (p.x - q.x) + b2 * (p.y - q.y)) = a2 * (a1 * (p.x - q.x) + b1 * (p.y - q.y)) + (a1 * b2 - a2 * b1) * (p.y - q.y) := by grind
    rw [this, d1, z]; grind
  have r2 : b1 * (a2 * (p.x - q.x) + b2 * (p.y - q.y)) = 0 := by
    have : b1 * (a2 * (p.x - q.x) + b2 * (p.y - q.y)) = b2 * (a1 * (p.x - q.x) + b1 * (p.y - q.y)) - (a1 * b2 - a2 * b1) * (p.x - q.x) := by grind
    rw [this, d1, z]; grind
  have : a2 * (p.x - q.x) + b2 * (p.y - q.y) = 0 := by
    rcases nL with n | n
    · exact (Rat.mul_eq_zero.mp r1).resolve_left n
    · exact (Rat.mul_eq_zero.mp r2).resolve_left n
  grind
/-- the difference of two corners -/
theorem diff_sz {M : Nat} {q : Q} (ok : Ok q) {x y : V2} (hx : Vt M x) (hy : Vt M y) (e : val q = x.x - y.x ∨ val q = x.y - y.y) : Sz (2 * M + 1) q := by
  obtain ⟨N1, N2, D, d0, h1, h2, h3, e1, e2⟩ := hx
  obtain ⟨N1', N2', D', d0', h1', h2', h3', e1', e2'⟩ := hy
  have dr : (D : Rat) ≠ 0 := fun q => d0 (int_zero q)
  have dr' : (D' : Rat) ≠ 0 := fun q => d0' (int_zero q)
  have n0 := Int.mul_ne_zero d0 d0'
  have bd : ∀ {a b c d : Int}, a.natAbs < 2 ^ M → b.natAbs < 2 ^ M → c.natAbs < 2 ^ M → d.natAbs < 2 ^ M → (a * b - c * d).natAbs < 2 ^ (2 * M + 1) := fun {a b c d} h1 h2 h3 h4 => by
    have := cross_lt (i := a) (j := b) (k := -c) (l := d) (a := M) (b := M) h1 h2 (by rw [Int.natAbs_neg]; exact h3) h4
    rw [Int.neg_mul] at this
    rw [show 2 * M + 1 = M + M + 1 by omega]; exact this
  have dd : (D * D').natAbs < 2 ^ (2 * M + 1) := Nat.lt_of_lt_of_le (mul_lt h3 h3') (Nat.pow_le_pow_right (by omega) (by omega))
  have nr : ((D * D' : Int) : Rat) ≠ 0 := fun q => n0 (int_zero q)
  have q1 : x.x * (D : Rat) = N1 := by rw [e1, Rat.div_mul_cancel dr]
  have q2 : x.y * (D : Rat) = N2 := by rw [e2, Rat.div_mul_cancel dr]
  have q3 : y.x * (D' : Rat) = N1' := by rw [e1', Rat.div_mul_cancel dr']
  have q4 : y.y * (D' : Rat) = N2' := by rw [e2', Rat.div_mul_cancel dr']
  rcases e with e | e
  · refine sz_of (N := N1 * D' - N1' * D) (D := D * D') ok n0 (bd h1 h3' h1' h3) dd (rat_div nr ?_)
    rw [e, Rat.intCast_sub, Rat.intCast_mul, Rat.intCast_mul, Rat.intCast_mul, ← q1, ← q3]; grind
  · refine sz_of (N := N2 * D' - N2' * D) (D := D * D') ok n0 (bd h2 h3' h2' h3) dd (rat_div nr ?_)
    rw [e, Rat.intCast_sub, Rat.intCast_mul, Rat.intCast_mul, Rat.intCast_mul, ← q2, ← q4]; grind
end Sc
namespace Sc
open Kzq1 (Q P)
/-- what a cut's numbers stay below -/
structure LcH (a b : P) (l : List P) (F S W : Nat) : Prop where
  off : ∀ p ∈ l, Sz F (Kzq1.turn a b p)
  cr : ∀ k, k < l.length → (Kzq1.turn a b (Kzq1.at0 l (k + l.length - 1))).n * (Kzq1.turn a b (Kzq1.at0 l k)).n < 0 →
    Sz S (Kzq1.div (Kzq1.turn a b (Kzq1.at0 l (k + l.length - 1))) (Kzq1.sub (Kzq1.turn a b (Kzq1.at0 l (k + l.length - 1))) (Kzq1.turn a b (Kzq1.at0 l k)))) ∧
    SzP W (Kzq1.times (Kzq1.div (Kzq1.turn a b (Kzq1.at0 l (k + l.length - 1))) (Kzq1.sub (Kzq1.turn a b (Kzq1.at0 l (k + l.length - 1))) (Kzq1.turn a b (Kzq1.at0 l k)))) (Kzq1.less (Kzq1.at0 l k) (Kzq1.at0 l (k + l.length - 1))))
theorem opp_sign {x y : Int} (h : x * y < 0) : (0 < x ∧ y < 0) ∨ (x < 0 ∧ 0 < y) := by
  rcases Int.lt_trichotomy x 0 with k | k | k
  · right
    refine ⟨k, Int.not_le.mp fun n => ?_⟩
    have := Int.mul_nonneg_of_nonpos_of_nonpos (Int.le_of_lt k) n
    omega
  · rw [k, Int.zero_mul] at h; omega
  · left
    refine ⟨k, Int.not_le.mp fun n => ?_⟩
    have := Int.mul_nonneg (Int.le_of_lt k) n
    omega
theorem crosses_of {a b p q : P} (oa : OkP a) (ob : OkP b) (op : OkP p) (oq : OkP q) (h : (Kzq1.turn a b p).n * (Kzq1.turn a b q).n < 0) : crosses (pv a) (pv b) (pv p) (pv q) := by
  have su := n_sign (turn_ok oa ob op)
  have sv := n_sign (turn_ok oa ob oq)
  rw [val_tn oa ob op] at su
  rw [val_tn oa ob oq] at sv
  unfold crosses
  rw [← su.1, ← su.2, ← sv.1, ← sv.2]
  exact opp_sign h
theorem sub_ne0 {u v : Q} (ou : Ok u) (ov : Ok v) (h : u.n * v.n < 0) : (Kzq1.sub u v).n ≠ 0 := fun e => by
  have z := (n_zero_iff (sub_ok ou ov)).mp e
  rw [val_sub ou ov] at z
  have : u = v := val_inj ou ov (by grind)
  rw [this] at h
  have := opp_sign h
  omega
/-- where a side of whole-number lines crosses another -/
theorem onLine_vt {k m : Nat} {a b p q : P} (oa : OkP a) (ob : OkP b) (op : OkP p) (oq : OkP q) (za : SzP m a) (zb : SzP m b) {L : Ln} (hL : L.Sz k) (lp : L.On (pv p)) (lq : L.On (pv q)) (c : crosses (pv a) (pv b) (pv p) (pv q)) : Vt (k + (4 * m + 1) + 1) (pv (Kzq1.onLine (a, b) p q)) := by
  obtain ⟨M, s, s0, s1, h5, h6, h7, e⟩ := line_of oa ob za zb
  have sr : (s : Rat) ≠ 0 := fun q => s0 (int_zero q)
  have nab : pv a ≠ pv b := fun z => by
    unfold crosses at c
    rw [z, tn_aa, tn_aa] at c
    rcases c with c | c
    · exact absurd c.1 (by decide)
    · exact absurd c.1 (by decide)
  obtain ⟨o, ex⟩ := onLine_is oa ob op oq c
  have x0 : tn (pv a) (pv b) (pv (Kzq1.onLine (a, b) p q)) = 0 := by
    rw [ex]
    have k1 := (xp_on c).1
    rcases k1.z with z | z
    · have := (xp_on c).2; grind
    · exact z
  have onM : M.On (pv (Kzq1.onLine (a, b) p q)) := by
    unfold Ln.On
    rw [← e, x0, Rat.mul_zero]
  have onL : L.On (pv (Kzq1.onLine (a, b) p q)) := by
    rw [ex]
    exact lp.mx lq _
  have ne : (M.a : Rat) * (pv p).x + (M.b : Rat) * (pv p).y + (M.c : Rat) ≠ (M.a : Rat) * (pv q).x + (M.b : Rat) * (pv q).y + (M.c : Rat) := fun z => by
    rw [← e, ← e] at z
    have : (s : Rat) * (tn (pv a) (pv b) (pv p) - tn (pv a) (pv b) (pv q)) = 0 := by grind
    have := (Rat.mul_eq_zero.mp this).resolve_left sr
    unfold crosses at c
    grind
  have hD := not_along hL.n lp lq ne
  have hM : M.Sz (4 * m + 1) := by
    refine ⟨h5, h6, h7, ?_⟩
    refine Classical.byContradiction fun no => ?_
    have a0 : M.a = 0 := Classical.byContradiction fun q => no (.inl q)
    have b0 : M.b = 0 := Classical.byContradiction fun q => no (.inr q)
    rw [a0, b0, Int.mul_zero, Int.zero_mul] at hD
    exact hD rfl
  exact Vt.meet hL hM onL onM hD
theorem lined_side {k : Nat} {l : List P} (h : Lined k (l.map pv)) (n : Nat) (hn : n < l.length) : ∃ L : Ln, L.Sz k ∧ L.On (pv (Kzq1.at0 l (n + l.length - 1))) ∧ L.On (pv (Kzq1.at0 l n)) := by
  obtain ⟨L, a, b, c⟩ := h (n + l.length - 1)
  rw [at0_pv] at b c
  have e : Kzq1.at0 l (n + l.length - 1 + 1) = Kzq1.at0 l n := by
    rw [show n + l.length - 1 + 1 = n + l.length by omega]
    unfold Kzq1.at0
    rw [Nat.add_mod_right]
  rw [e] at c
  exact ⟨L, a, b, c⟩
theorem at0_in {l : List P} (i : Nat) (h : 0 < l.length) : Kzq1.at0 l i ∈ l := by
  unfold Kzq1.at0
  have hi : i % l.length < l.length := Nat.mod_lt _ h
  rw [List.getD_eq_getElem?_getD, List.getElem?_eq_getElem hi]
  exact List.getElem_mem _
theorem lch_of {k m M : Nat} {a b : P} {l : List P} (oa : OkP a) (ob : OkP b) (ol : OkL l) (za : SzP m a) (zb : SzP m b) (hL : Lined k (l.map pv)) (hV : ∀ p ∈ l, Vt M (pv p)) (hk : k + (4 * m + 1) + 1 ≤ M) : LcH a b l (4 * m + M + 3) (4 * m + 2 * M + 4) (2 * M + 1) := by
  refine ⟨fun p hp => turn_vt oa ob (ol p hp) za zb (hV p hp), fun n hn c => ?_⟩
  have l0 : 0 < l.length := by omega
  have op := at0_ok ol (n + l.length - 1)
  have oq := at0_ok ol n
  have vp := hV _ (at0_in (l := l) (n + l.length - 1) l0)
  have vq := hV _ (at0_in (l := l) n l0)
  have ou := turn_ok oa ob op
  have ov := turn_ok oa ob oq
  have h0 := sub_ne0 ou ov c
  refine ⟨share_vt oa ob op oq za zb vp vq h0, ?_⟩
  obtain ⟨L, L1, L2, L3⟩ := lined_side hL n hn
  have vx := (onLine_vt oa ob op oq za zb L1 L2 L3 (crosses_of oa ob op oq c)).mono hk
  have od := sub_ok ou ov
  have oq' := div_ok ou od (fun e => h0 ((n_zero_iff od).mpr e))
  have ot := times_ok oq' (less_ok oq op)
  have ex : Kzq1.onLine (a, b) (Kzq1.at0 l (n + l.length - 1)) (Kzq1.at0 l n) = Kzq1.plus (Kzq1.at0 l (n + l.length - 1)) (Kzq1.times (Kzq1.div (Kzq1.turn a b (Kzq1.at0 l (n + l.length - 1))) (Kzq1.sub (Kzq1.turn a b (Kzq1.at0 l (n + l.length - 1))) (Kzq1.turn a b (Kzq1.at0 l n)))) (Kzq1.less (Kzq1.at0 l n) (Kzq1.at0 l (n + l.length - 1)))) := rfl
  rw [ex] at vx
  have px' := px_plus op ot
  have py' := py_plus op ot
  exact ⟨diff_sz ot.1 vx vp (.inl (by show _ = px _ - px _; rw [px']; show px _ = _; grind)), diff_sz ot.2 vx vp (.inr (by show _ = py _ - py _; rw [py']; show py _ = _; grind))⟩
/-- the cuts so far: none is left, or a piece of that length -/
theorem pref_any {k m M : Nat} {p q : List P} (hp : Piece p) (hq : Piece q) (zq : ∀ z ∈ q, SzP m z) (hL : Lined k (p.map pv)) (hV : ∀ z ∈ p, Vt M (pv z)) (hk : k + (4 * m + 1) + 1 ≤ M) (hm : 4 * m + 1 ≤ k) :
    ∀ i, i ≤ q.length → prefP p q i = [] ∨ (Piece (prefP p q i) ∧ Lined k ((prefP p q i).map pv) ∧ (∀ z ∈ prefP p q i, Vt M (pv z)) ∧ ∀ z, RgP (prefP p q i) z → RgP p z ∧ ∀ j ∈ List.range i, 0 ≤ tn (pv (Kzq1.at0 q (j + q.length - 1))) (pv (Kzq1.at0 q j)) z) := by
  intro i
  have q0 : 0 < q.length := by have := hq.three; omega
  induction i with
  | zero => intro _; exact .inr ⟨hp, hL, hV, fun z h => ⟨h, fun j hj => by simp at hj⟩⟩
  | succ i ih =>
    intro hi
    rw [prefP_more]
    rcases ih (by omega) with e | ⟨h, l, v, rg⟩
    · left
      rw [e]; rfl
    · generalize prefP p q i = c at *
      by_cases kept : 3 ≤ (keptP (Kzq1.at0 q (i + q.length - 1)) (Kzq1.at0 q i) c).length
      · right
        have el : leftP (Kzq1.at0 q (i + q.length - 1)) (Kzq1.at0 q i) c = keptP (Kzq1.at0 q (i + q.length - 1)) (Kzq1.at0 q i) c := by unfold leftP; rw [if_pos kept]
        rw [el]
        have h3 : 3 ≤ (c.map pv).length := by rw [List.length_map]; exact h.three
        have oa := at0_ok hq.ok (i + q.length - 1)
        have ob := at0_ok hq.ok i
        have za := zq _ (at0_in (l := q) (i + q.length - 1) q0)
        have zb := zq _ (at0_in (l := q) i q0)
        obtain ⟨ok, e⟩ := kept_is oa ob h.ok
        have T := cut_tri (s := pv (Kzq1.at0 q (i + q.length - 1))) (t := pv (Kzq1.at0 q i)) h.tri h3
        have hc : 3 ≤ (cut2 (pv (Kzq1.at0 q (i + q.length - 1))) (pv (Kzq1.at0 q i)) (c.map pv)).length := by rw [← e, List.length_map]; exact kept
        have r := cut_rg h.tri h3 hc
        -- the side's line
        have nab : pv (Kzq1.at0 q (i + q.length - 1)) ≠ pv (Kzq1.at0 q i) := fun z => by
          have := hq.tri.corner (by rw [List.length_map]; exact hq.three) (j := i) (by rw [List.length_map]; omega)
          rw [at0_pv, at0_pv, at0_pv, List.length_map, z, tn_aa] at this
          exact absurd this (by decide)
        obtain ⟨L, L1, L2⟩ := line_ln oa ob za zb nab
        have L1' : L.Sz k := by
          have pw : 2 ^ (4 * m + 1) ≤ 2 ^ k := Nat.pow_le_pow_right (by omega) hm
          exact ⟨Nat.lt_of_lt_of_le L1.a pw, Nat.lt_of_lt_of_le L1.b pw, Nat.lt_of_lt_of_le L1.c pw, L1.n⟩
        have ll := l.cut (s := pv (Kzq1.at0 q (i + q.length - 1))) (t := pv (Kzq1.at0 q i)) (by omega) (by omega) L L1' (fun z hz => (L2 z).mpr hz)
        rw [← e] at T r ll
        refine ⟨⟨ok, T, kept⟩, ll, fun z hz => ?_, fun z hz => ?_⟩
        · unfold keptP at hz
          obtain ⟨n, hn, hz⟩ := List.mem_flatMap.mp hz
          have hn := List.mem_range.mp hn
          rcases List.mem_append.mp hz with hz | hz
          · unfold xP at hz
            by_cases cc : (Kzq1.turn (Kzq1.at0 q (i + q.length - 1)) (Kzq1.at0 q i) (Kzq1.at0 c (n + c.length - 1))).n * (Kzq1.turn (Kzq1.at0 q (i + q.length - 1)) (Kzq1.at0 q i) (Kzq1.at0 c n)).n < 0
            · rw [if_pos cc] at hz
              simp at hz
              subst hz
              have op := at0_ok h.ok (n + c.length - 1)
              have oq := at0_ok h.ok n
              obtain ⟨L', L1', L2', L3'⟩ := lined_side l n hn
              exact (onLine_vt oa ob op oq za zb L1' L2' L3' (crosses_of oa ob op oq cc)).mono hk
            · rw [if_neg cc] at hz; simp at hz
          · unfold kP at hz
            split at hz
            · simp at hz
              subst hz
              exact v _ (at0_in _ (by omega))
            · simp at hz
        · obtain ⟨a1, a2⟩ := (r z).mp hz
          obtain ⟨b1, b2⟩ := rg z a1
          refine ⟨b1, fun j hj => ?_⟩
          have hj := List.mem_range.mp hj
          by_cases cj : j = i
          · rw [cj]; exact a2
          · exact b2 j (List.mem_range.mpr (by omega))
      · left
        unfold leftP
        rw [if_neg kept]
/-- the program's cuts leave none where the two have no piece in common -/
theorem common_dead {p q : List P} (hp : Piece p) (hq : Piece q) (h : ¬ Meets p q) : commonP p q = [] := by
  -- some length for all of them
  have q0 : 0 < q.length := by have := hq.three; omega
  have key : ∀ i, i ≤ q.length → prefP p q i = [] ∨ (Piece (prefP p q i) ∧ ∀ z, RgP (prefP p q i) z → RgP p z ∧ ∀ j ∈ List.range i, 0 ≤ tn (pv (Kzq1.at0 q (j + q.length - 1))) (pv (Kzq1.at0 q j)) z) := by
    intro i
    induction i with
    | zero => intro _; exact .inr ⟨hp, fun z h => ⟨h, fun j hj => by simp at hj⟩⟩
    | succ i ih =>
      intro hi
      rw [prefP_more]
      rcases ih (by omega) with e | ⟨h, rg⟩
      · left
        rw [e]; rfl
      · generalize prefP p q i = c at *
        by_cases kept : 3 ≤ (keptP (Kzq1.at0 q (i + q.length - 1)) (Kzq1.at0 q i) c).length
        · right
          have el : leftP (Kzq1.at0 q (i + q.length - 1)) (Kzq1.at0 q i) c = keptP (Kzq1.at0 q (i + q.length - 1)) (Kzq1.at0 q i) c := by unfold leftP; rw [if_pos kept]
          rw [el]
          have h3 : 3 ≤ (c.map pv).length := by rw [List.length_map]; exact h.three
          obtain ⟨ok, e⟩ := kept_is (at0_ok hq.ok (i + q.length - 1)) (at0_ok hq.ok i) h.ok
          have T := cut_tri (s := pv (Kzq1.at0 q (i + q.length - 1))) (t := pv (Kzq1.at0 q i)) h.tri h3
          have hc : 3 ≤ (cut2 (pv (Kzq1.at0 q (i + q.length - 1))) (pv (Kzq1.at0 q i)) (c.map pv)).length := by rw [← e, List.length_map]; exact kept
          have r := cut_rg h.tri h3 hc
          rw [← e] at T r
          refine ⟨⟨ok, T, kept⟩, fun z hz => ?_⟩
          obtain ⟨a1, a2⟩ := (r z).mp hz
          obtain ⟨b1, b2⟩ := rg z a1
          refine ⟨b1, fun j hj => ?_⟩
          have hj := List.mem_range.mp hj
          by_cases cj : j = i
          · rw [cj]; exact a2
          · exact b2 j (List.mem_range.mpr (by omega))
        · left
          unfold leftP
          rw [if_neg kept]
  rcases key q.length (Nat.le_refl _) with e | ⟨pc, rg⟩
  · exact e
  · exfalso
    refine h ?_
    obtain ⟨z, hz, k⟩ := within pc.tri (by rw [List.length_map]; exact pc.three)
    refine ⟨z, (rg z hz).1, (back_sides q0 (F := fun a b => 0 < tn a b z)).mp fun j hj => ?_⟩
    refine k _ _ ?_ fun v hv => (rg v (pc.tri.mem_rg hv)).2 j hj
    intro e
    have := hq.tri.corner (by rw [List.length_map]; exact hq.three) (j := j) (by rw [List.length_map]; exact List.mem_range.mp hj)
    rw [at0_pv, at0_pv, at0_pv, List.length_map, e, tn_aa] at this
    exact absurd this (by decide)
end Sc
namespace Sc
open Kzq1 (Q P)
/-! Points as three whole numbers over one bottom -/
structure Tr where
  x : Int
  y : Int
  z : Int
def tv (t : Tr) : V2 := ⟨(t.x : Rat) / (t.z : Rat), (t.y : Rat) / (t.z : Rat)⟩
def lineT (a b : Tr) : Tr := ⟨a.y * b.z - a.z * b.y, a.z * b.x - a.x * b.z, a.x * b.y - a.y * b.x⟩
def offT (l c : Tr) : Int := l.x * c.x + l.y * c.y + l.z * c.z
def SzT (m : Nat) (t : Tr) : Prop := t.x.natAbs < 2 ^ m ∧ t.y.natAbs < 2 ^ m ∧ t.z.natAbs < 2 ^ m
theorem SzT.mono {j k : Nat} {t : Tr} (h : SzT j t) (hk : j ≤ k) : SzT k t :=
  have p : 2 ^ j ≤ 2 ^ k := Nat.pow_le_pow_right (by omega) hk
  ⟨Nat.lt_of_lt_of_le h.1 p, Nat.lt_of_lt_of_le h.2.1 p, Nat.lt_of_lt_of_le h.2.2 p⟩
theorem cast_pos {z : Int} (h : 0 < z) : (0 : Rat) < (z : Rat) := by
  have : ((0 : Int) : Rat) < (z : Rat) := Rat.intCast_lt_intCast.mpr h
  simpa using this
theorem tv_x {t : Tr} (h : 0 < t.z) : (t.x : Rat) = (tv t).x * (t.z : Rat) := by
  unfold tv
  exact (Rat.div_mul_cancel (Rat.ne_of_gt (cast_pos h))).symm
theorem tv_y {t : Tr} (h : 0 < t.z) : (t.y : Rat) = (tv t).y * (t.z : Rat) := by
  unfold tv
  exact (Rat.div_mul_cancel (Rat.ne_of_gt (cast_pos h))).symm
theorem line_at {a b : Tr} (ha : 0 < a.z) (hb : 0 < b.z) (v : V2) : ((lineT a b).x : Rat) * v.x + ((lineT a b).y : Rat) * v.y + ((lineT a b).z : Rat) = (a.z : Rat) * (b.z : Rat) * tn (tv a) (tv b) v := by
  unfold lineT
  dsimp only
  simp only [Rat.intCast_sub, Rat.intCast_mul]
  rw [tv_x ha, tv_y ha, tv_x hb, tv_y hb]
  unfold tn
  generalize (tv a).x = ax
  generalize (tv a).y = ay
  generalize (tv b).x = bx
  generalize (tv b).y = by'
  generalize (a.z : Rat) = az
  generalize (b.z : Rat) = bz
  grind
theorem off_at {l c : Tr} (hc : 0 < c.z) : ((offT l c : Int) : Rat) = ((l.x : Rat) * (tv c).x + (l.y : Rat) * (tv c).y + (l.z : Rat)) * (c.z : Rat) := by
  unfold offT
  simp only [Rat.intCast_add, Rat.intCast_mul]
  rw [tv_x hc, tv_y hc]
  grind
theorem off_tn {a b c : Tr} (ha : 0 < a.z) (hb : 0 < b.z) (hc : 0 < c.z) : ((offT (lineT a b) c : Int) : Rat) = ((a.z : Rat) * (b.z : Rat)) * (c.z : Rat) * tn (tv a) (tv b) (tv c) := by
  rw [off_at hc, line_at ha hb]
  grind
theorem off_pos {a b c : Tr} (ha : 0 < a.z) (hb : 0 < b.z) (hc : 0 < c.z) : (0 < offT (lineT a b) c ↔ 0 < tn (tv a) (tv b) (tv c)) ∧ (offT (lineT a b) c < 0 ↔ tn (tv a) (tv b) (tv c) < 0) := by
  have e := off_tn ha hb hc
  have k : 0 < ((a.z : Rat) * (b.z : Rat)) * (c.z : Rat) := Rat.mul_pos (Rat.mul_pos (cast_pos ha) (cast_pos hb)) (cast_pos hc)
  generalize ((a.z : Rat) * (b.z : Rat)) * (c.z : Rat) = K at *
  generalize tn (tv a) (tv b) (tv c) = T at *
  generalize offT (lineT a b) c = o at *
  constructor
  · rw [← Rat.intCast_lt_intCast, e]
    show (0 : Rat) < _ ↔ _
    exact mul_p_iff k
  · rw [← Rat.intCast_lt_intCast, e]
    show _ < (0 : Rat) ↔ _
    constructor
    · intro h
      refine Rat.not_le.mp fun n => ?_
      have := Rat.mul_nonneg (Rat.le_of_lt k) n
      grind
    · intro h
      have := Rat.mul_pos k (show 0 < -T by grind)
      grind
/-- in lowest terms -/
def Low (t : Tr) : Prop := Nat.gcd (Nat.gcd t.z.natAbs t.x.natAbs) t.y.natAbs = 1
theorem Low.bound {t : Tr} (h : Low t) (hz : 0 < t.z) {N M D : Int} (hD : D ≠ 0) (e1 : (tv t).x = (N : Rat) / (D : Rat)) (e2 : (tv t).y = (M : Rat) / (D : Rat)) : t.x.natAbs ≤ N.natAbs ∧ t.y.natAbs ≤ M.natAbs ∧ t.z.natAbs ≤ D.natAbs := by
  have dr : (D : Rat) ≠ 0 := fun q => hD (int_zero q)
  have zr : (t.z : Rat) ≠ 0 := Rat.ne_of_gt (cast_pos hz)
  have f1 : D * t.x = N * t.z := by
    have : (D : Rat) * (t.x : Rat) = (N : Rat) * (t.z : Rat) := by
      rw [tv_x hz, e1]
      have := Rat.div_mul_cancel (a := (N : Rat)) dr
      grind
    rw [← Rat.intCast_mul, ← Rat.intCast_mul] at this
    exact Rat.intCast_inj.mp this
  have f2 : D * t.y = M * t.z := by
    have : (D : Rat) * (t.y : Rat) = (M : Rat) * (t.z : Rat) := by
      rw [tv_y hz, e2]
      have := Rat.div_mul_cancel (a := (M : Rat)) dr
      grind
    rw [← Rat.intCast_mul, ← Rat.intCast_mul] at this
    exact Rat.intCast_inj.mp this
  have dv : t.z.natAbs ∣ D.natAbs := by
    have g : Nat.gcd (Nat.gcd (D.natAbs * t.z.natAbs) (D.natAbs * t.x.natAbs)) (D.natAbs * t.y.natAbs) = D.natAbs := by
      rw [Nat.gcd_mul_left, Nat.gcd_mul_left, h, Nat.mul_one]
    rw [← g]
    refine Nat.dvd_gcd (Nat.dvd_gcd (Nat.dvd_mul_left _ _) ?_) ?_
    · rw [← Int.natAbs_mul, f1, Int.natAbs_mul]; exact Nat.dvd_mul_left _ _
    · rw [← Int.natAbs_mul, f2, Int.natAbs_mul]; exact Nat.dvd_mul_left _ _
  obtain ⟨k, hk⟩ := dv
  have k0 : 0 < k := Nat.pos_of_ne_zero fun e => hD (by rw [e, Nat.mul_zero] at hk; omega)
  have z0 : 0 < t.z.natAbs := by omega
  have n1 : N.natAbs = k * t.x.natAbs := by
    have : D.natAbs * t.x.natAbs = N.natAbs * t.z.natAbs := by rw [← Int.natAbs_mul, f1, Int.natAbs_mul]
    rw [hk, Nat.mul_assoc, Nat.mul_comm N.natAbs] at this
    exact (Nat.eq_of_mul_eq_mul_left z0 this).symm
  have n2 : M.natAbs = k * t.y.natAbs := by
    have : D.natAbs * t.y.natAbs = M.natAbs * t.z.natAbs := by rw [← Int.natAbs_mul, f2, Int.natAbs_mul]
    rw [hk, Nat.mul_assoc, Nat.mul_comm M.natAbs] at this
    exact (Nat.eq_of_mul_eq_mul_left z0 this).symm
  refine ⟨?_, ?_, ?_⟩
  · rw [n1]; exact Nat.le_mul_of_pos_left _ k0
  · rw [n2]; exact Nat.le_mul_of_pos_left _ k0
  · rw [hk]; exact Nat.le_mul_of_pos_right _ k0
/-- over_one_bottom -/
def trP (p : P) : Tr := ⟨p.x.n * ((p.y.d / Nat.gcd p.x.d p.y.d : Nat) : Int), p.y.n * ((p.x.d / Nat.gcd p.x.d p.y.d : Nat) : Int), (p.x.d : Int) * ((p.y.d / Nat.gcd p.x.d p.y.d : Nat) : Int)⟩
theorem trP_pos {p : P} (h : OkP p) : 0 < (trP p).z := by
  have hx := h.1.1
  have hy := h.2.1
  have hg : 0 < Nat.gcd p.x.d p.y.d := Nat.gcd_pos_of_pos_left _ hx
  have hq : 0 < p.y.d / Nat.gcd p.x.d p.y.d := Nat.div_pos (Nat.le_of_dvd hy (Nat.gcd_dvd_right _ _)) hg
  show 0 < (p.x.d : Int) * _
  exact Int.mul_pos (by omega) (by omega)
theorem trP_low {p : P} (h : OkP p) : Low (trP p) := by
  have hx := h.1.1
  have hy := h.2.1
  have hg : 0 < Nat.gcd p.x.d p.y.d := Nat.gcd_pos_of_pos_left _ hx
  obtain ⟨a, ea⟩ := Nat.gcd_dvd_left p.x.d p.y.d
  obtain ⟨b, eb⟩ := Nat.gcd_dvd_right p.x.d p.y.d
  have g1 := h.1.2
  have g2 := h.2.2
  have co : Nat.gcd a b = 1 := by
    have : Nat.gcd p.x.d p.y.d * Nat.gcd a b = Nat.gcd p.x.d p.y.d * 1 := by
      rw [← Nat.gcd_mul_left, ← ea, ← eb, Nat.mul_one]
    exact Nat.eq_of_mul_eq_mul_left hg this
  unfold Low trP
  generalize Nat.gcd p.x.d p.y.d = g at *
  have da : p.x.d / g = a := by rw [ea, Nat.mul_div_cancel_left _ hg]
  have db : p.y.d / g = b := by rw [eb, Nat.mul_div_cancel_left _ hg]
  dsimp only
  rw [da, db]
  simp only [Int.natAbs_mul, Int.natAbs_natCast]
  have d1 : Nat.gcd (Nat.gcd (p.x.d * b) (p.x.n.natAbs * b)) (p.y.n.natAbs * a) ∣ b := by
    have : Nat.gcd (p.x.d * b) (p.x.n.natAbs * b) = b := by
      rw [Nat.gcd_mul_right, Nat.gcd_comm, g1, Nat.one_mul]
    rw [this]
    exact Nat.gcd_dvd_left _ _
  have d2 : Nat.gcd (Nat.gcd (p.x.d * b) (p.x.n.natAbs * b)) (p.y.n.natAbs * a) ∣ a := by
    have e : p.x.d * b = p.y.d * a := by rw [ea, eb]; simp only [Nat.mul_assoc, Nat.mul_comm a b]
    have : Nat.gcd (p.y.d * a) (p.y.n.natAbs * a) = a := by
      rw [Nat.gcd_mul_right, Nat.gcd_comm, g2, Nat.one_mul]
    have k : Nat.gcd (Nat.gcd (p.x.d * b) (p.x.n.natAbs * b)) (p.y.n.natAbs * a) ∣ Nat.gcd (p.y.d * a) (p.y.n.natAbs * a) := by
      refine Nat.dvd_gcd ?_ (Nat.gcd_dvd_right _ _)
      rw [← e]
      exact Nat.dvd_trans (Nat.gcd_dvd_left _ _) (Nat.gcd_dvd_left _ _)
    rw [this] at k
    exact k
  have := Nat.dvd_gcd d2 d1
  rw [co] at this
  exact Nat.dvd_one.mp this
theorem tv_trP {p : P} (h : OkP p) : tv (trP p) = pv p := by
  have hx := h.1.1
  have hy := h.2.1
  have hg : 0 < Nat.gcd p.x.d p.y.d := Nat.gcd_pos_of_pos_left _ hx
  obtain ⟨a, ea⟩ := Nat.gcd_dvd_left p.x.d p.y.d
  obtain ⟨b, eb⟩ := Nat.gcd_dvd_right p.x.d p.y.d
  have zp := trP_pos h
  have zr := Rat.ne_of_gt (cast_pos zp)
  have ex : val p.x * ((p.x.d : Int) : Rat) = (p.x.n : Rat) := by
    rw [val_nd h.1]; exact Rat.div_mul_cancel (Rat.ne_of_gt (cast_pos (by omega)))
  have ey : val p.y * ((p.y.d : Int) : Rat) = (p.y.n : Rat) := by
    rw [val_nd h.2]; exact Rat.div_mul_cancel (Rat.ne_of_gt (cast_pos (by omega)))
  have k1 := tv_x zp
  have k2 := tv_y zp
  unfold trP at k1 k2 zr
  dsimp only at k1 k2 zr
  generalize hT : tv _ = T at k1 k2
  rw [show tv (trP p) = T from hT]
  generalize hgg : Nat.gcd p.x.d p.y.d = g at *
  have da : p.x.d / g = a := by rw [ea, Nat.mul_div_cancel_left _ hg]
  have db : p.y.d / g = b := by rw [eb, Nat.mul_div_cancel_left _ hg]
  rw [db] at k1
  rw [da, db] at k2
  rw [db] at zr
  have cx : ((p.x.d : Int) : Rat) = ((g : Int) : Rat) * ((a : Int) : Rat) := by
    rw [← Rat.intCast_mul]; congr 1; rw [ea]; simp
  have cy : ((p.y.d : Int) : Rat) = ((g : Int) : Rat) * ((b : Int) : Rat) := by
    rw [← Rat.intCast_mul]; congr 1; rw [eb]; simp
  rw [Rat.intCast_mul, Rat.intCast_mul, ← ex] at k1
  rw [Rat.intCast_mul, Rat.intCast_mul, ← ey] at k2
  rw [Rat.intCast_mul] at zr
  refine V2.ext' ?_ ?_
  · show T.x = val p.x
    have : (T.x - val p.x) * (((p.x.d : Int) : Rat) * ((b : Int) : Rat)) = 0 := by grind
    have := (Rat.mul_eq_zero.mp this).resolve_right zr
    grind
  · show T.y = val p.y
    have : (T.y - val p.y) * (((p.x.d : Int) : Rat) * ((b : Int) : Rat)) = 0 := by grind
    have := (Rat.mul_eq_zero.mp this).resolve_right zr
    grind
theorem trP_sz {p : P} {m : Nat} (s : SzP m p) : SzT (2 * m) (trP p) := by
  have dv : ∀ a g : Nat, a < 2 ^ m → a / g < 2 ^ m := fun a g h => Nat.lt_of_le_of_lt (Nat.div_le_self _ _) h
  have e : 2 * m = m + m := by omega
  unfold trP SzT
  dsimp only
  rw [e]
  refine ⟨mul_lt s.1.1 (by rw [Int.natAbs_natCast]; exact dv _ _ s.2.2), mul_lt s.2.1 (by rw [Int.natAbs_natCast]; exact dv _ _ s.1.2), mul_lt (by rw [Int.natAbs_natCast]; exact s.1.2) (by rw [Int.natAbs_natCast]; exact dv _ _ s.2.2)⟩
/-- point_from -/
def fromT (t : Tr) : P := ⟨mkI t.x t.z, mkI t.y t.z⟩
theorem fromT_is {t : Tr} (h : 0 < t.z) : OkP (fromT t) ∧ pv (fromT t) = tv t := by
  have z : t.z ≠ 0 := by omega
  refine ⟨⟨mkI_ok z, mkI_ok z⟩, V2.ext' ?_ ?_⟩
  · show val (mkI t.x t.z) = _
    rw [val_mkJ z]; rfl
  · show val (mkI t.y t.z) = _
    rw [val_mkJ z]; rfl
theorem fromT_sz {t : Tr} {m : Nat} (h : 0 < t.z) (s : SzT m t) : SzP m (fromT t) := ⟨mkI_sz (by omega) s.1 s.2.2, mkI_sz (by omega) s.2.1 s.2.2⟩
end Sc
namespace Sc
open Kzq1 (Q P)
/-! The cut on such points -/
def aT (l : List Tr) (i : Nat) : Tr := l.getD (i % l.length) ⟨0, 0, 1⟩
def gT (r u b : Int) : Int := ((Nat.gcd (Nat.gcd b.natAbs r.natAbs) u.natAbs : Nat) : Int)
def wT (a b u v : Int) : Int := a * (v.natAbs : Int) + b * (u.natAbs : Int)
/-- crossing -/
def xT (a b : Tr) (u v : Int) : Tr := ⟨wT a.x b.x u v / gT (wT a.x b.x u v) (wT a.y b.y u v) (wT a.z b.z u v), wT a.y b.y u v / gT (wT a.x b.x u v) (wT a.y b.y u v) (wT a.z b.z u v), wT a.z b.z u v / gT (wT a.x b.x u v) (wT a.y b.y u v) (wT a.z b.z u v)⟩
def xL (L a b : Tr) : List Tr := if offT L a * offT L b < 0 then [xT a b (offT L a) (offT L b)] else []
def kL (L a : Tr) : List Tr := if 0 ≤ offT L a then [a] else []
def keptT (L : Tr) (l : List Tr) (n : Nat) : List Tr := (List.range n).flatMap fun k => xL L (aT l (k + l.length - 1)) (aT l k) ++ kL L (aT l k)
theorem aT_tv (l : List Tr) (i : Nat) : tv (aT l i) = ac (l.map tv) i := by
  unfold aT ac
  rw [List.length_map, List.getD_eq_getElem?_getD, List.getD_eq_getElem?_getD, List.getElem?_map]
  cases l[i % l.length]? with
  | none =>
    show tv ⟨0, 0, 1⟩ = ⟨0, 0⟩
    exact V2.ext' (by decide +kernel) (by decide +kernel)
  | some x => rfl
def PosT (l : List Tr) : Prop := ∀ t ∈ l, 0 < t.z
theorem aT_pos {l : List Tr} (h : PosT l) (i : Nat) : 0 < (aT l i).z := by
  unfold aT
  rw [List.getD_eq_getElem?_getD]
  cases e : l[i % l.length]? with
  | none => decide
  | some x => exact h x (List.mem_of_getElem? e)
theorem div_gcd {r u b : Int} (hb : 0 < b) : 0 < gT r u b ∧ gT r u b ∣ r ∧ gT r u b ∣ u ∧ gT r u b ∣ b := by
  unfold gT
  refine ⟨?_, ?_, ?_, ?_⟩
  · have : 0 < Nat.gcd (Nat.gcd b.natAbs r.natAbs) u.natAbs := Nat.gcd_pos_of_pos_left _ (Nat.gcd_pos_of_pos_left _ (by omega))
    omega
  · exact Int.ofNat_dvd_left.mpr (Nat.dvd_trans (Nat.gcd_dvd_left _ _) (Nat.gcd_dvd_right _ _))
  · exact Int.ofNat_dvd_left.mpr (Nat.gcd_dvd_right _ _)
  · exact Int.ofNat_dvd_left.mpr (Nat.dvd_trans (Nat.gcd_dvd_left _ _) (Nat.gcd_dvd_left _ _))
/-- brought to lowest terms -/
theorem lowest {r u b : Int} (hb : 0 < b) : 0 < b / gT r u b ∧ Low ⟨r / gT r u b, u / gT r u b, b / gT r u b⟩ ∧ tv ⟨r / gT r u b, u / gT r u b, b / gT r u b⟩ = ⟨(r : Rat) / (b : Rat), (u : Rat) / (b : Rat)⟩ := by
  obtain ⟨g0, d1, d2, d3⟩ := div_gcd (r := r) (u := u) hb
  have gg : gT r u b = ((Nat.gcd (Nat.gcd b.natAbs r.natAbs) u.natAbs : Nat) : Int) := rfl
  obtain ⟨r', er⟩ := d1
  obtain ⟨u', eu⟩ := d2
  obtain ⟨b', eb⟩ := d3
  have b0 : 0 < b' := by
    refine Int.not_le.mp fun n => ?_
    have := Int.mul_nonpos_of_nonneg_of_nonpos (Int.le_of_lt g0) n
    omega
  have gn : gT r u b ≠ 0 := by omega
  generalize gT r u b = g at *
  have e1 : r / g = r' := by rw [er, Int.mul_ediv_cancel_left _ gn]
  have e2 : u / g = u' := by rw [eu, Int.mul_ediv_cancel_left _ gn]
  have e3 : b / g = b' := by rw [eb, Int.mul_ediv_cancel_left _ gn]
  rw [e1, e2, e3]
  refine ⟨b0, ?_, ?_⟩
  · unfold Low
    dsimp only
    rw [er, eu, eb] at gg
    simp only [Int.natAbs_mul] at gg
    rw [Nat.gcd_mul_left, Nat.gcd_mul_left] at gg
    have g1 : g.natAbs = g.natAbs * Nat.gcd (Nat.gcd b'.natAbs r'.natAbs) u'.natAbs := by omega
    have gp : 0 < g.natAbs := by omega
    exact (Nat.eq_of_mul_eq_mul_left gp (by rw [← g1, Nat.mul_one])).symm
  · have gr : (g : Rat) ≠ 0 := fun q => gn (int_zero q)
    have br : (b' : Rat) ≠ 0 := Rat.ne_of_gt (cast_pos b0)
    unfold tv
    dsimp only
    rw [er, eu, eb, Rat.intCast_mul, Rat.intCast_mul, Rat.intCast_mul]
    have key : ∀ x : Rat, x / (b' : Rat) = ((g : Rat) * x) / ((g : Rat) * (b' : Rat)) := fun x => by
      have nz : (g : Rat) * (b' : Rat) ≠ 0 := fun q => (Rat.mul_eq_zero.mp q).elim gr br
      have h1 := Rat.div_mul_cancel (a := x) br
      have h2 := Rat.div_mul_cancel (a := (g : Rat) * x) nz
      have : (x / (b' : Rat) - ((g : Rat) * x) / ((g : Rat) * (b' : Rat))) * ((g : Rat) * (b' : Rat)) = 0 := by grind
      have := (Rat.mul_eq_zero.mp this).resolve_right nz
      grind
    rw [← key, ← key]
theorem natAbs_cast (u : Int) : ((u.natAbs : Int) : Rat) = if u < 0 then -(u : Rat) else (u : Rat) := by
  split
  · rw [show (u.natAbs : Int) = -u by omega, Rat.intCast_neg]
  · rw [show (u.natAbs : Int) = u by omega]
theorem xT_is {s t a b : Tr} (hs : 0 < s.z) (ht : 0 < t.z) (ha : 0 < a.z) (hb : 0 < b.z) (h : offT (lineT s t) a * offT (lineT s t) b < 0) :
    crosses (tv s) (tv t) (tv a) (tv b) ∧ 0 < (xT a b (offT (lineT s t) a) (offT (lineT s t) b)).z ∧ Low (xT a b (offT (lineT s t) a) (offT (lineT s t) b)) ∧ tv (xT a b (offT (lineT s t) a) (offT (lineT s t) b)) = xp (tv s) (tv t) (tv a) (tv b) := by
  have sa := off_pos hs ht ha
  have sb := off_pos hs ht hb
  have ea := off_tn hs ht ha
  have eb := off_tn hs ht hb
  have os := opp_sign h
  have cr : crosses (tv s) (tv t) (tv a) (tv b) := by
    unfold crosses
    rw [← sa.1, ← sa.2, ← sb.1, ← sb.2]
    exact os
  generalize offT (lineT s t) a = u at *
  generalize offT (lineT s t) b = v at *
  have z0 : 0 < wT a.z b.z u v := by
    unfold wT
    have h1 : 0 < a.z * (v.natAbs : Int) := Int.mul_pos ha (by omega)
    have h2 : 0 < b.z * (u.natAbs : Int) := Int.mul_pos hb (by omega)
    omega
  obtain ⟨l1, l2, l3⟩ := lowest (r := wT a.x b.x u v) (u := wT a.y b.y u v) z0
  refine ⟨cr, l1, l2, ?_⟩
  unfold xT
  rw [l3]
  -- the weights
  have K : 0 < (s.z : Rat) * (t.z : Rat) := Rat.mul_pos (cast_pos hs) (cast_pos ht)
  have az := cast_pos ha
  have bz := cast_pos hb
  have zr : ((wT a.z b.z u v : Int) : Rat) ≠ 0 := Rat.ne_of_gt (cast_pos z0)
  unfold xp mx
  unfold wT at zr ⊢
  have ax := tv_x ha
  have ay := tv_y ha
  have bx := tv_x hb
  have by' := tv_y hb
  simp only [Rat.intCast_add, Rat.intCast_mul] at zr ⊢
  rw [natAbs_cast, natAbs_cast] at zr ⊢
  rw [ax, ay, bx, by']
  generalize (tv a).x = ax' at *
  generalize (tv a).y = ay' at *
  generalize (tv b).x = bx' at *
  generalize (tv b).y = by'' at *
  generalize hA : tn (tv s) (tv t) (tv a) = A at *
  generalize hB : tn (tv s) (tv t) (tv b) = B at *
  have nab : A - B ≠ 0 := by
    unfold crosses at cr
    rw [hA, hB] at cr
    grind
  have key : ∀ p q : Rat, ∀ N D : Rat, D ≠ 0 → N * (A - B) = D * (p * (A - B) + A * (q - p)) → N / D = p + A / (A - B) * (q - p) := fun p q N D hD e => by
    have h1 := Rat.div_mul_cancel (a := N) hD
    have h2 := Rat.div_mul_cancel (a := A) nab
    have nz : D * (A - B) ≠ 0 := fun z => (Rat.mul_eq_zero.mp z).elim hD nab
    have : (N / D - (p + A / (A - B) * (q - p))) * (D * (A - B)) = 0 := by
      have e1 : N / D * D * (A - B) = D * (p * (A - B) + A * (q - p)) := by rw [h1]; exact e
      have e2 : A / (A - B) * (A - B) * (q - p) = A * (q - p) := by rw [h2]
      grind
    have := (Rat.mul_eq_zero.mp this).resolve_right nz
    grind
  rcases os with ⟨u1, v1⟩ | ⟨u1, v1⟩
  · rw [if_pos v1, if_neg (by omega)] at zr ⊢
    rw [ea, eb] at zr ⊢
    refine V2.ext' (key _ _ _ _ zr ?_) (key _ _ _ _ zr ?_) <;> grind
  · rw [if_neg (by omega), if_pos u1] at zr ⊢
    rw [ea, eb] at zr ⊢
    refine V2.ext' (key _ _ _ _ zr ?_) (key _ _ _ _ zr ?_) <;> grind
theorem xL_is {s t a b : Tr} (hs : 0 < s.z) (ht : 0 < t.z) (ha : 0 < a.z) (hb : 0 < b.z) : (∀ x ∈ xL (lineT s t) a b, 0 < x.z ∧ Low x) ∧ (xL (lineT s t) a b).map tv = xg (tv s) (tv t) (tv a) (tv b) := by
  have sa := off_pos hs ht ha
  have sb := off_pos hs ht hb
  unfold xL xg
  by_cases c : offT (lineT s t) a * offT (lineT s t) b < 0
  · obtain ⟨cr, p, l, e⟩ := xT_is hs ht ha hb c
    rw [if_pos c, if_pos cr]
    exact ⟨fun x hx => by simp at hx; subst hx; exact ⟨p, l⟩, by simp; exact e⟩
  · rw [if_neg c, if_neg]
    · exact ⟨fun x hx => by simp at hx, rfl⟩
    · intro cr
      unfold crosses at cr
      rw [← sa.1, ← sa.2, ← sb.1, ← sb.2] at cr
      rcases cr with ⟨h1, h2⟩ | ⟨h1, h2⟩
      · exact c (Int.mul_neg_of_pos_of_neg h1 h2)
      · exact c (Int.mul_neg_of_neg_of_pos h1 h2)
theorem kL_is {s t a : Tr} (hs : 0 < s.z) (ht : 0 < t.z) (ha : 0 < a.z) : (kL (lineT s t) a).map tv = kg (tv s) (tv t) (tv a) := by
  have sa := off_pos hs ht ha
  unfold kL kg
  by_cases c : 0 ≤ offT (lineT s t) a
  · rw [if_pos c, if_neg (fun n => by have := sa.2.mpr n; omega)]; rfl
  · rw [if_neg c, if_pos (sa.2.mp (by omega))]; rfl
theorem kept_tv {s t : Tr} {l : List Tr} (hs : 0 < s.z) (ht : 0 < t.z) (hl : PosT l) : (keptT (lineT s t) l l.length).map tv = cut2 (tv s) (tv t) (l.map tv) := by
  unfold keptT cut2
  rw [List.map_flatMap, List.length_map]
  congr 1
  funext i
  rw [List.map_append, (xL_is hs ht (aT_pos hl _) (aT_pos hl _)).2, kL_is hs ht (aT_pos hl _), aT_tv, aT_tv]
theorem kept_pos {s t : Tr} {l : List Tr} (hs : 0 < s.z) (ht : 0 < t.z) (hl : PosT l) (n : Nat) : PosT (keptT (lineT s t) l n) := by
  intro x hx
  obtain ⟨i, _, hx⟩ := List.mem_flatMap.mp hx
  rcases List.mem_append.mp hx with hx | hx
  · exact ((xL_is hs ht (aT_pos hl _) (aT_pos hl _)).1 x hx).1
  · unfold kL at hx
    split at hx
    · simp at hx; subst hx; exact aT_pos hl _
    · simp at hx
theorem aT_mem {l : List Tr} (i : Nat) (h : 0 < l.length) : aT l i ∈ l := by
  unfold aT
  have hi : i % l.length < l.length := Nat.mod_lt _ h
  rw [List.getD_eq_getElem?_getD, List.getElem?_eq_getElem hi]
  exact List.getElem_mem _
theorem kept_low {s t : Tr} {l : List Tr} (hs : 0 < s.z) (ht : 0 < t.z) (hl : PosT l) (hw : ∀ x ∈ l, Low x) : ∀ x ∈ keptT (lineT s t) l l.length, Low x := by
  intro x hx
  obtain ⟨i, hi, hx⟩ := List.mem_flatMap.mp hx
  have hi := List.mem_range.mp hi
  rcases List.mem_append.mp hx with hx | hx
  · exact ((xL_is hs ht (aT_pos hl _) (aT_pos hl _)).1 x hx).2
  · unfold kL at hx
    split at hx
    · simp at hx; subst hx; exact hw _ (aT_mem _ (by omega))
    · simp at hx
/-- a cut adds two corners at most -/
theorem sub_fm2 {α : Type} (X K : Nat → List α) : ∀ r : List Nat, (r.flatMap X).Sublist (r.flatMap fun k => X k ++ K k)
  | [] => .slnil
  | a :: r => by
    rw [List.flatMap_cons, List.flatMap_cons]
    exact (List.sublist_append_left _ _).append (sub_fm2 X K r)
theorem len_fm2 {α : Type} (X K : Nat → List α) (h : ∀ k, (K k).length ≤ 1) : ∀ r : List Nat, (r.flatMap fun k => X k ++ K k).length ≤ (r.flatMap X).length + r.length
  | [] => by simp
  | a :: r => by
    rw [List.flatMap_cons, List.flatMap_cons, List.length_append, List.length_append, List.length_append, List.length_cons]
    have := len_fm2 X K h r
    have := h a
    omega
theorem cut_few {s t : V2} {l : List V2} (T : Tri l) (h3 : 3 ≤ l.length) : (cut2 s t l).length ≤ l.length + 2 := by
  have U := cut_tri (s := s) (t := t) T h3
  unfold cut2 at U ⊢
  have l1 := len_fm2 (fun k => xg s t (ac l (k + l.length - 1)) (ac l k)) (fun k => kg s t (ac l k)) (fun k => by unfold kg; split <;> simp) (List.range l.length)
  have s1 := sub_fm2 (fun k => xg s t (ac l (k + l.length - 1)) (ac l k)) (fun k => kg s t (ac l k)) (List.range l.length)
  have V := U.sub s1
  rw [List.length_range] at l1
  have on : ∀ x ∈ (List.range l.length).flatMap (fun k => xg s t (ac l (k + l.length - 1)) (ac l k)), tn s t x = 0 ∧ s ≠ t := by
    intro x hx
    obtain ⟨i, _, hx⟩ := List.mem_flatMap.mp hx
    unfold xg at hx
    split at hx
    · rename_i c
      simp at hx
      subst hx
      refine ⟨?_, fun z => ?_⟩
      · rcases (xp_on c).1.z with z | z
        · have := (xp_on c).2; grind
        · exact z
      · unfold crosses at c
        rw [z, tn_aa, tn_aa] at c
        rcases c with c | c
        · exact absurd c.1 (by decide)
        · exact absurd c.1 (by decide)
    · simp at hx
  refine Nat.le_trans l1 ?_
  have : ((List.range l.length).flatMap (fun k => xg s t (ac l (k + l.length - 1)) (ac l k))).length ≤ 2 := by
    generalize (List.range l.length).flatMap (fun k => xg s t (ac l (k + l.length - 1)) (ac l k)) = m at *
    match m, V, on with
    | [], _, _ => simp
    | [_], _, _ => simp
    | [_, _], _, _ => simp
    | a :: b :: c :: r, V, on =>
      exfalso
      have p := V a b c (List.Sublist.cons_cons _ (List.Sublist.cons_cons _ (List.Sublist.cons_cons _ (List.nil_sublist _))))
      obtain ⟨h1, ne⟩ := on a (by simp)
      obtain ⟨h2, _⟩ := on b (by simp)
      obtain ⟨h3, _⟩ := on c (by simp)
      refine ne (tn_none fun w => ?_)
      have := same_line (s := s) (t := t) (p := a) (q := b) (v := c) (z := w) h1 h2
      rw [h3, Rat.mul_zero] at this
      exact (Rat.mul_eq_zero.mp this).resolve_right (Rat.ne_of_gt p)
  omega
end Sc
namespace Sc
open Kzq1 (Q P)
/-! Two pieces have none in common just if a side of one of them has nothing of the other on its left -/
def CutOff (p q : List P) : Prop := ∃ i, ∀ v ∈ q, tn (pv (Kzq1.at0 p i)) (pv (Kzq1.at0 p (i + 1))) (pv v) ≤ 0
theorem side_ne {q : List P} (hq : Piece q) (i : Nat) : pv (Kzq1.at0 q i) ≠ pv (Kzq1.at0 q (i + 1)) := fun z => by
  have q0 : 0 < q.length := by have := hq.three; omega
  have := hq.tri.corner (by rw [List.length_map]; exact hq.three) (j := i % q.length) (by rw [List.length_map]; exact Nat.mod_lt _ q0)
  rw [at0_pv, at0_pv, at0_pv, List.length_map, (at0_period q i).1, (at0_period q i).2, z, ← tn_cyc, tn_aa] at this
  exact absurd this (by decide)
/-- a point strictly within -/
theorem inner {q : List P} (hq : Piece q) : ∃ z, ∀ i, 0 < tn (pv (Kzq1.at0 q i)) (pv (Kzq1.at0 q (i + 1))) z := by
  obtain ⟨z, _, k⟩ := within hq.tri (by rw [List.length_map]; exact hq.three)
  refine ⟨z, fun i => k _ _ (side_ne hq i) fun v hv => ?_⟩
  have := hq.tri.mem_rg hv
  exact (rg_sides q v).mp this i
theorem meets_symm {p q : List P} (hp : Piece p) (hq : Piece q) (h : Meets p q) : Meets q p := by
  obtain ⟨c, rg⟩ := common_alive hp hq h
  obtain ⟨z, hz, k⟩ := within c.tri (by rw [List.length_map]; exact c.three)
  refine ⟨z, ((rg z).mp hz).2, fun i => k _ _ (side_ne hp i) fun v hv => ?_⟩
  have := ((rg v).mp (c.tri.mem_rg hv)).1
  exact (rg_sides p v).mp this i
theorem cutoff_dead {p q : List P} (hp : Piece p) (h : CutOff q p) : ¬ Meets p q := by
  rintro ⟨z, hz, f⟩
  obtain ⟨i, hi⟩ := h
  have := Rg.hull (s := pv (Kzq1.at0 q (i + 1))) (t := pv (Kzq1.at0 q i)) hp.tri hz (by rw [List.length_map]; exact hp.three) fun v hv => by
    obtain ⟨w, hw, rfl⟩ := List.mem_map.mp hv
    rw [tn_swap]
    have := hi w hw
    grind
  rw [tn_swap] at this
  have := f i
  grind
/-- the corner where a line's height is greatest -/
theorem greatest {α : Type} (f : α → Rat) : ∀ l : List α, l ≠ [] → ∃ v ∈ l, ∀ w ∈ l, f w ≤ f v
  | [], h => absurd rfl h
  | [a], _ => ⟨a, by simp, fun w hw => by simp at hw; subst hw; exact Rat.le_refl⟩
  | a :: b :: l, _ => by
    obtain ⟨v, hv, k⟩ := greatest f (b :: l) (by simp)
    by_cases c : f v ≤ f a
    · exact ⟨a, by simp, fun w hw => by
        rcases List.mem_cons.mp hw with rfl | hw
        · exact Rat.le_refl
        · exact Rat.le_trans (k w hw) c⟩
    · exact ⟨v, List.mem_cons_of_mem _ hv, fun w hw => by
        rcases List.mem_cons.mp hw with rfl | hw
        · grind
        · exact k w hw⟩
/-- a side of c lies along a line on whose left all of c lies -/
def Along (c : List V2) (s t : V2) (i : Nat) : Prop := s ≠ t ∧ tn s t (ac c i) = 0 ∧ tn s t (ac c (i + 1)) = 0
theorem weigh {c : List V2} (T : Tri c) (h3 : 3 ≤ c.length) {s t : V2} (dead : ∀ v ∈ c, tn s t v ≤ 0) {G : V2 → V2 → Prop} (along : ∀ i, ∃ a b, G a b ∧ Along c a b i) (left : ∀ a b, G a b → ∀ v ∈ c, 0 ≤ tn a b v) :
    ∃ a1 b1 a2 b2, G a1 b1 ∧ G a2 b2 ∧ ∃ A B C : Rat, 0 ≤ A ∧ 0 ≤ B ∧ C ≤ 0 ∧ ∀ z, tn s t z + A * tn a1 b1 z + B * tn a2 b2 z = C := by
  obtain ⟨v, hv, top⟩ := greatest (tn s t) c (by intro e; rw [e] at h3; simp at h3)
  obtain ⟨j, hj, rfl⟩ := mem_ac hv
  have tu := T.corner h3 hj
  obtain ⟨a1, b1, g1, n1, u1, v1⟩ := along (j + c.length - 1)
  obtain ⟨a2, b2, g2, n2, v2, w2⟩ := along j
  have e : ac c (j + c.length - 1 + 1) = ac c j := by rw [show j + c.length - 1 + 1 = j + c.length by omega, ac_add]
  rw [e] at v1
  have mu := top _ (ac_mem (l := c) (j + c.length - 1) (by omega))
  have mw := top _ (ac_mem (l := c) (j + 1) (by omega))
  have mv := dead _ hv
  have l1w := left a1 b1 g1 _ (ac_mem (l := c) (j + 1) (by omega))
  have l2u := left a2 b2 g2 _ (ac_mem (l := c) (j + c.length - 1) (by omega))
  generalize ac c (j + c.length - 1) = u at *
  generalize ac c (j + 1) = w at *
  generalize ac c j = v at *
  have k1 : ∀ z, tn u v w * tn a1 b1 z = tn u v z * tn a1 b1 w := fun z => by
    rw [bary_tn a1 b1 u v w z, u1, v1]; grind
  have k2 : ∀ z, tn u v w * tn a2 b2 z = tn v w z * tn a2 b2 u := fun z => by
    rw [bary_tn a2 b2 u v w z, v2, w2]; grind
  have p1 : 0 < tn a1 b1 w := by
    refine Rat.lt_of_le_of_ne l1w fun z => n1 (tn_none fun x => ?_)
    have := k1 x
    rw [← z, Rat.mul_zero] at this
    exact (Rat.mul_eq_zero.mp this).resolve_left (Rat.ne_of_gt tu)
  have p2 : 0 < tn a2 b2 u := by
    refine Rat.lt_of_le_of_ne l2u fun z => n2 (tn_none fun x => ?_)
    have := k2 x
    rw [← z, Rat.mul_zero] at this
    exact (Rat.mul_eq_zero.mp this).resolve_left (Rat.ne_of_gt tu)
  have divnn : ∀ {x y : Rat}, 0 ≤ x → 0 < y → 0 ≤ x / y := fun {x y} hx hy => by
    refine Rat.not_lt.mp fun n => ?_
    have h1 := Rat.div_mul_cancel (a := x) (Rat.ne_of_gt hy)
    have := Rat.mul_pos (show 0 < -(x / y) by grind) hy
    grind
  refine ⟨a1, b1, a2, b2, g1, g2, (tn s t v - tn s t w) / tn a1 b1 w, (tn s t v - tn s t u) / tn a2 b2 u, tn s t v, divnn (by grind) p1, divnn (by grind) p2, mv, fun z => ?_⟩
  have d1 := Rat.div_mul_cancel (a := tn s t v - tn s t w) (Rat.ne_of_gt p1)
  have d2 := Rat.div_mul_cancel (a := tn s t v - tn s t u) (Rat.ne_of_gt p2)
  have f := bary_tn s t u v w z
  have b := bary u v w z
  have q1 := k1 z
  have q2 := k2 z
  generalize (tn s t v - tn s t w) / tn a1 b1 w = A at *
  generalize (tn s t v - tn s t u) / tn a2 b2 u = B at *
  have d0 : tn u v w ≠ 0 := Rat.ne_of_gt tu
  have : tn u v w * (tn s t z + A * tn a1 b1 z + B * tn a2 b2 z - tn s t v) = 0 := by
    have e1 : tn u v w * (A * tn a1 b1 z) = (tn s t v - tn s t w) * tn u v z := by
      have : tn u v w * (A * tn a1 b1 z) = A * (tn u v w * tn a1 b1 z) := by grind
      rw [this, q1, ← d1]; grind
    have e2 : tn u v w * (B * tn a2 b2 z) = (tn s t v - tn s t u) * tn v w z := by
      have : tn u v w * (B * tn a2 b2 z) = B * (tn u v w * tn a2 b2 z) := by grind
      rw [this, q2, ← d2]; grind
    have e3 : tn u v w * (tn s t z + A * tn a1 b1 z + B * tn a2 b2 z - tn s t v) = tn u v w * tn s t z + tn u v w * (A * tn a1 b1 z) + tn u v w * (B * tn a2 b2 z) - tn u v w * tn s t v := by grind
    rw [e3, e1, e2, f, ← b]
    grind
  have := (Rat.mul_eq_zero.mp this).resolve_left d0
  grind
/-- the lines of the sides of either -/
def Side (q : List P) (a b : V2) : Prop := ∃ i, a = pv (Kzq1.at0 q i) ∧ b = pv (Kzq1.at0 q (i + 1))
theorem side_back {q : List P} (h : 0 < q.length) {k : Nat} (hk : k < q.length) : Side q (pv (Kzq1.at0 q (k + q.length - 1))) (pv (Kzq1.at0 q k)) := by
  refine ⟨k + q.length - 1, rfl, ?_⟩
  rw [show k + q.length - 1 + 1 = k + q.length by omega]
  unfold Kzq1.at0
  rw [Nat.add_mod_right]
theorem Side.ne {q : List P} (hq : Piece q) {a b : V2} (h : Side q a b) : a ≠ b := by
  obtain ⟨i, rfl, rfl⟩ := h
  exact side_ne hq i
theorem Side.left {q : List P} {a b : V2} (h : Side q a b) {z : V2} (hz : RgP q z) : 0 ≤ tn a b z := by
  obtain ⟨i, rfl, rfl⟩ := h
  exact (rg_sides q z).mp hz i
theorem separated {p q : List P} (hp : Piece p) (hq : Piece q) (h : ¬ Meets p q) : CutOff p q ∨ CutOff q p := by
  have q0 : 0 < q.length := by have := hq.three; omega
  have p0 : 0 < p.length := by have := hp.three; omega
  refine Classical.byContradiction fun no => ?_
  have no1 : ¬ CutOff p q := fun z => no (.inl z)
  have no2 : ¬ CutOff q p := fun z => no (.inr z)
  have key : ∀ i, i ≤ q.length → Piece (prefP p q i) ∧ (∀ j, ∃ a b, (Side p a b ∨ (Side q a b ∧ ∀ v ∈ (prefP p q i).map pv, 0 ≤ tn a b v)) ∧ Along ((prefP p q i).map pv) a b j) ∧ ∀ z, RgP (prefP p q i) z → RgP p z ∧ ∀ j ∈ List.range i, 0 ≤ tn (pv (Kzq1.at0 q (j + q.length - 1))) (pv (Kzq1.at0 q j)) z := by
    intro i
    induction i with
    | zero =>
      intro _
      refine ⟨hp, fun j => ?_, fun z h => ⟨h, fun j hj => by simp at hj⟩⟩
      refine ⟨pv (Kzq1.at0 p j), pv (Kzq1.at0 p (j + 1)), .inl ⟨j, rfl, rfl⟩, side_ne hp j, ?_, ?_⟩
      · show tn _ _ (ac (p.map pv) j) = 0
        rw [at0_pv, tn_ab]
      · show tn _ _ (ac (p.map pv) (j + 1)) = 0
        rw [at0_pv, tn_bb]
    | succ i ih =>
      intro hi
      obtain ⟨h, al, rg⟩ := ih (by omega)
      rw [prefP_more]
      have sd := side_back q0 (k := i) (by omega)
      generalize prefP p q i = c at *
      have h3 : 3 ≤ (c.map pv).length := by rw [List.length_map]; exact h.three
      -- the cut leaves a piece
      have alive : ∃ v ∈ c.map pv, 0 < tn (pv (Kzq1.at0 q (i + q.length - 1))) (pv (Kzq1.at0 q i)) v := by
        refine Classical.byContradiction fun none => ?_
        have dead : ∀ v ∈ c.map pv, tn (pv (Kzq1.at0 q (i + q.length - 1))) (pv (Kzq1.at0 q i)) v ≤ 0 := fun v hv => Rat.not_lt.mp fun n => none ⟨v, hv, n⟩
        obtain ⟨a1, b1, a2, b2, g1, g2, A, B, C, hA, hB, hC, e⟩ := weigh h.tri h3 dead al (fun a b g v hv => by
          rcases g with g | g
          · exact g.left (rg v (h.tri.mem_rg hv)).1
          · exact g.2 v hv)
        generalize pv (Kzq1.at0 q (i + q.length - 1)) = s at *
        generalize pv (Kzq1.at0 q i) = t at *
        obtain ⟨z, hz⟩ := inner hq
        have inn : ∀ a b, Side q a b → 0 < tn a b z := fun a b g => by obtain ⟨i, rfl, rfl⟩ := g; exact hz i
        have pl : ∀ a b, Side p a b → ∀ v ∈ p, 0 ≤ tn a b (pv v) := fun a b g v hv => g.left (hp.tri.mem_rg (List.mem_map_of_mem hv))
        have ql : ∀ a b, Side q a b → ∀ v ∈ q, 0 ≤ tn a b (pv v) := fun a b g v hv => g.left (hq.tri.mem_rg (List.mem_map_of_mem hv))
        have sz := inn s t sd
        have ez := e z
        have cutp : ∀ a b, Side p a b → (∀ v ∈ q, tn a b (pv v) ≤ 0) → False := fun a b g f => by
          obtain ⟨i, rfl, rfl⟩ := g
          exact no1 ⟨i, f⟩
        rcases g1 with g1 | ⟨g1, _⟩ <;> rcases g2 with g2 | ⟨g2, _⟩
        · obtain ⟨k, rfl, rfl⟩ := sd
          refine no2 ⟨k, fun v hv => ?_⟩
          have h1 := Rat.mul_nonneg hA (pl _ _ g1 v hv)
          have h2 := Rat.mul_nonneg hB (pl _ _ g2 v hv)
          have := e (pv v)
          grind
        · by_cases a0 : A = 0
          · have h2 := Rat.mul_nonneg hB (Rat.le_of_lt (inn _ _ g2))
            rw [a0] at ez
            grind
          · refine cutp a1 b1 g1 fun v hv => ?_
            have h1 := ql _ _ sd v hv
            have h2 := Rat.mul_nonneg hB (ql _ _ g2 v hv)
            have := e (pv v)
            refine Rat.not_lt.mp fun n => ?_
            have := Rat.mul_pos (Rat.lt_of_le_of_ne hA (Ne.symm a0)) n
            grind
        · by_cases b0 : B = 0
          · have h2 := Rat.mul_nonneg hA (Rat.le_of_lt (inn _ _ g1))
            rw [b0] at ez
            grind
          · refine cutp a2 b2 g2 fun v hv => ?_
            have h1 := ql _ _ sd v hv
            have h2 := Rat.mul_nonneg hA (ql _ _ g1 v hv)
            have := e (pv v)
            refine Rat.not_lt.mp fun n => ?_
            have := Rat.mul_pos (Rat.lt_of_le_of_ne hB (Ne.symm b0)) n
            grind
        · have h1 := Rat.mul_nonneg hA (Rat.le_of_lt (inn _ _ g1))
          have h2 := Rat.mul_nonneg hB (Rat.le_of_lt (inn _ _ g2))
          grind
      obtain ⟨v, hv, fv⟩ := alive
      obtain ⟨ok, e⟩ := kept_is (at0_ok hq.ok (i + q.length - 1)) (at0_ok hq.ok i) h.ok
      have hc := cut_many h.tri h3 hv fv
      have r := cut_rg h.tri h3 hc
      have T := cut_tri (s := pv (Kzq1.at0 q (i + q.length - 1))) (t := pv (Kzq1.at0 q i)) h.tri h3
      have kept : 3 ≤ (keptP (Kzq1.at0 q (i + q.length - 1)) (Kzq1.at0 q i) c).length := by rw [← e, List.length_map] at hc; exact hc
      have el : leftP (Kzq1.at0 q (i + q.length - 1)) (Kzq1.at0 q i) c = keptP (Kzq1.at0 q (i + q.length - 1)) (Kzq1.at0 q i) c := by unfold leftP; rw [if_pos kept]
      rw [el]
      -- the sides of what's left
      obtain ⟨U, V, c1, c2⟩ := cut_rot (pv (Kzq1.at0 q (i + q.length - 1))) (pv (Kzq1.at0 q i)) (c.map pv)
      have lc : 0 < (clip2 (pv (Kzq1.at0 q (i + q.length - 1))) (pv (Kzq1.at0 q i)) (c.map pv)).length := by rw [← cut_len_eq]; omega
      have adj := fun I => clip_adj (s := pv (Kzq1.at0 q (i + q.length - 1))) (t := pv (Kzq1.at0 q i)) (l := c.map pv) (by omega) lc I
      have mem : ∀ w ∈ cut2 (pv (Kzq1.at0 q (i + q.length - 1))) (pv (Kzq1.at0 q i)) (c.map pv), Rg (c.map pv) w ∧ 0 ≤ tn (pv (Kzq1.at0 q (i + q.length - 1))) (pv (Kzq1.at0 q i)) w := fun w hw => (r w).mp (T.mem_rg hw)
      refine ⟨⟨ok, by rw [e]; exact T, kept⟩, fun j => ?_, fun z hz => ?_⟩
      · rw [e, c2]
        rw [c2] at mem
        generalize hK : V ++ U = K at *
        have sh : ∀ j, ac K j = ac (clip2 (pv (Kzq1.at0 q (i + q.length - 1))) (pv (Kzq1.at0 q i)) (c.map pv)) (j + U.length) := fun j => by
          rw [← hK, c1, ac_rot]
        unfold Along
        rw [sh j, sh (j + 1), show j + 1 + U.length = j + U.length + 1 by omega]
        rcases adj (j + U.length) with ⟨n, x, y, _, e1, e2⟩ | ⟨z1, z2⟩
        · obtain ⟨a, b, g, ne, o1, o2⟩ := al n
          refine ⟨a, b, ?_, ne, ?_, ?_⟩
          · rcases g with g | ⟨g, f⟩
            · exact .inl g
            · refine .inr ⟨g, fun w hw => ?_⟩
              exact Rg.hull h.tri (mem w hw).1 h3 f
          · rw [e1, tn_mx3, o1, o2]; grind
          · rw [e2, tn_mx3, o1, o2]; grind
        · exact ⟨_, _, .inr ⟨sd, fun w hw => (mem w hw).2⟩, sd.ne hq, z1, z2⟩
      · have rr : RgP c z ∧ 0 ≤ tn (pv (Kzq1.at0 q (i + q.length - 1))) (pv (Kzq1.at0 q i)) z := by
          have : Rg ((keptP (Kzq1.at0 q (i + q.length - 1)) (Kzq1.at0 q i) c).map pv) z := hz
          rw [e] at this
          exact (r z).mp this
        obtain ⟨b1, b2⟩ := rg z rr.1
        refine ⟨b1, fun j hj => ?_⟩
        have hj := List.mem_range.mp hj
        by_cases cj : j = i
        · rw [cj]; exact rr.2
        · exact b2 j (List.mem_range.mpr (by omega))
  obtain ⟨pc, _, rg⟩ := key q.length (Nat.le_refl _)
  refine h ?_
  obtain ⟨z, hz, k⟩ := within pc.tri (by rw [List.length_map]; exact pc.three)
  refine ⟨z, (rg z hz).1, (back_sides q0 (F := fun a b => 0 < tn a b z)).mp fun j hj => ?_⟩
  exact k _ _ ((side_back q0 (List.mem_range.mp hj)).ne hq) fun v hv => (rg v (pc.tri.mem_rg hv)).2 j hj
theorem meets_not_cut {p q : List P} (hp : Piece p) (hq : Piece q) : Meets p q ↔ ¬ (CutOff p q ∨ CutOff q p) := by
  constructor
  · rintro m (h | h)
    · exact cutoff_dead hq h (meets_symm hp hq m)
    · exact cutoff_dead hp h m
  · intro h
    exact Classical.byContradiction fun n => h (separated hp hq n)
end Sc
namespace Sc
open Kzq1 (Q P)
/-- the cuts so far, on such points -/
def prefT (p q : List Tr) (i : Nat) : List Tr := (List.range i).foldl (fun l k => keptT (lineT (aT q (k + q.length - 1)) (aT q k)) l l.length) p
theorem prefT_more (p q : List Tr) (i : Nat) : prefT p q (i + 1) = keptT (lineT (aT q (i + q.length - 1)) (aT q i)) (prefT p q i) (prefT p q i).length := by
  unfold prefT
  rw [List.range_succ, List.foldl_append]; rfl
theorem trs_pos {l : List P} (h : OkL l) : PosT (l.map trP) := fun t ht => by
  obtain ⟨p, hp, rfl⟩ := List.mem_map.mp ht
  exact trP_pos (h p hp)
theorem trs_low {l : List P} (h : OkL l) : ∀ t ∈ l.map trP, Low t := fun t ht => by
  obtain ⟨p, hp, rfl⟩ := List.mem_map.mp ht
  exact trP_low (h p hp)
theorem trs_tv {l : List P} (h : OkL l) : (l.map trP).map tv = l.map pv := by
  rw [List.map_map]
  exact List.map_congr_left fun p hp => tv_trP (h p hp)
theorem aT_at0 {l : List P} (h : OkL l) (i : Nat) : tv (aT (l.map trP) i) = pv (Kzq1.at0 l i) := by
  rw [aT_tv, trs_tv h, at0_pv]
/-- a side's line, in whole numbers -/
theorem lnT {m : Nat} {a b : P} (oa : OkP a) (ob : OkP b) (sa : SzT m (trP a)) (sb : SzT m (trP b)) (ne : pv a ≠ pv b) : ∃ L : Ln, L.Sz (2 * m + 1) ∧ ∀ z, tn (pv a) (pv b) z = 0 → L.On z := by
  have bd : ∀ {i j k l : Int}, i.natAbs < 2 ^ m → j.natAbs < 2 ^ m → k.natAbs < 2 ^ m → l.natAbs < 2 ^ m → (i * j - k * l).natAbs < 2 ^ (2 * m + 1) := fun {i j k l} h1 h2 h3 h4 => by
    have := cross_lt (i := i) (j := j) (k := -k) (l := l) (a := m) (b := m) h1 h2 (by rw [Int.natAbs_neg]; exact h3) h4
    rw [Int.neg_mul] at this
    rw [show 2 * m + 1 = m + m + 1 by omega]
    exact this
  have za := trP_pos oa
  have zb := trP_pos ob
  have la := fun v => line_at za zb v
  have K : 0 < ((trP a).z : Rat) * ((trP b).z : Rat) := Rat.mul_pos (cast_pos za) (cast_pos zb)
  rw [tv_trP oa, tv_trP ob] at la
  refine ⟨⟨(lineT (trP a) (trP b)).x, (lineT (trP a) (trP b)).y, (lineT (trP a) (trP b)).z⟩, ⟨bd sa.2.1 sb.2.2 sa.2.2 sb.2.1, bd sa.2.2 sb.1 sa.1 sb.2.2, bd sa.1 sb.2.1 sa.2.1 sb.1, ?_⟩, fun z hz => ?_⟩
  · refine Classical.byContradiction fun no => ?_
    have a0 : (lineT (trP a) (trP b)).x = 0 := Classical.byContradiction fun q => no (.inl q)
    have b0 : (lineT (trP a) (trP b)).y = 0 := Classical.byContradiction fun q => no (.inr q)
    refine ne (tn_none fun w => ?_)
    have k0 := la (pv a)
    rw [tn_ab, a0, b0] at k0
    have k1 := la w
    rw [a0, b0] at k1
    have : ((trP a).z : Rat) * ((trP b).z : Rat) * tn (pv a) (pv b) w = 0 := by
      have c0 : ((0 : Int) : Rat) = 0 := rfl
      rw [c0] at k0 k1
      grind
    exact (Rat.mul_eq_zero.mp this).resolve_left (Rat.ne_of_gt K)
  · unfold Ln.On
    dsimp only
    rw [la, hz, Rat.mul_zero]
theorem linedT {m : Nat} {p : List P} (hp : Piece p) (sz : ∀ z ∈ p, SzT m (trP z)) : (∀ i, ∃ L : Ln, L.Sz (2 * m + 1) ∧ ∀ z, tn (pv (Kzq1.at0 p i)) (pv (Kzq1.at0 p (i + 1))) z = 0 → L.On z) ∧ Lined (2 * m + 1) (p.map pv) := by
  have p0 : 0 < p.length := by have := hp.three; omega
  have k : ∀ i, ∃ L : Ln, L.Sz (2 * m + 1) ∧ ∀ z, tn (pv (Kzq1.at0 p i)) (pv (Kzq1.at0 p (i + 1))) z = 0 → L.On z := fun i => lnT (at0_ok hp.ok _) (at0_ok hp.ok _) (sz _ (at0_in _ p0)) (sz _ (at0_in _ p0)) (side_ne hp i)
  refine ⟨k, fun i => ?_⟩
  obtain ⟨L, h1, h2⟩ := k i
  rw [at0_pv, at0_pv]
  exact ⟨L, h1, h2 _ (tn_ab _ _), h2 _ (tn_bb _ _)⟩
/-- while there's a piece in common: the cuts on such points are the cuts, and how long their numbers are -/
structure PrefOk (p q : List P) (M i : Nat) : Prop where
  pc : Piece (prefP p q i)
  eq : (prefT (p.map trP) (q.map trP) i).map tv = (prefP p q i).map pv
  pos : PosT (prefT (p.map trP) (q.map trP) i)
  sz : ∀ t ∈ prefT (p.map trP) (q.map trP) i, SzT M t
  few : (prefP p q i).length ≤ p.length + 2 * i
theorem pref_ok {m : Nat} {p q : List P} (hp : Piece p) (hq : Piece q) (sp : ∀ z ∈ p, SzT m (trP z)) (sq : ∀ z ∈ q, SzT m (trP z)) (hm : Meets p q) : ∀ i, i ≤ q.length → PrefOk p q (4 * m + 3) i := by
  have q0 : 0 < q.length := by have := hq.three; omega
  have pl := pref_sz (k := 2 * m + 1) hp hq hm (linedT hp sp).2 (linedT hq sq).1
  have qp := trs_pos hq.ok
  have ql : (q.map trP).length = q.length := List.length_map _
  have key : ∀ i, i ≤ q.length → (prefT (p.map trP) (q.map trP) i).map tv = (prefP p q i).map pv ∧ PosT (prefT (p.map trP) (q.map trP) i) ∧ (∀ t ∈ prefT (p.map trP) (q.map trP) i, Low t) ∧ (prefP p q i).length ≤ p.length + 2 * i := by
    intro i
    induction i with
    | zero => intro _; exact ⟨trs_tv hp.ok, trs_pos hp.ok, trs_low hp.ok, Nat.le_refl _⟩
    | succ i ih =>
      intro hi
      obtain ⟨e, ps, lo, few⟩ := ih (by omega)
      have c1 := (pl i (by omega)).1
      have c2 := (pl (i + 1) hi).1
      rw [prefP_more] at c2 ⊢
      rw [prefT_more, ql]
      have hs := aT_pos qp (i + q.length - 1)
      have ht := aT_pos qp i
      have es := aT_at0 hq.ok (i + q.length - 1)
      have et := aT_at0 hq.ok i
      generalize prefT (p.map trP) (q.map trP) i = l at *
      generalize prefP p q i = c at *
      have el : leftP (Kzq1.at0 q (i + q.length - 1)) (Kzq1.at0 q i) c = keptP (Kzq1.at0 q (i + q.length - 1)) (Kzq1.at0 q i) c := by
        unfold leftP
        by_cases k : 3 ≤ (keptP (Kzq1.at0 q (i + q.length - 1)) (Kzq1.at0 q i) c).length
        · rw [if_pos k]
        · exfalso
          have := c2.three
          unfold leftP at this
          rw [if_neg k] at this
          simp at this
      obtain ⟨ok, ek⟩ := kept_is (at0_ok hq.ok (i + q.length - 1)) (at0_ok hq.ok i) c1.ok
      rw [el]
      refine ⟨?_, kept_pos hs ht ps _, kept_low hs ht ps lo, ?_⟩
      · rw [kept_tv hs ht ps, ek, es, et, e]
      · have := cut_few (s := pv (Kzq1.at0 q (i + q.length - 1))) (t := pv (Kzq1.at0 q i)) c1.tri (by rw [List.length_map]; exact c1.three)
        rw [← ek, List.length_map, List.length_map] at this
        omega
  intro i hi
  obtain ⟨e, ps, lo, few⟩ := key i hi
  obtain ⟨c, ln⟩ := pl i hi
  refine ⟨c, e, ps, fun t ht => ?_, few⟩
  have mt : tv t ∈ (prefP p q i).map pv := by rw [← e]; exact List.mem_map_of_mem ht
  obtain ⟨j, hj, ej⟩ := mem_ac mt
  obtain ⟨N, M, D, d0, b1, b2, b3, e1, e2⟩ := ln.corner c.tri (by rw [List.length_map]; exact c.three) hj
  rw [← ej] at e1 e2
  obtain ⟨k1, k2, k3⟩ := (lo t ht).bound (ps t ht) d0 e1 e2
  rw [show 2 * (2 * m + 1) + 1 = 4 * m + 3 by omega] at b1 b2 b3
  exact ⟨Nat.lt_of_le_of_lt k1 b1, Nat.lt_of_le_of_lt k2 b2, Nat.lt_of_le_of_lt k3 b3⟩
theorem froms_is : ∀ {l : List Tr} {c : List P}, PosT l → OkL c → l.map tv = c.map pv → l.map fromT = c
  | [], [], _, _, _ => rfl
  | t :: l, p :: c, h, k, e => by
    simp only [List.map_cons, List.cons.injEq] at e ⊢
    obtain ⟨o, ee⟩ := fromT_is (h t (by simp))
    exact ⟨pv_inj o (k p (by simp)) (ee.trans e.1), froms_is (fun x hx => h x (List.mem_cons_of_mem _ hx)) (fun x hx => k x (List.mem_cons_of_mem _ hx)) e.2⟩
  | [], _ :: _, _, _, e => by simp at e
  | _ :: _, [], _, _, e => by simp at e
theorem PrefOk.all {p q : List P} {M : Nat} (h : PrefOk p q M q.length) : (prefT (p.map trP) (q.map trP) q.length).map fromT = commonP p q := froms_is h.pos h.pc.ok h.eq
/-- what's answered: how long its numbers are -/
theorem common_sz {m : Nat} {p q : List P} (hp : Piece p) (hq : Piece q) (sp : ∀ z ∈ p, SzT m (trP z)) (sq : ∀ z ∈ q, SzT m (trP z)) : (commonP p q).length ≤ p.length + 2 * q.length ∧ ∀ z ∈ commonP p q, OkP z ∧ SzP (4 * m + 3) z ∧ SzT (4 * m + 3) (trP z) := by
  by_cases hm : Meets p q
  · have h := pref_ok hp hq sp sq hm q.length (Nat.le_refl _)
    refine ⟨h.few, fun z hz => ?_⟩
    have ok := h.pc.ok z hz
    have e := h.all
    rw [← e] at hz
    obtain ⟨t, ht, rfl⟩ := List.mem_map.mp hz
    refine ⟨ok, fromT_sz (h.pos t ht) (h.sz t ht), ?_⟩
    have zp := h.pos t ht
    have zr : t.z ≠ 0 := by omega
    obtain ⟨k1, k2, k3⟩ := (trP_low ok).bound (trP_pos ok) (N := t.x) (M := t.y) (D := t.z) zr (by rw [tv_trP ok, (fromT_is zp).2]; rfl) (by rw [tv_trP ok, (fromT_is zp).2]; rfl)
    have s := h.sz t ht
    exact ⟨Nat.lt_of_le_of_lt k1 s.1, Nat.lt_of_le_of_lt k2 s.2.1, Nat.lt_of_le_of_lt k3 s.2.2⟩
  · rw [common_dead hp hq hm]
    exact ⟨by simp, fun z hz => by simp at hz⟩
/-- is_cut_off, as the program asks it -/
def cutB (p q : List P) : Bool := (List.range p.length).any fun k => q.all fun v => decide (offT (lineT (aT (p.map trP) (k + p.length - 1)) (aT (p.map trP) k)) (trP v) ≤ 0)
theorem cutB_iff {p q : List P} (hp : Piece p) (hq : OkL q) : cutB p q = true ↔ CutOff p q := by
  have p0 : 0 < p.length := by have := hp.three; omega
  have pp := trs_pos hp.ok
  have ev : ∀ k v, v ∈ q → (offT (lineT (aT (p.map trP) (k + p.length - 1)) (aT (p.map trP) k)) (trP v) ≤ 0 ↔ tn (pv (Kzq1.at0 p (k + p.length - 1))) (pv (Kzq1.at0 p k)) (pv v) ≤ 0) := fun k v hv => by
    have := (off_pos (aT_pos pp (k + p.length - 1)) (aT_pos pp k) (trP_pos (hq v hv))).1
    rw [aT_at0 hp.ok, aT_at0 hp.ok, tv_trP (hq v hv)] at this
    rw [← Int.not_lt, ← Rat.not_lt, this]
  have bs := back_sides p0 (F := fun a b => ¬ ∀ v ∈ q, tn a b (pv v) ≤ 0)
  unfold cutB CutOff
  rw [List.any_eq_true]
  constructor
  · rintro ⟨k, hk, h⟩
    refine Classical.byContradiction fun no => ?_
    refine (bs.mpr fun i f => no ⟨i, f⟩) k hk fun v hv => ?_
    exact (ev k v hv).mp (decide_eq_true_eq.mp (List.all_eq_true.mp h v hv))
  · rintro ⟨i, h⟩
    refine Classical.byContradiction fun no => ?_
    refine (bs.mp fun k hk f => no ⟨k, hk, List.all_eq_true.mpr fun v hv => decide_eq_true ((ev k v hv).mpr (f v hv))⟩) i h
theorem not_cut {p q : List P} (hp : Piece p) (hq : Piece q) : (cutB p q || cutB q p) = false ↔ Meets p q := by
  rw [meets_not_cut hp hq, ← cutB_iff hp hq.ok, ← cutB_iff hq hp.ok, ← Bool.not_eq_true, Bool.or_eq_true]
/-- is_piece, as the program asks it -/
def pieceB (p : List P) : Bool := (List.range p.length).all fun k => (List.range (p.length - 2)).all fun j => decide (0 < offT (lineT (aT (p.map trP) (k + p.length - 1)) (aT (p.map trP) k)) (aT (p.map trP) (k + (1 + j))))
theorem pieceB_iff {p : List P} (ok : OkL p) (h3 : 3 ≤ p.length) : pieceB p = Kzq1.convex p := by
  have pp := trs_pos ok
  have ev : ∀ k j, (0 < offT (lineT (aT (p.map trP) (k + p.length - 1)) (aT (p.map trP) k)) (aT (p.map trP) (k + (1 + j))) ↔ 0 < tn (ac (p.map pv) (k + p.length - 1)) (ac (p.map pv) k) (ac (p.map pv) (k + (1 + j)))) := fun k j => by
    rw [(off_pos (aT_pos pp _) (aT_pos pp _) (aT_pos pp _)).1, aT_tv, aT_tv, aT_tv, trs_tv ok]
  rw [Bool.eq_iff_iff, convex_iff ok]
  unfold pieceB
  rw [List.all_eq_true]
  have lp : (p.map pv).length = p.length := List.length_map _
  constructor
  · intro h
    refine ⟨h3, tri_of_sides fun i hi j hj n1 n2 => ?_⟩
    rw [lp] at hi hj n2
    -- the side i is the one that leads to i + 1
    have hk : (i + 1) % p.length < p.length := Nat.mod_lt _ (by omega)
    have k1 : ∀ d, d < p.length - 2 → 0 < tn (ac (p.map pv) i) (ac (p.map pv) (i + 1)) (ac (p.map pv) (i + 1 + (1 + d))) := fun d hd => by
      have := decide_eq_true_eq.mp (List.all_eq_true.mp (h ((i + 1) % p.length) (List.mem_range.mpr hk)) d (List.mem_range.mpr hd))
      rw [ev] at this
      have e1 : ac (p.map pv) ((i + 1) % p.length + p.length - 1) = ac (p.map pv) i := by
        rw [← ac_mod, ← ac_mod (p.map pv) i, lp]
        congr 1
        by_cases c : i + 1 = p.length
        · rw [c, Nat.mod_self]
          have : i = p.length - 1 := by omega
          rw [Nat.zero_add, this]
        · rw [Nat.mod_eq_of_lt (show i + 1 < p.length by omega), show i + 1 + p.length - 1 = i + p.length by omega, Nat.add_mod_right]
      have e2 : ac (p.map pv) ((i + 1) % p.length) = ac (p.map pv) (i + 1) := by
        have := ac_mod (p.map pv) (i + 1)
        rw [lp] at this; exact this
      have e3 : ac (p.map pv) ((i + 1) % p.length + (1 + d)) = ac (p.map pv) (i + 1 + (1 + d)) := by
        rw [← ac_mod, ← ac_mod (p.map pv) (i + 1 + (1 + d)), lp, Nat.mod_add_mod]
      rw [e1, e2, e3] at this
      exact this
    by_cases c : i < j
    · by_cases c2 : j = i + 1
      · exfalso; rw [Nat.mod_eq_of_lt (by omega)] at n2; exact n2 c2
      · have := k1 (j - i - 2) (by omega)
        rw [show i + 1 + (1 + (j - i - 2)) = j by omega] at this
        exact this
    · have c3 : j < i := by omega
      have c4 : ¬ (i + 1 = p.length ∧ j = 0) := fun ⟨a, b⟩ => n2 (by rw [a, Nat.mod_self]; exact b)
      have := k1 (j + p.length - i - 2) (by omega)
      rw [show i + 1 + (1 + (j + p.length - i - 2)) = j + p.length by omega] at this
      have e : ac (p.map pv) (j + p.length) = ac (p.map pv) j := by
        have := ac_add (p.map pv) j
        rw [lp] at this; exact this
      rw [e] at this
      exact this
  · rintro ⟨_, T⟩ k hk
    have hk := List.mem_range.mp hk
    rw [List.all_eq_true]
    intro j hj
    have hj := List.mem_range.mp hj
    rw [decide_eq_true_eq, ev]
    have si : (k + p.length - 1) % p.length < p.length := Nat.mod_lt _ (by omega)
    have sj : (k + (1 + j)) % p.length < p.length := Nat.mod_lt _ (by omega)
    have := T.side (i := (k + p.length - 1) % p.length) (j := (k + (1 + j)) % p.length) (by rw [lp]; exact si) (by rw [lp]; exact sj)
    have a1 : ac (p.map pv) ((k + p.length - 1) % p.length) = ac (p.map pv) (k + p.length - 1) := by
      have := ac_mod (p.map pv) (k + p.length - 1); rw [lp] at this; exact this
    have a2 : ac (p.map pv) ((k + (1 + j)) % p.length) = ac (p.map pv) (k + (1 + j)) := by
      have := ac_mod (p.map pv) (k + (1 + j)); rw [lp] at this; exact this
    have a3 : ac (p.map pv) ((k + p.length - 1) % p.length + 1) = ac (p.map pv) k := by
      rw [← ac_mod, ← ac_mod (p.map pv) k, lp, Nat.mod_add_mod, show k + p.length - 1 + 1 = k + p.length by omega, Nat.add_mod_right]
    have a4 : ((k + p.length - 1) % p.length + 1) % p.length = k := by
      rw [Nat.mod_add_mod, show k + p.length - 1 + 1 = k + p.length by omega, Nat.add_mod_right, Nat.mod_eq_of_lt hk]
    rw [a1, a2, a3, lp, a4] at this
    rcases this with e | e | e
    · exfalso
      by_cases c : k + (1 + j) < p.length
      · rw [Nat.mod_eq_of_lt c] at e
        by_cases k0 : k = 0
        · rw [k0, Nat.zero_add, Nat.mod_eq_of_lt (by omega)] at e; omega
        · rw [show k + p.length - 1 = k - 1 + p.length by omega, Nat.add_mod_right, Nat.mod_eq_of_lt (by omega)] at e; omega
      · rw [show k + (1 + j) = k + (1 + j) - p.length + p.length by omega, Nat.add_mod_right, Nat.mod_eq_of_lt (by omega)] at e
        rw [show k + p.length - 1 = k - 1 + p.length by omega, Nat.add_mod_right, Nat.mod_eq_of_lt (by omega)] at e; omega
    · exfalso
      by_cases c : k + (1 + j) < p.length
      · rw [Nat.mod_eq_of_lt c] at e; omega
      · rw [show k + (1 + j) = k + (1 + j) - p.length + p.length by omega, Nat.add_mod_right, Nat.mod_eq_of_lt (by omega)] at e; omega
    · exact e
/-- has_within, as the program asks it -/
def inB (p : List P) (z : P) : Bool := (List.range p.length).all fun k => decide (0 ≤ offT (lineT (aT (p.map trP) (k + p.length - 1)) (aT (p.map trP) k)) (trP z))
theorem inB_iff {p : List P} {z : P} (ok : OkL p) (p0 : 0 < p.length) (oz : OkP z) : inB p z = true ↔ RgP p (pv z) := by
  have pp := trs_pos ok
  unfold inB
  rw [List.all_eq_true, rg_sides]
  rw [← back_sides p0 (F := fun a b => 0 ≤ tn a b (pv z))]
  refine forall_congr' fun k => forall_congr' fun hk => ?_
  have := (off_pos (aT_pos pp (k + p.length - 1)) (aT_pos pp k) (trP_pos oz)).2
  rw [aT_at0 ok, aT_at0 ok, tv_trP oz] at this
  rw [decide_eq_true_eq, ← Int.not_lt, ← Rat.not_lt, this]
end Sc
namespace ScA
open PySem PySem.Spec PyProof.Rows L2
open Sc
def top (i : Nat) : Stmt := PySem.Challenge.pw_stripcut_s03_shear.main.body.getD i (.Pass ⟨0, 0, 0, 0⟩)
abbrev s_common_measure : Stmt := top 5
abbrev s_is_ratio : Stmt := top 6
abbrev s_read_ratio : Stmt := top 7
abbrev s_ratio : Stmt := top 8
abbrev s_plus : Stmt := top 9
abbrev s_minus : Stmt := top 10
abbrev s_times : Stmt := top 11
abbrev s_is_less : Stmt := top 12
abbrev s_Outline : Stmt := inClass (top 14) 0
abbrev s_over_one_bottom : Stmt := top 15
abbrev s_point_from : Stmt := top 16
abbrev s_lines_between : Stmt := top 17
abbrev s_line_through : Stmt := top 18
abbrev s_off_line : Stmt := top 19
abbrev s_common_corners : Stmt := top 21
abbrev s_is_cut_off : Stmt := top 22
abbrev s_has_none_left : Stmt := top 23
abbrev s_left_corners : Stmt := top 24
abbrev s_crossing : Stmt := top 25
abbrev s_read_point : Stmt := top 28
abbrev s_read_points : Stmt := top 29
abbrev s_point_numbers : Stmt := top 30
abbrev s_point_sum : Stmt := top 31
abbrev s_scaled : Stmt := top 32
abbrev s_cross : Stmt := top 33
abbrev s_is_before : Stmt := top 34
abbrev s_Part : Stmt := inClass (top 36) 0
abbrev s_cutting_numbers : Stmt := top 37
abbrev s_piece_of : Stmt := top 38
abbrev s_FourSides : Stmt := inClass (top 41) 0
abbrev s_read_four_sides : Stmt := top 42
abbrev s_sheared : Stmt := top 43
abbrev s_slides_with_a_piece : Stmt := top 44
abbrev s_sheared_part : Stmt := top 45
abbrev s_square_shares : Stmt := top 46
abbrev s_slid_shares : Stmt := top 47
abbrev s_point_at : Stmt := top 48
abbrev s_shear : Stmt := top 50
abbrev s_cutting_answer : Stmt := top 51
end ScA
namespace ScA
open PySem PySem.Spec PyProof.Rows L2
open Sc
abbrev Fr := Kzq1.Q
abbrev Pt := Kzq1.P
theorem ifT {c : Bool} {A B : Prop} (hc : c = true) (h : A) : if c = true then A else B := by rw [if_pos hc]; exact h
theorem ifF {c : Bool} {A B : Prop} (hc : c = false) (h : B) : if c = true then A else B := by rw [hc, if_neg Bool.false_ne_true]; exact h
/-! how fractions and points lie in the heap -/
def FrAt (H : Hp) (a : Addr) (q : Fr) : Prop := H a = some (.tup [.int q.n, .int (q.d : Int)])
def PtAt (H : Hp) (a : Addr) (p : Pt) : Prop := ∃ x y, H a = some (.tup [.ref x, .ref y]) ∧ FrAt H x p.x ∧ FrAt H y p.y
theorem FrAt.mono {H H' : Hp} {a : Addr} {q : Fr} (h : FrAt H a q) (s : Same H H') : FrAt H' a q := s _ _ h
theorem PtAt.mono {H H' : Hp} {a : Addr} {p : Pt} (h : PtAt H a p) (s : Same H H') : PtAt H' a p :=
  let ⟨x, y, h1, h2, h3⟩ := h
  ⟨x, y, s _ _ h1, h2.mono s, h3.mono s⟩
theorem Same.new {H : Hp} {p : Addr} {o : HO} (h : H p = none) : Same H (upd H p o) := fun b o' e => by rw [upd_ne (ne_of_none e h)]; exact e
/-- no division of a number below 2 ^ 13500 goes by _pylong -/
theorem noPy {x y : Int} (h : x.natAbs < 2 ^ 13500) : Builtin.divisionGoesByPylong x y = false := by
  have key : ¬ ((if y == 0 then 0 else y.natAbs.log2 / 30 + 1) > 300 ∧ (if x == 0 then 0 else x.natAbs.log2 / 30 + 1) > (if y == 0 then 0 else y.natAbs.log2 / 30 + 1) + 150) := by
    rintro ⟨h1, h2⟩
    by_cases hx : (x == 0) = true
    · rw [if_pos hx] at h2; omega
    · rw [if_neg hx] at h2
      have n0 : x.natAbs ≠ 0 := by simpa using hx
      have := (Nat.log2_lt n0).mpr h
      omega
  show (decide ((if y == 0 then 0 else y.natAbs.log2 / 30 + 1) > 300) && decide ((if x == 0 then 0 else x.natAbs.log2 / 30 + 1) > (if y == 0 then 0 else y.natAbs.log2 / 30 + 1) + 150)) = false
  rw [← Bool.decide_and]
  exact decide_eq_false key
section
variable {X : Cx}
theorem op_fdivZ : OpR X (binaryOp .FloorDiv) (rI (fun i j => j ≠ 0 ∧ i.natAbs < 2 ^ 13500) fun i j => .int (i.fdiv j)) :=
  opI fun _ j _ _ _ _ _ hc q => floordiv_int hc.1 q (.inl (noPy hc.2))
theorem op_fdivY : OpR X (binaryOp .FloorDiv) (rI (fun _ j => j ≠ 0 ∧ j.natAbs < 2 ^ 9000) fun i j => .int (i.fdiv j)) :=
  opI fun _ j _ _ _ _ _ hc q => floordiv_int hc.1 q (.inl (PyProof.noPylong_of_log2 (PySem.Flt.log2_lt_of (by decide) hc.2)))
end
theorem wmul {i j : Int} {a b : Nat} (ha : i.natAbs < 2 ^ a) (hb : j.natAbs < 2 ^ b) (hk : a + b ≤ 100000) : CMulW i j := by
  have p : 2 ^ a ≤ 2 ^ (a + 1) := Nat.pow_le_pow_right (by omega) (by omega)
  have q : 2 ^ b ≤ 2 ^ (b + 1) := Nat.pow_le_pow_right (by omega) (by omega)
  exact wide_mul (a := a + 1) (b := b + 1) (Nat.lt_of_lt_of_le ha p) (Nat.lt_of_lt_of_le hb q) (by omega) (by omega) (by omega)
theorem szl : sizeLine = 16777216 := by decide
theorem take_more {α : Type} {l : List α} {i : Nat} {x : α} (h : l[i]? = some x) : l.take (i + 1) = l.take i ++ [x] := by
  rw [List.take_succ, h]; rfl
end ScA
namespace ScA
open PySem PySem.Spec PyProof.Rows L2
open Sc
section
variable {Pg : Program} {w : World} {K : PySem.W.Frag} {mg : Str → Option Value} {base : Heap} {CF CP CS fP fS : Addr}
/-! common_measure -/
def spCm : Sp := fun vs H Q _ => ∃ a b : Int, vs = [.int a, .int b] ∧ Q (.int (gcdI a b)) H
theorem scCm : FnScope ["a", "b", "larger", "smaller", "rest"] ["a", "b"] (defScope s_common_measure) := ⟨rfl, rfl, rfl, by decide +kernel, rfl, by decide +kernel, by decide +kernel⟩
theorem ok_cm {f : Addr} {fd : FuncData} (F : Fun K "common_measure" "common_measure" s_common_measure f fd) (mAbs : mg "abs" = none) : FnOk Pg w K mg base CX0 1 f fd ["a", "b"] spCm := by
  refine F.ok scCm (fun vs H Q E h => ?_) (fun cdv A outer s H vs Q E hr h => ⟨_, pss_cons (ps_set (i := 2) scCm.nd rfl (Or.inl rfl) (pe_callB call_abs (by rfl) mAbs (by decide +kernel) (pa_cons (pv 0) pa_nil)))
    (pss_cons (ps_set (i := 3) scCm.nd rfl (Or.inl rfl) (pe_callB call_abs (by rfl) mAbs (by decide +kernel) (pa_cons (pv 1) pa_nil)))
    (pss_cons (ps_while PassesOwn.never (pt_cmpR op_ne (pv 3) pe_int (nomark _)) (pss_cons (ps_set (i := 4) scCm.nd rfl (Or.inl rfl) (pe_op op_mod (pv 2) (pv 3))) (pss_cons (ps_set (i := 2) scCm.nd rfl (Or.inl rfl) (pv 3)) (pss_one (ps_set (i := 3) scCm.nd rfl (Or.inl rfl) (pv 4))))))
    (pss_one (ps_ret (pv 2))))), ?_⟩)
  · obtain ⟨a, b, rfl, _⟩ := h
    rfl
  · obtain ⟨a, b, rfl, k⟩ := h
    refine ⟨_, rfl, _, rfl, ?_⟩
    refine ⟨_, rfl, _, rfl, ?_⟩
    refine while_by (fun σ H' => H' = H ∧ ∃ (x y : Int) (r : Option V), σ = [some (.int a), some (.int b), some (.int x), some (.int y), r] ∧ 0 ≤ x ∧ 0 ≤ y ∧ gcdI x y = gcdI a b)
      (fun σ _ => match σ with
        | [_, _, _, some (.int y), _] => y.natAbs
        | _ => 0) ⟨rfl, _, _, none, rfl, by split <;> omega, by split <;> omega, ?_⟩ ?_ ?_
    · unfold gcdI
      congr 2 <;> (split <;> omega)
    · rintro σ H' ⟨rfl, x, y, r, rfl, hx, hy, hg⟩
      refine ⟨_, rfl, rfl, _, rfl, ?_⟩
      by_cases c : y = 0
      · subst c
        refine ifF rfl ?_
        refine ⟨_, rfl, ?_⟩
        have e : gcdI x 0 = x := by unfold gcdI; rw [Int.natAbs_zero, Nat.gcd_zero_right]; omega
        rw [e] at hg
        rw [hg]; exact k
      · have cy : 0 < y := by omega
        refine ifT (by simp [c]) ?_
        refine ⟨_, rfl, _, rfl, _, _, rfl, rfl, cy, _, rfl, _, rfl, ⟨rfl, y, x % y, _, rfl, hy, Int.emod_nonneg _ c, ?_⟩, ?_⟩
        · rw [← hg]
          unfold gcdI
          have e : (x % y).natAbs = x.natAbs % y.natAbs := by
            rw [Int.natAbs_emod_of_nonneg hx]
          rw [e, Nat.gcd_comm x.natAbs, Nat.gcd_rec y.natAbs x.natAbs, Nat.gcd_comm]
        · show (x % y).natAbs < y.natAbs
          have h1 := Int.emod_nonneg x c
          have h2 := Int.emod_lt_of_pos x cy
          omega
    · rintro σ H' Q1 Q2 hQ ⟨v, hv, hs, b, e, q⟩
      exact ⟨v, hv, hs, b, e, hQ _ _ q⟩
end
end ScA
namespace ScA
open PySem PySem.Spec PyProof.Rows L2
open Sc
section
variable {Pg : Program} {w : World} {K : PySem.W.Frag} {mg : Str → Option Value} {base : Heap} {CF CP CS fP fS : Addr}
/-! is_ratio -/
def isR (t b : Int) : Bool := decide (1 ≤ b) && decide (gcdI t b = 1)
def spIsr : Sp := fun vs H Q _ => ∃ t b : Int, vs = [.int t, .int b] ∧ Q (.bl (isR t b)) H
theorem scIsr : FnScope ["top", "bottom"] ["top", "bottom"] (defScope s_is_ratio) := ⟨rfl, rfl, rfl, by decide +kernel, rfl, by decide +kernel, by decide +kernel⟩
theorem ok_isr {f fC : Addr} {fd fdC : FuncData} (F : Fun K "is_ratio" "is_ratio" s_is_ratio f fd) (GC : FnOk Pg w K mg base CX0 1 fC fdC ["a", "b"] spCm) (mC : mg "common_measure" = some (.ref fC)) (kC : PySem.W.keepIn K (.ref fC) = true) (bC : Binds K fdC ["a", "b"] []) :
    FnOk Pg w K mg base CX0 2 f fd ["top", "bottom"] spIsr := by
  refine F.ok scIsr (fun vs H Q E h => ?_) (fun cdv A outer s H vs Q E hr h => ⟨_, pss_one (ps_ret (pe_and (pe_cmpR op_ge (pv 1) pe_int (nomark _)) (pe_one (pe_cmpR op_eq (pe_call GC hr rfl mC kC bC .nil pass0 (pa_cons (pv 0) (pa_cons (pv 1) pa_nil))) pe_int (nomark _))))), ?_⟩)
  · obtain ⟨a, b, rfl, _⟩ := h
    rfl
  · obtain ⟨t, b, rfl, k⟩ := h
    refine ⟨_, rfl, _, _, rfl, rfl, _, rfl, ?_⟩
    unfold isR at k
    by_cases c : 1 ≤ b
    · rw [decide_eq_true c] at k ⊢
      refine ifT rfl ?_
      refine ⟨_, rfl, _, rfl, _, _, rfl, rfl, ?_⟩
      rw [Bool.true_and] at k
      have e : decide (V.int (gcdI t b) = V.int 1) = decide (gcdI t b = 1) := by
        rw [decide_eq_decide]; exact ⟨fun e => by injection e, fun e => by rw [e]⟩
      show Q (V.bl (decide (V.int (gcdI t b) = V.int 1))) H
      rw [e]; exact k
    · rw [decide_eq_false c] at k ⊢
      exact ifF rfl k
end
end ScA
namespace ScA
open PySem PySem.Spec PyProof.Rows L2
open Sc
section
variable {Pg : Program} {w : World} {K : PySem.W.Frag} {mg : Str → Option Value} {base : Heap} {CF CP CS fP fS : Addr}
/-! ratio -/
def spRat : Sp := fun vs H Q _ => ∃ t b : Int, vs = [.int t, .int b] ∧ b ≠ 0 ∧ t.natAbs < 2 ^ 13500 ∧ b.natAbs < 2 ^ 13500 ∧ ∀ H' p, Same H H' → H p = none → FrAt H' p (mkI t b) → Q (.ref p) H'
theorem scRat : FnScope ["top", "bottom", "measure"] ["top", "bottom"] (defScope s_ratio) := ⟨rfl, rfl, rfl, by decide +kernel, rfl, by decide +kernel, by decide +kernel⟩
theorem ok_rat {f fC : Addr} {fd fdC : FuncData} (F : Fun K "ratio" "ratio" s_ratio f fd) (GC : FnOk Pg w K mg base CX0 1 fC fdC ["a", "b"] spCm) (mC : mg "common_measure" = some (.ref fC)) (kC : PySem.W.keepIn K (.ref fC) = true) (bC : Binds K fdC ["a", "b"] []) :
    FnOk Pg w K mg base CX0 2 f fd ["top", "bottom"] spRat := by
  refine F.ok scRat (fun vs H Q E h => ?_) (fun cdv A outer s H vs Q E hr h => ⟨_, pss_cons (ps_set (i := 2) scRat.nd rfl (Or.inl rfl) (pe_call GC hr rfl mC kC bC .nil pass0 (pa_cons (pv 0) (pa_cons (pv 1) pa_nil))))
    (pss_cons (ps_if (pt_cmpR op_lt (pv 1) pe_int (nomark _)) (pss_one (ps_set (i := 2) scRat.nd rfl (Or.inl rfl) (pe_un un_neg (pv 2)))) pss_nil)
    (pss_one (ps_ret (pe_tup (pa_cons (pe_op op_fdivZ (pv 0) (pv 2)) (pa_cons (pe_op op_fdivZ (pv 1) (pv 2)) pa_nil)))))), ?_⟩)
  · obtain ⟨a, b, rfl, _⟩ := h
    rfl
  · obtain ⟨t, b, rfl, h0, ht, hb, k⟩ := h
    have hg := gcdI_pos (t := t) h0
    have hl := gcdI_le (t := t) h0
    have fin : ∀ m : Int, m = (if b < 0 then -gcdI t b else gcdI t b) → ∀ p, H p = none → Q (.ref p) (upd H p (.tup [.int (t.fdiv m), .int (b.fdiv m)])) := fun m e p np => by
      subst e
      refine k _ p (Same.new np) np ?_
      unfold FrAt
      rw [upd_same, mkI_up h0, mkI_low h0]
    refine ⟨_, rfl, _, rfl, _, _, rfl, ?_⟩
    refine ⟨_, rfl, _, _, rfl, rfl, _, rfl, ?_⟩
    by_cases c : b < 0
    · refine ifT (decide_eq_true c) ?_
      refine ⟨_, rfl, _, rfl, ?_⟩
      refine ⟨_, rfl, _, rfl, _, _, rfl, rfl, ⟨by omega, ht⟩, _, rfl, _, rfl, _, _, rfl, rfl, ⟨by omega, hb⟩, (by show 2 ≤ sizeLine; decide), fin _ (by rw [if_pos c])⟩
    · refine ifF (decide_eq_false c) ?_
      refine ⟨_, rfl, _, rfl, _, _, rfl, rfl, ⟨by omega, ht⟩, _, rfl, _, rfl, _, _, rfl, rfl, ⟨by omega, hb⟩, (by show 2 ≤ sizeLine; decide), fin _ (by rw [if_neg c])⟩
end
end ScA
namespace ScA
open PySem PySem.Spec PyProof.Rows L2
open Sc
section
variable {Pg : Program} {w : World} {K : PySem.W.Frag} {mg : Str → Option Value} {base : Heap} {CF CP CS fP fS : Addr}
def spPlus : Sp := fun vs H Q _ => ∃ (x y : Addr) (a b : Fr) (j k : Nat), vs = [.ref x, .ref y] ∧ FrAt H x a ∧ FrAt H y b ∧ Ok a ∧ Ok b ∧ Sz j a ∧ Sz k b ∧ j + k + 1 ≤ 13500 ∧ ∀ H' p, Same H H' → H p = none → FrAt H' p (Kzq1.add a b) → Q (.ref p) H'
theorem scPlus : FnScope ["a", "b"] ["a", "b"] (defScope s_plus) := ⟨rfl, rfl, rfl, by decide +kernel, rfl, by decide +kernel, by decide +kernel⟩
theorem ok_plus {f fR : Addr} {fd fdR : FuncData} (F : Fun K "plus" "plus" s_plus f fd) (GR : FnOk Pg w K mg base CX0 2 fR fdR ["top", "bottom"] spRat) (mR : mg "ratio" = some (.ref fR)) (kR : PySem.W.keepIn K (.ref fR) = true) (bR : Binds K fdR ["top", "bottom"] []) :
    FnOk Pg w K mg base CX0 3 f fd ["a", "b"] spPlus := by
  refine F.ok scPlus (fun vs H Q E h => ?_) (fun cdv A outer s H vs Q E hr h => ⟨_, pss_one (ps_ret (pe_call GR hr rfl mR kR bR .nil pass0
    (pa_cons (pe_op op_add (pe_op op_mulW (pe_ix ix_tup (pv 0) pe_int (fun _ _ => rfl)) (pe_ix ix_tup (pv 1) pe_int (fun _ _ => rfl))) (pe_op op_mulW (pe_ix ix_tup (pv 1) pe_int (fun _ _ => rfl)) (pe_ix ix_tup (pv 0) pe_int (fun _ _ => rfl)))) (pa_cons (pe_op op_mulW (pe_ix ix_tup (pv 0) pe_int (fun _ _ => rfl)) (pe_ix ix_tup (pv 1) pe_int (fun _ _ => rfl))) pa_nil)))), ?_⟩)
  · obtain ⟨x, y, a, b, j, k, rfl, _⟩ := h
    rfl
  · obtain ⟨x, y, a, b, j, k, rfl, hx, hy, oa, ob, sa, sb, hk, q⟩ := h
    have da : ((a.d : Int)).natAbs < 2 ^ j := by simpa using sa.2
    have db : ((b.d : Int)).natAbs < 2 ^ k := by simpa using sb.2
    have hp : 0 < a.d * b.d := Nat.mul_pos oa.1 ob.1
    have hp2 : ((a.d : Int) * (b.d : Int)) = ((a.d * b.d : Nat) : Int) := by simp
    have up : ∀ {z : Int} {m : Nat}, z.natAbs < 2 ^ m → m ≤ 13500 → z.natAbs < 2 ^ 13500 := fun h1 h2 => Nat.lt_of_lt_of_le h1 (Nat.pow_le_pow_right (by omega) h2)
    refine ⟨_, rfl, x, _, 0, _, rfl, rfl, SqT.of hx, rfl, _, rfl, y, _, 1, _, rfl, rfl, SqT.of hy, rfl, _, _, rfl, rfl, wmul sa.1 db (by omega), ?_⟩
    refine ⟨_, rfl, y, _, 0, _, rfl, rfl, SqT.of hy, rfl, _, rfl, x, _, 1, _, rfl, rfl, SqT.of hx, rfl, _, _, rfl, rfl, wmul sb.1 da (by omega), ?_⟩
    refine ⟨_, _, rfl, rfl, ?_⟩
    refine ⟨_, rfl, x, _, 1, _, rfl, rfl, SqT.of hx, rfl, _, rfl, y, _, 1, _, rfl, rfl, SqT.of hy, rfl, _, _, rfl, rfl, wmul da db (by omega), ?_⟩
    refine ⟨_, _, rfl, by rw [hp2]; omega, up (cross_lt sa.1 db sb.1 da) (by omega), up (mul_lt da db) (by omega), fun H' p s' np fr => q H' p s' np ?_⟩
    rw [hp2, mkI_nat hp] at fr
    exact fr
end
end ScA
namespace ScA
open PySem PySem.Spec PyProof.Rows L2
open Sc
section
variable {Pg : Program} {w : World} {K : PySem.W.Frag} {mg : Str → Option Value} {base : Heap} {CF CP CS fP fS : Addr}
def spMinus : Sp := fun vs H Q _ => ∃ (x y : Addr) (a b : Fr) (j k : Nat), vs = [.ref x, .ref y] ∧ FrAt H x a ∧ FrAt H y b ∧ Ok a ∧ Ok b ∧ Sz j a ∧ Sz k b ∧ j + k + 1 ≤ 13500 ∧ ∀ H' p, Same H H' → H p = none → FrAt H' p (Kzq1.sub a b) → Q (.ref p) H'
theorem scMinus : FnScope ["a", "b"] ["a", "b"] (defScope s_minus) := ⟨rfl, rfl, rfl, by decide +kernel, rfl, by decide +kernel, by decide +kernel⟩
theorem ok_minus {f fR : Addr} {fd fdR : FuncData} (F : Fun K "minus" "minus" s_minus f fd) (GR : FnOk Pg w K mg base CX0 2 fR fdR ["top", "bottom"] spRat) (mR : mg "ratio" = some (.ref fR)) (kR : PySem.W.keepIn K (.ref fR) = true) (bR : Binds K fdR ["top", "bottom"] []) :
    FnOk Pg w K mg base CX0 3 f fd ["a", "b"] spMinus := by
  refine F.ok scMinus (fun vs H Q E h => ?_) (fun cdv A outer s H vs Q E hr h => ⟨_, pss_one (ps_ret (pe_call GR hr rfl mR kR bR .nil pass0
    (pa_cons (pe_op op_sub (pe_op op_mulW (pe_ix ix_tup (pv 0) pe_int (fun _ _ => rfl)) (pe_ix ix_tup (pv 1) pe_int (fun _ _ => rfl))) (pe_op op_mulW (pe_ix ix_tup (pv 1) pe_int (fun _ _ => rfl)) (pe_ix ix_tup (pv 0) pe_int (fun _ _ => rfl)))) (pa_cons (pe_op op_mulW (pe_ix ix_tup (pv 0) pe_int (fun _ _ => rfl)) (pe_ix ix_tup (pv 1) pe_int (fun _ _ => rfl))) pa_nil)))), ?_⟩)
  · obtain ⟨x, y, a, b, j, k, rfl, _⟩ := h
    rfl
  · obtain ⟨x, y, a, b, j, k, rfl, hx, hy, oa, ob, sa, sb, hk, q⟩ := h
    have da : ((a.d : Int)).natAbs < 2 ^ j := by simpa using sa.2
    have db : ((b.d : Int)).natAbs < 2 ^ k := by simpa using sb.2
    have hp : 0 < a.d * b.d := Nat.mul_pos oa.1 ob.1
    have hp2 : ((a.d : Int) * (b.d : Int)) = ((a.d * b.d : Nat) : Int) := by simp
    have up : ∀ {z : Int} {m : Nat}, z.natAbs < 2 ^ m → m ≤ 13500 → z.natAbs < 2 ^ 13500 := fun h1 h2 => Nat.lt_of_lt_of_le h1 (Nat.pow_le_pow_right (by omega) h2)
    have em : a.n * (b.d : Int) - b.n * (a.d : Int) = a.n * (b.d : Int) + (-b.n) * (a.d : Int) := by rw [Int.neg_mul]; omega
    refine ⟨_, rfl, x, _, 0, _, rfl, rfl, SqT.of hx, rfl, _, rfl, y, _, 1, _, rfl, rfl, SqT.of hy, rfl, _, _, rfl, rfl, wmul sa.1 db (by omega), ?_⟩
    refine ⟨_, rfl, y, _, 0, _, rfl, rfl, SqT.of hy, rfl, _, rfl, x, _, 1, _, rfl, rfl, SqT.of hx, rfl, _, _, rfl, rfl, wmul sb.1 da (by omega), ?_⟩
    refine ⟨_, _, rfl, rfl, ?_⟩
    refine ⟨_, rfl, x, _, 1, _, rfl, rfl, SqT.of hx, rfl, _, rfl, y, _, 1, _, rfl, rfl, SqT.of hy, rfl, _, _, rfl, rfl, wmul da db (by omega), ?_⟩
    refine ⟨_, _, rfl, by rw [hp2]; omega, (by rw [em]; exact up (cross_lt sa.1 db (by rw [Int.natAbs_neg]; exact sb.1) da) (by omega)), up (mul_lt da db) (by omega), fun H' p s' np fr => q H' p s' np ?_⟩
    rw [hp2, mkI_nat hp, em] at fr
    exact fr
end
end ScA
namespace ScA
open PySem PySem.Spec PyProof.Rows L2
open Sc
section
variable {Pg : Program} {w : World} {K : PySem.W.Frag} {mg : Str → Option Value} {base : Heap} {CF CP CS fP fS : Addr}
def spTimes : Sp := fun vs H Q _ => ∃ (x y : Addr) (a b : Fr) (j k : Nat), vs = [.ref x, .ref y] ∧ FrAt H x a ∧ FrAt H y b ∧ Ok a ∧ Ok b ∧ Sz j a ∧ Sz k b ∧ j + k + 1 ≤ 13500 ∧ ∀ H' p, Same H H' → H p = none → FrAt H' p (Kzq1.mul a b) → Q (.ref p) H'
theorem scTimes : FnScope ["a", "b"] ["a", "b"] (defScope s_times) := ⟨rfl, rfl, rfl, by decide +kernel, rfl, by decide +kernel, by decide +kernel⟩
theorem ok_times {f fR : Addr} {fd fdR : FuncData} (F : Fun K "times" "times" s_times f fd) (GR : FnOk Pg w K mg base CX0 2 fR fdR ["top", "bottom"] spRat) (mR : mg "ratio" = some (.ref fR)) (kR : PySem.W.keepIn K (.ref fR) = true) (bR : Binds K fdR ["top", "bottom"] []) :
    FnOk Pg w K mg base CX0 3 f fd ["a", "b"] spTimes := by
  refine F.ok scTimes (fun vs H Q E h => ?_) (fun cdv A outer s H vs Q E hr h => ⟨_, pss_one (ps_ret (pe_call GR hr rfl mR kR bR .nil pass0
    (pa_cons (pe_op op_mulW (pe_ix ix_tup (pv 0) pe_int (fun _ _ => rfl)) (pe_ix ix_tup (pv 1) pe_int (fun _ _ => rfl))) (pa_cons (pe_op op_mulW (pe_ix ix_tup (pv 0) pe_int (fun _ _ => rfl)) (pe_ix ix_tup (pv 1) pe_int (fun _ _ => rfl))) pa_nil)))), ?_⟩)
  · obtain ⟨x, y, a, b, j, k, rfl, _⟩ := h
    rfl
  · obtain ⟨x, y, a, b, j, k, rfl, hx, hy, oa, ob, sa, sb, hk, q⟩ := h
    have da : ((a.d : Int)).natAbs < 2 ^ j := by simpa using sa.2
    have db : ((b.d : Int)).natAbs < 2 ^ k := by simpa using sb.2
    have hp : 0 < a.d * b.d := Nat.mul_pos oa.1 ob.1
    have hp2 : ((a.d : Int) * (b.d : Int)) = ((a.d * b.d : Nat) : Int) := by simp
    have up : ∀ {z : Int} {m : Nat}, z.natAbs < 2 ^ m → m ≤ 13500 → z.natAbs < 2 ^ 13500 := fun h1 h2 => Nat.lt_of_lt_of_le h1 (Nat.pow_le_pow_right (by omega) h2)
    refine ⟨_, rfl, x, _, 0, _, rfl, rfl, SqT.of hx, rfl, _, rfl, y, _, 0, _, rfl, rfl, SqT.of hy, rfl, _, _, rfl, rfl, wmul sa.1 sb.1 (by omega), ?_⟩
    refine ⟨_, rfl, x, _, 1, _, rfl, rfl, SqT.of hx, rfl, _, rfl, y, _, 1, _, rfl, rfl, SqT.of hy, rfl, _, _, rfl, rfl, wmul da db (by omega), ?_⟩
    refine ⟨_, _, rfl, by rw [hp2]; omega, up (mul_lt sa.1 sb.1) (by omega), up (mul_lt da db) (by omega), fun H' p s' np fr => q H' p s' np ?_⟩
    rw [hp2, mkI_nat hp] at fr
    exact fr
end
end ScA
namespace ScA
open PySem PySem.Spec PyProof.Rows L2
open Sc
section
variable {Pg : Program} {w : World} {K : PySem.W.Frag} {mg : Str → Option Value} {base : Heap} {CF CP CS fP fS : Addr}
def spLess : Sp := fun vs H Q _ => ∃ (x y : Addr) (a b : Fr) (j k : Nat), vs = [.ref x, .ref y] ∧ FrAt H x a ∧ FrAt H y b ∧ Sz j a ∧ Sz k b ∧ j + k ≤ 50000 ∧ Q (.bl (Kzq1.lt a b)) H
theorem scLess : FnScope ["a", "b"] ["a", "b"] (defScope s_is_less) := ⟨rfl, rfl, rfl, by decide +kernel, rfl, by decide +kernel, by decide +kernel⟩
theorem ok_less {f : Addr} {fd : FuncData} (F : Fun K "is_less" "is_less" s_is_less f fd) : FnOk Pg w K mg base CX0 1 f fd ["a", "b"] spLess := by
  refine F.ok scLess (fun vs H Q E h => ?_) (fun cdv A outer s H vs Q E hr h => ⟨_, pss_one (ps_ret (pe_cmpR op_lt
    (pe_op op_mulW (pe_ix ix_tup (pv 0) pe_int (fun _ _ => rfl)) (pe_ix ix_tup (pv 1) pe_int (fun _ _ => rfl))) (pe_op op_mulW (pe_ix ix_tup (pv 1) pe_int (fun _ _ => rfl)) (pe_ix ix_tup (pv 0) pe_int (fun _ _ => rfl))) (nomark _))), ?_⟩)
  · obtain ⟨x, y, a, b, j, k, rfl, _⟩ := h
    rfl
  · obtain ⟨x, y, a, b, j, k, rfl, hx, hy, sa, sb, hk, q⟩ := h
    have da : ((a.d : Int)).natAbs < 2 ^ j := by simpa using sa.2
    have db : ((b.d : Int)).natAbs < 2 ^ k := by simpa using sb.2
    refine ⟨_, rfl, x, _, 0, _, rfl, rfl, SqT.of hx, rfl, _, rfl, y, _, 1, _, rfl, rfl, SqT.of hy, rfl, _, _, rfl, rfl, wmul sa.1 db (by omega), ?_⟩
    refine ⟨_, rfl, y, _, 0, _, rfl, rfl, SqT.of hy, rfl, _, rfl, x, _, 1, _, rfl, rfl, SqT.of hx, rfl, _, _, rfl, rfl, wmul sb.1 da (by omega), ?_⟩
    exact ⟨_, _, rfl, rfl, q⟩
end

end ScA
namespace ScA
open PySem PySem.Spec PyProof.Rows L2
open Sc
/-- what the top has written of NotAsTold -/
structure ErrTx (nm : Str) (K : PySem.W.Frag) (mg : Str → Option Value) (C : Addr) : Prop where
  g : mg nm = some (.ref C)
  x : PySem.W.excIn K C [.type "ValueError", .type "Exception", .type "BaseException", .type "object"] "ValueError.__new__" = true
  k : PySem.W.keepIn K (.ref C) = true
  b : PySem.W.subIn K (.ref C) (.type "BaseException") = some true
  t : PySem.W.typeIn K (.ref C) = some (.type "type")
  e : PySem.W.exmOne K (.ref C) (.ref C) = some true
abbrev ErrTxt (K : PySem.W.Frag) (mg : Str → Option Value) (C : Addr) : Prop := ErrTx "NotAsTold" K mg C
end ScA
namespace ScA
open PySem PySem.Spec PyProof.Rows L2
open Sc
section
variable {Pg : Program} {w : World} {K : PySem.W.Frag} {mg : Str → Option Value} {base : Heap} {CF CP CS fP fS : Addr}
theorem readQ_isR (a b : Int) : Kzq1.readQ a b = if isR a b = true then some ⟨a, b.toNat⟩ else none := by
  unfold Kzq1.readQ isR
  by_cases c : b < 1
  · rw [if_pos c, decide_eq_false (by omega)]; rfl
  · rw [if_neg c, decide_eq_true (show 1 ≤ b by omega), Bool.true_and]
    have e : Kzq1.okQ ⟨a, b.toNat⟩ = decide (gcdI a b = 1) := by
      rw [Bool.eq_iff_iff, okQ_iff, decide_eq_true_eq]
      unfold Ok gcdI
      have e2 : b.toNat = b.natAbs := by omega
      dsimp only
      rw [e2]
      constructor
      · rintro ⟨_, h⟩; rw [h]; rfl
      · intro h; exact ⟨by omega, by omega⟩
    rw [e]
theorem rdPt_eq (x0 x1 x2 x3 : Int) : rdPt [x0, x1, x2, x3] = if isR x0 x1 = true then (if isR x2 x3 = true then some ⟨⟨x0, x1.toNat⟩, ⟨x2, x3.toNat⟩⟩ else none) else none := by
  show (match Kzq1.readQ x0 x1, Kzq1.readQ x2 x3 with
    | some x, some y => some (⟨x, y⟩ : Pt)
    | _, _ => none) = _
  rw [readQ_isR, readQ_isR]
  by_cases c1 : isR x0 x1 = true <;> by_cases c2 : isR x2 x3 = true
  · rw [if_pos c1, if_pos c2, if_pos c1, if_pos c2]
  · rw [if_pos c1, if_neg c2, if_pos c1, if_neg c2]
  · rw [if_neg c1, if_pos c2, if_neg c1]
  · rw [if_neg c1, if_neg c2, if_neg c1]
theorem isR_ok {t b : Int} (h : isR t b = true) : Ok ⟨t, b.toNat⟩ ∧ ((b.toNat : Nat) : Int) = b := by
  unfold isR at h
  rw [Bool.and_eq_true, decide_eq_true_eq, decide_eq_true_eq] at h
  obtain ⟨h1, h2⟩ := h
  unfold gcdI at h2
  have e2 : b.toNat = b.natAbs := by omega
  refine ⟨⟨by show 0 < b.toNat; omega, ?_⟩, by omega⟩
  show Nat.gcd t.natAbs b.toNat = 1
  rw [e2]; omega
end
end ScA
namespace ScA
open PySem PySem.Spec PyProof.Rows L2
open Sc
/-- tuples stay -/
def Tu (H H' : Hp) : Prop := ∀ b xs, H b = some (.tup xs) → H' b = some (.tup xs)
theorem Tu.of {H H' : Hp} (s : Same H H') : Tu H H' := fun b xs e => s b _ e
theorem Tu.trans {H H1 H2 : Hp} (a : Tu H H1) (b : Tu H1 H2) : Tu H H2 := fun c xs e => b c xs (a c xs e)
theorem Tu.lst {H : Hp} {D : Addr} {l : List V} {o : HO} (h : H D = some (.lst l)) : Tu H (upd H D o) := fun b xs e => by
  rw [upd_ne (ne_of e h (by intro z; cases z))]; exact e
theorem PtAt.tu {H H' : Hp} {a : Addr} {p : Pt} (h : PtAt H a p) (s : Tu H H') : PtAt H' a p :=
  let ⟨x, y, h1, h2, h3⟩ := h
  ⟨x, y, s _ _ h1, s _ _ h2, s _ _ h3⟩
def PtsAt (H : Hp) : List Addr → List Pt → Prop
  | [], [] => True
  | a :: as, p :: ps => PtAt H a p ∧ PtsAt H as ps
  | _, _ => False
theorem PtsAt.tu {H H' : Hp} (s : Tu H H') : ∀ {as : List Addr} {ps : List Pt}, PtsAt H as ps → PtsAt H' as ps
  | [], [], h => h
  | _ :: _, _ :: _, h => ⟨h.1.tu s, PtsAt.tu s h.2⟩
  | [], _ :: _, h => h.elim
  | _ :: _, [], h => h.elim
theorem PtsAt.len {H : Hp} : ∀ {as : List Addr} {ps : List Pt}, PtsAt H as ps → as.length = ps.length
  | [], [], _ => rfl
  | _ :: _, _ :: _, h => congrArg (· + 1) (PtsAt.len h.2)
  | [], _ :: _, h => h.elim
  | _ :: _, [], h => h.elim
theorem PtsAt.snoc {H : Hp} {a : Addr} {p : Pt} (hp : PtAt H a p) : ∀ {as : List Addr} {ps : List Pt}, PtsAt H as ps → PtsAt H (as ++ [a]) (ps ++ [p])
  | [], [], _ => ⟨hp, trivial⟩
  | _ :: _, _ :: _, h => ⟨h.1, PtsAt.snoc hp h.2⟩
  | [], _ :: _, h => h.elim
  | _ :: _, [], h => h.elim
theorem PtsAt.get {H : Hp} : ∀ {as : List Addr} {ps : List Pt} {i : Nat} {p : Pt}, PtsAt H as ps → ps[i]? = some p → ∃ a, as[i]? = some a ∧ PtAt H a p
  | a :: _, p :: _, 0, q, h, e => by
    have e : p = q := Option.some.inj e
    subst e
    exact ⟨a, rfl, h.1⟩
  | _ :: _, _ :: _, i + 1, q, h, e => PtsAt.get (i := i) (p := q) h.2 e
  | [], [], _, _, _, e => by simp at e
  | [], _ :: _, _, _, h, _ => h.elim
  | _ :: _, [], _, _, h, _ => h.elim
theorem cut4 (ns : List Int) (i : Nat) (z z' : Int) (hz : z = ((4 * i : Nat) : Int)) (hz' : z' = ((4 * i + 4 : Nat) : Int)) (h : 4 * i + 4 ≤ ns.length) : cutV (ns.map V.int) (some z) (some z') = ((ns.drop (4 * i)).take 4).map V.int := by
  subst hz hz'
  unfold cutV
  rw [HT.sIx_nat, HT.sIx_nat, List.length_map, Nat.min_eq_left (by omega), Nat.min_eq_left (by omega), show 4 * i + 4 - 4 * i = 4 by omega, List.map_take, List.map_drop]
theorem rgc4 {n : Nat} (h : n ≤ 1000) : RgC 0 ((4 * n : Nat) : Int) 4 n := by
  refine ⟨by decide, by decide, ?_, ?_⟩
  · unfold Builtin.Range.small
    have e : Builtin.Range.rangeSize 0 ((4 * n : Nat) : Int) 4 = (n : Int) := by
      unfold Builtin.Range.rangeSize
      rw [if_pos (by decide)]
      by_cases c : n = 0
      · subst c; rfl
      · rw [if_pos (by omega)]; omega
    rw [e, if_pos (show (4 : Int) > 0 by decide)]
    have fit : ∀ z : Int, 0 ≤ z → z < 5000 → Builtin.Range.rangeFitsLong z = true := fun z h1 h2 => by
      unfold Builtin.Range.rangeFitsLong
      rw [Bool.and_eq_true]
      exact ⟨decide_eq_true (by omega), decide_eq_true (by omega)⟩
    rw [fit 0 (by omega) (by omega), fit ((4 * n : Nat) : Int) (by omega) (by omega), fit 4 (by omega) (by omega), fit (n : Int) (by omega) (by omega), fit (((4 * n : Nat) : Int) + (4 - 1)) (by omega) (by omega), Bool.or_true]
    rfl
  · unfold Builtin.Range.rangeSize
    rw [if_pos (by decide)]
    by_cases c : n = 0
    · subst c; rfl
    · rw [if_pos (by omega)]; omega
end ScA
namespace ScA
open PySem PySem.Spec PyProof.Rows L2
open Sc
/-! data of fractions and points, compared -/
def frD (q : Fr) : PyData := .tuple [.int q.n, .int (q.d : Int)]
def ptD (p : Pt) : PyData := .tuple [frD p.x, frD p.y]
theorem eqv_fr (a b : Fr) : PyData.eqv (frD a) (frD b) = decide (a = b) := by
  obtain ⟨n, d⟩ := a
  obtain ⟨m, e⟩ := b
  show ((n == m) && (((d : Int) == (e : Int)) && true)) = _
  rw [Bool.eq_iff_iff, Bool.and_true, Bool.and_eq_true, beq_iff_eq, beq_iff_eq, decide_eq_true_eq]
  constructor
  · rintro ⟨h1, h2⟩
    have h2 : d = e := by omega
    rw [h1, h2]
  · intro h
    injection h with h1 h2
    exact ⟨h1, by rw [h2]⟩
theorem eqv_pt (a b : Pt) : PyData.eqv (ptD a) (ptD b) = decide (a = b) := by
  obtain ⟨x, y⟩ := a
  obtain ⟨z, t⟩ := b
  show (PyData.eqv (frD x) (frD z) && (PyData.eqv (frD y) (frD t) && true)) = _
  rw [eqv_fr, eqv_fr, Bool.eq_iff_iff, Bool.and_true, Bool.and_eq_true, decide_eq_true_eq, decide_eq_true_eq, decide_eq_true_eq]
  constructor
  · rintro ⟨h1, h2⟩
    rw [h1, h2]
  · intro h
    injection h with h1 h2
    exact ⟨h1, h2⟩
theorem frSh (a : Fr) : SeqAt.shaped (frD a) = true := rfl
theorem ptSh (a : Pt) : SeqAt.shaped (ptD a) = true := rfl
end ScA
namespace ScA
open PySem PySem.Spec PyProof.Rows L2
open Sc
section
variable {Pg : Program} {w : World} {K : PySem.W.Frag} {mg : Str → Option Value} {base : Heap} {CF CP CS fP fS : Addr}
theorem FrAt.dp {H : Hp} {a : Addr} {q : Fr} (h : FrAt H a q) : Dp K H (.ref a) (frD q) := .tup (SqT.of h) (.cons (.int _) (.cons (.int _) .nil))
theorem PtAt.dp {H : Hp} {a : Addr} {p : Pt} (h : PtAt H a p) : Dp K H (.ref a) (ptD p) :=
  let ⟨_, _, h1, h2, h3⟩ := h
  .tup (SqT.of h1) (.cons h2.dp (.cons h3.dp .nil))
end
end ScA
namespace ScA
open PySem PySem.Spec PyProof.Rows L2
open Sc
section
variable {Pg : Program} {w : World} {K : PySem.W.Frag} {mg : Str → Option Value} {base : Heap} {CF CP CS fP fS : Addr}
/-! point_numbers -/
def ptN (p : Pt) : List Int := [p.x.n, (p.x.d : Int), p.y.n, (p.y.d : Int)]
def spPn : Sp := fun vs H Q _ => ∃ (x : Addr) (p : Pt), vs = [.ref x] ∧ PtAt H x p ∧ ∀ q, H q = none → Q (.ref q) (upd H q (.lst ((ptN p).map V.int)))
theorem scPn : FnScope ["point"] ["point"] (defScope s_point_numbers) := ⟨rfl, rfl, rfl, by decide +kernel, rfl, by decide +kernel, by decide +kernel⟩
theorem ok_pn {f : Addr} {fd : FuncData} (F : Fun K "point_numbers" "point_numbers" s_point_numbers f fd) : FnOk Pg w K mg base CX0 1 f fd ["point"] spPn := by
  refine F.ok scPn (fun vs H Q E h => ?_) (fun cdv A outer s H vs Q E hr h => ⟨_, pss_one (ps_ret (pe_lst
    (pa_cons (pe_ix ix_tup (pe_ix ix_tup (pv 0) pe_int (fun _ _ => rfl)) pe_int (fun _ _ => rfl)) (pa_cons (pe_ix ix_tup (pe_ix ix_tup (pv 0) pe_int (fun _ _ => rfl)) pe_int (fun _ _ => rfl))
    (pa_cons (pe_ix ix_tup (pe_ix ix_tup (pv 0) pe_int (fun _ _ => rfl)) pe_int (fun _ _ => rfl)) (pa_cons (pe_ix ix_tup (pe_ix ix_tup (pv 0) pe_int (fun _ _ => rfl)) pe_int (fun _ _ => rfl)) pa_nil)))))), ?_⟩)
  · obtain ⟨x, p, rfl, _⟩ := h
    rfl
  · obtain ⟨x, p, rfl, ⟨u, v, hx, hu, hv⟩, k⟩ := h
    refine ⟨_, rfl, x, _, 0, _, rfl, rfl, SqT.of hx, rfl, u, _, 0, _, rfl, rfl, SqT.of hu, rfl, ?_⟩
    refine ⟨_, rfl, x, _, 0, _, rfl, rfl, SqT.of hx, rfl, u, _, 1, _, rfl, rfl, SqT.of hu, rfl, ?_⟩
    refine ⟨_, rfl, x, _, 1, _, rfl, rfl, SqT.of hx, rfl, v, _, 0, _, rfl, rfl, SqT.of hv, rfl, ?_⟩
    refine ⟨_, rfl, x, _, 1, _, rfl, rfl, SqT.of hx, rfl, v, _, 1, _, rfl, rfl, SqT.of hv, rfl, ?_⟩
    exact ⟨(by show 4 ≤ sizeLine; decide), k⟩
end
end ScA
namespace ScA
open PySem PySem.Spec PyProof.Rows L2
open Sc
section
variable {Pg : Program} {w : World} {K : PySem.W.Frag} {mg : Str → Option Value} {base : Heap} {CF CP CS fP fS : Addr}
/-! point_sum, middle -/
def spPs : Sp := fun vs H Q _ => ∃ (x y : Addr) (a b : Pt) (j k : Nat), vs = [.ref x, .ref y] ∧ PtAt H x a ∧ PtAt H y b ∧ OkP a ∧ OkP b ∧ SzP j a ∧ SzP k b ∧ j + k + 1 ≤ 13500 ∧ ∀ H' p, Same H H' → H p = none → PtAt H' p (Kzq1.plus a b) → Q (.ref p) H'
theorem scPs : FnScope ["a", "b"] ["a", "b"] (defScope s_point_sum) := ⟨rfl, rfl, rfl, by decide +kernel, rfl, by decide +kernel, by decide +kernel⟩
theorem ok_ps {f fR : Addr} {fd fdR : FuncData} (F : Fun K "point_sum" "point_sum" s_point_sum f fd) (GR : FnOk Pg w K mg base CX0 3 fR fdR ["a", "b"] spPlus) (mR : mg "plus" = some (.ref fR)) (kR : PySem.W.keepIn K (.ref fR) = true) (bR : Binds K fdR ["a", "b"] []) :
    FnOk Pg w K mg base CX0 4 f fd ["a", "b"] spPs := by
  refine F.ok scPs (fun vs H Q E h => ?_) (fun cdv A outer s H vs Q E hr h => ⟨_, pss_one (ps_ret (pe_tup
    (pa_cons (pe_call GR hr rfl mR kR bR .nil pass0 (pa_cons (pe_ix ix_tup (pv 0) pe_int (fun _ _ => rfl)) (pa_cons (pe_ix ix_tup (pv 1) pe_int (fun _ _ => rfl)) pa_nil)))
    (pa_cons (pe_call GR hr rfl mR kR bR .nil pass0 (pa_cons (pe_ix ix_tup (pv 0) pe_int (fun _ _ => rfl)) (pa_cons (pe_ix ix_tup (pv 1) pe_int (fun _ _ => rfl)) pa_nil))) pa_nil)))), ?_⟩)
  · obtain ⟨x, y, a, b, j, k, rfl, _⟩ := h
    rfl
  · obtain ⟨x, y, a, b, j, k, rfl, ⟨x1, x2, hx, hx1, hx2⟩, ⟨y1, y2, hy, hy1, hy2⟩, oa, ob, sa, sb, hk, q⟩ := h
    refine ⟨_, rfl, x, _, 0, _, rfl, rfl, SqT.of hx, rfl, _, rfl, y, _, 0, _, rfl, rfl, SqT.of hy, rfl, ?_⟩
    refine ⟨x1, y1, a.x, b.x, j, k, rfl, hx1, hy1, oa.1, ob.1, sa.1, sb.1, hk, fun H1 p1 s1 n1 f1 => ?_⟩
    refine ⟨_, rfl, x, _, 1, _, rfl, rfl, SqT.of (s1 _ _ hx), rfl, _, rfl, y, _, 1, _, rfl, rfl, SqT.of (s1 _ _ hy), rfl, ?_⟩
    refine ⟨x2, y2, a.y, b.y, j, k, rfl, hx2.mono s1, hy2.mono s1, oa.2, ob.2, sa.2, sb.2, hk, fun H2 p2 s2 n2 f2 => ?_⟩
    refine ⟨(by show 2 ≤ sizeLine; decide), fun p3 n3 => ?_⟩
    have s3 := Same.new (o := .tup [.ref p1, .ref p2]) n3
    exact q _ p3 ((s1.trans s2).trans s3) ((s1.trans s2).free n3) ⟨p1, p2, upd_same, (f1.mono s2).mono s3, f2.mono s3⟩
end
end ScA
namespace ScA
open PySem PySem.Spec PyProof.Rows L2
open Sc
section
variable {Pg : Program} {w : World} {K : PySem.W.Frag} {mg : Str → Option Value} {base : Heap} {CF CP CS fP fS : Addr}
theorem mul_comm' (a b : Fr) : Kzq1.mul a b = Kzq1.mul b a := by
  unfold Kzq1.mul
  rw [Int.mul_comm, Nat.mul_comm]
def spScaled : Sp := fun vs H Q _ => ∃ (x y : Addr) (a : Pt) (b : Fr) (j k : Nat), vs = [.ref x, .ref y] ∧ PtAt H x a ∧ FrAt H y b ∧ OkP a ∧ Ok b ∧ SzP j a ∧ Sz k b ∧ j + k + 1 ≤ 13500 ∧ ∀ H' p, Same H H' → H p = none → PtAt H' p (Kzq1.times b a) → Q (.ref p) H'
theorem scScaled : FnScope ["a", "factor"] ["a", "factor"] (defScope s_scaled) := ⟨rfl, rfl, rfl, by decide +kernel, rfl, by decide +kernel, by decide +kernel⟩
theorem ok_scaled {f fR : Addr} {fd fdR : FuncData} (F : Fun K "scaled" "scaled" s_scaled f fd) (GR : FnOk Pg w K mg base CX0 3 fR fdR ["a", "b"] spTimes) (mR : mg "times" = some (.ref fR)) (kR : PySem.W.keepIn K (.ref fR) = true) (bR : Binds K fdR ["a", "b"] []) :
    FnOk Pg w K mg base CX0 4 f fd ["a", "factor"] spScaled := by
  refine F.ok scScaled (fun vs H Q E h => ?_) (fun cdv A outer s H vs Q E hr h => ⟨_, pss_one (ps_ret (pe_tup
    (pa_cons (pe_call GR hr rfl mR kR bR .nil pass0 (pa_cons (pe_ix ix_tup (pv 0) pe_int (fun _ _ => rfl)) (pa_cons (pv 1) pa_nil)))
    (pa_cons (pe_call GR hr rfl mR kR bR .nil pass0 (pa_cons (pe_ix ix_tup (pv 0) pe_int (fun _ _ => rfl)) (pa_cons (pv 1) pa_nil))) pa_nil)))), ?_⟩)
  · obtain ⟨x, y, a, b, j, k, rfl, _⟩ := h
    rfl
  · obtain ⟨x, y, a, b, j, k, rfl, ⟨x1, x2, hx, hx1, hx2⟩, hy, oa, ob, sa, sb, hk, q⟩ := h
    refine ⟨_, rfl, x, _, 0, _, rfl, rfl, SqT.of hx, rfl, _, rfl, ?_⟩
    refine ⟨x1, y, a.x, b, j, k, rfl, hx1, hy, oa.1, ob, sa.1, sb, hk, fun H1 p1 s1 n1 f1 => ?_⟩
    refine ⟨_, rfl, x, _, 1, _, rfl, rfl, SqT.of (s1 _ _ hx), rfl, _, rfl, ?_⟩
    refine ⟨x2, y, a.y, b, j, k, rfl, hx2.mono s1, hy.mono s1, oa.2, ob, sa.2, sb, hk, fun H2 p2 s2 n2 f2 => ?_⟩
    refine ⟨(by show 2 ≤ sizeLine; decide), fun p3 n3 => ?_⟩
    have s3 := Same.new (o := .tup [.ref p1, .ref p2]) n3
    rw [mul_comm'] at f1 f2
    exact q _ p3 ((s1.trans s2).trans s3) ((s1.trans s2).free n3) ⟨p1, p2, upd_same, (f1.mono s2).mono s3, f2.mono s3⟩
end
end ScA
namespace ScA
open PySem PySem.Spec PyProof.Rows L2
open Sc
section
variable {Pg : Program} {w : World} {K : PySem.W.Frag} {mg : Str → Option Value} {base : Heap} {CF CP CS fP fS : Addr}
def spCross : Sp := fun vs H Q _ => ∃ (x y : Addr) (a b : Pt) (j k : Nat), vs = [.ref x, .ref y] ∧ PtAt H x a ∧ PtAt H y b ∧ OkP a ∧ OkP b ∧ SzP j a ∧ SzP k b ∧ 2 * (j + k) + 1 ≤ 13500 ∧ ∀ H' p, Same H H' → H p = none → FrAt H' p (Kzq1.cross a b) → Q (.ref p) H'
theorem scCross : FnScope ["u", "v"] ["u", "v"] (defScope s_cross) := ⟨rfl, rfl, rfl, by decide +kernel, rfl, by decide +kernel, by decide +kernel⟩
theorem ok_cross {f fR fM : Addr} {fd fdR fdM : FuncData} (F : Fun K "cross" "cross" s_cross f fd) (GR : FnOk Pg w K mg base CX0 3 fR fdR ["a", "b"] spTimes) (mR : mg "times" = some (.ref fR)) (kR : PySem.W.keepIn K (.ref fR) = true) (bR : Binds K fdR ["a", "b"] [])
    (GM : FnOk Pg w K mg base CX0 3 fM fdM ["a", "b"] spMinus) (mM : mg "minus" = some (.ref fM)) (kM : PySem.W.keepIn K (.ref fM) = true) (bM : Binds K fdM ["a", "b"] []) :
    FnOk Pg w K mg base CX0 4 f fd ["u", "v"] spCross := by
  refine F.ok scCross (fun vs H Q E h => ?_) (fun cdv A outer s H vs Q E hr h => ⟨_, pss_one (ps_ret (pe_call GM hr rfl mM kM bM .nil pass0
    (pa_cons (pe_call GR hr rfl mR kR bR .nil pass0 (pa_cons (pe_ix ix_tup (pv 0) pe_int (fun _ _ => rfl)) (pa_cons (pe_ix ix_tup (pv 1) pe_int (fun _ _ => rfl)) pa_nil)))
    (pa_cons (pe_call GR hr rfl mR kR bR .nil pass0 (pa_cons (pe_ix ix_tup (pv 0) pe_int (fun _ _ => rfl)) (pa_cons (pe_ix ix_tup (pv 1) pe_int (fun _ _ => rfl)) pa_nil))) pa_nil)))), ?_⟩)
  · obtain ⟨x, y, a, b, j, k, rfl, _⟩ := h
    rfl
  · obtain ⟨x, y, a, b, j, k, rfl, ⟨x1, x2, hx, hx1, hx2⟩, ⟨y1, y2, hy, hy1, hy2⟩, oa, ob, sa, sb, hk, q⟩ := h
    refine ⟨_, rfl, x, _, 0, _, rfl, rfl, SqT.of hx, rfl, _, rfl, y, _, 1, _, rfl, rfl, SqT.of hy, rfl, ?_⟩
    refine ⟨x1, y2, a.x, b.y, j, k, rfl, hx1, hy2, oa.1, ob.2, sa.1, sb.2, (by omega), fun H1 p1 s1 n1 f1 => ?_⟩
    refine ⟨_, rfl, x, _, 1, _, rfl, rfl, SqT.of (s1 _ _ hx), rfl, _, rfl, y, _, 0, _, rfl, rfl, SqT.of (s1 _ _ hy), rfl, ?_⟩
    refine ⟨x2, y1, a.y, b.x, j, k, rfl, hx2.mono s1, hy1.mono s1, oa.2, ob.1, sa.2, sb.1, (by omega), fun H2 p2 s2 n2 f2 => ?_⟩
    refine ⟨p1, p2, _, _, j + k, j + k, rfl, f1.mono s2, f2, mul_ok oa.1 ob.2, mul_ok oa.2 ob.1, mul_sz oa.1 ob.2 sa.1 sb.2, mul_sz oa.2 ob.1 sa.2 sb.1, (by omega), fun H3 p3 s3 n3 f3 => ?_⟩
    exact q H3 p3 ((s1.trans s2).trans s3) ((s1.trans s2).free n3) f3
end
end ScA
namespace ScA
open PySem PySem.Spec PyProof.Rows L2
open Sc
section
variable {Pg : Program} {w : World} {K : PySem.W.Frag} {mg : Str → Option Value} {base : Heap} {CF CP CS fP fS : Addr}
/-! is_before -/
theorem before_eq (a b : Pt) : Kzq1.before a b = if a.x = b.x then Kzq1.lt a.y b.y else Kzq1.lt a.x b.x := by
  unfold Kzq1.before
  by_cases c : a.x = b.x
  · have e : Kzq1.lt a.x b.x = false := by rw [c]; exact decide_eq_false (by omega)
    rw [if_pos c, e, c]
    simp
  · rw [if_neg c]
    have e : (a.x == b.x) = false := by simpa using c
    rw [e]; simp
def spBef : Sp := fun vs H Q _ => ∃ (x y : Addr) (a b : Pt) (k : Nat), vs = [.ref x, .ref y] ∧ PtAt H x a ∧ PtAt H y b ∧ SzP k a ∧ SzP k b ∧ k ≤ 20000 ∧ Q (.bl (Kzq1.before a b)) H
theorem scBef : FnScope ["a", "b"] ["a", "b"] (defScope s_is_before) := ⟨rfl, rfl, rfl, by decide +kernel, rfl, by decide +kernel, by decide +kernel⟩
theorem ok_bef {f fR : Addr} {fd fdR : FuncData} (F : Fun K "is_before" "is_before" s_is_before f fd) (GR : FnOk Pg w K mg base CX0 1 fR fdR ["a", "b"] spLess) (mR : mg "is_less" = some (.ref fR)) (kR : PySem.W.keepIn K (.ref fR) = true) (bR : Binds K fdR ["a", "b"] []) :
    FnOk Pg w K mg base CX0 2 f fd ["a", "b"] spBef := by
  refine F.ok scBef (fun vs H Q E h => ?_) (fun cdv A outer s H vs Q E hr h => ⟨_, pss_cons (ps_if (pt_cmpR (op_eqD hr.units) (pe_ix ix_tup (pv 0) pe_int (fun _ _ => rfl)) (pe_ix ix_tup (pv 1) pe_int (fun _ _ => rfl)) (nomark _))
      (pss_one (ps_ret (pe_call GR hr rfl mR kR bR .nil pass0 (pa_cons (pe_ix ix_tup (pv 0) pe_int (fun _ _ => rfl)) (pa_cons (pe_ix ix_tup (pv 1) pe_int (fun _ _ => rfl)) pa_nil))))) pss_nil)
    (pss_one (ps_ret (pe_call GR hr rfl mR kR bR .nil pass0 (pa_cons (pe_ix ix_tup (pv 0) pe_int (fun _ _ => rfl)) (pa_cons (pe_ix ix_tup (pv 1) pe_int (fun _ _ => rfl)) pa_nil))))), ?_⟩)
  · obtain ⟨x, y, a, b, k, rfl, _⟩ := h
    rfl
  · obtain ⟨x, y, a, b, k, rfl, ⟨x1, x2, hx, hx1, hx2⟩, ⟨y1, y2, hy, hy1, hy2⟩, sa, sb, hk, q⟩ := h
    rw [before_eq] at q
    refine ⟨_, rfl, x, _, 0, _, rfl, rfl, SqT.of hx, rfl, _, rfl, y, _, 0, _, rfl, rfl, SqT.of hy, rfl, frD a.x, frD b.x, hx1.dp, hy1.dp, frSh _, frSh _, _, rfl, ?_⟩
    rw [eqv_fr]
    by_cases c : a.x = b.x
    · rw [if_pos c] at q
      refine ifT (decide_eq_true c) ?_
      exact ⟨_, rfl, x, _, 1, _, rfl, rfl, SqT.of hx, rfl, _, rfl, y, _, 1, _, rfl, rfl, SqT.of hy, rfl, x2, y2, a.y, b.y, k, k, rfl, hx2, hy2, sa.2, sb.2, (by omega), q⟩
    · rw [if_neg c] at q
      refine ifF (decide_eq_false c) ?_
      exact ⟨_, rfl, x, _, 0, _, rfl, rfl, SqT.of hx, rfl, _, rfl, y, _, 0, _, rfl, rfl, SqT.of hy, rfl, x1, y1, a.x, b.x, k, k, rfl, hx1, hy1, sa.1, sb.1, (by omega), q⟩
end

end ScA
namespace ScA
open PySem PySem.Spec PyProof.Rows L2
open Sc
section
variable {Pg : Program} {w : World} {K : PySem.W.Frag} {mg : Str → Option Value} {base : Heap} {CF CP CS fP fS : Addr}
def spRr (K : PySem.W.Frag) (CF : Addr) : Sp := fun vs H Q E => ∃ (a : Addr) (ns : List Int), vs = [.ref a] ∧ SqL K H a (ns.map V.int) ∧ (rdQ1 ns = none → E (.ref CF) none H) ∧
  ∀ p, rdQ1 ns = some p → ∀ H' q, Same H H' → H q = none → FrAt H' q p → Q (.ref q) H'
theorem scRr : FnScope ["numbers"] ["numbers"] (defScope s_read_ratio) := ⟨rfl, rfl, rfl, by decide +kernel, rfl, by decide +kernel, by decide +kernel⟩
theorem ok_rr {f fI : Addr} {fd fdI : FuncData} (F : Fun K "read_ratio" "read_ratio" s_read_ratio f fd) (T : ErrTxt K mg CF) (mLen : mg "len" = none) {tPL : Tok} (mPL : mg "RATIO_LENGTH" = some (.int 2 tPL))
    (GI : FnOk Pg w K mg base CX0 2 fI fdI ["top", "bottom"] spIsr) (mI : mg "is_ratio" = some (.ref fI)) (kI : PySem.W.keepIn K (.ref fI) = true) (bI : Binds K fdI ["top", "bottom"] []) :
    FnOk Pg w K mg base (L2.CX Pg w) 3 f fd ["numbers"] (spRr K CF) := by
  refine F.okX scRr (fun vs H Q E h => ?_) (fun cdv A outer s H vs Q E hr h => ⟨_,
    pss_cons (ps_if (PW.pt (pw_or (pt_cmpR op_ne (pe_callB call_len_seq (by rfl) mLen PySem.boot_len (pa_cons (pv 0) pa_nil)) (pe_glob (v := V.int 2) rfl mPL ⟨_, rfl⟩) (nomark _))
        (pw_or1 (pt_not (pt_val (pe_call GI hr rfl mI kI bI .nil pass0 (pa_cons (pe_ix ix_list (pv 0) pe_int (fun _ _ => rfl)) (pa_cons (pe_ix ix_list (pv 0) pe_int (fun _ _ => rfl)) pa_nil))))))))
      (pss_one (ps_raise rfl (takes_of rfl rfl rfl rfl) (pmk_own PySem.F.excBase_ValueError T.x T.g T.k (raises_own T.b T.t) (by exact rfl)))) pss_nil)
    (pss_one (ps_ret (pe_tup (pa_cons (pe_ix ix_list (pv 0) pe_int (fun _ _ => rfl)) (pa_cons (pe_ix ix_list (pv 0) pe_int (fun _ _ => rfl)) pa_nil))))), ?_⟩)
  · obtain ⟨a, ns, rfl, _⟩ := h
    rfl
  · obtain ⟨a, ns, rfl, hS, kE, kQ⟩ := h
    refine ⟨_, rfl, a, _, rfl, .inl hS, rfl, _, rfl, ?_⟩
    by_cases h2 : ns.length = 2
    · match ns, h2 with
      | [x0, x1], _ =>
        refine ifF (by simp) ?_
        have e : rdQ1 [x0, x1] = if isR x0 x1 = true then some ⟨x0, x1.toNat⟩ else none := readQ_isR x0 x1
        refine ⟨_, rfl, a, _, 0, _, rfl, rfl, hS, rfl, _, rfl, a, _, 1, _, rfl, rfl, hS, rfl, x0, x1, rfl, _, rfl, ?_⟩
        by_cases c1 : isR x0 x1 = true
        · rw [if_pos c1] at e
          rw [c1]
          refine ifF rfl ?_
          refine ⟨_, rfl, a, _, 0, _, rfl, rfl, hS, rfl, _, rfl, a, _, 1, _, rfl, rfl, hS, rfl, (by show 2 ≤ sizeLine; decide), fun p1 n1 => ?_⟩
          refine kQ _ e _ p1 (Same.new n1) n1 ?_
          unfold FrAt
          rw [upd_same, (isR_ok c1).2]
        · rw [if_neg c1] at e
          rw [Bool.not_eq_true] at c1
          rw [c1]
          exact ifT rfl (kE e)
    · refine ifT ?_ (ifT rfl (kE ?_))
      · rw [List.length_map]
        have : ¬ (V.int (ns.length : Int) = V.int 2) := fun z => by injection z with z; omega
        rw [decide_eq_false this]; rfl
      · match ns, h2 with
        | [], _ => rfl
        | [_], _ => rfl
        | _ :: _ :: _ :: _, _ => rfl
        | [_, _], h2 => exact absurd rfl h2
end
end ScA
namespace ScA
open PySem PySem.Spec PyProof.Rows L2
open Sc
theorem cut_from {xs : List V} {j : Nat} : cutV xs (some (j : Int)) none = xs.drop j := by
  unfold cutV
  rw [HT.sIx_nat, HT.sIx_none]
  by_cases c : j ≤ xs.length
  · rw [Nat.min_eq_left c]
    exact List.take_of_length_le (by rw [List.length_drop]; omega)
  · rw [Nat.min_eq_right (by omega), List.drop_eq_nil_of_le (Nat.le_refl _), List.drop_eq_nil_of_le (by omega), List.take_nil]
theorem cut_to {xs : List V} {j : Nat} : cutV xs none (some (j : Int)) = xs.take j := by
  unfold cutV
  rw [HT.sIx_nat, HT.sIx_none, List.drop_zero, Nat.sub_zero]
  by_cases c : j ≤ xs.length
  · rw [Nat.min_eq_left c]
  · rw [Nat.min_eq_right (by omega), List.take_of_length_le (Nat.le_refl _), List.take_of_length_le (by omega)]
end ScA
namespace ScA
open PySem PySem.Spec PyProof.Rows L2
open Sc
section
variable {Pg : Program} {w : World} {K : PySem.W.Frag} {mg : Str → Option Value} {base : Heap} {CF CP CS fP fS : Addr}
def spRp (K : PySem.W.Frag) (CF : Addr) : Sp := fun vs H Q E => ∃ (a : Addr) (ns : List Int), vs = [.ref a] ∧ SqL K H a (ns.map V.int) ∧ (rdPt ns = none → ∀ H', Same H H' → E (.ref CF) none H') ∧
  ∀ p, rdPt ns = some p → ∀ H' q, Same H H' → H q = none → PtAt H' q p → Q (.ref q) H'
theorem scRp : FnScope ["numbers"] ["numbers"] (defScope s_read_point) := ⟨rfl, rfl, rfl, by decide +kernel, rfl, by decide +kernel, by decide +kernel⟩
theorem ok_rp {f fI : Addr} {fd fdI : FuncData} (F : Fun K "read_point" "read_point" s_read_point f fd) (T : ErrTxt K mg CF) (mLen : mg "len" = none) {tPL tRL : Tok} (mPL : mg "POINT_LENGTH" = some (.int 4 tPL)) (mRL : mg "RATIO_LENGTH" = some (.int 2 tRL))
    (GI : FnOk Pg w K mg base (L2.CX Pg w) 3 fI fdI ["numbers"] (spRr K CF)) (mI : mg "read_ratio" = some (.ref fI)) (kI : PySem.W.keepIn K (.ref fI) = true) (bI : Binds K fdI ["numbers"] []) :
    FnOk Pg w K mg base (L2.CX Pg w) 4 f fd ["numbers"] (spRp K CF) := by
  refine F.okX scRp (fun vs H Q E h => ?_) (fun cdv A outer s H vs Q E hr h => ⟨_,
    pss_cons (ps_if (pt_cmpR op_ne (pe_callB call_len_seq (by rfl) mLen PySem.boot_len (pa_cons (pv 0) pa_nil)) (pe_glob (v := V.int 4) rfl mPL ⟨_, rfl⟩) (nomark _))
      (pss_one (ps_raise rfl (takes_of rfl rfl rfl rfl) (pmk_own PySem.F.excBase_ValueError T.x T.g T.k (raises_own T.b T.t) (by exact rfl)))) pss_nil)
    (pss_one (ps_ret (pe_tup (pa_cons (pe_call GI hr rfl mI kI bI .nil (passes_call (takes_of rfl rfl rfl rfl) (fun _ _ _ _ h => h)) (pa_cons (pe_slice sl_list (pv 0) po_none (po_some (pe_glob (v := V.int 2) rfl mRL ⟨_, rfl⟩))) pa_nil))
      (pa_cons (pe_call GI hr rfl mI kI bI .nil (passes_call (takes_of rfl rfl rfl rfl) (fun _ _ _ _ h => h)) (pa_cons (pe_slice sl_list (pv 0) (po_some (pe_glob (v := V.int 2) rfl mRL ⟨_, rfl⟩)) po_none) pa_nil)) pa_nil))))), ?_⟩)
  · obtain ⟨a, ns, rfl, _⟩ := h
    rfl
  · obtain ⟨a, ns, rfl, hS, kE, kQ⟩ := h
    refine ⟨_, rfl, a, _, rfl, .inl hS, rfl, _, rfl, ?_⟩
    by_cases h4 : ns.length = 4
    · match ns, h4 with
      | [x0, x1, x2, x3], _ =>
        refine ifF (by simp) ?_
        have e : rdPt [x0, x1, x2, x3] = match rdQ1 [x0, x1], rdQ1 [x2, x3] with
          | some x, some y => some ⟨x, y⟩
          | _, _ => none := rfl
        refine ⟨_, rfl, _, rfl, a, _, rfl, hS, fun q1 n1 => ?_⟩
        have c1 : cutV ([x0, x1, x2, x3].map V.int) none (some ((2 : Nat) : Int)) = [x0, x1].map V.int := by rw [cut_to]; rfl
        have c2 : cutV ([x0, x1, x2, x3].map V.int) (some ((2 : Nat) : Int)) none = [x2, x3].map V.int := by rw [cut_from]; rfl
        have s1 := Same.new (o := .lst (cutV ([x0, x1, x2, x3].map V.int) none (some ((2 : Nat) : Int)))) n1
        refine ⟨q1, [x0, x1], rfl, (by rw [← c1]; exact SqL.of upd_same), fun hb => ?_, fun p hp H2 a2 s2 n2 h2 => ?_⟩
        · refine kE ?_ _ s1
          rw [e, hb]
        · have s12 := s1.trans s2
          refine ⟨_, rfl, _, rfl, a, _, rfl, s12.seq hS, fun q3 n3 => ?_⟩
          have s3 := Same.new (o := .lst (cutV ([x0, x1, x2, x3].map V.int) (some ((2 : Nat) : Int)) none)) n3
          refine ⟨q3, [x2, x3], rfl, (by rw [← c2]; exact SqL.of upd_same), fun hb => ?_, fun p' hp' H4 a4 s4 n4 h4 => ?_⟩
          · refine kE ?_ _ (s12.trans s3)
            rw [e, hp, hb]
          · refine ⟨(by show 2 ≤ sizeLine; decide), fun p5 n5 => ?_⟩
            have s5 := Same.new (o := .tup [.ref a2, .ref a4]) n5
            have s14 := (s12.trans s3).trans s4
            rw [hp, hp'] at e
            exact kQ _ e _ p5 (s14.trans s5) (s14.free n5) ⟨a2, a4, upd_same, h2.mono ((s3.trans s4).trans s5), h4.mono s5⟩
    · refine ifT ?_ (kE ?_ H (Same.refl H))
      · rw [List.length_map]
        have : ¬ (V.int (ns.length : Int) = V.int 4) := fun z => by injection z with z; omega
        rw [decide_eq_false this]; rfl
      · match ns, h4 with
        | [], _ => rfl
        | [_], _ => rfl
        | [_, _], _ => rfl
        | [_, _, _], _ => rfl
        | _ :: _ :: _ :: _ :: _ :: _, _ => rfl
        | [_, _, _, _], h4 => exact absurd rfl h4
end
end ScA
namespace ScA
open PySem PySem.Spec PyProof.Rows L2
open Sc
section
variable {Pg : Program} {w : World} {K : PySem.W.Frag} {mg : Str → Option Value} {base : Heap} {CF CP CS fP fS : Addr}
def spRps (K : PySem.W.Frag) (CF : Addr) : Sp := fun vs H Q E => ∃ (a : Addr) (ns : List Int) (n : Nat), vs = [.ref a] ∧ SqL K H a (ns.map V.int) ∧ ns.length = 4 * n ∧ n ≤ 1000 ∧ (Kzq1.readPoints ns = none → ∀ H', Same H H' → E (.ref CF) none H') ∧
  ∀ ps, Kzq1.readPoints ns = some ps → ∀ H' q as, Same H H' → H q = none → H' q = some (.lst (as.map V.ref)) → PtsAt H' as ps → Q (.ref q) H'
theorem scRps : FnScope ["numbers", "k"] ["numbers"] (defScope s_read_points) := ⟨rfl, rfl, rfl, by decide +kernel, rfl, by decide +kernel, by decide +kernel⟩
theorem ok_rps {f fI : Addr} {fd fdI : FuncData} (F : Fun K "read_points" "read_points" s_read_points f fd) (T : ErrTxt K mg CF) (mLen : mg "len" = none) (mRange : mg "range" = none) {tPL : Tok} (mPL : mg "POINT_LENGTH" = some (.int 4 tPL))
    (GI : FnOk Pg w K mg base (L2.CX Pg w) 4 fI fdI ["numbers"] (spRp K CF)) (mI : mg "read_point" = some (.ref fI)) (kI : PySem.W.keepIn K (.ref fI) = true) (bI : Binds K fdI ["numbers"] []) :
    FnOk Pg w K mg base (L2.CX Pg w) 5 f fd ["numbers"] (spRps K CF) := by
  refine F.okX scRps (fun vs H Q E h => ?_) (fun cdv A outer s H vs Q E hr h => ⟨_, pss_one (ps_ret (ScL.pe_lcX (own := [("k", 1)]) (g := gName 1) (E := E) rfl scRps.nd rfl rfl (takes_of rfl rfl rfl rfl)
      (pi_range3 rfl mRange (pa_cons pe_int (pa_cons (pe_callB call_len_seq (by rfl) mLen PySem.boot_len (pa_cons (pv 0) pa_nil)) (pa_cons (pe_glob (v := V.int 4) rfl mPL ⟨_, rfl⟩) pa_nil))))
      (blkOk_by (own := [("k", 1)]) (N := ["numbers", "k"]) (sc := defScope s_read_points) (by decide +kernel))
      (fun _ _ _ _ _ _ => pg_name (i := 1) scRps.nd rfl (Or.inl rfl)) (fun _ _ _ _ _ _ => pts_nil)
      (fun _ _ _ _ _ _ hx => pe_call GI hr rfl mI kI bI .nil hx (pa_cons (pe_slice (r := rSlL K) sl_list (pv 0) (po_some (pv 1)) (po_some (pe_op op_add (pv 1) (pe_glob (v := V.int 4) rfl mPL ⟨_, rfl⟩)))) pa_nil)))), ?_⟩)
  · obtain ⟨a, ns, n, rfl, _⟩ := h
    rfl
  · obtain ⟨a, ns, n, rfl, hS, h4, hn, kE, kQ⟩ := h
    refine ⟨_, rfl, a, _, rfl, .inl hS, 0, _, 4, n, rfl, ?_, ?_⟩
    · rw [List.length_map, h4]
      exact rgc4 hn
    · intro D nD
      refine lc_it walk_rangeC (fun i H' => Same H H' ∧ ∃ as ps, Kzq1.readPoints (ns.take (4 * i)) = some ps ∧ H' D = some (.lst (as.map V.ref)) ∧ PtsAt H' as ps) ?_ (fun _ _ _ _ => trivial) ?_ ?_
      · exact ⟨Same.new nD, [], [], rfl, upd_same, trivial⟩
      · rintro i x H1 H2 hi ⟨s1, as, ps, hr1, hD1, hP1⟩ ⟨rfl, rfl⟩
        have hSn := s1.seq hS
        refine ⟨rfl, ?_⟩
        unfold tYes
        refine ifT rfl ?_
        refine ⟨_, rfl, _, rfl, _, rfl, _, rfl, _, _, rfl, rfl, _, rfl, _, _, rfl, hSn, fun q nq => ?_⟩
        have ec := cut4 ns i (0 + (i : Int) * 4) (0 + (i : Int) * 4 + 4) (by omega) (by omega) (by omega)
        have s2 := Same.new (o := .lst (cutV (ns.map V.int) (some (0 + (i : Int) * 4)) (some (0 + (i : Int) * 4 + 4)))) nq
        refine ⟨q, (ns.drop (4 * i)).take 4, rfl, ?_, fun hbad H' s' => ?_, fun p hp H3 a3 s3 n3 h3 => ?_⟩
        · rw [← ec]; exact SqL.of upd_same
        · exact kE (rp_bad h4 hi hbad) H' ((s1.trans s2).trans s')
        · have hD3 := s3 _ _ (s2 _ _ hD1)
          have t3 : Tu H3 (upd H3 D (.lst (as.map V.ref ++ [V.ref a3]))) := Tu.lst hD3
          have l1 := hP1.len
          have l2 := rp_len hr1
          rw [List.length_take] at l2
          refine ⟨_, hD3, ?_, ?_, as ++ [a3], ps ++ [p], ?_, ?_, ?_⟩
          · rw [List.length_map]
            show as.length < sizeLine
            have e : sizeLine = 16777216 := by decide
            rw [e]; omega
          · intro b o e
            have hb : b ≠ D := ne_of_none e nD
            rw [upd_ne hb]
            exact s3 _ _ (s2 _ _ (s1 _ _ e))
          · rw [rp_more h4 hi, hr1, hp]
          · rw [upd_same, List.map_append]; rfl
          · exact PtsAt.snoc (h3.tu t3) (PtsAt.tu (((Tu.of s2).trans (Tu.of s3)).trans t3) hP1)
      · rintro H1 ⟨s1, as, ps, hr1, hD1, hP1⟩
        rw [← h4, List.take_length] at hr1
        exact kQ ps hr1 H1 D as s1 nD hD1 hP1
end
end ScA
namespace ScA
open PySem PySem.Spec PyProof.Rows L2
open Sc
theorem PtsAt.append {H : Hp} : ∀ {as bs : List Addr} {ps qs : List Pt}, PtsAt H as ps → PtsAt H bs qs → PtsAt H (as ++ bs) (ps ++ qs)
  | [], _, [], _, _, h => h
  | _ :: _, _, _ :: _, _, h, g => ⟨h.1, PtsAt.append h.2 g⟩
  | [], _, _ :: _, _, h, _ => h.elim
  | _ :: _, _, [], _, h, _ => h.elim
theorem PtsAt.drop {H : Hp} : ∀ {as : List Addr} {ps : List Pt} (i : Nat), PtsAt H as ps → PtsAt H (as.drop i) (ps.drop i)
  | _, _, 0, h => h
  | [], [], _ + 1, h => h
  | _ :: _, _ :: _, i + 1, h => PtsAt.drop i h.2
  | [], _ :: _, _, h => h.elim
  | _ :: _, [], _, h => h.elim
theorem PtsAt.take {H : Hp} : ∀ {as : List Addr} {ps : List Pt} (i : Nat), PtsAt H as ps → PtsAt H (as.take i) (ps.take i)
  | _, _, 0, _ => trivial
  | [], [], _ + 1, h => h
  | _ :: _, _ :: _, i + 1, h => ⟨h.1, PtsAt.take i h.2⟩
  | [], _ :: _, _, h => h.elim
  | _ :: _, [], _, h => h.elim
/-- what the top has written of a class with an __init__ -/
structure ClsTxt (K : PySem.W.Frag) (mg : Str → Option Value) (nm : Str) (C fI : Addr) (fs : List Str) : Prop where
  cl : Cls K C
  g : mg nm = some (.ref C)
  n : ∀ f ∈ fs, NoAttr K C f
  m : Mk K C fI
theorem lkH {k : Str} {v : V} {r : List (Str × V)} : List.lookup k ((k, v) :: r) = some v := by
  have e : (k == k) = true := beq_self_eq_true k
  simp only [List.lookup, e]
theorem lkP {k g : Str} {v : V} {r : List (Str × V)} (h : (k == g) = false) : List.lookup k ((g, v) :: r) = List.lookup k r := by
  simp only [List.lookup, h]
end ScA
namespace ScA
open PySem PySem.Spec PyProof.Rows L2
open Sc
section
variable {Pg : Program} {w : World} {K : PySem.W.Frag} {mg : Str → Option Value} {base : Heap} {CF CP CS fP fS : Addr}
/-! Part -/
def ptF (a b c : V) : List (Str × V) := [("piece", a), ("turned", b), ("slid", c)]
def spPtI (C : Addr) : Sp := fun vs H Q _ => ∃ (p dx : Addr) (a b c : V), vs = [.ref p, a, b, c] ∧ H p = some (.ins C dx []) ∧ ∀ H' : Hp, H' p = some (.ins C dx (ptF a b c)) → (∀ q o, H q = some o → q ≠ p → H' q = some o) → Q .non H'
theorem scPtI : FnScope ["self", "piece", "turned", "slid"] ["self", "piece", "turned", "slid"] (defScope s_Part) := ⟨rfl, rfl, rfl, by decide +kernel, rfl, by decide +kernel, by decide +kernel⟩
theorem ok_ptI {f : Addr} {fd : FuncData} (F : Fun K "__init__" "Part.__init__" s_Part f fd) (T : ClsTxt K mg "Part" CP fP ["piece", "turned", "slid"]) : FnOk Pg w K mg base CX0 1 f fd ["self", "piece", "turned", "slid"] (spPtI CP) := by
  refine F.ok scPtI (fun vs H Q E h => ?_) (fun cdv A outer s H vs Q E hr h => ⟨_, pss_cons (ps_fld (pv 0) (pv 1) rfl) (pss_cons (ps_fld (pv 0) (pv 2) rfl) (pss_one (ps_fld (pv 0) (pv 3) rfl))), ?_⟩)
  · obtain ⟨p, dx, a, b, c, rfl, _⟩ := h
    rfl
  · obtain ⟨p, dx, a, b, c, rfl, hp, k⟩ := h
    refine ⟨_, rfl, _, rfl, p, CP, dx, [], rfl, hp, T.cl, T.n _ (by simp), (by show 0 < 1000; decide), ?_⟩
    refine ⟨_, rfl, _, rfl, p, CP, dx, _, rfl, upd_same, T.cl, T.n _ (by simp), (by show 1 < 1000; decide), ?_⟩
    refine ⟨_, rfl, _, rfl, p, CP, dx, _, rfl, upd_same, T.cl, T.n _ (by simp), (by show 2 < 1000; decide), ?_⟩
    refine k _ ?_ fun q o e hq => by rw [upd_ne hq, upd_ne hq, upd_ne hq]; exact e
    rw [upd_same]
    have e : putF "slid" c (putF "turned" b (putF "piece" a [])) = ptF a b c := by
      unfold ptF
      have n1 : ¬ (("piece" : Str) = "turned") := by decide +kernel
      have n2 : ¬ (("piece" : Str) = "slid") := by decide +kernel
      have n3 : ¬ (("turned" : Str) = "slid") := by decide +kernel
      simp only [putF, if_neg n1, if_neg n2, if_neg n3]
    exact congrArg (fun z => some (HO.ins CP dx z)) e
end
end ScA
namespace ScA
open PySem PySem.Spec PyProof.Rows L2
open Sc
/-! piece_of -/
def unl (ps : List Pt) (i : Nat) : List Pt := (List.range i).filterMap fun i => if Kzq1.at0 ps i = Kzq1.at0 ps (i + 1) then none else some (Kzq1.at0 ps i)
theorem unl_all (ps : List Pt) : unl ps ps.length = Kzq1.unlike ps := rfl
theorem unl_more (ps : List Pt) (i : Nat) : unl ps (i + 1) = unl ps i ++ if Kzq1.at0 ps i = Kzq1.at0 ps (i + 1) then [] else [Kzq1.at0 ps i] := by
  unfold unl
  rw [List.range_succ, List.filterMap_append]
  congr 1
  rw [List.filterMap_cons]
  by_cases c : Kzq1.at0 ps i = Kzq1.at0 ps (i + 1)
  · rw [if_pos c, if_pos c]; rfl
  · rw [if_neg c, if_neg c]; rfl
theorem unl_len (ps : List Pt) (i : Nat) : (unl ps i).length ≤ i := by
  unfold unl
  refine Nat.le_trans (List.length_filterMap_le _ _) ?_
  rw [List.length_range]; exact Nat.le_refl _
theorem at0_get {ps : List Pt} {i : Nat} (h : i < ps.length) : ps[i]? = some (Kzq1.at0 ps i) := by
  unfold Kzq1.at0
  rw [Nat.mod_eq_of_lt h, List.getD_eq_getElem?_getD, List.getElem?_eq_getElem h]; rfl
theorem at0_mod (ps : List Pt) (i : Nat) : Kzq1.at0 ps (i % ps.length) = Kzq1.at0 ps i := by
  unfold Kzq1.at0
  rw [Nat.mod_mod]
theorem at0_mem {ps : List Pt} {i : Nat} (h : 0 < ps.length) : Kzq1.at0 ps i ∈ ps := by
  rw [← at0_mod]
  exact List.mem_of_getElem? (at0_get (Nat.mod_lt _ h))
theorem unlike_mem {ps : List Pt} {p : Pt} (h : p ∈ Kzq1.unlike ps) : p ∈ ps := by
  obtain ⟨i, hi, e⟩ := List.mem_filterMap.mp h
  have hi : i < ps.length := List.mem_range.mp hi
  by_cases c : Kzq1.at0 ps i = Kzq1.at0 ps (i + 1)
  · rw [if_pos c] at e; cases e
  · rw [if_neg c] at e
    cases e
    exact at0_mem (by omega)
/-- the leftmost corner's place, as far as i of them are looked at -/
def fst (l : List Pt) (i : Nat) : Nat := (List.range i).foldl (fun a j => if Kzq1.before (Kzq1.at0 l j) (Kzq1.at0 l a) then j else a) 0
theorem fst_more (l : List Pt) (i : Nat) : fst l (i + 1) = if Kzq1.before (Kzq1.at0 l i) (Kzq1.at0 l (fst l i)) then i else fst l i := by
  unfold fst
  rw [List.range_succ, List.foldl_append]; rfl
theorem fst_le (l : List Pt) : ∀ i, fst l i ≤ i - 1
  | 0 => Nat.le_refl _
  | i + 1 => by
    rw [fst_more]
    have := fst_le l i
    split <;> omega
theorem begun_fst (l : List Pt) : Kzq1.begunWith l = l.drop (fst l l.length) ++ l.take (fst l l.length) := rfl
end ScA
namespace ScA
open PySem PySem.Spec PyProof.Rows L2
open Sc
section
variable {Pg : Program} {w : World} {K : PySem.W.Frag} {mg : Str → Option Value} {base : Heap} {CF CP CS fP fS : Addr}
def spPc : Sp := fun vs H Q _ => ∃ (a : Addr) (as : List Addr) (ps : List Pt) (k : Nat), vs = [.ref a] ∧ H a = some (.lst (as.map V.ref)) ∧ PtsAt H as ps ∧ (∀ p ∈ ps, SzP k p) ∧ k ≤ 20000 ∧ ps.length ≤ 1000 ∧
  ∀ H' q as', Same H H' → H q = none → H' q = some (.lst (as'.map V.ref)) → PtsAt H' as' (pieceOf ps) → Q (.ref q) H'
theorem scPc : FnScope ["corners", "count", "row", "first", "k"] ["corners"] (defScope s_piece_of) := ⟨rfl, rfl, rfl, by decide +kernel, rfl, by decide +kernel, by decide +kernel⟩
theorem ok_pc {f fB : Addr} {fd fdB : FuncData} (F : Fun K "piece_of" "piece_of" s_piece_of f fd) (mLen : mg "len" = none) (mRange : mg "range" = none)
    (GB : FnOk Pg w K mg base CX0 2 fB fdB ["a", "b"] spBef) (mB : mg "is_before" = some (.ref fB)) (kB : PySem.W.keepIn K (.ref fB) = true) (bB : Binds K fdB ["a", "b"] []) :
    FnOk Pg w K mg base CX0 3 f fd ["corners"] spPc := by
  refine F.ok scPc (fun vs H Q E h => ?_) (fun cdv A outer s H vs Q E hr h => ⟨_,
    pss_cons (ps_set (i := 1) scPc.nd rfl (Or.inr rfl) (pe_callB call_len_seq (by rfl) mLen PySem.boot_len (pa_cons (pv 0) pa_nil)))
    (pss_cons (ps_setLc (i := 2) (own := [("k", 4)]) (g := gName 4) rfl scPc.nd rfl rfl (sw_true rfl rfl rfl (by decide +kernel)) (pi_range1 rfl mRange (pa_cons (pv 1) pa_nil))
      (blkOk_by (own := [("k", 4)]) (N := ["corners", "count", "row", "first", "k"]) (sc := defScope s_piece_of) (by decide +kernel))
      (fun _ _ _ _ _ => pg_name (i := 4) scPc.nd rfl (Or.inl rfl))
      (fun _ _ _ _ _ => pts_one (pt_cmpR (r := rNeD K) (op_neD hr.units) (pe_ix (r := rIxL K) ix_list (pv 0) (pv 4) (fun _ _ => rfl)) (pe_ix (r := rIxL K) ix_list (pv 0) (pe_op op_mod (pe_op op_add (pv 4) pe_int) (pv 1)) (fun _ _ => rfl)) (nomark _)))
      (fun _ _ _ _ _ => pe_ix (r := rIxL K) ix_list (pv 0) (pv 4) (fun _ _ => rfl)))
    (pss_cons (ps_set (i := 3) scPc.nd rfl (Or.inl rfl) pe_int)
    (pss_cons (ps_for PassesOwn.never rfl (pi_range1 rfl mRange (pa_cons (pe_callB call_len_seq (by rfl) mLen PySem.boot_len (pa_cons (pv 2) pa_nil)) pa_nil)) (pg_name (i := 4) scPc.nd rfl (Or.inl rfl))
      (pss_one (ps_if (pt_val (pe_call GB hr rfl mB kB bB .nil pass0 (pa_cons (pe_ix ix_list (pv 2) (pv 4) (fun _ _ => rfl)) (pa_cons (pe_ix ix_list (pv 2) (pv 3) (fun _ _ => rfl)) pa_nil))))
        (pss_one (ps_set (i := 3) scPc.nd rfl (Or.inl rfl) (pv 4))) pss_nil)))
    (pss_one (ps_ret (pe_op op_cat (pe_slice sl_list (pv 2) (po_some (pv 3)) po_none) (pe_slice sl_list (pv 2) po_none (po_some (pv 3))))))))), ?_⟩)
  · obtain ⟨a, as, ps, k, rfl, _⟩ := h
    rfl
  · obtain ⟨a, as, ps, k, rfl, ha, hP, hz, hk, hl, q⟩ := h
    have la := hP.len
    refine ⟨_, rfl, a, _, rfl, .inl (SqL.of ha), ?_⟩
    refine ⟨_, rfl, _, rfl, by omega, by rw [List.length_map]; omega, fun D nD => ?_⟩
    rw [List.length_map, la, Int.toNat_natCast]
    refine lc_range (lo := 0) (n := ps.length) (fun i H' => Same H H' ∧ ∃ as', H' D = some (.lst (as'.map V.ref)) ∧ PtsAt H' as' (unl ps i)) ?_ ?_ ?_
    · exact ⟨Same.new nD, [], upd_same, trivial⟩
    · rintro i H1 hi ⟨s1, as', hD1, hP1⟩
      have hP0 := PtsAt.tu (Tu.of s1) hP
      obtain ⟨a1, e1, p1⟩ := hP0.get (at0_get hi)
      have hm : (i + 1) % ps.length < ps.length := Nat.mod_lt _ (by omega)
      obtain ⟨a2, e2, p2⟩ := hP0.get (at0_get hm)
      rw [at0_mod] at p2
      have g1 : (as.map V.ref)[i]? = some (V.ref a1) := by rw [List.getElem?_map, e1]; rfl
      have g2 : (as.map V.ref)[(i + 1) % ps.length]? = some (V.ref a2) := by rw [List.getElem?_map, e2]; rfl
      refine ⟨rfl, ?_⟩
      have hS1 : SqL K H1 a (as.map V.ref) := SqL.of (s1 _ _ ha)
      have em : (0 + (i : Int) + 1) % (ps.length : Int) = (((i + 1) % ps.length : Nat) : Int) := by
        rw [Int.natCast_emod]; congr 1; omega
      refine ⟨_, rfl, _, rfl, a, _, _, _, rfl, rfl, hS1, at_of (by omega) g1, _, rfl, _, rfl, _, _, rfl, rfl, _, rfl, _, _, rfl, rfl, (by show (0 : Int) < (ps.length : Int); omega), a, _, _, _, rfl, rfl, hS1, at_of em g2, ptD (Kzq1.at0 ps i), ptD (Kzq1.at0 ps (i + 1)), p1.dp, p2.dp, ptSh _, ptSh _, _, rfl, ?_⟩
      rw [eqv_pt]
      by_cases c : Kzq1.at0 ps i = Kzq1.at0 ps (i + 1)
      · refine ifF (by rw [decide_eq_true c]; rfl) ⟨s1, as', hD1, ?_⟩
        rw [unl_more, if_pos c, List.append_nil]; exact hP1
      · refine ifT (by rw [decide_eq_false c]; rfl) ?_
        have l1 := hP1.len
        have l2 := unl_len ps i
        refine ⟨_, rfl, _, rfl, a, _, _, _, rfl, rfl, hS1, at_of (by omega) g1, _, hD1, ?_, ?_, as' ++ [a1], ?_, ?_⟩
        · rw [List.length_map]
          have e : sizeLine = 16777216 := by decide
          rw [e]; omega
        · intro b o e
          rw [upd_ne (ne_of_none e nD)]
          exact s1 _ _ e
        · rw [upd_same, List.map_append]; rfl
        · rw [unl_more, if_neg c]
          exact PtsAt.snoc (p1.tu (Tu.lst hD1)) (PtsAt.tu (Tu.lst hD1) hP1)
    · rintro H1 ⟨s1, as', hD1, hP1⟩
      rw [unl_all] at hP1
      have l1 := hP1.len
      have l2 : (Kzq1.unlike ps).length ≤ ps.length := by rw [← unl_all]; exact unl_len ps _
      refine ⟨_, rfl, D, _, rfl, .inl (SqL.of hD1), _, rfl, by omega, by rw [List.length_map]; omega, ?_⟩
      rw [List.length_map, l1, Int.toNat_natCast]
      have szU : ∀ p ∈ Kzq1.unlike ps, SzP k p := fun p hp => hz p (unlike_mem hp)
      refine for_range (lo := 0) (n := (Kzq1.unlike ps).length) (fun i σ H' => H' = H1 ∧ ∃ r : Option V, σ = [some (.ref a), some (.int (ps.length : Int)), some (.ref D), some (.int ((fst (Kzq1.unlike ps) i : Nat) : Int)), r]) ?_ ?_ ?_
      · exact ⟨rfl, none, rfl⟩
      · rintro i σ H2 hi ⟨rfl, r, rfl⟩
        have hf : fst (Kzq1.unlike ps) i < (Kzq1.unlike ps).length := by have := fst_le (Kzq1.unlike ps) i; omega
        obtain ⟨a1, e1, p1⟩ := hP1.get (at0_get hi)
        obtain ⟨a2, e2, p2⟩ := hP1.get (at0_get hf)
        have g1 : (as'.map V.ref)[i]? = some (V.ref a1) := by rw [List.getElem?_map, e1]; rfl
        have g2 : (as'.map V.ref)[fst (Kzq1.unlike ps) i]? = some (V.ref a2) := by rw [List.getElem?_map, e2]; rfl
        refine ⟨_, rfl, _, rfl, D, _, _, _, rfl, rfl, SqL.of hD1, at_of (by omega) g1, _, rfl, _, rfl, D, _, _, _, rfl, rfl, SqL.of hD1, atI_nat g2, a1, a2, _, _, k, rfl, p1, p2, szU _ (at0_mem (by omega)), szU _ (at0_mem (by omega)), hk, _, rfl, ?_⟩
        by_cases c : Kzq1.before (Kzq1.at0 (Kzq1.unlike ps) i) (Kzq1.at0 (Kzq1.unlike ps) (fst (Kzq1.unlike ps) i)) = true
        · refine ifT c ?_
          refine ⟨_, rfl, rfl, some (.int (0 + (i : Int))), ?_⟩
          rw [fst_more, if_pos c, Int.zero_add]
          rfl
        · refine ifF (by simpa using c) ?_
          refine ⟨rfl, some (.int (0 + (i : Int))), ?_⟩
          rw [fst_more, if_neg c]
          rfl
      · rintro σ H2 ⟨rfl, r, rfl⟩
        refine ⟨_, rfl, _, rfl, _, rfl, D, _, rfl, SqL.of hD1, fun b1 n1 => ?_⟩
        generalize hj : fst (Kzq1.unlike ps) (Kzq1.unlike ps).length = j at *
        have t1 := Same.new (o := .lst (cutV (as'.map V.ref) (some (j : Int)) none)) n1
        refine ⟨_, rfl, _, rfl, _, rfl, D, _, rfl, SqL.of (t1 _ _ hD1), fun b2 n2 => ?_⟩
        have t2 := Same.new (o := .lst (cutV (as'.map V.ref) none (some (j : Int)))) n2
        have x1 := cutV_length (as'.map V.ref) (some (j : Int)) none
        have x2 := cutV_length (as'.map V.ref) none (some (j : Int))
        rw [List.length_map] at x1 x2
        refine ⟨b1, b2, _, _, rfl, rfl, t2 _ _ upd_same, upd_same, ?_, fun b3 n3 => ?_⟩
        · have e : sizeLine = 16777216 := by decide
          rw [e]; omega
        have t3 := Same.new (o := .lst (cutV (as'.map V.ref) (some (j : Int)) none ++ cutV (as'.map V.ref) none (some (j : Int)))) n3
        have tt := (s1.trans t1).trans (t2.trans t3)
        refine q _ b3 (as'.drop j ++ as'.take j) tt ((s1.trans (t1.trans t2)).free n3) ?_ ?_
        · rw [upd_same, cut_from, cut_to, List.map_append, List.map_drop, List.map_take]
        · unfold pieceOf
          rw [begun_fst, hj]
          have hP3 := PtsAt.tu (Tu.of (t1.trans (t2.trans t3))) hP1
          exact PtsAt.append (hP3.drop j) (hP3.take j)
end

end ScA
namespace ScA
open PySem PySem.Spec PyProof.Rows L2
open Sc
/-! parts in the heap; cutting_numbers -/
def hI (b : Bool) : Int := if b then 1 else 0
def PartAt (C : Addr) (H : Hp) (a : Addr) (p : Kzq2.Part) : Prop := ∃ dx pc sl as, H a = some (.ins C dx (ptF (.ref pc) (.int (hI p.m.h)) (.ref sl))) ∧ H pc = some (.lst (as.map V.ref)) ∧ PtsAt H as p.l ∧ PtAt H sl p.m.t
theorem PartAt.mono {C : Addr} {H H' : Hp} {a : Addr} {p : Kzq2.Part} (h : PartAt C H a p) (s : Same H H') : PartAt C H' a p :=
  let ⟨dx, pc, sl, as, h1, h2, h3, h4⟩ := h
  ⟨dx, pc, sl, as, s _ _ h1, s _ _ h2, PtsAt.tu (Tu.of s) h3, h4.mono s⟩
def PartsAt (C : Addr) (H : Hp) : List Addr → List Kzq2.Part → Prop
  | [], [] => True
  | a :: as, p :: ps => PartAt C H a p ∧ PartsAt C H as ps
  | _, _ => False
theorem PartsAt.mono {C : Addr} {H H' : Hp} (s : Same H H') : ∀ {as : List Addr} {ps : List Kzq2.Part}, PartsAt C H as ps → PartsAt C H' as ps
  | [], [], h => h
  | _ :: _, _ :: _, h => ⟨h.1.mono s, PartsAt.mono s h.2⟩
  | [], _ :: _, h => h.elim
  | _ :: _, [], h => h.elim
theorem PartsAt.len {C : Addr} {H : Hp} : ∀ {as : List Addr} {ps : List Kzq2.Part}, PartsAt C H as ps → as.length = ps.length
  | [], [], _ => rfl
  | _ :: _, _ :: _, h => congrArg (· + 1) (PartsAt.len h.2)
  | [], _ :: _, h => h.elim
  | _ :: _, [], h => h.elim
theorem PartsAt.get {C : Addr} {H : Hp} : ∀ {as : List Addr} {ps : List Kzq2.Part} {i : Nat} {a : Addr}, PartsAt C H as ps → as[i]? = some a → ∃ p, ps[i]? = some p ∧ PartAt C H a p
  | a :: _, p :: _, 0, q, h, e => by
    have e : a = q := Option.some.inj e
    subst e
    exact ⟨p, rfl, h.1⟩
  | _ :: _, _ :: _, i + 1, q, h, e => PartsAt.get (i := i) (a := q) h.2 e
  | [], [], _, _, _, e => by simp at e
  | [], _ :: _, _, _, h, _ => h.elim
  | _ :: _, [], _, _, h, _ => h.elim
theorem PtsAt.at {H : Hp} : ∀ {as : List Addr} {ps : List Pt} {i : Nat} {a : Addr}, PtsAt H as ps → as[i]? = some a → ∃ p, ps[i]? = some p ∧ PtAt H a p
  | a :: _, p :: _, 0, q, h, e => by
    have e : a = q := Option.some.inj e
    subst e
    exact ⟨p, rfl, h.1⟩
  | _ :: _, _ :: _, i + 1, q, h, e => PtsAt.at (i := i) (a := q) h.2 e
  | [], [], _, _, _, e => by simp at e
  | [], _ :: _, _, _, h, _ => h.elim
  | _ :: _, [], _, _, h, _ => h.elim
theorem written_snoc (l : List Pt) (p : Pt) : Kzq1.written (l ++ [p]) = Kzq1.written l ++ ptN p := by
  unfold Kzq1.written
  rw [List.flatMap_append, List.flatMap_singleton]; rfl
theorem cut_snoc (l : List Kzq2.Part) (p : Kzq2.Part) : Kzq2.writtenCut (l ++ [p]) = Kzq2.writtenCut l ++ (((p.l.length : Nat) : Int) :: (Kzq1.written p.l ++ (hI p.m.h :: ptN p.m.t))) := by
  unfold Kzq2.writtenCut
  rw [List.flatMap_append, List.flatMap_singleton]
  rfl
theorem cut_len (l : List Kzq2.Part) {n : Nat} (h : ∀ p ∈ l, p.l.length ≤ n) : (Kzq2.writtenCut l).length ≤ l.length * (4 * n + 6) := by
  induction l with
  | nil => exact Nat.zero_le _
  | cons p r ih =>
    have e : Kzq2.writtenCut (p :: r) = (((p.l.length : Nat) : Int) :: (Kzq1.written p.l ++ Kzq2.writtenMove p.m)) ++ Kzq2.writtenCut r := rfl
    have h1 := ih fun q hq => h q (List.mem_cons_of_mem _ hq)
    have h2 := h p List.mem_cons_self
    have e2 : (Kzq2.writtenMove p.m).length = 5 := rfl
    rw [e, List.length_append, List.length_cons, List.length_append, written_len, e2, List.length_cons, Nat.add_mul, Nat.one_mul]
    omega
end ScA
namespace ScA
open PySem PySem.Spec PyProof.Rows L2
open Sc
section
variable {Pg : Program} {w : World} {K : PySem.W.Frag} {mg : Str → Option Value} {base : Heap} {CF CP CS fP fS : Addr}
def spCn (C : Addr) : Sp := fun vs H Q _ => ∃ (a : Addr) (as : List Addr) (ps : List Kzq2.Part), vs = [.ref a] ∧ H a = some (.lst (as.map V.ref)) ∧ PartsAt C H as ps ∧ ps.length ≤ 1000 ∧ (∀ p ∈ ps, p.l.length ≤ 1000) ∧
  ∀ H' q, Same H H' → H q = none → H' q = some (.lst ((Kzq2.writtenCut ps).map V.int)) → Q (.ref q) H'
theorem scCn : FnScope ["parts", "row", "part", "corner"] ["parts"] (defScope s_cutting_numbers) := ⟨rfl, rfl, rfl, by decide +kernel, rfl, by decide +kernel, by decide +kernel⟩
theorem ok_cn {f fB : Addr} {fd fdB : FuncData} (F : Fun K "cutting_numbers" "cutting_numbers" s_cutting_numbers f fd) (T : ClsTxt K mg "Part" CP fP ["piece", "turned", "slid"]) (mLen : mg "len" = none)
    (GB : FnOk Pg w K mg base CX0 1 fB fdB ["point"] spPn) (mB : mg "point_numbers" = some (.ref fB)) (kB : PySem.W.keepIn K (.ref fB) = true) (bB : Binds K fdB ["point"] []) :
    FnOk Pg w K mg base CX0 2 f fd ["parts"] (spCn CP) := by
  refine F.ok scCn (fun vs H Q E h => ?_) (fun cdv A outer s H vs Q E hr h => ⟨_,
    pss_cons (ps_set (i := 1) scCn.nd rfl (Or.inl rfl) (pe_lst pa_nil))
    (pss_cons (ps_for PassesOwn.never rfl (pi_list (pv 0)) (pg_name (i := 2) scCn.nd rfl (Or.inl rfl))
      (pss_cons (ps_expr (pe_bm PySem.F.plainAttrs_list PySem.F.slot_list_append PySem.F.type_list_append mt_append (pv 1) (pa_cons (pe_callB call_len_seq (by rfl) mLen PySem.boot_len (pa_cons (pe_fld (pv 2) rfl) pa_nil)) pa_nil)))
      (pss_cons (ps_for PassesOwn.never rfl (pi_list (pe_fld (pv 2) rfl)) (pg_name (i := 3) scCn.nd rfl (Or.inl rfl))
        (pss_one (ps_expr (pe_bm PySem.F.plainAttrs_list PySem.F.slot_list_extend PySem.F.type_list_extend mt_extend (pv 1) (pa_cons (pe_call GB hr rfl mB kB bB .nil pass0 (pa_cons (pv 3) pa_nil)) pa_nil)))))
      (pss_cons (ps_expr (pe_bm PySem.F.plainAttrs_list PySem.F.slot_list_append PySem.F.type_list_append mt_append (pv 1) (pa_cons (pe_fld (pv 2) rfl) pa_nil)))
      (pss_one (ps_expr (pe_bm PySem.F.plainAttrs_list PySem.F.slot_list_extend PySem.F.type_list_extend mt_extend (pv 1) (pa_cons (pe_call GB hr rfl mB kB bB .nil pass0 (pa_cons (pe_fld (pv 2) rfl) pa_nil)) pa_nil))))))))
    (pss_one (ps_ret (pv 1)))), ?_⟩)
  · obtain ⟨a, as, ps, rfl, _⟩ := h
    rfl
  · obtain ⟨a, as, ps, rfl, ha, hP, hl, hpl, q⟩ := h
    have la := hP.len
    refine ⟨(by show 0 ≤ sizeLine; decide), fun r nr => ?_⟩
    have s0 := Same.new (o := .lst []) nr
    refine ⟨_, rfl, a, rfl, ⟨_, SqL.of (s0 _ _ ha)⟩, for_list (K := K) (a := a) (xs := as.map V.ref) (fun i σ H' => ∃ v1 v2 : Option V, σ = [some (.ref a), some (.ref r), v1, v2] ∧ Same H H' ∧ H' r = some (.lst ((Kzq2.writtenCut (ps.take i)).map V.int)))
      ⟨none, none, rfl, s0, upd_same⟩ (fun i σ H' _ ⟨_, _, _, s5, _⟩ => SqL.of (s5 _ _ ha)) ?_ ?_⟩
    · rintro i y σ H1 hi ⟨v1, v2, rfl, s1, hr1⟩
      obtain ⟨b, hb, rfl⟩ : ∃ b, as[i]? = some b ∧ y = V.ref b := by
        rw [List.getElem?_map] at hi
        cases e : as[i]? with
        | none => rw [e] at hi; cases hi
        | some z => rw [e] at hi; exact ⟨z, rfl, (Option.some.inj hi).symm⟩
      obtain ⟨p, hp, pa⟩ := hP.get hb
      have bd : (Kzq2.writtenCut (ps.take i)).length ≤ 1000 * 4006 := by
        have z := cut_len (ps.take i) (n := 1000) fun z hz => hpl z (List.mem_of_mem_take hz)
        rw [List.length_take] at z
        refine Nat.le_trans z (Nat.mul_le_mul ?_ (by omega))
        omega
      have pl : p.l.length ≤ 1000 := hpl p (List.mem_of_getElem? hp)
      generalize hw : Kzq2.writtenCut (ps.take i) = nums at *
      have fin : Kzq2.writtenCut (ps.take (i + 1)) = nums ++ (((p.l.length : Nat) : Int) :: (Kzq1.written p.l ++ (hI p.m.h :: ptN p.m.t))) := by rw [take_more hp, cut_snoc, hw]
      obtain ⟨dx, pc, sl, cs, h1, h2, h3, h4⟩ := pa
      have lc := h3.len
      have step : ∀ {H2 : Hp} {o : HO}, Same H H2 → Same H (upd H2 r o) := fun {H2 o} s2 b o' e => by
        rw [upd_ne (ne_of_none e nr)]; exact s2 _ _ e
      refine ⟨_, rfl, .inl ⟨rfl, _, SqL.of hr1⟩, _, rfl, b, CP, dx, _, _, rfl, s1 _ _ h1, T.cl, T.n _ (by simp), lkH, pc, _, rfl, .inl (SqL.of (s1 _ _ h2)), r, _, _, rfl, rfl, hr1, ?_, ?_⟩
      · rw [List.length_map, szl]; omega
      have s2 := step (o := .lst (nums.map V.int ++ [V.int ((cs.map V.ref).length : Int)])) s1
      refine ⟨_, rfl, b, CP, dx, _, _, rfl, s2 _ _ h1, T.cl, T.n _ (by simp), lkH, pc, rfl, ⟨_, SqL.of (s2 _ _ h2)⟩, for_list (K := K) (a := pc) (xs := cs.map V.ref)
        (fun j σ H' => ∃ v2 : Option V, σ = [some (.ref a), some (.ref r), some (.ref b), v2] ∧ Same H H' ∧ H' r = some (.lst ((nums ++ (((p.l.length : Nat) : Int) :: Kzq1.written (p.l.take j))).map V.int)))
        ⟨v2, rfl, s2, ?_⟩ (fun j σ H' _ ⟨_, _, s5, _⟩ => SqL.of (s5 _ _ h2)) ?_ ?_⟩
      · rw [upd_same, List.length_map, lc, List.map_append]; rfl
      · rintro j y σ H3 hj ⟨v3, rfl, s3, hr3⟩
        obtain ⟨c, hc, rfl⟩ : ∃ c, cs[j]? = some c ∧ y = V.ref c := by
          rw [List.getElem?_map] at hj
          cases e : cs[j]? with
          | none => rw [e] at hj; cases hj
          | some z => rw [e] at hj; exact ⟨z, rfl, (Option.some.inj hj).symm⟩
        obtain ⟨pt, hpt, hca⟩ := h3.at hc
        refine ⟨_, rfl, .inl ⟨rfl, _, SqL.of hr3⟩, _, rfl, c, pt, rfl, hca.mono s3, fun d nd => ?_⟩
        have s4 := Same.new (o := .lst ((ptN pt).map V.int)) nd
        have wl := written_len (p.l.take j)
        rw [List.length_take] at wl
        refine ⟨r, d, _, _, rfl, rfl, s4 _ _ hr3, upd_same, ?_, ?_⟩
        · rw [List.length_map, List.length_append, List.length_cons, List.length_map, szl]
          show _ + 4 ≤ _
          omega
        · refine ⟨some (.ref c), rfl, step (s3.trans s4), ?_⟩
          rw [upd_same, take_more hpt, written_snoc, ← List.map_append, List.append_assoc]; rfl
      · rintro σ H3 ⟨v3, rfl, s3, hr3⟩
        rw [List.length_map, lc, List.take_length] at hr3
        have wl := written_len p.l
        refine ⟨_, rfl, .inl ⟨rfl, _, SqL.of hr3⟩, _, rfl, b, CP, dx, _, _, rfl, s3 _ _ h1, T.cl, T.n _ (by simp), (lkP (by decide +kernel)).trans lkH, r, _, _, rfl, rfl, hr3, ?_, ?_⟩
        · rw [List.length_map, List.length_append, List.length_cons, szl]; omega
        have s4 := step (o := .lst ((nums ++ (((p.l.length : Nat) : Int) :: Kzq1.written p.l)).map V.int ++ [V.int (hI p.m.h)])) s3
        refine ⟨_, rfl, .inl ⟨rfl, _, SqL.of upd_same⟩, _, rfl, b, CP, dx, _, _, rfl, s4 _ _ h1, T.cl, T.n _ (by simp), (lkP (by decide +kernel)).trans ((lkP (by decide +kernel)).trans lkH), sl, p.m.t, rfl, h4.mono s4, fun d nd => ?_⟩
        have s5 := Same.new (o := .lst ((ptN p.m.t).map V.int)) nd
        refine ⟨r, d, _, _, rfl, rfl, s5 _ _ upd_same, upd_same, ?_, ?_⟩
        · rw [List.length_append, List.length_map, List.length_append, List.length_cons, List.length_map, szl]
          show _ + 1 + 4 ≤ _
          omega
        · refine ⟨some (.ref b), v3, rfl, step (s4.trans s5), ?_⟩
          rw [upd_same, fin]
          simp only [List.map_append, List.map_cons, List.append_assoc, List.cons_append, List.nil_append]
    · rintro σ H1 ⟨v1, v2, rfl, s1, hr1⟩
      rw [List.length_map, la, List.take_length] at hr1
      exact ⟨_, rfl, q H1 r s1 nr hr1⟩
end

end ScA
namespace ScA
open PySem PySem.Spec PyProof.Rows L2
open Sc
section
variable {Pg : Program} {w : World} {K : PySem.W.Frag} {mg : Str → Option Value} {base : Heap} {CF CP CS fP fS : Addr}
def spCa (C : Addr) : Sp := fun vs H Q _ => ∃ (a : Addr) (as : List Addr) (ps : List Kzq2.Part), vs = [.ref a] ∧ H a = some (.lst (as.map V.ref)) ∧ PartsAt C H as ps ∧ ps.length ≤ 1000 ∧ (∀ p ∈ ps, p.l.length ≤ 1000) ∧
  ∀ H' q, Same H H' → H q = none → H' q = some (.lst ((((ps.length : Nat) : Int) :: Kzq2.writtenCut ps).map V.int)) → Q (.ref q) H'
theorem scCa : FnScope ["parts"] ["parts"] (defScope s_cutting_answer) := ⟨rfl, rfl, rfl, by decide +kernel, rfl, by decide +kernel, by decide +kernel⟩
theorem ok_ca {f fC : Addr} {fd fdC : FuncData} (F : Fun K "cutting_answer" "cutting_answer" s_cutting_answer f fd) (mLen : mg "len" = none)
    (GC : FnOk Pg w K mg base CX0 2 fC fdC ["parts"] (spCn CP)) (mC : mg "cutting_numbers" = some (.ref fC)) (kC : PySem.W.keepIn K (.ref fC) = true) (bC : Binds K fdC ["parts"] []) :
    FnOk Pg w K mg base CX0 3 f fd ["parts"] (spCa CP) := by
  refine F.ok scCa (fun vs H Q E h => ?_) (fun cdv A outer s H vs Q E hr h => ⟨_,
    pss_one (ps_ret (pe_op op_cat (pe_lst (pa_cons (pe_callB call_len_seq (by rfl) mLen PySem.boot_len (pa_cons (pv 0) pa_nil)) pa_nil)) (pe_call GC hr rfl mC kC bC .nil pass0 (pa_cons (pv 0) pa_nil)))), ?_⟩)
  · obtain ⟨a, as, ps, rfl, _⟩ := h
    rfl
  · obtain ⟨a, as, ps, rfl, ha, hP, hl, hpl, q⟩ := h
    have la := hP.len
    refine ⟨_, rfl, a, _, rfl, .inl (SqL.of ha), (by show 1 ≤ sizeLine; decide), fun g3 n3 => ?_⟩
    have s3 := Same.new (o := .lst [V.int ((as.map V.ref).length : Int)]) n3
    refine ⟨_, rfl, a, as, ps, rfl, s3 _ _ ha, PartsAt.mono s3 hP, hl, hpl, fun H4 g4 s4 n4 h4 => ?_⟩
    refine ⟨g3, g4, _, _, rfl, rfl, s4 _ _ upd_same, h4, ?_, fun g5 n5 => ?_⟩
    · rw [List.length_map, szl]
      have z := cut_len ps (n := 1000) hpl
      have z2 : (Kzq2.writtenCut ps).length ≤ 1000 * 4006 := Nat.le_trans z (Nat.mul_le_mul hl (by omega))
      simp only [List.length_cons, List.length_nil, List.length_map]
      omega
    · have s5 := Same.new (o := .lst ([V.int ((as.map V.ref).length : Int)] ++ (Kzq2.writtenCut ps).map V.int)) n5
      refine q _ g5 ((s3.trans s4).trans s5) ((s3.trans s4).free n5) ?_
      rw [upd_same, List.length_map, la]
      rfl
end
end ScA
namespace ScA
open PySem PySem.Spec PyProof.Rows L2
open Sc
/-! lists of things in the heap -/
def LsAt {α : Type} (R : Hp → Addr → α → Prop) (H : Hp) : List Addr → List α → Prop
  | [], [] => True
  | a :: as, x :: xs => R H a x ∧ LsAt R H as xs
  | _, _ => False
section
variable {α : Type} {R : Hp → Addr → α → Prop} {H H' : Hp}
theorem LsAt.tu (hR : ∀ a x, R H a x → R H' a x) : ∀ {as : List Addr} {xs : List α}, LsAt R H as xs → LsAt R H' as xs
  | [], [], h => h
  | _ :: _, _ :: _, h => ⟨hR _ _ h.1, LsAt.tu hR h.2⟩
  | [], _ :: _, h => h.elim
  | _ :: _, [], h => h.elim
theorem LsAt.len : ∀ {as : List Addr} {xs : List α}, LsAt R H as xs → as.length = xs.length
  | [], [], _ => rfl
  | _ :: _, _ :: _, h => congrArg (· + 1) (LsAt.len h.2)
  | [], _ :: _, h => h.elim
  | _ :: _, [], h => h.elim
theorem LsAt.snoc {a : Addr} {x : α} (hx : R H a x) : ∀ {as : List Addr} {xs : List α}, LsAt R H as xs → LsAt R H (as ++ [a]) (xs ++ [x])
  | [], [], _ => ⟨hx, trivial⟩
  | _ :: _, _ :: _, h => ⟨h.1, LsAt.snoc hx h.2⟩
  | [], _ :: _, h => h.elim
  | _ :: _, [], h => h.elim
theorem LsAt.append : ∀ {as bs : List Addr} {xs ys : List α}, LsAt R H as xs → LsAt R H bs ys → LsAt R H (as ++ bs) (xs ++ ys)
  | [], _, [], _, _, h => h
  | _ :: _, _, _ :: _, _, h, g => ⟨h.1, LsAt.append h.2 g⟩
  | [], _, _ :: _, _, h, _ => h.elim
  | _ :: _, _, [], _, h, _ => h.elim
theorem LsAt.get : ∀ {as : List Addr} {xs : List α} {i : Nat} {x : α}, LsAt R H as xs → xs[i]? = some x → ∃ a, as[i]? = some a ∧ R H a x
  | a :: _, x :: _, 0, y, h, e => by
    have e : x = y := Option.some.inj e
    subst e
    exact ⟨a, rfl, h.1⟩
  | _ :: _, _ :: _, i + 1, y, h, e => LsAt.get (i := i) (x := y) h.2 e
  | [], [], _, _, _, e => by simp at e
  | [], _ :: _, _, _, h, _ => h.elim
  | _ :: _, [], _, _, h, _ => h.elim
theorem LsAt.at : ∀ {as : List Addr} {xs : List α} {i : Nat} {a : Addr}, LsAt R H as xs → as[i]? = some a → ∃ x, xs[i]? = some x ∧ R H a x
  | a :: _, x :: _, 0, q, h, e => by
    have e : a = q := Option.some.inj e
    subst e
    exact ⟨x, rfl, h.1⟩
  | _ :: _, _ :: _, i + 1, q, h, e => LsAt.at (i := i) (a := q) h.2 e
  | [], [], _, _, _, e => by simp at e
  | [], _ :: _, _, _, h, _ => h.elim
  | _ :: _, [], _, _, h, _ => h.elim
end
end ScA
namespace ScA
open PySem PySem.Spec PyProof.Rows L2
open Sc
/-! parts whose corners don't lie in a given list; new parts -/
def PartX (C D : Addr) (H : Hp) (a : Addr) (p : Kzq2.Part) : Prop := ∃ dx pc sl as, H a = some (.ins C dx (ptF (.ref pc) (.int (hI p.m.h)) (.ref sl))) ∧ H pc = some (.lst (as.map V.ref)) ∧ PtsAt H as p.l ∧ PtAt H sl p.m.t ∧ pc ≠ D
def PartNew (C : Addr) (H0 H : Hp) (a : Addr) (p : Kzq2.Part) : Prop := ∃ dx pc sl as, H a = some (.ins C dx (ptF (.ref pc) (.int (hI p.m.h)) (.ref sl))) ∧ H pc = some (.lst (as.map V.ref)) ∧ PtsAt H as p.l ∧ PtAt H sl p.m.t ∧ H0 pc = none
theorem PartNew.x {C D : Addr} {H0 H : Hp} {a : Addr} {p : Kzq2.Part} {o : HO} (h : PartNew C H0 H a p) (hd : H0 D = some o) : PartX C D H a p :=
  let ⟨dx, pc, sl, as, h1, h2, h3, h4, h5⟩ := h
  ⟨dx, pc, sl, as, h1, h2, h3, h4, fun e => by rw [e, hd] at h5; cases h5⟩
theorem PartX.mono {C D : Addr} {H H' : Hp} {a : Addr} {p : Kzq2.Part} (h : PartX C D H a p) (s : Same H H') : PartX C D H' a p :=
  let ⟨dx, pc, sl, as, h1, h2, h3, h4, h5⟩ := h
  ⟨dx, pc, sl, as, s _ _ h1, s _ _ h2, PtsAt.tu (Tu.of s) h3, h4.mono s, h5⟩
theorem PartX.up {C D : Addr} {H : Hp} {a : Addr} {p : Kzq2.Part} {l : List V} {o : HO} (h : PartX C D H a p) (hd : H D = some (.lst l)) : PartX C D (upd H D o) a p := by
  obtain ⟨dx, pc, sl, as, h1, h2, h3, h4, h5⟩ := h
  have t := Tu.lst (o := o) hd
  refine ⟨dx, pc, sl, as, ?_, ?_, PtsAt.tu t h3, h4.tu t, h5⟩
  · rw [upd_ne (ne_of h1 hd (by intro z; cases z))]; exact h1
  · rw [upd_ne h5]; exact h2
theorem PartX.part {C D : Addr} {H : Hp} {a : Addr} {p : Kzq2.Part} (h : PartX C D H a p) : PartAt C H a p :=
  let ⟨dx, pc, sl, as, h1, h2, h3, h4, _⟩ := h
  ⟨dx, pc, sl, as, h1, h2, h3, h4⟩
theorem PartsAt.of {C D : Addr} {H : Hp} : ∀ {as : List Addr} {ps : List Kzq2.Part}, LsAt (PartX C D) H as ps → PartsAt C H as ps
  | [], [], _ => trivial
  | _ :: _, _ :: _, h => ⟨h.1.part, PartsAt.of h.2⟩
  | [], _ :: _, h => h.elim
  | _ :: _, [], h => h.elim
end ScA
namespace ScA
open PySem PySem.Spec PyProof.Rows L2
open Sc
theorem at_prev {xs : List V} {k : Nat} {v : V} (hk : k < xs.length) (h : xs[(k + xs.length - 1) % xs.length]? = some v) : atI xs (0 + (k : Int) - 1) = some v := by
  by_cases c : k = 0
  · subst c
    have e : (0 + xs.length - 1) % xs.length = xs.length - 1 := by rw [Nat.zero_add]; exact Nat.mod_eq_of_lt (by omega)
    rw [e] at h
    unfold atI ixN
    rw [if_neg (by omega), if_pos (by omega)]
    have e2 : (0 + ((0 : Nat) : Int) - 1 + (xs.length : Int)).toNat = xs.length - 1 := by omega
    rw [e2]; exact h
  · have e : (k + xs.length - 1) % xs.length = k - 1 := by
      rw [show k + xs.length - 1 = k - 1 + xs.length by omega, Nat.add_mod_right]
      exact Nat.mod_eq_of_lt (by omega)
    rw [e] at h
    exact at_of (by omega) h
end ScA
namespace ScA
open PySem PySem.Spec PyProof.Rows L2
open Sc
/-! three whole numbers over one bottom, in the heap -/
def TrAt (H : Hp) (a : Addr) (t : Tr) : Prop := H a = some (.tup [.int t.x, .int t.y, .int t.z])
theorem TrAt.mono {H H' : Hp} {a : Addr} {t : Tr} (h : TrAt H a t) (s : Same H H') : TrAt H' a t := s _ _ h
theorem TrAt.tu {H H' : Hp} (s : Tu H H') (a : Addr) (t : Tr) (h : TrAt H a t) : TrAt H' a t := s _ _ h
def linesT (l : List Tr) : List Tr := (List.range l.length).map fun k => lineT (aT l (k + l.length - 1)) (aT l k)
theorem linesT_len (l : List Tr) : (linesT l).length = l.length := by unfold linesT; rw [List.length_map, List.length_range]
theorem linesT_get {l : List Tr} {k : Nat} (h : k < l.length) : (linesT l)[k]? = some (lineT (aT l (k + l.length - 1)) (aT l k)) := by
  unfold linesT
  rw [List.getElem?_map, List.getElem?_range h]; rfl
theorem aT_get {l : List Tr} {i : Nat} (h : i < l.length) : l[i]? = some (aT l i) := by
  unfold aT
  rw [Nat.mod_eq_of_lt h, List.getD_eq_getElem?_getD, List.getElem?_eq_getElem h]; rfl
theorem aT_mod (l : List Tr) (i : Nat) : aT l (i % l.length) = aT l i := by unfold aT; rw [Nat.mod_mod]
theorem lineT_sz {a b : Tr} {m : Nat} (ha : SzT m a) (hb : SzT m b) : SzT (2 * m + 1) (lineT a b) := by
  have bd : ∀ {i j k l : Int}, i.natAbs < 2 ^ m → j.natAbs < 2 ^ m → k.natAbs < 2 ^ m → l.natAbs < 2 ^ m → (i * j - k * l).natAbs < 2 ^ (2 * m + 1) := fun {i j k l} h1 h2 h3 h4 => by
    have := cross_lt (i := i) (j := j) (k := -k) (l := l) (a := m) (b := m) h1 h2 (by rw [Int.natAbs_neg]; exact h3) h4
    rw [Int.neg_mul] at this
    rw [show 2 * m + 1 = m + m + 1 by omega]
    exact this
  exact ⟨bd ha.2.1 hb.2.2 ha.2.2 hb.2.1, bd ha.2.2 hb.1 ha.1 hb.2.2, bd ha.1 hb.2.1 ha.2.1 hb.1⟩
theorem fdn (a b c : Nat) : (a : Int).fdiv (gcdI (b : Int) (c : Int)) = ((a / Nat.gcd b c : Nat) : Int) := by
  have e : gcdI (b : Int) (c : Int) = ((Nat.gcd b c : Nat) : Int) := by unfold gcdI; rw [Int.natAbs_natCast, Int.natAbs_natCast]
  rw [e, Int.fdiv_eq_ediv_of_nonneg _ (by omega), Int.natCast_ediv]
section
variable {Pg : Program} {w : World} {K : PySem.W.Frag} {mg : Str → Option Value} {base : Heap} {CF CP CS fP fS CO fO : Addr}
def spOb : Sp := fun vs H Q _ => ∃ (x : Addr) (p : Pt) (m : Nat), vs = [.ref x] ∧ PtAt H x p ∧ OkP p ∧ SzP m p ∧ m ≤ 13500 ∧ ∀ H' q, Same H H' → H q = none → TrAt H' q (trP p) → Q (.ref q) H'
theorem scOb : FnScope ["point", "right", "up", "measure"] ["point"] (defScope s_over_one_bottom) := ⟨rfl, rfl, rfl, by decide +kernel, rfl, by decide +kernel, by decide +kernel⟩
theorem ok_ob {f fC : Addr} {fd fdC : FuncData} (F : Fun K "over_one_bottom" "over_one_bottom" s_over_one_bottom f fd) (GC : FnOk Pg w K mg base CX0 1 fC fdC ["a", "b"] spCm) (mC : mg "common_measure" = some (.ref fC)) (kC : PySem.W.keepIn K (.ref fC) = true) (bC : Binds K fdC ["a", "b"] []) :
    FnOk Pg w K mg base CX0 2 f fd ["point"] spOb := by
  refine F.ok scOb (fun vs H Q E h => ?_) (fun cdv A outer s H vs Q E hr h => ⟨_,
    pss_cons (ps_set (i := 1) scOb.nd rfl (Or.inl rfl) (pe_ix ix_tup (pv 0) pe_int (fun _ _ => rfl)))
    (pss_cons (ps_set (i := 2) scOb.nd rfl (Or.inl rfl) (pe_ix ix_tup (pv 0) pe_int (fun _ _ => rfl)))
    (pss_cons (ps_set (i := 3) scOb.nd rfl (Or.inl rfl) (pe_call GC hr rfl mC kC bC .nil pass0 (pa_cons (pe_ix ix_tup (pv 1) pe_int (fun _ _ => rfl)) (pa_cons (pe_ix ix_tup (pv 2) pe_int (fun _ _ => rfl)) pa_nil))))
    (pss_one (ps_ret (pe_tup (pa_cons (pe_op op_mulW (pe_ix ix_tup (pv 1) pe_int (fun _ _ => rfl)) (pe_op op_fdivZ (pe_ix ix_tup (pv 2) pe_int (fun _ _ => rfl)) (pv 3)))
      (pa_cons (pe_op op_mulW (pe_ix ix_tup (pv 2) pe_int (fun _ _ => rfl)) (pe_op op_fdivZ (pe_ix ix_tup (pv 1) pe_int (fun _ _ => rfl)) (pv 3)))
      (pa_cons (pe_op op_mulW (pe_ix ix_tup (pv 1) pe_int (fun _ _ => rfl)) (pe_op op_fdivZ (pe_ix ix_tup (pv 2) pe_int (fun _ _ => rfl)) (pv 3))) pa_nil)))))))), ?_⟩)
  · obtain ⟨x, p, m, rfl, _⟩ := h
    rfl
  · obtain ⟨x, p, m, rfl, ⟨x1, x2, hx, h1, h2⟩, ok, sz, hm, q⟩ := h
    have up : ∀ {z : Nat}, z < 2 ^ m → ((z : Nat) : Int).natAbs < 2 ^ 13500 := fun h1 => by rw [Int.natAbs_natCast]; exact Nat.lt_of_lt_of_le h1 (Nat.pow_le_pow_right (by omega) hm)
    have g0 : gcdI (p.x.d : Int) (p.y.d : Int) ≠ 0 := by
      have := gcdI_pos (t := (p.x.d : Int)) (b := (p.y.d : Int)) (by have := ok.2.1; omega)
      omega
    have dv : ∀ a g : Nat, a < 2 ^ m → (((a / g : Nat)) : Int).natAbs < 2 ^ m := fun a g h => by rw [Int.natAbs_natCast]; exact Nat.lt_of_le_of_lt (Nat.div_le_self _ _) h
    have nx : ((p.x.d : Int)).natAbs < 2 ^ m := by rw [Int.natAbs_natCast]; exact sz.1.2
    refine ⟨_, rfl, x, _, 0, _, rfl, rfl, SqT.of hx, rfl, ?_⟩
    refine ⟨_, rfl, x, _, 1, _, rfl, rfl, SqT.of hx, rfl, ?_⟩
    refine ⟨_, rfl, x1, _, 1, _, rfl, rfl, SqT.of h1, rfl, _, rfl, x2, _, 1, _, rfl, rfl, SqT.of h2, rfl, _, _, rfl, ?_⟩
    refine ⟨_, rfl, x1, _, 0, _, rfl, rfl, SqT.of h1, rfl, _, rfl, x2, _, 1, _, rfl, rfl, SqT.of h2, rfl, _, rfl, _, _, rfl, rfl, ⟨g0, up sz.2.2⟩, _, _, rfl, rfl, (by rw [fdn]; exact wmul sz.1.1 (dv _ _ sz.2.2) (by omega)), ?_⟩
    refine ⟨_, rfl, x2, _, 0, _, rfl, rfl, SqT.of h2, rfl, _, rfl, x1, _, 1, _, rfl, rfl, SqT.of h1, rfl, _, rfl, _, _, rfl, rfl, ⟨g0, up sz.1.2⟩, _, _, rfl, rfl, (by rw [fdn]; exact wmul sz.2.1 (dv _ _ sz.1.2) (by omega)), ?_⟩
    refine ⟨_, rfl, x1, _, 1, _, rfl, rfl, SqT.of h1, rfl, _, rfl, x2, _, 1, _, rfl, rfl, SqT.of h2, rfl, _, rfl, _, _, rfl, rfl, ⟨g0, up sz.2.2⟩, _, _, rfl, rfl, (by rw [fdn]; exact wmul nx (dv _ _ sz.2.2) (by omega)), ?_⟩
    refine ⟨(by show 3 ≤ sizeLine; decide), fun r nr => q _ r (Same.new nr) nr ?_⟩
    unfold TrAt trP
    rw [upd_same, fdn, fdn]
def spLt : Sp := fun vs H Q _ => ∃ (x y : Addr) (a b : Tr) (m : Nat), vs = [.ref x, .ref y] ∧ TrAt H x a ∧ TrAt H y b ∧ SzT m a ∧ SzT m b ∧ m ≤ 40000 ∧ ∀ H' q, Same H H' → H q = none → TrAt H' q (lineT a b) → Q (.ref q) H'
theorem scLt : FnScope ["a", "b"] ["a", "b"] (defScope s_line_through) := ⟨rfl, rfl, rfl, by decide +kernel, rfl, by decide +kernel, by decide +kernel⟩
theorem ok_lt {f : Addr} {fd : FuncData} (F : Fun K "line_through" "line_through" s_line_through f fd) : FnOk Pg w K mg base CX0 1 f fd ["a", "b"] spLt := by
  refine F.ok scLt (fun vs H Q E h => ?_) (fun cdv A outer s H vs Q E hr h => ⟨_,
    pss_one (ps_ret (pe_tup (pa_cons (pe_op op_sub (pe_op op_mulW (pe_ix ix_tup (pv 0) pe_int (fun _ _ => rfl)) (pe_ix ix_tup (pv 1) pe_int (fun _ _ => rfl))) (pe_op op_mulW (pe_ix ix_tup (pv 0) pe_int (fun _ _ => rfl)) (pe_ix ix_tup (pv 1) pe_int (fun _ _ => rfl))))
      (pa_cons (pe_op op_sub (pe_op op_mulW (pe_ix ix_tup (pv 0) pe_int (fun _ _ => rfl)) (pe_ix ix_tup (pv 1) pe_int (fun _ _ => rfl))) (pe_op op_mulW (pe_ix ix_tup (pv 0) pe_int (fun _ _ => rfl)) (pe_ix ix_tup (pv 1) pe_int (fun _ _ => rfl))))
      (pa_cons (pe_op op_sub (pe_op op_mulW (pe_ix ix_tup (pv 0) pe_int (fun _ _ => rfl)) (pe_ix ix_tup (pv 1) pe_int (fun _ _ => rfl))) (pe_op op_mulW (pe_ix ix_tup (pv 0) pe_int (fun _ _ => rfl)) (pe_ix ix_tup (pv 1) pe_int (fun _ _ => rfl)))) pa_nil))))), ?_⟩)
  · obtain ⟨x, y, a, b, m, rfl, _⟩ := h
    rfl
  · obtain ⟨x, y, a, b, m, rfl, hx, hy, sa, sb, hm, q⟩ := h
    have hx' := SqT.of (K := K) hx
    have hy' := SqT.of (K := K) hy
    have ml : ∀ {i j : Int}, i.natAbs < 2 ^ m → j.natAbs < 2 ^ m → CMulW i j := fun h1 h2 => wmul h1 h2 (by omega)
    refine ⟨_, rfl, x, _, 1, _, rfl, rfl, hx', rfl, _, rfl, y, _, 2, _, rfl, rfl, hy', rfl, _, _, rfl, rfl, ml sa.2.1 sb.2.2, _, rfl, x, _, 2, _, rfl, rfl, hx', rfl, _, rfl, y, _, 1, _, rfl, rfl, hy', rfl, _, _, rfl, rfl, ml sa.2.2 sb.2.1, _, _, rfl, rfl, ?_⟩
    refine ⟨_, rfl, x, _, 2, _, rfl, rfl, hx', rfl, _, rfl, y, _, 0, _, rfl, rfl, hy', rfl, _, _, rfl, rfl, ml sa.2.2 sb.1, _, rfl, x, _, 0, _, rfl, rfl, hx', rfl, _, rfl, y, _, 2, _, rfl, rfl, hy', rfl, _, _, rfl, rfl, ml sa.1 sb.2.2, _, _, rfl, rfl, ?_⟩
    refine ⟨_, rfl, x, _, 0, _, rfl, rfl, hx', rfl, _, rfl, y, _, 1, _, rfl, rfl, hy', rfl, _, _, rfl, rfl, ml sa.1 sb.2.1, _, rfl, x, _, 1, _, rfl, rfl, hx', rfl, _, rfl, y, _, 0, _, rfl, rfl, hy', rfl, _, _, rfl, rfl, ml sa.2.1 sb.1, _, _, rfl, rfl, ?_⟩
    exact ⟨(by show 3 ≤ sizeLine; decide), fun r nr => q _ r (Same.new nr) nr upd_same⟩
def spOl : Sp := fun vs H Q _ => ∃ (x y : Addr) (l c : Tr) (i j : Nat), vs = [.ref x, .ref y] ∧ TrAt H x l ∧ TrAt H y c ∧ SzT i l ∧ SzT j c ∧ i + j ≤ 90000 ∧ Q (.int (offT l c)) H
theorem scOl : FnScope ["line", "corner"] ["line", "corner"] (defScope s_off_line) := ⟨rfl, rfl, rfl, by decide +kernel, rfl, by decide +kernel, by decide +kernel⟩
theorem ok_ol {f : Addr} {fd : FuncData} (F : Fun K "off_line" "off_line" s_off_line f fd) : FnOk Pg w K mg base CX0 1 f fd ["line", "corner"] spOl := by
  refine F.ok scOl (fun vs H Q E h => ?_) (fun cdv A outer s H vs Q E hr h => ⟨_,
    pss_one (ps_ret (pe_op op_add (pe_op op_add (pe_op op_mulW (pe_ix ix_tup (pv 0) pe_int (fun _ _ => rfl)) (pe_ix ix_tup (pv 1) pe_int (fun _ _ => rfl))) (pe_op op_mulW (pe_ix ix_tup (pv 0) pe_int (fun _ _ => rfl)) (pe_ix ix_tup (pv 1) pe_int (fun _ _ => rfl))))
      (pe_op op_mulW (pe_ix ix_tup (pv 0) pe_int (fun _ _ => rfl)) (pe_ix ix_tup (pv 1) pe_int (fun _ _ => rfl))))), ?_⟩)
  · obtain ⟨x, y, l, c, i, j, rfl, _⟩ := h
    rfl
  · obtain ⟨x, y, l, c, i, j, rfl, hx, hy, sa, sb, hm, q⟩ := h
    have hx' := SqT.of (K := K) hx
    have hy' := SqT.of (K := K) hy
    have ml : ∀ {a b : Int}, a.natAbs < 2 ^ i → b.natAbs < 2 ^ j → CMulW a b := fun h1 h2 => wmul h1 h2 (by omega)
    refine ⟨_, rfl, x, _, 0, _, rfl, rfl, hx', rfl, _, rfl, y, _, 0, _, rfl, rfl, hy', rfl, _, _, rfl, rfl, ml sa.1 sb.1, _, rfl, x, _, 1, _, rfl, rfl, hx', rfl, _, rfl, y, _, 1, _, rfl, rfl, hy', rfl, _, _, rfl, rfl, ml sa.2.1 sb.2.1, _, _, rfl, rfl, ?_⟩
    exact ⟨_, rfl, x, _, 2, _, rfl, rfl, hx', rfl, _, rfl, y, _, 2, _, rfl, rfl, hy', rfl, _, _, rfl, rfl, ml sa.2.2 sb.2.2, _, _, rfl, rfl, q⟩
/-! lines_between -/
def spLb : Sp := fun vs H Q _ => ∃ (x : Addr) (as : List Addr) (l : List Tr) (m : Nat), vs = [.ref x] ∧ H x = some (.lst (as.map V.ref)) ∧ LsAt TrAt H as l ∧ (∀ t ∈ l, SzT m t) ∧ m ≤ 40000 ∧ l.length ≤ 1000 ∧
  ∀ H' q bs, Same H H' → H q = none → H' q = some (.lst (bs.map V.ref)) → LsAt TrAt H' bs (linesT l) → Q (.ref q) H'
theorem scLb : FnScope ["corners", "k"] ["corners"] (defScope s_lines_between) := ⟨rfl, rfl, rfl, by decide +kernel, rfl, by decide +kernel, by decide +kernel⟩
theorem ok_lb {f fL : Addr} {fd fdL : FuncData} (F : Fun K "lines_between" "lines_between" s_lines_between f fd) (mLen : mg "len" = none) (mRange : mg "range" = none)
    (GL : FnOk Pg w K mg base CX0 1 fL fdL ["a", "b"] spLt) (mL : mg "line_through" = some (.ref fL)) (kL : PySem.W.keepIn K (.ref fL) = true) (bL : Binds K fdL ["a", "b"] []) :
    FnOk Pg w K mg base CX0 2 f fd ["corners"] spLb := by
  refine F.ok scLb (fun vs H Q E h => ?_) (fun cdv A outer s H vs Q E hr h => ⟨_,
    pss_one (ps_ret (pe_lc (own := [("k", 1)]) (g := gName 1) (tt := tYes) rfl scLb.nd (pi_range1 rfl mRange (pa_cons (pe_callB call_len_seq (by rfl) mLen PySem.boot_len (pa_cons (pv 0) pa_nil)) pa_nil))
      (blkOk_by (own := [("k", 1)]) (N := ["corners", "k"]) (sc := defScope s_lines_between) (by decide +kernel))
      (fun _ _ _ _ _ => pg_name (i := 1) scLb.nd rfl (Or.inl rfl))
      (fun _ _ _ _ _ => pts_nil)
      (fun _ _ _ _ _ => pe_call GL hr rfl mL kL bL .nil pass0 (pa_cons (pe_ix (r := rIxL K) ix_list (pv 0) (pe_op op_sub (pv 1) pe_int) (fun _ _ => rfl)) (pa_cons (pe_ix (r := rIxL K) ix_list (pv 0) (pv 1) (fun _ _ => rfl)) pa_nil))))), ?_⟩)
  · obtain ⟨x, as, l, m, rfl, _⟩ := h
    rfl
  · obtain ⟨x, as, l, m, rfl, hx, hP, sz, hm, hl, q⟩ := h
    have la := hP.len
    refine ⟨_, rfl, x, _, rfl, .inl (SqL.of hx), _, rfl, by omega, by rw [List.length_map]; omega, fun D nD => ?_⟩
    rw [List.length_map, la, Int.toNat_natCast]
    refine lc_range (lo := 0) (n := l.length) (fun i H' => Same H H' ∧ ∃ bs, H' D = some (.lst (bs.map V.ref)) ∧ LsAt TrAt H' bs ((linesT l).take i)) ?_ ?_ ?_
    · exact ⟨Same.new nD, [], upd_same, trivial⟩
    · rintro i H1 hi ⟨s1, bs, hD1, hB1⟩
      have hm' : (i + l.length - 1) % l.length < l.length := Nat.mod_lt _ (by omega)
      have hP1 := LsAt.tu (TrAt.tu (Tu.of s1)) hP
      obtain ⟨c1, e1, p1⟩ := hP1.get (aT_get hi)
      obtain ⟨c0, e0, p0⟩ := hP1.get (aT_get hm')
      rw [aT_mod] at p0
      have x1 : (as.map V.ref)[i]? = some (V.ref c1) := by rw [List.getElem?_map, e1]; rfl
      have x0 : atI (as.map V.ref) (0 + (i : Int) - 1) = some (V.ref c0) := at_prev (by rw [List.length_map]; omega) (by rw [List.length_map, la, List.getElem?_map, e0]; rfl)
      have hS1 := SqL.of (K := K) (s1 _ _ hx)
      refine ⟨rfl, ?_⟩
      unfold tYes
      refine ifT rfl ?_
      refine ⟨_, rfl, _, rfl, _, _, rfl, rfl, x, _, _, _, rfl, rfl, hS1, x0, _, rfl, _, rfl, x, _, _, _, rfl, rfl, hS1, at_of (by omega) x1, c0, c1, _, _, m, rfl, p0, p1, sz _ (aT_mem _ (by omega)), sz _ (aT_mem _ (by omega)), hm, fun H2 r s2 n2 f2 => ?_⟩
      have hD2 := s2 _ _ hD1
      have t3 : Tu H2 (upd H2 D (.lst (bs.map V.ref ++ [V.ref r]))) := Tu.lst hD2
      have l1 := hB1.len
      rw [List.length_take, linesT_len] at l1
      refine ⟨_, hD2, ?_, ?_, bs ++ [r], ?_, ?_⟩
      · rw [List.length_map, szl]; omega
      · intro b o e
        rw [upd_ne (ne_of_none e nD)]
        exact s2 _ _ (s1 _ _ e)
      · rw [upd_same, List.map_append]; rfl
      · rw [take_more (linesT_get hi)]
        exact LsAt.snoc (TrAt.tu t3 _ _ f2) (LsAt.tu (TrAt.tu ((Tu.of s2).trans t3)) hB1)
    · rintro H1 ⟨s1, bs, hD1, hB1⟩
      rw [← linesT_len, List.take_length] at hB1
      exact q H1 D bs s1 nD hD1 hB1
/-! Outline -/
def ouF (a b : V) : List (Str × V) := [("corners", a), ("lines", b)]
def OutAt (C : Addr) (H : Hp) (t : Addr) (l : List Pt) : Prop := ∃ dx cs ls as bs, H t = some (.ins C dx (ouF (.ref cs) (.ref ls))) ∧ H cs = some (.lst (as.map V.ref)) ∧ LsAt TrAt H as (l.map trP) ∧ H ls = some (.lst (bs.map V.ref)) ∧ LsAt TrAt H bs (linesT (l.map trP))
theorem OutAt.mono {C : Addr} {H H' : Hp} {t : Addr} {l : List Pt} (h : OutAt C H t l) (s : Same H H') : OutAt C H' t l :=
  let ⟨dx, cs, ls, as, bs, h1, h2, h3, h4, h5⟩ := h
  ⟨dx, cs, ls, as, bs, s _ _ h1, s _ _ h2, LsAt.tu (TrAt.tu (Tu.of s)) h3, s _ _ h4, LsAt.tu (TrAt.tu (Tu.of s)) h5⟩
def OutNew (C : Addr) (H0 H : Hp) (t : Addr) (l : List Pt) : Prop := ∃ dx cs ls as bs, H t = some (.ins C dx (ouF (.ref cs) (.ref ls))) ∧ H cs = some (.lst (as.map V.ref)) ∧ LsAt TrAt H as (l.map trP) ∧ H ls = some (.lst (bs.map V.ref)) ∧ LsAt TrAt H bs (linesT (l.map trP)) ∧ H0 cs = none ∧ H0 ls = none
def OutX (C D : Addr) (H : Hp) (t : Addr) (l : List Pt) : Prop := ∃ dx cs ls as bs, H t = some (.ins C dx (ouF (.ref cs) (.ref ls))) ∧ H cs = some (.lst (as.map V.ref)) ∧ LsAt TrAt H as (l.map trP) ∧ H ls = some (.lst (bs.map V.ref)) ∧ LsAt TrAt H bs (linesT (l.map trP)) ∧ cs ≠ D ∧ ls ≠ D
theorem OutNew.out {C : Addr} {H0 H : Hp} {t : Addr} {l : List Pt} (h : OutNew C H0 H t l) : OutAt C H t l :=
  let ⟨dx, cs, ls, as, bs, h1, h2, h3, h4, h5, _, _⟩ := h
  ⟨dx, cs, ls, as, bs, h1, h2, h3, h4, h5⟩
theorem OutX.out {C D : Addr} {H : Hp} {t : Addr} {l : List Pt} (h : OutX C D H t l) : OutAt C H t l :=
  let ⟨dx, cs, ls, as, bs, h1, h2, h3, h4, h5, _, _⟩ := h
  ⟨dx, cs, ls, as, bs, h1, h2, h3, h4, h5⟩
theorem OutNew.x {C D : Addr} {H0 H : Hp} {t : Addr} {l : List Pt} {o : HO} (h : OutNew C H0 H t l) (hd : H0 D = some o) : OutX C D H t l :=
  let ⟨dx, cs, ls, as, bs, h1, h2, h3, h4, h5, h6, h7⟩ := h
  ⟨dx, cs, ls, as, bs, h1, h2, h3, h4, h5, (fun e => by rw [e, hd] at h6; cases h6), (fun e => by rw [e, hd] at h7; cases h7)⟩
theorem OutX.mono {C D : Addr} {H H' : Hp} {t : Addr} {l : List Pt} (h : OutX C D H t l) (s : Same H H') : OutX C D H' t l :=
  let ⟨dx, cs, ls, as, bs, h1, h2, h3, h4, h5, h6, h7⟩ := h
  ⟨dx, cs, ls, as, bs, s _ _ h1, s _ _ h2, LsAt.tu (TrAt.tu (Tu.of s)) h3, s _ _ h4, LsAt.tu (TrAt.tu (Tu.of s)) h5, h6, h7⟩
theorem OutX.up {C D : Addr} {H : Hp} {t : Addr} {l : List Pt} {xs : List V} {o : HO} (h : OutX C D H t l) (hd : H D = some (.lst xs)) : OutX C D (upd H D o) t l := by
  obtain ⟨dx, cs, ls, as, bs, h1, h2, h3, h4, h5, h6, h7⟩ := h
  have tt := Tu.lst (o := o) hd
  refine ⟨dx, cs, ls, as, bs, ?_, ?_, LsAt.tu (TrAt.tu tt) h3, ?_, LsAt.tu (TrAt.tu tt) h5, h6, h7⟩
  · rw [upd_ne (ne_of h1 hd (by intro z; cases z))]; exact h1
  · rw [upd_ne h6]; exact h2
  · rw [upd_ne h7]; exact h4
theorem ou_c {a b : V} : (ouF a b).lookup ("corners" : Str) = some a := lkH
theorem ou_l {a b : V} : (ouF a b).lookup ("lines" : Str) = some b := (lkP (by decide +kernel)).trans lkH
def spOuI (C : Addr) : Sp := fun vs H Q _ => ∃ (p dx x : Addr) (as : List Addr) (l : List Pt) (m : Nat), vs = [.ref p, .ref x] ∧ H p = some (.ins C dx []) ∧ H x = some (.lst (as.map V.ref)) ∧ PtsAt H as l ∧ OkL l ∧ (∀ z ∈ l, SzP m z) ∧ m ≤ 13500 ∧ l.length ≤ 1000 ∧
  ∀ H' : Hp, OutNew C H H' p l → (∀ q o, H q = some o → q ≠ p → H' q = some o) → Q .non H'
theorem scOuI : FnScope ["self", "corners", "corner"] ["self", "corners"] (defScope s_Outline) := ⟨rfl, rfl, rfl, by decide +kernel, rfl, by decide +kernel, by decide +kernel⟩
theorem ok_ouI {f fB fL : Addr} {fd fdB fdL : FuncData} (F : Fun K "__init__" "Outline.__init__" s_Outline f fd) (T : ClsTxt K mg "Outline" CO fO ["corners", "lines"])
    (GB : FnOk Pg w K mg base CX0 2 fB fdB ["point"] spOb) (mB : mg "over_one_bottom" = some (.ref fB)) (kB : PySem.W.keepIn K (.ref fB) = true) (bB : Binds K fdB ["point"] [])
    (GL : FnOk Pg w K mg base CX0 2 fL fdL ["corners"] spLb) (mL : mg "lines_between" = some (.ref fL)) (kL : PySem.W.keepIn K (.ref fL) = true) (bL : Binds K fdL ["corners"] []) :
    FnOk Pg w K mg base CX0 3 f fd ["self", "corners"] (spOuI CO) := by
  refine F.ok scOuI (fun vs H Q E h => ?_) (fun cdv A outer s H vs Q E hr h => ⟨_,
    pss_cons (ps_fld (pv 0) (pe_lc (own := [("corner", 2)]) (g := gName 2) (tt := tYes) rfl scOuI.nd (pi_list (pv 1))
      (blkOk_by (own := [("corner", 2)]) (N := ["self", "corners", "corner"]) (sc := defScope s_Outline) (by decide +kernel))
      (fun _ _ _ _ _ => pg_name (i := 2) scOuI.nd rfl (Or.inl rfl))
      (fun _ _ _ _ _ => pts_nil)
      (fun _ _ _ _ _ => pe_call GB hr rfl mB kB bB .nil pass0 (pa_cons (pv 2) pa_nil))) rfl)
    (pss_one (ps_fld (pv 0) (pe_call GL hr rfl mL kL bL .nil pass0 (pa_cons (pe_fld (pv 0) rfl) pa_nil)) rfl)), ?_⟩)
  · obtain ⟨p, dx, x, as, l, m, rfl, _⟩ := h
    rfl
  · obtain ⟨p, dx, x, as, l, m, rfl, hp, hx, hP, ok, sz, hm, hl, k⟩ := h
    have la := hP.len
    refine ⟨_, rfl, x, rfl, ⟨_, SqL.of hx⟩, fun D nD => ?_⟩
    refine lc_list (K := K) (a := x) (xs := as.map V.ref) (fun i H' => Same H H' ∧ ∃ as', H' D = some (.lst (as'.map V.ref)) ∧ LsAt TrAt H' as' ((l.map trP).take i)) ?_ ?_ ?_ ?_
    · exact ⟨Same.new nD, [], upd_same, trivial⟩
    · rintro i H2 _ ⟨s2, _⟩
      exact SqL.of (s2 _ _ hx)
    · rintro i y H1 hi ⟨s1, as', hD1, hP1⟩
      obtain ⟨y', hy, rfl⟩ : ∃ b, as[i]? = some b ∧ y = V.ref b := by
        rw [List.getElem?_map] at hi
        cases e : as[i]? with
        | none => rw [e] at hi; cases hi
        | some z => rw [e] at hi; exact ⟨z, rfl, (Option.some.inj hi).symm⟩
      obtain ⟨z, hz, pa⟩ := hP.at hy
      have hil := (List.getElem?_eq_some_iff.mp hz).1
      refine ⟨rfl, ?_⟩
      unfold tYes
      refine ifT rfl ?_
      refine ⟨_, rfl, y', z, m, rfl, pa.mono s1, ok z (List.mem_of_getElem? hz), sz z (List.mem_of_getElem? hz), hm, fun H2 r s2 n2 f2 => ?_⟩
      have hD2 := s2 _ _ hD1
      have t3 : Tu H2 (upd H2 D (.lst (as'.map V.ref ++ [V.ref r]))) := Tu.lst hD2
      have l1 := hP1.len
      rw [List.length_take, List.length_map] at l1
      refine ⟨_, hD2, ?_, ?_, as' ++ [r], ?_, ?_⟩
      · rw [List.length_map, szl]; omega
      · intro b o e
        rw [upd_ne (ne_of_none e nD)]
        exact s2 _ _ (s1 _ _ e)
      · rw [upd_same, List.map_append]; rfl
      · have gm : (l.map trP)[i]? = some (trP z) := by rw [List.getElem?_map, hz]; rfl
        rw [take_more gm]
        exact LsAt.snoc (TrAt.tu t3 _ _ f2) (LsAt.tu (TrAt.tu ((Tu.of s2).trans t3)) hP1)
    · rintro H1 ⟨s1, cs, hD1, hC1⟩
      rw [List.length_map, la, ← List.length_map (f := trP), List.take_length] at hC1
      have hp1 := s1 _ _ hp
      refine ⟨_, rfl, p, CO, dx, [], rfl, hp1, T.cl, T.n _ (by simp), (by show 0 < 1000; decide), ?_⟩
      have nDp : D ≠ p := fun e => by rw [e, hp] at nD; cases nD
      have t2 : Tu H1 (upd H1 p (.ins CO dx (putF "corners" (V.ref D) []))) := fun b xs e => by
        rw [upd_ne (ne_of e hp1 (by intro z; cases z))]; exact e
      have hD2 : (upd H1 p (.ins CO dx (putF "corners" (V.ref D) []))) D = some (.lst (cs.map V.ref)) := by rw [upd_ne nDp]; exact hD1
      refine ⟨_, rfl, p, CO, dx, _, _, rfl, upd_same, T.cl, T.n _ (by simp), lkH, ?_⟩
      refine ⟨D, cs, l.map trP, 2 * m, rfl, hD2, LsAt.tu (TrAt.tu t2) hC1, fun t ht => ?_, by omega, by rw [List.length_map]; exact hl, fun H3 r bs s3 n3 h3 B3 => ?_⟩
      · obtain ⟨z, hz, rfl⟩ := List.mem_map.mp ht
        exact trP_sz (sz z hz)
      have hp3 := s3 _ _ (upd_same (H := H1) (a := p) (o := .ins CO dx (putF "corners" (V.ref D) [])))
      refine ⟨_, rfl, p, CO, dx, _, rfl, hp3, T.cl, T.n _ (by simp), (by show 1 < 1000; decide), ?_⟩
      have nrp : r ≠ p := fun e => by rw [e, upd_same] at n3; cases n3
      have t4 : Tu H3 (upd H3 p (.ins CO dx (putF "lines" (V.ref r) (putF "corners" (V.ref D) [])))) := fun b xs e => by
        rw [upd_ne (ne_of e hp3 (by intro z; cases z))]; exact e
      have nr : H r = none := by
        cases e : H r with
        | none => rfl
        | some o =>
          rw [upd_ne nrp, s1 _ _ e] at n3
          cases n3
      refine k _ ⟨dx, D, r, cs, bs, ?_, ?_, ?_, ?_, ?_, nD, nr⟩ fun q o e hq => ?_
      · rw [upd_same]
        have e : putF "lines" (V.ref r) (putF "corners" (V.ref D) []) = ouF (V.ref D) (V.ref r) := by
          unfold ouF
          have n1 : ¬ (("corners" : Str) = "lines") := by decide +kernel
          simp only [putF, if_neg n1]
        exact congrArg (fun z => some (HO.ins CO dx z)) e
      · rw [upd_ne nDp]; exact s3 _ _ hD2
      · exact LsAt.tu (TrAt.tu ((t2.trans (Tu.of s3)).trans t4)) hC1
      · rw [upd_ne nrp]; exact h3
      · exact LsAt.tu (TrAt.tu t4) B3
      · rw [upd_ne hq]
        refine s3 _ _ ?_
        rw [upd_ne hq]
        exact s1 _ _ e
end
end ScA
namespace ScA
open PySem PySem.Spec PyProof.Rows L2
open Sc
theorem map_refs {as : List Addr} {i : Nat} {a : Addr} (h : as[i]? = some a) : (as.map V.ref)[i]? = some (V.ref a) := by rw [List.getElem?_map, h]; rfl
end ScA
namespace ScA
open PySem PySem.Spec PyProof.Rows L2
open Sc
/-! crossing, left_corners, point_from -/
theorem abs_is (v : Int) : (if v < 0 then -v else v) = (v.natAbs : Int) := by split <;> omega
theorem gg_is (b r u : Int) : gcdI (gcdI b r) u = gT r u b := by
  unfold gcdI gT
  rw [Int.natAbs_natCast]
theorem offT_sz {L c : Tr} {n m : Nat} (hL : SzT n L) (hc : SzT m c) : (offT L c).natAbs < 2 ^ (n + m + 2) := by
  unfold offT
  have h1 := mul_lt hL.1 hc.1
  have h2 := mul_lt hL.2.1 hc.2.1
  have h3 := mul_lt hL.2.2 hc.2.2
  have e : 2 ^ (n + m + 2) = 4 * 2 ^ (n + m) := by rw [Nat.pow_add]; omega
  rw [e]
  omega
theorem wT_sz {a b u v : Int} {m F : Nat} (ha : a.natAbs < 2 ^ m) (hb : b.natAbs < 2 ^ m) (hu : u.natAbs < 2 ^ F) (hv : v.natAbs < 2 ^ F) : (wT a b u v).natAbs < 2 ^ (m + F + 1) := by
  unfold wT
  have h1 := mul_lt (i := a) (j := (v.natAbs : Int)) ha (by rw [Int.natAbs_natCast]; exact hv)
  have h2 := mul_lt (i := b) (j := (u.natAbs : Int)) hb (by rw [Int.natAbs_natCast]; exact hu)
  have e : 2 ^ (m + F + 1) = 2 * 2 ^ (m + F) := by rw [Nat.pow_add]; omega
  rw [e]
  omega
theorem keptT_more (L : Tr) (l : List Tr) (n : Nat) : keptT L l (n + 1) = keptT L l n ++ xL L (aT l (n + l.length - 1)) (aT l n) ++ kL L (aT l n) := by
  unfold keptT
  rw [List.range_succ, List.flatMap_append, List.flatMap_singleton, List.append_assoc]
theorem keptT_len (L : Tr) (l : List Tr) : ∀ i, (keptT L l i).length ≤ 2 * i
  | 0 => by simp [keptT]
  | i + 1 => by
    rw [keptT_more, List.length_append, List.length_append]
    have := keptT_len L l i
    have a1 : (xL L (aT l (i + l.length - 1)) (aT l i)).length ≤ 1 := by unfold xL; split <;> simp
    have a2 : (kL L (aT l i)).length ≤ 1 := by unfold kL; split <;> simp
    omega
section
variable {Pg : Program} {w : World} {K : PySem.W.Frag} {mg : Str → Option Value} {base : Heap} {CF CT CP CS fP fS CO fO : Addr}
def spCr : Sp := fun vs H Q _ => ∃ (xa xb : Addr) (a b : Tr) (u v : Int) (m F : Nat), vs = [.ref xa, .ref xb, .int u, .int v] ∧ (TrAt H xa a ∧ TrAt H xb b) ∧ (SzT m a ∧ SzT m b) ∧ (u.natAbs < 2 ^ F ∧ v.natAbs < 2 ^ F) ∧ m + F + 1 ≤ 13500 ∧ u * v < 0 ∧ 0 < a.z ∧ 0 < b.z ∧
  ∀ H' p, Same H H' → H p = none → TrAt H' p (xT a b u v) → Q (.ref p) H'
theorem scCr : FnScope ["a", "b", "off_a", "off_b", "right", "up", "bottom", "measure"] ["a", "b", "off_a", "off_b"] (defScope s_crossing) := ⟨rfl, rfl, rfl, by decide +kernel, rfl, by decide +kernel, by decide +kernel⟩
theorem ok_cr {f fC : Addr} {fd fdC : FuncData} (F : Fun K "crossing" "crossing" s_crossing f fd) (mAbs : mg "abs" = none)
    (GC : FnOk Pg w K mg base CX0 1 fC fdC ["a", "b"] spCm) (mC : mg "common_measure" = some (.ref fC)) (kC : PySem.W.keepIn K (.ref fC) = true) (bC : Binds K fdC ["a", "b"] []) :
    FnOk Pg w K mg base CX0 2 f fd ["a", "b", "off_a", "off_b"] spCr := by
  refine F.ok scCr (fun vs H Q E h => ?_) (fun cdv A outer s H vs Q E hr h => ⟨_,
    pss_cons (ps_set (i := 4) scCr.nd rfl (Or.inl rfl) (pe_op op_add (pe_op op_mulW (pe_ix ix_tup (pv 0) pe_int (fun _ _ => rfl)) (pe_callB call_abs (by rfl) mAbs (by decide +kernel) (pa_cons (pv 3) pa_nil))) (pe_op op_mulW (pe_ix ix_tup (pv 1) pe_int (fun _ _ => rfl)) (pe_callB call_abs (by rfl) mAbs (by decide +kernel) (pa_cons (pv 2) pa_nil)))))
    (pss_cons (ps_set (i := 5) scCr.nd rfl (Or.inl rfl) (pe_op op_add (pe_op op_mulW (pe_ix ix_tup (pv 0) pe_int (fun _ _ => rfl)) (pe_callB call_abs (by rfl) mAbs (by decide +kernel) (pa_cons (pv 3) pa_nil))) (pe_op op_mulW (pe_ix ix_tup (pv 1) pe_int (fun _ _ => rfl)) (pe_callB call_abs (by rfl) mAbs (by decide +kernel) (pa_cons (pv 2) pa_nil)))))
    (pss_cons (ps_set (i := 6) scCr.nd rfl (Or.inl rfl) (pe_op op_add (pe_op op_mulW (pe_ix ix_tup (pv 0) pe_int (fun _ _ => rfl)) (pe_callB call_abs (by rfl) mAbs (by decide +kernel) (pa_cons (pv 3) pa_nil))) (pe_op op_mulW (pe_ix ix_tup (pv 1) pe_int (fun _ _ => rfl)) (pe_callB call_abs (by rfl) mAbs (by decide +kernel) (pa_cons (pv 2) pa_nil)))))
    (pss_cons (ps_set (i := 7) scCr.nd rfl (Or.inl rfl) (pe_call GC hr rfl mC kC bC .nil pass0 (pa_cons (pe_call GC hr rfl mC kC bC .nil pass0 (pa_cons (pv 6) (pa_cons (pv 4) pa_nil))) (pa_cons (pv 5) pa_nil))))
    (pss_one (ps_ret (pe_tup (pa_cons (pe_op op_fdivZ (pv 4) (pv 7)) (pa_cons (pe_op op_fdivZ (pv 5) (pv 7)) (pa_cons (pe_op op_fdivZ (pv 6) (pv 7)) pa_nil)))))))))
    , ?_⟩)
  · obtain ⟨xa, xb, a, b, u, v, m, G, rfl, _⟩ := h
    rfl
  · obtain ⟨xa, xb, a, b, u, v, m, G, rfl, ⟨ha, hb⟩, ⟨sa, sb⟩, ⟨su, sv⟩, hk, huv, za, zb, q⟩ := h
    have ha' := SqT.of (K := K) ha
    have hb' := SqT.of (K := K) hb
    have ml : ∀ {i j : Int}, i.natAbs < 2 ^ m → j.natAbs < 2 ^ G → CMulW i (if j < 0 then -j else j) := fun {i j} h1 h2 => by
      rw [abs_is]
      exact wmul h1 (show ((j.natAbs : Int)).natAbs < 2 ^ G by rw [Int.natAbs_natCast]; exact h2) (by omega)
    have os := opp_sign huv
    have wz : 0 < wT a.z b.z u v := by
      unfold wT
      have h1 : 0 < a.z * (v.natAbs : Int) := Int.mul_pos za (by omega)
      have h2 : 0 < b.z * (u.natAbs : Int) := Int.mul_pos zb (by omega)
      omega
    have ew : ∀ i j : Int, i * (if v < 0 then -v else v) + j * (if u < 0 then -u else u) = wT i j u v := fun i j => by rw [abs_is, abs_is]; rfl
    have g0 := (div_gcd (r := wT a.x b.x u v) (u := wT a.y b.y u v) wz).1
    have up : ∀ {z : Int}, z.natAbs < 2 ^ (m + G + 1) → z.natAbs < 2 ^ 13500 := fun h => Nat.lt_of_lt_of_le h (Nat.pow_le_pow_right (by omega) hk)
    refine ⟨_, rfl, xa, _, 0, _, rfl, rfl, ha', rfl, _, rfl, _, rfl, _, _, rfl, rfl, ml sa.1 sv, _, rfl, xb, _, 0, _, rfl, rfl, hb', rfl, _, rfl, _, rfl, _, _, rfl, rfl, ml sb.1 su, _, _, rfl, rfl, ?_⟩
    refine ⟨_, rfl, xa, _, 1, _, rfl, rfl, ha', rfl, _, rfl, _, rfl, _, _, rfl, rfl, ml sa.2.1 sv, _, rfl, xb, _, 1, _, rfl, rfl, hb', rfl, _, rfl, _, rfl, _, _, rfl, rfl, ml sb.2.1 su, _, _, rfl, rfl, ?_⟩
    refine ⟨_, rfl, xa, _, 2, _, rfl, rfl, ha', rfl, _, rfl, _, rfl, _, _, rfl, rfl, ml sa.2.2 sv, _, rfl, xb, _, 2, _, rfl, rfl, hb', rfl, _, rfl, _, rfl, _, _, rfl, rfl, ml sb.2.2 su, _, _, rfl, rfl, ?_⟩
    refine ⟨_, rfl, _, rfl, _, _, rfl, _, rfl, _, _, rfl, ?_⟩
    have eg : gcdI (gcdI (a.z * (if v < 0 then -v else v) + b.z * (if u < 0 then -u else u)) (a.x * (if v < 0 then -v else v) + b.x * (if u < 0 then -u else u))) (a.y * (if v < 0 then -v else v) + b.y * (if u < 0 then -u else u)) = gT (wT a.x b.x u v) (wT a.y b.y u v) (wT a.z b.z u v) := by
      rw [ew, ew, ew, gg_is]
    have gn : gcdI (gcdI (a.z * (if v < 0 then -v else v) + b.z * (if u < 0 then -u else u)) (a.x * (if v < 0 then -v else v) + b.x * (if u < 0 then -u else u))) (a.y * (if v < 0 then -v else v) + b.y * (if u < 0 then -u else u)) ≠ 0 := by rw [eg]; omega
    refine ⟨_, rfl, _, rfl, _, _, rfl, rfl, ⟨gn, (by rw [ew]; exact up (wT_sz sa.1 sb.1 su sv))⟩, _, rfl, _, rfl, _, _, rfl, rfl, ⟨gn, (by rw [ew]; exact up (wT_sz sa.2.1 sb.2.1 su sv))⟩, _, rfl, _, rfl, _, _, rfl, rfl, ⟨gn, (by rw [ew]; exact up (wT_sz sa.2.2 sb.2.2 su sv))⟩, (by show 3 ≤ sizeLine; decide), fun p np => q _ p (Same.new np) np ?_⟩
    unfold TrAt
    rw [upd_same, eg, ew, ew, ew]
    dsimp only
    rw [Int.fdiv_eq_ediv_of_nonneg _ (Int.le_of_lt g0), Int.fdiv_eq_ediv_of_nonneg _ (Int.le_of_lt g0), Int.fdiv_eq_ediv_of_nonneg _ (Int.le_of_lt g0)]
    rfl
def spPf : Sp := fun vs H Q _ => ∃ (x : Addr) (t : Tr) (m : Nat), vs = [.ref x] ∧ TrAt H x t ∧ 0 < t.z ∧ SzT m t ∧ m ≤ 13500 ∧ ∀ H' p, Same H H' → H p = none → PtAt H' p (fromT t) → Q (.ref p) H'
theorem scPf : FnScope ["corner"] ["corner"] (defScope s_point_from) := ⟨rfl, rfl, rfl, by decide +kernel, rfl, by decide +kernel, by decide +kernel⟩
theorem ok_pf {f fR : Addr} {fd fdR : FuncData} (F : Fun K "point_from" "point_from" s_point_from f fd) (GR : FnOk Pg w K mg base CX0 2 fR fdR ["top", "bottom"] spRat) (mR : mg "ratio" = some (.ref fR)) (kR : PySem.W.keepIn K (.ref fR) = true) (bR : Binds K fdR ["top", "bottom"] []) :
    FnOk Pg w K mg base CX0 3 f fd ["corner"] spPf := by
  refine F.ok scPf (fun vs H Q E h => ?_) (fun cdv A outer s H vs Q E hr h => ⟨_, pss_one (ps_ret (pe_tup
    (pa_cons (pe_call GR hr rfl mR kR bR .nil pass0 (pa_cons (pe_ix ix_tup (pv 0) pe_int (fun _ _ => rfl)) (pa_cons (pe_ix ix_tup (pv 0) pe_int (fun _ _ => rfl)) pa_nil)))
    (pa_cons (pe_call GR hr rfl mR kR bR .nil pass0 (pa_cons (pe_ix ix_tup (pv 0) pe_int (fun _ _ => rfl)) (pa_cons (pe_ix ix_tup (pv 0) pe_int (fun _ _ => rfl)) pa_nil))) pa_nil)))), ?_⟩)
  · obtain ⟨x, t, m, rfl, _⟩ := h
    rfl
  · obtain ⟨x, t, m, rfl, hx, hz, sz, hm, q⟩ := h
    have up : ∀ {z : Int}, z.natAbs < 2 ^ m → z.natAbs < 2 ^ 13500 := fun h => Nat.lt_of_lt_of_le h (Nat.pow_le_pow_right (by omega) hm)
    refine ⟨_, rfl, x, _, 0, _, rfl, rfl, SqT.of hx, rfl, _, rfl, x, _, 2, _, rfl, rfl, SqT.of hx, rfl, _, _, rfl, by omega, up sz.1, up sz.2.2, fun H1 p1 s1 n1 f1 => ?_⟩
    refine ⟨_, rfl, x, _, 1, _, rfl, rfl, SqT.of (s1 _ _ hx), rfl, _, rfl, x, _, 2, _, rfl, rfl, SqT.of (s1 _ _ hx), rfl, _, _, rfl, by omega, up sz.2.1, up sz.2.2, fun H2 p2 s2 n2 f2 => ?_⟩
    refine ⟨(by show 2 ≤ sizeLine; decide), fun p3 n3 => ?_⟩
    have s3 := Same.new (o := .tup [.ref p1, .ref p2]) n3
    exact q _ p3 ((s1.trans s2).trans s3) ((s1.trans s2).free n3) ⟨p1, p2, upd_same, (f1.mono s2).mono s3, f2.mono s3⟩
def spLc : Sp := fun vs H Q _ => ∃ (x y : Addr) (as : List Addr) (l : List Tr) (L : Tr) (m n : Nat), vs = [.ref x, .ref y] ∧ H x = some (.lst (as.map V.ref)) ∧ LsAt TrAt H as l ∧ TrAt H y L ∧ PosT l ∧ (∀ t ∈ l, SzT m t) ∧ SzT n L ∧ 2 * m + n + 3 ≤ 13500 ∧ l.length ≤ 1000 ∧
  ∀ H' q as', Same H H' → H' q = some (.lst (as'.map V.ref)) → LsAt TrAt H' as' (keptT L l l.length) → Q (.ref q) H'
theorem scLc : FnScope ["corners", "line", "offs", "kept", "k", "corner"] ["corners", "line"] (defScope s_left_corners) := ⟨rfl, rfl, rfl, by decide +kernel, rfl, by decide +kernel, by decide +kernel⟩
theorem ok_lc {f fX fC : Addr} {fd fdX fdC : FuncData} (F : Fun K "left_corners" "left_corners" s_left_corners f fd) (mLen : mg "len" = none) (mRange : mg "range" = none)
    (GX : FnOk Pg w K mg base CX0 1 fX fdX ["line", "corner"] spOl) (mX : mg "off_line" = some (.ref fX)) (kX : PySem.W.keepIn K (.ref fX) = true) (bX : Binds K fdX ["line", "corner"] [])
    (GC : FnOk Pg w K mg base CX0 2 fC fdC ["a", "b", "off_a", "off_b"] spCr) (mC : mg "crossing" = some (.ref fC)) (kC : PySem.W.keepIn K (.ref fC) = true) (bC : Binds K fdC ["a", "b", "off_a", "off_b"] []) :
    FnOk Pg w K mg base CX0 3 f fd ["corners", "line"] spLc := by
  refine F.ok scLc (fun vs H Q E h => ?_) (fun cdv A outer s H vs Q E hr h => ⟨_,
    pss_cons (ps_setLc (i := 2) (own := [("corner", 5)]) (g := gName 5) (tt := tYes) rfl scLc.nd rfl rfl (sw_true rfl rfl rfl (by decide +kernel)) (pi_list (pv 0))
      (blkOk_by (own := [("corner", 5)]) (N := ["corners", "line", "offs", "kept", "k", "corner"]) (sc := defScope s_left_corners) (by decide +kernel))
      (fun _ _ _ _ _ => pg_name (i := 5) scLc.nd rfl (Or.inl rfl))
      (fun _ _ _ _ _ => pts_nil)
      (fun _ _ _ _ _ => pe_call GX (hr.mono (by decide)) rfl mX kX bX .nil pass0 (pa_cons (pv 1) (pa_cons (pv 5) pa_nil))))
    (pss_cons (ps_set (i := 3) scLc.nd rfl (Or.inl rfl) (pe_lst pa_nil))
    (pss_cons (ps_for PassesOwn.never rfl (pi_range1 rfl mRange (pa_cons (pe_callB call_len_seq (by rfl) mLen PySem.boot_len (pa_cons (pv 0) pa_nil)) pa_nil)) (pg_name (i := 4) scLc.nd rfl (Or.inl rfl))
      (pss_cons (ps_if (pt_cmpR op_lt (pe_op op_mulW (pe_ix ix_list (pv 2) (pe_op op_sub (pv 4) pe_int) (fun _ _ => rfl)) (pe_ix ix_list (pv 2) (pv 4) (fun _ _ => rfl))) pe_int (nomark _))
        (pss_one (ps_expr (pe_bm PySem.F.plainAttrs_list PySem.F.slot_list_append PySem.F.type_list_append mt_append (pv 3) (pa_cons (pe_call GC hr rfl mC kC bC .nil pass0 (pa_cons (pe_ix ix_list (pv 0) (pe_op op_sub (pv 4) pe_int) (fun _ _ => rfl)) (pa_cons (pe_ix ix_list (pv 0) (pv 4) (fun _ _ => rfl)) (pa_cons (pe_ix ix_list (pv 2) (pe_op op_sub (pv 4) pe_int) (fun _ _ => rfl)) (pa_cons (pe_ix ix_list (pv 2) (pv 4) (fun _ _ => rfl)) pa_nil))))) pa_nil)))) pss_nil)
      (pss_one (ps_if (pt_cmpR op_ge (pe_ix ix_list (pv 2) (pv 4) (fun _ _ => rfl)) pe_int (nomark _))
        (pss_one (ps_expr (pe_bm PySem.F.plainAttrs_list PySem.F.slot_list_append PySem.F.type_list_append mt_append (pv 3) (pa_cons (pe_ix ix_list (pv 0) (pv 4) (fun _ _ => rfl)) pa_nil)))) pss_nil))))
    (pss_one (ps_ret (pv 3))))), ?_⟩)
  · obtain ⟨x, y, as, l, L, m, n, rfl, _⟩ := h
    rfl
  · obtain ⟨x, y, as, l, L, m, n, rfl, hx, hP, hy, ps, sz, sL, hk, hl, q⟩ := h
    have la := hP.len
    refine ⟨_, rfl, x, rfl, ⟨_, SqL.of hx⟩, fun D nD => ?_⟩
    refine lc_list (K := K) (a := x) (xs := as.map V.ref) (fun i H' => Same H H' ∧ H' D = some (.lst (((l.map (offT L)).take i).map V.int))) ?_ ?_ ?_ ?_
    · exact ⟨Same.new nD, upd_same⟩
    · rintro i H2 _ ⟨s2, _⟩
      exact SqL.of (s2 _ _ hx)
    · rintro i yy H1 hi ⟨s1, hD1⟩
      obtain ⟨y', hy', rfl⟩ : ∃ b, as[i]? = some b ∧ yy = V.ref b := by
        rw [List.getElem?_map] at hi
        cases e : as[i]? with
        | none => rw [e] at hi; cases hi
        | some z => rw [e] at hi; exact ⟨z, rfl, (Option.some.inj hi).symm⟩
      obtain ⟨t, ht, pa⟩ := hP.at hy'
      refine ⟨rfl, ?_⟩
      unfold tYes
      refine ifT rfl ?_
      refine ⟨_, rfl, _, rfl, y, y', L, t, n, m, rfl, hy.mono s1, pa.mono s1, sL, sz t (List.mem_of_getElem? ht), by omega, ?_⟩
      refine ⟨_, hD1, ?_, ?_, ?_⟩
      · rw [List.length_map, List.length_take, List.length_map, szl]; omega
      · intro b' o e
        rw [upd_ne (ne_of_none e nD)]
        exact s1 _ _ e
      · have gm : (l.map (offT L))[i]? = some (offT L t) := by rw [List.getElem?_map, ht]; rfl
        rw [upd_same, take_more gm, List.map_append]; rfl
    · rintro H1 ⟨s1, hD1⟩
      rw [List.length_map, la, ← List.length_map (f := offT L), List.take_length] at hD1
      refine ⟨(by show 0 ≤ sizeLine; decide), fun kp nk => ?_⟩
      have s2 := Same.new (o := .lst []) nk
      have u2 := s1.trans s2
      refine ⟨_, rfl, x, _, rfl, .inl (SqL.of (u2 _ _ hx)), _, rfl, by omega, by rw [List.length_map]; omega, ?_⟩
      rw [List.length_map, la, Int.toNat_natCast]
      refine for_range (lo := 0) (n := l.length) (fun i σ H' => Same H1 H' ∧ (∃ r : Option V, σ = [some (.ref x), some (.ref y), some (.ref D), some (.ref kp), r, none]) ∧ ∃ ks, H' kp = some (.lst (ks.map V.ref)) ∧ LsAt TrAt H' ks (keptT L l i)) ?_ ?_ ?_
      · exact ⟨s2, ⟨none, rfl⟩, [], upd_same, trivial⟩
      · rintro i σ H2 hi ⟨s3, ⟨r, rfl⟩, ks, hk2, hP2⟩
        have u3 := s1.trans s3
        have n0 : 0 < l.length := by omega
        have hm : (i + l.length - 1) % l.length < l.length := Nat.mod_lt _ n0
        have hP3 := LsAt.tu (TrAt.tu (Tu.of u3)) hP
        obtain ⟨c1, e1, p1⟩ := hP3.get (aT_get hi)
        obtain ⟨c0, e0, p0⟩ := hP3.get (aT_get hm)
        rw [aT_mod] at p0
        have x1 : (as.map V.ref)[i]? = some (V.ref c1) := map_refs e1
        have x0 : atI (as.map V.ref) (0 + (i : Int) - 1) = some (V.ref c0) := at_prev (by rw [List.length_map]; omega) (by rw [List.length_map, la, List.getElem?_map, e0]; rfl)
        have y1 : ((l.map (offT L)).map V.int)[i]? = some (V.int (offT L (aT l i))) := by rw [List.getElem?_map, List.getElem?_map, aT_get hi]; rfl
        have y0 : atI ((l.map (offT L)).map V.int) (0 + (i : Int) - 1) = some (V.int (offT L (aT l (i + l.length - 1)))) := at_prev (by rw [List.length_map, List.length_map]; omega) (by rw [List.length_map, List.length_map, List.getElem?_map, List.getElem?_map, aT_get hm, aT_mod]; rfl)
        have hx3 := SqL.of (K := K) (u3 _ _ hx)
        have hD3 := SqL.of (K := K) (s3 _ _ hD1)
        have zc1 := sz _ (aT_mem (l := l) i n0)
        have zc0 := sz _ (aT_mem (l := l) (i + l.length - 1) n0)
        have zt1 := offT_sz sL zc1
        have zt0 := offT_sz sL zc0
        refine ⟨_, rfl, _, rfl, _, _, rfl, rfl, D, _, _, _, rfl, rfl, hD3, y0, _, rfl, _, rfl, D, _, _, _, rfl, rfl, hD3, at_of (by omega) y1, _, _, rfl, rfl, wmul zt0 zt1 (by omega), _, _, rfl, rfl, _, rfl, ?_⟩
        have ll := keptT_len L l i
        have l2 := hP2.len
        by_cases c : offT L (aT l (i + l.length - 1)) * offT L (aT l i) < 0
        · refine ifT (decide_eq_true c) ?_
          refine ⟨_, rfl, .inl ⟨rfl, _, SqL.of hk2⟩, _, rfl, _, rfl, _, _, rfl, rfl, x, _, _, _, rfl, rfl, hx3, x0, _, rfl, _, rfl, x, _, _, _, rfl, rfl, hx3, at_of (by omega) x1, _, rfl, _, rfl, _, _, rfl, rfl, D, _, _, _, rfl, rfl, hD3, y0, _, rfl, _, rfl, D, _, _, _, rfl, rfl, hD3, at_of (by omega) y1, ?_⟩
          refine ⟨c0, c1, _, _, _, _, m, n + m + 2, rfl, ⟨p0, p1⟩, ⟨zc0, zc1⟩, ⟨zt0, zt1⟩, by omega, c, ps _ (aT_mem _ n0), ps _ (aT_mem _ n0), fun H3 cp s4 n4 f4 => ?_⟩
          refine ⟨kp, _, _, rfl, rfl, s4 _ _ hk2, ?_, ?_⟩
          · rw [List.length_map, szl]; omega
          have t5 : Tu H3 (upd H3 kp (.lst (ks.map V.ref ++ [V.ref cp]))) := Tu.lst (s4 _ _ hk2)
          have s5 : Same H1 (upd H3 kp (.lst (ks.map V.ref ++ [V.ref cp]))) := fun b' o e => by
            rw [upd_ne (ne_of_none e nk)]; exact s4 _ _ (s3 _ _ e)
          have ex : xL L (aT l (i + l.length - 1)) (aT l i) = [xT (aT l (i + l.length - 1)) (aT l i) (offT L (aT l (i + l.length - 1))) (offT L (aT l i))] := by unfold xL; rw [if_pos c]
          have hP5 : LsAt TrAt (upd H3 kp (.lst (ks.map V.ref ++ [V.ref cp]))) (ks ++ [cp]) (keptT L l i ++ xL L (aT l (i + l.length - 1)) (aT l i)) := by
            rw [ex]
            exact LsAt.snoc (TrAt.tu t5 _ _ f4) (LsAt.tu (TrAt.tu ((Tu.of s4).trans t5)) hP2)
          have hk5 : (upd H3 kp (.lst (ks.map V.ref ++ [V.ref cp]))) kp = some (.lst ((ks ++ [cp]).map V.ref)) := by rw [upd_same, List.map_append]; rfl
          have p15 := TrAt.tu ((Tu.of s4).trans t5) _ _ p1
          generalize upd H3 kp (.lst (ks.map V.ref ++ [V.ref cp])) = H5 at *
          refine ⟨_, rfl, _, rfl, D, _, _, _, rfl, rfl, SqL.of (s5 _ _ hD1), at_of (by omega) y1, _, _, rfl, rfl, _, rfl, ?_⟩
          by_cases c2 : 0 ≤ offT L (aT l i)
          · refine ifT (decide_eq_true c2) ?_
            refine ⟨_, rfl, .inl ⟨rfl, _, SqL.of hk5⟩, _, rfl, _, rfl, x, _, _, _, rfl, rfl, SqL.of ((s1.trans s5) _ _ hx), at_of (by omega) x1, kp, _, _, rfl, rfl, hk5, ?_, ?_⟩
            · rw [List.length_map, List.length_append, szl, l2]; simp; omega
            · have t6 : Tu H5 (upd H5 kp (.lst ((ks ++ [cp]).map V.ref ++ [V.ref c1]))) := Tu.lst hk5
              refine ⟨fun b' o e => by rw [upd_ne (ne_of_none e nk)]; exact s5 _ _ e, ⟨_, rfl⟩, (ks ++ [cp]) ++ [c1], by rw [upd_same]; simp, ?_⟩
              have ek : kL L (aT l i) = [aT l i] := by unfold kL; rw [if_pos c2]
              rw [keptT_more, ek]
              exact LsAt.snoc (TrAt.tu t6 _ _ p15) (LsAt.tu (TrAt.tu t6) hP5)
          · refine ifF (decide_eq_false c2) ?_
            have ek : kL L (aT l i) = [] := by unfold kL; rw [if_neg c2]
            refine ⟨s5, ⟨_, rfl⟩, ks ++ [cp], hk5, ?_⟩
            rw [keptT_more, ek, List.append_nil]
            exact hP5
        · refine ifF (decide_eq_false c) ?_
          have ex : xL L (aT l (i + l.length - 1)) (aT l i) = [] := by unfold xL; rw [if_neg c]
          refine ⟨_, rfl, _, rfl, D, _, _, _, rfl, rfl, hD3, at_of (by omega) y1, _, _, rfl, rfl, _, rfl, ?_⟩
          by_cases c2 : 0 ≤ offT L (aT l i)
          · refine ifT (decide_eq_true c2) ?_
            refine ⟨_, rfl, .inl ⟨rfl, _, SqL.of hk2⟩, _, rfl, _, rfl, x, _, _, _, rfl, rfl, hx3, at_of (by omega) x1, kp, _, _, rfl, rfl, hk2, ?_, ?_⟩
            · rw [List.length_map, szl]; omega
            · have t6 : Tu H2 (upd H2 kp (.lst (ks.map V.ref ++ [V.ref c1]))) := Tu.lst hk2
              refine ⟨fun b' o e => by rw [upd_ne (ne_of_none e nk)]; exact s3 _ _ e, ⟨_, rfl⟩, ks ++ [c1], by rw [upd_same, List.map_append]; rfl, ?_⟩
              have ek : kL L (aT l i) = [aT l i] := by unfold kL; rw [if_pos c2]
              rw [keptT_more, ex, ek, List.append_nil]
              exact LsAt.snoc (TrAt.tu t6 _ _ p1) (LsAt.tu (TrAt.tu t6) hP2)
          · refine ifF (decide_eq_false c2) ?_
            have ek : kL L (aT l i) = [] := by unfold kL; rw [if_neg c2]
            refine ⟨s3, ⟨_, rfl⟩, ks, hk2, ?_⟩
            rw [keptT_more, ex, ek, List.append_nil, List.append_nil]
            exact hP2
      · rintro σ H2 ⟨s3, ⟨r, rfl⟩, ks, hk2, hP2⟩
        exact ⟨_, rfl, q H2 kp ks (s1.trans s3) hk2 hP2⟩
end
end ScA
namespace ScA
open PySem PySem.Spec PyProof.Rows L2
open Sc
/-! has_none_left, is_cut_off -/
def noneB (L : Tr) (l : List Tr) : Bool := l.all fun c => decide (offT L c ≤ 0)
theorem cutB_lines (p q : List Pt) : cutB p q = (linesT (p.map trP)).any fun L => noneB L (q.map trP) := by
  unfold cutB linesT noneB
  rw [List.any_map, List.length_map]
  congr 1
  funext k
  show _ = (q.map trP).all _
  rw [List.all_map]
  rfl
section
variable {Pg : Program} {w : World} {K : PySem.W.Frag} {mg : Str → Option Value} {base : Heap} {CF CT CP CS fP fS CO fO : Addr}
def spHn : Sp := fun vs H Q _ => ∃ (x y : Addr) (as : List Addr) (L : Tr) (l : List Tr) (i j : Nat), vs = [.ref x, .ref y] ∧ TrAt H x L ∧ H y = some (.lst (as.map V.ref)) ∧ LsAt TrAt H as l ∧ SzT i L ∧ (∀ t ∈ l, SzT j t) ∧ i + j ≤ 90000 ∧ Q (.bl (noneB L l)) H
theorem scHn : FnScope ["line", "corners", "corner"] ["line", "corners"] (defScope s_has_none_left) := ⟨rfl, rfl, rfl, by decide +kernel, rfl, by decide +kernel, by decide +kernel⟩
theorem ok_hn {f fX : Addr} {fd fdX : FuncData} (F : Fun K "has_none_left" "has_none_left" s_has_none_left f fd)
    (GX : FnOk Pg w K mg base CX0 1 fX fdX ["line", "corner"] spOl) (mX : mg "off_line" = some (.ref fX)) (kX : PySem.W.keepIn K (.ref fX) = true) (bX : Binds K fdX ["line", "corner"] []) :
    FnOk Pg w K mg base CX0 2 f fd ["line", "corners"] spHn := by
  refine F.ok scHn (fun vs H Q E h => ?_) (fun cdv A outer s H vs Q E hr h => ⟨_,
    pss_cons (ps_for PassesOwn.never rfl (pi_list (pv 1)) (pg_name (i := 2) scHn.nd rfl (Or.inl rfl))
      (pss_one (ps_if (pt_cmpR op_gt (pe_call GX hr rfl mX kX bX .nil pass0 (pa_cons (pv 0) (pa_cons (pv 2) pa_nil))) pe_int (nomark _)) (pss_one (ps_ret pe_bl)) pss_nil)))
    (pss_one (ps_ret pe_bl)), ?_⟩)
  · obtain ⟨x, y, as, L, l, i, j, rfl, _⟩ := h
    rfl
  · obtain ⟨x, y, as, L, l, i, j, rfl, hx, hy, hP, sL, sl, hij, q⟩ := h
    have la := hP.len
    refine ⟨_, rfl, y, rfl, ⟨_, SqL.of hy⟩, ?_⟩
    refine for_list (K := K) (a := y) (xs := as.map V.ref) (fun n σ H' => H' = H ∧ (∃ r : Option V, σ = [some (.ref x), some (.ref y), r]) ∧ ∀ k, k < n → ∀ c, l[k]? = some c → offT L c ≤ 0) ?_ ?_ ?_ ?_
    · exact ⟨rfl, ⟨none, rfl⟩, fun k hk => absurd hk (Nat.not_lt_zero _)⟩
    · rintro n σ H1 _ ⟨rfl, _⟩
      exact SqL.of hy
    · rintro n v σ H1 hi ⟨rfl, ⟨r, rfl⟩, no⟩
      obtain ⟨b, hb, rfl⟩ : ∃ b, as[n]? = some b ∧ v = V.ref b := by
        rw [List.getElem?_map] at hi
        cases e : as[n]? with
        | none => rw [e] at hi; cases hi
        | some z => rw [e] at hi; exact ⟨z, rfl, (Option.some.inj hi).symm⟩
      obtain ⟨c, hc, pc⟩ := hP.at hb
      refine ⟨_, rfl, _, rfl, x, b, L, c, i, j, rfl, hx, pc, sL, sl c (List.mem_of_getElem? hc), hij, _, _, rfl, rfl, _, rfl, ?_⟩
      by_cases cc : offT L c > 0
      · refine ifT (decide_eq_true cc) ?_
        have : noneB L l = false := by
          unfold noneB
          rw [List.all_eq_false]
          exact ⟨c, List.mem_of_getElem? hc, by rw [decide_eq_true_eq]; omega⟩
        rw [this] at q
        exact q
      · refine ifF (decide_eq_false cc) ⟨rfl, ⟨_, rfl⟩, fun k hk c' hc' => ?_⟩
        by_cases e : k = n
        · subst e
          rw [hc] at hc'
          cases hc'
          omega
        · exact no k (by omega) c' hc'
    · rintro σ H1 ⟨rfl, ⟨r, rfl⟩, no⟩
      rw [List.length_map, la] at no
      have : noneB L l = true := by
        unfold noneB
        rw [List.all_eq_true]
        intro c hc
        obtain ⟨k, hk, e⟩ := List.getElem_of_mem hc
        exact decide_eq_true (no k hk c (by rw [List.getElem?_eq_getElem hk, e]))
      rw [this] at q
      exact q
def spIc (C : Addr) : Sp := fun vs H Q _ => ∃ (x y : Addr) (p r : List Pt) (m : Nat), vs = [.ref x, .ref y] ∧ OutAt C H x p ∧ OutAt C H y r ∧ 0 < p.length ∧ (∀ z ∈ p, SzT m (trP z)) ∧ (∀ z ∈ r, SzT m (trP z)) ∧ m ≤ 10000 ∧ Q (.bl (cutB p r)) H
theorem scIc : FnScope ["one", "other", "line"] ["one", "other"] (defScope s_is_cut_off) := ⟨rfl, rfl, rfl, by decide +kernel, rfl, by decide +kernel, by decide +kernel⟩
theorem ok_ic {f fX : Addr} {fd fdX : FuncData} (F : Fun K "is_cut_off" "is_cut_off" s_is_cut_off f fd) (T : ClsTxt K mg "Outline" CO fO ["corners", "lines"])
    (GX : FnOk Pg w K mg base CX0 2 fX fdX ["line", "corners"] spHn) (mX : mg "has_none_left" = some (.ref fX)) (kX : PySem.W.keepIn K (.ref fX) = true) (bX : Binds K fdX ["line", "corners"] []) :
    FnOk Pg w K mg base CX0 3 f fd ["one", "other"] (spIc CO) := by
  refine F.ok scIc (fun vs H Q E h => ?_) (fun cdv A outer s H vs Q E hr h => ⟨_,
    pss_cons (ps_for PassesOwn.never rfl (pi_list (pe_fld (pv 0) rfl)) (pg_name (i := 2) scIc.nd rfl (Or.inl rfl))
      (pss_one (ps_if (pt_val (pe_call GX hr rfl mX kX bX .nil pass0 (pa_cons (pv 2) (pa_cons (pe_fld (pv 1) rfl) pa_nil)))) (pss_one (ps_ret pe_bl)) pss_nil)))
    (pss_one (ps_ret pe_bl)), ?_⟩)
  · obtain ⟨x, y, p, r, m, rfl, _⟩ := h
    rfl
  · obtain ⟨x, y, p, r, m, rfl, ⟨dx, cs, ls, as, bs, hx, hcs, hA, hls, hB⟩, ⟨dy, cs2, ls2, as2, bs2, hy, hcs2, hA2, hls2, hB2⟩, p0, sp, sr, hm, q⟩ := h
    have lb := hB.len
    have szt : ∀ i, SzT m (aT (p.map trP) i) := fun i => by
      obtain ⟨z, hz, e⟩ := List.mem_map.mp (aT_mem (l := p.map trP) i (by rw [List.length_map]; exact p0))
      rw [← e]; exact sp z hz
    have sl : ∀ L ∈ linesT (p.map trP), SzT (2 * m + 1) L := fun L hL => by
      unfold linesT at hL
      obtain ⟨k, _, rfl⟩ := List.mem_map.mp hL
      exact lineT_sz (szt _) (szt _)
    have sc : ∀ t ∈ r.map trP, SzT m t := fun t ht => by
      obtain ⟨z, hz, rfl⟩ := List.mem_map.mp ht
      exact sr z hz
    refine ⟨_, rfl, x, CO, dx, _, _, rfl, hx, T.cl, T.n _ (by simp), ou_l, ls, rfl, ⟨_, SqL.of hls⟩, ?_⟩
    refine for_list (K := K) (a := ls) (xs := bs.map V.ref) (fun n σ H' => H' = H ∧ (∃ r : Option V, σ = [some (.ref x), some (.ref y), r]) ∧ ∀ k, k < n → ∀ L, (linesT (p.map trP))[k]? = some L → noneB L (r.map trP) = false) ?_ ?_ ?_ ?_
    · exact ⟨rfl, ⟨none, rfl⟩, fun k hk => absurd hk (Nat.not_lt_zero _)⟩
    · rintro n σ H1 _ ⟨rfl, _⟩
      exact SqL.of hls
    · rintro n v σ H1 hi ⟨rfl, ⟨r', rfl⟩, no⟩
      obtain ⟨b, hb, rfl⟩ : ∃ b, bs[n]? = some b ∧ v = V.ref b := by
        rw [List.getElem?_map] at hi
        cases e : bs[n]? with
        | none => rw [e] at hi; cases hi
        | some z => rw [e] at hi; exact ⟨z, rfl, (Option.some.inj hi).symm⟩
      obtain ⟨L, hL, pL⟩ := hB.at hb
      refine ⟨_, rfl, _, rfl, y, CO, dy, _, _, rfl, hy, T.cl, T.n _ (by simp), ou_c, b, cs2, as2, L, _, 2 * m + 1, m, rfl, pL, hcs2, hA2, sl L (List.mem_of_getElem? hL), sc, by omega, _, rfl, ?_⟩
      cases nb : noneB L (r.map trP) with
      | true =>
        refine ifT rfl ?_
        have : cutB p r = true := by
          rw [cutB_lines, List.any_eq_true]
          exact ⟨L, List.mem_of_getElem? hL, nb⟩
        rw [this] at q
        exact q
      | false =>
        refine ifF rfl ⟨rfl, ⟨_, rfl⟩, fun k hk L' hL' => ?_⟩
        by_cases e : k = n
        · subst e
          rw [hL] at hL'
          cases hL'
          exact nb
        · exact no k (by omega) L' hL'
    · rintro σ H1 ⟨rfl, ⟨r', rfl⟩, no⟩
      rw [List.length_map, lb] at no
      have : cutB p r = false := by
        rw [cutB_lines, List.any_eq_false]
        intro L hL
        obtain ⟨k, hk, e⟩ := List.getElem_of_mem hL
        rw [no k hk L (by rw [List.getElem?_eq_getElem hk, e])]
        exact Bool.false_ne_true
      rw [this] at q
      exact q
/-! common_corners -/
def spCc (C : Addr) : Sp := fun vs H Q _ => ∃ (x y : Addr) (p r : List Pt) (m : Nat), vs = [.ref x, .ref y] ∧ OutAt C H x p ∧ OutAt C H y r ∧ (Piece p ∧ Piece r) ∧ (∀ z ∈ p, SzT m (trP z)) ∧ (∀ z ∈ r, SzT m (trP z)) ∧ 10 * m + 20 ≤ 13500 ∧ p.length + 2 * r.length ≤ 1000 ∧
  ∀ H' q as', Same H H' → H q = none → H' q = some (.lst (as'.map V.ref)) → PtsAt H' as' (commonP p r) → Q (.ref q) H'
theorem scCc : FnScope ["one", "other", "left", "line", "corner"] ["one", "other"] (defScope s_common_corners) := ⟨rfl, rfl, rfl, by decide +kernel, rfl, by decide +kernel, by decide +kernel⟩
theorem ok_cc {f fI fL fF : Addr} {fd fdI fdL fdF : FuncData} (F : Fun K "common_corners" "common_corners" s_common_corners f fd) (T : ClsTxt K mg "Outline" CO fO ["corners", "lines"])
    (GI : FnOk Pg w K mg base CX0 3 fI fdI ["one", "other"] (spIc CO)) (mI : mg "is_cut_off" = some (.ref fI)) (kI : PySem.W.keepIn K (.ref fI) = true) (bI : Binds K fdI ["one", "other"] [])
    (GL : FnOk Pg w K mg base CX0 3 fL fdL ["corners", "line"] spLc) (mL : mg "left_corners" = some (.ref fL)) (kL : PySem.W.keepIn K (.ref fL) = true) (bL : Binds K fdL ["corners", "line"] [])
    (GF : FnOk Pg w K mg base CX0 3 fF fdF ["corner"] spPf) (mF : mg "point_from" = some (.ref fF)) (kF : PySem.W.keepIn K (.ref fF) = true) (bF : Binds K fdF ["corner"] []) :
    FnOk Pg w K mg base CX0 4 f fd ["one", "other"] (spCc CO) := by
  refine F.ok scCc (fun vs H Q E h => ?_) (fun cdv A outer s H vs Q E hr h => ⟨_,
    pss_cons (ps_if (PW.pt (pw_or (pt_val (pe_call GI hr rfl mI kI bI .nil pass0 (pa_cons (pv 0) (pa_cons (pv 1) pa_nil)))) (pw_or1 (pt_val (pe_call GI hr rfl mI kI bI .nil pass0 (pa_cons (pv 1) (pa_cons (pv 0) pa_nil)))))))
      (pss_one (ps_ret (pe_lst pa_nil))) pss_nil)
    (pss_cons (ps_set (i := 2) scCc.nd rfl (Or.inl rfl) (pe_fld (pv 0) rfl))
    (pss_cons (ps_for PassesOwn.never rfl (pi_list (pe_fld (pv 1) rfl)) (pg_name (i := 3) scCc.nd rfl (Or.inl rfl))
      (pss_one (ps_set (i := 2) scCc.nd rfl (Or.inl rfl) (pe_call GL hr rfl mL kL bL .nil pass0 (pa_cons (pv 2) (pa_cons (pv 3) pa_nil))))))
    (pss_one (ps_ret (pe_lc (own := [("corner", 4)]) (g := gName 4) (tt := tYes) rfl scCc.nd (pi_list (pv 2))
      (blkOk_by (own := [("corner", 4)]) (N := ["one", "other", "left", "line", "corner"]) (sc := defScope s_common_corners) (by decide +kernel))
      (fun _ _ _ _ _ => pg_name (i := 4) scCc.nd rfl (Or.inl rfl))
      (fun _ _ _ _ _ => pts_nil)
      (fun _ _ _ _ _ => pe_call GF hr rfl mF kF bF .nil pass0 (pa_cons (pv 4) pa_nil))))))), ?_⟩)
  · obtain ⟨x, y, p, r, m, rfl, _⟩ := h
    rfl
  · obtain ⟨x, y, p, r, m, rfl, hX, hY, ⟨pp, pr⟩, sp, sr, hm, hl, q⟩ := h
    have p3 := pp.three
    have r3 := pr.three
    have dead : (cutB p r || cutB r p) = true → ∀ g, H g = none → Q (.ref g) (upd H g (.lst [])) := fun hb g ng => by
      have nm : ¬ Meets p r := fun m' => by
        have := (not_cut pp pr).mpr m'
        rw [hb] at this; cases this
      refine q _ g [] (Same.new ng) ng upd_same ?_
      rw [common_dead pp pr nm]
      trivial
    refine ⟨_, rfl, _, rfl, x, y, p, r, m, rfl, hX, hY, by omega, sp, sr, by omega, _, rfl, ?_⟩
    cases c1 : cutB p r with
    | true =>
      refine ifT rfl (ifT rfl ?_)
      exact ⟨(by show 0 ≤ sizeLine; decide), fun g ng => dead (by rw [c1]; rfl) g ng⟩
    | false =>
      refine ifF rfl ?_
      refine ⟨_, rfl, _, rfl, y, x, r, p, m, rfl, hY, hX, by omega, sr, sp, by omega, _, rfl, ?_⟩
      cases c2 : cutB r p with
      | true =>
        refine ifT rfl ?_
        exact ⟨(by show 0 ≤ sizeLine; decide), fun g ng => dead (by rw [c1, c2]; rfl) g ng⟩
      | false =>
        refine ifF rfl ?_
        have mt : Meets p r := (not_cut pp pr).mp (by rw [c1, c2]; rfl)
        have pre := pref_ok pp pr sp sr mt
        obtain ⟨dx, cs, ls, as, bs, hx, hcs, hA, hls, hB⟩ := hX
        obtain ⟨dy, cs2, ls2, as2, bs2, hy, hcs2, hA2, hls2, hB2⟩ := hY
        have lt : (r.map trP).length = r.length := List.length_map _
        have lb2 : bs2.length = r.length := by have := hB2.len; rw [linesT_len, lt] at this; exact this
        have szt : ∀ i, SzT m (aT (r.map trP) i) := fun i => by
          obtain ⟨z, hz, e⟩ := List.mem_map.mp (aT_mem (l := r.map trP) i (by rw [lt]; omega))
          rw [← e]; exact sr z hz
        have len : ∀ i, i ≤ r.length → (prefT (p.map trP) (r.map trP) i).length ≤ p.length + 2 * i := fun i hi => by
          have e := congrArg List.length (pre i hi).eq
          rw [List.length_map, List.length_map] at e
          rw [e]; exact (pre i hi).few
        refine ⟨_, rfl, x, CO, dx, _, _, rfl, hx, T.cl, T.n _ (by simp), ou_c, ?_⟩
        refine ⟨_, rfl, y, CO, dy, _, _, rfl, hy, T.cl, T.n _ (by simp), ou_l, ls2, rfl, ⟨_, SqL.of hls2⟩, ?_⟩
        refine for_list (K := K) (a := ls2) (xs := bs2.map V.ref) (fun n σ H' => Same H H' ∧ ∃ (r' : Option V) (g : Addr) (gs : List Addr), σ = [some (.ref x), some (.ref y), some (.ref g), r', none] ∧ H' g = some (.lst (gs.map V.ref)) ∧ LsAt TrAt H' gs (prefT (p.map trP) (r.map trP) n)) ?_ ?_ ?_ ?_
        · exact ⟨Same.refl H, none, cs, as, rfl, hcs, hA⟩
        · rintro n σ H1 _ ⟨s1, _⟩
          exact SqL.of (s1 _ _ hls2)
        · rintro n v σ H1 hi ⟨s1, r', g, gs, rfl, hg, hG⟩
          obtain ⟨b, hb, rfl⟩ : ∃ b, bs2[n]? = some b ∧ v = V.ref b := by
            rw [List.getElem?_map] at hi
            cases e : bs2[n]? with
            | none => rw [e] at hi; cases hi
            | some z => rw [e] at hi; exact ⟨z, rfl, (Option.some.inj hi).symm⟩
          obtain ⟨L, hL, pL⟩ := hB2.at hb
          have hn : n < r.length := by
            have := (List.getElem?_eq_some_iff.mp hb).1
            omega
          have eL : L = lineT (aT (r.map trP) (n + (r.map trP).length - 1)) (aT (r.map trP) n) := by
            have := linesT_get (l := r.map trP) (k := n) (by rw [lt]; exact hn)
            rw [hL] at this
            exact Option.some.inj this
          subst eL
          have ln := len n (by omega)
          refine ⟨_, rfl, _, rfl, g, b, gs, _, _, 4 * m + 3, 2 * m + 1, rfl, hg, hG, pL.mono s1, (pre n (by omega)).pos, (pre n (by omega)).sz, lineT_sz (szt _) (szt _), by omega, by omega, fun H2 g2 gs2 s2 h2 G2 => ?_⟩
          refine ⟨s1.trans s2, _, g2, gs2, rfl, h2, ?_⟩
          rw [prefT_more]
          exact G2
        · rintro σ H1 ⟨s1, r', g, gs, rfl, hg, hG⟩
          rw [List.length_map, lb2] at hG
          have pa := pre r.length (Nat.le_refl _)
          have lg := hG.len
          have ln := len r.length (Nat.le_refl _)
          refine ⟨_, rfl, g, rfl, ⟨_, SqL.of hg⟩, fun D nD => ?_⟩
          refine lc_list (K := K) (a := g) (xs := gs.map V.ref) (fun i H' => Same H1 H' ∧ ∃ as', H' D = some (.lst (as'.map V.ref)) ∧ PtsAt H' as' (((prefT (p.map trP) (r.map trP) r.length).map fromT).take i)) ?_ ?_ ?_ ?_
          · exact ⟨Same.new nD, [], upd_same, trivial⟩
          · rintro n H2 _ ⟨s2, _⟩
            exact SqL.of (s2 _ _ hg)
          · rintro n v H2 hi ⟨s2, as', hD2, hP2⟩
            obtain ⟨b, hb, rfl⟩ : ∃ b, gs[n]? = some b ∧ v = V.ref b := by
              rw [List.getElem?_map] at hi
              cases e : gs[n]? with
              | none => rw [e] at hi; cases hi
              | some z => rw [e] at hi; exact ⟨z, rfl, (Option.some.inj hi).symm⟩
            obtain ⟨t, ht, pt⟩ := hG.at hb
            have mt' := List.mem_of_getElem? ht
            refine ⟨rfl, ?_⟩
            unfold tYes
            refine ifT rfl ?_
            refine ⟨_, rfl, b, t, 4 * m + 3, rfl, pt.mono s2, pa.pos t mt', pa.sz t mt', by omega, fun H3 c3 s3 n3 f3 => ?_⟩
            have hD3 := s3 _ _ hD2
            have t6 : Tu H3 (upd H3 D (.lst (as'.map V.ref ++ [V.ref c3]))) := Tu.lst hD3
            have l1 := hP2.len
            rw [List.length_take, List.length_map] at l1
            refine ⟨_, hD3, ?_, ?_, as' ++ [c3], ?_, ?_⟩
            · rw [List.length_map, szl]; omega
            · intro b' o' e
              rw [upd_ne (ne_of_none e nD)]
              exact s3 _ _ (s2 _ _ e)
            · rw [upd_same, List.map_append]; rfl
            · have gm : ((prefT (p.map trP) (r.map trP) r.length).map fromT)[n]? = some (fromT t) := by rw [List.getElem?_map, ht]; rfl
              rw [take_more gm]
              exact PtsAt.snoc (f3.tu t6) (PtsAt.tu ((Tu.of s3).trans t6) hP2)
          · rintro H2 ⟨s2, as', hD2, hP2⟩
            rw [List.length_map, lg, ← List.length_map (f := fromT), List.take_length, pa.all] at hP2
            exact q H2 D as' (s1.trans s2) (s1.free nD) hD2 hP2
end
end ScA
namespace ScA
open PySem PySem.Spec PyProof.Rows L2
open Sc
section
variable {Pg : Program} {w : World} {K : PySem.W.Frag} {mg : Str → Option Value} {base : Heap} {CF CP CS fP fS C4 f4 : Addr}
def fsF (a b c : V) : List (Str × V) := [("o", a), ("u", b), ("v", c)]
def fsN : List Str := ["o", "u", "v"]
def spFsI (C : Addr) : Sp := fun vs H Q _ => ∃ (p dx : Addr) (a b c : V), vs = [.ref p, a, b, c] ∧ H p = some (.ins C dx []) ∧ ∀ H' : Hp, H' p = some (.ins C dx (fsF a b c)) → (∀ q o, H q = some o → q ≠ p → H' q = some o) → Q .non H'
theorem scFsI : FnScope ["self", "o", "u", "v"] ["self", "o", "u", "v"] (defScope s_FourSides) := ⟨rfl, rfl, rfl, by decide +kernel, rfl, by decide +kernel, by decide +kernel⟩
theorem ok_fsI {f : Addr} {fd : FuncData} (F : Fun K "__init__" "FourSides.__init__" s_FourSides f fd) (T : ClsTxt K mg "FourSides" C4 f4 ["o", "u", "v"]) : FnOk Pg w K mg base CX0 1 f fd ["self", "o", "u", "v"] (spFsI C4) := by
  refine F.ok scFsI (fun vs H Q E h => ?_) (fun cdv A outer s H vs Q E hr h => ⟨_, pss_cons (ps_fld (pv 0) (pv 1) rfl) (pss_cons (ps_fld (pv 0) (pv 2) rfl) (pss_one (ps_fld (pv 0) (pv 3) rfl))), ?_⟩)
  · obtain ⟨p, dx, a, b, c, rfl, _⟩ := h
    rfl
  · obtain ⟨p, dx, a, b, c, rfl, hp, k⟩ := h
    refine ⟨_, rfl, _, rfl, p, C4, dx, [], rfl, hp, T.cl, T.n _ (by simp), (by show 0 < 1000; decide), ?_⟩
    refine ⟨_, rfl, _, rfl, p, C4, dx, _, rfl, upd_same, T.cl, T.n _ (by simp), (by show 1 < 1000; decide), ?_⟩
    refine ⟨_, rfl, _, rfl, p, C4, dx, _, rfl, upd_same, T.cl, T.n _ (by simp), (by show 2 < 1000; decide), ?_⟩
    refine k _ ?_ fun q o e hq => by rw [upd_ne hq, upd_ne hq, upd_ne hq]; exact e
    rw [upd_same]
    have e : putF "v" c (putF "u" b (putF "o" a [])) = fsF a b c := by
      unfold fsF
      have n1 : ¬ (("o" : Str) = "u") := by decide +kernel
      have n2 : ¬ (("o" : Str) = "v") := by decide +kernel
      have n3 : ¬ (("u" : Str) = "v") := by decide +kernel
      simp only [putF, if_neg n1, if_neg n2, if_neg n3]
    exact congrArg (fun z => some (HO.ins C4 dx z)) e
def FourAt (C : Addr) (H : Hp) (t : Addr) (o u v : Pt) : Prop := ∃ dx xo xu xv, H t = some (.ins C dx (fsF (.ref xo) (.ref xu) (.ref xv))) ∧ PtAt H xo o ∧ PtAt H xu u ∧ PtAt H xv v
theorem FourAt.mono {C : Addr} {H H' : Hp} {t : Addr} {o u v : Pt} (h : FourAt C H t o u v) (s : Same H H') : FourAt C H' t o u v :=
  let ⟨dx, xo, xu, xv, h1, h2, h3, h4⟩ := h
  ⟨dx, xo, xu, xv, s _ _ h1, h2.mono s, h3.mono s, h4.mono s⟩
theorem fs_o {a b c : V} : (fsF a b c).lookup ("o" : Str) = some a := lkH
theorem fs_u {a b c : V} : (fsF a b c).lookup ("u" : Str) = some b := (lkP (by decide +kernel)).trans lkH
theorem fs_v {a b c : V} : (fsF a b c).lookup ("v" : Str) = some c := (lkP (by decide +kernel)).trans ((lkP (by decide +kernel)).trans lkH)
end
end ScA
namespace ScA
open PySem PySem.Spec PyProof.Rows L2
open Sc
section
variable {Pg : Program} {w : World} {K : PySem.W.Frag} {mg : Str → Option Value} {base : Heap} {CF CP CS fP fS C4 f4 : Addr}
/-! square_shares -/
def spSqs : Sp := fun vs H Q _ => vs = [] ∧ ∀ H' q as, Same H H' → H q = none → H' q = some (.lst (as.map V.ref)) → PtsAt H' as sqP → Q (.ref q) H'
theorem scSqs : FnScope [] [] (defScope s_square_shares) := ⟨rfl, rfl, rfl, by decide +kernel, rfl, by decide +kernel, by decide +kernel⟩
theorem ok_sqs {f : Addr} {fd : FuncData} (F : Fun K "square_shares" "square_shares" s_square_shares f fd) : FnOk Pg w K mg base CX0 1 f fd [] spSqs := by
  refine F.ok scSqs (fun vs H Q E h => ?_) (fun cdv A outer s H vs Q E hr h => ⟨_, pss_one (ps_ret (pe_lst
    (pa_cons (pe_tup (pa_cons (pe_tup (pa_cons pe_int (pa_cons pe_int pa_nil))) (pa_cons (pe_tup (pa_cons pe_int (pa_cons pe_int pa_nil))) pa_nil)))
    (pa_cons (pe_tup (pa_cons (pe_tup (pa_cons pe_int (pa_cons pe_int pa_nil))) (pa_cons (pe_tup (pa_cons pe_int (pa_cons pe_int pa_nil))) pa_nil)))
    (pa_cons (pe_tup (pa_cons (pe_tup (pa_cons pe_int (pa_cons pe_int pa_nil))) (pa_cons (pe_tup (pa_cons pe_int (pa_cons pe_int pa_nil))) pa_nil)))
    (pa_cons (pe_tup (pa_cons (pe_tup (pa_cons pe_int (pa_cons pe_int pa_nil))) (pa_cons (pe_tup (pa_cons pe_int (pa_cons pe_int pa_nil))) pa_nil))) pa_nil)))))), ?_⟩)
  · obtain ⟨rfl, _⟩ := h
    rfl
  · obtain ⟨rfl, k⟩ := h
    have two : 2 ≤ sizeLine := by decide
    refine ⟨two, fun a1 n1 => ⟨two, fun a2 n2 => ⟨two, fun a3 n3 => ⟨two, fun b1 m1 => ⟨two, fun b2 m2 => ⟨two, fun b3 m3 => ⟨two, fun c1 i1 => ⟨two, fun c2 i2 => ⟨two, fun c3 i3 => ⟨two, fun d1 j1 => ⟨two, fun d2 j2 => ⟨two, fun d3 j3 => ⟨(by show 4 ≤ sizeLine; decide), fun g ng => ?_⟩⟩⟩⟩⟩⟩⟩⟩⟩⟩⟩⟩⟩
    have s1 := Same.new (o := .tup [.int 0, .int 1]) n1
    have s2 := Same.new (o := .tup [.int 0, .int 1]) n2
    have s3 := Same.new (o := .tup [.ref a1, .ref a2]) n3
    have s4 := Same.new (o := .tup [.int 1, .int 1]) m1
    have s5 := Same.new (o := .tup [.int 0, .int 1]) m2
    have s6 := Same.new (o := .tup [.ref b1, .ref b2]) m3
    have s7 := Same.new (o := .tup [.int 1, .int 1]) i1
    have s8 := Same.new (o := .tup [.int 1, .int 1]) i2
    have s9 := Same.new (o := .tup [.ref c1, .ref c2]) i3
    have s10 := Same.new (o := .tup [.int 0, .int 1]) j1
    have s11 := Same.new (o := .tup [.int 1, .int 1]) j2
    have s12 := Same.new (o := .tup [.ref d1, .ref d2]) j3
    have s13 := Same.new (o := .lst [V.ref a3, V.ref b3, V.ref c3, V.ref d3]) ng
    have t12 := s12.trans s13
    have t11 := s11.trans t12
    have t10 := s10.trans t11
    have t9 := s9.trans t10
    have t8 := s8.trans t9
    have t7 := s7.trans t8
    have t6 := s6.trans t7
    have t5 := s5.trans t6
    have t4 := s4.trans t5
    have t3 := s3.trans t4
    have t2 := s2.trans t3
    have all := s1.trans t2
    have fr : H g = none := by
      cases e : H g with
      | none => rfl
      | some o =>
        exfalso
        have := (s1.trans (s2.trans (s3.trans (s4.trans (s5.trans (s6.trans (s7.trans (s8.trans (s9.trans (s10.trans (s11.trans s12))))))))))) _ _ e
        rw [ng] at this; cases this
    refine k _ g [a3, b3, c3, d3] all fr upd_same ⟨⟨a1, a2, t4 _ _ upd_same, t2 _ _ upd_same, t3 _ _ upd_same⟩, ⟨b1, b2, t7 _ _ upd_same, t5 _ _ upd_same, t6 _ _ upd_same⟩, ⟨c1, c2, t10 _ _ upd_same, t8 _ _ upd_same, t9 _ _ upd_same⟩, ⟨d1, d2, s13 _ _ upd_same, t11 _ _ upd_same, t12 _ _ upd_same⟩, trivial⟩
/-! slid_shares -/
theorem whole_sz {j : Int} {k : Nat} (h : j.natAbs < 2 ^ k) (hk : 1 ≤ k) : Sz k (Kzq1.whole j) := ⟨h, Nat.lt_of_lt_of_le (by decide : 1 < 2 ^ 1) (Nat.pow_le_pow_right (by omega) hk)⟩
def spSls : Sp := fun vs H Q _ => ∃ (x : Addr) (k : Fr) (j : Int), vs = [.ref x, .int j] ∧ FrAt H x k ∧ Ok k ∧ Sz 256 k ∧ j.natAbs ≤ 61 ∧ ∀ H' q as, Same H H' → H q = none → H' q = some (.lst (as.map V.ref)) → PtsAt H' as (slP k j) → Q (.ref q) H'
theorem scSls : FnScope ["k", "j", "above"] ["k", "j"] (defScope s_slid_shares) := ⟨rfl, rfl, rfl, by decide +kernel, rfl, by decide +kernel, by decide +kernel⟩
theorem ok_sls {f fR : Addr} {fd fdR : FuncData} (F : Fun K "slid_shares" "slid_shares" s_slid_shares f fd) (GR : FnOk Pg w K mg base CX0 3 fR fdR ["a", "b"] spPlus) (mR : mg "plus" = some (.ref fR)) (kR : PySem.W.keepIn K (.ref fR) = true) (bR : Binds K fdR ["a", "b"] []) :
    FnOk Pg w K mg base CX0 4 f fd ["k", "j"] spSls := by
  refine F.ok scSls (fun vs H Q E h => ?_) (fun cdv A outer s H vs Q E hr h => ⟨_,
    pss_cons (ps_set (i := 2) scSls.nd rfl (Or.inl rfl) (pe_call GR hr rfl mR kR bR .nil pass0 (pa_cons (pv 0) (pa_cons (pe_tup (pa_cons (pv 1) (pa_cons pe_int pa_nil))) pa_nil))))
    (pss_one (ps_ret (pe_lst
    (pa_cons (pe_tup (pa_cons (pe_tup (pa_cons (pv 1) (pa_cons pe_int pa_nil))) (pa_cons (pe_tup (pa_cons pe_int (pa_cons pe_int pa_nil))) pa_nil)))
    (pa_cons (pe_tup (pa_cons (pe_tup (pa_cons (pe_op op_add (pv 1) pe_int) (pa_cons pe_int pa_nil))) (pa_cons (pe_tup (pa_cons pe_int (pa_cons pe_int pa_nil))) pa_nil)))
    (pa_cons (pe_tup (pa_cons (pe_call GR hr rfl mR kR bR .nil pass0 (pa_cons (pv 2) (pa_cons (pe_tup (pa_cons pe_int (pa_cons pe_int pa_nil))) pa_nil))) (pa_cons (pe_tup (pa_cons pe_int (pa_cons pe_int pa_nil))) pa_nil)))
    (pa_cons (pe_tup (pa_cons (pv 2) (pa_cons (pe_tup (pa_cons pe_int (pa_cons pe_int pa_nil))) pa_nil))) pa_nil))))))), ?_⟩)
  · obtain ⟨x, k, j, rfl, _⟩ := h
    rfl
  · obtain ⟨x, k, j, rfl, hx, ok, zk, hj, q⟩ := h
    have two : 2 ≤ sizeLine := by decide
    have zj : Sz 8 (Kzq1.whole j) := whole_sz (by omega) (by omega)
    have z1 : Sz 2 one := whole_sz (by decide) (by omega)
    have oj := whole_ok j
    have oa := add_ok ok oj
    have za := add_sz ok oj zk zj
    refine ⟨_, rfl, _, rfl, two, fun a0 n0 => ?_⟩
    have s0 := Same.new (o := .tup [.int j, .int 1]) n0
    refine ⟨x, a0, k, Kzq1.whole j, 256, 8, rfl, hx.mono s0, upd_same, ok, oj, zk, zj, by omega, fun H1 ab s1 nb fb => ?_⟩
    refine ⟨_, rfl, two, fun a1 n1 => ⟨two, fun a2 n2 => ⟨two, fun a3 n3 => ⟨_, rfl, _, _, rfl, rfl, two, fun b1 m1 => ⟨two, fun b2 m2 => ⟨two, fun b3 m3 => ⟨_, rfl, two, fun c0 i0 => ?_⟩⟩⟩⟩⟩⟩⟩
    have s2 := Same.new (o := .tup [.int j, .int 1]) n1
    have s3 := Same.new (o := .tup [.int 0, .int 1]) n2
    have s4 := Same.new (o := .tup [.ref a1, .ref a2]) n3
    have s5 := Same.new (o := .tup [.int (j + 1), .int 1]) m1
    have s6 := Same.new (o := .tup [.int 0, .int 1]) m2
    have s7 := Same.new (o := .tup [.ref b1, .ref b2]) m3
    have s8 := Same.new (o := .tup [.int 1, .int 1]) i0
    have u27 := s2.trans (s3.trans (s4.trans (s5.trans (s6.trans (s7.trans s8)))))
    refine ⟨ab, c0, _, one, 256 + 8 + 1, 2, rfl, fb.mono u27, upd_same, oa, one_ok, za, z1, by omega, fun H9 c1 s9 n9 f9 => ?_⟩
    refine ⟨two, fun c2 i2 => ⟨two, fun c3 i3 => ⟨_, rfl, two, fun d2 j2 => ⟨two, fun d3 j3 => ⟨(by show 4 ≤ sizeLine; decide), fun g ng => ?_⟩⟩⟩⟩⟩
    have s10 := Same.new (o := .tup [.int 1, .int 1]) i2
    have s11 := Same.new (o := .tup [.ref c1, .ref c2]) i3
    have s12 := Same.new (o := .tup [.int 1, .int 1]) j2
    have s13 := Same.new (o := .tup [.ref ab, .ref d2]) j3
    have s14 := Same.new (o := .lst [V.ref a3, V.ref b3, V.ref c3, V.ref d3]) ng
    have t13 := s13.trans s14
    have t12 := s12.trans t13
    have t11 := s11.trans t12
    have t10 := s10.trans t11
    have t8 := s9.trans t10
    have t7 := s8.trans t8
    have t6 := s7.trans t7
    have t5 := s6.trans t6
    have t4 := s5.trans t5
    have t3 := s4.trans t4
    have t2 := s3.trans t3
    have t1 := s2.trans t2
    have all := s0.trans (s1.trans t1)
    have fr : H g = none := by
      cases e : H g with
      | none => rfl
      | some o =>
        exfalso
        have := (s0.trans (s1.trans (s2.trans (s3.trans (s4.trans (s5.trans (s6.trans (s7.trans (s8.trans (s9.trans (s10.trans (s11.trans (s12.trans s13))))))))))))) _ _ e
        rw [ng] at this; cases this
    refine q _ g [a3, b3, c3, d3] all fr upd_same ⟨⟨a1, a2, t4 _ _ upd_same, t2 _ _ upd_same, t3 _ _ upd_same⟩, ⟨b1, b2, t7 _ _ upd_same, t5 _ _ upd_same, t6 _ _ upd_same⟩, ⟨c1, c2, t12 _ _ upd_same, f9.mono t10, t11 _ _ upd_same⟩, ⟨ab, d2, s14 _ _ upd_same, fb.mono t1, t13 _ _ upd_same⟩, trivial⟩
/-! point_at -/
def spPta (C : Addr) : Sp := fun vs H Q _ => ∃ (t y : Addr) (o u v p : Pt) (m : Nat), vs = [.ref t, .ref y] ∧ FourAt C H t o u v ∧ PtAt H y p ∧ (OkP o ∧ OkP u ∧ OkP v ∧ OkP p) ∧ (SzP 256 o ∧ SzP 256 u ∧ SzP 256 v ∧ SzP m p) ∧ m ≤ 600 ∧
  ∀ H' q, Same H H' → H q = none → PtAt H' q (ptAt o u v p) → Q (.ref q) H'
theorem scPta : FnScope ["told", "share"] ["told", "share"] (defScope s_point_at) := ⟨rfl, rfl, rfl, by decide +kernel, rfl, by decide +kernel, by decide +kernel⟩
theorem ok_pta {f fS2 fC : Addr} {fd fdS fdC : FuncData} (F : Fun K "point_at" "point_at" s_point_at f fd) (T : ClsTxt K mg "FourSides" C4 f4 ["o", "u", "v"])
    (GS : FnOk Pg w K mg base CX0 4 fS2 fdS ["a", "b"] spPs) (mS : mg "point_sum" = some (.ref fS2)) (kS : PySem.W.keepIn K (.ref fS2) = true) (bS : Binds K fdS ["a", "b"] [])
    (GC : FnOk Pg w K mg base CX0 4 fC fdC ["a", "factor"] spScaled) (mC : mg "scaled" = some (.ref fC)) (kC : PySem.W.keepIn K (.ref fC) = true) (bC : Binds K fdC ["a", "factor"] []) :
    FnOk Pg w K mg base CX0 5 f fd ["told", "share"] (spPta C4) := by
  refine F.ok scPta (fun vs H Q E h => ?_) (fun cdv A outer s H vs Q E hr h => ⟨_,
    pss_one (ps_ret (pe_call GS hr rfl mS kS bS .nil pass0 (pa_cons (pe_fld (pv 0) rfl) (pa_cons (pe_call GS hr rfl mS kS bS .nil pass0
      (pa_cons (pe_call GC hr rfl mC kC bC .nil pass0 (pa_cons (pe_fld (pv 0) rfl) (pa_cons (pe_ix ix_tup (pv 1) pe_int (fun _ _ => rfl)) pa_nil)))
      (pa_cons (pe_call GC hr rfl mC kC bC .nil pass0 (pa_cons (pe_fld (pv 0) rfl) (pa_cons (pe_ix ix_tup (pv 1) pe_int (fun _ _ => rfl)) pa_nil))) pa_nil))) pa_nil)))), ?_⟩)
  · obtain ⟨t, y, o, u, v, p, m, rfl, _⟩ := h
    rfl
  · obtain ⟨t, y, o, u, v, p, m, rfl, ⟨dx, xo, xu, xv, ht, ho, hu, hv⟩, ⟨y1, y2, hy, hy1, hy2⟩, ⟨oo, ou, ov, op⟩, ⟨zo, zu, zv, zp⟩, hm, q⟩ := h
    refine ⟨_, rfl, t, C4, dx, _, _, rfl, ht, T.cl, T.n _ (by simp), fs_o, _, rfl, t, C4, dx, _, _, rfl, ht, T.cl, T.n _ (by simp), fs_u, _, rfl, y, _, 0, _, rfl, rfl, SqT.of hy, rfl, ?_⟩
    refine ⟨xu, y1, u, p.x, 256, m, rfl, hu, hy1, ou, op.1, zu, zp.1, by omega, fun H1 a1 s1 n1 f1 => ?_⟩
    refine ⟨_, rfl, t, C4, dx, _, _, rfl, s1 _ _ ht, T.cl, T.n _ (by simp), fs_v, _, rfl, y, _, 1, _, rfl, rfl, SqT.of (s1 _ _ hy), rfl, ?_⟩
    refine ⟨xv, y2, v, p.y, 256, m, rfl, hv.mono s1, hy2.mono s1, ov, op.2, zv, zp.2, by omega, fun H2 a2 s2 n2 f2 => ?_⟩
    have o1 := times_ok op.1 ou
    have o2 := times_ok op.2 ov
    have z1 : SzP (m + 256) (Kzq1.times p.x u) := ⟨mul_sz op.1 ou.1 zp.1 zu.1, mul_sz op.1 ou.2 zp.1 zu.2⟩
    have z2 : SzP (m + 256) (Kzq1.times p.y v) := ⟨mul_sz op.2 ov.1 zp.2 zv.1, mul_sz op.2 ov.2 zp.2 zv.2⟩
    refine ⟨a1, a2, _, _, m + 256, m + 256, rfl, f1.mono s2, f2, o1, o2, z1, z2, by omega, fun H3 a3 s3 n3 f3 => ?_⟩
    have t3 := (s1.trans s2).trans s3
    refine ⟨xo, a3, o, _, 256, _, rfl, ho.mono t3, f3, oo, plus_ok o1 o2, zo, plus_sz o1 o2 z1 z2, by omega, fun H4 a4 s4 n4 f4 => ?_⟩
    exact q H4 a4 (t3.trans s4) (t3.free n4) f4
end
end ScA
namespace ScA
open PySem PySem.Spec PyProof.Rows L2
open Sc
section
variable {Pg : Program} {w : World} {K : PySem.W.Frag} {mg : Str → Option Value} {base : Heap} {CF CP CS fP fS C4 f4 : Addr}
def spR4 (K : PySem.W.Frag) (CF C4 : Addr) : Sp := fun vs H Q E => ∃ (x : Addr) (ns : List Int), vs = [.ref x] ∧ SqL K H x (ns.map V.int) ∧ (∀ z ∈ ns, z.natAbs < 2 ^ 256) ∧ (rd4 ns = none → ∀ H', Same H H' → E (.ref CF) none H') ∧
  ∀ o u v, rd4 ns = some (o, u, v) → ∀ H' q, Same H H' → FourAt C4 H' q o u v → Q (.ref q) H'
theorem scR4 : FnScope ["numbers", "points"] ["numbers"] (defScope s_read_four_sides) := ⟨rfl, rfl, rfl, by decide +kernel, rfl, by decide +kernel, by decide +kernel⟩
theorem ok_r4 {f fR fX : Addr} {fd fdR fdX fdI : FuncData} (F : Fun K "read_four_sides" "read_four_sides" s_read_four_sides f fd) (TE : ErrTxt K mg CF) (T : ClsTxt K mg "FourSides" C4 f4 ["o", "u", "v"]) (mLen : mg "len" = none) {tPL : Tok} (mPL : mg "POINT_LENGTH" = some (.int 4 tPL))
    (GR : FnOk Pg w K mg base (L2.CX Pg w) 5 fR fdR ["numbers"] (spRps K CF)) (mR : mg "read_points" = some (.ref fR)) (kR : PySem.W.keepIn K (.ref fR) = true) (bR : Binds K fdR ["numbers"] [])
    (GX : FnOk Pg w K mg base CX0 4 fX fdX ["u", "v"] spCross) (mX : mg "cross" = some (.ref fX)) (kX : PySem.W.keepIn K (.ref fX) = true) (bX : Binds K fdX ["u", "v"] [])
    (GI : FnOk Pg w K mg base CX0 1 f4 fdI ["self", "o", "u", "v"] (spFsI C4)) (bI : Binds K fdI ["self", "o", "u", "v"] []) :
    FnOk Pg w K mg base (L2.CX Pg w) 6 f fd ["numbers"] (spR4 K CF C4) := by
  refine F.okX scR4 (fun vs H Q E h => ?_) (fun cdv A outer s H vs Q E hr h => ⟨_,
    pss_cons (ps_if (pt_cmpR op_ne (pe_callB call_len_seq (by rfl) mLen PySem.boot_len (pa_cons (pv 0) pa_nil)) (pe_op op_mulW pe_int (pe_glob (v := V.int 4) rfl mPL ⟨_, rfl⟩)) (nomark _))
      (pss_one (ps_raise rfl (takes_of rfl rfl rfl rfl) (pmk_own PySem.F.excBase_ValueError TE.x TE.g TE.k (raises_own TE.b TE.t) (by exact rfl)))) pss_nil)
    (pss_cons (ps_set (i := 1) scR4.nd rfl (Or.inl rfl) (pe_call GR hr rfl mR kR bR .nil (passes_call (takes_of rfl rfl rfl rfl) (fun _ _ _ _ h => h)) (pa_cons (pv 0) pa_nil)))
    (pss_cons (ps_if (pt_cmpR op_le (pe_ix ix_tup (pe_call GX (hr.mono (by decide)) rfl mX kX bX .nil pass0 (pa_cons (pe_ix ix_list (pv 1) pe_int (fun _ _ => rfl)) (pa_cons (pe_ix ix_list (pv 1) pe_int (fun _ _ => rfl)) pa_nil))) pe_int (fun _ _ => rfl)) pe_int (nomark _))
      (pss_one (ps_raise rfl (takes_of rfl rfl rfl rfl) (pmk_own PySem.F.excBase_ValueError TE.x TE.g TE.k (raises_own TE.b TE.t) (by exact rfl)))) pss_nil)
    (pss_one (ps_ret (pe_make T.m GI (hr.mono (by decide)) rfl T.g bI .nil pass0 (pa_cons (pe_ix ix_list (pv 1) pe_int (fun _ _ => rfl)) (pa_cons (pe_ix ix_list (pv 1) pe_int (fun _ _ => rfl)) (pa_cons (pe_ix ix_list (pv 1) pe_int (fun _ _ => rfl)) pa_nil)))))))), ?_⟩)
  · obtain ⟨x, ns, rfl, _⟩ := h
    rfl
  · obtain ⟨x, ns, rfl, hS, hz, kE, kQ⟩ := h
    refine ⟨_, rfl, x, _, rfl, .inl hS, _, _, rfl, rfl, (by show CMulW 3 4; unfold CMulW; decide +kernel), rfl, _, rfl, ?_⟩
    by_cases h12 : ns.length = 12
    · refine ifF (by rw [List.length_map, h12]; rfl) ?_
      refine ⟨_, rfl, x, ns, 3, rfl, hS, h12, by omega, fun hn H' s1 => kE (by unfold rd4; rw [hn]) H' s1, fun ps hps H1 g as s1 n1 h1 P1 => ?_⟩
      have lp := rp_len hps
      have hl : ps.length = 3 := by omega
      match ps, hl with
      | [o, u, v], _ =>
        have zz := rp_sz hps hz
        obtain ⟨_, ok⟩ := rp_ok hps
        have ha := P1.len
        match as, ha with
        | [xo, xu, xv], _ =>
          obtain ⟨po, pu, pv', _⟩ := P1
          have ou := ok u (by simp)
          have ov := ok v (by simp)
          have e1 : rd4 ns = if 0 < (Kzq1.cross u v).n then some (o, u, v) else none := by unfold rd4; rw [hps]
          refine ⟨_, rfl, g, _, 1, _, rfl, rfl, SqL.of h1, rfl, _, rfl, g, _, 2, _, rfl, rfl, SqL.of h1, rfl, xu, xv, u, v, 256, 256, rfl, pu, pv', ou, ov, zz u (by simp), zz v (by simp), by omega, fun H2 c s2 n2 f2 => ?_⟩
          refine ⟨c, _, 0, _, rfl, rfl, SqT.of f2, rfl, _, _, rfl, rfl, _, rfl, ?_⟩
          by_cases cc : (Kzq1.cross u v).n ≤ 0
          · refine ifT (decide_eq_true cc) (kE ?_ H2 (s1.trans s2))
            rw [e1, if_neg (by omega)]
          · refine ifF (decide_eq_false cc) ?_
            rw [if_pos (by omega)] at e1
            have h2 := s2 _ _ h1
            refine ⟨_, rfl, g, _, 0, _, rfl, rfl, SqL.of h2, rfl, _, rfl, g, _, 1, _, rfl, rfl, SqL.of h2, rfl, _, rfl, g, _, 2, _, rfl, rfl, SqL.of h2, rfl, fun t dx nt nd ne => ?_⟩
            refine ⟨t, dx, _, _, _, rfl, upd_same, fun H3 h3 k3 => ⟨rfl, ?_⟩⟩
            have s3 : Same H2 H3 := Same.made nt nd k3
            have s23 := s2.trans s3
            exact kQ o u v e1 H3 t (s1.trans s23) ⟨dx, xo, xu, xv, h3, po.mono s23, pu.mono s23, pv'.mono s23⟩
    · refine ifT ?_ (kE ?_ H (Same.refl H))
      · rw [List.length_map]
        have : ¬ (V.int (ns.length : Int) = V.int (3 * 4)) := fun z => by injection z with z; omega
        rw [decide_eq_false this]; rfl
      · unfold rd4
        cases hr' : Kzq1.readPoints ns with
        | none => rfl
        | some ps =>
          have l := rp_len hr'
          match ps, l with
          | [], _ => rfl
          | [_], _ => rfl
          | [_, _], _ => rfl
          | _ :: _ :: _ :: _ :: _, _ => rfl
          | [_, _, _], l => exact absurd (by simpa using l) h12
end
end ScA
namespace ScA
open PySem PySem.Spec PyProof.Rows L2
open Sc
section
variable {Pg : Program} {w : World} {K : PySem.W.Frag} {mg : Str → Option Value} {base : Heap} {CF CP CS fP fS C4 f4 : Addr}
def spSwp : Sp := fun vs H Q _ => ∃ (x : Addr) (k : Fr), vs = [.ref x] ∧ FrAt H x k ∧ Ok k ∧ Sz 256 k ∧ ¬ 60 * (k.d : Int) < (k.n.natAbs : Int) ∧ ∀ H' q, Same H H' → H q = none → H' q = some (.lst ((List.range (jCount k)).map fun (i : Nat) => V.int (jFirst k + (i : Int)))) → Q (.ref q) H'
theorem scSwp : FnScope ["k", "first", "last"] ["k"] (defScope s_slides_with_a_piece) := ⟨rfl, rfl, rfl, by decide +kernel, rfl, by decide +kernel, by decide +kernel⟩
theorem ok_swp {f : Addr} {fd : FuncData} (F : Fun K "slides_with_a_piece" "slides_with_a_piece" s_slides_with_a_piece f fd) (mMin : mg "min" = none) (mMax : mg "max" = none) (mList : mg "list" = none) (mRange : mg "range" = none) : FnOk Pg w K mg base CX0 1 f fd ["k"] spSwp := by
  refine F.ok scSwp (fun vs H Q E h => ?_) (fun cdv A outer s H vs Q E hr h => ⟨_,
    pss_cons (ps_set (i := 1) scSwp.nd rfl (Or.inl rfl) (pe_callB (call_min2 rfl) (by rfl) mMin (by decide +kernel) (pa_cons pe_int (pa_cons (pe_op op_fdivZ (pe_un un_neg (pe_ix ix_tup (pv 0) pe_int (fun _ _ => rfl))) (pe_ix ix_tup (pv 0) pe_int (fun _ _ => rfl))) pa_nil))))
    (pss_cons (ps_set (i := 2) scSwp.nd rfl (Or.inl rfl) (pe_callB (call_max2 rfl) (by rfl) mMax (by decide +kernel) (pa_cons pe_int (pa_cons (pe_un un_neg (pe_op op_fdivZ (pe_ix ix_tup (pv 0) pe_int (fun _ _ => rfl)) (pe_ix ix_tup (pv 0) pe_int (fun _ _ => rfl)))) pa_nil))))
    (pss_one (ps_ret (pe_listRg rfl (by rfl) mList (prg_2 (by rfl) mRange (pv 1) (pe_op op_add (pv 2) pe_int)))))), ?_⟩)
  · obtain ⟨x, k, rfl, _⟩ := h
    rfl
  · obtain ⟨x, k, rfl, hx, ok, zk, tm, q⟩ := h
    have d0 : (k.d : Int) ≠ 0 := by have := ok.1; omega
    have up : ∀ {z : Int}, z.natAbs < 2 ^ 256 → z.natAbs < 2 ^ 13500 := fun h1 => Nat.lt_of_lt_of_le h1 (Nat.pow_le_pow_right (by omega) (by omega))
    obtain ⟨b1, b2, b3, b4⟩ := jFirst_bd ok tm
    have e1 : (-k.n).fdiv (k.d : Int) = fl (Kzq1.neg k) := Int.fdiv_eq_ediv_of_nonneg _ (by omega)
    have e2 : k.n.fdiv (k.d : Int) = fl k := Int.fdiv_eq_ediv_of_nonneg _ (by omega)
    refine ⟨_, rfl, x, _, 0, _, rfl, rfl, SqT.of hx, rfl, _, rfl, _, rfl, x, _, 1, _, rfl, rfl, SqT.of hx, rfl, _, _, rfl, rfl, ⟨d0, up (by rw [Int.natAbs_neg]; exact zk.1)⟩, _, _, rfl, ?_⟩
    refine ⟨_, rfl, x, _, 0, _, rfl, rfl, SqT.of hx, rfl, _, rfl, x, _, 1, _, rfl, rfl, SqT.of hx, rfl, _, _, rfl, rfl, ⟨d0, up zk.1⟩, _, rfl, _, _, rfl, ?_⟩
    rw [e1, e2]
    have j1 : (if fl (Kzq1.neg k) < 0 then fl (Kzq1.neg k) else 0) = jFirst k := by unfold jFirst; split <;> omega
    have j2 : (if -fl k > 0 then -fl k else 0) = jLast k := by unfold jLast; split <;> omega
    refine ⟨_, rfl, _, rfl, _, _, rfl, rfl, _, _, rfl, rfl, ?_⟩
    rw [j1, j2]
    refine ⟨⟨by omega, by omega, by omega, by omega, by omega⟩, fun g ng => q _ g (Same.new ng) ng ?_⟩
    rw [upd_same]
    unfold rgV jCount
    have e : jLast k + 1 - jFirst k = jLast k - jFirst k + 1 := by omega
    rw [e]
end
end ScA
namespace ScA
open PySem PySem.Spec PyProof.Rows L2
open Sc
section
variable {Pg : Program} {w : World} {K : PySem.W.Frag} {mg : Str → Option Value} {base : Heap} {CF CT CP CS fP fS C4 f4 CO fO : Addr}
theorem ptAt_sz {o u v p : Pt} {m : Nat} (oo : OkP o) (ou : OkP u) (ov : OkP v) (op : OkP p) (zo : SzP 256 o) (zu : SzP 256 u) (zv : SzP 256 v) (zp : SzP m p) : SzP (2 * m + 800) (ptAt o u v p) := by
  have o1 := times_ok op.1 ou
  have o2 := times_ok op.2 ov
  have z1 : SzP (m + 256) (Kzq1.times p.x u) := ⟨mul_sz op.1 ou.1 zp.1 zu.1, mul_sz op.1 ou.2 zp.1 zu.2⟩
  have z2 : SzP (m + 256) (Kzq1.times p.y v) := ⟨mul_sz op.2 ov.1 zp.2 zv.1, mul_sz op.2 ov.2 zp.2 zv.2⟩
  exact (plus_sz oo (plus_ok o1 o2) zo (plus_sz o1 o2 z1 z2)).mono (by omega)
def spShp (C4 CP : Addr) : Sp := fun vs H Q _ => ∃ (t x : Addr) (o u v : Pt) (k : Fr) (j : Int), vs = [.ref t, .ref x, .int j] ∧ FourAt C4 H t o u v ∧ FrAt H x k ∧ (OkP o ∧ OkP u ∧ OkP v ∧ Ok k) ∧ (SzP 256 o ∧ SzP 256 u ∧ SzP 256 v ∧ Sz 256 k) ∧ ¬ 60 * (k.d : Int) < (k.n.natAbs : Int) ∧ jFirst k ≤ j ∧ j ≤ jLast k ∧
  ∀ H' q, Same H H' → H q = none → PartNew CP H H' q (shPart o u v k j) → Q (.ref q) H'
theorem scShp : FnScope ["told", "k", "j", "shares", "corners", "share"] ["told", "k", "j"] (defScope s_sheared_part) := ⟨rfl, rfl, rfl, by decide +kernel, rfl, by decide +kernel, by decide +kernel⟩
theorem ok_shp {f fC fQ fL fA fPc fSc : Addr} {fd fdC fdQ fdL fdA fdPc fdSc fdI fdO : FuncData} (F : Fun K "sheared_part" "sheared_part" s_sheared_part f fd) (T : ClsTxt K mg "FourSides" C4 f4 ["o", "u", "v"]) (TP : ClsTxt K mg "Part" CP fP ["piece", "turned", "slid"]) (TO : ClsTxt K mg "Outline" CO fO ["corners", "lines"])
    (GC : FnOk Pg w K mg base CX0 4 fC fdC ["one", "other"] (spCc CO)) (mC : mg "common_corners" = some (.ref fC)) (kC : PySem.W.keepIn K (.ref fC) = true) (bC : Binds K fdC ["one", "other"] [])
    (GQ : FnOk Pg w K mg base CX0 1 fQ fdQ [] spSqs) (mQ : mg "square_shares" = some (.ref fQ)) (kQ : PySem.W.keepIn K (.ref fQ) = true) (bQ : Binds K fdQ [] [])
    (GL : FnOk Pg w K mg base CX0 4 fL fdL ["k", "j"] spSls) (mL : mg "slid_shares" = some (.ref fL)) (kL : PySem.W.keepIn K (.ref fL) = true) (bL : Binds K fdL ["k", "j"] [])
    (GA : FnOk Pg w K mg base CX0 5 fA fdA ["told", "share"] (spPta C4)) (mA : mg "point_at" = some (.ref fA)) (kA : PySem.W.keepIn K (.ref fA) = true) (bA : Binds K fdA ["told", "share"] [])
    (GP : FnOk Pg w K mg base CX0 3 fPc fdPc ["corners"] spPc) (mP : mg "piece_of" = some (.ref fPc)) (kP' : PySem.W.keepIn K (.ref fPc) = true) (bP : Binds K fdPc ["corners"] [])
    (GS : FnOk Pg w K mg base CX0 4 fSc fdSc ["a", "factor"] spScaled) (mS : mg "scaled" = some (.ref fSc)) (kS : PySem.W.keepIn K (.ref fSc) = true) (bS : Binds K fdSc ["a", "factor"] [])
    (GI : FnOk Pg w K mg base CX0 1 fP fdI ["self", "piece", "turned", "slid"] (spPtI CP)) (bI : Binds K fdI ["self", "piece", "turned", "slid"] [])
    (GO : FnOk Pg w K mg base CX0 3 fO fdO ["self", "corners"] (spOuI CO)) (bO : Binds K fdO ["self", "corners"] []) :
    FnOk Pg w K mg base CX0 8 f fd ["told", "k", "j"] (spShp C4 CP) := by
  refine F.ok scShp (fun vs H Q E h => ?_) (fun cdv A outer s H vs Q E hr h => ⟨_,
    pss_cons (ps_set (i := 3) scShp.nd rfl (Or.inl rfl) (pe_call GC (hr.mono (by decide)) rfl mC kC bC .nil pass0 (pa_cons (pe_make TO.m GO (hr.mono (by decide)) rfl TO.g bO .nil pass0 (pa_cons (pe_call0 GQ (hr.mono (by decide)) rfl mQ kQ bQ .nil pass0) pa_nil)) (pa_cons (pe_make TO.m GO (hr.mono (by decide)) rfl TO.g bO .nil pass0 (pa_cons (pe_call GL (hr.mono (by decide)) rfl mL kL bL .nil pass0 (pa_cons (pv 1) (pa_cons (pv 2) pa_nil))) pa_nil)) pa_nil))))
    (pss_cons (ps_setLc (i := 4) (own := [("share", 5)]) (g := gName 5) (tt := tYes) rfl scShp.nd rfl rfl (sw_true rfl rfl rfl (by decide +kernel)) (pi_list (pv 3))
      (blkOk_by (own := [("share", 5)]) (N := ["told", "k", "j", "shares", "corners", "share"]) (sc := defScope s_sheared_part) (by decide +kernel))
      (fun _ _ _ _ _ => pg_name (i := 5) scShp.nd rfl (Or.inl rfl))
      (fun _ _ _ _ _ => pts_nil)
      (fun _ _ _ _ _ => pe_call GA (hr.mono (by decide)) rfl mA kA bA .nil pass0 (pa_cons (pv 0) (pa_cons (pv 5) pa_nil))))
    (pss_one (ps_ret (pe_make TP.m GI (hr.mono (by decide)) rfl TP.g bI .nil pass0 (pa_cons (pe_call GP (hr.mono (by decide)) rfl mP kP' bP .nil pass0 (pa_cons (pv 4) pa_nil)) (pa_cons pe_int (pa_cons (pe_call GS (hr.mono (by decide)) rfl mS kS bS .nil pass0 (pa_cons (pe_fld (pv 0) rfl) (pa_cons (pe_tup (pa_cons (pe_un un_neg (pv 2)) (pa_cons pe_int pa_nil))) pa_nil))) pa_nil))))))), ?_⟩)
  · obtain ⟨t, x, o, u, v, k, j, rfl, _⟩ := h
    rfl
  · obtain ⟨t, x, o, u, v, k, j, rfl, hT, hx, ⟨oo, ou, ov, ok⟩, ⟨zo, zu, zv, zk⟩, tm, j1, j2, q⟩ := h
    obtain ⟨b1, b2, b3, b4⟩ := jFirst_bd ok tm
    have hj : j.natAbs ≤ 61 := by omega
    have slz : ∀ z ∈ slP k j, SzP 270 z := fun z hz => by
      have zj : Sz 8 (Kzq1.whole j) := whole_sz (by omega) (by omega)
      have zj1 : Sz 8 (Kzq1.whole (j + 1)) := whole_sz (by omega) (by omega)
      have zo1 : Sz 2 one := whole_sz (by decide) (by omega)
      have zz : Sz 2 Kzq1.zero := ⟨by decide, by decide⟩
      have za := add_sz ok (whole_ok j) zk zj
      have zb := add_sz (add_ok ok (whole_ok j)) one_ok za zo1
      unfold slP at hz
      simp only [List.mem_cons, List.not_mem_nil, or_false] at hz
      rcases hz with rfl | rfl | rfl | rfl
      · exact ⟨zj.mono (by omega), zz.mono (by omega)⟩
      · exact ⟨zj1.mono (by omega), zz.mono (by omega)⟩
      · exact ⟨zb.mono (by omega), zo1.mono (by omega)⟩
      · exact ⟨za.mono (by omega), zo1.mono (by omega)⟩
    have sqz : ∀ z ∈ sqP, SzP 270 z := fun z hz => by
      have zo1 : Sz 2 one := whole_sz (by decide) (by omega)
      have zz : Sz 2 Kzq1.zero := ⟨by decide, by decide⟩
      unfold sqP at hz
      simp only [List.mem_cons, List.not_mem_nil, or_false] at hz
      rcases hz with rfl | rfl | rfl | rfl
      · exact ⟨zz.mono (by omega), zz.mono (by omega)⟩
      · exact ⟨zo1.mono (by omega), zz.mono (by omega)⟩
      · exact ⟨zo1.mono (by omega), zo1.mono (by omega)⟩
      · exact ⟨zz.mono (by omega), zo1.mono (by omega)⟩
    refine ⟨rfl, fun H1 g1 as1 s1 n1 h1 P1 => ?_⟩
    intro y1 d1 ny1 nd1 ne1
    have sm1 : Same H1 (upd (upd H1 d1 (.own y1)) y1 (.ins CO d1 [])) := (Same.new nd1).trans (Same.new (by rw [upd_ne (Ne.symm ne1)]; exact ny1))
    refine ⟨y1, d1, g1, as1, sqP, 270, rfl, upd_same, sm1 _ _ h1, PtsAt.tu (Tu.of sm1) P1, sq_piece.ok, sqz, by omega, (by show 4 ≤ 1000; decide), fun H1b o1 k1 => ⟨rfl, ?_⟩⟩
    have s1b : Same H1 H1b := Same.made ny1 nd1 k1
    have v1 := s1.trans s1b
    refine ⟨_, rfl, _, rfl, x, k, j, rfl, hx.mono v1, ok, zk, hj, fun H2 g2 as2 s2 n2 h2 P2 => ?_⟩
    intro y2 d2 ny2 nd2 ne2
    have sm2 : Same H2 (upd (upd H2 d2 (.own y2)) y2 (.ins CO d2 [])) := (Same.new nd2).trans (Same.new (by rw [upd_ne (Ne.symm ne2)]; exact ny2))
    refine ⟨y2, d2, g2, as2, slP k j, 270, rfl, upd_same, sm2 _ _ h2, PtsAt.tu (Tu.of sm2) P2, (sl_piece ok j).ok, slz, by omega, (by show 4 ≤ 1000; decide), fun H2b o2 k2 => ⟨rfl, ?_⟩⟩
    have s2b : Same H2 H2b := Same.made ny2 nd2 k2
    have v2 := s2.trans s2b
    have pre := shear_pref ok zk hj ⟨j1, j2⟩
    have cl := common_len (k := k) (j := j)
    refine ⟨y1, y2, sqP, slP k j, 540, rfl, o1.out.mono v2, o2.out, ⟨sq_piece, sl_piece ok j⟩, fun z hz => trP_sz (sqz z hz), fun z hz => trP_sz (slz z hz), by omega, (by show 4 + 2 * 4 ≤ 1000; decide), fun H3 g3 as3 s3 _ h3 P3 => ?_⟩
    have u3 := (v1.trans v2).trans s3
    have l3 := P3.len
    have p4 := pre 4 (by omega)
    have ep : prefP sqP (slP k j) 4 = commonP sqP (slP k j) := rfl
    rw [ep] at p4
    generalize hcc : commonP sqP (slP k j) = cc at *
    refine ⟨_, rfl, g3, rfl, ⟨_, SqL.of h3⟩, fun D nD => ?_⟩
    refine lc_list (K := K) (a := g3) (xs := as3.map V.ref) (fun i H' => Same H3 H' ∧ ∃ as', H' D = some (.lst (as'.map V.ref)) ∧ PtsAt H' as' ((cc.map (ptAt o u v)).take i)) ?_ ?_ ?_ ?_
    · exact ⟨Same.new nD, [], upd_same, trivial⟩
    · rintro i H4 _ ⟨s4, _⟩
      exact SqL.of (s4 _ _ h3)
    · rintro i y H4 hi ⟨s4, as', hD4, hP4⟩
      obtain ⟨y', hy, rfl⟩ : ∃ b, as3[i]? = some b ∧ y = V.ref b := by
        rw [List.getElem?_map] at hi
        cases e : as3[i]? with
        | none => rw [e] at hi; cases hi
        | some z => rw [e] at hi; exact ⟨z, rfl, (Option.some.inj hi).symm⟩
      obtain ⟨p, hp, pa⟩ := P3.at hy
      have hil := (List.getElem?_eq_some_iff.mp hp).1
      refine ⟨rfl, ?_⟩
      unfold tYes
      refine ifT rfl ?_
      refine ⟨_, rfl, _, rfl, t, y', o, u, v, p, 527, rfl, hT.mono (u3.trans s4), pa.mono s4, ⟨oo, ou, ov, p4.1.ok p (List.mem_of_getElem? hp)⟩, ⟨zo, zu, zv, p4.2 p (List.mem_of_getElem? hp)⟩, by omega, fun H5 c5 s5 n5 f5 => ?_⟩
      have hD5 := s5 _ _ hD4
      have t6 : Tu H5 (upd H5 D (.lst (as'.map V.ref ++ [V.ref c5]))) := Tu.lst hD5
      have l1 := hP4.len
      rw [List.length_take, List.length_map] at l1
      refine ⟨_, hD5, ?_, ?_, as' ++ [c5], ?_, ?_⟩
      · rw [List.length_map, szl]; omega
      · intro b' o' e
        rw [upd_ne (ne_of_none e nD)]
        exact s5 _ _ (s4 _ _ e)
      · rw [upd_same, List.map_append]; rfl
      · have gm : (cc.map (ptAt o u v))[i]? = some (ptAt o u v p) := by rw [List.getElem?_map, hp]; rfl
        rw [take_more gm]
        exact PtsAt.snoc (f5.tu t6) (PtsAt.tu ((Tu.of s5).trans t6) hP4)
    · rintro H4 ⟨s4, as', hD4, hP4⟩
      rw [List.length_map, l3, ← List.length_map (f := ptAt o u v), List.take_length] at hP4
      have u4 := u3.trans s4
      refine ⟨_, rfl, D, as', _, 2000, rfl, hD4, hP4, fun z hz => ?_, by omega, by rw [List.length_map]; omega, fun H5 g5 as5 s5 n5 h5 P5 => ?_⟩
      · obtain ⟨p, hp, rfl⟩ := List.mem_map.mp hz
        exact (ptAt_sz oo ou ov (p4.1.ok p hp) zo zu zv (p4.2 p hp)).mono (by omega)
      have u5 := u4.trans s5
      obtain ⟨dx, xo, xu, xv, ht, ho, hu, hv⟩ := hT.mono u5
      refine ⟨_, rfl, t, C4, dx, _, _, rfl, ht, T.cl, T.n _ (by simp), fs_u, _, rfl, _, rfl, (by show 2 ≤ sizeLine; decide), fun g6 n6 => ?_⟩
      have s6 := Same.new (o := .tup [.int (-j), .int 1]) n6
      have zj : Sz 8 (Kzq1.whole (-j)) := whole_sz (by omega) (by omega)
      refine ⟨xu, g6, u, Kzq1.whole (-j), 256, 8, rfl, hu.mono s6, upd_same, ou, whole_ok _, zu, zj, by omega, fun H7 g7 s7 n7 f7 => ?_⟩
      intro y1 d1 nx1 nd1 ne1
      refine ⟨y1, d1, _, _, _, rfl, upd_same, fun H8 h8 k8 => ⟨rfl, ?_⟩⟩
      have s8 : Same H7 H8 := Same.made nx1 nd1 k8
      have u7 := u5.trans (s6.trans s7)
      have e5 := (s6.trans s7).trans s8
      refine q H8 y1 (u7.trans s8) (u7.free nx1) ⟨d1, g5, g7, as5, h8, e5 _ _ h5, ?_, f7.mono s8, u4.free n5⟩
      show PtsAt H8 as5 (pieceOf ((commonP sqP (slP k j)).map (ptAt o u v)))
      rw [hcc]
      exact PtsAt.tu (Tu.of e5) P5
/-! sheared -/
def spShd (CT C4 CP : Addr) : Sp := fun vs H Q E => ∃ (t x : Addr) (o u v : Pt) (k : Fr), vs = [.ref t, .ref x] ∧ FourAt C4 H t o u v ∧ FrAt H x k ∧ (OkP o ∧ OkP u ∧ OkP v ∧ Ok k) ∧ (SzP 256 o ∧ SzP 256 u ∧ SzP 256 v ∧ Sz 256 k) ∧ (60 * (k.d : Int) < (k.n.natAbs : Int) → E (.ref CT) none H) ∧
  (¬ 60 * (k.d : Int) < (k.n.natAbs : Int) → ∀ H' q as, Same H H' → H' q = some (.lst (as.map V.ref)) → PartsAt CP H' as (shParts o u v k) → Q (.ref q) H')
theorem scShd : FnScope ["told", "k", "j"] ["told", "k"] (defScope s_sheared) := ⟨rfl, rfl, rfl, by decide +kernel, rfl, by decide +kernel, by decide +kernel⟩
theorem ok_shd {f fS2 fQ : Addr} {fd fdS fdQ : FuncData} (F : Fun K "sheared" "sheared" s_sheared f fd) (TT : ErrTx "TooMuch" K mg CT) (mAbs : mg "abs" = none) {tMS : Tok} (mMS : mg "MOST_SHEARED" = some (.int 60 tMS))
    (GS : FnOk Pg w K mg base CX0 8 fS2 fdS ["told", "k", "j"] (spShp C4 CP)) (mS : mg "sheared_part" = some (.ref fS2)) (kS : PySem.W.keepIn K (.ref fS2) = true) (bS : Binds K fdS ["told", "k", "j"] [])
    (GQ : FnOk Pg w K mg base CX0 1 fQ fdQ ["k"] spSwp) (mQ : mg "slides_with_a_piece" = some (.ref fQ)) (kQ : PySem.W.keepIn K (.ref fQ) = true) (bQ : Binds K fdQ ["k"] []) :
    FnOk Pg w K mg base (L2.CX Pg w) 9 f fd ["told", "k"] (spShd CT C4 CP) := by
  refine F.okX scShd (fun vs H Q E h => ?_) (fun cdv A outer s H vs Q E hr h => ⟨_,
    pss_cons (ps_if (pt_cmpR op_gt (pe_callB call_abs (by rfl) mAbs (by decide +kernel) (pa_cons (pe_ix ix_tup (pv 1) pe_int (fun _ _ => rfl)) pa_nil)) (pe_op op_mulW (pe_glob (v := V.int 60) rfl mMS ⟨_, rfl⟩) (pe_ix ix_tup (pv 1) pe_int (fun _ _ => rfl))) (nomark _))
      (pss_one (ps_raise rfl (takes_of rfl rfl rfl rfl) (pmk_own PySem.F.excBase_ValueError TT.x TT.g TT.k (raises_own TT.b TT.t) (by exact rfl)))) pss_nil)
    (pss_one (ps_ret (pe_lc (own := [("j", 2)]) (g := gName 2) (tt := tYes) rfl scShd.nd (pi_list (pe_call GQ (hr.mono (by decide)) rfl mQ kQ bQ .nil pass0 (pa_cons (pv 1) pa_nil)))
      (blkOk_by (own := [("j", 2)]) (N := ["told", "k", "j"]) (sc := defScope s_sheared) (by decide +kernel))
      (fun _ _ _ _ _ => pg_name (i := 2) scShd.nd rfl (Or.inl rfl))
      (fun _ _ _ _ _ => pts_nil)
      (fun _ _ _ _ _ => pe_call GS hr rfl mS kS bS .nil pass0 (pa_cons (pv 0) (pa_cons (pv 1) (pa_cons (pv 2) pa_nil))))))), ?_⟩)
  · obtain ⟨t, x, o, u, v, k, rfl, _⟩ := h
    rfl
  · obtain ⟨t, x, o, u, v, k, rfl, hT, hx, ⟨oo, ou, ov, ok⟩, ⟨zo, zu, zv, zk⟩, kE, kQ⟩ := h
    have t60 : (60 : Int).natAbs < 2 ^ 6 := by decide
    have dz : ((k.d : Int)).natAbs < 2 ^ 256 := by simpa using zk.2
    refine ⟨_, rfl, x, _, 0, _, rfl, rfl, SqT.of hx, rfl, _, rfl, _, rfl, x, _, 1, _, rfl, rfl, SqT.of hx, rfl, _, _, rfl, rfl, wmul t60 dz (by omega), _, _, rfl, rfl, _, rfl, ?_⟩
    have ea : (if k.n < 0 then -k.n else k.n) = (k.n.natAbs : Int) := by split <;> omega
    rw [ea]
    by_cases tm : 60 * (k.d : Int) < (k.n.natAbs : Int)
    · exact ifT (decide_eq_true tm) (kE tm)
    · refine ifF (decide_eq_false tm) ?_
      have kQ := kQ tm
      obtain ⟨b1, b2, b3, b4⟩ := jFirst_bd ok tm
      have jc : jCount k ≤ 121 := by unfold jCount; omega
      refine ⟨_, rfl, x, k, rfl, hx, ok, zk, tm, fun H1 g1 s1 n1 h1 => ?_⟩
      refine ⟨g1, rfl, ⟨_, SqL.of h1⟩, fun D nD => ?_⟩
      refine lc_list (K := K) (a := g1) (xs := (List.range (jCount k)).map fun (i : Nat) => V.int (jFirst k + (i : Int))) (fun i H' => Same H1 H' ∧ ∃ as', H' D = some (.lst (as'.map V.ref)) ∧ LsAt (PartX CP D) H' as' ((shParts o u v k).take i)) ?_ ?_ ?_ ?_
      · exact ⟨Same.new nD, [], upd_same, trivial⟩
      · rintro i H2 _ ⟨s2, _⟩
        exact SqL.of (s2 _ _ h1)
      · rintro i y H2 hi ⟨s2, as', hD2, hP2⟩
        have hil : i < jCount k := by
          have := (List.getElem?_eq_some_iff.mp hi).1
          rw [List.length_map, List.length_range] at this
          exact this
        obtain rfl : V.int (jFirst k + (i : Int)) = y := by
          rw [List.getElem?_map, List.getElem?_range hil] at hi
          exact Option.some.inj hi
        have u2 := s1.trans s2
        refine ⟨rfl, ?_⟩
        unfold tYes
        refine ifT rfl ?_
        refine ⟨_, rfl, _, rfl, _, rfl, t, x, o, u, v, k, _, rfl, hT.mono u2, hx.mono u2, ⟨oo, ou, ov, ok⟩, ⟨zo, zu, zv, zk⟩, tm, by omega, by unfold jCount at hil; omega, fun H3 p3 s3 n3 P3 => ?_⟩
        have hD3 := s3 _ _ hD2
        have l1 := hP2.len
        have ls : (shParts o u v k).length = jCount k := by unfold shParts; rw [List.length_map, List.length_range]
        rw [List.length_take, ls] at l1
        refine ⟨_, hD3, ?_, ?_, as' ++ [p3], ?_, ?_⟩
        · rw [List.length_map, szl]; omega
        · intro b' o' e
          rw [upd_ne (ne_of_none e nD)]
          exact s3 _ _ (s2 _ _ e)
        · rw [upd_same, List.map_append]; rfl
        · have gm : (shParts o u v k)[i]? = some (shPart o u v k (jFirst k + (i : Int))) := by
            unfold shParts
            rw [List.getElem?_map, List.getElem?_range hil]; rfl
          rw [take_more gm]
          exact LsAt.snoc ((P3.x hD2).up hD3) (LsAt.tu (fun a p h => (h.mono s3).up hD3) hP2)
      · rintro H2 ⟨s2, as', hD2, hP2⟩
        have ls : (shParts o u v k).length = jCount k := by unfold shParts; rw [List.length_map, List.length_range]
        rw [List.length_map, List.length_range, ← ls, List.take_length] at hP2
        exact kQ H2 D as' (s1.trans s2) hD2 (PartsAt.of hP2)
end
end ScA
namespace ScA
open PySem PySem.Spec PyProof.Rows L2
open Sc
section
variable {Pg : Program} {w : World} {K : PySem.W.Frag} {mg : Str → Option Value} {base : Heap} {CF CT CP CS fP fS C4 f4 : Addr}
theorem begun_len (l : List Pt) : (Kzq1.begunWith l).length = l.length := by
  rw [begun_fst, List.length_append, List.length_drop, List.length_take]; omega
theorem piece_len (l : List Pt) : (pieceOf l).length ≤ l.length := by
  unfold pieceOf
  rw [begun_len, ← unl_all]
  exact unl_len l _
theorem rdQ1_ok {l : List Int} {q : Fr} (h : rdQ1 l = some q) (hz : ∀ z ∈ l, z.natAbs < 2 ^ 256) : Ok q ∧ Sz 256 q := by
  obtain ⟨n, d, rfl, e⟩ := rdQ1_len h
  obtain ⟨o, e1, e2⟩ := readQ_ok e
  have k1 := hz n (by simp)
  have k2 := hz d (by simp)
  rw [← e1] at k1
  rw [← e2, Int.natAbs_natCast] at k2
  exact ⟨o, k1, k2⟩
def spShr (K : PySem.W.Frag) : Sp := fun vs H Q _ => ∃ (x y : Addr) (gs ks : List Int), vs = [.ref x, .ref y] ∧ SqL K H x (gs.map V.int) ∧ SqL K H y (ks.map V.int) ∧ (∀ z ∈ gs, z.natAbs < 2 ^ 256) ∧ (∀ z ∈ ks, z.natAbs < 2 ^ 256) ∧
  ∀ (H' : Hp) (p : Addr), H' p = some (.lst ((PyKzq2.shear gs ks).map V.int)) → Q (.ref p) H'
theorem scShr : FnScope ["g", "k", "parts"] ["g", "k"] (defScope s_shear) := ⟨rfl, rfl, rfl, by decide +kernel, rfl, by decide +kernel, by decide +kernel⟩
theorem ok_shr {f fR fQ fH fC : Addr} {fd fdR fdQ fdH fdC : FuncData} (F : Fun K "shear" "shear" s_shear f fd) (TE : ErrTxt K mg CF) (TT : ErrTx "TooMuch" K mg CT) (xo : PySem.W.exmOne K (.ref CT) (.ref CF) = some false)
    (GH : FnOk Pg w K mg base (L2.CX Pg w) 9 fH fdH ["told", "k"] (spShd CT C4 CP)) (mH : mg "sheared" = some (.ref fH)) (kH : PySem.W.keepIn K (.ref fH) = true) (bH : Binds K fdH ["told", "k"] [])
    (GR : FnOk Pg w K mg base (L2.CX Pg w) 6 fR fdR ["numbers"] (spR4 K CF C4)) (mR : mg "read_four_sides" = some (.ref fR)) (kR : PySem.W.keepIn K (.ref fR) = true) (bR : Binds K fdR ["numbers"] [])
    (GQ : FnOk Pg w K mg base (L2.CX Pg w) 3 fQ fdQ ["numbers"] (spRr K CF)) (mQ : mg "read_ratio" = some (.ref fQ)) (kQ : PySem.W.keepIn K (.ref fQ) = true) (bQ : Binds K fdQ ["numbers"] [])
    (GC : FnOk Pg w K mg base CX0 3 fC fdC ["parts"] (spCa CP)) (mC : mg "cutting_answer" = some (.ref fC)) (kC : PySem.W.keepIn K (.ref fC) = true) (bC : Binds K fdC ["parts"] []) :
    FnOk Pg w K mg base CX0 12 f fd ["g", "k"] (spShr K) := by
  refine F.ok scShr (fun vs H Q E h => ?_) (fun cdv A outer s H vs Q E hr h => ⟨_,
    pss_cons (ps_try_many (tb := fun W => tAsg (tCallS (spShd CT C4 CP) (WE W) (tCons (tCallS (spR4 K CF C4) (WE W) (tCons (tVar 0) tNil)) (tCons (tCallS (spRr K CF) (WE W) (tCons (tVar 1) tNil)) tNil))) (gName 2)) (Wout := fun _ _ _ _ => False) rfl rfl takes0
      (fun W pn xe tk _ => pss_one (ps_set (i := 2) scShr.nd rfl (Or.inl rfl) (by exact (pe_callS GH (hr.mono (by decide)) rfl mH kH bH (fun σ => passAt tk σ) (by exact (pa_cons (pe_callS GR (hr.mono (by decide)) rfl mR kR bR (fun σ => passAt tk σ) (by exact (pa_cons (pv 0) pa_nil)))
        (pa_cons (pe_callS GQ (hr.mono (by decide)) rfl mQ kQ bQ (fun σ => passAt tk σ) (by exact (pa_cons (pv 1) pa_nil))) pa_nil)))))))
      (HdsOk.cons ⟨rfl, by decide, Or.inl TE.g⟩ (fun _ _ _ _ _ _ _ => pss_one (ps_ret (pe_lst (pa_cons (pe_un un_neg pe_int) pa_nil))))
        (HdsOk.cons ⟨rfl, by decide, Or.inl TT.g⟩ (fun _ _ _ _ _ _ _ => pss_one (ps_ret (pe_lst (pa_cons (pe_un un_neg pe_int) pa_nil)))) HdsOk.nil)))
    (pss_one (ps_ret (pe_call GC (hr.mono (by decide)) rfl mC kC bC .nil pass0 (pa_cons (pv 2) pa_nil)))), ?_⟩)
  · obtain ⟨x, y, gs, ks, rfl, _⟩ := h
    rfl
  · obtain ⟨x, y, gs, ks, rfl, hS, hS2, hz, hz2, k⟩ := h
    have e0 := shear_eq gs ks
    have bad : ∀ {H' : Hp}, PyKzq2.shear gs ks = [-22] → ∀ p, H' p = none → Q (.ref p) (upd H' p (.lst [V.int (-22)])) := fun {H'} e p _ => k _ p (by rw [e]; exact upd_same)
    refine ⟨_, rfl, x, gs, rfl, hS, hz, fun hn H' s1 => ?_, fun o u v he H1 t s1 fa => ?_⟩
    · refine ⟨true, TE.e, fun _ a0 _ => ?_, fun z => Bool.noConfusion z⟩
      rw [hn] at e0
      refine ⟨_, rfl, (by show 1 ≤ sizeLine; decide), fun p np => ?_⟩
      exact bad e0 p np
    · rw [he] at e0
      obtain ⟨hr4, ⟨oo, ou, ov⟩, hd⟩ := rd4_ok he
      have zz := rp_sz hr4 hz
      refine ⟨_, rfl, y, ks, rfl, s1.seq hS2, fun hn => ?_, fun q hq H2 xq s2 n2 f2 => ?_⟩
      · refine ⟨true, TE.e, fun _ a0 _ => ?_, fun z => Bool.noConfusion z⟩
        rw [hn] at e0
        refine ⟨_, rfl, (by show 1 ≤ sizeLine; decide), fun p np => ?_⟩
        exact bad e0 p np
      · rw [hq] at e0
        dsimp only at e0
        obtain ⟨oq, zq⟩ := rdQ1_ok hq hz2
        refine ⟨t, xq, o, u, v, q, rfl, fa.mono s2, f2, ⟨oo, ou, ov, oq⟩, ⟨zz o (by simp), zz u (by simp), zz v (by simp), zq⟩, fun tm => ?_, fun tm H3 g as s3 h3 P3 => ?_⟩
        · refine ⟨false, xo, fun z => Bool.noConfusion z, fun _ => ⟨true, TT.e, fun _ a0 _ => ?_, fun z => Bool.noConfusion z⟩⟩
          rw [if_pos tm] at e0
          refine ⟨_, rfl, (by show 1 ≤ sizeLine; decide), fun p np => ?_⟩
          refine k _ p ?_
          rw [e0]; exact upd_same
        · rw [if_neg tm] at e0
          obtain ⟨b1, b2, b3, b4⟩ := jFirst_bd oq tm
          refine ⟨_, rfl, g, as, _, rfl, h3, P3, ?_, fun p hp => ?_, fun H4 g4 s4 n4 h4 => k H4 g4 ?_⟩
          · unfold shParts jCount
            rw [List.length_map, List.length_range]; omega
          · unfold shParts at hp
            obtain ⟨i, _, rfl⟩ := List.mem_map.mp hp
            refine Nat.le_trans (piece_len _) ?_
            unfold shPiece
            rw [List.length_map]
            have := common_len (k := q) (j := jFirst q + (i : Int))
            omega
          · rw [h4, e0]
end
end ScA
namespace ScA
open PySem PySem.Spec PyProof.Rows L2
open Sc
open PySem.W (Codec)
/-- what the codec says of the numbers that are handed in -/
theorem int_bd {l : List Int} {n m : Nat} {b : Bool} (h : ((Codec.inLen n m l && l.all (Codec.inInt (Int.negSucc 115792089237316195423570985008687907853269984665640564039457584007913129639934) (Int.ofNat 115792089237316195423570985008687907853269984665640564039457584007913129639935))) && b) = true) : ∀ z ∈ l, z.natAbs < 2 ^ 256 := by
  intro z hz
  rw [Bool.and_eq_true, Bool.and_eq_true] at h
  have k := List.all_eq_true.mp h.1.2 z hz
  unfold Codec.inInt at k
  rw [Bool.and_eq_true, decide_eq_true_eq, decide_eq_true_eq] at k
  have e : (2 : Nat) ^ 256 = 115792089237316195423570985008687907853269984665640564039457584007913129639936 := by decide +kernel
  have k1 : -(115792089237316195423570985008687907853269984665640564039457584007913129639935 : Int) ≤ z := k.1
  have k2 : z ≤ (115792089237316195423570985008687907853269984665640564039457584007913129639935 : Int) := k.2
  rw [e]
  omega
theorem bd_snd {a b : Bool} (h : (a && b) = true) : b = true := (Bool.and_eq_true _ _ ▸ h).2
theorem int_ln {l : List Int} {n m : Nat} {b c : Bool} (h : ((Codec.inLen n m l && c) && b) = true) : l.length ≤ m := by
  rw [Bool.and_eq_true, Bool.and_eq_true] at h
  have k := h.1.1
  unfold Codec.inLen Codec.inNat at k
  rw [Bool.and_eq_true, decide_eq_true_eq, decide_eq_true_eq] at k
  exact k.2
/-! the end -/
theorem exm_own {K : PySem.W.Frag} {T S : Addr} {b : Bool} (h1 : PySem.W.subIn K (.ref S) (.type "BaseException") = some true) (h2 : PySem.W.isClsIn K S = true) (h3 : PySem.W.typeIn K (.ref S) = some (.type "type"))
    (h4 : PySem.W.subIn K (.ref T) (.ref S) = some b) : PySem.W.exmOne K (.ref T) (.ref S) = some b := by
  have u1 : (PySem.W.subIn K (.ref S) (.type "BaseException") == some true) = true := by rw [h1] <;> rfl
  have u2 : ((PySem.W.clsIn K S).isSome && PySem.W.typeIn K (.ref S) == some (.type "type")) = true := by
    have h2x : (PySem.W.clsIn K S).isSome = true := h2
    rw [h2x, h3] <;> rfl
  show (if (PySem.W.subIn K (.ref S) (.type "BaseException") == some true) = true then (if ((PySem.W.clsIn K S).isSome && PySem.W.typeIn K (.ref S) == some (.type "type")) = true then PySem.W.subIn K (.ref T) (.ref S) else none)
    else none) = some b
  rw [if_pos u1, if_pos u2]; exact h4
theorem all_mk {Pg : Program} {w : World} {K : PySem.W.Frag} {h : Heap} {mg : Str → Option Value} {fa f_cm f_isr f_rr f_rat f_plus f_minus f_times f_less f_ob f_pf f_lb f_lt f_ol f_cc f_ic f_hn f_lc f_cr f_rp f_rps f_pn f_ps f_scaled f_cross f_bef f_cn f_pc f_r4 f_shd f_swp f_shp f_sqs f_sls f_pta f_shr f_ca C_ouI f_ouI C_ptI f_ptI C_fsI f_fsI C_err C_tm : Addr} (X : K.In h) (G : h.Ns mainGlobals mg) (hfa : mg "shear" = some (.ref fa))
    {od_cm an_cm od_isr an_isr od_rr an_rr od_rat an_rat od_plus an_plus od_minus an_minus od_times an_times od_less an_less od_ob an_ob od_pf an_pf od_lb an_lb od_lt an_lt od_ol an_ol od_cc an_cc od_ic an_ic od_hn an_hn od_lc an_lc od_cr an_cr od_rp an_rp od_rps an_rps od_pn an_pn od_ps an_ps od_scaled an_scaled od_cross an_cross od_bef an_bef od_cn an_cn od_pc an_pc od_r4 an_r4 od_shd an_shd od_swp an_swp od_shp an_shp od_sqs an_sqs od_sls an_sls od_pta an_pta od_shr an_shr od_ca an_ca od_ouI an_ouI od_ptI an_ptI od_fsI an_fsI : Option Addr} {sl_cm sl_isr sl_rr sl_rat sl_plus sl_minus sl_times sl_less sl_ob sl_pf sl_lb sl_lt sl_ol sl_cc sl_ic sl_hn sl_lc sl_cr sl_rp sl_rps sl_pn sl_ps sl_scaled sl_cross sl_bef sl_cn sl_pc sl_r4 sl_shd sl_swp sl_shp sl_sqs sl_sls sl_pta sl_shr sl_ca sl_ouI sl_ptI sl_fsI : Array (Option Value)} {oc_cm kV_cm dc_cm pm_cm cd_cm ct_cm oc_isr kV_isr dc_isr pm_isr cd_isr ct_isr oc_rr kV_rr dc_rr pm_rr cd_rr ct_rr oc_rat kV_rat dc_rat pm_rat cd_rat ct_rat oc_plus kV_plus dc_plus pm_plus cd_plus ct_plus oc_minus kV_minus dc_minus pm_minus cd_minus ct_minus oc_times kV_times dc_times pm_times cd_times ct_times oc_less kV_less dc_less pm_less cd_less ct_less oc_ob kV_ob dc_ob pm_ob cd_ob ct_ob oc_pf kV_pf dc_pf pm_pf cd_pf ct_pf oc_lb kV_lb dc_lb pm_lb cd_lb ct_lb oc_lt kV_lt dc_lt pm_lt cd_lt ct_lt oc_ol kV_ol dc_ol pm_ol cd_ol ct_ol oc_cc kV_cc dc_cc pm_cc cd_cc ct_cc oc_ic kV_ic dc_ic pm_ic cd_ic ct_ic oc_hn kV_hn dc_hn pm_hn cd_hn ct_hn oc_lc kV_lc dc_lc pm_lc cd_lc ct_lc oc_cr kV_cr dc_cr pm_cr cd_cr ct_cr oc_rp kV_rp dc_rp pm_rp cd_rp ct_rp oc_rps kV_rps dc_rps pm_rps cd_rps ct_rps oc_pn kV_pn dc_pn pm_pn cd_pn ct_pn oc_ps kV_ps dc_ps pm_ps cd_ps ct_ps oc_scaled kV_scaled dc_scaled pm_scaled cd_scaled ct_scaled oc_cross kV_cross dc_cross pm_cross cd_cross ct_cross oc_bef kV_bef dc_bef pm_bef cd_bef ct_bef oc_cn kV_cn dc_cn pm_cn cd_cn ct_cn oc_pc kV_pc dc_pc pm_pc cd_pc ct_pc oc_r4 kV_r4 dc_r4 pm_r4 cd_r4 ct_r4 oc_shd kV_shd dc_shd pm_shd cd_shd ct_shd oc_swp kV_swp dc_swp pm_swp cd_swp ct_swp oc_shp kV_shp dc_shp pm_shp cd_shp ct_shp oc_sqs kV_sqs dc_sqs pm_sqs cd_sqs ct_sqs oc_sls kV_sls dc_sls pm_sls cd_sls ct_sls oc_pta kV_pta dc_pta pm_pta cd_pta ct_pta oc_shr kV_shr dc_shr pm_shr cd_shr ct_shr oc_ca kV_ca dc_ca pm_ca cd_ca ct_ca oc_ouI kV_ouI dc_ouI pm_ouI cd_ouI ct_ouI oc_ptI kV_ptI dc_ptI pm_ptI cd_ptI ct_ptI oc_fsI kV_fsI dc_fsI pm_fsI cd_fsI ct_fsI : Value} {t_RL t_PL t_MS : Tok}
    (a_cm : PySem.W.nsIn K mainGlobals "common_measure" = some (some (.ref f_cm)))
    (l_cm : K.lookup f_cm = some ⟨oc_cm, od_cm, .func (PySem.W.fnOf "common_measure" "common_measure" (defArgs s_common_measure) (defBody s_common_measure) (defScope s_common_measure) .none kV_cm dc_cm pm_cm an_cm cd_cm ct_cm), sl_cm⟩)
    (c_cm : PySem.W.codeIn K cd_cm "common_measure" = true)
    (k_cm : PySem.W.keepIn K (.ref f_cm) = true)
    (a_isr : PySem.W.nsIn K mainGlobals "is_ratio" = some (some (.ref f_isr)))
    (l_isr : K.lookup f_isr = some ⟨oc_isr, od_isr, .func (PySem.W.fnOf "is_ratio" "is_ratio" (defArgs s_is_ratio) (defBody s_is_ratio) (defScope s_is_ratio) .none kV_isr dc_isr pm_isr an_isr cd_isr ct_isr), sl_isr⟩)
    (c_isr : PySem.W.codeIn K cd_isr "is_ratio" = true)
    (k_isr : PySem.W.keepIn K (.ref f_isr) = true)
    (a_rr : PySem.W.nsIn K mainGlobals "read_ratio" = some (some (.ref f_rr)))
    (l_rr : K.lookup f_rr = some ⟨oc_rr, od_rr, .func (PySem.W.fnOf "read_ratio" "read_ratio" (defArgs s_read_ratio) (defBody s_read_ratio) (defScope s_read_ratio) .none kV_rr dc_rr pm_rr an_rr cd_rr ct_rr), sl_rr⟩)
    (c_rr : PySem.W.codeIn K cd_rr "read_ratio" = true)
    (k_rr : PySem.W.keepIn K (.ref f_rr) = true)
    (a_rat : PySem.W.nsIn K mainGlobals "ratio" = some (some (.ref f_rat)))
    (l_rat : K.lookup f_rat = some ⟨oc_rat, od_rat, .func (PySem.W.fnOf "ratio" "ratio" (defArgs s_ratio) (defBody s_ratio) (defScope s_ratio) .none kV_rat dc_rat pm_rat an_rat cd_rat ct_rat), sl_rat⟩)
    (c_rat : PySem.W.codeIn K cd_rat "ratio" = true)
    (k_rat : PySem.W.keepIn K (.ref f_rat) = true)
    (a_plus : PySem.W.nsIn K mainGlobals "plus" = some (some (.ref f_plus)))
    (l_plus : K.lookup f_plus = some ⟨oc_plus, od_plus, .func (PySem.W.fnOf "plus" "plus" (defArgs s_plus) (defBody s_plus) (defScope s_plus) .none kV_plus dc_plus pm_plus an_plus cd_plus ct_plus), sl_plus⟩)
    (c_plus : PySem.W.codeIn K cd_plus "plus" = true)
    (k_plus : PySem.W.keepIn K (.ref f_plus) = true)
    (a_minus : PySem.W.nsIn K mainGlobals "minus" = some (some (.ref f_minus)))
    (l_minus : K.lookup f_minus = some ⟨oc_minus, od_minus, .func (PySem.W.fnOf "minus" "minus" (defArgs s_minus) (defBody s_minus) (defScope s_minus) .none kV_minus dc_minus pm_minus an_minus cd_minus ct_minus), sl_minus⟩)
    (c_minus : PySem.W.codeIn K cd_minus "minus" = true)
    (k_minus : PySem.W.keepIn K (.ref f_minus) = true)
    (a_times : PySem.W.nsIn K mainGlobals "times" = some (some (.ref f_times)))
    (l_times : K.lookup f_times = some ⟨oc_times, od_times, .func (PySem.W.fnOf "times" "times" (defArgs s_times) (defBody s_times) (defScope s_times) .none kV_times dc_times pm_times an_times cd_times ct_times), sl_times⟩)
    (c_times : PySem.W.codeIn K cd_times "times" = true)
    (k_times : PySem.W.keepIn K (.ref f_times) = true)
    (a_less : PySem.W.nsIn K mainGlobals "is_less" = some (some (.ref f_less)))
    (l_less : K.lookup f_less = some ⟨oc_less, od_less, .func (PySem.W.fnOf "is_less" "is_less" (defArgs s_is_less) (defBody s_is_less) (defScope s_is_less) .none kV_less dc_less pm_less an_less cd_less ct_less), sl_less⟩)
    (c_less : PySem.W.codeIn K cd_less "is_less" = true)
    (k_less : PySem.W.keepIn K (.ref f_less) = true)
    (a_ob : PySem.W.nsIn K mainGlobals "over_one_bottom" = some (some (.ref f_ob)))
    (l_ob : K.lookup f_ob = some ⟨oc_ob, od_ob, .func (PySem.W.fnOf "over_one_bottom" "over_one_bottom" (defArgs s_over_one_bottom) (defBody s_over_one_bottom) (defScope s_over_one_bottom) .none kV_ob dc_ob pm_ob an_ob cd_ob ct_ob), sl_ob⟩)
    (c_ob : PySem.W.codeIn K cd_ob "over_one_bottom" = true)
    (k_ob : PySem.W.keepIn K (.ref f_ob) = true)
    (a_pf : PySem.W.nsIn K mainGlobals "point_from" = some (some (.ref f_pf)))
    (l_pf : K.lookup f_pf = some ⟨oc_pf, od_pf, .func (PySem.W.fnOf "point_from" "point_from" (defArgs s_point_from) (defBody s_point_from) (defScope s_point_from) .none kV_pf dc_pf pm_pf an_pf cd_pf ct_pf), sl_pf⟩)
    (c_pf : PySem.W.codeIn K cd_pf "point_from" = true)
    (k_pf : PySem.W.keepIn K (.ref f_pf) = true)
    (a_lb : PySem.W.nsIn K mainGlobals "lines_between" = some (some (.ref f_lb)))
    (l_lb : K.lookup f_lb = some ⟨oc_lb, od_lb, .func (PySem.W.fnOf "lines_between" "lines_between" (defArgs s_lines_between) (defBody s_lines_between) (defScope s_lines_between) .none kV_lb dc_lb pm_lb an_lb cd_lb ct_lb), sl_lb⟩)
    (c_lb : PySem.W.codeIn K cd_lb "lines_between" = true)
    (k_lb : PySem.W.keepIn K (.ref f_lb) = true)
    (a_lt : PySem.W.nsIn K mainGlobals "line_through" = some (some (.ref f_lt)))
    (l_lt : K.lookup f_lt = some ⟨oc_lt, od_lt, .func (PySem.W.fnOf "line_through" "line_through" (defArgs s_line_through) (defBody s_line_through) (defScope s_line_through) .none kV_lt dc_lt pm_lt an_lt cd_lt ct_lt), sl_lt⟩)
    (c_lt : PySem.W.codeIn K cd_lt "line_through" = true)
    (k_lt : PySem.W.keepIn K (.ref f_lt) = true)
    (a_ol : PySem.W.nsIn K mainGlobals "off_line" = some (some (.ref f_ol)))
    (l_ol : K.lookup f_ol = some ⟨oc_ol, od_ol, .func (PySem.W.fnOf "off_line" "off_line" (defArgs s_off_line) (defBody s_off_line) (defScope s_off_line) .none kV_ol dc_ol pm_ol an_ol cd_ol ct_ol), sl_ol⟩)
    (c_ol : PySem.W.codeIn K cd_ol "off_line" = true)
    (k_ol : PySem.W.keepIn K (.ref f_ol) = true)
    (a_cc : PySem.W.nsIn K mainGlobals "common_corners" = some (some (.ref f_cc)))
    (l_cc : K.lookup f_cc = some ⟨oc_cc, od_cc, .func (PySem.W.fnOf "common_corners" "common_corners" (defArgs s_common_corners) (defBody s_common_corners) (defScope s_common_corners) .none kV_cc dc_cc pm_cc an_cc cd_cc ct_cc), sl_cc⟩)
    (c_cc : PySem.W.codeIn K cd_cc "common_corners" = true)
    (k_cc : PySem.W.keepIn K (.ref f_cc) = true)
    (a_ic : PySem.W.nsIn K mainGlobals "is_cut_off" = some (some (.ref f_ic)))
    (l_ic : K.lookup f_ic = some ⟨oc_ic, od_ic, .func (PySem.W.fnOf "is_cut_off" "is_cut_off" (defArgs s_is_cut_off) (defBody s_is_cut_off) (defScope s_is_cut_off) .none kV_ic dc_ic pm_ic an_ic cd_ic ct_ic), sl_ic⟩)
    (c_ic : PySem.W.codeIn K cd_ic "is_cut_off" = true)
    (k_ic : PySem.W.keepIn K (.ref f_ic) = true)
    (a_hn : PySem.W.nsIn K mainGlobals "has_none_left" = some (some (.ref f_hn)))
    (l_hn : K.lookup f_hn = some ⟨oc_hn, od_hn, .func (PySem.W.fnOf "has_none_left" "has_none_left" (defArgs s_has_none_left) (defBody s_has_none_left) (defScope s_has_none_left) .none kV_hn dc_hn pm_hn an_hn cd_hn ct_hn), sl_hn⟩)
    (c_hn : PySem.W.codeIn K cd_hn "has_none_left" = true)
    (k_hn : PySem.W.keepIn K (.ref f_hn) = true)
    (a_lc : PySem.W.nsIn K mainGlobals "left_corners" = some (some (.ref f_lc)))
    (l_lc : K.lookup f_lc = some ⟨oc_lc, od_lc, .func (PySem.W.fnOf "left_corners" "left_corners" (defArgs s_left_corners) (defBody s_left_corners) (defScope s_left_corners) .none kV_lc dc_lc pm_lc an_lc cd_lc ct_lc), sl_lc⟩)
    (c_lc : PySem.W.codeIn K cd_lc "left_corners" = true)
    (k_lc : PySem.W.keepIn K (.ref f_lc) = true)
    (a_cr : PySem.W.nsIn K mainGlobals "crossing" = some (some (.ref f_cr)))
    (l_cr : K.lookup f_cr = some ⟨oc_cr, od_cr, .func (PySem.W.fnOf "crossing" "crossing" (defArgs s_crossing) (defBody s_crossing) (defScope s_crossing) .none kV_cr dc_cr pm_cr an_cr cd_cr ct_cr), sl_cr⟩)
    (c_cr : PySem.W.codeIn K cd_cr "crossing" = true)
    (k_cr : PySem.W.keepIn K (.ref f_cr) = true)
    (a_rp : PySem.W.nsIn K mainGlobals "read_point" = some (some (.ref f_rp)))
    (l_rp : K.lookup f_rp = some ⟨oc_rp, od_rp, .func (PySem.W.fnOf "read_point" "read_point" (defArgs s_read_point) (defBody s_read_point) (defScope s_read_point) .none kV_rp dc_rp pm_rp an_rp cd_rp ct_rp), sl_rp⟩)
    (c_rp : PySem.W.codeIn K cd_rp "read_point" = true)
    (k_rp : PySem.W.keepIn K (.ref f_rp) = true)
    (a_rps : PySem.W.nsIn K mainGlobals "read_points" = some (some (.ref f_rps)))
    (l_rps : K.lookup f_rps = some ⟨oc_rps, od_rps, .func (PySem.W.fnOf "read_points" "read_points" (defArgs s_read_points) (defBody s_read_points) (defScope s_read_points) .none kV_rps dc_rps pm_rps an_rps cd_rps ct_rps), sl_rps⟩)
    (c_rps : PySem.W.codeIn K cd_rps "read_points" = true)
    (k_rps : PySem.W.keepIn K (.ref f_rps) = true)
    (a_pn : PySem.W.nsIn K mainGlobals "point_numbers" = some (some (.ref f_pn)))
    (l_pn : K.lookup f_pn = some ⟨oc_pn, od_pn, .func (PySem.W.fnOf "point_numbers" "point_numbers" (defArgs s_point_numbers) (defBody s_point_numbers) (defScope s_point_numbers) .none kV_pn dc_pn pm_pn an_pn cd_pn ct_pn), sl_pn⟩)
    (c_pn : PySem.W.codeIn K cd_pn "point_numbers" = true)
    (k_pn : PySem.W.keepIn K (.ref f_pn) = true)
    (a_ps : PySem.W.nsIn K mainGlobals "point_sum" = some (some (.ref f_ps)))
    (l_ps : K.lookup f_ps = some ⟨oc_ps, od_ps, .func (PySem.W.fnOf "point_sum" "point_sum" (defArgs s_point_sum) (defBody s_point_sum) (defScope s_point_sum) .none kV_ps dc_ps pm_ps an_ps cd_ps ct_ps), sl_ps⟩)
    (c_ps : PySem.W.codeIn K cd_ps "point_sum" = true)
    (k_ps : PySem.W.keepIn K (.ref f_ps) = true)
    (a_scaled : PySem.W.nsIn K mainGlobals "scaled" = some (some (.ref f_scaled)))
    (l_scaled : K.lookup f_scaled = some ⟨oc_scaled, od_scaled, .func (PySem.W.fnOf "scaled" "scaled" (defArgs s_scaled) (defBody s_scaled) (defScope s_scaled) .none kV_scaled dc_scaled pm_scaled an_scaled cd_scaled ct_scaled), sl_scaled⟩)
    (c_scaled : PySem.W.codeIn K cd_scaled "scaled" = true)
    (k_scaled : PySem.W.keepIn K (.ref f_scaled) = true)
    (a_cross : PySem.W.nsIn K mainGlobals "cross" = some (some (.ref f_cross)))
    (l_cross : K.lookup f_cross = some ⟨oc_cross, od_cross, .func (PySem.W.fnOf "cross" "cross" (defArgs s_cross) (defBody s_cross) (defScope s_cross) .none kV_cross dc_cross pm_cross an_cross cd_cross ct_cross), sl_cross⟩)
    (c_cross : PySem.W.codeIn K cd_cross "cross" = true)
    (k_cross : PySem.W.keepIn K (.ref f_cross) = true)
    (a_bef : PySem.W.nsIn K mainGlobals "is_before" = some (some (.ref f_bef)))
    (l_bef : K.lookup f_bef = some ⟨oc_bef, od_bef, .func (PySem.W.fnOf "is_before" "is_before" (defArgs s_is_before) (defBody s_is_before) (defScope s_is_before) .none kV_bef dc_bef pm_bef an_bef cd_bef ct_bef), sl_bef⟩)
    (c_bef : PySem.W.codeIn K cd_bef "is_before" = true)
    (k_bef : PySem.W.keepIn K (.ref f_bef) = true)
    (a_cn : PySem.W.nsIn K mainGlobals "cutting_numbers" = some (some (.ref f_cn)))
    (l_cn : K.lookup f_cn = some ⟨oc_cn, od_cn, .func (PySem.W.fnOf "cutting_numbers" "cutting_numbers" (defArgs s_cutting_numbers) (defBody s_cutting_numbers) (defScope s_cutting_numbers) .none kV_cn dc_cn pm_cn an_cn cd_cn ct_cn), sl_cn⟩)
    (c_cn : PySem.W.codeIn K cd_cn "cutting_numbers" = true)
    (k_cn : PySem.W.keepIn K (.ref f_cn) = true)
    (a_pc : PySem.W.nsIn K mainGlobals "piece_of" = some (some (.ref f_pc)))
    (l_pc : K.lookup f_pc = some ⟨oc_pc, od_pc, .func (PySem.W.fnOf "piece_of" "piece_of" (defArgs s_piece_of) (defBody s_piece_of) (defScope s_piece_of) .none kV_pc dc_pc pm_pc an_pc cd_pc ct_pc), sl_pc⟩)
    (c_pc : PySem.W.codeIn K cd_pc "piece_of" = true)
    (k_pc : PySem.W.keepIn K (.ref f_pc) = true)
    (a_r4 : PySem.W.nsIn K mainGlobals "read_four_sides" = some (some (.ref f_r4)))
    (l_r4 : K.lookup f_r4 = some ⟨oc_r4, od_r4, .func (PySem.W.fnOf "read_four_sides" "read_four_sides" (defArgs s_read_four_sides) (defBody s_read_four_sides) (defScope s_read_four_sides) .none kV_r4 dc_r4 pm_r4 an_r4 cd_r4 ct_r4), sl_r4⟩)
    (c_r4 : PySem.W.codeIn K cd_r4 "read_four_sides" = true)
    (k_r4 : PySem.W.keepIn K (.ref f_r4) = true)
    (a_shd : PySem.W.nsIn K mainGlobals "sheared" = some (some (.ref f_shd)))
    (l_shd : K.lookup f_shd = some ⟨oc_shd, od_shd, .func (PySem.W.fnOf "sheared" "sheared" (defArgs s_sheared) (defBody s_sheared) (defScope s_sheared) .none kV_shd dc_shd pm_shd an_shd cd_shd ct_shd), sl_shd⟩)
    (c_shd : PySem.W.codeIn K cd_shd "sheared" = true)
    (k_shd : PySem.W.keepIn K (.ref f_shd) = true)
    (a_swp : PySem.W.nsIn K mainGlobals "slides_with_a_piece" = some (some (.ref f_swp)))
    (l_swp : K.lookup f_swp = some ⟨oc_swp, od_swp, .func (PySem.W.fnOf "slides_with_a_piece" "slides_with_a_piece" (defArgs s_slides_with_a_piece) (defBody s_slides_with_a_piece) (defScope s_slides_with_a_piece) .none kV_swp dc_swp pm_swp an_swp cd_swp ct_swp), sl_swp⟩)
    (c_swp : PySem.W.codeIn K cd_swp "slides_with_a_piece" = true)
    (k_swp : PySem.W.keepIn K (.ref f_swp) = true)
    (a_shp : PySem.W.nsIn K mainGlobals "sheared_part" = some (some (.ref f_shp)))
    (l_shp : K.lookup f_shp = some ⟨oc_shp, od_shp, .func (PySem.W.fnOf "sheared_part" "sheared_part" (defArgs s_sheared_part) (defBody s_sheared_part) (defScope s_sheared_part) .none kV_shp dc_shp pm_shp an_shp cd_shp ct_shp), sl_shp⟩)
    (c_shp : PySem.W.codeIn K cd_shp "sheared_part" = true)
    (k_shp : PySem.W.keepIn K (.ref f_shp) = true)
    (a_sqs : PySem.W.nsIn K mainGlobals "square_shares" = some (some (.ref f_sqs)))
    (l_sqs : K.lookup f_sqs = some ⟨oc_sqs, od_sqs, .func (PySem.W.fnOf "square_shares" "square_shares" (defArgs s_square_shares) (defBody s_square_shares) (defScope s_square_shares) .none kV_sqs dc_sqs pm_sqs an_sqs cd_sqs ct_sqs), sl_sqs⟩)
    (c_sqs : PySem.W.codeIn K cd_sqs "square_shares" = true)
    (k_sqs : PySem.W.keepIn K (.ref f_sqs) = true)
    (a_sls : PySem.W.nsIn K mainGlobals "slid_shares" = some (some (.ref f_sls)))
    (l_sls : K.lookup f_sls = some ⟨oc_sls, od_sls, .func (PySem.W.fnOf "slid_shares" "slid_shares" (defArgs s_slid_shares) (defBody s_slid_shares) (defScope s_slid_shares) .none kV_sls dc_sls pm_sls an_sls cd_sls ct_sls), sl_sls⟩)
    (c_sls : PySem.W.codeIn K cd_sls "slid_shares" = true)
    (k_sls : PySem.W.keepIn K (.ref f_sls) = true)
    (a_pta : PySem.W.nsIn K mainGlobals "point_at" = some (some (.ref f_pta)))
    (l_pta : K.lookup f_pta = some ⟨oc_pta, od_pta, .func (PySem.W.fnOf "point_at" "point_at" (defArgs s_point_at) (defBody s_point_at) (defScope s_point_at) .none kV_pta dc_pta pm_pta an_pta cd_pta ct_pta), sl_pta⟩)
    (c_pta : PySem.W.codeIn K cd_pta "point_at" = true)
    (k_pta : PySem.W.keepIn K (.ref f_pta) = true)
    (a_shr : PySem.W.nsIn K mainGlobals "shear" = some (some (.ref f_shr)))
    (l_shr : K.lookup f_shr = some ⟨oc_shr, od_shr, .func (PySem.W.fnOf "shear" "shear" (defArgs s_shear) (defBody s_shear) (defScope s_shear) .none kV_shr dc_shr pm_shr an_shr cd_shr ct_shr), sl_shr⟩)
    (c_shr : PySem.W.codeIn K cd_shr "shear" = true)
    (k_shr : PySem.W.keepIn K (.ref f_shr) = true)
    (a_ca : PySem.W.nsIn K mainGlobals "cutting_answer" = some (some (.ref f_ca)))
    (l_ca : K.lookup f_ca = some ⟨oc_ca, od_ca, .func (PySem.W.fnOf "cutting_answer" "cutting_answer" (defArgs s_cutting_answer) (defBody s_cutting_answer) (defScope s_cutting_answer) .none kV_ca dc_ca pm_ca an_ca cd_ca ct_ca), sl_ca⟩)
    (c_ca : PySem.W.codeIn K cd_ca "cutting_answer" = true)
    (k_ca : PySem.W.keepIn K (.ref f_ca) = true)
    (aC_ouI : PySem.W.nsIn K mainGlobals "Outline" = some (some (.ref C_ouI)))
    (a_ouI : PySem.W.findIn K (.ref C_ouI) "__init__" = some (some (.ref f_ouI)))
    (i_ouI : PySem.W.isFn K (.ref f_ouI) = true)
    (l_ouI : K.lookup f_ouI = some ⟨oc_ouI, od_ouI, .func (PySem.W.fnOf "__init__" "Outline.__init__" (defArgs s_Outline) (defBody s_Outline) (defScope s_Outline) .none kV_ouI dc_ouI pm_ouI an_ouI cd_ouI ct_ouI), sl_ouI⟩)
    (c_ouI : PySem.W.codeIn K cd_ouI "Outline.__init__" = true)
    (k_ouI : PySem.W.keepIn K (.ref f_ouI) = true)
    (pg_ouI : PySem.W.plainGet K C_ouI Str.empty = true)
    (hd_ouI : PySem.W.hasDictIn K C_ouI = true)
    (po_ouI : PySem.W.plainOver K C_ouI = true)
    (sa_ouI : PySem.W.findIn K (.ref C_ouI) "__setattr__" = some (some (.builtin "object.__setattr__")))
    (mk_ouI : PySem.W.makesIn K C_ouI = true)
    (kc_ouI : PySem.W.keepIn K (.ref C_ouI) = true)
    (n0_ouI : PySem.W.findIn K (.ref C_ouI) "corners" = some none)
    (n1_ouI : PySem.W.findIn K (.ref C_ouI) "lines" = some none)
    (aC_ptI : PySem.W.nsIn K mainGlobals "Part" = some (some (.ref C_ptI)))
    (a_ptI : PySem.W.findIn K (.ref C_ptI) "__init__" = some (some (.ref f_ptI)))
    (i_ptI : PySem.W.isFn K (.ref f_ptI) = true)
    (l_ptI : K.lookup f_ptI = some ⟨oc_ptI, od_ptI, .func (PySem.W.fnOf "__init__" "Part.__init__" (defArgs s_Part) (defBody s_Part) (defScope s_Part) .none kV_ptI dc_ptI pm_ptI an_ptI cd_ptI ct_ptI), sl_ptI⟩)
    (c_ptI : PySem.W.codeIn K cd_ptI "Part.__init__" = true)
    (k_ptI : PySem.W.keepIn K (.ref f_ptI) = true)
    (pg_ptI : PySem.W.plainGet K C_ptI Str.empty = true)
    (hd_ptI : PySem.W.hasDictIn K C_ptI = true)
    (po_ptI : PySem.W.plainOver K C_ptI = true)
    (sa_ptI : PySem.W.findIn K (.ref C_ptI) "__setattr__" = some (some (.builtin "object.__setattr__")))
    (mk_ptI : PySem.W.makesIn K C_ptI = true)
    (kc_ptI : PySem.W.keepIn K (.ref C_ptI) = true)
    (n0_ptI : PySem.W.findIn K (.ref C_ptI) "piece" = some none)
    (n1_ptI : PySem.W.findIn K (.ref C_ptI) "turned" = some none)
    (n2_ptI : PySem.W.findIn K (.ref C_ptI) "slid" = some none)
    (aC_fsI : PySem.W.nsIn K mainGlobals "FourSides" = some (some (.ref C_fsI)))
    (a_fsI : PySem.W.findIn K (.ref C_fsI) "__init__" = some (some (.ref f_fsI)))
    (i_fsI : PySem.W.isFn K (.ref f_fsI) = true)
    (l_fsI : K.lookup f_fsI = some ⟨oc_fsI, od_fsI, .func (PySem.W.fnOf "__init__" "FourSides.__init__" (defArgs s_FourSides) (defBody s_FourSides) (defScope s_FourSides) .none kV_fsI dc_fsI pm_fsI an_fsI cd_fsI ct_fsI), sl_fsI⟩)
    (c_fsI : PySem.W.codeIn K cd_fsI "FourSides.__init__" = true)
    (k_fsI : PySem.W.keepIn K (.ref f_fsI) = true)
    (pg_fsI : PySem.W.plainGet K C_fsI Str.empty = true)
    (hd_fsI : PySem.W.hasDictIn K C_fsI = true)
    (po_fsI : PySem.W.plainOver K C_fsI = true)
    (sa_fsI : PySem.W.findIn K (.ref C_fsI) "__setattr__" = some (some (.builtin "object.__setattr__")))
    (mk_fsI : PySem.W.makesIn K C_fsI = true)
    (kc_fsI : PySem.W.keepIn K (.ref C_fsI) = true)
    (n0_fsI : PySem.W.findIn K (.ref C_fsI) "o" = some none)
    (n1_fsI : PySem.W.findIn K (.ref C_fsI) "u" = some none)
    (n2_fsI : PySem.W.findIn K (.ref C_fsI) "v" = some none)
    (aE_err : PySem.W.nsIn K mainGlobals "NotAsTold" = some (some (.ref C_err)))
    (xE_err : PySem.W.excIn K C_err [.type "ValueError", .type "Exception", .type "BaseException", .type "object"] "ValueError.__new__" = true)
    (kE_err : PySem.W.keepIn K (.ref C_err) = true)
    (bE_err : PySem.W.subIn K (.ref C_err) (.type "BaseException") = some true)
    (tE_err : PySem.W.typeIn K (.ref C_err) = some (.type "type"))
    (iE_err : PySem.W.isClsIn K C_err = true)
    (sE_err : PySem.W.subIn K (.ref C_err) (.ref C_err) = some true)
    (aE_tm : PySem.W.nsIn K mainGlobals "TooMuch" = some (some (.ref C_tm)))
    (xE_tm : PySem.W.excIn K C_tm [.type "ValueError", .type "Exception", .type "BaseException", .type "object"] "ValueError.__new__" = true)
    (kE_tm : PySem.W.keepIn K (.ref C_tm) = true)
    (bE_tm : PySem.W.subIn K (.ref C_tm) (.type "BaseException") = some true)
    (tE_tm : PySem.W.typeIn K (.ref C_tm) = some (.type "type"))
    (iE_tm : PySem.W.isClsIn K C_tm = true)
    (sE_tm : PySem.W.subIn K (.ref C_tm) (.ref C_tm) = some true)
    (sX_tm_err : PySem.W.subIn K (.ref C_tm) (.ref C_err) = some false)
    (aK_RL : PySem.W.nsIn K mainGlobals "RATIO_LENGTH" = some (some (.int 2 t_RL)))
    (aK_PL : PySem.W.nsIn K mainGlobals "POINT_LENGTH" = some (some (.int 4 t_PL)))
    (aK_MS : PySem.W.nsIn K mainGlobals "MOST_SHEARED" = some (some (.int 60 t_MS)))
    (z_abs : PySem.W.nsIn K mainGlobals "abs" = some none)
    (z_len : PySem.W.nsIn K mainGlobals "len" = some none)
    (z_range : PySem.W.nsIn K mainGlobals "range" = some none)
    (z_min : PySem.W.nsIn K mainGlobals "min" = some none)
    (z_max : PySem.W.nsIn K mainGlobals "max" = some none)
    (z_list : PySem.W.nsIn K mainGlobals "list" = some none)
    : ∃ fd : FuncData, (∀ (s : Shared) (us : List Value), us.length = (["g", "k"] : List Str).length → BindsTo s fd ⟨us, []⟩ ((["g", "k"] : List Str).zip us)) ∧ ∀ base : Heap, K.In base → base.Ns mainGlobals mg → FnOk Pg w K mg base CX0 12 fa fd ["g", "k"] (spShr K) := by
  have e := hfa.symm.trans (PySem.W.mg_of X G a_shr)
  cases e
  have F_cm := fun_mk (st := s_common_measure) l_cm c_cm k_cm
  have m_cm := PySem.W.mg_of X G a_cm
  have b_cm := F_cm.binds (ps := ["a", "b"]) fun _ _ _ _ _ _ us hl => match us, hl with | [_, _], _ => rfl
  have F_isr := fun_mk (st := s_is_ratio) l_isr c_isr k_isr
  have m_isr := PySem.W.mg_of X G a_isr
  have b_isr := F_isr.binds (ps := ["top", "bottom"]) fun _ _ _ _ _ _ us hl => match us, hl with | [_, _], _ => rfl
  have F_rr := fun_mk (st := s_read_ratio) l_rr c_rr k_rr
  have m_rr := PySem.W.mg_of X G a_rr
  have b_rr := F_rr.binds (ps := ["numbers"]) fun _ _ _ _ _ _ us hl => match us, hl with | [_], _ => rfl
  have F_rat := fun_mk (st := s_ratio) l_rat c_rat k_rat
  have m_rat := PySem.W.mg_of X G a_rat
  have b_rat := F_rat.binds (ps := ["top", "bottom"]) fun _ _ _ _ _ _ us hl => match us, hl with | [_, _], _ => rfl
  have F_plus := fun_mk (st := s_plus) l_plus c_plus k_plus
  have m_plus := PySem.W.mg_of X G a_plus
  have b_plus := F_plus.binds (ps := ["a", "b"]) fun _ _ _ _ _ _ us hl => match us, hl with | [_, _], _ => rfl
  have F_minus := fun_mk (st := s_minus) l_minus c_minus k_minus
  have m_minus := PySem.W.mg_of X G a_minus
  have b_minus := F_minus.binds (ps := ["a", "b"]) fun _ _ _ _ _ _ us hl => match us, hl with | [_, _], _ => rfl
  have F_times := fun_mk (st := s_times) l_times c_times k_times
  have m_times := PySem.W.mg_of X G a_times
  have b_times := F_times.binds (ps := ["a", "b"]) fun _ _ _ _ _ _ us hl => match us, hl with | [_, _], _ => rfl
  have F_less := fun_mk (st := s_is_less) l_less c_less k_less
  have m_less := PySem.W.mg_of X G a_less
  have b_less := F_less.binds (ps := ["a", "b"]) fun _ _ _ _ _ _ us hl => match us, hl with | [_, _], _ => rfl
  have F_ob := fun_mk (st := s_over_one_bottom) l_ob c_ob k_ob
  have m_ob := PySem.W.mg_of X G a_ob
  have b_ob := F_ob.binds (ps := ["point"]) fun _ _ _ _ _ _ us hl => match us, hl with | [_], _ => rfl
  have F_pf := fun_mk (st := s_point_from) l_pf c_pf k_pf
  have m_pf := PySem.W.mg_of X G a_pf
  have b_pf := F_pf.binds (ps := ["corner"]) fun _ _ _ _ _ _ us hl => match us, hl with | [_], _ => rfl
  have F_lb := fun_mk (st := s_lines_between) l_lb c_lb k_lb
  have m_lb := PySem.W.mg_of X G a_lb
  have b_lb := F_lb.binds (ps := ["corners"]) fun _ _ _ _ _ _ us hl => match us, hl with | [_], _ => rfl
  have F_lt := fun_mk (st := s_line_through) l_lt c_lt k_lt
  have m_lt := PySem.W.mg_of X G a_lt
  have b_lt := F_lt.binds (ps := ["a", "b"]) fun _ _ _ _ _ _ us hl => match us, hl with | [_, _], _ => rfl
  have F_ol := fun_mk (st := s_off_line) l_ol c_ol k_ol
  have m_ol := PySem.W.mg_of X G a_ol
  have b_ol := F_ol.binds (ps := ["line", "corner"]) fun _ _ _ _ _ _ us hl => match us, hl with | [_, _], _ => rfl
  have F_cc := fun_mk (st := s_common_corners) l_cc c_cc k_cc
  have m_cc := PySem.W.mg_of X G a_cc
  have b_cc := F_cc.binds (ps := ["one", "other"]) fun _ _ _ _ _ _ us hl => match us, hl with | [_, _], _ => rfl
  have F_ic := fun_mk (st := s_is_cut_off) l_ic c_ic k_ic
  have m_ic := PySem.W.mg_of X G a_ic
  have b_ic := F_ic.binds (ps := ["one", "other"]) fun _ _ _ _ _ _ us hl => match us, hl with | [_, _], _ => rfl
  have F_hn := fun_mk (st := s_has_none_left) l_hn c_hn k_hn
  have m_hn := PySem.W.mg_of X G a_hn
  have b_hn := F_hn.binds (ps := ["line", "corners"]) fun _ _ _ _ _ _ us hl => match us, hl with | [_, _], _ => rfl
  have F_lc := fun_mk (st := s_left_corners) l_lc c_lc k_lc
  have m_lc := PySem.W.mg_of X G a_lc
  have b_lc := F_lc.binds (ps := ["corners", "line"]) fun _ _ _ _ _ _ us hl => match us, hl with | [_, _], _ => rfl
  have F_cr := fun_mk (st := s_crossing) l_cr c_cr k_cr
  have m_cr := PySem.W.mg_of X G a_cr
  have b_cr := F_cr.binds (ps := ["a", "b", "off_a", "off_b"]) fun _ _ _ _ _ _ us hl => match us, hl with | [_, _, _, _], _ => rfl
  have F_rp := fun_mk (st := s_read_point) l_rp c_rp k_rp
  have m_rp := PySem.W.mg_of X G a_rp
  have b_rp := F_rp.binds (ps := ["numbers"]) fun _ _ _ _ _ _ us hl => match us, hl with | [_], _ => rfl
  have F_rps := fun_mk (st := s_read_points) l_rps c_rps k_rps
  have m_rps := PySem.W.mg_of X G a_rps
  have b_rps := F_rps.binds (ps := ["numbers"]) fun _ _ _ _ _ _ us hl => match us, hl with | [_], _ => rfl
  have F_pn := fun_mk (st := s_point_numbers) l_pn c_pn k_pn
  have m_pn := PySem.W.mg_of X G a_pn
  have b_pn := F_pn.binds (ps := ["point"]) fun _ _ _ _ _ _ us hl => match us, hl with | [_], _ => rfl
  have F_ps := fun_mk (st := s_point_sum) l_ps c_ps k_ps
  have m_ps := PySem.W.mg_of X G a_ps
  have b_ps := F_ps.binds (ps := ["a", "b"]) fun _ _ _ _ _ _ us hl => match us, hl with | [_, _], _ => rfl
  have F_scaled := fun_mk (st := s_scaled) l_scaled c_scaled k_scaled
  have m_scaled := PySem.W.mg_of X G a_scaled
  have b_scaled := F_scaled.binds (ps := ["a", "factor"]) fun _ _ _ _ _ _ us hl => match us, hl with | [_, _], _ => rfl
  have F_cross := fun_mk (st := s_cross) l_cross c_cross k_cross
  have m_cross := PySem.W.mg_of X G a_cross
  have b_cross := F_cross.binds (ps := ["u", "v"]) fun _ _ _ _ _ _ us hl => match us, hl with | [_, _], _ => rfl
  have F_bef := fun_mk (st := s_is_before) l_bef c_bef k_bef
  have m_bef := PySem.W.mg_of X G a_bef
  have b_bef := F_bef.binds (ps := ["a", "b"]) fun _ _ _ _ _ _ us hl => match us, hl with | [_, _], _ => rfl
  have F_cn := fun_mk (st := s_cutting_numbers) l_cn c_cn k_cn
  have m_cn := PySem.W.mg_of X G a_cn
  have b_cn := F_cn.binds (ps := ["parts"]) fun _ _ _ _ _ _ us hl => match us, hl with | [_], _ => rfl
  have F_pc := fun_mk (st := s_piece_of) l_pc c_pc k_pc
  have m_pc := PySem.W.mg_of X G a_pc
  have b_pc := F_pc.binds (ps := ["corners"]) fun _ _ _ _ _ _ us hl => match us, hl with | [_], _ => rfl
  have F_r4 := fun_mk (st := s_read_four_sides) l_r4 c_r4 k_r4
  have m_r4 := PySem.W.mg_of X G a_r4
  have b_r4 := F_r4.binds (ps := ["numbers"]) fun _ _ _ _ _ _ us hl => match us, hl with | [_], _ => rfl
  have F_shd := fun_mk (st := s_sheared) l_shd c_shd k_shd
  have m_shd := PySem.W.mg_of X G a_shd
  have b_shd := F_shd.binds (ps := ["told", "k"]) fun _ _ _ _ _ _ us hl => match us, hl with | [_, _], _ => rfl
  have F_swp := fun_mk (st := s_slides_with_a_piece) l_swp c_swp k_swp
  have m_swp := PySem.W.mg_of X G a_swp
  have b_swp := F_swp.binds (ps := ["k"]) fun _ _ _ _ _ _ us hl => match us, hl with | [_], _ => rfl
  have F_shp := fun_mk (st := s_sheared_part) l_shp c_shp k_shp
  have m_shp := PySem.W.mg_of X G a_shp
  have b_shp := F_shp.binds (ps := ["told", "k", "j"]) fun _ _ _ _ _ _ us hl => match us, hl with | [_, _, _], _ => rfl
  have F_sqs := fun_mk (st := s_square_shares) l_sqs c_sqs k_sqs
  have m_sqs := PySem.W.mg_of X G a_sqs
  have b_sqs := F_sqs.binds (ps := []) fun _ _ _ _ _ _ us hl => match us, hl with | [], _ => rfl
  have F_sls := fun_mk (st := s_slid_shares) l_sls c_sls k_sls
  have m_sls := PySem.W.mg_of X G a_sls
  have b_sls := F_sls.binds (ps := ["k", "j"]) fun _ _ _ _ _ _ us hl => match us, hl with | [_, _], _ => rfl
  have F_pta := fun_mk (st := s_point_at) l_pta c_pta k_pta
  have m_pta := PySem.W.mg_of X G a_pta
  have b_pta := F_pta.binds (ps := ["told", "share"]) fun _ _ _ _ _ _ us hl => match us, hl with | [_, _], _ => rfl
  have F_shr := fun_mk (st := s_shear) l_shr c_shr k_shr
  have m_shr := PySem.W.mg_of X G a_shr
  have F_ca := fun_mk (st := s_cutting_answer) l_ca c_ca k_ca
  have m_ca := PySem.W.mg_of X G a_ca
  have b_ca := F_ca.binds (ps := ["parts"]) fun _ _ _ _ _ _ us hl => match us, hl with | [_], _ => rfl
  have F_ouI := fun_mk (st := s_Outline) l_ouI c_ouI k_ouI
  have b_ouI := F_ouI.binds (ps := ["self", "corners"]) fun _ _ _ _ _ _ us hl => match us, hl with | [_, _], _ => rfl
  have T_ouI : ClsTxt K mg "Outline" C_ouI f_ouI ["corners", "lines"] := ⟨⟨pg_ouI, hd_ouI, po_ouI, sa_ouI⟩, PySem.W.mg_of X G aC_ouI, fun z hz => by
    simp only [List.mem_cons, List.not_mem_nil, or_false] at hz
    rcases hz with rfl | rfl
    · exact n0_ouI
    · exact n1_ouI
    , ⟨mk_ouI, a_ouI, i_ouI, kc_ouI⟩⟩
  have F_ptI := fun_mk (st := s_Part) l_ptI c_ptI k_ptI
  have b_ptI := F_ptI.binds (ps := ["self", "piece", "turned", "slid"]) fun _ _ _ _ _ _ us hl => match us, hl with | [_, _, _, _], _ => rfl
  have T_ptI : ClsTxt K mg "Part" C_ptI f_ptI ["piece", "turned", "slid"] := ⟨⟨pg_ptI, hd_ptI, po_ptI, sa_ptI⟩, PySem.W.mg_of X G aC_ptI, fun z hz => by
    simp only [List.mem_cons, List.not_mem_nil, or_false] at hz
    rcases hz with rfl | rfl | rfl
    · exact n0_ptI
    · exact n1_ptI
    · exact n2_ptI
    , ⟨mk_ptI, a_ptI, i_ptI, kc_ptI⟩⟩
  have F_fsI := fun_mk (st := s_FourSides) l_fsI c_fsI k_fsI
  have b_fsI := F_fsI.binds (ps := ["self", "o", "u", "v"]) fun _ _ _ _ _ _ us hl => match us, hl with | [_, _, _, _], _ => rfl
  have T_fsI : ClsTxt K mg "FourSides" C_fsI f_fsI ["o", "u", "v"] := ⟨⟨pg_fsI, hd_fsI, po_fsI, sa_fsI⟩, PySem.W.mg_of X G aC_fsI, fun z hz => by
    simp only [List.mem_cons, List.not_mem_nil, or_false] at hz
    rcases hz with rfl | rfl | rfl
    · exact n0_fsI
    · exact n1_fsI
    · exact n2_fsI
    , ⟨mk_fsI, a_fsI, i_fsI, kc_fsI⟩⟩
  have T_err : ErrTx "NotAsTold" K mg C_err := ⟨PySem.W.mg_of X G aE_err, xE_err, kE_err, bE_err, tE_err, exm_own bE_err iE_err tE_err sE_err⟩
  have T_tm : ErrTx "TooMuch" K mg C_tm := ⟨PySem.W.mg_of X G aE_tm, xE_tm, kE_tm, bE_tm, tE_tm, exm_own bE_tm iE_tm tE_tm sE_tm⟩
  have x_tm_err := exm_own bE_err iE_err tE_err sX_tm_err
  have m_RL := PySem.W.mg_of X G aK_RL
  have m_PL := PySem.W.mg_of X G aK_PL
  have m_MS := PySem.W.mg_of X G aK_MS
  have m_abs := PySem.W.mg_none_of X G z_abs
  have m_len := PySem.W.mg_none_of X G z_len
  have m_range := PySem.W.mg_none_of X G z_range
  have m_min := PySem.W.mg_none_of X G z_min
  have m_max := PySem.W.mg_none_of X G z_max
  have m_list := PySem.W.mg_none_of X G z_list
  refine ⟨PySem.W.fnOf "shear" "shear" (defArgs s_shear) (defBody s_shear) (defScope s_shear) .none kV_shr dc_shr pm_shr an_shr cd_shr ct_shr, fun s us hu => match us, hu with | [_, _], _ => .of_eq rfl, fun base _ _ => ?_⟩
  have G_ptI := ok_ptI (Pg := Pg) (w := w) (base := base) F_ptI T_ptI
  have G_fsI := ok_fsI (Pg := Pg) (w := w) (base := base) F_fsI T_fsI
  have G_cm := ok_cm (Pg := Pg) (w := w) (mg := mg) (base := base) F_cm m_abs
  have G_isr := ok_isr F_isr G_cm m_cm k_cm b_cm
  have G_rr := ok_rr F_rr T_err m_len m_RL G_isr m_isr k_isr b_isr
  have G_rat := ok_rat F_rat G_cm m_cm k_cm b_cm
  have G_plus := ok_plus F_plus G_rat m_rat k_rat b_rat
  have G_minus := ok_minus F_minus G_rat m_rat k_rat b_rat
  have G_times := ok_times F_times G_rat m_rat k_rat b_rat
  have G_less := ok_less (Pg := Pg) (w := w) (mg := mg) (base := base) F_less
  have G_ob := ok_ob F_ob G_cm m_cm k_cm b_cm
  have G_pf := ok_pf F_pf G_rat m_rat k_rat b_rat
  have G_lt := ok_lt (Pg := Pg) (w := w) (mg := mg) (base := base) F_lt
  have G_ol := ok_ol (Pg := Pg) (w := w) (mg := mg) (base := base) F_ol
  have G_hn := ok_hn F_hn G_ol m_ol k_ol b_ol
  have G_cr := ok_cr F_cr m_abs G_cm m_cm k_cm b_cm
  have G_rp := ok_rp F_rp T_err m_len m_PL m_RL G_rr m_rr k_rr b_rr
  have G_rps := ok_rps F_rps T_err m_len m_range m_PL G_rp m_rp k_rp b_rp
  have G_pn := ok_pn (Pg := Pg) (w := w) (mg := mg) (base := base) F_pn
  have G_ps := ok_ps F_ps G_plus m_plus k_plus b_plus
  have G_scaled := ok_scaled F_scaled G_times m_times k_times b_times
  have G_cross := ok_cross F_cross G_times m_times k_times b_times G_minus m_minus k_minus b_minus
  have G_bef := ok_bef F_bef G_less m_less k_less b_less
  have G_cn := ok_cn F_cn T_ptI m_len G_pn m_pn k_pn b_pn
  have G_pc := ok_pc F_pc m_len m_range G_bef m_bef k_bef b_bef
  have G_r4 := ok_r4 F_r4 T_err T_fsI m_len m_PL G_rps m_rps k_rps b_rps G_cross m_cross k_cross b_cross G_fsI b_fsI
  have G_swp := ok_swp (Pg := Pg) (w := w) (mg := mg) (base := base) F_swp m_min m_max m_list m_range
  have G_sqs := ok_sqs (Pg := Pg) (w := w) (mg := mg) (base := base) F_sqs
  have G_sls := ok_sls F_sls G_plus m_plus k_plus b_plus
  have G_pta := ok_pta F_pta T_fsI G_ps m_ps k_ps b_ps G_scaled m_scaled k_scaled b_scaled
  have G_ca := ok_ca F_ca m_len G_cn m_cn k_cn b_cn
  have G_lb := ok_lb F_lb m_len m_range G_lt m_lt k_lt b_lt
  have G_ic := ok_ic F_ic T_ouI G_hn m_hn k_hn b_hn
  have G_lc := ok_lc F_lc m_len m_range G_ol m_ol k_ol b_ol G_cr m_cr k_cr b_cr
  have G_ouI := ok_ouI F_ouI T_ouI G_ob m_ob k_ob b_ob G_lb m_lb k_lb b_lb
  have G_cc := ok_cc F_cc T_ouI G_ic m_ic k_ic b_ic G_lc m_lc k_lc b_lc G_pf m_pf k_pf b_pf
  have G_shp := ok_shp F_shp T_fsI T_ptI T_ouI G_cc m_cc k_cc b_cc G_sqs m_sqs k_sqs b_sqs G_sls m_sls k_sls b_sls G_pta m_pta k_pta b_pta G_pc m_pc k_pc b_pc G_scaled m_scaled k_scaled b_scaled G_ptI b_ptI G_ouI b_ouI
  have G_shd := ok_shd F_shd T_tm m_abs m_MS G_shp m_shp k_shp b_shp G_swp m_swp k_swp b_swp
  exact ok_shr F_shr T_err T_tm x_tm_err G_shd m_shd k_shd b_shd G_r4 m_r4 k_r4 b_r4 G_rr m_rr k_rr b_rr G_ca m_ca k_ca b_ca
end ScA
open PySem PySem.W PyProof.Rows
set_option maxRecDepth 100000 in
set_option maxHeartbeats 8000000 in
theorem PySem.Challenge.cw_stripcut_s03_shear_holds : PySem.Challenge.rw_stripcut_s03_shear.Holds := by
  w_on; k_headS; (case hw => exact ⟨[.list [], .list []], by decide +kernel, by decide +kernel⟩)
  k_fillS
  refine L2.walk_specK (r := PySem.Challenge.rw_stripcut_s03_shear) (k := 12) (CX := L2.CX0) (ps := ["g", "k"]) (sp := ScA.spShr) (by decide +kernel) rfl rfl ⟨rfl, by decide, by decide⟩ (fun w h Y => PySem.W.kIn_of Y) ?F ?S (fun _ _ _ _ z => z)
  case F =>
    intro w mg fa h Y KX G hmg
    refine' ScA.all_mk KX G hmg ?a_cm ?l_cm ?c_cm ?k_cm ?a_isr ?l_isr ?c_isr ?k_isr ?a_rr ?l_rr ?c_rr ?k_rr ?a_rat ?l_rat ?c_rat ?k_rat ?a_plus ?l_plus ?c_plus ?k_plus ?a_minus ?l_minus ?c_minus ?k_minus ?a_times ?l_times ?c_times ?k_times ?a_less ?l_less ?c_less ?k_less ?a_ob ?l_ob ?c_ob ?k_ob ?a_pf ?l_pf ?c_pf ?k_pf ?a_lb ?l_lb ?c_lb ?k_lb ?a_lt ?l_lt ?c_lt ?k_lt ?a_ol ?l_ol ?c_ol ?k_ol ?a_cc ?l_cc ?c_cc ?k_cc ?a_ic ?l_ic ?c_ic ?k_ic ?a_hn ?l_hn ?c_hn ?k_hn ?a_lc ?l_lc ?c_lc ?k_lc ?a_cr ?l_cr ?c_cr ?k_cr ?a_rp ?l_rp ?c_rp ?k_rp ?a_rps ?l_rps ?c_rps ?k_rps ?a_pn ?l_pn ?c_pn ?k_pn ?a_ps ?l_ps ?c_ps ?k_ps ?a_scaled ?l_scaled ?c_scaled ?k_scaled ?a_cross ?l_cross ?c_cross ?k_cross ?a_bef ?l_bef ?c_bef ?k_bef ?a_cn ?l_cn ?c_cn ?k_cn ?a_pc ?l_pc ?c_pc ?k_pc ?a_r4 ?l_r4 ?c_r4 ?k_r4 ?a_shd ?l_shd ?c_shd ?k_shd ?a_swp ?l_swp ?c_swp ?k_swp ?a_shp ?l_shp ?c_shp ?k_shp ?a_sqs ?l_sqs ?c_sqs ?k_sqs ?a_sls ?l_sls ?c_sls ?k_sls ?a_pta ?l_pta ?c_pta ?k_pta ?a_shr ?l_shr ?c_shr ?k_shr ?a_ca ?l_ca ?c_ca ?k_ca ?aC_ouI ?a_ouI ?i_ouI ?l_ouI ?c_ouI ?k_ouI ?pg_ouI ?hd_ouI ?po_ouI ?sa_ouI ?mk_ouI ?kc_ouI ?n0_ouI ?n1_ouI ?aC_ptI ?a_ptI ?i_ptI ?l_ptI ?c_ptI ?k_ptI ?pg_ptI ?hd_ptI ?po_ptI ?sa_ptI ?mk_ptI ?kc_ptI ?n0_ptI ?n1_ptI ?n2_ptI ?aC_fsI ?a_fsI ?i_fsI ?l_fsI ?c_fsI ?k_fsI ?pg_fsI ?hd_fsI ?po_fsI ?sa_fsI ?mk_fsI ?kc_fsI ?n0_fsI ?n1_fsI ?n2_fsI ?aE_err ?xE_err ?kE_err ?bE_err ?tE_err ?iE_err ?sE_err ?aE_tm ?xE_tm ?kE_tm ?bE_tm ?tE_tm ?iE_tm ?sE_tm ?sX_tm_err ?aK_RL ?aK_PL ?aK_MS ?z_abs ?z_len ?z_range ?z_min ?z_max ?z_list
    (case a_cm => k_is)
    (case l_cm => k_is)
    (case c_cm => k_is)
    (case k_cm => k_is)
    (case a_isr => k_is)
    (case l_isr => k_is)
    (case c_isr => k_is)
    (case k_isr => k_is)
    (case a_rr => k_is)
    (case l_rr => k_is)
    (case c_rr => k_is)
    (case k_rr => k_is)
    (case a_rat => k_is)
    (case l_rat => k_is)
    (case c_rat => k_is)
    (case k_rat => k_is)
    (case a_plus => k_is)
    (case l_plus => k_is)
    (case c_plus => k_is)
    (case k_plus => k_is)
    (case a_minus => k_is)
    (case l_minus => k_is)
    (case c_minus => k_is)
    (case k_minus => k_is)
    (case a_times => k_is)
    (case l_times => k_is)
    (case c_times => k_is)
    (case k_times => k_is)
    (case a_less => k_is)
    (case l_less => k_is)
    (case c_less => k_is)
    (case k_less => k_is)
    (case a_ob => k_is)
    (case l_ob => k_is)
    (case c_ob => k_is)
    (case k_ob => k_is)
    (case a_pf => k_is)
    (case l_pf => k_is)
    (case c_pf => k_is)
    (case k_pf => k_is)
    (case a_lb => k_is)
    (case l_lb => k_is)
    (case c_lb => k_is)
    (case k_lb => k_is)
    (case a_lt => k_is)
    (case l_lt => k_is)
    (case c_lt => k_is)
    (case k_lt => k_is)
    (case a_ol => k_is)
    (case l_ol => k_is)
    (case c_ol => k_is)
    (case k_ol => k_is)
    (case a_cc => k_is)
    (case l_cc => k_is)
    (case c_cc => k_is)
    (case k_cc => k_is)
    (case a_ic => k_is)
    (case l_ic => k_is)
    (case c_ic => k_is)
    (case k_ic => k_is)
    (case a_hn => k_is)
    (case l_hn => k_is)
    (case c_hn => k_is)
    (case k_hn => k_is)
    (case a_lc => k_is)
    (case l_lc => k_is)
    (case c_lc => k_is)
    (case k_lc => k_is)
    (case a_cr => k_is)
    (case l_cr => k_is)
    (case c_cr => k_is)
    (case k_cr => k_is)
    (case a_rp => k_is)
    (case l_rp => k_is)
    (case c_rp => k_is)
    (case k_rp => k_is)
    (case a_rps => k_is)
    (case l_rps => k_is)
    (case c_rps => k_is)
    (case k_rps => k_is)
    (case a_pn => k_is)
    (case l_pn => k_is)
    (case c_pn => k_is)
    (case k_pn => k_is)
    (case a_ps => k_is)
    (case l_ps => k_is)
    (case c_ps => k_is)
    (case k_ps => k_is)
    (case a_scaled => k_is)
    (case l_scaled => k_is)
    (case c_scaled => k_is)
    (case k_scaled => k_is)
    (case a_cross => k_is)
    (case l_cross => k_is)
    (case c_cross => k_is)
    (case k_cross => k_is)
    (case a_bef => k_is)
    (case l_bef => k_is)
    (case c_bef => k_is)
    (case k_bef => k_is)
    (case a_cn => k_is)
    (case l_cn => k_is)
    (case c_cn => k_is)
    (case k_cn => k_is)
    (case a_pc => k_is)
    (case l_pc => k_is)
    (case c_pc => k_is)
    (case k_pc => k_is)
    (case a_r4 => k_is)
    (case l_r4 => k_is)
    (case c_r4 => k_is)
    (case k_r4 => k_is)
    (case a_shd => k_is)
    (case l_shd => k_is)
    (case c_shd => k_is)
    (case k_shd => k_is)
    (case a_swp => k_is)
    (case l_swp => k_is)
    (case c_swp => k_is)
    (case k_swp => k_is)
    (case a_shp => k_is)
    (case l_shp => k_is)
    (case c_shp => k_is)
    (case k_shp => k_is)
    (case a_sqs => k_is)
    (case l_sqs => k_is)
    (case c_sqs => k_is)
    (case k_sqs => k_is)
    (case a_sls => k_is)
    (case l_sls => k_is)
    (case c_sls => k_is)
    (case k_sls => k_is)
    (case a_pta => k_is)
    (case l_pta => k_is)
    (case c_pta => k_is)
    (case k_pta => k_is)
    (case a_shr => k_is)
    (case l_shr => k_is)
    (case c_shr => k_is)
    (case k_shr => k_is)
    (case a_ca => k_is)
    (case l_ca => k_is)
    (case c_ca => k_is)
    (case k_ca => k_is)
    (case aC_ouI => k_is)
    (case a_ouI => k_is)
    (case i_ouI => k_is)
    (case l_ouI => k_is)
    (case c_ouI => k_is)
    (case k_ouI => k_is)
    (case pg_ouI => k_is)
    (case hd_ouI => k_is)
    (case po_ouI => k_is)
    (case sa_ouI => k_is)
    (case mk_ouI => k_is)
    (case kc_ouI => k_is)
    (case n0_ouI => k_is)
    (case n1_ouI => k_is)
    (case aC_ptI => k_is)
    (case a_ptI => k_is)
    (case i_ptI => k_is)
    (case l_ptI => k_is)
    (case c_ptI => k_is)
    (case k_ptI => k_is)
    (case pg_ptI => k_is)
    (case hd_ptI => k_is)
    (case po_ptI => k_is)
    (case sa_ptI => k_is)
    (case mk_ptI => k_is)
    (case kc_ptI => k_is)
    (case n0_ptI => k_is)
    (case n1_ptI => k_is)
    (case n2_ptI => k_is)
    (case aC_fsI => k_is)
    (case a_fsI => k_is)
    (case i_fsI => k_is)
    (case l_fsI => k_is)
    (case c_fsI => k_is)
    (case k_fsI => k_is)
    (case pg_fsI => k_is)
    (case hd_fsI => k_is)
    (case po_fsI => k_is)
    (case sa_fsI => k_is)
    (case mk_fsI => k_is)
    (case kc_fsI => k_is)
    (case n0_fsI => k_is)
    (case n1_fsI => k_is)
    (case n2_fsI => k_is)
    (case aE_err => k_is)
    (case xE_err => k_exc)
    (case kE_err => k_is)
    (case bE_err => k_is)
    (case tE_err => k_is)
    (case iE_err => k_is)
    (case sE_err => first | rfl | k_is)
    (case aE_tm => k_is)
    (case xE_tm => k_exc)
    (case kE_tm => k_is)
    (case bE_tm => k_is)
    (case tE_tm => k_is)
    (case iE_tm => k_is)
    (case sE_tm => first | rfl | k_is)
    (case sX_tm_err => first | rfl | k_is)
    (case aK_RL => k_is)
    (case aK_PL => k_is)
    (case aK_MS => k_is)
    (case z_abs => k_is)
    (case z_len => k_is)
    (case z_range => k_is)
    (case z_min => k_is)
    (case z_max => k_is)
    (case z_list => k_is)
  case S =>
    intro K H xs a hO hwi hask hx
    cases hx with
    | cons h1 h2 =>
      cases h2 with
      | cons h3 h4 =>
        cases h4
        cases h1 with
        | lst hs ha =>
          cases h3 with
          | lst hs2 ha2 =>
            have e := L2.ints_dw a.1 _ ha
            subst e
            have e2 := L2.ints_dw a.2.1 _ ha2
            subst e2
            refine ⟨_, _, a.1, a.2.1, rfl, hs, hs2, ScA.int_bd hwi, ScA.int_bd (ScA.bd_snd hwi), fun H' p hp => .lst (L2.SqL.of hp) (L2.dw_ints _)⟩
#print axioms PySem.Challenge.cw_stripcut_s03_shear_holds
