import PyProof.Rows.All
import Wide.All
import OpenK.AllK
import Wide.FinOn
import PyProof.EqAt
import PyProof.EqKinds
import PyProof.TupleCall
import Open.SpecLaws
import KE.OsGo
import HandS.Exc
import HandS.ForSpec
import HandS.Comp
import HandS.Iter
import HandS.Wide
import HandS.Walk
import KE.SortData
import HandS.Conv
import HandS.TryMany
import HandS.TryOnly
import HandS.WideBits
import PySem.Challenge.RW_stripcut_s04_stairs
set_option Elab.async false
set_option linter.all false
set_option maxRecDepth 100000
set_option maxHeartbeats 4000000
namespace Sc
open Kzq1 (Q P)
/-! Fractions as rationals -/
def Ok (q : Q) : Prop := 0 < q.d ∧ Nat.gcd q.n.natAbs q.d = 1
def val (q : Q) : Rat := mkRat q.n q.d
theorem okQ_iff (q : Q) : Kzq1.okQ q = true ↔ Ok q := by
  unfold Kzq1.okQ Ok
  simp only [Bool.and_eq_true, decide_eq_true_eq, beq_iff_eq]
  constructor <;> (rintro ⟨a, b⟩; exact ⟨by omega, b⟩)
theorem val_num {q : Q} (h : Ok q) : (val q).num = q.n := by
  unfold val
  rw [Rat.num_mkRat, if_neg (by have := h.1; omega), Nat.gcd_comm, h.2]
  simp
theorem val_den {q : Q} (h : Ok q) : (val q).den = q.d := by
  unfold val
  rw [Rat.den_mkRat, if_neg (by have := h.1; omega), Nat.gcd_comm, h.2, Nat.div_one]
theorem val_inj {a b : Q} (ha : Ok a) (hb : Ok b) (e : val a = val b) : a = b := by
  have h1 := val_num ha
  have h2 := val_den ha
  rw [e] at h1 h2
  rw [val_num hb] at h1
  rw [val_den hb] at h2
  cases a; cases b
  simp_all
/-- mk of a lower number above 0: by the greatest common measure -/
theorem mk_eq {n : Int} {d : Nat} (h : 0 < d) : Kzq1.mk n d = ⟨n / (Nat.gcd n.natAbs d : Nat), d / Nat.gcd n.natAbs d⟩ := by
  have hg : 0 < Nat.gcd n.natAbs d := Nat.gcd_pos_of_pos_right _ h
  have hq : 0 < d / Nat.gcd n.natAbs d := Nat.div_pos (Nat.gcd_le_right _ h) hg
  unfold Kzq1.mk
  dsimp only
  rw [if_neg (by omega), if_neg (by omega)]
theorem mk_ok {n : Int} {d : Nat} (h : 0 < d) : Ok (Kzq1.mk n d) := by
  have hg : 0 < Nat.gcd n.natAbs d := Nat.gcd_pos_of_pos_right _ h
  rw [mk_eq h]
  refine ⟨Nat.div_pos (Nat.gcd_le_right _ h) hg, ?_⟩
  show Nat.gcd (n / (Nat.gcd n.natAbs d : Nat)).natAbs (d / Nat.gcd n.natAbs d) = 1
  have hv : ((Nat.gcd n.natAbs d : Nat) : Int) ∣ n := Int.ofNat_dvd_left.mpr (Nat.gcd_dvd_left _ _)
  rw [Int.natAbs_ediv_of_dvd hv, Int.natAbs_natCast, Nat.gcd_div (Nat.gcd_dvd_left _ _) (Nat.gcd_dvd_right _ _)]
  exact Nat.div_self hg
theorem val_mk {n : Int} {d : Nat} (h : 0 < d) : val (Kzq1.mk n d) = mkRat n d := by
  have h0 : d ≠ 0 := by omega
  have o := mk_ok (n := n) h
  refine Rat.ext ?_ ?_
  · rw [val_num o, Rat.num_mkRat, if_neg h0, mk_eq h, Nat.gcd_comm]
  · rw [val_den o, Rat.den_mkRat, if_neg h0, mk_eq h, Nat.gcd_comm]
theorem whole_ok (n : Int) : Ok (Kzq1.whole n) := ⟨Nat.one_pos, Nat.gcd_one_right _⟩
theorem val_whole (n : Int) : val (Kzq1.whole n) = (n : Rat) := by
  refine Rat.ext ?_ ?_
  · rw [val_num (whole_ok n)]; rfl
  · rw [val_den (whole_ok n)]; rfl
theorem zero_ok : Ok Kzq1.zero := ⟨Nat.one_pos, Nat.gcd_one_right _⟩
theorem val_zero : val Kzq1.zero = 0 := val_whole 0
theorem half_ok : Ok Kzq1.half := ⟨by decide, by decide⟩
theorem val_half : val Kzq1.half = 1 / 2 := by
  show mkRat 1 2 = 1 / 2
  rw [Rat.mkRat_eq_div]; rfl
section
variable {a b : Q}
theorem add_ok (ha : Ok a) (hb : Ok b) : Ok (Kzq1.add a b) := mk_ok (Nat.mul_pos ha.1 hb.1)
theorem val_add (ha : Ok a) (hb : Ok b) : val (Kzq1.add a b) = val a + val b := by
  unfold Kzq1.add
  rw [val_mk (Nat.mul_pos ha.1 hb.1)]
  unfold val
  rw [Rat.mkRat_add_mkRat _ _ (by have := ha.1; omega) (by have := hb.1; omega)]
theorem neg_ok (ha : Ok a) : Ok (Kzq1.neg a) := ⟨ha.1, by show Nat.gcd (-a.n).natAbs a.d = 1; rw [Int.natAbs_neg]; exact ha.2⟩
theorem val_neg (_ : Ok a) : val (Kzq1.neg a) = - val a := by
  unfold val
  rw [Rat.neg_mkRat]; rfl
theorem sub_ok (ha : Ok a) (hb : Ok b) : Ok (Kzq1.sub a b) := add_ok ha (neg_ok hb)
theorem val_sub (ha : Ok a) (hb : Ok b) : val (Kzq1.sub a b) = val a - val b := by
  unfold Kzq1.sub
  rw [val_add ha (neg_ok hb), val_neg hb, Rat.sub_eq_add_neg]
theorem mul_ok (ha : Ok a) (hb : Ok b) : Ok (Kzq1.mul a b) := mk_ok (Nat.mul_pos ha.1 hb.1)
theorem val_mul (ha : Ok a) (hb : Ok b) : val (Kzq1.mul a b) = val a * val b := by
  unfold Kzq1.mul
  rw [val_mk (Nat.mul_pos ha.1 hb.1)]
  unfold val
  rw [Rat.mkRat_mul_mkRat]
theorem n_zero_iff (ha : Ok a) : a.n = 0 ↔ val a = 0 := by
  rw [← Rat.num_eq_zero, val_num ha]
theorem inv_ok (_ : Ok a) (h : val a ≠ 0) : Ok (Kzq1.inv a) := by
  have hn : a.n ≠ 0 := fun e => h ((n_zero_iff ‹_›).mp e)
  unfold Kzq1.inv
  split <;> exact mk_ok (by omega)
theorem val_inv (ha : Ok a) (h : val a ≠ 0) : val (Kzq1.inv a) = (val a)⁻¹ := by
  have hn : a.n ≠ 0 := fun e => h ((n_zero_iff ha).mp e)
  have hp : 0 < a.n.natAbs := by omega
  have e1 : (val a)⁻¹ = Rat.divInt (a.d : Int) a.n := by rw [Rat.inv_def, val_num ha, val_den ha]
  rw [e1]
  unfold Kzq1.inv
  split
  · rename_i c
    rw [val_mk hp, ← Rat.divInt_ofNat, show ((a.n.natAbs : Nat) : Int) = a.n by omega]
  · rename_i c
    rw [val_mk hp, ← Rat.divInt_ofNat, show ((a.n.natAbs : Nat) : Int) = -a.n by omega, Rat.neg_divInt_neg]
theorem div_ok (ha : Ok a) (hb : Ok b) (h : val b ≠ 0) : Ok (Kzq1.div a b) := mul_ok ha (inv_ok hb h)
theorem val_div (ha : Ok a) (hb : Ok b) (h : val b ≠ 0) : val (Kzq1.div a b) = val a / val b := by
  unfold Kzq1.div
  rw [val_mul ha (inv_ok hb h), val_inv hb h, Rat.div_def]
theorem lt_iff (ha : Ok a) (hb : Ok b) : Kzq1.lt a b = true ↔ val a < val b := by
  unfold Kzq1.lt
  rw [decide_eq_true_eq, Rat.lt_iff, val_num ha, val_num hb, val_den ha, val_den hb]
theorem lt_eq (ha : Ok a) (hb : Ok b) : Kzq1.lt a b = decide (val a < val b) := by
  rw [Bool.eq_iff_iff, lt_iff ha hb, decide_eq_true_eq]
theorem le_eq (ha : Ok a) (hb : Ok b) : Kzq1.le a b = decide (val a ≤ val b) := by
  unfold Kzq1.le
  rw [lt_eq hb ha, ← decide_not, decide_eq_decide, Rat.not_lt]
theorem eq_iff (ha : Ok a) (hb : Ok b) : a = b ↔ val a = val b := ⟨fun e => by rw [e], val_inj ha hb⟩
theorem isZero_eq (ha : Ok a) : Kzq1.isZero a = decide (val a = 0) := by
  unfold Kzq1.isZero
  rw [Bool.eq_iff_iff, beq_iff_eq, decide_eq_true_eq, n_zero_iff ha]
theorem pos_eq (ha : Ok a) : Kzq1.pos a = decide (0 < val a) := by
  unfold Kzq1.pos
  rw [Bool.eq_iff_iff, decide_eq_true_eq, decide_eq_true_eq, Rat.lt_iff, val_num ha]
  simp
end
/-! Points -/
def OkP (p : P) : Prop := Ok p.x ∧ Ok p.y
abbrev px (p : P) : Rat := val p.x
abbrev py (p : P) : Rat := val p.y
theorem P_ext {p q : P} (hp : OkP p) (hq : OkP q) (h1 : px p = px q) (h2 : py p = py q) : p = q := by
  have e1 := val_inj hp.1 hq.1 h1
  have e2 := val_inj hp.2 hq.2 h2
  cases p; cases q; simp_all
theorem P_eq_iff {p q : P} (hp : OkP p) (hq : OkP q) : p = q ↔ px p = px q ∧ py p = py q :=
  ⟨fun e => by rw [e]; exact ⟨rfl, rfl⟩, fun h => P_ext hp hq h.1 h.2⟩
theorem origin_ok : OkP Kzq1.origin := ⟨zero_ok, zero_ok⟩
section
variable {p q r : P}
theorem plus_ok (hp : OkP p) (hq : OkP q) : OkP (Kzq1.plus p q) := ⟨add_ok hp.1 hq.1, add_ok hp.2 hq.2⟩
theorem px_plus (hp : OkP p) (hq : OkP q) : px (Kzq1.plus p q) = px p + px q := val_add hp.1 hq.1
theorem py_plus (hp : OkP p) (hq : OkP q) : py (Kzq1.plus p q) = py p + py q := val_add hp.2 hq.2
theorem less_ok (hp : OkP p) (hq : OkP q) : OkP (Kzq1.less p q) := ⟨sub_ok hp.1 hq.1, sub_ok hp.2 hq.2⟩
theorem times_ok {k : Q} (hk : Ok k) (hp : OkP p) : OkP (Kzq1.times k p) := ⟨mul_ok hk hp.1, mul_ok hk hp.2⟩
theorem px_times {k : Q} (hk : Ok k) (hp : OkP p) : px (Kzq1.times k p) = val k * px p := val_mul hk hp.1
theorem py_times {k : Q} (hk : Ok k) (hp : OkP p) : py (Kzq1.times k p) = val k * py p := val_mul hk hp.2
theorem cross_ok (hp : OkP p) (hq : OkP q) : Ok (Kzq1.cross p q) := sub_ok (mul_ok hp.1 hq.2) (mul_ok hp.2 hq.1)
theorem val_cross (hp : OkP p) (hq : OkP q) : val (Kzq1.cross p q) = px p * py q - py p * px q := by
  unfold Kzq1.cross
  rw [val_sub (mul_ok hp.1 hq.2) (mul_ok hp.2 hq.1), val_mul hp.1 hq.2, val_mul hp.2 hq.1]
theorem turn_ok (hp : OkP p) (hq : OkP q) (hr : OkP r) : Ok (Kzq1.turn p q r) := cross_ok (less_ok hq hp) (less_ok hr hp)
theorem val_turn (hp : OkP p) (hq : OkP q) (hr : OkP r) : val (Kzq1.turn p q r) = (px q - px p) * (py r - py p) - (py q - py p) * (px r - px p) := by
  unfold Kzq1.turn
  rw [val_cross (less_ok hq hp) (less_ok hr hp)]
  show val (Kzq1.sub q.x p.x) * val (Kzq1.sub r.y p.y) - val (Kzq1.sub q.y p.y) * val (Kzq1.sub r.x p.x) = _
  rw [val_sub hq.1 hp.1, val_sub hr.2 hp.2, val_sub hq.2 hp.2, val_sub hr.1 hp.1]
end
end Sc
namespace Sc
open Kzq1 (Q P)
/-! Pieces of four corners -/
/-- piece_of: corners that stand twice in a row once, begun with the leftmost -/
def pieceOf (l : List P) : List P := Kzq1.begunWith (Kzq1.unlike l)
theorem formed_of {l : List P} (h3 : 3 ≤ (Kzq1.unlike l).length) (hs : Kzq1.straightened (Kzq1.unlike l) = Kzq1.unlike l) : Kzq1.formed l = pieceOf l := by
  unfold Kzq1.formed pieceOf
  dsimp only
  rw [hs, if_neg (by omega)]
theorem fm_cons {c : Prop} [Decidable c] {i : Nat} {x : P} {f : Nat → Option P} {r : List Nat} (h : f i = if c then none else some x) : (i :: r).filterMap f = (if c then [] else [x]) ++ r.filterMap f := by
  rw [List.filterMap_cons, h]
  by_cases k : c
  · rw [if_pos k, if_pos k]; rfl
  · rw [if_neg k, if_neg k]; rfl
theorem unlike4 (a b c d : P) : Kzq1.unlike [a, b, c, d] = (if a = b then [] else [a]) ++ ((if b = c then [] else [b]) ++ ((if c = d then [] else [c]) ++ (if d = a then [] else [d]))) := by
  have e4 : Kzq1.at0 [a, b, c, d] (3 + 1) = a := by simp [Kzq1.at0]
  show List.filterMap (fun i => if Kzq1.at0 [a, b, c, d] i = Kzq1.at0 [a, b, c, d] (i + 1) then none else some (Kzq1.at0 [a, b, c, d] i)) [0, 1, 2, 3] = _
  rw [fm_cons (c := a = b) (x := a) rfl, fm_cons (c := b = c) (x := b) rfl, fm_cons (c := c = d) (x := c) rfl, fm_cons (c := d = a) (x := d) (by rw [e4]; rfl)]
  simp
theorem straight4 {a b c d : P} (h1 : Kzq1.isZero (Kzq1.turn d a b) = false) (h2 : Kzq1.isZero (Kzq1.turn a b c) = false) (h3 : Kzq1.isZero (Kzq1.turn b c d) = false) (h4 : Kzq1.isZero (Kzq1.turn c d a) = false) :
    Kzq1.straightened [a, b, c, d] = [a, b, c, d] := by
  have r : List.range 4 = [0, 1, 2, 3] := rfl
  unfold Kzq1.straightened
  simp only [List.length_cons, List.length_nil, Nat.zero_add, Nat.reduceAdd, r, List.filterMap_cons, List.filterMap_nil]
  have e0 : Kzq1.at0 [a, b, c, d] 0 = a := by simp [Kzq1.at0]
  have e1 : Kzq1.at0 [a, b, c, d] 1 = b := by simp [Kzq1.at0]
  have e2 : Kzq1.at0 [a, b, c, d] 2 = c := by simp [Kzq1.at0]
  have e3 : Kzq1.at0 [a, b, c, d] 3 = d := by simp [Kzq1.at0]
  have e4 : Kzq1.at0 [a, b, c, d] 4 = a := by simp [Kzq1.at0]
  have e5 : Kzq1.at0 [a, b, c, d] 5 = b := by simp [Kzq1.at0]
  have e6 : Kzq1.at0 [a, b, c, d] 6 = c := by simp [Kzq1.at0]
  simp [e0, e1, e2, e3, e4, e5, e6, h1, h2, h3, h4]
theorem straight3 {a b c : P} (h1 : Kzq1.isZero (Kzq1.turn c a b) = false) (h2 : Kzq1.isZero (Kzq1.turn a b c) = false) (h3 : Kzq1.isZero (Kzq1.turn b c a) = false) :
    Kzq1.straightened [a, b, c] = [a, b, c] := by
  have r : List.range 3 = [0, 1, 2] := rfl
  unfold Kzq1.straightened
  simp only [List.length_cons, List.length_nil, Nat.zero_add, Nat.reduceAdd, r, List.filterMap_cons, List.filterMap_nil]
  have e0 : Kzq1.at0 [a, b, c] 0 = a := by simp [Kzq1.at0]
  have e1 : Kzq1.at0 [a, b, c] 1 = b := by simp [Kzq1.at0]
  have e2 : Kzq1.at0 [a, b, c] 2 = c := by simp [Kzq1.at0]
  have e3 : Kzq1.at0 [a, b, c] 3 = a := by simp [Kzq1.at0]
  have e4 : Kzq1.at0 [a, b, c] 4 = b := by simp [Kzq1.at0]
  simp [e0, e1, e2, e3, e4, h1, h2, h3]
theorem isZero_turn {p q r : P} (hp : OkP p) (hq : OkP q) (hr : OkP r) (h : (px q - px p) * (py r - py p) - (py q - py p) * (px r - px p) ≠ 0) : Kzq1.isZero (Kzq1.turn p q r) = false := by
  rw [isZero_eq (turn_ok hp hq hr), val_turn hp hq hr, decide_eq_false h]
theorem mul_ne {x y : Rat} (hx : 0 < x) (hy : 0 < y) : x * y ≠ 0 := Rat.ne_of_gt (Rat.mul_pos hx hy)
/-- two points below, two above, the upper ones higher; not just one below and one above -/
structure Trap (a b c d : P) : Prop where
  oa : OkP a
  ob : OkP b
  oc : OkP c
  od : OkP d
  y0 : py a = py b
  y1 : py c = py d
  up : py a < py c
  xab : px a ≤ px b
  xdc : px d ≤ px c
  big : px a < px b ∨ px d < px c
theorem Trap.ne {a b c d : P} (t : Trap a b c d) : b ≠ c ∧ d ≠ a := by
  constructor
  · intro e
    have := t.up; have := t.y0
    rw [e] at this; grind
  · intro e
    have := t.up; have := t.y1
    rw [e] at this; grind
theorem Trap.formed {a b c d : P} (t : Trap a b c d) : Kzq1.formed [a, b, c, d] = pieceOf [a, b, c, d] := by
  obtain ⟨nbc, nda⟩ := t.ne
  obtain ⟨oa, ob, oc, od, y0, y1, up, xab, xdc, big⟩ := t
  have hh : 0 < py c - py a := by grind
  by_cases e1 : a = b
  · have nx : px d < px c := by subst e1; grind
    have ncd : c ≠ d := fun e => by rw [e] at nx; grind
    have u : Kzq1.unlike [a, b, c, d] = [b, c, d] := by
      rw [unlike4, if_pos e1, if_neg nbc, if_neg ncd, if_neg nda]; rfl
    subst e1
    have k : 0 < px c - px d := by grind
    have m := mul_ne k hh
    refine formed_of (by rw [u]; simp) (by
      rw [u]
      exact straight3 (isZero_turn od oa oc (by grind)) (isZero_turn oa oc od (by grind)) (isZero_turn oc od oa (by grind)))
  · have nx : px a < px b := by
      rcases Rat.le_iff_lt_or_eq.mp xab with h | h
      · exact h
      · exact absurd (P_ext oa ob h y0) e1
    have k : 0 < px b - px a := by grind
    have m := mul_ne k hh
    by_cases e2 : c = d
    · have u : Kzq1.unlike [a, b, c, d] = [a, b, d] := by
        rw [unlike4, if_neg e1, if_neg nbc, if_pos e2, if_neg nda]; rfl
      subst e2
      refine formed_of (by rw [u]; simp) (by
        rw [u]
        exact straight3 (isZero_turn oc oa ob (by grind)) (isZero_turn oa ob oc (by grind)) (isZero_turn ob oc oa (by grind)))
    · have nx2 : px d < px c := by
        rcases Rat.le_iff_lt_or_eq.mp xdc with h | h
        · exact h
        · exact absurd (P_ext oc od h.symm y1) e2
      have k2 : 0 < px c - px d := by grind
      have m2 := mul_ne k2 hh
      have u : Kzq1.unlike [a, b, c, d] = [a, b, c, d] := by
        rw [unlike4, if_neg e1, if_neg nbc, if_neg e2, if_neg nda]; rfl
      refine formed_of (by rw [u]; simp) (by
        rw [u]
        exact straight4 (isZero_turn od oa ob (by grind)) (isZero_turn oa ob oc (by grind)) (isZero_turn ob oc od (by grind)) (isZero_turn oc od oa (by grind)))
/-- the middle of two points -/
def mid (a b : P) : P := Kzq1.times Kzq1.half (Kzq1.plus a b)
theorem mid_ok {a b : P} (ha : OkP a) (hb : OkP b) : OkP (mid a b) := times_ok half_ok (plus_ok ha hb)
theorem px_mid {a b : P} (ha : OkP a) (hb : OkP b) : px (mid a b) = (px a + px b) / 2 := by
  unfold mid
  rw [px_times half_ok (plus_ok ha hb), px_plus ha hb, val_half]; grind
theorem py_mid {a b : P} (ha : OkP a) (hb : OkP b) : py (mid a b) = (py a + py b) / 2 := by
  unfold mid
  rw [py_times half_ok (plus_ok ha hb), py_plus ha hb, val_half]; grind
theorem Trap.low {a b c d : P} (t : Trap a b c d) : Trap a b (mid b c) (mid a d) := by
  obtain ⟨oa, ob, oc, od, y0, y1, up, xab, xdc, big⟩ := t
  have m1 := px_mid ob oc; have m2 := py_mid ob oc; have m3 := px_mid oa od; have m4 := py_mid oa od
  exact ⟨oa, ob, mid_ok ob oc, mid_ok oa od, y0, by grind, by grind, xab, by grind, .inr (by grind)⟩
theorem Trap.high {a b c d : P} (t : Trap a b c d) : Trap (mid a d) (mid b c) c d := by
  obtain ⟨oa, ob, oc, od, y0, y1, up, xab, xdc, big⟩ := t
  have m1 := px_mid ob oc; have m2 := py_mid ob oc; have m3 := px_mid oa od; have m4 := py_mid oa od
  exact ⟨mid_ok oa od, mid_ok ob oc, oc, od, by grind, y1, by grind, by grind, xdc, .inl (by grind)⟩
theorem mid_twice {b c : P} (hb : OkP b) (hc : OkP c) : Kzq1.plus (mid b c) (mid b c) = Kzq1.plus b c := by
  have m := mid_ok hb hc
  refine P_ext (plus_ok m m) (plus_ok hb hc) ?_ ?_
  · rw [px_plus m m, px_plus hb hc, px_mid hb hc]; grind
  · rw [py_plus m m, py_plus hb hc, py_mid hb hc]; grind
/-- the mirror of slice_halved -/
def halves (a b c e : P) : List Kzq2.Part := [⟨pieceOf [a, b, mid b c, mid a e], Kzq2.stay⟩, ⟨pieceOf [mid a e, mid b c, c, e], ⟨true, Kzq1.plus b c⟩⟩]
theorem halved_is {a b c e : P} (t : Trap a b c e) : (Kzq2.halved a b c e).1 = halves a b c e := by
  show [(⟨Kzq1.formed [a, b, mid b c, mid a e], Kzq2.stay⟩ : Kzq2.Part), ⟨Kzq1.formed [mid a e, mid b c, c, e], ⟨true, Kzq1.plus (mid b c) (mid b c)⟩⟩] = _
  rw [t.low.formed, t.high.formed, mid_twice t.ob t.oc]
  rfl
end Sc
namespace Sc
open Kzq1 (Q P)
/-! Sizes of numbers; the program's own fraction of two numbers -/
def gcdI (a b : Int) : Int := (Nat.gcd a.natAbs b.natAbs : Nat)
def Sz (k : Nat) (q : Q) : Prop := q.n.natAbs < 2 ^ k ∧ q.d < 2 ^ k
theorem Sz.mono {j k : Nat} {q : Q} (h : Sz j q) (hk : j ≤ k) : Sz k q :=
  have p : 2 ^ j ≤ 2 ^ k := Nat.pow_le_pow_right (by omega) hk
  ⟨Nat.lt_of_lt_of_le h.1 p, Nat.lt_of_lt_of_le h.2 p⟩
theorem mk_sz {n : Int} {d k : Nat} (h : 0 < d) (hn : n.natAbs < 2 ^ k) (hd : d < 2 ^ k) : Sz k (Kzq1.mk n d) := by
  have hv : ((Nat.gcd n.natAbs d : Nat) : Int) ∣ n := Int.ofNat_dvd_left.mpr (Nat.gcd_dvd_left _ _)
  rw [mk_eq h]
  refine ⟨?_, Nat.lt_of_le_of_lt (Nat.div_le_self _ _) hd⟩
  show (n / (Nat.gcd n.natAbs d : Nat)).natAbs < _
  rw [Int.natAbs_ediv_of_dvd hv, Int.natAbs_natCast]
  exact Nat.lt_of_le_of_lt (Nat.div_le_self _ _) hn
theorem mul_lt {i j : Int} {a b : Nat} (ha : i.natAbs < 2 ^ a) (hb : j.natAbs < 2 ^ b) : (i * j).natAbs < 2 ^ (a + b) := by
  rw [Int.natAbs_mul, Nat.pow_add]
  exact Nat.mul_lt_mul'' ha hb
theorem cross_lt {i j k l : Int} {a b : Nat} (h1 : i.natAbs < 2 ^ a) (h2 : j.natAbs < 2 ^ b) (h3 : k.natAbs < 2 ^ b) (h4 : l.natAbs < 2 ^ a) : (i * j + k * l).natAbs < 2 ^ (a + b + 1) := by
  have p := mul_lt h1 h2
  have q := mul_lt h3 h4
  rw [Nat.add_comm b a] at q
  have e : 2 ^ (a + b + 1) = 2 ^ (a + b) + 2 ^ (a + b) := by rw [Nat.pow_succ]; omega
  have := Int.natAbs_add_le (i * j) (k * l)
  omega
section
variable {a b : Q} {j k : Nat}
theorem add_sz (ha : Ok a) (hb : Ok b) (h1 : Sz j a) (h2 : Sz k b) : Sz (j + k + 1) (Kzq1.add a b) := by
  refine mk_sz (Nat.mul_pos ha.1 hb.1) (cross_lt h1.1 (by simpa using h2.2) h2.1 (by simpa using h1.2)) ?_
  have p : a.d * b.d < 2 ^ j * 2 ^ k := Nat.mul_lt_mul'' h1.2 h2.2
  rw [← Nat.pow_add] at p
  exact Nat.lt_of_lt_of_le p (Nat.pow_le_pow_right (by omega) (by omega))
theorem neg_sz (h : Sz j a) : Sz j (Kzq1.neg a) := ⟨by show (-a.n).natAbs < _; rw [Int.natAbs_neg]; exact h.1, h.2⟩
theorem sub_sz (ha : Ok a) (hb : Ok b) (h1 : Sz j a) (h2 : Sz k b) : Sz (j + k + 1) (Kzq1.sub a b) := add_sz ha (neg_ok hb) h1 (neg_sz h2)
theorem mul_sz (ha : Ok a) (hb : Ok b) (h1 : Sz j a) (h2 : Sz k b) : Sz (j + k) (Kzq1.mul a b) := by
  refine mk_sz (Nat.mul_pos ha.1 hb.1) (mul_lt h1.1 h2.1) ?_
  have p : a.d * b.d < 2 ^ j * 2 ^ k := Nat.mul_lt_mul'' h1.2 h2.2
  rw [← Nat.pow_add] at p
  exact p
theorem half_sz : Sz 2 Kzq1.half := ⟨by decide, by decide⟩
end
def SzP (k : Nat) (p : P) : Prop := Sz k p.x ∧ Sz k p.y
theorem SzP.mono {j k : Nat} {p : P} (h : SzP j p) (hk : j ≤ k) : SzP k p := ⟨h.1.mono hk, h.2.mono hk⟩
theorem plus_sz {p q : P} {j k : Nat} (hp : OkP p) (hq : OkP q) (h1 : SzP j p) (h2 : SzP k q) : SzP (j + k + 1) (Kzq1.plus p q) := ⟨add_sz hp.1 hq.1 h1.1 h2.1, add_sz hp.2 hq.2 h1.2 h2.2⟩
theorem mid_sz {p q : P} {j k : Nat} (hp : OkP p) (hq : OkP q) (h1 : SzP j p) (h2 : SzP k q) : SzP (j + k + 3) (mid p q) := by
  have o := plus_ok hp hq
  have z := plus_sz hp hq h1 h2
  exact ⟨(mul_sz half_ok o.1 half_sz z.1).mono (by omega), (mul_sz half_ok o.2 half_sz z.2).mono (by omega)⟩
/-- ratio(top, bottom): the lower number may be below 0 -/
def mkI (t b : Int) : Q := if b < 0 then Kzq1.mk (-t) b.natAbs else Kzq1.mk t b.natAbs
theorem mkI_ok {t b : Int} (h : b ≠ 0) : Ok (mkI t b) := by
  unfold mkI
  split <;> exact mk_ok (by omega)
theorem mkI_pos {t b : Int} (h : 0 < b) : mkI t b = Kzq1.mk t b.toNat := by
  unfold mkI
  rw [if_neg (by omega)]
  congr 1; omega
theorem mkI_nat {t : Int} {d : Nat} (h : 0 < d) : mkI t (d : Int) = Kzq1.mk t d := by
  rw [mkI_pos (by omega)]; rfl
theorem gcdI_pos {t b : Int} (h : b ≠ 0) : 0 < gcdI t b := by
  have : 0 < Nat.gcd t.natAbs b.natAbs := Nat.gcd_pos_of_pos_right _ (by omega)
  unfold gcdI; omega
theorem mkI_up {t b : Int} (h : b ≠ 0) : t.fdiv (if b < 0 then -gcdI t b else gcdI t b) = (mkI t b).n := by
  have hg := gcdI_pos (t := t) h
  have hd : gcdI t b ∣ t := Int.ofNat_dvd_left.mpr (Nat.gcd_dvd_left _ _)
  unfold mkI
  by_cases c : b < 0
  · rw [if_pos c, if_pos c, mk_eq (by omega)]
    show _ = -t / (Nat.gcd (-t).natAbs b.natAbs : Nat)
    rw [Int.natAbs_neg]
    obtain ⟨x, hx⟩ := hd
    show _ = -t / gcdI t b
    generalize gcdI t b = g at *
    subst hx
    rw [← Int.mul_neg, Int.mul_ediv_cancel_left _ (by omega), show g * x = (-g) * (-x) by rw [Int.neg_mul_neg], Int.mul_fdiv_cancel_left _ (by omega)]
  · rw [if_neg c, if_neg c, mk_eq (by omega)]
    show _ = t / gcdI t b
    exact Int.fdiv_eq_ediv_of_nonneg _ (by omega)
theorem mkI_low {t b : Int} (h : b ≠ 0) : b.fdiv (if b < 0 then -gcdI t b else gcdI t b) = ((mkI t b).d : Int) := by
  have hg := gcdI_pos (t := t) h
  have hd : gcdI t b ∣ b := Int.ofNat_dvd_left.mpr (Nat.gcd_dvd_right _ _)
  have key : ((b.natAbs / Nat.gcd t.natAbs b.natAbs : Nat) : Int) = (b.natAbs : Int) / gcdI t b := by
    rw [Int.natCast_ediv]; rfl
  unfold mkI
  by_cases c : b < 0
  · rw [if_pos c, if_pos c, mk_eq (by omega)]
    show _ = ((b.natAbs / Nat.gcd (-t).natAbs b.natAbs : Nat) : Int)
    rw [Int.natAbs_neg, key, show ((b.natAbs : Nat) : Int) = -b by omega]
    obtain ⟨x, hx⟩ := hd
    generalize gcdI t b = g at *
    subst hx
    rw [← Int.mul_neg, Int.mul_ediv_cancel_left _ (by omega), show g * x = (-g) * (-x) by rw [Int.neg_mul_neg], Int.mul_fdiv_cancel_left _ (by omega)]
  · rw [if_neg c, if_neg c, mk_eq (by omega)]
    show _ = ((b.natAbs / Nat.gcd t.natAbs b.natAbs : Nat) : Int)
    rw [key, show ((b.natAbs : Nat) : Int) = b by omega]
    exact Int.fdiv_eq_ediv_of_nonneg _ (by omega)
theorem gcdI_le {t b : Int} (h : b ≠ 0) : (gcdI t b).natAbs ≤ b.natAbs := by
  have := Nat.gcd_le_right t.natAbs (show 0 < b.natAbs by omega)
  unfold gcdI; omega
end Sc
namespace Sc
open Kzq1 (Q P)
/-! Reading points -/
def rdPt : List Int → Option P
  | [a, b, c, d] => match Kzq1.readQ a b, Kzq1.readQ c d with
    | some x, some y => some ⟨x, y⟩
    | _, _ => none
  | _ => none
theorem rp_cons (a b c d : Int) (l : List Int) : Kzq1.readPoints (a :: b :: c :: d :: l) = match rdPt [a, b, c, d], Kzq1.readPoints l with
    | some x, some r => some (x :: r)
    | _, _ => none := by
  show (match Kzq1.readQ a b, Kzq1.readQ c d, Kzq1.readPoints l with
    | some x, some y, some r => some ((⟨x, y⟩ : P) :: r)
    | _, _, _ => none) = (match (match Kzq1.readQ a b, Kzq1.readQ c d with
    | some x, some y => some (⟨x, y⟩ : P)
    | _, _ => none), Kzq1.readPoints l with
    | some x, some r => some (x :: r)
    | _, _ => none)
  cases Kzq1.readQ a b <;> cases Kzq1.readQ c d <;> cases Kzq1.readPoints l <;> rfl
theorem rp_app : ∀ (n : Nat) (l m : List Int), l.length = 4 * n → Kzq1.readPoints (l ++ m) = match Kzq1.readPoints l, Kzq1.readPoints m with
    | some x, some y => some (x ++ y)
    | _, _ => none
  | 0, l, m, h => by
    have e : l = [] := List.length_eq_zero_iff.mp (by omega)
    subst e
    show Kzq1.readPoints m = (match some ([] : List P), Kzq1.readPoints m with
      | some x, some y => some (x ++ y)
      | _, _ => none)
    cases Kzq1.readPoints m <;> rfl
  | n + 1, l, m, h => by
    match l, h with
    | a :: b :: c :: d :: r, h =>
      have h' : r.length = 4 * n := by simp at h; omega
      show Kzq1.readPoints (a :: b :: c :: d :: (r ++ m)) = _
      rw [rp_cons, rp_cons, rp_app n r m h']
      cases rdPt [a, b, c, d] <;> cases Kzq1.readPoints r <;> cases Kzq1.readPoints m <;> rfl
theorem rp_four {l : List Int} (h : l.length = 4) : Kzq1.readPoints l = (rdPt l).map fun p => [p] := by
  match l, h with
  | [a, b, c, d], _ =>
    rw [rp_cons]
    show (match rdPt [a, b, c, d], some ([] : List P) with
      | some x, some r => some (x :: r)
      | _, _ => none) = _
    cases rdPt [a, b, c, d] <;> rfl
/-- four more numbers -/
theorem rp_more {ns : List Int} {i n : Nat} (h : ns.length = 4 * n) (hi : i < n) : Kzq1.readPoints (ns.take (4 * (i + 1))) = match Kzq1.readPoints (ns.take (4 * i)), rdPt ((ns.drop (4 * i)).take 4) with
    | some x, some y => some (x ++ [y])
    | _, _ => none := by
  have e : ns.take (4 * (i + 1)) = ns.take (4 * i) ++ (ns.drop (4 * i)).take 4 := by
    rw [← List.take_add, Nat.mul_succ]
  rw [e, rp_app i _ _ (by rw [List.length_take]; omega), rp_four (l := (ns.drop (4 * i)).take 4) (by rw [List.length_take, List.length_drop]; omega)]
  cases Kzq1.readPoints (ns.take (4 * i)) <;> cases rdPt ((ns.drop (4 * i)).take 4) <;> rfl
theorem rp_bad {ns : List Int} {i n : Nat} (h : ns.length = 4 * n) (hi : i < n) (hr : rdPt ((ns.drop (4 * i)).take 4) = none) : Kzq1.readPoints ns = none := by
  have e : ns = ns.take (4 * (i + 1)) ++ ns.drop (4 * (i + 1)) := (List.take_append_drop _ _).symm
  rw [e, rp_app (i + 1) _ _ (by rw [List.length_take]; omega), rp_more h hi, hr]
  cases Kzq1.readPoints (ns.take (4 * i)) <;> rfl
theorem readQ_ok {a b : Int} {q : Q} (h : Kzq1.readQ a b = some q) : Ok q ∧ q.n = a ∧ (q.d : Int) = b := by
  unfold Kzq1.readQ at h
  split at h
  · cases h
  · split at h
    · rename_i c1 c2
      cases h
      exact ⟨(okQ_iff _).mp c2, rfl, by show ((b.toNat : Nat) : Int) = b; omega⟩
    · cases h
theorem rdPt_ok {l : List Int} {p : P} (h : rdPt l = some p) : OkP p ∧ l = [p.x.n, (p.x.d : Int), p.y.n, (p.y.d : Int)] := by
  unfold rdPt at h
  split at h
  · split at h
    · rename_i x y h1 h2
      cases h
      obtain ⟨o1, e1, e2⟩ := readQ_ok h1
      obtain ⟨o2, e3, e4⟩ := readQ_ok h2
      exact ⟨⟨o1, o2⟩, by rw [e1, e2, e3, e4]⟩
    · cases h
  · cases h
/-- what is read has fractions as told, of the numbers that were handed in -/
theorem rp_ok : ∀ {l : List Int} {ps : List P}, Kzq1.readPoints l = some ps → l = Kzq1.written ps ∧ ∀ p ∈ ps, OkP p
  | [], ps, h => by
    cases h
    exact ⟨rfl, fun p hp => by cases hp⟩
  | [_], ps, h => by cases h
  | [_, _], ps, h => by cases h
  | [_, _, _], ps, h => by cases h
  | a :: b :: c :: d :: r, ps, h => by
    rw [rp_cons] at h
    cases h1 : rdPt [a, b, c, d] with
    | none => rw [h1] at h; cases h
    | some p =>
      cases h2 : Kzq1.readPoints r with
      | none => rw [h1, h2] at h; cases h
      | some qs =>
        rw [h1, h2] at h
        cases h
        obtain ⟨o, e⟩ := rdPt_ok h1
        obtain ⟨e2, o2⟩ := rp_ok h2
        refine ⟨?_, fun z hz => ?_⟩
        · show _ = (p.x.n :: (p.x.d : Int) :: p.y.n :: (p.y.d : Int) :: Kzq1.written qs)
          rw [← e2]
          injection e with e3 e4
          injection e4 with e5 e6
          injection e6 with e7 e8
          injection e8 with e9 _
          rw [e3, e5, e7, e9]
        · rcases List.mem_cons.mp hz with rfl | hz
          · exact o
          · exact o2 z hz
theorem written_len : ∀ ps : List P, (Kzq1.written ps).length = 4 * ps.length
  | [] => rfl
  | p :: r => by
    show (p.x.n :: (p.x.d : Int) :: p.y.n :: (p.y.d : Int) :: Kzq1.written r).length = _
    simp only [List.length_cons, written_len r]
    omega
theorem rp_len {l : List Int} {ps : List P} (h : Kzq1.readPoints l = some ps) : l.length = 4 * ps.length := by
  obtain ⟨e, _⟩ := rp_ok h
  rw [e, written_len]
theorem rp_sz {l : List Int} {ps : List P} {k : Nat} (h : Kzq1.readPoints l = some ps) (hl : ∀ x ∈ l, x.natAbs < 2 ^ k) : ∀ p ∈ ps, SzP k p := by
  obtain ⟨e, _⟩ := rp_ok h
  intro p hp
  have m : ∀ x ∈ [p.x.n, (p.x.d : Int), p.y.n, (p.y.d : Int)], x.natAbs < 2 ^ k := fun x hx => hl x (by
    rw [e]
    exact List.mem_flatMap.mpr ⟨p, hp, hx⟩)
  have a1 := m p.x.n (by simp)
  have a2 := m (p.x.d : Int) (by simp)
  have a3 := m p.y.n (by simp)
  have a4 := m (p.y.d : Int) (by simp)
  rw [Int.natAbs_natCast] at a2 a4
  exact ⟨⟨a1, a2⟩, ⟨a3, a4⟩⟩
end Sc
/-! A comprehension whose item may raise: the error leaves the block, its names are let go, and it goes on in the def. -/
namespace ScL
open PySem PySem.Spec PyProof.Rows L2
/-- what is due behind a block's end: z is the block's own scene -/
def PostOk (M : Model) (A : Around) (E : Value → Shared → Prop) (use : Option (Value → Sem Unit)) (Qv : Value → Shared → Prop) (acc : Value) (z : Env) (t : Shared) : Prop := match use with
  | none => ∃ m, t.heap.Ns z.locals m ∧ ∀ g, Heap.SameBut z.locals t.heap g → Qv acc { t with heap := g }
  | some u => wpAny M A (u acc) (fun _ t2 => ∃ m, t2.heap.Ns z.locals m ∧ ∀ g, Heap.SameBut z.locals t2.heap g → Qv .none { t2 with heap := g }) E t
def PostX (M : Model) (A : Around) (E : Value → Shared → Prop) (use : Option (Value → Sem Unit)) (Qv : Value → Shared → Prop) (acc : Value) (z : Env) : Result → Shared → Prop
  | .ok _, t => PostOk M A E use Qv acc z t
  | .error u, t => ∃ m, t.heap.Ns z.locals m ∧ ∀ g, Heap.SameBut z.locals t.heap g → wpAny M A (passOn "comprehension.variables-let-go" u z : Sem Value) (fun _ _ => False) E { t with heap := g }
theorem comp_any {M : Model} {A : Around} {E : Value → Shared → Prop} {s : Shared} {env : Env} {e : Expr} {scope : Scope} {pos : Pos} {newAcc first : Sem Value} {g : Comprehension} {gs : List Comprehension} {cl : List (Str × Addr)} {use : Option (Value → Sem Unit)} {Qv : Value → Shared → Prop}
    (h1 : clausesOf e = g :: gs) (h2 : ∀ x, foldedSetIterable g.iter env x = pure x) (h3 : closureFor scope env = pure cl) (h4 : scope.kind = .function)
    (h5 : ∀ x ∈ scope.names, x.2 = .local → scope.names.lookup x.1 = some .local)
    (h : wpAny M A first (fun x t1 => wpAny M A (pyIter x) (fun it t2 => wpAny M A newAcc (fun acc t3 =>
      wpAny M A (newFunctionEnv scope env.globals cl [] env.qual none .none (some env)) (fun ce t4 =>
        codeAny M A (.compStart e 0 it acc { ce with scope := relabel scope env }) (PostX M A E use Qv acc { ce with scope := relabel scope env }) t4) E t3) E t2) E t1) E s) :
    wpAny M A (comprehension e scope env pos newAcc false first use) Qv E s := by
  unfold comprehension
  rw [h3, h1]
  refine wpAny_bind (wpAny_mono h (fun x t1 k1 => wpAny_bind (wpAny_standAt (wpAny_bind (wpAny_of_eq (h2 x) (wpAny_bind (wpAny_holding (wpAny_mono k1 (fun it t2 k2 =>
    wpAny_standIf (wpAny_bind (wpAny_mono k2 (fun acc t3 k3 => wpAny_bind (wpAny_pure (wpAny_bind (wpAny_mono k3 (fun ce t4 k4 => ?_) fun _ _ y => y)))) fun _ _ y => y))) fun _ _ y => y))))))) fun _ _ y => y)
  dsimp only
  have hv : ∀ x ∈ (scope.names.filter fun x => (x.2 == .local || x.2 == .cell) && x.1 != (".0" : Str)).reverse, x.2 = .local → Env.kindOf { ce with scope := relabel scope env } x.1 = some .local :=
    fun x hx hl => lookup_relabel_local (h5 x (List.mem_filter.mp (List.mem_reverse.mp hx)).1 hl)
  have hw : ∀ x ∈ (scope.names.filter fun x => (x.2 == .local || x.2 == .cell) && x.1 != (".0" : Str)).reverse.drop 1 ++ (scope.names.filter fun x => (x.2 == .local || x.2 == .cell) && x.1 != (".0" : Str)).reverse.take 1, x.2 = .local → Env.kindOf { ce with scope := relabel scope env } x.1 = some .local := fun x hx hl => by
    rcases List.mem_append.mp hx with k | k
    · exact hv x (List.mem_of_mem_drop k) hl
    · exact hv x (List.mem_of_mem_take k) hl
  refine wpAny_holding (wpAny_bind (wpAny_attempt (wpAny_holding (wpAny_run (codeAny_mono k4 fun r t5 hr => ?_)))))
  cases r with
  | ok f =>
    cases use with
    | none =>
      obtain ⟨m, hn, hr⟩ := hr
      exact wpAny_bind (wpAny_holding (wpAny_comp_letGo (cenv := { ce with scope := relabel scope env }) h4 _ t5 m hv hn fun g' m' _ hs' => wpAny_pure (hr g' hs')))
    | some u =>
      refine wpAny_bind (wpAny_rule (wpAny_bind (wpAny_holding (wpAny_mono hr (fun _ t6 hr' => ?_) fun _ _ y => y))))
      obtain ⟨m, hn, hr'⟩ := hr'
      exact wpAny_bind (wpAny_comp_letGo (cenv := { ce with scope := relabel scope env }) h4 _ t6 m hw hn fun g' m' _ hs' => wpAny_pure (hr' g' hs'))
  | error u =>
    have hr : ∃ m, t5.heap.Ns ce.locals m ∧ ∀ g, Heap.SameBut ce.locals t5.heap g → wpAny M A (passOn "comprehension.variables-let-go" u { ce with scope := relabel scope env } : Sem Value) (fun _ _ => False) E { t5 with heap := g } := hr
    obtain ⟨m, hn, hr⟩ := hr
    exact wpAny_bind (wpAny_holding (wpAny_comp_letGo (cenv := { ce with scope := relabel scope env }) h4 _ t5 m hv hn fun g' m' _ hs' => wpAny_mono (hr g' hs') (fun _ _ f => f.elim) fun _ _ y => y))
/-- the block's scene with a wish of exceptions -/
abbrev blkX (X : Cx) (s : Shared) (H : Hp) (scope : Scope) (ce : Env) (fp : List Addr) (xe : Value → Shared → Prop) : Cx := (X.blk s H scope ce fp).tr [] xe
theorem toX {X : Cx} {s : Shared} {H H' : Hp} {scope : Scope} {ce : Env} {fp : List Addr} {xe : Value → Shared → Prop} {pins : List (Addr × Obj)} {σ : L2.St} {t : Shared}
    (I : Inv (X.blk s H scope ce fp) pins σ H' t) : Inv (blkX X s H scope ce fp xe) pins σ H' t :=
  ⟨I.ok.toTry _ _, I.os, I.bare, I.base, I.loc, I.cell, I.free, I.freeC, I.pin, I.hok, I.len⟩
theorem note_env {M : Model} {A : Around} {E : Value → Shared → Prop} {s : Shared} {u : Value} {e1 e2 : Env} {Q : Unit → Shared → Prop} (h : e1.frame = e2.frame) (k : wpAny M A (noteFrame u e2) Q E s) : wpAny M A (noteFrame u e1) Q E s := by
  have q : noteFrame u e1 = noteFrame u e2 := by
    unfold noteFrame PySem.frameOf
    rw [h]
  rw [q]
  exact k
/-- an error that a call within the block lets out is, behind the block, in the def's own air -/
theorem out_of {X : Cx} {pins pins' : List (Addr × Obj)} {σ σ' : L2.St} {H3 H : Hp} {s3 s s' : Shared} {scope : Scope} {ce : Env} {fp : List Addr} {E : XK} {xe : Value → Shared → Prop} {u : Value} {use : Option (Value → Sem Unit)} {Qv : Value → Shared → Prop} {acc : Value}
    (hs : X.stack = X.env :: X.outer) (hf : X.env.frame = some X.env.locals) (hce : ce.frame = X.env.frame) (hcl : s3.heap.objs.size = ce.locals)
    (I3 : Inv X pins σ H3 s3) (f3 : ∀ b ∈ fp, FpOk X pins H3 b) (tk : Takes X (fun cls d _ H' => E cls d H'))
    (I : Inv (blkX X s3 H3 scope ce fp xe) pins' σ' H s) (c : CX X.prog X.w X.stack H s E u s') :
    notedBy (model X.prog X.w) X.A ce (fun e t => PostX (model X.prog X.w) X.A X.xe use Qv acc ce (.error e) t) u s' := by
  obtain ⟨a, B, H', cls, d, rfl, fl, hok, ub, na, os, ag, hE⟩ := c
  have nC : H ce.locals = none := I.free
  have nfr : ce.locals ∉ frs X.stack := fun hb => by
    obtain ⟨_, o, ho, _⟩ := I.ok.funs.mem hb
    have z := Heap.lt_size ho
    have z2 : s3.heap.objs.size ≤ ce.locals := I.ok.above
    exact absurd (Nat.lt_of_lt_of_le z z2) (Nat.lt_irrefl _)
  obtain ⟨mC, ⟨oC, esC, epC, hoC, rC⟩, _⟩ := I.loc
  have hoC : s.heap.get? ce.locals = some oC := hoC
  have BC : B.get? ce.locals = some oC := ub.keep _ _ hoC nC nfr
  have nC' : H' ce.locals = none := ub.free _ _ hoC nC
  have fl' : HandSPX.FlyingZ B (X.env :: X.outer) a (Zc cls d) s'.heap := by rw [← hs]; exact fl
  have hfr : X.A.frames = some (X.env :: X.outer) := by rw [I3.ok.frames, hs]
  refine note_env hce (HandSPX.looks_onZ Zc.steady hfr hf fl' fun g1 held up1 => ?_)
  obtain ⟨st1, nBa, ff1, oe, vs, T, oT, ts, he, hz, hd, h1, hnT, hTe, hT, hdT, hts⟩ := held
  have hC1 : g1.get? ce.locals = some oC := st1 _ _ BC
  refine ⟨mC, ⟨oC, esC, epC, hC1, rC⟩, fun g2 sb => ?_⟩
  have aC : a ≠ ce.locals := fun e => by rw [e, BC] at nBa; cases nBa
  have TC : T ≠ ce.locals := fun e => by rw [e, BC] at hnT; cases hnT
  -- the ground without the block's scene
  obtain ⟨B2, b1, b2⟩ := restrict B fun b => decide (b ≠ ce.locals)
  have bk : ∀ b, b ≠ ce.locals → B2.get? b = B.get? b := fun b hb => b1 b (decide_eq_true hb)
  have bn : B2.get? ce.locals = none := b2 _ (by simp)
  have ofB : ∀ b o, B2.get? b = some o → b ≠ ce.locals ∧ B.get? b = some o := fun b o q => by
    by_cases hb : b = ce.locals
    · rw [hb, bn] at q; cases q
    · rw [bk b hb] at q; exact ⟨hb, q⟩
  have nB2 : ∀ b, B.get? b = none → B2.get? b = none := fun b q => by
    by_cases hb : b = ce.locals
    · rw [hb]; exact bn
    · rw [bk b hb]; exact q
  have st2 : B2.StaysIn g2 := fun b o q => by
    obtain ⟨hb, q⟩ := ofB b o q
    exact (sb.2 b hb).trans (st1 b o q)
  have ff2 : g2.FunFrames B2 (X.env :: X.outer) := by
    have ffB : g1.FunFrames B2 (X.env :: X.outer) := funFrames_none ff1 fun L hL => nB2 L (ff1.mem hL).1
    have aux : ∀ l : List Env, (∀ b ∈ frs l, b ≠ ce.locals) → g1.FunFrames B2 l → g2.FunFrames B2 l := by
      intro l
      induction l with
      | nil => intro _ _; trivial
      | cons e0 r ih =>
        intro hn hl
        obtain ⟨hk, ⟨L, o, hfL, hnL, ho, hdL⟩, hr⟩ := hl
        have hL : L ∈ frs (e0 :: r) := by unfold frs; rw [List.filterMap_cons, hfL]; exact List.mem_cons_self
        refine ⟨hk, ⟨L, o, hfL, hnL, (sb.2 L (hn L hL)).trans ho, hdL⟩, ih (fun b hb => hn b ?_) hr⟩
        unfold frs; rw [List.filterMap_cons, hfL]; exact List.mem_cons_of_mem _ hb
    exact aux _ (fun b hb e => nfr (by rw [hs, ← e]; exact hb)) ffB
  have tr2 : HandSPX.TracedZ g2 B2 a (Zc cls d) (rawInt X.env.locals) :=
    ⟨oe, vs, T, oT, ts, (sb.2 a aC).trans he, hz, hd, h1, nB2 T hnT, hTe, (sb.2 T TC).trans hT, hdT, hts⟩
  -- it is passed on
  unfold PySem.passOn
  refine wpAny_bind (wpAny_field ((sb.2 a aC).trans he) hd h1 ?_)
  rw [if_neg (show ¬ ((Value.ref T == Value.none) = true) from by simp)]
  refine wpAny_bind ?_
  rw [hce, hf]
  refine HandSPX.setFlight_onZ (base := B2) (l := X.env :: X.outer) (Z := Zc cls d) (L := X.env.locals) ⟨st2, nB2 a nBa, ff2, tr2⟩ fun g3 held3 up3 => ?_
  refine wpAny_throw (tk _ _ ?_)
  -- the state without it
  obtain ⟨G, k1, k2⟩ := restrict s'.heap fun b => ((B.get? b).isSome || decide (b ∈ frs X.stack)) && decide (b ≠ ce.locals)
  have st : B.StaysIn s'.heap := fl.1
  have gB : ∀ b o, b ≠ ce.locals → B.get? b = some o → G.get? b = some o := fun b o hb q => by
    rw [k1 b (by simp [q, hb])]
    exact st b o q
  have gF : ∀ b, b ∈ frs X.stack → G.get? b = s'.heap.get? b := fun b hb => k1 b (by
    have hn : b ≠ ce.locals := fun e => nfr (e ▸ hb)
    simp [hb, hn])
  have og : ∀ b o, G.get? b = some o → s'.heap.get? b = some o ∧ b ≠ ce.locals ∧ (b ∈ frs X.stack ∨ B.get? b = some o) := fun b o q => by
    cases z : (((B.get? b).isSome || decide (b ∈ frs X.stack)) && decide (b ≠ ce.locals)) with
    | false => rw [k2 b z] at q; cases q
    | true =>
      rw [k1 b z] at q
      rw [Bool.and_eq_true] at z
      have hn : b ≠ ce.locals := of_decide_eq_true z.2
      refine ⟨q, hn, ?_⟩
      by_cases hb : b ∈ frs X.stack
      · exact .inl hb
      · have z1 := z.1
        rw [decide_eq_false hb, Bool.or_false] at z1
        obtain ⟨o', q'⟩ := Option.isSome_iff_exists.mp z1
        have q2 := st b o' q'
        rw [q] at q2; cases q2
        exact .inr q'
  have old : ∀ b o, s3.heap.get? b = some o → b ≠ ce.locals := fun b o q e => by
    have z := Heap.lt_size q
    rw [e, ← hcl] at z
    exact absurd z (Nat.lt_irrefl _)
  have nt : ∀ b u, H' b = some u → b ≠ ce.locals := fun b u q e => by rw [e, nC'] at q; cases q
  have hokG : HOk X.prog X.w H' G := fun b o q => (hok b o q).stay (fun b2 u2 hc r => gB b2 u2 (by
    rcases hc with hc | hc
    · rw [hc]; exact nt b o q
    · exact nt b2 _ hc) r) (fun _ r => r) fun _ _ r => r
  have Ub := I.base
  have un : Un (frs X.stack) fp H3 H' s3.heap G := by
    refine ⟨fun b o q n hb hx => ?_, fun b o q n hb hx => ?_, fun b o q n hx => ?_, fun b o q hx => ?_, fun b xs q => ub.tups b xs (Ub.tups b xs q), fun b o xs q => ub.frzs b o xs (Ub.frzs b o xs q), fun b ps q => ?_⟩
    · exact gB b o (old b o q) (ub.keep b o (Ub.keep b o q n hb hx) (Ub.free b o q n hx) hb)
    · obtain ⟨sl, q1⟩ := Ub.slot b o q n hb hx
      obtain ⟨sl2, q2⟩ := ub.slot b _ q1 hb
      exact ⟨sl2, by rw [gF b hb]; exact q2⟩
    · obtain ⟨o1, q1⟩ := Ub.there b o q hx
      exact ub.free b o1 q1 (Ub.free b o q n hx)
    · obtain ⟨o1, q1⟩ := Ub.there b o q hx
      by_cases hb : b ∈ frs X.stack
      · obtain ⟨sl2, q2⟩ := ub.slot b _ q1 hb
        exact ⟨_, by rw [gF b hb]; exact q2⟩
      · obtain ⟨o2, q2⟩ := ub.there b o1 q1 hb
        exact ⟨o2, gB b o2 (old b o q) q2⟩
    · obtain ⟨m1, q1⟩ := Ub.tbls b ps q
      obtain ⟨m2, q2⟩ := ub.tbls b _ q1
      exact ⟨m1 ++ m2, by rw [q2, Array.append_assoc]⟩
  have hos : s.os = s3.os := I.os
  have J : Inv X pins σ H' { s3 with heap := G, gens := s'.gens, drawn := s'.drawn, toks := s'.toks } :=
    I3.call (ch := fp) un hokG ag fun b hb => ⟨(f3 b hb).2.2.2.1, (f3 b hb).2.1, (f3 b hb).2.2.2.2.1, (f3 b hb).2.2.2.2.2⟩
  have sbU : ∀ b o, b ≠ ce.locals → s'.heap.get? b = some o → (∀ vs, o.data ≠ .fields vs) → ∃ sl, g3.get? b = some { o with slots := sl } := fun b o hb q hn => by
    obtain ⟨sl, q1⟩ := up1 b o q hn
    obtain ⟨sl2, q2⟩ := up3 b _ ((sb.2 b hb).trans q1) hn
    exact ⟨sl2, q2⟩
  refine ⟨a, B2, _, pins, σ, H', cls, d, rfl, J, fun b o q hb => ?_, fun b o q hn => ?_, .inr (.inr (by rw [hs]; exact held3)), na, ?_, ag, hE⟩
  · obtain ⟨_, hn, z⟩ := og b o q
    rcases z with z | z
    · exact absurd z hb
    · rw [bk b hn]; exact z
  · obtain ⟨q1, hn1, _⟩ := og b o q
    exact sbU b o hn1 q1 hn
  · exact os.trans hos
/-- [elt for tg in iter if ..], its item may let an error out -/
theorem lcX_core {X : Cx} {pins : List (Addr × Obj)} {s : Shared} {σ : L2.St} {H : Hp} {Q : VK} {elt tg iter : Expr} {ifs : List Expr} {scope : Scope} {own : List (Str × Nat)} {pos pos' : Pos} {wi : TI} {g : TG} {tt : TT} {te : TE} {E : XK} {use : Option (Value → Sem Unit)} {Qf : Value → Shared → Prop} (hc : X.calm = true) (hN : X.N.Nodup) (I : Inv X pins σ H s)
    (hs : X.stack = X.env :: X.outer) (hf : X.env.frame = some X.env.locals) (tk : Takes X (fun cls d _ H' => E cls d H')) (hi : PI X tg iter wi) (ok : BlkOk X.N X.env.scope scope own)
    (hg : ∀ (s : Shared) (H : Hp) (C : Addr) (cl : List (Str × Addr)) (fp : List Addr) (xe : Value → Shared → Prop), PG (blkX X s H scope (compEnvC scope cl C X.env) fp xe) tg g)
    (ht : ∀ (s : Shared) (H : Hp) (C : Addr) (cl : List (Str × Addr)) (fp : List Addr) (xe : Value → Shared → Prop), PTs (blkX X s H scope (compEnvC scope cl C X.env) fp xe) ifs tt)
    (he : ∀ (s : Shared) (H : Hp) (C : Addr) (cl : List (Str × Addr)) (fp : List Addr) (xe : Value → Shared → Prop), Passes (CX X.prog X.w) (blkX X s H scope (compEnvC scope cl C X.env) fp xe) E → PE (blkX X s H scope (compEnvC scope cl C X.env) fp xe) elt te)
    (hfs : ∀ x, foldedSetIterable iter X.env x = pure x) (h : tLc wi g tt te (own.map (·.2)) σ H Q)
    (hRR : ∀ D (ce : Env) s' m H', Inv X pins σ H' s' → Q (.ref D) H' → s'.heap.Ns ce.locals m → FpOk X pins H' ce.locals → PostOk (model X.prog X.w) X.A X.xe use Qf (.ref D) ce s') :
    wpAny (model X.prog X.w) X.A (comprehension (.ListComp elt [⟨tg, iter, ifs, 0⟩] scope pos) scope X.env pos' (newList []) false (eval iter X.env) use) Qf X.xe s := by
  have hfree : ∀ y ∈ scope.names, y.2 = .free → ∃ c, X.env.cells.lookup y.1 = some c := fun y hy e => by
    rcases ok.free y hy e with k | k
    · exact I.ok.has _ (.inl k)
    · exact I.ok.has _ (.inr k)
  refine comp_any rfl hfs (closure_ok hfree) ok.kind (fun y hy e => by rw [ok.uniq y hy, e]) (thn (hi.run pins s σ H _ I h) fun xv s1 hx => thn hx fun itv s2 h2 => ?_)
  obtain ⟨it, fp, tn, J, H2, e, I2, T, st2, f2, q⟩ := h2
  subst e
  refine wpAny_newObj_type (newEnv_comp ?_) (by show 0 ≤ sizeLine; decide)
  generalize hD : s2.heap.objs.size = D
  have hDn : H2 D = none := I2.hok.fresh (Nat.le_of_eq hD)
  obtain ⟨W, ⟨m0, w0⟩, turn⟩ := q D hDn
  generalize hs3 : ({ s2 with heap := s2.heap.push { cls := .type "list", data := .seq ([] : List Value).toArray } } : Shared) = s3
  have h3 : s3.heap = s2.heap.push { cls := .type "list", data := .seq ([] : List Value).toArray } := by rw [← hs3]
  have I3 : Inv X pins σ (upd H2 D (.lst [])) s3 := by
    rw [← hs3]
    refine I2.laid (t' := s2.toks) (fun b o q => Heap.get?_push_of_some _ q) (Nat.le_of_eq hD) ⟨Nat.zero_le _, [], 0, .nil, ?_⟩
    rw [← hD]; exact Heap.get?_push_size _ rfl
  have f3 : ∀ b ∈ fp, FpOk X pins (upd H2 D (.lst [])) b ∧ b < s3.heap.objs.size := fun b hb => by
    obtain ⟨o, e, _⟩ := T.obj _ _ st2 b hb
    have hlt := Heap.lt_size e
    refine ⟨⟨?_, (f2 b hb).2⟩, by rw [h3, Heap.size_push]; exact Nat.lt_succ_of_lt hlt⟩
    rw [upd_ne (by rw [← hD]; exact Nat.ne_of_lt hlt)]; exact (f2 b hb).1
  have st3 : tn 0 s3.heap := T.keep _ _ _ st2 fun b _ o e => by rw [h3]; exact Heap.get?_push_of_some _ e
  have I4 := block_start I3 ok hN f3
  have pg := hg s3 (upd H2 D (.lst [])) s3.heap.objs.size (cellsFrom (s3.heap.objs.size + 1) scope.names (cloFrom X.env.cells scope.names [])) fp
  have pt := ht s3 (upd H2 D (.lst [])) s3.heap.objs.size (cellsFrom (s3.heap.objs.size + 1) scope.names (cloFrom X.env.cells scope.names [])) fp
  have pe := he s3 (upd H2 D (.lst [])) s3.heap.objs.size (cellsFrom (s3.heap.objs.size + 1) scope.names (cloFrom X.env.cells scope.names [])) fp
  show codeAny _ _ (.compStart (.ListComp elt [⟨tg, iter, ifs, 0⟩] scope pos) 0 (.ref it) (.ref D) (compEnvC scope (cellsFrom (s3.heap.objs.size + 1) scope.names (cloFrom X.env.cells scope.names [])) s3.heap.objs.size X.env))
    (PostX (model X.prog X.w) X.A X.xe use Qf (.ref D) (compEnvC scope (cellsFrom (s3.heap.objs.size + 1) scope.names (cloFrom X.env.cells scope.names [])) s3.heap.objs.size X.env)) { s3 with heap := pushCells (s3.heap.push { cls := .type "dict", data := .dict #[] }) scope.names }
  have nfp : ∀ b ∈ fp, (upd H2 D (.lst [])) b = none := fun b hb => (f3 b hb).1.1
  generalize hce : compEnvC scope (cellsFrom (s3.heap.objs.size + 1) scope.names (cloFrom X.env.cells scope.names [])) s3.heap.objs.size X.env = ce at I4 pg pt pe ⊢
  have cL : ce.locals = s3.heap.objs.size := by subst hce; rfl
  have cF : ce.frame = X.env.frame := by subst hce; rfl
  generalize hH3 : upd H2 D (.lst []) = H3 at I3 I4 pg pt pe w0 nfp f3
  generalize hs4 : ({ s3 with heap := pushCells (s3.heap.push { cls := .type "dict", data := .dict #[] }) scope.names } : Shared) = s4 at I4 ⊢
  have st4 : tn 0 s4.heap := T.keep _ _ _ st3 fun b _ o e => by rw [← hs4]; exact pushCells_keeps _ _ _ _ (Heap.get?_push_of_some _ e)
  -- the wish of the block's errors
  obtain ⟨R, hR⟩ : ∃ R, R = PostX (model X.prog X.w) X.A X.xe use Qf (.ref D) ce := ⟨_, rfl⟩
  rw [← hR]
  obtain ⟨xe, hxe⟩ : ∃ xe : Value → Shared → Prop, xe = notedBy (model X.prog X.w) X.A ce fun e t => R (.error e) t := ⟨_, rfl⟩
  have I4 : Inv (blkX X s3 H3 scope ce fp xe) [] (wipe σ (own.map (·.2))) H3 s4 := toX I4
  have pg := pg xe
  have pt := pt xe
  have pe := pe xe (fun pins' σ' H' t u t' I' c => by
    show xe u t'
    rw [hxe, hR]
    exact out_of hs hf cF cL.symm I3 (fun b hb => (f3 b hb).1) tk I' c)
  have stat : ∀ {σ' : L2.St} {H' : Hp} {t : Shared}, Inv (blkX X s3 H3 scope ce fp xe) [] σ' H' t → (∀ b ∈ fp, H' b = none) → ∀ b ∈ fp, FpOk (blkX X s3 H3 scope ce fp xe) [] H' b := fun {σ' H' t} I' hn b hb =>
    ⟨hn b hb, (I'.ok.exf b hb).1, I'.ok.exfs b hb, .inl hb, fun x c e => (I'.ok.exf b hb).2 x c e, fun p hp => absurd (show p ∈ ([] : List (Addr × Obj)) ++ [] from hp) (by simp)⟩
  have loop : codeAny (model X.prog X.w) X.A (.compLoop (.ListComp elt [⟨tg, iter, ifs, 0⟩] scope pos) 0 (.ref it) (.ref D) ce) R s4 := by
    refine compLoop_any (fun n t => ∃ i H', Inv (blkX X s3 H3 scope ce fp xe) [] (wipe σ (own.map (·.2))) H' t ∧ tn i t.heap ∧ (∀ b ∈ fp, H' b = none) ∧ W i n H') ?_ m0 ⟨0, H3, I4, st4, nfp, w0⟩
    rintro n s5 ⟨i, H5, I5, st5, n5, w5⟩
    rw [← hxe]
    rcases turn i n H5 w5 with ⟨stop, qq⟩ | ⟨go, Nx, hNx, step⟩
    · have td := T.done (blkX X s3 H3 scope ce fp xe) rfl rfl rfl hc i [] s5 _ H5 xe I5 (stat I5 n5) st5 stop
      refine thn td fun r s6 ⟨hr, I6⟩ => ?_
      subst hr
      have I7 : Inv X pins σ H5 s6 := I3.call' (ch := fp) I6.os I6.base I6.hok I6.bare fun b hb => ⟨(f3 b hb).1.2.2.2.1, (f3 b hb).1.2.1, (f3 b hb).1.2.2.2.2.1, (f3 b hb).1.2.2.2.2.2⟩
      have nC : H5 s3.heap.objs.size = none := by
        have z : H5 ce.locals = none := I6.free
        rw [cL] at z; exact z
      obtain ⟨m, hn, _⟩ := I6.loc
      have hn : s6.heap.Ns ce.locals m := hn
      show R (.ok .next) s6
      rw [hR]
      have fo := I3.fpOk (Nat.le_refl _) nC
      rw [← cL] at fo
      exact hRR D ce s6 m H5 I7 qq hn fo
    · have ti := T.item (blkX X s3 H3 scope ce fp xe) rfl rfl rfl hc i [] s5 _ H5 xe I5 (stat I5 n5) st5 go
      refine thn ti fun r s6 ⟨u, hr, h6⟩ => ?_
      subst hr
      refine thn h6 fun _ s7 ⟨x, H7, I7, r7, y7, st7, n7⟩ => ?_
      have I7' := I7.pinned (stat I7 n7) (T.obj _ _ st7)
      refine thn (pg.run _ s7 _ H7 x u _ I7' r7 (step x H7 y7)) fun _ s8 ⟨σ8, H8, I8, hw8, q8⟩ => ?_
      refine thn (pt.run _ s8 σ8 H8 _ I8 q8) fun b s9 ⟨H9, I9, q9⟩ => ?_
      have fin : ∀ {t : Shared} {H' : Hp}, Inv (blkX X s3 H3 scope ce fp xe) ([] ++ pinsAt fp s7.heap) σ8 H' t → Nx H' →
          ∃ m, m < n ∧ ∃ i H', Inv (blkX X s3 H3 scope ce fp xe) [] (wipe σ (own.map (·.2))) H' t ∧ tn i t.heap ∧ (∀ b ∈ fp, H' b = none) ∧ W i m H' := fun {t H'} I' nx => by
        obtain ⟨m', hm, w'⟩ := hNx H' nx
        have pin' : ∀ b ∈ fp, ∀ o, s7.heap.get? b = some o → t.heap.get? b = some o ∧ H' b = none := fun b hb o e =>
          let z := I'.pin (b, o) (List.mem_append_right _ (List.mem_append_right _ (mem_pinsAt hb e)))
          ⟨z.1, z.2.1⟩
        have hl : (wipe σ (own.map (·.2))).length = σ8.length := by rw [← hw8, wipe_length]
        refine ⟨m', hm, i + 1, H', (I'.unpinned (pins := [])).weak hl (fun j v e => by rw [← hw8] at e; exact (wipe_some e).1), T.keep _ _ _ st7 fun b hb o e => (pin' b hb o e).1, fun b hb => ?_, w'⟩
        obtain ⟨o, e, _⟩ := T.obj _ _ st7 b hb
        exact (pin' b hb o e).2
      cases b with
      | false =>
        simp only [Bool.false_eq_true, if_false] at q9 ⊢
        exact fin I9 q9
      | true =>
        simp only [if_true] at q9 ⊢
        refine thn (pe.run _ s9 σ8 H9 _ I9 q9) fun z s10 ⟨yv, H10, I10, r10, acc, hD10, hz10, nx⟩ => ?_
        exact app_ok (X := blkX X s3 H3 scope ce fp xe) I10 hD10 hz10 r10 fun s11 I11 => fin I11 nx
  exact codeAny_compStart_list loop (T.self X.A 0 _ _ _ st4 loop)
theorem pe_lcX {X : Cx} {elt tg iter : Expr} {ifs : List Expr} {scope : Scope} {own : List (Str × Nat)} {pos : Pos} {wi : TI} {g : TG} {tt : TT} {te : TE} {E : XK} (hc : X.calm = true) (hN : X.N.Nodup)
    (hs : X.stack = X.env :: X.outer) (hf : X.env.frame = some X.env.locals) (tk : Takes X (fun cls d _ H' => E cls d H')) (hi : PI X tg iter wi) (ok : BlkOk X.N X.env.scope scope own)
    (hg : ∀ (s : Shared) (H : Hp) (C : Addr) (cl : List (Str × Addr)) (fp : List Addr) (xe : Value → Shared → Prop), PG (blkX X s H scope (compEnvC scope cl C X.env) fp xe) tg g)
    (ht : ∀ (s : Shared) (H : Hp) (C : Addr) (cl : List (Str × Addr)) (fp : List Addr) (xe : Value → Shared → Prop), PTs (blkX X s H scope (compEnvC scope cl C X.env) fp xe) ifs tt)
    (he : ∀ (s : Shared) (H : Hp) (C : Addr) (cl : List (Str × Addr)) (fp : List Addr) (xe : Value → Shared → Prop), Passes (CX X.prog X.w) (blkX X s H scope (compEnvC scope cl C X.env) fp xe) E → PE (blkX X s H scope (compEnvC scope cl C X.env) fp xe) elt te)
    (hfs : ∀ x, foldedSetIterable iter X.env x = pure x := by intro _; rfl) : PE X (.ListComp elt [⟨tg, iter, ifs, 0⟩] scope pos) (tLc wi g tt te (own.map (·.2))) := by
  refine ⟨fun pins s σ H Q I h => ?_⟩
  rw [eval_ListComp]
  refine lcX_core (E := E) hc hN I hs hf tk hi ok hg ht he hfs h fun D ce s' m H' I' q hn f => ⟨m, hn, fun g' sb => ?_⟩
  obtain ⟨y0, y1, y2, y3, y4, y5⟩ := f
  exact ⟨.ref D, H', I'.turned (t' := s'.toks) (fun b o hb e => (sb.2 b hb).trans e) y0 y1 y3 y4 y5, rfl, q⟩
/-- y = [elt for tg in iter if ..] on one line, its item may let an error out -/
theorem ps_setLcX {X : Cx} {i : Nat} {y : Str} {py : Pos} {elt tg iter : Expr} {ifs : List Expr} {scope : Scope} {own : List (Str × Nat)} {pos spos : Pos} {wi : TI} {g : TG} {tt : TT} {te : TE} {E : XK} (hc : X.calm = true) (hN : X.N.Nodup) (hy : X.N[i]? = some y) (hyl : X.env.scope.names.lookup y = some .local)
    (hsw : swapsWith (.ListComp elt [⟨tg, iter, ifs, 0⟩] scope pos) (some (.Name y py)) spos.line X.env = pure true)
    (hs : X.stack = X.env :: X.outer) (hf : X.env.frame = some X.env.locals) (tk : Takes X (fun cls d _ H' => E cls d H')) (hi : PI X tg iter wi) (ok : BlkOk X.N X.env.scope scope own)
    (hg : ∀ (s : Shared) (H : Hp) (C : Addr) (cl : List (Str × Addr)) (fp : List Addr) (xe : Value → Shared → Prop), PG (blkX X s H scope (compEnvC scope cl C X.env) fp xe) tg g)
    (ht : ∀ (s : Shared) (H : Hp) (C : Addr) (cl : List (Str × Addr)) (fp : List Addr) (xe : Value → Shared → Prop), PTs (blkX X s H scope (compEnvC scope cl C X.env) fp xe) ifs tt)
    (he : ∀ (s : Shared) (H : Hp) (C : Addr) (cl : List (Str × Addr)) (fp : List Addr) (xe : Value → Shared → Prop), Passes (CX X.prog X.w) (blkX X s H scope (compEnvC scope cl C X.env) fp xe) E → PE (blkX X s H scope (compEnvC scope cl C X.env) fp xe) elt te)
    (hfs : ∀ x, foldedSetIterable iter X.env x = pure x := by intro _; rfl) :
    PS X (.Assign [.Name y py] (.ListComp elt [⟨tg, iter, ifs, 0⟩] scope pos) spos) (tAsg (tLc wi g tt te (own.map (·.2))) (gName i)) := by
  refine ⟨fun pins s σ H D I h => ?_⟩
  rw [exec_Assign_Name_used _ _ _ _ hsw]
  refine wpAny_bind (wpAny_standAt (wpAny_bind ?_))
  show wpAny _ X.A (do let _ ← comprehension (.ListComp elt [⟨tg, iter, ifs, 0⟩] scope pos) scope X.env (firstIterPos [⟨tg, iter, ifs, 0⟩] pos) (newList []) false (eval iter X.env) (some (assign (.Name y py) X.env))) _ _ s
  have h : tLc wi g tt te (own.map (·.2)) σ H (fun x H1 => gName i x σ H1 D.nx) := h
  refine wpAny_bind (thn (lcX_core (E := E) (Qf := fun _ s' => SP X pins D .next s') hc hN I hs hf tk hi ok hg ht he hfs h fun L ce s' m H' I' q hn f => ?_) fun _ s' hq => wpAny_pure (wpAny_pure hq))
  show wpAny _ _ (assign (.Name y py) X.env (.ref L)) _ _ _
  refine wpAny_assign_Name (store_ok2 (v := V.ref L) I' hN hy (.inl hyl) rfl (fun s2 I2 ⟨a, sb, ha⟩ => ?_) (.inr hyl))
  obtain ⟨f0, f1, f2, f3, f4, f5⟩ := f
  have haC : ce.locals ≠ a := by
    rcases ha with z | z
    · rw [z]; exact f1
    · exact fun e => f4 y a z e.symm
  refine ⟨m, hn.sameBut sb haC, fun h3 sb3 => ?_⟩
  exact ⟨_, H', I2.turned (t' := s2.toks) (fun b o hb e => (sb3.2 b hb).trans e) f0 f1 f3 f4 f5, q⟩
end ScL
namespace Sc
open Kzq1 (Q P)
theorem rat_mk {n : Int} {d : Nat} (h : d ≠ 0) : mkRat n d = (n : Rat) / ((d : Nat) : Rat) := by
  rw [Rat.mkRat_eq_div]
theorem val_mkJ {t b : Int} (h : b ≠ 0) : val (mkI t b) = (t : Rat) / (b : Rat) := by
  unfold mkI
  by_cases c : b < 0
  · rw [if_pos c, val_mk (by omega), ← Rat.divInt_ofNat, show ((b.natAbs : Nat) : Int) = -b by omega, Rat.neg_divInt_neg, Rat.divInt_eq_div]
  · rw [if_neg c, val_mk (by omega), ← Rat.divInt_ofNat, show ((b.natAbs : Nat) : Int) = b by omega, Rat.divInt_eq_div]
theorem val_nd {a : Q} (h : Ok a) : val a = (a.n : Rat) / ((a.d : Int) : Rat) := by
  unfold val
  rw [Rat.mkRat_eq_div]; rfl
theorem mkI_div {a b : Q} (ha : Ok a) (hb : Ok b) (h : b.n ≠ 0) : mkI (a.n * (b.d : Int)) ((a.d : Int) * b.n) = Kzq1.div a b := by
  have hv : val b ≠ 0 := fun e => h ((n_zero_iff hb).mpr e)
  have hd : (a.d : Int) ≠ 0 := by have := ha.1; omega
  have hbd : (b.d : Int) ≠ 0 := by have := hb.1; omega
  have h0 : (a.d : Int) * b.n ≠ 0 := Int.mul_ne_zero hd h
  refine val_inj (mkI_ok h0) (div_ok ha hb hv) ?_
  rw [val_mkJ h0, val_div ha hb hv, val_nd ha, val_nd hb, Rat.intCast_mul, Rat.intCast_mul]
  have e1 : ((a.d : Int) : Rat) ≠ 0 := by simpa using hd
  have e2 : ((b.d : Int) : Rat) ≠ 0 := by simpa using hbd
  have e3 : (b.n : Rat) ≠ 0 := by simpa using h
  generalize ((a.d : Int) : Rat) = x at *
  generalize ((b.d : Int) : Rat) = y at *
  generalize (a.n : Rat) = p at *
  generalize (b.n : Rat) = q at *
  grind
theorem mkI_sz {t b : Int} {k : Nat} (h : b ≠ 0) (h1 : t.natAbs < 2 ^ k) (h2 : b.natAbs < 2 ^ k) : Sz k (mkI t b) := by
  unfold mkI
  split
  · exact mk_sz (by omega) (by rw [Int.natAbs_neg]; exact h1) h2
  · exact mk_sz (by omega) h1 h2
theorem div_sz {a b : Q} {j k : Nat} (ha : Ok a) (hb : Ok b) (h : b.n ≠ 0) (h1 : Sz j a) (h2 : Sz k b) : Sz (j + k) (Kzq1.div a b) := by
  have hd : (a.d : Int) ≠ 0 := by have := ha.1; omega
  rw [← mkI_div ha hb h]
  refine mkI_sz (Int.mul_ne_zero hd h) (mul_lt h1.1 (by simpa using h2.2)) ?_
  have := mul_lt (i := (a.d : Int)) (j := b.n) (a := j) (b := k) (by simpa using h1.2) h2.1
  exact this
end Sc
namespace Sc
/-! Pieces in the plane of rationals -/
structure V2 where
  x : Rat
  y : Rat
deriving DecidableEq
def tn (a b c : V2) : Rat := (b.x - a.x) * (c.y - a.y) - (b.y - a.y) * (c.x - a.x)
def mx (t : Rat) (a b : V2) : V2 := ⟨a.x + t * (b.x - a.x), a.y + t * (b.y - a.y)⟩
theorem tn_cyc (a b c : V2) : tn b c a = tn a b c := by unfold tn; grind
theorem tn_cyc2 (a b c : V2) : tn c a b = tn a b c := by unfold tn; grind
theorem tn_swap (a b c : V2) : tn b a c = - tn a b c := by unfold tn; grind
theorem tn_aa (a c : V2) : tn a a c = 0 := by unfold tn; grind
theorem tn_bb (a b : V2) : tn a b b = 0 := by unfold tn; grind
theorem tn_ab (a b : V2) : tn a b a = 0 := by unfold tn; grind
theorem tn_mx1 (t : Rat) (a b p q : V2) : tn (mx t a b) p q = (1 - t) * tn a p q + t * tn b p q := by unfold tn mx; grind
theorem tn_mx2 (t : Rat) (a b p q : V2) : tn p (mx t a b) q = (1 - t) * tn p a q + t * tn p b q := by unfold tn mx; grind
theorem tn_mx3 (t : Rat) (a b p q : V2) : tn p q (mx t a b) = (1 - t) * tn p q a + t * tn p q b := by unfold tn mx; grind
theorem mx_zero (a b : V2) : mx 0 a b = a := by cases a; unfold mx; simp [Rat.zero_mul, Rat.add_zero]
theorem V2.ext' {a b : V2} (h1 : a.x = b.x) (h2 : a.y = b.y) : a = b := by cases a; cases b; simp_all
/-- the three shares of a point in a triangle -/
theorem bary (o b c z : V2) : tn b c z + tn c o z + tn o b z = tn o b c := by unfold tn; grind
theorem bary_tn (s t o b c z : V2) : tn o b c * tn s t z = tn b c z * tn s t o + tn c o z * tn s t b + tn o b z * tn s t c := by unfold tn; grind
/-- what lies on two lines that aren't one lies where they cross -/
theorem two_lines {u v w p : V2} (h : tn u v w ≠ 0) (h1 : tn u v p = 0) (h2 : tn v w p = 0) : p = v := by
  have e1 : tn u v w * (p.x - v.x) = tn u v p * (w.x - v.x) + tn v w p * (u.x - v.x) := by unfold tn; grind
  have e2 : tn u v w * (p.y - v.y) = tn u v p * (w.y - v.y) + tn v w p * (u.y - v.y) := by unfold tn; grind
  rw [h1, h2, Rat.zero_mul, Rat.zero_mul, Rat.add_zero] at e1 e2
  have f1 : p.x - v.x = 0 := (Rat.mul_eq_zero.mp e1).resolve_left h
  have f2 : p.y - v.y = 0 := (Rat.mul_eq_zero.mp e2).resolve_left h
  exact V2.ext' (by grind) (by grind)
/-- two lines through the same two points: alike at all points -/
theorem same_line {s t p q v z : V2} (hp : tn s t p = 0) (hq : tn s t q = 0) : tn s t z * tn p q v = tn p q z * tn s t v := by
  have e : tn s t z * tn p q v - tn p q z * tn s t v = (tn s t q) * tn p z v + (tn s t p) * tn z q v := by unfold tn; grind
  rw [hp, hq] at e
  grind
theorem nn_mul {a b : Rat} (h1 : 0 ≤ a) (h2 : 0 ≤ b) : 0 ≤ a * b := Rat.mul_nonneg h1 h2
theorem p_mul {a b : Rat} (h1 : 0 < a) (h2 : 0 < b) : 0 < a * b := Rat.mul_pos h1 h2
/-! corners, counted round and round -/
def ac (l : List V2) (i : Nat) : V2 := l.getD (i % l.length) ⟨0, 0⟩
theorem ac_lt {l : List V2} {i : Nat} (h : i < l.length) : ac l i = l[i] := by
  unfold ac
  rw [Nat.mod_eq_of_lt h, List.getD_eq_getElem?_getD, List.getElem?_eq_getElem h]; rfl
theorem ac_mod (l : List V2) (i : Nat) : ac l (i % l.length) = ac l i := by unfold ac; rw [Nat.mod_mod]
theorem ac_add (l : List V2) (i : Nat) : ac l (i + l.length) = ac l i := by unfold ac; rw [Nat.add_mod_right]
theorem ac_len (l : List V2) : ac l l.length = ac l 0 := by unfold ac; rw [Nat.mod_self, Nat.zero_mod]
theorem ac_mem {l : List V2} (i : Nat) (h : 0 < l.length) : ac l i ∈ l := by
  rw [← ac_mod, ac_lt (Nat.mod_lt _ h)]
  exact List.getElem_mem _
theorem mem_ac {l : List V2} {v : V2} (h : v ∈ l) : ∃ i, i < l.length ∧ v = ac l i := by
  obtain ⟨i, hi, e⟩ := List.mem_iff_getElem.mp h
  exact ⟨i, hi, by rw [ac_lt hi, e]⟩
/-- all corners in order turn to the left -/
def Tri (l : List V2) : Prop := ∀ a b c, [a, b, c].Sublist l → 0 < tn a b c
theorem Tri.at {l : List V2} (h : Tri l) {i j k : Nat} (h1 : i < j) (h2 : j < k) (h3 : k < l.length) : 0 < tn (ac l i) (ac l j) (ac l k) := by
  rw [ac_lt (show i < l.length by omega), ac_lt (show j < l.length by omega), ac_lt h3]
  refine h _ _ _ ?_
  have s3 : [l[k]].Sublist (l.drop (j + 1)) := List.singleton_sublist.mpr (List.mem_iff_getElem.mpr ⟨k - (j + 1), by rw [List.length_drop]; omega, by rw [List.getElem_drop]; congr 1; omega⟩)
  have s2 : [l[j], l[k]].Sublist (l.drop (i + 1)) := by
    have e : l.drop j = (l.drop (i + 1)).drop (j - (i + 1)) := by rw [List.drop_drop]; congr 1; omega
    refine List.Sublist.trans ?_ (List.drop_sublist (j - (i + 1)) (l.drop (i + 1)))
    rw [← e, List.drop_eq_getElem_cons (show j < l.length by omega)]
    exact s3.cons_cons _
  refine List.Sublist.trans ?_ (List.drop_sublist i l)
  rw [List.drop_eq_getElem_cons (show i < l.length by omega)]
  exact s2.cons_cons _
theorem Tri.weak {l : List V2} (h : Tri l) {i j k : Nat} (h1 : i ≤ j) (h2 : j ≤ k) (h3 : k ≤ l.length) : 0 ≤ tn (ac l i) (ac l j) (ac l k) := by
  by_cases c1 : i = j
  · subst c1; rw [tn_aa]; exact Rat.le_refl
  by_cases c2 : j = k
  · subst c2; rw [tn_bb]; exact Rat.le_refl
  by_cases c3 : k < l.length
  · exact Rat.le_of_lt (h.at (by omega) (by omega) c3)
  have e : k = l.length := by omega
  subst e
  rw [ac_len]
  by_cases c4 : i = 0
  · subst c4; rw [tn_ab]; exact Rat.le_refl
  · rw [tn_cyc]
    exact Rat.le_of_lt (h.at (by omega) (by omega) (by omega))
theorem Tri.strict {l : List V2} (h : Tri l) {i j k : Nat} (h1 : i < j) (h2 : j < k) (h3 : k ≤ l.length) (h4 : 0 < i ∨ k < l.length) : 0 < tn (ac l i) (ac l j) (ac l k) := by
  by_cases c3 : k < l.length
  · exact h.at (by omega) (by omega) c3
  have e : k = l.length := by omega
  subst e
  rw [ac_len, ← tn_cyc2]
  exact h.at (by omega) (by omega) (by omega)
theorem Tri.sub {l m : List V2} (h : Tri l) (s : m.Sublist l) : Tri m := fun a b c k => h a b c (k.trans s)
theorem Tri.rot {l m : List V2} (h : Tri (l ++ m)) : Tri (m ++ l) := by
  intro a b c s
  obtain ⟨u, v, e, h1, h2⟩ := List.sublist_append_iff.mp s
  have k := h2.append h1
  match u, e with
  | [], e => 
    subst e
    exact h _ _ _ (by simpa using k)
  | [_], e => 
    simp at e
    obtain ⟨rfl, rfl⟩ := e
    rw [← tn_cyc]; exact h _ _ _ k
  | [_, _], e => 
    simp at e
    obtain ⟨rfl, rfl, rfl⟩ := e
    rw [← tn_cyc2]; exact h _ _ _ k
  | [_, _, _], e => 
    simp at e
    obtain ⟨rfl, rfl, rfl, rfl⟩ := e
    exact h _ _ _ (by simpa using k)
  | _ :: _ :: _ :: _ :: _, e => simp at e
/-- on the left of all sides -/
def Rg (l : List V2) (z : V2) : Prop := ∀ i, 0 ≤ tn (ac l i) (ac l (i + 1)) z
theorem Rg.of {l : List V2} {z : V2} (h : ∀ i, i < l.length → 0 ≤ tn (ac l i) (ac l (i + 1)) z) : Rg l z := by
  intro i
  by_cases c : l.length = 0
  · have e : l = [] := List.length_eq_zero_iff.mp c
    subst e
    show 0 ≤ tn ⟨0, 0⟩ ⟨0, 0⟩ z
    rw [tn_aa]; exact Rat.le_refl
  · have k := h (i % l.length) (Nat.mod_lt _ (by omega))
    have e : ac l (i % l.length + 1) = ac l (i + 1) := by
      unfold ac
      rw [Nat.mod_add_mod]
    rw [ac_mod, e] at k
    exact k
theorem ac_rot (l m : List V2) (i : Nat) : ac (m ++ l) i = ac (l ++ m) (i + l.length) := by
  by_cases c : (m ++ l).length = 0
  · have h1 : m = [] := by cases m with
      | nil => rfl
      | cons a b => simp at c
    have h2 : l = [] := by cases l with
      | nil => rfl
      | cons a b => simp at c
    subst h1; subst h2; rfl
  · rw [← ac_mod (m ++ l) i, ← ac_mod (l ++ m) (i + l.length)]
    have hl : (l ++ m).length = (m ++ l).length := by simp [Nat.add_comm]
    have hi : i % (m ++ l).length < (m ++ l).length := Nat.mod_lt _ (by omega)
    have e0 : (i + l.length) % (l ++ m).length = (i % (m ++ l).length + l.length) % (m ++ l).length := by rw [hl, Nat.mod_add_mod]
    rw [e0]
    generalize i % (m ++ l).length = k at *
    have hk : k < m.length + l.length := by simpa using hi
    rw [ac_lt hi]
    by_cases c2 : k < m.length
    · have e1 : (k + l.length) % (m ++ l).length = k + l.length := Nat.mod_eq_of_lt (by rw [List.length_append]; omega)
      rw [e1, ac_lt (by rw [List.length_append]; omega), List.getElem_append_left c2, List.getElem_append_right (by omega)]
      congr 1; omega
    · have e1 : (k + l.length) % (m ++ l).length = k - m.length := by
        rw [List.length_append, show k + l.length = (k - m.length) + (m.length + l.length) by omega, Nat.add_mod_right]
        exact Nat.mod_eq_of_lt (by omega)
      rw [e1, ac_lt (by rw [List.length_append]; omega), List.getElem_append_right (by omega), List.getElem_append_left (by omega)]
theorem Rg.rot {l m : List V2} {z : V2} (h : Rg (l ++ m) z) : Rg (m ++ l) z := by
  intro i
  rw [ac_rot l m i, ac_rot l m (i + 1), show i + 1 + l.length = i + l.length + 1 by omega]
  exact h _
theorem Rg.rot_iff {l m : List V2} {z : V2} : Rg (l ++ m) z ↔ Rg (m ++ l) z := ⟨Rg.rot, Rg.rot⟩
/-- from each side all other corners lie on the left -/
theorem Tri.side {l : List V2} (h : Tri l) {i j : Nat} (hi : i < l.length) (hj : j < l.length) : j = i ∨ j = (i + 1) % l.length ∨ 0 < tn (ac l i) (ac l (i + 1)) (ac l j) := by
  by_cases c1 : j = i
  · exact .inl c1
  by_cases c2 : j = (i + 1) % l.length
  · exact .inr (.inl c2)
  refine .inr (.inr ?_)
  by_cases c3 : i + 1 < l.length
  · rw [Nat.mod_eq_of_lt c3] at c2
    by_cases c4 : j < i
    · rw [← tn_cyc2]
      exact h.at c4 (by omega) c3
    · exact h.at (by omega) (by omega) hj
  · have e : i + 1 = l.length := by omega
    rw [e, Nat.mod_self] at c2
    rw [e, ac_len, tn_cyc2]
    exact h.at (by omega) (by omega) hi
theorem Tri.mem_rg {l : List V2} (h : Tri l) {v : V2} (hv : v ∈ l) : Rg l v := by
  obtain ⟨j, hj, rfl⟩ := mem_ac hv
  refine Rg.of fun i hi => ?_
  rcases h.side hi hj with e | e | e
  · rw [e, tn_ab]; exact Rat.le_refl
  · rw [e, ac_mod, tn_bb]; exact Rat.le_refl
  · exact Rat.le_of_lt e
theorem Tri.ne {l : List V2} (h : Tri l) (h3 : 3 ≤ l.length) {i j : Nat} (h1 : i < j) (h2 : j < l.length) : ac l i ≠ ac l j := by
  intro e
  by_cases c : j + 1 < l.length
  · have k := h.at h1 (show j < j + 1 by omega) c
    rw [e, tn_aa] at k; exact absurd k (by decide)
  · by_cases c2 : 0 < i
    · have k := h.at (show 0 < i by omega) h1 h2
      rw [e, tn_bb] at k; exact absurd k (by decide)
    · have k := h.at (show i < 1 by omega) (show 1 < j by omega) h2
      rw [e, tn_ab] at k; exact absurd k (by decide)
/-- a point on the left of all sides lies in a triangle of the corners -/
theorem Rg.fan {l : List V2} {z : V2} (h : Rg l z) (h3 : 3 ≤ l.length) : ∃ i, 1 ≤ i ∧ i + 1 < l.length ∧ 0 ≤ tn (ac l 0) (ac l i) z ∧ 0 ≤ tn (ac l i) (ac l (i + 1)) z ∧ 0 ≤ tn (ac l (i + 1)) (ac l 0) z := by
  refine Classical.byContradiction fun no => ?_
  have key : ∀ i, 1 ≤ i → i < l.length → 0 ≤ tn (ac l 0) (ac l i) z := by
    intro i h1
    induction i with
    | zero => omega
    | succ i ih =>
      intro hi
      by_cases c : i = 0
      · subst c; exact h 0
      · have k := ih (by omega) (by omega)
        have k2 : ¬ 0 ≤ tn (ac l (i + 1)) (ac l 0) z := fun q => no ⟨i, by omega, hi, k, h i, q⟩
        rw [tn_swap] at k2
        grind
  have k := key (l.length - 2) (by omega) (by omega)
  have e : l.length - 2 + 1 = l.length - 1 := by omega
  have e2 : l.length - 1 + 1 = l.length := by omega
  have s1 := h (l.length - 2)
  have s2 := h (l.length - 1)
  rw [e] at s1
  rw [e2, ac_len] at s2
  exact no ⟨l.length - 2, by omega, by omega, k, by rw [e]; exact s1, by rw [e]; exact s2⟩
/-- what all corners keep all points keep -/
theorem Rg.hull {l : List V2} {z s t : V2} (T : Tri l) (h : Rg l z) (h3 : 3 ≤ l.length) (k : ∀ v ∈ l, 0 ≤ tn s t v) : 0 ≤ tn s t z := by
  obtain ⟨i, h1, h2, a, b, c⟩ := h.fan h3
  have D := T.at (show 0 < i by omega) (show i < i + 1 by omega) h2
  have e := bary_tn s t (ac l 0) (ac l i) (ac l (i + 1)) z
  have p1 := nn_mul b (k _ (ac_mem 0 (by omega)))
  have p2 := nn_mul c (k _ (ac_mem i (by omega)))
  have p3 := nn_mul a (k _ (ac_mem (i + 1) (by omega)))
  refine Rat.not_lt.mp fun n => ?_
  have := Rat.mul_pos D (show 0 < - tn s t z by grind)
  grind
/-- the corners are told by what lies on the left of the sides -/
theorem same_corners {l m : List V2} (T : Tri l) (U : Tri m) (hl : 3 ≤ l.length) (hm : 3 ≤ m.length) (h : ∀ z, Rg l z ↔ Rg m z) {v : V2} (hv : v ∈ l) : v ∈ m := by
  have r := (h v).mp (T.mem_rg hv)
  obtain ⟨i, h1, h2, a, b, c⟩ := r.fan hm
  have D := U.at (show 0 < i by omega) (show i < i + 1 by omega) h2
  obtain ⟨j, hj, rfl⟩ := mem_ac hv
  -- the two sides at the corner
  let p := j + l.length - 1
  have ep : p + 1 = j + l.length := by omega
  have eq : ac l (p + 1) = ac l j := by rw [ep, ac_add]
  have turn : tn (ac l p) (ac l j) (ac l (j + 1)) ≠ 0 := by
    by_cases c0 : j = 0
    · have e1 : ac l p = ac l (l.length - 1) := by show ac l (j + l.length - 1) = _; rw [c0, Nat.zero_add]
      rw [e1, c0, ← tn_cyc]
      exact Rat.ne_of_gt (T.at (by omega) (by omega) (by omega))
    · have e1 : ac l p = ac l (j - 1) := by rw [← ac_add l (j - 1)]; congr 1; omega
      rw [e1]
      exact Rat.ne_of_gt (T.strict (by omega) (by omega) (by omega) (by omega))
  have on1 : ∀ q, q ∈ m → 0 ≤ tn (ac l p) (ac l j) q := fun q hq => by
    have := (h q).mpr (U.mem_rg hq) p
    rw [eq] at this; exact this
  have on2 : ∀ q, q ∈ m → 0 ≤ tn (ac l j) (ac l (j + 1)) q := fun q hq => (h q).mpr (U.mem_rg hq) j
  have e1 := bary_tn (ac l p) (ac l j) (ac m 0) (ac m i) (ac m (i + 1)) (ac l j)
  have e2 := bary_tn (ac l j) (ac l (j + 1)) (ac m 0) (ac m i) (ac m (i + 1)) (ac l j)
  rw [tn_bb, Rat.mul_zero] at e1
  rw [tn_ab, Rat.mul_zero] at e2
  have m0 := ac_mem (l := m) 0 (by omega)
  have m1 := ac_mem (l := m) i (by omega)
  have m2 := ac_mem (l := m) (i + 1) (by omega)
  have p1 := nn_mul b (on1 _ m0); have p2 := nn_mul c (on1 _ m1); have p3 := nn_mul a (on1 _ m2)
  have q1 := nn_mul b (on2 _ m0); have q2 := nn_mul c (on2 _ m1); have q3 := nn_mul a (on2 _ m2)
  have s := bary (ac m 0) (ac m i) (ac m (i + 1)) (ac l j)
  have z1 : tn (ac m i) (ac m (i + 1)) (ac l j) * tn (ac l p) (ac l j) (ac m 0) = 0 := by grind
  have z2 : tn (ac m (i + 1)) (ac m 0) (ac l j) * tn (ac l p) (ac l j) (ac m i) = 0 := by grind
  have z3 : tn (ac m 0) (ac m i) (ac l j) * tn (ac l p) (ac l j) (ac m (i + 1)) = 0 := by grind
  have y1 : tn (ac m i) (ac m (i + 1)) (ac l j) * tn (ac l j) (ac l (j + 1)) (ac m 0) = 0 := by grind
  have y2 : tn (ac m (i + 1)) (ac m 0) (ac l j) * tn (ac l j) (ac l (j + 1)) (ac m i) = 0 := by grind
  have y3 : tn (ac m 0) (ac m i) (ac l j) * tn (ac l j) (ac l (j + 1)) (ac m (i + 1)) = 0 := by grind
  by_cases w1 : tn (ac m i) (ac m (i + 1)) (ac l j) = 0
  · by_cases w2 : tn (ac m (i + 1)) (ac m 0) (ac l j) = 0
    · have w3 : tn (ac m 0) (ac m i) (ac l j) ≠ 0 := by grind
      rw [← two_lines turn ((Rat.mul_eq_zero.mp z3).resolve_left w3) ((Rat.mul_eq_zero.mp y3).resolve_left w3)]
      exact m2
    · rw [← two_lines turn ((Rat.mul_eq_zero.mp z2).resolve_left w2) ((Rat.mul_eq_zero.mp y2).resolve_left w2)]
      exact m1
  · rw [← two_lines turn ((Rat.mul_eq_zero.mp z1).resolve_left w1) ((Rat.mul_eq_zero.mp y1).resolve_left w1)]
    exact m0
/-- two rows in order with the same members are one -/
theorem sorted_eq {α : Type} {R : α → α → Prop} (as : ∀ a b, R a b → ¬ R b a) : ∀ {l m : List α}, l.Pairwise R → m.Pairwise R → (∀ x, x ∈ l ↔ x ∈ m) → l = m
  | [], [], _, _, _ => rfl
  | [], y :: m, _, _, h => absurd ((h y).mpr List.mem_cons_self) (by simp)
  | x :: l, [], _, _, h => absurd ((h x).mp List.mem_cons_self) (by simp)
  | x :: l, y :: m, h1, h2, h => by
    obtain ⟨a1, b1⟩ := List.pairwise_cons.mp h1
    obtain ⟨a2, b2⟩ := List.pairwise_cons.mp h2
    have e : x = y := by
      refine Classical.byContradiction fun n => ?_
      have hx : x ∈ m := by
        rcases List.mem_cons.mp ((h x).mp List.mem_cons_self) with e | e
        · exact absurd e n
        · exact e
      have hy : y ∈ l := by
        rcases List.mem_cons.mp ((h y).mpr List.mem_cons_self) with e | e
        · exact absurd e.symm n
        · exact e
      exact as _ _ (a1 y hy) (a2 x hx)
    subst e
    have ir : ¬ R x x := fun r => as _ _ r r
    rw [sorted_eq as b1 b2 fun z => ?_]
    constructor
    · intro hz
      rcases List.mem_cons.mp ((h z).mp (List.mem_cons_of_mem _ hz)) with e | e
      · subst e; exact absurd (a1 z hz) ir
      · exact e
    · intro hz
      rcases List.mem_cons.mp ((h z).mpr (List.mem_cons_of_mem _ hz)) with e | e
      · subst e; exact absurd (a2 z hz) ir
      · exact e
theorem Tri.pw {a : V2} {l : List V2} (h : Tri (a :: l)) : l.Pairwise fun b c => 0 < tn a b c :=
  List.pairwise_iff_forall_sublist.mpr fun s => h _ _ _ (s.cons_cons a)
/-- two pieces with the same points, begun with the same corner, are one -/
theorem same_piece {a : V2} {l m : List V2} (T : Tri (a :: l)) (U : Tri (a :: m)) (hl : 2 ≤ l.length) (hm : 2 ≤ m.length) (h : ∀ z, Rg (a :: l) z ↔ Rg (a :: m) z) : l = m := by
  have hl' : 3 ≤ (a :: l).length := by simp; omega
  have hm' : 3 ≤ (a :: m).length := by simp; omega
  have nl : a ∉ l := fun ha => by
    obtain ⟨i, hi, e⟩ := mem_ac ha
    have k := T.ne hl' (show 0 < i + 1 by omega) (by simpa using hi)
    rw [ac_lt (by simp), ac_lt (by simpa using hi)] at k
    rw [ac_lt hi] at e
    exact k (by simpa using e)
  have nm : a ∉ m := fun ha => by
    obtain ⟨i, hi, e⟩ := mem_ac ha
    have k := U.ne hm' (show 0 < i + 1 by omega) (by simpa using hi)
    rw [ac_lt (by simp), ac_lt (by simpa using hi)] at k
    rw [ac_lt hi] at e
    exact k (by simpa using e)
  refine sorted_eq (fun b c h1 h2 => ?_) T.pw U.pw fun x => ?_
  · have e : tn a c b = - tn a b c := by unfold tn; grind
    grind
  · constructor
    · intro hx
      rcases List.mem_cons.mp (same_corners T U hl' hm' h (List.mem_cons_of_mem _ hx)) with e | e
      · subst e; exact absurd hx nl
      · exact e
    · intro hx
      rcases List.mem_cons.mp (same_corners U T hm' hl' (fun z => (h z).symm) (List.mem_cons_of_mem _ hx)) with e | e
      · subst e; exact absurd hx nm
      · exact e
end Sc
namespace Sc
/-! A piece cut along a line -/
/-- neighbours in a row made of rows -/
theorem head_fm {α : Type} (g : Nat → List α) : ∀ (k a : Nat) (q : α) (v : List α), (List.range' a k).flatMap g = q :: v → ∃ j v', a ≤ j ∧ g j = q :: v' ∧ ∀ m, a ≤ m → m < j → g m = []
  | 0, a, q, v, h => by simp at h
  | k + 1, a, q, v, h => by
    rw [List.range'_succ, List.flatMap_cons] at h
    cases e : g a with
    | nil =>
      rw [e, List.nil_append] at h
      obtain ⟨j, v', h1, h2, h3⟩ := head_fm g k (a + 1) q v h
      refine ⟨j, v', by omega, h2, fun m hm hj => ?_⟩
      by_cases c : m = a
      · rw [c]; exact e
      · exact h3 m (by omega) hj
    | cons y t =>
      rw [e, List.cons_append] at h
      injection h with h1 h2
      subst h1
      exact ⟨a, t, Nat.le_refl _, e, fun m h1 h2 => by omega⟩
theorem adj_fm {α : Type} (g : Nat → List α) : ∀ (k a : Nat) (u : List α) (p q : α) (v : List α), (List.range' a k).flatMap g = u ++ p :: q :: v →
    (∃ i u' v', g i = u' ++ p :: q :: v') ∨ (∃ i j u' v', i < j ∧ g i = u' ++ [p] ∧ g j = q :: v' ∧ ∀ m, i < m → m < j → g m = [])
  | 0, a, u, p, q, v, h => by simp at h
  | k + 1, a, u, p, q, v, h => by
    rw [List.range'_succ, List.flatMap_cons] at h
    rcases List.append_eq_append_iff.mp h with ⟨w, e1, e2⟩ | ⟨w, e1, e2⟩
    · exact adj_fm g k (a + 1) w p q v e2
    · cases w with
      | nil =>
        rw [List.nil_append] at e2
        exact adj_fm g k (a + 1) [] p q v (by rw [← e2]; rfl)
      | cons p' w =>
        rw [List.cons_append] at e2
        injection e2 with e3 e4
        subst e3
        cases w with
        | nil =>
          rw [List.nil_append] at e4
          obtain ⟨j, v', h1, h2, h3⟩ := head_fm g k (a + 1) q v e4.symm
          exact .inr ⟨a, j, u, v', by omega, e1, h2, fun m hm hj => h3 m (by omega) hj⟩
        | cons q' w =>
          rw [List.cons_append] at e4
          injection e4 with e5 e6
          subst e5
          exact .inl ⟨a, u, w, e1⟩
/-- three of a row made of rows -/
theorem sub_fm {α : Type} (g : Nat → List α) (p q r : α) : ∀ (k a : Nat), [p, q, r].Sublist ((List.range' a k).flatMap g) →
    (∃ i j l, i < j ∧ j < l ∧ l < a + k ∧ p ∈ g i ∧ q ∈ g j ∧ r ∈ g l) ∨ (∃ i j, i < j ∧ j < a + k ∧ [p, q].Sublist (g i) ∧ r ∈ g j) ∨ (∃ i j, i < j ∧ j < a + k ∧ p ∈ g i ∧ [q, r].Sublist (g j)) ∨ ∃ i, [p, q, r].Sublist (g i) := by
  have one : ∀ (k a : Nat) (x : α), [x].Sublist ((List.range' a k).flatMap g) → ∃ i, a ≤ i ∧ i < a + k ∧ x ∈ g i := fun k a x h => by
    obtain ⟨i, hi, hx⟩ := List.mem_flatMap.mp (List.singleton_sublist.mp h)
    obtain ⟨h1, h2⟩ := List.mem_range'_1.mp hi
    exact ⟨i, h1, h2, hx⟩
  have two : ∀ (k a : Nat) (x y : α), [x, y].Sublist ((List.range' a k).flatMap g) → (∃ i j, a ≤ i ∧ i < j ∧ j < a + k ∧ x ∈ g i ∧ y ∈ g j) ∨ ∃ i, a ≤ i ∧ i < a + k ∧ [x, y].Sublist (g i) := by
    intro k
    induction k with
    | zero => intro a x y h; simp at h
    | succ k ih =>
      intro a x y h
      rw [List.range'_succ, List.flatMap_cons] at h
      obtain ⟨u, v, e, h1, h2⟩ := List.sublist_append_iff.mp h
      match u, e with
      | [], e =>
        simp at e; subst e
        rcases ih (a + 1) x y h2 with ⟨i, j, q1, q2, q3, q4, q5⟩ | ⟨i, q1, q2, q3⟩
        · exact .inl ⟨i, j, by omega, q2, by omega, q4, q5⟩
        · exact .inr ⟨i, by omega, by omega, q3⟩
      | [_], e =>
        simp at e; obtain ⟨rfl, rfl⟩ := e
        obtain ⟨j, q1, q2, q3⟩ := one k (a + 1) y h2
        exact .inl ⟨a, j, Nat.le_refl _, by omega, by omega, List.singleton_sublist.mp h1, q3⟩
      | [_, _], e =>
        simp at e; obtain ⟨rfl, rfl, rfl⟩ := e
        exact .inr ⟨a, Nat.le_refl _, by omega, h1⟩
      | _ :: _ :: _ :: _, e => simp at e
  intro k
  induction k with
  | zero => intro a h; simp at h
  | succ k ih =>
    intro a h
    rw [List.range'_succ, List.flatMap_cons] at h
    obtain ⟨u, v, e, h1, h2⟩ := List.sublist_append_iff.mp h
    match u, e with
    | [], e =>
      simp at e; subst e
      rcases ih (a + 1) h2 with ⟨i, j, l, q1, q2, q3, q4⟩ | ⟨i, j, q1, q2, q3⟩ | ⟨i, j, q1, q2, q3⟩ | q
      · exact .inl ⟨i, j, l, q1, q2, by omega, q4⟩
      · exact .inr (.inl ⟨i, j, q1, by omega, q3⟩)
      · exact .inr (.inr (.inl ⟨i, j, q1, by omega, q3⟩))
      · exact .inr (.inr (.inr q))
    | [_], e =>
      simp at e; obtain ⟨rfl, rfl⟩ := e
      rcases two k (a + 1) q r h2 with ⟨i, j, q1, q2, q3, q4, q5⟩ | ⟨i, q1, q2, q3⟩
      · exact .inl ⟨a, i, j, by omega, q2, by omega, List.singleton_sublist.mp h1, q4, q5⟩
      · exact .inr (.inr (.inl ⟨a, i, by omega, by omega, List.singleton_sublist.mp h1, q3⟩))
    | [_, _], e =>
      simp at e; obtain ⟨rfl, rfl, rfl⟩ := e
      obtain ⟨j, q1, q2, q3⟩ := one k (a + 1) r h2
      exact .inr (.inl ⟨a, j, by omega, by omega, h1, q3⟩)
    | [_, _, _], e =>
      simp at e; obtain ⟨rfl, rfl, rfl, rfl⟩ := e
      exact .inr (.inr (.inr ⟨a, h1⟩))
    | _ :: _ :: _ :: _ :: _, e => simp at e
/-- of the side from a to b: its first corner, if it's on the left; where it crosses -/
def crosses (s t a b : V2) : Prop := (0 < tn s t a ∧ tn s t b < 0) ∨ (tn s t a < 0 ∧ 0 < tn s t b)
instance (s t a b : V2) : Decidable (crosses s t a b) := inferInstanceAs (Decidable (_ ∨ _))
def xp (s t a b : V2) : V2 := mx (tn s t a / (tn s t a - tn s t b)) a b
def gp (s t a b : V2) : List V2 := (if tn s t a < 0 then [] else [a]) ++ if crosses s t a b then [xp s t a b] else []
def clip2 (s t : V2) (l : List V2) : List V2 := (List.range l.length).flatMap fun i => gp s t (ac l i) (ac l (i + 1))
theorem share {u v : Rat} (h : (0 < u ∧ v < 0) ∨ (u < 0 ∧ 0 < v)) : 0 < u / (u - v) ∧ u / (u - v) < 1 ∧ (1 - u / (u - v)) * u + u / (u - v) * v = 0 := by
  have h0 : u - v ≠ 0 := by grind
  have e : u / (u - v) * (u - v) = u := Rat.div_mul_cancel h0
  generalize u / (u - v) = t at *
  have e3 : (1 - t) * u + t * v = 0 := by grind
  refine ⟨?_, ?_, e3⟩
  · refine Rat.not_le.mp fun n => ?_
    rcases h with ⟨h1, h2⟩ | ⟨h1, h2⟩
    · have := nn_mul (show 0 ≤ -t by grind) (show 0 ≤ u - v by grind)
      grind
    · have := nn_mul (show 0 ≤ -t by grind) (show 0 ≤ v - u by grind)
      grind
  · refine Rat.not_le.mp fun n => ?_
    rcases h with ⟨h1, h2⟩ | ⟨h1, h2⟩
    · have := nn_mul (show 0 ≤ t - 1 by grind) (show 0 ≤ u - v by grind)
      grind
    · have := nn_mul (show 0 ≤ t - 1 by grind) (show 0 ≤ v - u by grind)
      grind
/-- a point of gp, told as its share of the side -/
structure OnSide (s t a b : V2) (p : V2) (r : Rat) : Prop where
  e : p = mx r a b
  lo : 0 ≤ r
  hi : r < 1
  f : 0 ≤ tn s t p
  z : r = 0 ∨ tn s t p = 0
  a0 : tn s t a < 0 → 0 < r
theorem xp_on {s t a b : V2} (h : crosses s t a b) : OnSide s t a b (xp s t a b) (tn s t a / (tn s t a - tn s t b)) ∧ 0 < tn s t a / (tn s t a - tn s t b) := by
  obtain ⟨h1, h2, h3⟩ := share h
  have z : tn s t (xp s t a b) = 0 := by unfold xp; rw [tn_mx3]; exact h3
  exact ⟨⟨rfl, Rat.le_of_lt h1, h2, by rw [z]; exact Rat.le_refl, .inr z, fun _ => h1⟩, h1⟩
theorem gp_on {s t a b p : V2} (h : p ∈ gp s t a b) : ∃ r, OnSide s t a b p r := by
  unfold gp at h
  rcases List.mem_append.mp h with h | h
  · by_cases c : tn s t a < 0
    · rw [if_pos c] at h; simp at h
    · rw [if_neg c] at h
      simp at h
      subst h
      exact ⟨0, (mx_zero _ _).symm, Rat.le_refl, by decide, Rat.not_lt.mp c, .inl rfl, fun k => absurd k c⟩
  · by_cases c : crosses s t a b
    · rw [if_pos c] at h
      simp at h
      subst h
      exact ⟨_, (xp_on c).1⟩
    · rw [if_neg c] at h; simp at h
theorem gp_two {s t a b p q : V2} (h : [p, q].Sublist (gp s t a b)) : p = a ∧ q = xp s t a b ∧ 0 < tn s t a ∧ tn s t b < 0 := by
  unfold gp at h
  by_cases c : tn s t a < 0
  · rw [if_pos c, List.nil_append] at h
    split at h
    · have := h.length_le; simp at this
    · have := h.length_le; simp at this
  · rw [if_neg c] at h
    by_cases k : crosses s t a b
    · rw [if_pos k] at h
      have e : [p, q] = [a, xp s t a b] := h.eq_of_length rfl
      injection e with e1 e2
      injection e2 with e2 _
      refine ⟨e1, e2, ?_⟩
      rcases k with k | k
      · exact k
      · exact absurd k.1 c
    · rw [if_neg k] at h
      have := h.length_le; simp at this
theorem gp_three {s t a b p q r : V2} (h : [p, q, r].Sublist (gp s t a b)) : False := by
  have h1 := h.length_le
  unfold gp at h1
  rw [List.length_append] at h1
  have a1 : (if tn s t a < 0 then ([] : List V2) else [a]).length ≤ 1 := by split <;> simp
  have a2 : (if crosses s t a b then [xp s t a b] else []).length ≤ 1 := by split <;> simp
  simp only [List.length_cons, List.length_nil] at h1
  omega
theorem add_pos1 {a b : Rat} (h1 : 0 < a) (h2 : 0 ≤ b) : 0 < a + b := by grind
/-- a piece cut along a line keeps turning to the left -/
theorem clip_tri {s t : V2} {l : List V2} (T : Tri l) (h3 : 3 ≤ l.length) : Tri (clip2 s t l) := by
  intro p q r h
  unfold clip2 at h
  rw [List.range_eq_range'] at h
  rcases sub_fm _ p q r _ _ h with ⟨i, j, k, h1, h2, h3', hp, hq, hr⟩ | ⟨i, j, h1, h2, hpq, hr⟩ | ⟨i, j, h1, h2, hp, hqr⟩ | ⟨i, k⟩
  · -- on three sides
    obtain ⟨x, ⟨rfl, x0, x1, _, _, _⟩⟩ := gp_on hp
    obtain ⟨y, ⟨rfl, y0, y1, _, _, _⟩⟩ := gp_on hq
    obtain ⟨z, ⟨rfl, z0, z1, _, _, _⟩⟩ := gp_on hr
    have hx : 0 < 1 - x := by grind
    have hy : 0 < 1 - y := by grind
    have hz : 0 < 1 - z := by grind
    rw [tn_mx1, tn_mx2, tn_mx2, tn_mx3, tn_mx3, tn_mx3, tn_mx3]
    have w := fun (a b c : Nat) (h1 : a ≤ b) (h2 : b ≤ c) (h3 : c ≤ l.length) => T.weak h1 h2 h3
    refine add_pos1 (p_mul hx (add_pos1 (p_mul hy (add_pos1 (p_mul hz (T.at h1 h2 (by omega))) (nn_mul z0 (w _ _ _ (by omega) (by omega) (by omega))))) (nn_mul y0 ?_))) (nn_mul x0 ?_)
    · have a1 := nn_mul (Rat.le_of_lt hz) (w i (j + 1) k (by omega) (by omega) (by omega))
      have a2 := nn_mul z0 (w i (j + 1) (k + 1) (by omega) (by omega) (by omega))
      grind
    · have a1 := nn_mul (Rat.le_of_lt hy) (nn_mul (Rat.le_of_lt hz) (w (i + 1) j k (by omega) (by omega) (by omega)))
      have a2 := nn_mul (Rat.le_of_lt hy) (nn_mul z0 (w (i + 1) j (k + 1) (by omega) (by omega) (by omega)))
      have a3 := nn_mul y0 (nn_mul (Rat.le_of_lt hz) (w (i + 1) (j + 1) k (by omega) (by omega) (by omega)))
      have a4 := nn_mul y0 (nn_mul z0 (w (i + 1) (j + 1) (k + 1) (by omega) (by omega) (by omega)))
      grind
  · -- two on one side, one behind
    obtain ⟨rfl, rfl, fa, fb⟩ := gp_two hpq
    obtain ⟨z, ⟨rfl, z0, z1, fz, _, za⟩⟩ := gp_on hr
    obtain ⟨_, u0⟩ := xp_on (.inl ⟨fa, fb⟩)
    have hz : 0 < 1 - z := by grind
    unfold xp
    rw [tn_mx2, tn_aa, Rat.mul_zero, Rat.zero_add, tn_mx3]
    refine p_mul u0 ?_
    by_cases c : j = i + 1
    · subst c
      have zz := za fb
      have k := T.strict (i := i) (j := i + 1) (k := i + 1 + 1) (by omega) (by omega) (by omega) (by omega)
      have := p_mul zz k
      rw [tn_bb]
      grind
    · have k := p_mul hz (T.at (i := i) (j := i + 1) (k := j) (by omega) (by omega) (by omega))
      have k2 := nn_mul z0 (T.weak (i := i) (j := i + 1) (k := j + 1) (by omega) (by omega) (by omega))
      exact add_pos1 k k2
  · -- one, and two on one side behind
    obtain ⟨rfl, rfl, fa, fb⟩ := gp_two hqr
    obtain ⟨z, ⟨rfl, z0, z1, fz, _, za⟩⟩ := gp_on hp
    obtain ⟨_, u0⟩ := xp_on (.inl ⟨fa, fb⟩)
    have hz : 0 < 1 - z := by grind
    unfold xp
    rw [tn_mx3, tn_bb, Rat.mul_zero, Rat.zero_add, tn_mx1]
    refine p_mul u0 ?_
    by_cases c : i = 0 ∧ j + 1 = l.length
    · obtain ⟨rfl, c2⟩ := c
      rw [c2, ac_len] at fb ⊢
      have zz := za fb
      have k := T.at (i := 0) (j := 0 + 1) (k := j) (by omega) (by omega) (by omega)
      have := p_mul zz k
      rw [tn_ab, tn_cyc]
      grind
    · have k := p_mul hz (T.strict (i := i) (j := j) (k := j + 1) (by omega) (by omega) (by omega) (by omega))
      have k2 := nn_mul z0 (T.weak (i := i + 1) (j := j) (k := j + 1) (by omega) (by omega) (by omega))
      exact add_pos1 k k2
  · exact (gp_three k).elim
/-- all corners of what's left lie in the piece, and on the left of the line -/
theorem clip_mem {s t : V2} {l : List V2} (T : Tri l) (h3 : 3 ≤ l.length) {p : V2} (h : p ∈ clip2 s t l) : Rg l p ∧ 0 ≤ tn s t p := by
  unfold clip2 at h
  obtain ⟨i, hi, hp⟩ := List.mem_flatMap.mp h
  obtain ⟨r, ⟨rfl, r0, r1, f, _, _⟩⟩ := gp_on hp
  refine ⟨fun j => ?_, f⟩
  have a := T.mem_rg (ac_mem (l := l) i (by omega)) j
  have b := T.mem_rg (ac_mem (l := l) (i + 1) (by omega)) j
  rw [tn_mx3]
  have p1 := nn_mul (show 0 ≤ 1 - r by grind) a
  have p2 := nn_mul r0 b
  grind
theorem gp_in {s t : V2} {l : List V2} {i : Nat} {p : V2} (hl : 0 < l.length) (h : p ∈ gp s t (ac l i) (ac l (i + 1))) : p ∈ clip2 s t l := by
  unfold clip2
  refine List.mem_flatMap.mpr ⟨i % l.length, List.mem_range.mpr (Nat.mod_lt _ hl), ?_⟩
  have e : ac l (i % l.length + 1) = ac l (i + 1) := by unfold ac; rw [Nat.mod_add_mod]
  show p ∈ gp s t (ac l (i % l.length)) (ac l (i % l.length + 1))
  rw [ac_mod, e]; exact h
/-- if some corner lies on the left, and not on the line, three are left at least -/
theorem clip_len {s t : V2} {l : List V2} (T : Tri l) (h3 : 3 ≤ l.length) {v : V2} (hv : v ∈ l) (fv : 0 < tn s t v) : 3 ≤ (clip2 s t l).length := by
  obtain ⟨j, hj, rfl⟩ := mem_ac hv
  have hl : 0 < l.length := by omega
  let i := j + l.length - 1
  have ei : ac l (i + 1) = ac l j := by rw [show i + 1 = j + l.length by omega, ac_add]
  -- the corner itself
  have m1 : ac l j ∈ clip2 s t l := gp_in (i := j) hl (by
    unfold gp
    rw [if_neg (by grind)]; simp)
  -- one behind it
  have m2 : ∃ r, 0 < r ∧ mx r (ac l j) (ac l (j + 1)) ∈ clip2 s t l := by
    by_cases c : tn s t (ac l (j + 1)) < 0
    · refine ⟨_, (xp_on (.inl ⟨fv, c⟩)).2, gp_in (i := j) hl ?_⟩
      unfold gp
      rw [if_pos (show crosses s t (ac l j) (ac l (j + 1)) from .inl ⟨fv, c⟩)]
      exact List.mem_append_right _ (List.mem_singleton.mpr rfl)
    · refine ⟨1, by decide, gp_in (i := j + 1) hl ?_⟩
      have e : mx 1 (ac l j) (ac l (j + 1)) = ac l (j + 1) := V2.ext' (by unfold mx; grind) (by unfold mx; grind)
      rw [e]
      unfold gp
      rw [if_neg c]; simp
  -- one before it
  have m3 : ∃ r, 0 ≤ r ∧ r < 1 ∧ mx r (ac l i) (ac l j) ∈ clip2 s t l := by
    by_cases c : tn s t (ac l i) < 0
    · have k : crosses s t (ac l i) (ac l j) := .inr ⟨c, fv⟩
      refine ⟨_, (xp_on k).1.lo, (xp_on k).1.hi, gp_in (i := i) hl ?_⟩
      unfold gp
      rw [ei, if_pos k]
      exact List.mem_append_right _ (List.mem_singleton.mpr rfl)
    · refine ⟨0, Rat.le_refl, by decide, gp_in (i := i) hl ?_⟩
      rw [mx_zero]
      unfold gp
      rw [if_neg c]; simp
  have turn : 0 < tn (ac l i) (ac l j) (ac l (j + 1)) := by
    by_cases c0 : j = 0
    · have e1 : ac l i = ac l (l.length - 1) := by show ac l (j + l.length - 1) = _; rw [c0, Nat.zero_add]
      rw [e1, c0, ← tn_cyc]
      exact T.at (by omega) (by omega) (by omega)
    · have e1 : ac l i = ac l (j - 1) := by rw [← ac_add l (j - 1)]; congr 1; omega
      rw [e1]
      exact T.strict (by omega) (by omega) (by omega) (by omega)
  obtain ⟨r, r0, m2⟩ := m2
  obtain ⟨q, q0, q1, m3⟩ := m3
  have d : 0 < tn (mx q (ac l i) (ac l j)) (ac l j) (mx r (ac l j) (ac l (j + 1))) := by
    rw [tn_mx1, tn_aa, tn_mx3, tn_bb]
    have := p_mul (show 0 < 1 - q by grind) (p_mul r0 turn)
    grind
  have n1 : ac l j ≠ mx r (ac l j) (ac l (j + 1)) := fun e => by rw [← e, tn_bb] at d; exact absurd d (by decide)
  have n2 : mx q (ac l i) (ac l j) ≠ ac l j := fun e => by rw [e, tn_aa] at d; exact absurd d (by decide)
  have n3 : mx q (ac l i) (ac l j) ≠ mx r (ac l j) (ac l (j + 1)) := fun e => by rw [e, tn_ab] at d; exact absurd d (by decide)
  generalize mx r (ac l j) (ac l (j + 1)) = A at *
  generalize mx q (ac l i) (ac l j) = B at *
  generalize ac l j = C at *
  match hc : clip2 s t l with
  | [] => rw [hc] at m1; simp at m1
  | [x] => rw [hc] at m1 m2; simp at m1 m2; exact absurd (m1.trans m2.symm) n1
  | [x, y] =>
    rw [hc] at m1 m2 m3
    simp at m1 m2 m3
    grind
  | _ :: _ :: _ :: _ => simp
/-- neighbours in what's left: on one side, or both on the line -/
theorem clip_adj {s t : V2} {l : List V2} (hl : 0 < l.length) (hc : 0 < (clip2 s t l).length) (I : Nat) :
    (∃ i x y, x ≤ y ∧ ac (clip2 s t l) I = mx x (ac l i) (ac l (i + 1)) ∧ ac (clip2 s t l) (I + 1) = mx y (ac l i) (ac l (i + 1))) ∨ (tn s t (ac (clip2 s t l) I) = 0 ∧ tn s t (ac (clip2 s t l) (I + 1)) = 0) := by
  let g : Nat → List V2 := fun i => gp s t (ac l i) (ac l (i + 1))
  have per : ∀ i, g (i + l.length) = g i := fun i => by
    show gp s t (ac l (i + l.length)) (ac l (i + l.length + 1)) = _
    rw [ac_add, show i + l.length + 1 = i + 1 + l.length by omega, ac_add]
  have e0 : clip2 s t l = (List.range' 0 l.length).flatMap g := by unfold clip2; rw [List.range_eq_range']
  have shift : ∀ k a, (List.range' (a + l.length) k).flatMap g = (List.range' a k).flatMap g := by
    intro k
    induction k with
    | zero => intro a; rfl
    | succ k ih =>
      intro a
      rw [List.range'_succ, List.range'_succ, List.flatMap_cons, List.flatMap_cons, per, show a + l.length + 1 = a + 1 + l.length by omega, ih]
  have e2 : (List.range' 0 (l.length + l.length)).flatMap g = clip2 s t l ++ clip2 s t l := by
    rw [← List.range'_append_1, List.flatMap_append, Nat.zero_add, ← e0]
    have := shift l.length 0
    rw [Nat.zero_add] at this
    rw [this, ← e0]
  generalize clip2 s t l = c at *
  -- two neighbours in the row twice
  have sp : ∃ u v, c ++ c = u ++ ac c I :: ac c (I + 1) :: v := by
    have hI : I % c.length < c.length := Nat.mod_lt _ hc
    have a1 : ac c I = (c ++ c)[I % c.length]'(by rw [List.length_append]; omega) := by
      rw [← ac_mod, ac_lt hI, List.getElem_append_left hI]
    have a2 : ac c (I + 1) = (c ++ c)[I % c.length + 1]'(by rw [List.length_append]; omega) := by
      have e : ac c (I + 1) = ac c (I % c.length + 1) := by unfold ac; rw [Nat.mod_add_mod]
      rw [e]
      by_cases k : I % c.length + 1 < c.length
      · rw [ac_lt k, List.getElem_append_left k]
      · have k2 : I % c.length + 1 = c.length := by omega
        have k3 : ac c (I % c.length + 1) = c[0] := by rw [k2, ac_len, ac_lt hc]
        rw [List.getElem_append_right (by omega), k3]
        congr 1; omega
    refine ⟨(c ++ c).take (I % c.length), (c ++ c).drop (I % c.length + 1 + 1), ?_⟩
    rw [a1, a2, ← List.drop_eq_getElem_cons, ← List.drop_eq_getElem_cons, List.take_append_drop]
  obtain ⟨u, v, sp⟩ := sp
  rw [← e2] at sp
  generalize ac c I = p at *
  generalize ac c (I + 1) = q at *
  rcases adj_fm g _ _ u p q v sp with ⟨i, u', v', e⟩ | ⟨i, j, u', v', hij, h1, h2, h3⟩
  · have k : [p, q].Sublist (gp s t (ac l i) (ac l (i + 1))) := by
      show [p, q].Sublist (g i)
      rw [e]
      exact (show [p, q].Sublist (p :: q :: v') by simp).trans (List.sublist_append_right _ _)
    obtain ⟨rfl, rfl, f1, f2⟩ := gp_two k
    have x := xp_on (.inl ⟨f1, f2⟩)
    exact .inl ⟨i, 0, _, x.1.lo, (mx_zero _ _).symm, rfl⟩
  · have hp : p ∈ gp s t (ac l i) (ac l (i + 1)) := by show p ∈ g i; rw [h1]; simp
    have hq : q ∈ gp s t (ac l j) (ac l (j + 1)) := by show q ∈ g j; rw [h2]; simp
    by_cases c1 : tn s t (ac l (i + 1)) < 0
    · refine .inr ⟨?_, ?_⟩
      · obtain ⟨r, o⟩ := gp_on hp
        rcases o.z with z | z
        · -- the corner itself is the last one: the side doesn't cross
          have ep : p = ac l i := by rw [o.e, z, mx_zero]
          by_cases c2 : 0 < tn s t (ac l i)
          · exfalso
            have k : crosses s t (ac l i) (ac l (i + 1)) := .inl ⟨c2, c1⟩
            have e : g i = [ac l i, xp s t (ac l i) (ac l (i + 1))] := by
              show gp s t (ac l i) (ac l (i + 1)) = _
              unfold gp
              rw [if_neg (by grind), if_pos k]; rfl
            rw [e] at h1
            have h1' : [ac l i] ++ [xp s t (ac l i) (ac l (i + 1))] = u' ++ [p] := h1
            have e5 := (List.append_inj' h1' rfl).2
            injection e5 with e6 _
            have x := (xp_on k).1
            have f0 : tn s t p = 0 := by
              rcases x.z with z2 | z2
              · have := (xp_on k).2; grind
              · rw [← e6]; exact z2
            rw [ep] at f0
            grind
          · have := o.f
            rw [ep] at this ⊢
            grind
        · exact z
      · obtain ⟨r, o⟩ := gp_on hq
        rcases o.z with z | z
        · have eq : q = ac l j := by rw [o.e, z, mx_zero]
          have fq := o.f
          rw [eq] at fq ⊢
          have n1 : j ≠ i + 1 := fun e => by rw [e] at fq; grind
          have h4 := h3 (j - 1) (by omega) (by omega)
          have h5 : gp s t (ac l (j - 1)) (ac l (j - 1 + 1)) = [] := h4
          rw [show j - 1 + 1 = j by omega] at h5
          unfold gp at h5
          rw [List.append_eq_nil_iff] at h5
          have c3 : tn s t (ac l (j - 1)) < 0 := by
            refine Classical.byContradiction fun n => ?_
            have := h5.1
            rw [if_neg n] at this; simp at this
          have c4 : ¬ crosses s t (ac l (j - 1)) (ac l j) := fun n => by
            have := h5.2
            rw [if_pos n] at this; simp at this
          have c5 : ¬ 0 < tn s t (ac l j) := fun n => c4 (.inr ⟨c3, n⟩)
          grind
        · exact z
    · -- the next corner is left
      have e1 : ∃ w, g (i + 1) = ac l (i + 1) :: w := by
        show ∃ w, gp s t (ac l (i + 1)) (ac l (i + 1 + 1)) = _
        unfold gp
        rw [if_neg c1]
        exact ⟨_, rfl⟩
      obtain ⟨w, e1⟩ := e1
      have ej : j = i + 1 := by
        refine Classical.byContradiction fun n => ?_
        have := h3 (i + 1) (by omega) (by omega)
        rw [e1] at this; simp at this
      subst ej
      rw [e1] at h2
      injection h2 with h2 _
      obtain ⟨r, o⟩ := gp_on hp
      refine .inl ⟨i, r, 1, Rat.le_of_lt o.hi, o.e, ?_⟩
      rw [← h2]
      exact V2.ext' (by unfold mx; grind) (by unfold mx; grind)
theorem fm_one (l : List V2) : ∀ r : List Nat, r.flatMap (fun i => [ac l i]) = r.map (ac l)
  | [] => rfl
  | a :: r => by rw [List.flatMap_cons, List.map_cons, fm_one l r]; rfl
theorem map_ac (l : List V2) : (List.range l.length).map (ac l) = l := by
  refine List.ext_getElem (by simp) fun i h1 h2 => ?_
  rw [List.getElem_map, List.getElem_range]
  exact ac_lt h2
/-- a line that has all corners on its left cuts nothing off -/
theorem clip_id {s t : V2} {l : List V2} (h : ∀ v ∈ l, 0 ≤ tn s t v) : clip2 s t l = l := by
  by_cases c : l.length = 0
  · have e : l = [] := List.length_eq_zero_iff.mp c
    subst e; rfl
  · have e2 : (fun i => gp s t (ac l i) (ac l (i + 1))) = fun i => [ac l i] := funext fun i => by
      have h1 := h _ (ac_mem (l := l) i (by omega))
      have h2 := h _ (ac_mem (l := l) (i + 1) (by omega))
      unfold gp
      rw [if_neg (Rat.not_lt.mpr h1), if_neg (by unfold crosses; grind)]; rfl
    unfold clip2
    rw [e2, fm_one, map_ac]
/-- what's left is what lies in the piece and on the left of the line -/
theorem clip_rg {s t : V2} {l : List V2} (T : Tri l) (h3 : 3 ≤ l.length) (hc : 3 ≤ (clip2 s t l).length) (z : V2) : Rg (clip2 s t l) z ↔ Rg l z ∧ 0 ≤ tn s t z := by
  have U := clip_tri (s := s) (t := t) T h3
  constructor
  · intro h
    refine ⟨fun i => ?_, ?_⟩
    · exact h.hull U hc fun v hv => (clip_mem T h3 hv).1 i
    · exact h.hull U hc fun v hv => (clip_mem T h3 hv).2
  · rintro ⟨h, f⟩
    by_cases hst : ∀ w, tn s t w = 0
    · rw [clip_id fun v _ => by rw [hst]; exact Rat.le_refl]
      exact h
    -- a corner off the line
    have ex : ∃ v, v ∈ clip2 s t l ∧ 0 < tn s t v := by
      refine Classical.byContradiction fun no => ?_
      have z0 : ∀ v ∈ clip2 s t l, tn s t v = 0 := fun v hv => by
        have a := (clip_mem T h3 hv).2
        have b : ¬ 0 < tn s t v := fun n => no ⟨v, hv, n⟩
        grind
      have d := U.at (show 0 < 1 by omega) (show 1 < 2 by omega) (show 2 < (clip2 s t l).length by omega)
      have y0 := z0 _ (ac_mem 0 (by omega))
      have y1 := z0 _ (ac_mem 1 (by omega))
      have y2 := z0 _ (ac_mem 2 (by omega))
      generalize ac (clip2 s t l) 0 = a at *
      generalize ac (clip2 s t l) 1 = b at *
      generalize ac (clip2 s t l) 2 = c at *
      -- then the line is none
      have st : ∀ w, tn s t w = 0 := fun w => by
        have := bary_tn s t a b c w
        rw [y0, y1, y2, Rat.mul_zero, Rat.mul_zero, Rat.mul_zero] at this
        have e : tn a b c * tn s t w = 0 := by grind
        exact (Rat.mul_eq_zero.mp e).resolve_left (Rat.ne_of_gt d)
      exact hst st
    obtain ⟨v, hv, fv⟩ := ex
    intro I
    rcases clip_adj (s := s) (t := t) (l := l) (by omega) (by omega) I with ⟨i, x, y, hxy, e1, e2⟩ | ⟨z1, z2⟩
    · have e : tn (ac (clip2 s t l) I) (ac (clip2 s t l) (I + 1)) z = (y - x) * tn (ac l i) (ac l (i + 1)) z := by
        rw [e1, e2]
        unfold tn mx
        grind
      rw [e]
      exact nn_mul (by grind) (h i)
    · have hI : I % (clip2 s t l).length < (clip2 s t l).length := Nat.mod_lt _ (by omega)
      obtain ⟨j, hj, ej⟩ := mem_ac hv
      have e3 : ac (clip2 s t l) (I % (clip2 s t l).length + 1) = ac (clip2 s t l) (I + 1) := by unfold ac; rw [Nat.mod_add_mod]
      have sd := U.side hI hj
      rw [ac_mod, e3, ← ej] at sd
      rcases sd with q | q | q
      · exfalso
        rw [q, ac_mod] at ej
        rw [ej, z1] at fv
        exact absurd fv (by decide)
      · exfalso
        rw [q, ac_mod, e3] at ej
        rw [ej, z2] at fv
        exact absurd fv (by decide)
      · have k := same_line (v := v) (z := z) z1 z2
        refine Rat.not_lt.mp fun n => ?_
        have a1 := nn_mul f (Rat.le_of_lt q)
        have a2 := p_mul (show 0 < - tn (ac (clip2 s t l) I) (ac (clip2 s t l) (I + 1)) z by grind) fv
        grind
end Sc
namespace Sc
open Kzq1 (Q P)
/-! One cut behind another; pieces of points with fractions -/
theorem Tri.corner {l : List V2} (T : Tri l) (h3 : 3 ≤ l.length) {j : Nat} (hj : j < l.length) : 0 < tn (ac l (j + l.length - 1)) (ac l j) (ac l (j + 1)) := by
  by_cases c0 : j = 0
  · rw [c0, Nat.zero_add, ← tn_cyc]
    exact T.at (by omega) (by omega) (by omega)
  · have e1 : ac l (j + l.length - 1) = ac l (j - 1) := by rw [← ac_add l (j - 1)]; congr 1; omega
    rw [e1]
    exact T.strict (by omega) (by omega) (by omega) (by omega)
theorem tn_none {s t : V2} (h : ∀ w, tn s t w = 0) : s = t := by
  have k1 := h ⟨s.x, s.y + 1⟩
  have k2 := h ⟨s.x + 1, s.y⟩
  unfold tn at k1 k2
  exact V2.ext' (by grind) (by grind)
/-- a corner off the line, where a point is -/
theorem off_line {l : List V2} {s t z : V2} (T : Tri l) (h3 : 3 ≤ l.length) (h : Rg l z) (f : 0 < tn s t z) : ∃ v ∈ l, 0 < tn s t v := by
  refine Classical.byContradiction fun no => ?_
  have k := h.hull (s := t) (t := s) T h3 fun v hv => by
    rw [tn_swap]
    have : ¬ 0 < tn s t v := fun n => no ⟨v, hv, n⟩
    grind
  rw [tn_swap] at k
  grind
/-- the middle of three corners lies within -/
theorem within {l : List V2} (T : Tri l) (h3 : 3 ≤ l.length) : ∃ z, Rg l z ∧ ∀ s t, s ≠ t → (∀ v ∈ l, 0 ≤ tn s t v) → 0 < tn s t z := by
  have d := T.at (show 0 < 1 by omega) (show 1 < 2 by omega) (show 2 < l.length by omega)
  have m0 := ac_mem (l := l) 0 (by omega)
  have m1 := ac_mem (l := l) 1 (by omega)
  have m2 := ac_mem (l := l) 2 (by omega)
  generalize ac l 0 = a at *
  generalize ac l 1 = b at *
  generalize ac l 2 = c at *
  let z : V2 := ⟨(a.x + b.x + c.x) / 3, (a.y + b.y + c.y) / 3⟩
  have e : ∀ s t, tn s t z = (tn s t a + tn s t b + tn s t c) / 3 := fun s t => by
    show tn s t ⟨(a.x + b.x + c.x) / 3, (a.y + b.y + c.y) / 3⟩ = _
    unfold tn
    grind
  refine ⟨z, fun i => ?_, fun s t hst k => ?_⟩
  · have k0 := T.mem_rg m0 i
    have k1 := T.mem_rg m1 i
    have k2 := T.mem_rg m2 i
    rw [e]
    grind
  · have k0 := k _ m0
    have k1 := k _ m1
    have k2 := k _ m2
    rw [e]
    refine Rat.not_le.mp fun n => hst (tn_none fun w => ?_)
    have z0 : tn s t a = 0 := by grind
    have z1 : tn s t b = 0 := by grind
    have z2 : tn s t c = 0 := by grind
    have := bary_tn s t a b c w
    rw [z0, z1, z2, Rat.mul_zero, Rat.mul_zero, Rat.mul_zero] at this
    have e : tn a b c * tn s t w = 0 := by grind
    exact (Rat.mul_eq_zero.mp e).resolve_left (Rat.ne_of_gt d)
/-- points on one line -/
def Flat (l : List V2) : Prop := ∃ u w : V2, ∀ p ∈ l, ∃ r : Rat, p = ⟨u.x + r * w.x, u.y + r * w.y⟩
theorem Flat.short {l : List V2} (h : l.length < 3) : Flat l := by
  match l, h with
  | [], _ => exact ⟨⟨0, 0⟩, ⟨0, 0⟩, fun p hp => by simp at hp⟩
  | [a], _ => exact ⟨a, ⟨0, 0⟩, fun p hp => ⟨0, by simp at hp; subst hp; exact V2.ext' (by show p.x = p.x + 0 * 0; grind) (by show p.y = p.y + 0 * 0; grind)⟩⟩
  | [a, b], _ => 
    refine ⟨a, ⟨b.x - a.x, b.y - a.y⟩, fun p hp => ?_⟩
    simp at hp
    rcases hp with rfl | rfl
    · exact ⟨0, V2.ext' (by show p.x = p.x + 0 * (b.x - p.x); grind) (by show p.y = p.y + 0 * (b.y - p.y); grind)⟩
    · exact ⟨1, V2.ext' (by show p.x = a.x + 1 * (p.x - a.x); grind) (by show p.y = a.y + 1 * (p.y - a.y); grind)⟩
  | _ :: _ :: _ :: _, h => simp at h; omega
theorem Flat.sub {l m : List V2} (h : Flat l) (k : ∀ p ∈ m, p ∈ l) : Flat m :=
  let ⟨u, w, f⟩ := h
  ⟨u, w, fun p hp => f p (k p hp)⟩
theorem Flat.tn {l : List V2} (h : Flat l) {a b c : V2} (ha : a ∈ l) (hb : b ∈ l) (hc : c ∈ l) : tn a b c = 0 := by
  obtain ⟨u, w, f⟩ := h
  obtain ⟨r, rfl⟩ := f a ha
  obtain ⟨q, rfl⟩ := f b hb
  obtain ⟨p, rfl⟩ := f c hc
  unfold Sc.tn
  grind
theorem Flat.clip {l : List V2} (h : Flat l) (s t : V2) : Flat (clip2 s t l) := by
  obtain ⟨u, w, f⟩ := h
  refine ⟨u, w, fun p hp => ?_⟩
  unfold clip2 at hp
  obtain ⟨i, hi, hp⟩ := List.mem_flatMap.mp hp
  have hl : 0 < l.length := by have := List.mem_range.mp hi; omega
  obtain ⟨x, ex⟩ := f _ (ac_mem i hl)
  obtain ⟨y, ey⟩ := f _ (ac_mem (i + 1) hl)
  obtain ⟨r, o⟩ := gp_on hp
  refine ⟨x + r * (y - x), ?_⟩
  rw [o.e, ex, ey]
  unfold mx
  exact V2.ext' (by grind) (by grind)
def clips (ss : List (V2 × V2)) (l : List V2) : List V2 := ss.foldl (fun l s => clip2 s.1 s.2 l) l
theorem clips_alive : ∀ (ss : List (V2 × V2)) {l : List V2} (_ : Tri l) (_ : 3 ≤ l.length) {z : V2} (_ : Rg l z) (_ : ∀ s ∈ ss, 0 < tn s.1 s.2 z),
    Tri (clips ss l) ∧ 3 ≤ (clips ss l).length ∧ ∀ z, Rg (clips ss l) z ↔ Rg l z ∧ ∀ s ∈ ss, 0 ≤ tn s.1 s.2 z
  | [], l, T, h3, z, h, f => ⟨T, h3, fun z => ⟨fun k => ⟨k, fun s hs => by simp at hs⟩, fun k => k.1⟩⟩
  | s :: ss, l, T, h3, z, h, f => by
    have f0 := f s List.mem_cons_self
    obtain ⟨v, hv, fv⟩ := off_line T h3 h f0
    have hc := clip_len T h3 hv fv
    have r := clip_rg T h3 hc
    obtain ⟨a, b, c⟩ := clips_alive ss (clip_tri T h3) hc ((r z).mpr ⟨h, Rat.le_of_lt f0⟩) fun q hq => f q (List.mem_cons_of_mem _ hq)
    refine ⟨a, b, fun w => (c w).trans ?_⟩
    rw [r w]
    constructor
    · rintro ⟨⟨h1, h2⟩, h4⟩
      refine ⟨h1, fun q hq => ?_⟩
      rcases List.mem_cons.mp hq with rfl | hq
      · exact h2
      · exact h4 q hq
    · rintro ⟨h1, h2⟩
      exact ⟨⟨h1, h2 s List.mem_cons_self⟩, fun q hq => h2 q (List.mem_cons_of_mem _ hq)⟩
theorem clips_flat : ∀ (ss : List (V2 × V2)) {l : List V2}, Flat l → Flat (clips ss l)
  | [], _, h => h
  | s :: ss, _, h => clips_flat ss (h.clip s.1 s.2)
/-- either three corners are left at least, or all is on one line -/
theorem clips_dead : ∀ (ss : List (V2 × V2)) {l : List V2} (_ : Tri l) (_ : 3 ≤ l.length) (_ : ∀ s ∈ ss, s.1 ≠ s.2) (_ : ¬ ∃ z, Rg l z ∧ ∀ s ∈ ss, 0 < tn s.1 s.2 z), Flat (clips ss l) := by
  have key : ∀ (ss : List (V2 × V2)) {l : List V2} (_ : Tri l) (_ : 3 ≤ l.length), Flat (clips ss l) ∨ (Tri (clips ss l) ∧ 3 ≤ (clips ss l).length ∧ ∀ z, Rg (clips ss l) z → Rg l z ∧ ∀ s ∈ ss, 0 ≤ tn s.1 s.2 z) := by
    intro ss
    induction ss with
    | nil => intro l T h3; exact .inr ⟨T, h3, fun z k => ⟨k, fun s hs => by simp at hs⟩⟩
    | cons s ss ih =>
      intro l T h3
      by_cases c : 3 ≤ (clip2 s.1 s.2 l).length
      · rcases ih (clip_tri (s := s.1) (t := s.2) T h3) c with h | ⟨h1, h2, h4⟩
        · exact .inl h
        · refine .inr ⟨h1, h2, fun z k => ?_⟩
          obtain ⟨k1, k2⟩ := h4 z k
          obtain ⟨k3, k4⟩ := (clip_rg T h3 c z).mp k1
          refine ⟨k3, fun q hq => ?_⟩
          rcases List.mem_cons.mp hq with rfl | hq
          · exact k4
          · exact k2 q hq
      · exact .inl (clips_flat ss (l := clip2 s.1 s.2 l) (Flat.short (by omega)))
  intro ss l T h3 hs no
  rcases key ss T h3 with h | ⟨h1, h2, h4⟩
  · exact h
  · obtain ⟨z, hz, k⟩ := within h1 h2
    exact absurd ⟨z, (h4 z hz).1, fun s hs' => k _ _ (hs s hs') fun v hv => (h4 v (h1.mem_rg hv)).2 s hs'⟩ no
/-! points with fractions -/
def pv (p : P) : V2 := ⟨px p, py p⟩
theorem pv_inj {p q : P} (hp : OkP p) (hq : OkP q) (h : pv p = pv q) : p = q := by
  injection h with h1 h2
  exact P_ext hp hq h1 h2
theorem pv_origin : pv Kzq1.origin = ⟨0, 0⟩ := by
  show V2.mk (val Kzq1.zero) (val Kzq1.zero) = _
  rw [val_zero]
def OkL (l : List P) : Prop := ∀ p ∈ l, OkP p
theorem at0_pv (l : List P) (i : Nat) : ac (l.map pv) i = pv (Kzq1.at0 l i) := by
  unfold ac Kzq1.at0
  rw [List.length_map, List.getD_eq_getElem?_getD, List.getD_eq_getElem?_getD, List.getElem?_map]
  cases l[i % l.length]? with
  | none => show _ = pv Kzq1.origin; rw [pv_origin]; rfl
  | some x => rfl
theorem at0_ok {l : List P} (h : OkL l) (i : Nat) : OkP (Kzq1.at0 l i) := by
  unfold Kzq1.at0
  rw [List.getD_eq_getElem?_getD]
  cases e : l[i % l.length]? with
  | none => exact origin_ok
  | some x => exact h x (List.mem_of_getElem? e)
theorem val_tn {a b c : P} (ha : OkP a) (hb : OkP b) (hc : OkP c) : val (Kzq1.turn a b c) = tn (pv a) (pv b) (pv c) := val_turn ha hb hc
theorem px_less {p q : P} (hp : OkP p) (hq : OkP q) : px (Kzq1.less p q) = px p - px q := val_sub hp.1 hq.1
theorem py_less {p q : P} (hp : OkP p) (hq : OkP q) : py (Kzq1.less p q) = py p - py q := val_sub hp.2 hq.2
/-- where a side crosses a line -/
theorem onLine_is {s t a b : P} (hs : OkP s) (ht : OkP t) (ha : OkP a) (hb : OkP b) (h : crosses (pv s) (pv t) (pv a) (pv b)) : OkP (Kzq1.onLine (s, t) a b) ∧ pv (Kzq1.onLine (s, t) a b) = xp (pv s) (pv t) (pv a) (pv b) := by
  have u := turn_ok hs ht ha
  have v := turn_ok hs ht hb
  have w := sub_ok u v
  have n : val (Kzq1.sub (Kzq1.turn s t a) (Kzq1.turn s t b)) ≠ 0 := by
    rw [val_sub u v, val_tn hs ht ha, val_tn hs ht hb]
    unfold crosses at h
    grind
  have d := div_ok u w n
  have lb := less_ok hb ha
  have tk := times_ok d lb
  unfold Kzq1.onLine
  refine ⟨plus_ok ha tk, ?_⟩
  unfold xp mx pv
  dsimp only
  have e : val (Kzq1.div (Kzq1.turn s t a) (Kzq1.sub (Kzq1.turn s t a) (Kzq1.turn s t b))) = tn (pv s) (pv t) (pv a) / (tn (pv s) (pv t) (pv a) - tn (pv s) (pv t) (pv b)) := by
    rw [val_div u w n, val_sub u v, val_tn hs ht ha, val_tn hs ht hb]
  refine V2.ext' ?_ ?_
  · show px (Kzq1.plus a _) = _
    rw [px_plus ha tk, px_times d lb, px_less hb ha, e]; rfl
  · show py (Kzq1.plus a _) = _
    rw [py_plus ha tk, py_times d lb, py_less hb ha, e]; rfl
theorem crosses_iff {s t a b : P} (hs : OkP s) (ht : OkP t) (ha : OkP a) (hb : OkP b) : ((Kzq1.pos (Kzq1.turn s t a) && Kzq1.lt (Kzq1.turn s t b) Kzq1.zero) || (Kzq1.lt (Kzq1.turn s t a) Kzq1.zero && Kzq1.pos (Kzq1.turn s t b))) = true ↔ crosses (pv s) (pv t) (pv a) (pv b) := by
  have u := turn_ok hs ht ha
  have v := turn_ok hs ht hb
  rw [pos_eq u, pos_eq v, lt_eq u zero_ok, lt_eq v zero_ok, val_zero, val_tn hs ht ha, val_tn hs ht hb]
  unfold crosses
  simp
/-- clip's row of one side -/
def gP (s : P × P) (a b : P) : List P := (if Kzq1.lt (Kzq1.turn s.1 s.2 a) Kzq1.zero then [] else [a]) ++ if (Kzq1.pos (Kzq1.turn s.1 s.2 a) && Kzq1.lt (Kzq1.turn s.1 s.2 b) Kzq1.zero) || (Kzq1.lt (Kzq1.turn s.1 s.2 a) Kzq1.zero && Kzq1.pos (Kzq1.turn s.1 s.2 b)) then [Kzq1.onLine s a b] else []
theorem gP_is {s : P × P} {a b : P} (hs : OkP s.1) (ht : OkP s.2) (ha : OkP a) (hb : OkP b) : OkL (gP s a b) ∧ (gP s a b).map pv = gp (pv s.1) (pv s.2) (pv a) (pv b) := by
  have u := turn_ok hs ht ha
  unfold gP gp
  have c1 : Kzq1.lt (Kzq1.turn s.1 s.2 a) Kzq1.zero = true ↔ tn (pv s.1) (pv s.2) (pv a) < 0 := by rw [lt_iff u zero_ok, val_zero, val_tn hs ht ha]
  have c2 := crosses_iff hs ht ha hb
  by_cases k1 : tn (pv s.1) (pv s.2) (pv a) < 0 <;> by_cases k2 : crosses (pv s.1) (pv s.2) (pv a) (pv b)
  · rw [if_pos k1, if_pos k2, if_pos (c1.mpr k1), if_pos (c2.mpr k2)]
    obtain ⟨o, e⟩ := onLine_is hs ht ha hb k2
    exact ⟨fun p hp => by simp at hp; subst hp; exact o, by simp; exact e⟩
  · rw [if_pos k1, if_neg k2, if_pos (c1.mpr k1), if_neg (fun n => k2 (c2.mp n))]
    exact ⟨fun p hp => by simp at hp, rfl⟩
  · rw [if_neg k1, if_pos k2, if_neg (fun n => k1 (c1.mp n)), if_pos (c2.mpr k2)]
    obtain ⟨o, e⟩ := onLine_is hs ht ha hb k2
    refine ⟨fun p hp => ?_, by simp; exact e⟩
    simp at hp
    rcases hp with rfl | rfl
    · exact ha
    · exact o
  · rw [if_neg k1, if_neg k2, if_neg (fun n => k1 (c1.mp n)), if_neg (fun n => k2 (c2.mp n))]
    exact ⟨fun p hp => by simp at hp; subst hp; exact ha, rfl⟩
theorem clip_is {s : P × P} {l : List P} (hs : OkP s.1) (ht : OkP s.2) (hl : OkL l) : OkL (Kzq1.clip s l) ∧ (Kzq1.clip s l).map pv = clip2 (pv s.1) (pv s.2) (l.map pv) := by
  have e : Kzq1.clip s l = (List.range l.length).flatMap fun i => gP s (Kzq1.at0 l i) (Kzq1.at0 l (i + 1)) := rfl
  rw [e]
  constructor
  · intro p hp
    obtain ⟨i, _, hp⟩ := List.mem_flatMap.mp hp
    exact (gP_is hs ht (at0_ok hl i) (at0_ok hl (i + 1))).1 p hp
  · unfold clip2
    rw [List.map_flatMap, List.length_map]
    congr 1
    funext i
    rw [at0_pv, at0_pv]
    exact (gP_is hs ht (at0_ok hl i) (at0_ok hl (i + 1))).2
theorem clips_is : ∀ (ss : List (P × P)) {l : List P} (_ : ∀ s ∈ ss, OkP s.1 ∧ OkP s.2) (_ : OkL l),
    OkL (ss.foldl (fun l s => Kzq1.clip s l) l) ∧ (ss.foldl (fun l s => Kzq1.clip s l) l).map pv = clips (ss.map fun s => (pv s.1, pv s.2)) (l.map pv)
  | [], l, _, hl => ⟨hl, rfl⟩
  | s :: ss, l, hs, hl => by
    have h0 := hs s List.mem_cons_self
    obtain ⟨a, b⟩ := clip_is h0.1 h0.2 hl
    obtain ⟨c, d⟩ := clips_is ss (l := Kzq1.clip s l) (fun q hq => hs q (List.mem_cons_of_mem _ hq)) a
    refine ⟨c, ?_⟩
    show ((ss.foldl (fun l s => Kzq1.clip s l) (Kzq1.clip s l)).map pv) = clips (ss.map fun s => (pv s.1, pv s.2)) (clip2 (pv s.1) (pv s.2) (l.map pv))
    rw [d, b]
/-! formed -/
theorem fm_some {α : Type} {f : Nat → Option α} {g : Nat → α} : ∀ (r : List Nat), (∀ i ∈ r, f i = some (g i)) → r.filterMap f = r.map g
  | [], _ => rfl
  | i :: r, h => by rw [List.filterMap_cons, h i List.mem_cons_self, List.map_cons, fm_some r fun j hj => h j (List.mem_cons_of_mem _ hj)]
theorem map_at0 (l : List P) : (List.range l.length).map (Kzq1.at0 l) = l := by
  refine List.ext_getElem (by simp) fun i h1 h2 => ?_
  rw [List.getElem_map, List.getElem_range]
  unfold Kzq1.at0
  rw [Nat.mod_eq_of_lt h2, List.getD_eq_getElem?_getD, List.getElem?_eq_getElem h2]; rfl
theorem formed_tri {l : List P} (ok : OkL l) (T : Tri (l.map pv)) (h3 : 3 ≤ l.length) : Kzq1.unlike l = l ∧ Kzq1.straightened l = l ∧ Kzq1.formed l = Kzq1.begunWith l := by
  have h3' : 3 ≤ (l.map pv).length := by rw [List.length_map]; exact h3
  have cor : ∀ i < l.length, 0 < tn (pv (Kzq1.at0 l (i + l.length - 1))) (pv (Kzq1.at0 l i)) (pv (Kzq1.at0 l (i + 1))) := fun i hi => by
    have := T.corner h3' (j := i) (by rw [List.length_map]; exact hi)
    rw [at0_pv, at0_pv, at0_pv, List.length_map] at this
    exact this
  have u : Kzq1.unlike l = l := by
    unfold Kzq1.unlike
    rw [fm_some (g := Kzq1.at0 l) _ fun i hi => ?_, map_at0]
    refine if_neg fun e => ?_
    have := cor i (List.mem_range.mp hi)
    rw [e, tn_bb] at this
    exact absurd this (by decide)
  have s : Kzq1.straightened l = l := by
    unfold Kzq1.straightened
    rw [fm_some (g := Kzq1.at0 l) _ fun i hi => ?_, map_at0]
    refine if_neg fun e => ?_
    have := cor i (List.mem_range.mp hi)
    rw [isZero_eq (turn_ok (at0_ok ok _) (at0_ok ok _) (at0_ok ok _)), decide_eq_true_eq, val_tn (at0_ok ok _) (at0_ok ok _) (at0_ok ok _)] at e
    rw [e] at this
    exact absurd this (by decide)
  refine ⟨u, s, ?_⟩
  unfold Kzq1.formed
  dsimp only
  rw [u, s, if_neg (by omega)]
theorem unlike_sub {ps : List P} {p : P} (h : p ∈ Kzq1.unlike ps) : ∃ i, p = Kzq1.at0 ps i ∧ i < ps.length := by
  obtain ⟨i, hi, e⟩ := List.mem_filterMap.mp h
  by_cases c : Kzq1.at0 ps i = Kzq1.at0 ps (i + 1)
  · rw [if_pos c] at e; cases e
  · rw [if_neg c] at e
    cases e
    exact ⟨i, rfl, List.mem_range.mp hi⟩
theorem formed_flat {l : List P} (ok : OkL l) (F : Flat (l.map pv)) : Kzq1.formed l = [] := by
  have hm : ∀ p ∈ Kzq1.unlike l, pv p ∈ l.map pv := fun p hp => by
    obtain ⟨i, rfl, hi⟩ := unlike_sub hp
    rw [← at0_pv]
    exact ac_mem i (by rw [List.length_map]; omega)
  have oku : OkL (Kzq1.unlike l) := fun p hp => by
    obtain ⟨i, rfl, _⟩ := unlike_sub hp
    exact at0_ok ok i
  have F2 : Flat ((Kzq1.unlike l).map pv) := F.sub fun q hq => by
    obtain ⟨p, hp, rfl⟩ := List.mem_map.mp hq
    exact hm p hp
  have s : ∀ m : List P, OkL m → Flat (m.map pv) → Kzq1.straightened m = [] := by
    intro m oku F2
    unfold Kzq1.straightened
    rw [List.filterMap_eq_nil_iff]
    intro i hi
    refine if_pos ?_
    have hl : 0 < (m.map pv).length := by rw [List.length_map]; have := List.mem_range.mp hi; omega
    rw [isZero_eq (turn_ok (at0_ok oku _) (at0_ok oku _) (at0_ok oku _)), decide_eq_true_eq, val_tn (at0_ok oku _) (at0_ok oku _) (at0_ok oku _), ← at0_pv, ← at0_pv, ← at0_pv]
    exact F2.tn (ac_mem _ hl) (ac_mem _ hl) (ac_mem _ hl)
  unfold Kzq1.formed
  dsimp only
  rw [s _ oku F2]
  rfl
/-! begun with the leftmost -/
theorem before_iff {a b : P} (ha : OkP a) (hb : OkP b) : Kzq1.before a b = true ↔ px a < px b ∨ (px a = px b ∧ py a < py b) := by
  unfold Kzq1.before
  rw [Bool.or_eq_true, Bool.and_eq_true, beq_iff_eq, lt_iff ha.1 hb.1, lt_iff ha.2 hb.2, eq_iff ha.1 hb.1]
def fmin (l : List P) (n : Nat) : Nat := (List.range n).foldl (fun a j => if Kzq1.before (Kzq1.at0 l j) (Kzq1.at0 l a) then j else a) 0
theorem fmin_more (l : List P) (i : Nat) : fmin l (i + 1) = if Kzq1.before (Kzq1.at0 l i) (Kzq1.at0 l (fmin l i)) then i else fmin l i := by
  unfold fmin
  rw [List.range_succ, List.foldl_append]; rfl
theorem fmin_lt (l : List P) : ∀ n, 0 < n → fmin l n < n
  | 0, h => by omega
  | 1, _ => by
    rw [fmin_more]
    split
    · omega
    · exact Nat.zero_lt_one
  | n + 2, _ => by
    rw [fmin_more]
    have := fmin_lt l (n + 1) (by omega)
    split <;> omega
theorem fmin_min {l : List P} (ok : OkL l) : ∀ n j, j < n → Kzq1.before (Kzq1.at0 l j) (Kzq1.at0 l (fmin l n)) = false
  | 0, j, h => by omega
  | n + 1, j, h => by
    rw [fmin_more]
    rw [Bool.eq_false_iff]
    intro k
    have o := at0_ok ok
    by_cases c : Kzq1.before (Kzq1.at0 l n) (Kzq1.at0 l (fmin l n)) = true
    · rw [if_pos c] at k
      rw [before_iff (o _) (o _)] at c k
      by_cases cj : j = n
      · subst cj; grind
      · have ih := fmin_min ok n j (by omega)
        rw [Bool.eq_false_iff, ne_eq, before_iff (o _) (o _)] at ih
        grind
    · rw [if_neg c] at k
      by_cases cj : j = n
      · subst cj; exact c k
      · have ih := fmin_min ok n j (by omega)
        rw [ih] at k; cases k
theorem begun_is {l : List P} (h : 0 < l.length) : ∃ t u, l = u ++ Kzq1.at0 l (fmin l l.length) :: t ∧ Kzq1.begunWith l = Kzq1.at0 l (fmin l l.length) :: (t ++ u) := by
  have hi := fmin_lt l l.length h
  have e : Kzq1.begunWith l = l.drop (fmin l l.length) ++ l.take (fmin l l.length) := rfl
  generalize fmin l l.length = i at *
  have e0 : Kzq1.at0 l i = l[i] := by
    unfold Kzq1.at0
    rw [Nat.mod_eq_of_lt hi, List.getD_eq_getElem?_getD, List.getElem?_eq_getElem hi]; rfl
  refine ⟨l.drop (i + 1), l.take i, ?_, ?_⟩
  · rw [e0, ← List.drop_eq_getElem_cons hi, List.take_append_drop]
  · rw [e, List.drop_eq_getElem_cons hi, e0]; rfl
/-- two rows of corners of one piece, begun with the leftmost, are one -/
theorem begun_eq {l m : List P} (ol : OkL l) (om : OkL m) (T : Tri (l.map pv)) (U : Tri (m.map pv)) (hl : 3 ≤ l.length) (hm : 3 ≤ m.length) (h : ∀ z, Rg (l.map pv) z ↔ Rg (m.map pv) z) : Kzq1.begunWith l = Kzq1.begunWith m := by
  obtain ⟨t, u, e1, e2⟩ := begun_is (l := l) (by omega)
  obtain ⟨t', u', e3, e4⟩ := begun_is (l := m) (by omega)
  have hl' : 3 ≤ (l.map pv).length := by rw [List.length_map]; exact hl
  have hm' : 3 ≤ (m.map pv).length := by rw [List.length_map]; exact hm
  -- the leftmost is one
  have oa := at0_ok ol (fmin l l.length)
  have ob := at0_ok om (fmin m m.length)
  have ab : Kzq1.at0 l (fmin l l.length) = Kzq1.at0 m (fmin m m.length) := by
    have min1 := fmin_min ol l.length
    have min2 := fmin_min om m.length
    have in1 : pv (Kzq1.at0 l (fmin l l.length)) ∈ m.map pv := same_corners T U hl' hm' h (by rw [← at0_pv]; exact ac_mem _ (by omega))
    have in2 : pv (Kzq1.at0 m (fmin m m.length)) ∈ l.map pv := same_corners U T hm' hl' (fun z => (h z).symm) (by rw [← at0_pv]; exact ac_mem _ (by omega))
    obtain ⟨i, hi, ei⟩ := mem_ac in1
    obtain ⟨j, hj, ej⟩ := mem_ac in2
    rw [at0_pv] at ei ej
    rw [List.length_map] at hi hj
    have ei := pv_inj oa (at0_ok om i) ei
    have ej := pv_inj ob (at0_ok ol j) ej
    have k1 := min2 i hi
    have k2 := min1 j hj
    rw [← ei] at k1
    rw [← ej] at k2
    rw [Bool.eq_false_iff, ne_eq, before_iff oa ob] at k1
    rw [Bool.eq_false_iff, ne_eq, before_iff ob oa] at k2
    exact P_ext oa ob (by grind) (by grind)
  rw [e2, e4, ← ab]
  rw [← ab] at e3
  generalize Kzq1.at0 l (fmin l l.length) = a at *
  have s1 : l.map pv = u.map pv ++ (pv a :: t.map pv) := by rw [e1]; simp
  have s3 : m.map pv = u'.map pv ++ (pv a :: t'.map pv) := by rw [e3]; simp
  have T' : Tri (pv a :: (t.map pv ++ u.map pv)) := by rw [s1] at T; exact T.rot
  have U' : Tri (pv a :: (t'.map pv ++ u'.map pv)) := by rw [s3] at U; exact U.rot
  have R' : ∀ z, Rg (pv a :: (t.map pv ++ u.map pv)) z ↔ Rg (pv a :: (t'.map pv ++ u'.map pv)) z := fun z => by
    have := h z
    rw [s1, s3] at this
    exact (Rg.rot_iff (l := u.map pv) (m := pv a :: t.map pv)).symm.trans (this.trans (Rg.rot_iff (l := u'.map pv) (m := pv a :: t'.map pv)))
  have l1 : l.length = u.length + (t.length + 1) := by rw [e1]; simp
  have l2 : m.length = u'.length + (t'.length + 1) := by rw [e3]; simp
  have k := same_piece T' U' (by simp; omega) (by simp; omega) R'
  rw [← List.map_append, ← List.map_append] at k
  have inj : ∀ (x y : List P), OkL x → OkL y → x.map pv = y.map pv → x = y := by
    intro x
    induction x with
    | nil => intro y _ _ e; cases y with
      | nil => rfl
      | cons b y => simp at e
    | cons a x ih => intro y ox oy e; cases y with
      | nil => simp at e
      | cons b y =>
        rw [List.map_cons, List.map_cons] at e
        injection e with e1 e2
        rw [pv_inj (ox a List.mem_cons_self) (oy b List.mem_cons_self) e1, ih y (fun p hp => ox p (List.mem_cons_of_mem _ hp)) (fun p hp => oy p (List.mem_cons_of_mem _ hp)) e2]
  have sub1 : OkL (t ++ u) := fun p hp => ol p (by
    rw [e1]
    rcases List.mem_append.mp hp with h | h
    · exact List.mem_append_right _ (List.mem_cons_of_mem _ h)
    · exact List.mem_append_left _ h)
  have sub2 : OkL (t' ++ u') := fun p hp => om p (by
    rw [e3]
    rcases List.mem_append.mp hp with h | h
    · exact List.mem_append_right _ (List.mem_cons_of_mem _ h)
    · exact List.mem_append_left _ h)
  rw [inj _ _ sub1 sub2 k]
theorem begun_rot (l : List P) : ∃ u v, l = u ++ v ∧ Kzq1.begunWith l = v ++ u := by
  refine ⟨l.take (fmin l l.length), l.drop (fmin l l.length), (List.take_append_drop _ _).symm, rfl⟩
/-! what lies in both of two pieces -/
structure Piece (l : List P) : Prop where
  ok : OkL l
  tri : Tri (l.map pv)
  three : 3 ≤ l.length
abbrev RgP (l : List P) (z : V2) : Prop := Rg (l.map pv) z
def Meets (p q : List P) : Prop := ∃ z, RgP p z ∧ ∀ i, 0 < tn (pv (Kzq1.at0 q i)) (pv (Kzq1.at0 q (i + 1))) z
theorem Piece.formed {l : List P} (h : Piece l) : Kzq1.formed l = Kzq1.begunWith l := (formed_tri h.ok h.tri h.three).2.2
theorem Piece.piece {l : List P} (h : Piece l) : pieceOf l = Kzq1.formed l := by
  unfold pieceOf
  rw [(formed_tri h.ok h.tri h.three).1, h.formed]
theorem Piece.rot {l m : List P} (h : Piece (l ++ m)) : Piece (m ++ l) := by
  refine ⟨fun p hp => h.ok p ?_, ?_, ?_⟩
  · rcases List.mem_append.mp hp with k | k
    · exact List.mem_append_right _ k
    · exact List.mem_append_left _ k
  · have := h.tri
    rw [List.map_append] at this ⊢
    exact this.rot
  · have := h.three
    rw [List.length_append] at this ⊢
    omega
theorem Piece.begun {l : List P} (h : Piece l) : Piece (Kzq1.begunWith l) := by
  obtain ⟨u, v, e1, e2⟩ := begun_rot l
  rw [e2]
  rw [e1] at h
  exact h.rot
theorem RgP.begun {l : List P} {z : V2} : RgP (Kzq1.begunWith l) z ↔ RgP l z := by
  obtain ⟨u, v, e1, e2⟩ := begun_rot l
  rw [e2]
  conv => rhs; rw [e1]
  unfold RgP
  rw [List.map_append, List.map_append]
  exact Rg.rot_iff
theorem Piece.same {l m : List P} (h : Piece l) (k : Piece m) (e : ∀ z, RgP l z ↔ RgP m z) : Kzq1.formed l = Kzq1.formed m := by
  rw [h.formed, k.formed]
  exact begun_eq h.ok k.ok h.tri k.tri h.three k.three e
theorem sides_pv (q : List P) : (Kzq1.sides q).map (fun s => (pv s.1, pv s.2)) = (List.range q.length).map fun i => (pv (Kzq1.at0 q i), pv (Kzq1.at0 q (i + 1))) := by
  unfold Kzq1.sides
  rw [List.map_map]; rfl
theorem at0_period (q : List P) (i : Nat) : Kzq1.at0 q (i % q.length) = Kzq1.at0 q i ∧ Kzq1.at0 q (i % q.length + 1) = Kzq1.at0 q (i + 1) := by
  unfold Kzq1.at0
  rw [Nat.mod_mod, Nat.mod_add_mod]
  exact ⟨rfl, rfl⟩
theorem all_sides {q : List P} (h : 0 < q.length) {F : V2 → V2 → Prop} : (∀ s ∈ (Kzq1.sides q).map (fun s => (pv s.1, pv s.2)), F s.1 s.2) ↔ ∀ i, F (pv (Kzq1.at0 q i)) (pv (Kzq1.at0 q (i + 1))) := by
  rw [sides_pv]
  constructor
  · intro k i
    have := k (pv (Kzq1.at0 q (i % q.length)), pv (Kzq1.at0 q (i % q.length + 1))) (List.mem_map.mpr ⟨i % q.length, List.mem_range.mpr (Nat.mod_lt _ h), rfl⟩)
    rw [(at0_period q i).1, (at0_period q i).2] at this
    exact this
  · intro k s hs
    obtain ⟨i, _, rfl⟩ := List.mem_map.mp hs
    exact k i
theorem rg_sides (q : List P) (z : V2) : RgP q z ↔ ∀ i, 0 ≤ tn (pv (Kzq1.at0 q i)) (pv (Kzq1.at0 q (i + 1))) z := by
  unfold RgP Rg
  constructor
  · intro h i
    have := h i
    rw [at0_pv, at0_pv] at this
    exact this
  · intro h i
    rw [at0_pv, at0_pv]
    exact h i
theorem meet_alive {p q : List P} (hp : Piece p) (hq : Piece q) (h : Meets p q) : ∃ r, Piece r ∧ (∀ z, RgP r z ↔ RgP p z ∧ RgP q z) ∧ Kzq1.meet p q = Kzq1.formed r := by
  obtain ⟨z, hz, f⟩ := h
  have q0 : 0 < q.length := by have := hq.three; omega
  have okS : ∀ s ∈ Kzq1.sides q, OkP s.1 ∧ OkP s.2 := fun s hs => by
    obtain ⟨i, _, rfl⟩ := List.mem_map.mp hs
    exact ⟨at0_ok hq.ok _, at0_ok hq.ok _⟩
  obtain ⟨ok, e⟩ := clips_is (Kzq1.sides q) okS hp.ok
  obtain ⟨a, b, c⟩ := clips_alive ((Kzq1.sides q).map fun s => (pv s.1, pv s.2)) hp.tri (by rw [List.length_map]; exact hp.three) hz ((all_sides q0 (F := fun a b => 0 < tn a b z)).mpr f)
  rw [← e] at a b c
  refine ⟨_, ⟨ok, a, by rw [List.length_map] at b; exact b⟩, fun w => (c w).trans ?_, rfl⟩
  rw [all_sides q0 (F := fun a b => 0 ≤ tn a b w), rg_sides q]
theorem meet_dead {p q : List P} (hp : Piece p) (hq : Piece q) (h : ¬ Meets p q) : Kzq1.meet p q = [] := by
  have q0 : 0 < q.length := by have := hq.three; omega
  have okS : ∀ s ∈ Kzq1.sides q, OkP s.1 ∧ OkP s.2 := fun s hs => by
    obtain ⟨i, _, rfl⟩ := List.mem_map.mp hs
    exact ⟨at0_ok hq.ok _, at0_ok hq.ok _⟩
  obtain ⟨ok, e⟩ := clips_is (Kzq1.sides q) okS hp.ok
  have hq3 : 3 ≤ (q.map pv).length := by rw [List.length_map]; exact hq.three
  have ne : ∀ s ∈ (Kzq1.sides q).map (fun s => (pv s.1, pv s.2)), s.1 ≠ s.2 := by
    rw [sides_pv]
    intro s hs
    obtain ⟨i, hi, rfl⟩ := List.mem_map.mp hs
    have := hq.tri.corner hq3 (j := i) (by rw [List.length_map]; exact List.mem_range.mp hi)
    intro e
    have e : pv (Kzq1.at0 q i) = pv (Kzq1.at0 q (i + 1)) := e
    rw [at0_pv, at0_pv, at0_pv, e, tn_bb] at this
    exact absurd this (by decide)
  have F := clips_dead ((Kzq1.sides q).map fun s => (pv s.1, pv s.2)) hp.tri (by rw [List.length_map]; exact hp.three) ne (by
    rintro ⟨z, hz, f⟩
    exact h ⟨z, hz, (all_sides q0 (F := fun a b => 0 < tn a b z)).mp f⟩)
  rw [← e] at F
  exact formed_flat ok F
end Sc
namespace Sc
open Kzq1 (Q P)
/-! Stairs -/
theorem tri_cons {a : V2} {l : List V2} (h1 : l.Pairwise fun b c => 0 < tn a b c) (h2 : Tri l) : Tri (a :: l) := by
  intro x y z s
  cases s with
  | cons _ s => exact h2 _ _ _ s
  | cons_cons _ s => exact (List.pairwise_iff_forall_sublist.mp h1) s
theorem tri_nil : Tri [] := fun a b c s => by simp at s
theorem tri3 {a b c : V2} (h : 0 < tn a b c) : Tri [a, b, c] := tri_cons (by simp; exact h) (tri_cons (by simp) (tri_cons (by simp) tri_nil))
theorem tri4 {a b c d : V2} (h1 : 0 < tn a b c) (h2 : 0 < tn a b d) (h3 : 0 < tn a c d) (h4 : 0 < tn b c d) : Tri [a, b, c, d] := tri_cons (by simp; exact ⟨⟨h1, h2⟩, h3⟩) (tri3 h4)
theorem tri5 {a b c d e : V2} (h1 : 0 < tn a b c) (h2 : 0 < tn a b d) (h3 : 0 < tn a b e) (h4 : 0 < tn a c d) (h5 : 0 < tn a c e) (h6 : 0 < tn a d e) (k1 : 0 < tn b c d) (k2 : 0 < tn b c e) (k3 : 0 < tn b d e) (k4 : 0 < tn c d e) : Tri [a, b, c, d, e] :=
  tri_cons (by simp; exact ⟨⟨h1, h2, h3⟩, ⟨h4, h5⟩, h6⟩) (tri4 k1 k2 k3 k4)
theorem unlike5 (a b c d e : P) : Kzq1.unlike [a, b, c, d, e] = (if a = b then [] else [a]) ++ ((if b = c then [] else [b]) ++ ((if c = d then [] else [c]) ++ ((if d = e then [] else [d]) ++ (if e = a then [] else [e])))) := by
  have e4 : Kzq1.at0 [a, b, c, d, e] (4 + 1) = a := by simp [Kzq1.at0]
  show List.filterMap (fun i => if Kzq1.at0 [a, b, c, d, e] i = Kzq1.at0 [a, b, c, d, e] (i + 1) then none else some (Kzq1.at0 [a, b, c, d, e] i)) [0, 1, 2, 3, 4] = _
  rw [fm_cons (c := a = b) (x := a) rfl, fm_cons (c := b = c) (x := b) rfl, fm_cons (c := c = d) (x := c) rfl, fm_cons (c := d = e) (x := d) rfl, fm_cons (c := e = a) (x := e) (by rw [e4]; rfl)]
  simp
/-- what is handed in to stairs -/
structure Stair (a b c : Q) : Prop where
  oa : Ok a
  ob : Ok b
  oc : Ok c
  pa : 0 < val a
  pb : 0 < val b
  pc : 0 < val c
  lt : val c < val a
  ge : val a ≤ 2 * val c
def stRest (a c : Q) : Q := Kzq1.sub a c
def stStep (a b c : Q) : Q := Kzq1.div (Kzq1.mul b (stRest a c)) c
section
variable {a b c : Q}
theorem Stair.rest (h : Stair a b c) : Ok (stRest a c) ∧ val (stRest a c) = val a - val c := ⟨sub_ok h.oa h.oc, val_sub h.oa h.oc⟩
theorem Stair.step (h : Stair a b c) : Ok (stStep a b c) ∧ val (stStep a b c) * val c = val b * (val a - val c) := by
  have n : val c ≠ 0 := Rat.ne_of_gt h.pc
  have o := mul_ok h.ob h.rest.1
  refine ⟨div_ok o h.oc n, ?_⟩
  unfold stStep
  rw [val_div o h.oc n, Rat.div_mul_cancel n, val_mul h.ob h.rest.1, h.rest.2]
theorem Stair.is_step (h : Stair a b c) : Kzq1.sub (Kzq1.div (Kzq1.mul a b) c) b = stStep a b c := by
  have n : val c ≠ 0 := Rat.ne_of_gt h.pc
  have o := mul_ok h.oa h.ob
  have od := div_ok o h.oc n
  refine val_inj (sub_ok od h.ob) h.step.1 ?_
  have e := h.step.2
  have e2 : val (Kzq1.sub (Kzq1.div (Kzq1.mul a b) c) b) * val c = val b * (val a - val c) := by
    rw [val_sub od h.ob, val_div o h.oc n, val_mul h.oa h.ob]
    have := Rat.div_mul_cancel (a := val a * val b) n
    grind
  have e3 : (val (Kzq1.sub (Kzq1.div (Kzq1.mul a b) c) b) - val (stStep a b c)) * val c = 0 := by grind
  have := (Rat.mul_eq_zero.mp e3).resolve_right n
  grind
/-- the corners of the three parts, as the program tells them -/
def st1 (a b c : Q) : List P := [⟨Kzq1.zero, Kzq1.zero⟩, ⟨c, Kzq1.zero⟩, ⟨c, stStep a b c⟩, ⟨stRest a c, b⟩, ⟨Kzq1.zero, b⟩]
def st2 (a b c : Q) : List P := [⟨c, Kzq1.zero⟩, ⟨a, Kzq1.zero⟩, ⟨c, stStep a b c⟩]
def st3 (a b c : Q) : List P := [⟨stRest a c, b⟩, ⟨a, Kzq1.zero⟩, ⟨a, b⟩]
def stParts (a b c : Q) : List Kzq2.Part := [⟨pieceOf (st1 a b c), Kzq2.stay⟩, ⟨pieceOf (st2 a b c), ⟨false, ⟨Kzq1.sub Kzq1.zero c, b⟩⟩⟩, ⟨pieceOf (st3 a b c), ⟨false, ⟨Kzq1.sub Kzq1.zero (stRest a c), stStep a b c⟩⟩⟩]
theorem neg_is {q : Q} (h : Ok q) : Kzq1.sub Kzq1.zero q = Kzq1.neg q := by
  refine val_inj (sub_ok zero_ok h) (neg_ok h) ?_
  rw [val_sub zero_ok h, val_neg h, val_zero]; grind
theorem Stair.vals (h : Stair a b c) : 0 < val (stRest a c) ∧ 0 < val (stStep a b c) ∧ val (stStep a b c) ≤ val b ∧ val (stRest a c) ≤ val c ∧ (val (stRest a c) = val c → val (stStep a b c) = val b) ∧ (val (stRest a c) < val c → val (stStep a b c) < val b) := by
  have e := h.step.2
  have r := h.rest.2
  have lt := h.lt
  have ge := h.ge
  have pc := h.pc
  have pb := h.pb
  rw [r]
  have pr : 0 < val a - val c := by grind
  have m := Rat.mul_pos pb pr
  generalize val (stStep a b c) = s at *
  have key : val b * val c - s * val c = val b * (2 * val c - val a) := by grind
  have ps : 0 < s := by
    refine Rat.not_le.mp fun n => ?_
    have := nn_mul (show 0 ≤ -s by grind) (Rat.le_of_lt pc)
    grind
  refine ⟨pr, ps, ?_, by grind, fun q => ?_, fun q => ?_⟩
  · refine Rat.not_lt.mp fun n => ?_
    have := Rat.mul_pos (show 0 < s - val b by grind) pc
    have := nn_mul (Rat.le_of_lt pb) (show 0 ≤ 2 * val c - val a by grind)
    grind
  · have q2 : 2 * val c - val a = 0 := by grind
    rw [q2, Rat.mul_zero] at key
    have : (val b - s) * val c = 0 := by grind
    have := (Rat.mul_eq_zero.mp this).resolve_right (Rat.ne_of_gt pc)
    grind
  · refine Rat.not_le.mp fun n => ?_
    have := nn_mul (show 0 ≤ s - val b by grind) (Rat.le_of_lt pc)
    have := Rat.mul_pos pb (show 0 < 2 * val c - val a by grind)
    grind
theorem pv_mk (x y : Q) : pv ⟨x, y⟩ = ⟨val x, val y⟩ := rfl
theorem Stair.first (h : Stair a b c) : Kzq1.formed (st1 a b c) = pieceOf (st1 a b c) := by
  obtain ⟨pr, ps, sb, rc, eq, lt⟩ := h.vals
  have pc := h.pc
  have pb := h.pb
  have oz : Ok Kzq1.zero := zero_ok
  have orr := h.rest.1
  have os := h.step.1
  have ok : OkL (st1 a b c) := fun p hp => by
    unfold st1 at hp
    simp only [List.mem_cons, List.not_mem_nil, or_false] at hp
    rcases hp with rfl | rfl | rfl | rfl | rfl
    · exact ⟨oz, oz⟩
    · exact ⟨h.oc, oz⟩
    · exact ⟨h.oc, os⟩
    · exact ⟨orr, h.ob⟩
    · exact ⟨oz, h.ob⟩
  have m1 := Rat.mul_pos pc pb
  have m2 := Rat.mul_pos pr pb
  have m3 := Rat.mul_pos pc ps
  have m4 := Rat.mul_pos pr ps
  by_cases k : val (stRest a c) = val c
  · -- c is half of a
    have e1 : stRest a c = c := val_inj orr h.oc k
    have e2 : stStep a b c = b := val_inj os h.ob (eq k)
    have n1 : (⟨Kzq1.zero, Kzq1.zero⟩ : P) ≠ ⟨c, Kzq1.zero⟩ := fun e => by
      injection e with e _
      rw [← e, val_zero] at pc; exact absurd pc (by decide)
    have n2 : (⟨c, Kzq1.zero⟩ : P) ≠ ⟨c, b⟩ := fun e => by
      injection e with _ e
      rw [← e, val_zero] at pb; exact absurd pb (by decide)
    have n3 : (⟨c, b⟩ : P) ≠ ⟨Kzq1.zero, b⟩ := fun e => by
      injection e with e _
      rw [e, val_zero] at pc; exact absurd pc (by decide)
    have n4 : (⟨Kzq1.zero, b⟩ : P) ≠ ⟨Kzq1.zero, Kzq1.zero⟩ := fun e => by
      injection e with _ e
      rw [e, val_zero] at pb; exact absurd pb (by decide)
    have u : Kzq1.unlike (st1 a b c) = [⟨Kzq1.zero, Kzq1.zero⟩, ⟨c, Kzq1.zero⟩, ⟨c, b⟩, ⟨Kzq1.zero, b⟩] := by
      unfold st1
      rw [unlike5, e1, e2, if_neg n1, if_neg n2, if_pos rfl, if_neg n3, if_neg n4]; rfl
    have T : Tri ([(⟨Kzq1.zero, Kzq1.zero⟩ : P), ⟨c, Kzq1.zero⟩, ⟨c, b⟩, ⟨Kzq1.zero, b⟩].map pv) := by
      simp only [List.map_cons, List.map_nil, pv_mk, val_zero]
      refine tri4 ?_ ?_ ?_ ?_ <;> (unfold tn; dsimp only; grind)
    have ok' : OkL [(⟨Kzq1.zero, Kzq1.zero⟩ : P), ⟨c, Kzq1.zero⟩, ⟨c, b⟩, ⟨Kzq1.zero, b⟩] := fun p hp => by
      simp only [List.mem_cons, List.not_mem_nil, or_false] at hp
      rcases hp with rfl | rfl | rfl | rfl
      · exact ⟨oz, oz⟩
      · exact ⟨h.oc, oz⟩
      · exact ⟨h.oc, h.ob⟩
      · exact ⟨oz, h.ob⟩
    refine formed_of (by rw [u]; simp) ?_
    rw [u]
    exact (formed_tri ok' T (by simp)).2.1
  · have q : val (stRest a c) < val c := by grind
    have m5 := Rat.mul_pos pr (show 0 < val b - val (stStep a b c) by have := lt q; grind)
    have m6 := Rat.mul_pos ps (show 0 < val c - val (stRest a c) by grind)
    have m7 := Rat.mul_pos pc (show 0 < val b - val (stStep a b c) by have := lt q; grind)
    have m8 := Rat.mul_pos pb (show 0 < val c - val (stRest a c) by grind)
    have T : Tri ((st1 a b c).map pv) := by
      unfold st1
      simp only [List.map_cons, List.map_nil, pv_mk, val_zero]
      refine tri5 ?_ ?_ ?_ ?_ ?_ ?_ ?_ ?_ ?_ ?_ <;> (unfold tn; dsimp only; grind)
    have P5 : Piece (st1 a b c) := ⟨ok, T, by unfold st1; simp⟩
    exact P5.piece.symm
theorem Stair.second (h : Stair a b c) : Kzq1.formed (st2 a b c) = pieceOf (st2 a b c) := by
  obtain ⟨pr, ps, sb, rc, eq, lt⟩ := h.vals
  have e := h.rest.2
  rw [e] at pr
  have m := Rat.mul_pos pr ps
  have P3 : Piece (st2 a b c) := by
    refine ⟨fun p hp => ?_, ?_, by unfold st2; simp⟩
    · unfold st2 at hp
      simp only [List.mem_cons, List.not_mem_nil, or_false] at hp
      rcases hp with rfl | rfl | rfl
      · exact ⟨h.oc, zero_ok⟩
      · exact ⟨h.oa, zero_ok⟩
      · exact ⟨h.oc, h.step.1⟩
    · unfold st2
      simp only [List.map_cons, List.map_nil, pv_mk, val_zero]
      refine tri3 ?_
      unfold tn; dsimp only; grind
  exact P3.piece.symm
theorem Stair.third (h : Stair a b c) : Kzq1.formed [⟨a, Kzq1.zero⟩, ⟨a, b⟩, ⟨stRest a c, b⟩] = pieceOf (st3 a b c) := by
  have pb := h.pb
  have e := h.rest.2
  have pc := h.pc
  have m := Rat.mul_pos pc pb
  have P3 : Piece (st3 a b c) := by
    refine ⟨fun p hp => ?_, ?_, by unfold st3; simp⟩
    · unfold st3 at hp
      simp only [List.mem_cons, List.not_mem_nil, or_false] at hp
      rcases hp with rfl | rfl | rfl
      · exact ⟨h.rest.1, h.ob⟩
      · exact ⟨h.oa, zero_ok⟩
      · exact ⟨h.oa, h.ob⟩
    · unfold st3
      simp only [List.map_cons, List.map_nil, pv_mk, val_zero, e]
      refine tri3 ?_
      unfold tn; dsimp only; grind
  have e3 : st3 a b c = [⟨stRest a c, b⟩] ++ [⟨a, Kzq1.zero⟩, ⟨a, b⟩] := rfl
  have P4 : Piece ([⟨a, Kzq1.zero⟩, ⟨a, b⟩] ++ [⟨stRest a c, b⟩]) := by
    rw [e3] at P3
    exact P3.rot
  rw [P3.piece]
  exact Piece.same P4 P3 fun z => Rg.rot_iff (l := [pv ⟨a, Kzq1.zero⟩, pv ⟨a, b⟩]) (m := [pv ⟨stRest a c, b⟩])
theorem stairs_is (h : Stair a b c) : Kzq2.stairs a b c = stParts a b c := by
  show [(⟨Kzq1.formed [Kzq1.origin, ⟨c, Kzq1.zero⟩, ⟨c, Kzq1.sub (Kzq1.div (Kzq1.mul a b) c) b⟩, ⟨stRest a c, b⟩, ⟨Kzq1.zero, b⟩], Kzq2.stay⟩ : Kzq2.Part), ⟨Kzq1.formed [⟨c, Kzq1.zero⟩, ⟨a, Kzq1.zero⟩, ⟨c, Kzq1.sub (Kzq1.div (Kzq1.mul a b) c) b⟩], ⟨false, ⟨Kzq1.neg c, b⟩⟩⟩,
    ⟨Kzq1.formed [⟨a, Kzq1.zero⟩, ⟨a, b⟩, ⟨stRest a c, b⟩], ⟨false, ⟨Kzq1.neg (stRest a c), Kzq1.sub (Kzq1.div (Kzq1.mul a b) c) b⟩⟩⟩] = _
  rw [h.is_step, h.third]
  have e1 : Kzq1.formed [Kzq1.origin, ⟨c, Kzq1.zero⟩, ⟨c, stStep a b c⟩, ⟨stRest a c, b⟩, ⟨Kzq1.zero, b⟩] = pieceOf (st1 a b c) := h.first
  have e2 : Kzq1.formed [⟨c, Kzq1.zero⟩, ⟨a, Kzq1.zero⟩, ⟨c, stStep a b c⟩] = pieceOf (st2 a b c) := h.second
  rw [e1, e2, ← neg_is h.oc, ← neg_is h.rest.1]
  rfl
end
/-! what is read -/
def goodSt (a b c : Q) : Bool := !(decide (a.n ≤ 0) || (decide (b.n ≤ 0) || decide (c.n ≤ 0))) && (Kzq1.lt c a && !Kzq1.lt c (Kzq1.mul Kzq1.half a))
def rdQs : List Int → Option (List Q)
  | [] => some []
  | a :: b :: l => match Kzq1.readQ a b, rdQs l with
    | some x, some r => some (x :: r)
    | _, _ => none
  | _ => none
def rdSt (l : List Int) : Option (Q × Q × Q) := match rdQs l with
  | some [a, b, c] => if goodSt a b c = true then some (a, b, c) else none
  | _ => none
theorem good_stair {a b c : Q} (oa : Ok a) (ob : Ok b) (oc : Ok c) : goodSt a b c = true ↔ Stair a b c := by
  have sa := (n_pos oa); have sb := (n_pos ob); have sc := (n_pos oc)
  unfold goodSt
  rw [Bool.and_eq_true, Bool.and_eq_true, Bool.not_eq_true', Bool.or_eq_false_iff, Bool.or_eq_false_iff, decide_eq_false_iff_not, decide_eq_false_iff_not, decide_eq_false_iff_not, Bool.not_eq_true', lt_iff oc oa, Bool.eq_false_iff, ne_eq, lt_iff oc (mul_ok half_ok oa), val_mul half_ok oa, val_half, Int.not_le, Int.not_le, Int.not_le, sa, sb, sc]
  constructor
  · rintro ⟨⟨h1, h2, h3⟩, h4, h5⟩
    exact ⟨oa, ob, oc, h1, h2, h3, h4, by grind⟩
  · rintro ⟨_, _, _, h1, h2, h3, h4, h5⟩
    exact ⟨⟨h1, h2, h3⟩, h4, by grind⟩
where
  n_pos {q : Q} (h : Ok q) : 0 < q.n ↔ 0 < val q := by rw [Rat.lt_iff, val_num h]; simp
def rdQ1 : List Int → Option Q
  | [a, b] => Kzq1.readQ a b
  | _ => none
theorem rq_cons (a b : Int) (l : List Int) : rdQs (a :: b :: l) = match rdQ1 [a, b], rdQs l with
    | some x, some r => some (x :: r)
    | _, _ => none := rfl
theorem rq_app : ∀ (n : Nat) (l m : List Int), l.length = 2 * n → rdQs (l ++ m) = match rdQs l, rdQs m with
    | some x, some y => some (x ++ y)
    | _, _ => none
  | 0, l, m, h => by
    have e : l = [] := List.length_eq_zero_iff.mp (by omega)
    subst e
    show rdQs m = (match some ([] : List Q), rdQs m with
      | some x, some y => some (x ++ y)
      | _, _ => none)
    cases rdQs m <;> rfl
  | n + 1, l, m, h => by
    match l, h with
    | a :: b :: r, h =>
      have h' : r.length = 2 * n := by simp at h; omega
      show rdQs (a :: b :: (r ++ m)) = _
      rw [rq_cons, rq_cons, rq_app n r m h']
      cases rdQ1 [a, b] <;> cases rdQs r <;> cases rdQs m <;> rfl
theorem rq_two {l : List Int} (h : l.length = 2) : rdQs l = (rdQ1 l).map fun p => [p] := by
  match l, h with
  | [a, b], _ =>
    rw [rq_cons]
    show (match rdQ1 [a, b], some ([] : List Q) with
      | some x, some r => some (x :: r)
      | _, _ => none) = _
    cases rdQ1 [a, b] <;> rfl
theorem rq_more {ns : List Int} {i n : Nat} (h : ns.length = 2 * n) (hi : i < n) : rdQs (ns.take (2 * (i + 1))) = match rdQs (ns.take (2 * i)), rdQ1 ((ns.drop (2 * i)).take 2) with
    | some x, some y => some (x ++ [y])
    | _, _ => none := by
  have e : ns.take (2 * (i + 1)) = ns.take (2 * i) ++ (ns.drop (2 * i)).take 2 := by
    rw [← List.take_add, Nat.mul_succ]
  rw [e, rq_app i _ _ (by rw [List.length_take]; omega), rq_two (l := (ns.drop (2 * i)).take 2) (by rw [List.length_take, List.length_drop]; omega)]
  cases rdQs (ns.take (2 * i)) <;> cases rdQ1 ((ns.drop (2 * i)).take 2) <;> rfl
theorem rq_bad {ns : List Int} {i n : Nat} (h : ns.length = 2 * n) (hi : i < n) (hr : rdQ1 ((ns.drop (2 * i)).take 2) = none) : rdQs ns = none := by
  have e : ns = ns.take (2 * (i + 1)) ++ ns.drop (2 * (i + 1)) := (List.take_append_drop _ _).symm
  rw [e, rq_app (i + 1) _ _ (by rw [List.length_take]; omega), rq_more h hi, hr]
  cases rdQs (ns.take (2 * i)) <;> rfl
theorem rq_ok : ∀ {l : List Int} {ps : List Q}, rdQs l = some ps → l.length = 2 * ps.length ∧ (∀ p ∈ ps, Ok p) ∧ ∀ k, (∀ x ∈ l, x.natAbs < 2 ^ k) → ∀ p ∈ ps, Sz k p
  | [], ps, h => by
    cases h
    exact ⟨rfl, fun p hp => (by cases hp), fun _ _ p hp => (by cases hp)⟩
  | [_], ps, h => by cases h
  | a :: b :: r, ps, h => by
    rw [rq_cons] at h
    cases h1 : rdQ1 [a, b] with
    | none => rw [h1] at h; cases h
    | some p =>
      cases h2 : rdQs r with
      | none => rw [h1, h2] at h; cases h
      | some qs =>
        rw [h1, h2] at h
        cases h
        obtain ⟨o, e1, e2⟩ := readQ_ok (a := a) (b := b) h1
        obtain ⟨l2, o2, z2⟩ := rq_ok h2
        refine ⟨by simp; omega, fun z hz => ?_, fun k hk z hz => ?_⟩
        · rcases List.mem_cons.mp hz with rfl | hz
          · exact o
          · exact o2 z hz
        · rcases List.mem_cons.mp hz with rfl | hz
          · have k1 := hk a (by simp)
            have k2 := hk b (by simp)
            rw [← e1] at k1
            rw [← e2, Int.natAbs_natCast] at k2
            exact ⟨k1, k2⟩
          · exact z2 k (fun x hx => hk x (by simp [hx])) z hz
theorem stairs_eq (l : List Int) : PyKzq2.stairs l = match rdSt l with
    | none => [-22]
    | some (a, b, c) => 3 :: Kzq2.writtenCut (stParts a b c) := by
  have e0 : PyKzq2.stairs l = (Kzq2.answer (.stairs l)).value :: (Kzq2.answer (.stairs l)).nums := rfl
  rw [e0]
  unfold rdSt
  match l with
  | [] => rfl
  | [_] => rfl
  | [a, b] => 
    have e : rdQs [a, b] = (Kzq1.readQ a b).map fun x => [x] := by
      show (match Kzq1.readQ a b, some ([] : List Q) with
        | some x, some r => some (x :: r)
        | _, _ => none) = _
      cases Kzq1.readQ a b <;> rfl
    rw [e]
    cases Kzq1.readQ a b <;> rfl
  | [a, b, c] => 
    have e : rdQs [a, b, c] = none := by
      show (match Kzq1.readQ a b, (none : Option (List Q)) with
        | some x, some r => some (x :: r)
        | _, _ => none) = _
      cases Kzq1.readQ a b <;> rfl
    rw [e]; rfl
  | [a, b, c, d] => 
    have e : rdQs [a, b, c, d] = (match Kzq1.readQ a b, Kzq1.readQ c d with
      | some x, some y => some [x, y]
      | _, _ => none) := by
      show (match Kzq1.readQ a b, (match Kzq1.readQ c d, some ([] : List Q) with
        | some x, some r => some (x :: r)
        | _, _ => none) with
        | some x, some r => some (x :: r)
        | _, _ => none) = _
      cases Kzq1.readQ a b <;> cases Kzq1.readQ c d <;> rfl
    rw [e]
    cases Kzq1.readQ a b <;> cases Kzq1.readQ c d <;> rfl
  | [a, b, c, d, x] => 
    have e : rdQs [a, b, c, d, x] = none := by
      show (match Kzq1.readQ a b, (match Kzq1.readQ c d, (none : Option (List Q)) with
        | some x, some r => some (x :: r)
        | _, _ => none) with
        | some x, some r => some (x :: r)
        | _, _ => none) = _
      cases Kzq1.readQ a b <;> cases Kzq1.readQ c d <;> rfl
    rw [e]; rfl
  | [a, b, c, d, x, y] => 
    have e : rdQs [a, b, c, d, x, y] = (match Kzq1.readQ a b, Kzq1.readQ c d, Kzq1.readQ x y with
      | some p, some q, some r => some [p, q, r]
      | _, _, _ => none) := by
      show (match Kzq1.readQ a b, (match Kzq1.readQ c d, (match Kzq1.readQ x y, some ([] : List Q) with
        | some x, some r => some (x :: r)
        | _, _ => none) with
        | some x, some r => some (x :: r)
        | _, _ => none) with
        | some x, some r => some (x :: r)
        | _, _ => none) = _
      cases Kzq1.readQ a b <;> cases Kzq1.readQ c d <;> cases Kzq1.readQ x y <;> rfl
    have e2 : Kzq2.answer (.stairs [a, b, c, d, x, y]) = (match Kzq1.readQ a b, Kzq1.readQ c d, Kzq1.readQ x y with
      | some x, some y, some z => if Kzq1.pos x = false ∨ Kzq1.pos y = false ∨ Kzq1.lt z x = false ∨ Kzq1.lt (Kzq1.add z z) x = true then Kzq1.say (-22) else Kzq2.tellCut (Kzq2.stairs x y z)
      | _, _, _ => Kzq1.say (-22)) := rfl
    rw [e, e2]
    cases h1 : Kzq1.readQ a b with
    | none => cases Kzq1.readQ c d <;> cases Kzq1.readQ x y <;> rfl
    | some p =>
      cases h2 : Kzq1.readQ c d with
      | none => cases Kzq1.readQ x y <;> rfl
      | some q =>
        cases h3 : Kzq1.readQ x y with
        | none => rfl
        | some r =>
          have op := (readQ_ok h1).1
          have oq := (readQ_ok h2).1
          have or := (readQ_ok h3).1
          have bad : (Kzq1.pos p = false ∨ Kzq1.pos q = false ∨ Kzq1.lt r p = false ∨ Kzq1.lt (Kzq1.add r r) p = true) ↔ ¬ Stair p q r := by
            rw [pos_eq op, pos_eq oq, lt_eq or op, lt_eq (add_ok or or) op, val_add or or, decide_eq_false_iff_not, decide_eq_false_iff_not, decide_eq_false_iff_not, decide_eq_true_eq]
            constructor
            · rintro h ⟨_, _, _, a1, a2, a3, a4, a5⟩
              grind
            · intro h
              refine Classical.byContradiction fun n => h ⟨op, oq, or, by grind, by grind, by grind, by grind, by grind⟩
          dsimp only
          by_cases g : Stair p q r
          · rw [if_pos ((good_stair op oq or).mpr g), if_neg (fun n => bad.mp n g), stairs_is g]
            rfl
          · rw [if_neg (fun n => g ((good_stair op oq or).mp n)), if_pos (bad.mpr g)]
            rfl
  | a :: b :: c :: d :: x :: y :: z :: t => 
    have e : Kzq2.answer (.stairs (a :: b :: c :: d :: x :: y :: z :: t)) = Kzq1.say (-22) := rfl
    rw [e]
    cases h : rdQs (a :: b :: c :: d :: x :: y :: z :: t) with
    | none => rfl
    | some ps =>
      match ps, h with
      | [], _ => rfl
      | [_], _ => rfl
      | [_, _], _ => rfl
      | _ :: _ :: _ :: _ :: _, _ => rfl
      | [p, q, r], h => 
        exfalso
        have nil : ∀ m : List Int, rdQs m = some [] → m = [] := fun m hm => by
          match m, hm with
          | [], _ => rfl
          | [_], hm => cases hm
          | u :: v :: s, hm =>
            have hm : (match Kzq1.readQ u v, rdQs s with
              | some x, some r => some (x :: r)
              | _, _ => none) = some [] := hm
            cases h1 : Kzq1.readQ u v <;> cases h2 : rdQs s <;> rw [h1, h2] at hm <;> cases hm
        have cons : ∀ (u v : Int) (s : List Int) (p : Q) (ps : List Q), rdQs (u :: v :: s) = some (p :: ps) → rdQs s = some ps := fun u v s p ps hm => by
          have hm : (match Kzq1.readQ u v, rdQs s with
            | some x, some r => some (x :: r)
            | _, _ => none) = some (p :: ps) := hm
          cases h1 : Kzq1.readQ u v <;> cases h2 : rdQs s <;> rw [h1, h2] at hm <;> cases hm
          rfl
        have := nil _ (cons _ _ _ _ _ (cons _ _ _ _ _ (cons _ _ _ _ _ h)))
        cases this
end Sc
namespace ScA
open PySem PySem.Spec PyProof.Rows L2
open Sc
def top (i : Nat) : Stmt := PySem.Challenge.pw_stripcut_s04_stairs.main.body.getD i (.Pass ⟨0, 0, 0, 0⟩)
abbrev s_common_measure : Stmt := top 4
abbrev s_is_ratio : Stmt := top 5
abbrev s_read_ratio : Stmt := top 6
abbrev s_ratio : Stmt := top 7
abbrev s_minus : Stmt := top 8
abbrev s_times : Stmt := top 9
abbrev s_over : Stmt := top 10
abbrev s_half : Stmt := top 11
abbrev s_is_less : Stmt := top 12
abbrev s_point_numbers : Stmt := top 14
abbrev s_origin : Stmt := top 15
abbrev s_is_before : Stmt := top 16
abbrev s_Part : Stmt := inClass (top 18) 0
abbrev s_cutting_numbers : Stmt := top 19
abbrev s_piece_of : Stmt := top 20
abbrev s_read_stairs : Stmt := top 22
abbrev s_stairs_parts : Stmt := top 23
abbrev s_stairs : Stmt := top 25
abbrev s_cutting_answer : Stmt := top 26
end ScA
namespace ScA
open PySem PySem.Spec PyProof.Rows L2
open Sc
abbrev Fr := Kzq1.Q
abbrev Pt := Kzq1.P
theorem ifT {c : Bool} {A B : Prop} (hc : c = true) (h : A) : if c = true then A else B := by rw [if_pos hc]; exact h
theorem ifF {c : Bool} {A B : Prop} (hc : c = false) (h : B) : if c = true then A else B := by rw [hc, if_neg Bool.false_ne_true]; exact h
/-! how fractions and points lie in the heap -/
def FrAt (H : Hp) (a : Addr) (q : Fr) : Prop := H a = some (.tup [.int q.n, .int (q.d : Int)])
def PtAt (H : Hp) (a : Addr) (p : Pt) : Prop := ∃ x y, H a = some (.tup [.ref x, .ref y]) ∧ FrAt H x p.x ∧ FrAt H y p.y
theorem FrAt.mono {H H' : Hp} {a : Addr} {q : Fr} (h : FrAt H a q) (s : Same H H') : FrAt H' a q := s _ _ h
theorem PtAt.mono {H H' : Hp} {a : Addr} {p : Pt} (h : PtAt H a p) (s : Same H H') : PtAt H' a p :=
  let ⟨x, y, h1, h2, h3⟩ := h
  ⟨x, y, s _ _ h1, h2.mono s, h3.mono s⟩
theorem Same.new {H : Hp} {p : Addr} {o : HO} (h : H p = none) : Same H (upd H p o) := fun b o' e => by rw [upd_ne (ne_of_none e h)]; exact e
/-- no division of a number below 2 ^ 13500 goes by _pylong -/
theorem noPy {x y : Int} (h : x.natAbs < 2 ^ 13500) : Builtin.divisionGoesByPylong x y = false := by
  have key : ¬ ((if y == 0 then 0 else y.natAbs.log2 / 30 + 1) > 300 ∧ (if x == 0 then 0 else x.natAbs.log2 / 30 + 1) > (if y == 0 then 0 else y.natAbs.log2 / 30 + 1) + 150) := by
    rintro ⟨h1, h2⟩
    by_cases hx : (x == 0) = true
    · rw [if_pos hx] at h2; omega
    · rw [if_neg hx] at h2
      have n0 : x.natAbs ≠ 0 := by simpa using hx
      have := (Nat.log2_lt n0).mpr h
      omega
  show (decide ((if y == 0 then 0 else y.natAbs.log2 / 30 + 1) > 300) && decide ((if x == 0 then 0 else x.natAbs.log2 / 30 + 1) > (if y == 0 then 0 else y.natAbs.log2 / 30 + 1) + 150)) = false
  rw [← Bool.decide_and]
  exact decide_eq_false key
section
variable {X : Cx}
theorem op_fdivZ : OpR X (binaryOp .FloorDiv) (rI (fun i j => j ≠ 0 ∧ i.natAbs < 2 ^ 13500) fun i j => .int (i.fdiv j)) :=
  opI fun _ j _ _ _ _ _ hc q => floordiv_int hc.1 q (.inl (noPy hc.2))
theorem op_fdivY : OpR X (binaryOp .FloorDiv) (rI (fun _ j => j ≠ 0 ∧ j.natAbs < 2 ^ 9000) fun i j => .int (i.fdiv j)) :=
  opI fun _ j _ _ _ _ _ hc q => floordiv_int hc.1 q (.inl (PyProof.noPylong_of_log2 (PySem.Flt.log2_lt_of (by decide) hc.2)))
end
theorem wmul {i j : Int} {a b : Nat} (ha : i.natAbs < 2 ^ a) (hb : j.natAbs < 2 ^ b) (hk : a + b ≤ 100000) : CMulW i j := by
  have p : 2 ^ a ≤ 2 ^ (a + 1) := Nat.pow_le_pow_right (by omega) (by omega)
  have q : 2 ^ b ≤ 2 ^ (b + 1) := Nat.pow_le_pow_right (by omega) (by omega)
  exact wide_mul (a := a + 1) (b := b + 1) (Nat.lt_of_lt_of_le ha p) (Nat.lt_of_lt_of_le hb q) (by omega) (by omega) (by omega)
theorem szl : sizeLine = 16777216 := by decide
theorem take_more {α : Type} {l : List α} {i : Nat} {x : α} (h : l[i]? = some x) : l.take (i + 1) = l.take i ++ [x] := by
  rw [List.take_succ, h]; rfl
end ScA
namespace ScA
open PySem PySem.Spec PyProof.Rows L2
open Sc
section
variable {Pg : Program} {w : World} {K : PySem.W.Frag} {mg : Str → Option Value} {base : Heap} {CF CP CS fP fS : Addr}
/-! common_measure -/
def spCm : Sp := fun vs H Q _ => ∃ a b : Int, vs = [.int a, .int b] ∧ Q (.int (gcdI a b)) H
theorem scCm : FnScope ["a", "b", "larger", "smaller", "rest"] ["a", "b"] (defScope s_common_measure) := ⟨rfl, rfl, rfl, by decide +kernel, rfl, by decide +kernel, by decide +kernel⟩
theorem ok_cm {f : Addr} {fd : FuncData} (F : Fun K "common_measure" "common_measure" s_common_measure f fd) (mAbs : mg "abs" = none) : FnOk Pg w K mg base CX0 1 f fd ["a", "b"] spCm := by
  refine F.ok scCm (fun vs H Q E h => ?_) (fun cdv A outer s H vs Q E hr h => ⟨_, pss_cons (ps_set (i := 2) scCm.nd rfl (Or.inl rfl) (pe_callB call_abs (by rfl) mAbs (by decide +kernel) (pa_cons (pv 0) pa_nil)))
    (pss_cons (ps_set (i := 3) scCm.nd rfl (Or.inl rfl) (pe_callB call_abs (by rfl) mAbs (by decide +kernel) (pa_cons (pv 1) pa_nil)))
    (pss_cons (ps_while PassesOwn.never (pt_cmpR op_ne (pv 3) pe_int (nomark _)) (pss_cons (ps_set (i := 4) scCm.nd rfl (Or.inl rfl) (pe_op op_mod (pv 2) (pv 3))) (pss_cons (ps_set (i := 2) scCm.nd rfl (Or.inl rfl) (pv 3)) (pss_one (ps_set (i := 3) scCm.nd rfl (Or.inl rfl) (pv 4))))))
    (pss_one (ps_ret (pv 2))))), ?_⟩)
  · obtain ⟨a, b, rfl, _⟩ := h
    rfl
  · obtain ⟨a, b, rfl, k⟩ := h
    refine ⟨_, rfl, _, rfl, ?_⟩
    refine ⟨_, rfl, _, rfl, ?_⟩
    refine while_by (fun σ H' => H' = H ∧ ∃ (x y : Int) (r : Option V), σ = [some (.int a), some (.int b), some (.int x), some (.int y), r] ∧ 0 ≤ x ∧ 0 ≤ y ∧ gcdI x y = gcdI a b)
      (fun σ _ => match σ with
        | [_, _, _, some (.int y), _] => y.natAbs
        | _ => 0) ⟨rfl, _, _, none, rfl, by split <;> omega, by split <;> omega, ?_⟩ ?_ ?_
    · unfold gcdI
      congr 2 <;> (split <;> omega)
    · rintro σ H' ⟨rfl, x, y, r, rfl, hx, hy, hg⟩
      refine ⟨_, rfl, rfl, _, rfl, ?_⟩
      by_cases c : y = 0
      · subst c
        refine ifF rfl ?_
        refine ⟨_, rfl, ?_⟩
        have e : gcdI x 0 = x := by unfold gcdI; rw [Int.natAbs_zero, Nat.gcd_zero_right]; omega
        rw [e] at hg
        rw [hg]; exact k
      · have cy : 0 < y := by omega
        refine ifT (by simp [c]) ?_
        refine ⟨_, rfl, _, rfl, _, _, rfl, rfl, cy, _, rfl, _, rfl, ⟨rfl, y, x % y, _, rfl, hy, Int.emod_nonneg _ c, ?_⟩, ?_⟩
        · rw [← hg]
          unfold gcdI
          have e : (x % y).natAbs = x.natAbs % y.natAbs := by
            rw [Int.natAbs_emod_of_nonneg hx]
          rw [e, Nat.gcd_comm x.natAbs, Nat.gcd_rec y.natAbs x.natAbs, Nat.gcd_comm]
        · show (x % y).natAbs < y.natAbs
          have h1 := Int.emod_nonneg x c
          have h2 := Int.emod_lt_of_pos x cy
          omega
    · rintro σ H' Q1 Q2 hQ ⟨v, hv, hs, b, e, q⟩
      exact ⟨v, hv, hs, b, e, hQ _ _ q⟩
end
end ScA
namespace ScA
open PySem PySem.Spec PyProof.Rows L2
open Sc
section
variable {Pg : Program} {w : World} {K : PySem.W.Frag} {mg : Str → Option Value} {base : Heap} {CF CP CS fP fS : Addr}
/-! is_ratio -/
def isR (t b : Int) : Bool := decide (1 ≤ b) && decide (gcdI t b = 1)
def spIsr : Sp := fun vs H Q _ => ∃ t b : Int, vs = [.int t, .int b] ∧ Q (.bl (isR t b)) H
theorem scIsr : FnScope ["top", "bottom"] ["top", "bottom"] (defScope s_is_ratio) := ⟨rfl, rfl, rfl, by decide +kernel, rfl, by decide +kernel, by decide +kernel⟩
theorem ok_isr {f fC : Addr} {fd fdC : FuncData} (F : Fun K "is_ratio" "is_ratio" s_is_ratio f fd) (GC : FnOk Pg w K mg base CX0 1 fC fdC ["a", "b"] spCm) (mC : mg "common_measure" = some (.ref fC)) (kC : PySem.W.keepIn K (.ref fC) = true) (bC : Binds K fdC ["a", "b"] []) :
    FnOk Pg w K mg base CX0 2 f fd ["top", "bottom"] spIsr := by
  refine F.ok scIsr (fun vs H Q E h => ?_) (fun cdv A outer s H vs Q E hr h => ⟨_, pss_one (ps_ret (pe_and (pe_cmpR op_ge (pv 1) pe_int (nomark _)) (pe_one (pe_cmpR op_eq (pe_call GC hr rfl mC kC bC .nil pass0 (pa_cons (pv 0) (pa_cons (pv 1) pa_nil))) pe_int (nomark _))))), ?_⟩)
  · obtain ⟨a, b, rfl, _⟩ := h
    rfl
  · obtain ⟨t, b, rfl, k⟩ := h
    refine ⟨_, rfl, _, _, rfl, rfl, _, rfl, ?_⟩
    unfold isR at k
    by_cases c : 1 ≤ b
    · rw [decide_eq_true c] at k ⊢
      refine ifT rfl ?_
      refine ⟨_, rfl, _, rfl, _, _, rfl, rfl, ?_⟩
      rw [Bool.true_and] at k
      have e : decide (V.int (gcdI t b) = V.int 1) = decide (gcdI t b = 1) := by
        rw [decide_eq_decide]; exact ⟨fun e => by injection e, fun e => by rw [e]⟩
      show Q (V.bl (decide (V.int (gcdI t b) = V.int 1))) H
      rw [e]; exact k
    · rw [decide_eq_false c] at k ⊢
      exact ifF rfl k
end
end ScA
namespace ScA
open PySem PySem.Spec PyProof.Rows L2
open Sc
section
variable {Pg : Program} {w : World} {K : PySem.W.Frag} {mg : Str → Option Value} {base : Heap} {CF CP CS fP fS : Addr}
/-! ratio -/
def spRat : Sp := fun vs H Q _ => ∃ t b : Int, vs = [.int t, .int b] ∧ b ≠ 0 ∧ t.natAbs < 2 ^ 13500 ∧ b.natAbs < 2 ^ 13500 ∧ ∀ H' p, Same H H' → H p = none → FrAt H' p (mkI t b) → Q (.ref p) H'
theorem scRat : FnScope ["top", "bottom", "measure"] ["top", "bottom"] (defScope s_ratio) := ⟨rfl, rfl, rfl, by decide +kernel, rfl, by decide +kernel, by decide +kernel⟩
theorem ok_rat {f fC : Addr} {fd fdC : FuncData} (F : Fun K "ratio" "ratio" s_ratio f fd) (GC : FnOk Pg w K mg base CX0 1 fC fdC ["a", "b"] spCm) (mC : mg "common_measure" = some (.ref fC)) (kC : PySem.W.keepIn K (.ref fC) = true) (bC : Binds K fdC ["a", "b"] []) :
    FnOk Pg w K mg base CX0 2 f fd ["top", "bottom"] spRat := by
  refine F.ok scRat (fun vs H Q E h => ?_) (fun cdv A outer s H vs Q E hr h => ⟨_, pss_cons (ps_set (i := 2) scRat.nd rfl (Or.inl rfl) (pe_call GC hr rfl mC kC bC .nil pass0 (pa_cons (pv 0) (pa_cons (pv 1) pa_nil))))
    (pss_cons (ps_if (pt_cmpR op_lt (pv 1) pe_int (nomark _)) (pss_one (ps_set (i := 2) scRat.nd rfl (Or.inl rfl) (pe_un un_neg (pv 2)))) pss_nil)
    (pss_one (ps_ret (pe_tup (pa_cons (pe_op op_fdivZ (pv 0) (pv 2)) (pa_cons (pe_op op_fdivZ (pv 1) (pv 2)) pa_nil)))))), ?_⟩)
  · obtain ⟨a, b, rfl, _⟩ := h
    rfl
  · obtain ⟨t, b, rfl, h0, ht, hb, k⟩ := h
    have hg := gcdI_pos (t := t) h0
    have hl := gcdI_le (t := t) h0
    have fin : ∀ m : Int, m = (if b < 0 then -gcdI t b else gcdI t b) → ∀ p, H p = none → Q (.ref p) (upd H p (.tup [.int (t.fdiv m), .int (b.fdiv m)])) := fun m e p np => by
      subst e
      refine k _ p (Same.new np) np ?_
      unfold FrAt
      rw [upd_same, mkI_up h0, mkI_low h0]
    refine ⟨_, rfl, _, rfl, _, _, rfl, ?_⟩
    refine ⟨_, rfl, _, _, rfl, rfl, _, rfl, ?_⟩
    by_cases c : b < 0
    · refine ifT (decide_eq_true c) ?_
      refine ⟨_, rfl, _, rfl, ?_⟩
      refine ⟨_, rfl, _, rfl, _, _, rfl, rfl, ⟨by omega, ht⟩, _, rfl, _, rfl, _, _, rfl, rfl, ⟨by omega, hb⟩, (by show 2 ≤ sizeLine; decide), fin _ (by rw [if_pos c])⟩
    · refine ifF (decide_eq_false c) ?_
      refine ⟨_, rfl, _, rfl, _, _, rfl, rfl, ⟨by omega, ht⟩, _, rfl, _, rfl, _, _, rfl, rfl, ⟨by omega, hb⟩, (by show 2 ≤ sizeLine; decide), fin _ (by rw [if_neg c])⟩
end
end ScA
namespace ScA
open PySem PySem.Spec PyProof.Rows L2
open Sc
section
variable {Pg : Program} {w : World} {K : PySem.W.Frag} {mg : Str → Option Value} {base : Heap} {CF CP CS fP fS : Addr}
def spMinus : Sp := fun vs H Q _ => ∃ (x y : Addr) (a b : Fr) (j k : Nat), vs = [.ref x, .ref y] ∧ FrAt H x a ∧ FrAt H y b ∧ Ok a ∧ Ok b ∧ Sz j a ∧ Sz k b ∧ j + k + 1 ≤ 13500 ∧ ∀ H' p, Same H H' → H p = none → FrAt H' p (Kzq1.sub a b) → Q (.ref p) H'
theorem scMinus : FnScope ["a", "b"] ["a", "b"] (defScope s_minus) := ⟨rfl, rfl, rfl, by decide +kernel, rfl, by decide +kernel, by decide +kernel⟩
theorem ok_minus {f fR : Addr} {fd fdR : FuncData} (F : Fun K "minus" "minus" s_minus f fd) (GR : FnOk Pg w K mg base CX0 2 fR fdR ["top", "bottom"] spRat) (mR : mg "ratio" = some (.ref fR)) (kR : PySem.W.keepIn K (.ref fR) = true) (bR : Binds K fdR ["top", "bottom"] []) :
    FnOk Pg w K mg base CX0 3 f fd ["a", "b"] spMinus := by
  refine F.ok scMinus (fun vs H Q E h => ?_) (fun cdv A outer s H vs Q E hr h => ⟨_, pss_one (ps_ret (pe_call GR hr rfl mR kR bR .nil pass0
    (pa_cons (pe_op op_sub (pe_op op_mulW (pe_ix ix_tup (pv 0) pe_int (fun _ _ => rfl)) (pe_ix ix_tup (pv 1) pe_int (fun _ _ => rfl))) (pe_op op_mulW (pe_ix ix_tup (pv 1) pe_int (fun _ _ => rfl)) (pe_ix ix_tup (pv 0) pe_int (fun _ _ => rfl)))) (pa_cons (pe_op op_mulW (pe_ix ix_tup (pv 0) pe_int (fun _ _ => rfl)) (pe_ix ix_tup (pv 1) pe_int (fun _ _ => rfl))) pa_nil)))), ?_⟩)
  · obtain ⟨x, y, a, b, j, k, rfl, _⟩ := h
    rfl
  · obtain ⟨x, y, a, b, j, k, rfl, hx, hy, oa, ob, sa, sb, hk, q⟩ := h
    have da : ((a.d : Int)).natAbs < 2 ^ j := by simpa using sa.2
    have db : ((b.d : Int)).natAbs < 2 ^ k := by simpa using sb.2
    have hp : 0 < a.d * b.d := Nat.mul_pos oa.1 ob.1
    have hp2 : ((a.d : Int) * (b.d : Int)) = ((a.d * b.d : Nat) : Int) := by simp
    have up : ∀ {z : Int} {m : Nat}, z.natAbs < 2 ^ m → m ≤ 13500 → z.natAbs < 2 ^ 13500 := fun h1 h2 => Nat.lt_of_lt_of_le h1 (Nat.pow_le_pow_right (by omega) h2)
    have em : a.n * (b.d : Int) - b.n * (a.d : Int) = a.n * (b.d : Int) + (-b.n) * (a.d : Int) := by rw [Int.neg_mul]; omega
    refine ⟨_, rfl, x, _, 0, _, rfl, rfl, SqT.of hx, rfl, _, rfl, y, _, 1, _, rfl, rfl, SqT.of hy, rfl, _, _, rfl, rfl, wmul sa.1 db (by omega), ?_⟩
    refine ⟨_, rfl, y, _, 0, _, rfl, rfl, SqT.of hy, rfl, _, rfl, x, _, 1, _, rfl, rfl, SqT.of hx, rfl, _, _, rfl, rfl, wmul sb.1 da (by omega), ?_⟩
    refine ⟨_, _, rfl, rfl, ?_⟩
    refine ⟨_, rfl, x, _, 1, _, rfl, rfl, SqT.of hx, rfl, _, rfl, y, _, 1, _, rfl, rfl, SqT.of hy, rfl, _, _, rfl, rfl, wmul da db (by omega), ?_⟩
    refine ⟨_, _, rfl, by rw [hp2]; omega, (by rw [em]; exact up (cross_lt sa.1 db (by rw [Int.natAbs_neg]; exact sb.1) da) (by omega)), up (mul_lt da db) (by omega), fun H' p s' np fr => q H' p s' np ?_⟩
    rw [hp2, mkI_nat hp, em] at fr
    exact fr
end
end ScA
namespace ScA
open PySem PySem.Spec PyProof.Rows L2
open Sc
section
variable {Pg : Program} {w : World} {K : PySem.W.Frag} {mg : Str → Option Value} {base : Heap} {CF CP CS fP fS : Addr}
def spTimes : Sp := fun vs H Q _ => ∃ (x y : Addr) (a b : Fr) (j k : Nat), vs = [.ref x, .ref y] ∧ FrAt H x a ∧ FrAt H y b ∧ Ok a ∧ Ok b ∧ Sz j a ∧ Sz k b ∧ j + k + 1 ≤ 13500 ∧ ∀ H' p, Same H H' → H p = none → FrAt H' p (Kzq1.mul a b) → Q (.ref p) H'
theorem scTimes : FnScope ["a", "b"] ["a", "b"] (defScope s_times) := ⟨rfl, rfl, rfl, by decide +kernel, rfl, by decide +kernel, by decide +kernel⟩
theorem ok_times {f fR : Addr} {fd fdR : FuncData} (F : Fun K "times" "times" s_times f fd) (GR : FnOk Pg w K mg base CX0 2 fR fdR ["top", "bottom"] spRat) (mR : mg "ratio" = some (.ref fR)) (kR : PySem.W.keepIn K (.ref fR) = true) (bR : Binds K fdR ["top", "bottom"] []) :
    FnOk Pg w K mg base CX0 3 f fd ["a", "b"] spTimes := by
  refine F.ok scTimes (fun vs H Q E h => ?_) (fun cdv A outer s H vs Q E hr h => ⟨_, pss_one (ps_ret (pe_call GR hr rfl mR kR bR .nil pass0
    (pa_cons (pe_op op_mulW (pe_ix ix_tup (pv 0) pe_int (fun _ _ => rfl)) (pe_ix ix_tup (pv 1) pe_int (fun _ _ => rfl))) (pa_cons (pe_op op_mulW (pe_ix ix_tup (pv 0) pe_int (fun _ _ => rfl)) (pe_ix ix_tup (pv 1) pe_int (fun _ _ => rfl))) pa_nil)))), ?_⟩)
  · obtain ⟨x, y, a, b, j, k, rfl, _⟩ := h
    rfl
  · obtain ⟨x, y, a, b, j, k, rfl, hx, hy, oa, ob, sa, sb, hk, q⟩ := h
    have da : ((a.d : Int)).natAbs < 2 ^ j := by simpa using sa.2
    have db : ((b.d : Int)).natAbs < 2 ^ k := by simpa using sb.2
    have hp : 0 < a.d * b.d := Nat.mul_pos oa.1 ob.1
    have hp2 : ((a.d : Int) * (b.d : Int)) = ((a.d * b.d : Nat) : Int) := by simp
    have up : ∀ {z : Int} {m : Nat}, z.natAbs < 2 ^ m → m ≤ 13500 → z.natAbs < 2 ^ 13500 := fun h1 h2 => Nat.lt_of_lt_of_le h1 (Nat.pow_le_pow_right (by omega) h2)
    refine ⟨_, rfl, x, _, 0, _, rfl, rfl, SqT.of hx, rfl, _, rfl, y, _, 0, _, rfl, rfl, SqT.of hy, rfl, _, _, rfl, rfl, wmul sa.1 sb.1 (by omega), ?_⟩
    refine ⟨_, rfl, x, _, 1, _, rfl, rfl, SqT.of hx, rfl, _, rfl, y, _, 1, _, rfl, rfl, SqT.of hy, rfl, _, _, rfl, rfl, wmul da db (by omega), ?_⟩
    refine ⟨_, _, rfl, by rw [hp2]; omega, up (mul_lt sa.1 sb.1) (by omega), up (mul_lt da db) (by omega), fun H' p s' np fr => q H' p s' np ?_⟩
    rw [hp2, mkI_nat hp] at fr
    exact fr
end
end ScA
namespace ScA
open PySem PySem.Spec PyProof.Rows L2
open Sc
section
variable {Pg : Program} {w : World} {K : PySem.W.Frag} {mg : Str → Option Value} {base : Heap} {CF CP CS fP fS : Addr}
def spOver : Sp := fun vs H Q _ => ∃ (x y : Addr) (a b : Fr) (j k : Nat), vs = [.ref x, .ref y] ∧ FrAt H x a ∧ FrAt H y b ∧ Ok a ∧ Ok b ∧ Sz j a ∧ Sz k b ∧ j + k + 1 ≤ 13500 ∧ b.n ≠ 0 ∧ ∀ H' p, Same H H' → H p = none → FrAt H' p (Kzq1.div a b) → Q (.ref p) H'
theorem scOver : FnScope ["a", "b"] ["a", "b"] (defScope s_over) := ⟨rfl, rfl, rfl, by decide +kernel, rfl, by decide +kernel, by decide +kernel⟩
theorem ok_over {f fR : Addr} {fd fdR : FuncData} (F : Fun K "over" "over" s_over f fd) (GR : FnOk Pg w K mg base CX0 2 fR fdR ["top", "bottom"] spRat) (mR : mg "ratio" = some (.ref fR)) (kR : PySem.W.keepIn K (.ref fR) = true) (bR : Binds K fdR ["top", "bottom"] []) :
    FnOk Pg w K mg base CX0 3 f fd ["a", "b"] spOver := by
  refine F.ok scOver (fun vs H Q E h => ?_) (fun cdv A outer s H vs Q E hr h => ⟨_, pss_one (ps_ret (pe_call GR hr rfl mR kR bR .nil pass0
    (pa_cons (pe_op op_mulW (pe_ix ix_tup (pv 0) pe_int (fun _ _ => rfl)) (pe_ix ix_tup (pv 1) pe_int (fun _ _ => rfl))) (pa_cons (pe_op op_mulW (pe_ix ix_tup (pv 0) pe_int (fun _ _ => rfl)) (pe_ix ix_tup (pv 1) pe_int (fun _ _ => rfl))) pa_nil)))), ?_⟩)
  · obtain ⟨x, y, a, b, j, k, rfl, _⟩ := h
    rfl
  · obtain ⟨x, y, a, b, j, k, rfl, hx, hy, oa, ob, sa, sb, hk, h0, q⟩ := h
    have da : ((a.d : Int)).natAbs < 2 ^ j := by simpa using sa.2
    have db : ((b.d : Int)).natAbs < 2 ^ k := by simpa using sb.2
    have hp : 0 < a.d * b.d := Nat.mul_pos oa.1 ob.1
    have hp2 : ((a.d : Int) * (b.d : Int)) = ((a.d * b.d : Nat) : Int) := by simp
    have up : ∀ {z : Int} {m : Nat}, z.natAbs < 2 ^ m → m ≤ 13500 → z.natAbs < 2 ^ 13500 := fun h1 h2 => Nat.lt_of_lt_of_le h1 (Nat.pow_le_pow_right (by omega) h2)
    have hd : (a.d : Int) ≠ 0 := by have := oa.1; omega
    refine ⟨_, rfl, x, _, 0, _, rfl, rfl, SqT.of hx, rfl, _, rfl, y, _, 1, _, rfl, rfl, SqT.of hy, rfl, _, _, rfl, rfl, wmul sa.1 db (by omega), ?_⟩
    refine ⟨_, rfl, x, _, 1, _, rfl, rfl, SqT.of hx, rfl, _, rfl, y, _, 0, _, rfl, rfl, SqT.of hy, rfl, _, _, rfl, rfl, wmul da sb.1 (by omega), ?_⟩
    refine ⟨_, _, rfl, Int.mul_ne_zero hd h0, up (mul_lt sa.1 db) (by omega), up (mul_lt da sb.1) (by omega), fun H' p s' np fr => q H' p s' np ?_⟩
    rw [mkI_div oa ob h0] at fr
    exact fr
end
end ScA
namespace ScA
open PySem PySem.Spec PyProof.Rows L2
open Sc
section
variable {Pg : Program} {w : World} {K : PySem.W.Frag} {mg : Str → Option Value} {base : Heap} {CF CP CS fP fS : Addr}
def spHalf : Sp := fun vs H Q _ => ∃ (x : Addr) (a : Fr) (k : Nat), vs = [.ref x] ∧ FrAt H x a ∧ Ok a ∧ Sz k a ∧ k ≤ 13000 ∧ ∀ H' p, Same H H' → H p = none → FrAt H' p (Kzq1.mul Kzq1.half a) → Q (.ref p) H'
theorem scHalf : FnScope ["a"] ["a"] (defScope s_half) := ⟨rfl, rfl, rfl, by decide +kernel, rfl, by decide +kernel, by decide +kernel⟩
theorem ok_half {f fR : Addr} {fd fdR : FuncData} (F : Fun K "half" "half" s_half f fd) (GR : FnOk Pg w K mg base CX0 2 fR fdR ["top", "bottom"] spRat) (mR : mg "ratio" = some (.ref fR)) (kR : PySem.W.keepIn K (.ref fR) = true) (bR : Binds K fdR ["top", "bottom"] []) :
    FnOk Pg w K mg base CX0 3 f fd ["a"] spHalf := by
  refine F.ok scHalf (fun vs H Q E h => ?_) (fun cdv A outer s H vs Q E hr h => ⟨_, pss_one (ps_ret (pe_call GR hr rfl mR kR bR .nil pass0
    (pa_cons (pe_ix ix_tup (pv 0) pe_int (fun _ _ => rfl)) (pa_cons (pe_op op_mulW pe_int (pe_ix ix_tup (pv 0) pe_int (fun _ _ => rfl))) pa_nil)))), ?_⟩)
  · obtain ⟨x, a, k, rfl, _⟩ := h
    rfl
  · obtain ⟨x, a, k, rfl, hx, oa, sa, hk, q⟩ := h
    have da : ((a.d : Int)).natAbs < 2 ^ k := by simpa using sa.2
    have h2 : (2 : Int) * (a.d : Int) = ((2 * a.d : Nat) : Int) := by simp
    have hp : 0 < 2 * a.d := by have := oa.1; omega
    have up : ∀ {z : Int} {m : Nat}, z.natAbs < 2 ^ m → m ≤ 13500 → z.natAbs < 2 ^ 13500 := fun h1 h2 => Nat.lt_of_lt_of_le h1 (Nat.pow_le_pow_right (by omega) h2)
    have t2 : (2 : Int).natAbs < 2 ^ 2 := by decide
    refine ⟨_, rfl, x, _, 0, _, rfl, rfl, SqT.of hx, rfl, _, rfl, x, _, 1, _, rfl, rfl, SqT.of hx, rfl, _, _, rfl, rfl, wmul t2 da (by omega), ?_⟩
    refine ⟨_, _, rfl, by rw [h2]; omega, up sa.1 (by omega), up (mul_lt t2 da) (by omega), fun H' p s' np fr => q H' p s' np ?_⟩
    rw [h2, mkI_nat hp] at fr
    show FrAt H' p (Kzq1.mk (1 * a.n) (2 * a.d))
    rw [Int.one_mul]
    exact fr
end
end ScA
namespace ScA
open PySem PySem.Spec PyProof.Rows L2
open Sc
section
variable {Pg : Program} {w : World} {K : PySem.W.Frag} {mg : Str → Option Value} {base : Heap} {CF CP CS fP fS : Addr}
def spLess : Sp := fun vs H Q _ => ∃ (x y : Addr) (a b : Fr) (j k : Nat), vs = [.ref x, .ref y] ∧ FrAt H x a ∧ FrAt H y b ∧ Sz j a ∧ Sz k b ∧ j + k ≤ 50000 ∧ Q (.bl (Kzq1.lt a b)) H
theorem scLess : FnScope ["a", "b"] ["a", "b"] (defScope s_is_less) := ⟨rfl, rfl, rfl, by decide +kernel, rfl, by decide +kernel, by decide +kernel⟩
theorem ok_less {f : Addr} {fd : FuncData} (F : Fun K "is_less" "is_less" s_is_less f fd) : FnOk Pg w K mg base CX0 1 f fd ["a", "b"] spLess := by
  refine F.ok scLess (fun vs H Q E h => ?_) (fun cdv A outer s H vs Q E hr h => ⟨_, pss_one (ps_ret (pe_cmpR op_lt
    (pe_op op_mulW (pe_ix ix_tup (pv 0) pe_int (fun _ _ => rfl)) (pe_ix ix_tup (pv 1) pe_int (fun _ _ => rfl))) (pe_op op_mulW (pe_ix ix_tup (pv 1) pe_int (fun _ _ => rfl)) (pe_ix ix_tup (pv 0) pe_int (fun _ _ => rfl))) (nomark _))), ?_⟩)
  · obtain ⟨x, y, a, b, j, k, rfl, _⟩ := h
    rfl
  · obtain ⟨x, y, a, b, j, k, rfl, hx, hy, sa, sb, hk, q⟩ := h
    have da : ((a.d : Int)).natAbs < 2 ^ j := by simpa using sa.2
    have db : ((b.d : Int)).natAbs < 2 ^ k := by simpa using sb.2
    refine ⟨_, rfl, x, _, 0, _, rfl, rfl, SqT.of hx, rfl, _, rfl, y, _, 1, _, rfl, rfl, SqT.of hy, rfl, _, _, rfl, rfl, wmul sa.1 db (by omega), ?_⟩
    refine ⟨_, rfl, y, _, 0, _, rfl, rfl, SqT.of hy, rfl, _, rfl, x, _, 1, _, rfl, rfl, SqT.of hx, rfl, _, _, rfl, rfl, wmul sb.1 da (by omega), ?_⟩
    exact ⟨_, _, rfl, rfl, q⟩
end

end ScA
namespace ScA
open PySem PySem.Spec PyProof.Rows L2
open Sc
/-- what the top has written of NotAsTold -/
structure ErrTx (nm : Str) (K : PySem.W.Frag) (mg : Str → Option Value) (C : Addr) : Prop where
  g : mg nm = some (.ref C)
  x : PySem.W.excIn K C [.type "ValueError", .type "Exception", .type "BaseException", .type "object"] "ValueError.__new__" = true
  k : PySem.W.keepIn K (.ref C) = true
  b : PySem.W.subIn K (.ref C) (.type "BaseException") = some true
  t : PySem.W.typeIn K (.ref C) = some (.type "type")
  e : PySem.W.exmOne K (.ref C) (.ref C) = some true
abbrev ErrTxt (K : PySem.W.Frag) (mg : Str → Option Value) (C : Addr) : Prop := ErrTx "NotAsTold" K mg C
end ScA
namespace ScA
open PySem PySem.Spec PyProof.Rows L2
open Sc
section
variable {Pg : Program} {w : World} {K : PySem.W.Frag} {mg : Str → Option Value} {base : Heap} {CF CP CS fP fS : Addr}
theorem readQ_isR (a b : Int) : Kzq1.readQ a b = if isR a b = true then some ⟨a, b.toNat⟩ else none := by
  unfold Kzq1.readQ isR
  by_cases c : b < 1
  · rw [if_pos c, decide_eq_false (by omega)]; rfl
  · rw [if_neg c, decide_eq_true (show 1 ≤ b by omega), Bool.true_and]
    have e : Kzq1.okQ ⟨a, b.toNat⟩ = decide (gcdI a b = 1) := by
      rw [Bool.eq_iff_iff, okQ_iff, decide_eq_true_eq]
      unfold Ok gcdI
      have e2 : b.toNat = b.natAbs := by omega
      dsimp only
      rw [e2]
      constructor
      · rintro ⟨_, h⟩; rw [h]; rfl
      · intro h; exact ⟨by omega, by omega⟩
    rw [e]
theorem rdPt_eq (x0 x1 x2 x3 : Int) : rdPt [x0, x1, x2, x3] = if isR x0 x1 = true then (if isR x2 x3 = true then some ⟨⟨x0, x1.toNat⟩, ⟨x2, x3.toNat⟩⟩ else none) else none := by
  show (match Kzq1.readQ x0 x1, Kzq1.readQ x2 x3 with
    | some x, some y => some (⟨x, y⟩ : Pt)
    | _, _ => none) = _
  rw [readQ_isR, readQ_isR]
  by_cases c1 : isR x0 x1 = true <;> by_cases c2 : isR x2 x3 = true
  · rw [if_pos c1, if_pos c2, if_pos c1, if_pos c2]
  · rw [if_pos c1, if_neg c2, if_pos c1, if_neg c2]
  · rw [if_neg c1, if_pos c2, if_neg c1]
  · rw [if_neg c1, if_neg c2, if_neg c1]
theorem isR_ok {t b : Int} (h : isR t b = true) : Ok ⟨t, b.toNat⟩ ∧ ((b.toNat : Nat) : Int) = b := by
  unfold isR at h
  rw [Bool.and_eq_true, decide_eq_true_eq, decide_eq_true_eq] at h
  obtain ⟨h1, h2⟩ := h
  unfold gcdI at h2
  have e2 : b.toNat = b.natAbs := by omega
  refine ⟨⟨by show 0 < b.toNat; omega, ?_⟩, by omega⟩
  show Nat.gcd t.natAbs b.toNat = 1
  rw [e2]; omega
end
end ScA
namespace ScA
open PySem PySem.Spec PyProof.Rows L2
open Sc
/-- tuples stay -/
def Tu (H H' : Hp) : Prop := ∀ b xs, H b = some (.tup xs) → H' b = some (.tup xs)
theorem Tu.of {H H' : Hp} (s : Same H H') : Tu H H' := fun b xs e => s b _ e
theorem Tu.trans {H H1 H2 : Hp} (a : Tu H H1) (b : Tu H1 H2) : Tu H H2 := fun c xs e => b c xs (a c xs e)
theorem Tu.lst {H : Hp} {D : Addr} {l : List V} {o : HO} (h : H D = some (.lst l)) : Tu H (upd H D o) := fun b xs e => by
  rw [upd_ne (ne_of e h (by intro z; cases z))]; exact e
theorem PtAt.tu {H H' : Hp} {a : Addr} {p : Pt} (h : PtAt H a p) (s : Tu H H') : PtAt H' a p :=
  let ⟨x, y, h1, h2, h3⟩ := h
  ⟨x, y, s _ _ h1, s _ _ h2, s _ _ h3⟩
def PtsAt (H : Hp) : List Addr → List Pt → Prop
  | [], [] => True
  | a :: as, p :: ps => PtAt H a p ∧ PtsAt H as ps
  | _, _ => False
theorem PtsAt.tu {H H' : Hp} (s : Tu H H') : ∀ {as : List Addr} {ps : List Pt}, PtsAt H as ps → PtsAt H' as ps
  | [], [], h => h
  | _ :: _, _ :: _, h => ⟨h.1.tu s, PtsAt.tu s h.2⟩
  | [], _ :: _, h => h.elim
  | _ :: _, [], h => h.elim
theorem PtsAt.len {H : Hp} : ∀ {as : List Addr} {ps : List Pt}, PtsAt H as ps → as.length = ps.length
  | [], [], _ => rfl
  | _ :: _, _ :: _, h => congrArg (· + 1) (PtsAt.len h.2)
  | [], _ :: _, h => h.elim
  | _ :: _, [], h => h.elim
theorem PtsAt.snoc {H : Hp} {a : Addr} {p : Pt} (hp : PtAt H a p) : ∀ {as : List Addr} {ps : List Pt}, PtsAt H as ps → PtsAt H (as ++ [a]) (ps ++ [p])
  | [], [], _ => ⟨hp, trivial⟩
  | _ :: _, _ :: _, h => ⟨h.1, PtsAt.snoc hp h.2⟩
  | [], _ :: _, h => h.elim
  | _ :: _, [], h => h.elim
theorem PtsAt.get {H : Hp} : ∀ {as : List Addr} {ps : List Pt} {i : Nat} {p : Pt}, PtsAt H as ps → ps[i]? = some p → ∃ a, as[i]? = some a ∧ PtAt H a p
  | a :: _, p :: _, 0, q, h, e => by
    have e : p = q := Option.some.inj e
    subst e
    exact ⟨a, rfl, h.1⟩
  | _ :: _, _ :: _, i + 1, q, h, e => PtsAt.get (i := i) (p := q) h.2 e
  | [], [], _, _, _, e => by simp at e
  | [], _ :: _, _, _, h, _ => h.elim
  | _ :: _, [], _, _, h, _ => h.elim
theorem cut4 (ns : List Int) (i : Nat) (z z' : Int) (hz : z = ((4 * i : Nat) : Int)) (hz' : z' = ((4 * i + 4 : Nat) : Int)) (h : 4 * i + 4 ≤ ns.length) : cutV (ns.map V.int) (some z) (some z') = ((ns.drop (4 * i)).take 4).map V.int := by
  subst hz hz'
  unfold cutV
  rw [HT.sIx_nat, HT.sIx_nat, List.length_map, Nat.min_eq_left (by omega), Nat.min_eq_left (by omega), show 4 * i + 4 - 4 * i = 4 by omega, List.map_take, List.map_drop]
theorem rgc4 {n : Nat} (h : n ≤ 1000) : RgC 0 ((4 * n : Nat) : Int) 4 n := by
  refine ⟨by decide, by decide, ?_, ?_⟩
  · unfold Builtin.Range.small
    have e : Builtin.Range.rangeSize 0 ((4 * n : Nat) : Int) 4 = (n : Int) := by
      unfold Builtin.Range.rangeSize
      rw [if_pos (by decide)]
      by_cases c : n = 0
      · subst c; rfl
      · rw [if_pos (by omega)]; omega
    rw [e, if_pos (show (4 : Int) > 0 by decide)]
    have fit : ∀ z : Int, 0 ≤ z → z < 5000 → Builtin.Range.rangeFitsLong z = true := fun z h1 h2 => by
      unfold Builtin.Range.rangeFitsLong
      rw [Bool.and_eq_true]
      exact ⟨decide_eq_true (by omega), decide_eq_true (by omega)⟩
    rw [fit 0 (by omega) (by omega), fit ((4 * n : Nat) : Int) (by omega) (by omega), fit 4 (by omega) (by omega), fit (n : Int) (by omega) (by omega), fit (((4 * n : Nat) : Int) + (4 - 1)) (by omega) (by omega), Bool.or_true]
    rfl
  · unfold Builtin.Range.rangeSize
    rw [if_pos (by decide)]
    by_cases c : n = 0
    · subst c; rfl
    · rw [if_pos (by omega)]; omega
end ScA
namespace ScA
open PySem PySem.Spec PyProof.Rows L2
open Sc
/-! data of fractions and points, compared -/
def frD (q : Fr) : PyData := .tuple [.int q.n, .int (q.d : Int)]
def ptD (p : Pt) : PyData := .tuple [frD p.x, frD p.y]
theorem eqv_fr (a b : Fr) : PyData.eqv (frD a) (frD b) = decide (a = b) := by
  obtain ⟨n, d⟩ := a
  obtain ⟨m, e⟩ := b
  show ((n == m) && (((d : Int) == (e : Int)) && true)) = _
  rw [Bool.eq_iff_iff, Bool.and_true, Bool.and_eq_true, beq_iff_eq, beq_iff_eq, decide_eq_true_eq]
  constructor
  · rintro ⟨h1, h2⟩
    have h2 : d = e := by omega
    rw [h1, h2]
  · intro h
    injection h with h1 h2
    exact ⟨h1, by rw [h2]⟩
theorem eqv_pt (a b : Pt) : PyData.eqv (ptD a) (ptD b) = decide (a = b) := by
  obtain ⟨x, y⟩ := a
  obtain ⟨z, t⟩ := b
  show (PyData.eqv (frD x) (frD z) && (PyData.eqv (frD y) (frD t) && true)) = _
  rw [eqv_fr, eqv_fr, Bool.eq_iff_iff, Bool.and_true, Bool.and_eq_true, decide_eq_true_eq, decide_eq_true_eq, decide_eq_true_eq]
  constructor
  · rintro ⟨h1, h2⟩
    rw [h1, h2]
  · intro h
    injection h with h1 h2
    exact ⟨h1, h2⟩
theorem frSh (a : Fr) : SeqAt.shaped (frD a) = true := rfl
theorem ptSh (a : Pt) : SeqAt.shaped (ptD a) = true := rfl
end ScA
namespace ScA
open PySem PySem.Spec PyProof.Rows L2
open Sc
section
variable {Pg : Program} {w : World} {K : PySem.W.Frag} {mg : Str → Option Value} {base : Heap} {CF CP CS fP fS : Addr}
theorem FrAt.dp {H : Hp} {a : Addr} {q : Fr} (h : FrAt H a q) : Dp K H (.ref a) (frD q) := .tup (SqT.of h) (.cons (.int _) (.cons (.int _) .nil))
theorem PtAt.dp {H : Hp} {a : Addr} {p : Pt} (h : PtAt H a p) : Dp K H (.ref a) (ptD p) :=
  let ⟨_, _, h1, h2, h3⟩ := h
  .tup (SqT.of h1) (.cons h2.dp (.cons h3.dp .nil))
end
end ScA
namespace ScA
open PySem PySem.Spec PyProof.Rows L2
open Sc
section
variable {Pg : Program} {w : World} {K : PySem.W.Frag} {mg : Str → Option Value} {base : Heap} {CF CP CS fP fS : Addr}
/-! point_numbers -/
def ptN (p : Pt) : List Int := [p.x.n, (p.x.d : Int), p.y.n, (p.y.d : Int)]
def spPn : Sp := fun vs H Q _ => ∃ (x : Addr) (p : Pt), vs = [.ref x] ∧ PtAt H x p ∧ ∀ q, H q = none → Q (.ref q) (upd H q (.lst ((ptN p).map V.int)))
theorem scPn : FnScope ["point"] ["point"] (defScope s_point_numbers) := ⟨rfl, rfl, rfl, by decide +kernel, rfl, by decide +kernel, by decide +kernel⟩
theorem ok_pn {f : Addr} {fd : FuncData} (F : Fun K "point_numbers" "point_numbers" s_point_numbers f fd) : FnOk Pg w K mg base CX0 1 f fd ["point"] spPn := by
  refine F.ok scPn (fun vs H Q E h => ?_) (fun cdv A outer s H vs Q E hr h => ⟨_, pss_one (ps_ret (pe_lst
    (pa_cons (pe_ix ix_tup (pe_ix ix_tup (pv 0) pe_int (fun _ _ => rfl)) pe_int (fun _ _ => rfl)) (pa_cons (pe_ix ix_tup (pe_ix ix_tup (pv 0) pe_int (fun _ _ => rfl)) pe_int (fun _ _ => rfl))
    (pa_cons (pe_ix ix_tup (pe_ix ix_tup (pv 0) pe_int (fun _ _ => rfl)) pe_int (fun _ _ => rfl)) (pa_cons (pe_ix ix_tup (pe_ix ix_tup (pv 0) pe_int (fun _ _ => rfl)) pe_int (fun _ _ => rfl)) pa_nil)))))), ?_⟩)
  · obtain ⟨x, p, rfl, _⟩ := h
    rfl
  · obtain ⟨x, p, rfl, ⟨u, v, hx, hu, hv⟩, k⟩ := h
    refine ⟨_, rfl, x, _, 0, _, rfl, rfl, SqT.of hx, rfl, u, _, 0, _, rfl, rfl, SqT.of hu, rfl, ?_⟩
    refine ⟨_, rfl, x, _, 0, _, rfl, rfl, SqT.of hx, rfl, u, _, 1, _, rfl, rfl, SqT.of hu, rfl, ?_⟩
    refine ⟨_, rfl, x, _, 1, _, rfl, rfl, SqT.of hx, rfl, v, _, 0, _, rfl, rfl, SqT.of hv, rfl, ?_⟩
    refine ⟨_, rfl, x, _, 1, _, rfl, rfl, SqT.of hx, rfl, v, _, 1, _, rfl, rfl, SqT.of hv, rfl, ?_⟩
    exact ⟨(by show 4 ≤ sizeLine; decide), k⟩
end
end ScA
namespace ScA
open PySem PySem.Spec PyProof.Rows L2
open Sc
section
variable {Pg : Program} {w : World} {K : PySem.W.Frag} {mg : Str → Option Value} {base : Heap} {CF CP CS fP fS : Addr}
/-! origin -/
def spOr : Sp := fun vs H Q _ => vs = [] ∧ ∀ H' q, Same H H' → H q = none → PtAt H' q Kzq1.origin → Q (.ref q) H'
theorem scOr : FnScope [] [] (defScope s_origin) := ⟨rfl, rfl, rfl, by decide +kernel, rfl, by decide +kernel, by decide +kernel⟩
theorem ok_or {f : Addr} {fd : FuncData} (F : Fun K "origin" "origin" s_origin f fd) : FnOk Pg w K mg base CX0 1 f fd [] spOr := by
  refine F.ok scOr (fun vs H Q E h => ?_) (fun cdv A outer s H vs Q E hr h => ⟨_, pss_one (ps_ret (pe_tup (pa_cons (pe_tup (pa_cons pe_int (pa_cons pe_int pa_nil))) (pa_cons (pe_tup (pa_cons pe_int (pa_cons pe_int pa_nil))) pa_nil)))), ?_⟩)
  · obtain ⟨rfl, _⟩ := h
    rfl
  · obtain ⟨rfl, k⟩ := h
    refine ⟨(by show 2 ≤ sizeLine; decide), fun p1 n1 => ⟨(by show 2 ≤ sizeLine; decide), fun p2 n2 => ⟨(by show 2 ≤ sizeLine; decide), fun p3 n3 => ?_⟩⟩⟩
    have s1 := Same.new (o := .tup [.int 0, .int 1]) n1
    have s2 := Same.new (o := .tup [.int 0, .int 1]) n2
    have s3 := Same.new (o := .tup [.ref p1, .ref p2]) n3
    exact k _ p3 ((s1.trans s2).trans s3) ((s1.trans s2).free n3) ⟨p1, p2, upd_same, s3 _ _ (s2 _ _ upd_same), s3 _ _ upd_same⟩
end
end ScA
namespace ScA
open PySem PySem.Spec PyProof.Rows L2
open Sc
section
variable {Pg : Program} {w : World} {K : PySem.W.Frag} {mg : Str → Option Value} {base : Heap} {CF CP CS fP fS : Addr}
/-! is_before -/
theorem before_eq (a b : Pt) : Kzq1.before a b = if a.x = b.x then Kzq1.lt a.y b.y else Kzq1.lt a.x b.x := by
  unfold Kzq1.before
  by_cases c : a.x = b.x
  · have e : Kzq1.lt a.x b.x = false := by rw [c]; exact decide_eq_false (by omega)
    rw [if_pos c, e, c]
    simp
  · rw [if_neg c]
    have e : (a.x == b.x) = false := by simpa using c
    rw [e]; simp
def spBef : Sp := fun vs H Q _ => ∃ (x y : Addr) (a b : Pt) (k : Nat), vs = [.ref x, .ref y] ∧ PtAt H x a ∧ PtAt H y b ∧ SzP k a ∧ SzP k b ∧ k ≤ 20000 ∧ Q (.bl (Kzq1.before a b)) H
theorem scBef : FnScope ["a", "b"] ["a", "b"] (defScope s_is_before) := ⟨rfl, rfl, rfl, by decide +kernel, rfl, by decide +kernel, by decide +kernel⟩
theorem ok_bef {f fR : Addr} {fd fdR : FuncData} (F : Fun K "is_before" "is_before" s_is_before f fd) (GR : FnOk Pg w K mg base CX0 1 fR fdR ["a", "b"] spLess) (mR : mg "is_less" = some (.ref fR)) (kR : PySem.W.keepIn K (.ref fR) = true) (bR : Binds K fdR ["a", "b"] []) :
    FnOk Pg w K mg base CX0 2 f fd ["a", "b"] spBef := by
  refine F.ok scBef (fun vs H Q E h => ?_) (fun cdv A outer s H vs Q E hr h => ⟨_, pss_cons (ps_if (pt_cmpR (op_eqD hr.units) (pe_ix ix_tup (pv 0) pe_int (fun _ _ => rfl)) (pe_ix ix_tup (pv 1) pe_int (fun _ _ => rfl)) (nomark _))
      (pss_one (ps_ret (pe_call GR hr rfl mR kR bR .nil pass0 (pa_cons (pe_ix ix_tup (pv 0) pe_int (fun _ _ => rfl)) (pa_cons (pe_ix ix_tup (pv 1) pe_int (fun _ _ => rfl)) pa_nil))))) pss_nil)
    (pss_one (ps_ret (pe_call GR hr rfl mR kR bR .nil pass0 (pa_cons (pe_ix ix_tup (pv 0) pe_int (fun _ _ => rfl)) (pa_cons (pe_ix ix_tup (pv 1) pe_int (fun _ _ => rfl)) pa_nil))))), ?_⟩)
  · obtain ⟨x, y, a, b, k, rfl, _⟩ := h
    rfl
  · obtain ⟨x, y, a, b, k, rfl, ⟨x1, x2, hx, hx1, hx2⟩, ⟨y1, y2, hy, hy1, hy2⟩, sa, sb, hk, q⟩ := h
    rw [before_eq] at q
    refine ⟨_, rfl, x, _, 0, _, rfl, rfl, SqT.of hx, rfl, _, rfl, y, _, 0, _, rfl, rfl, SqT.of hy, rfl, frD a.x, frD b.x, hx1.dp, hy1.dp, frSh _, frSh _, _, rfl, ?_⟩
    rw [eqv_fr]
    by_cases c : a.x = b.x
    · rw [if_pos c] at q
      refine ifT (decide_eq_true c) ?_
      exact ⟨_, rfl, x, _, 1, _, rfl, rfl, SqT.of hx, rfl, _, rfl, y, _, 1, _, rfl, rfl, SqT.of hy, rfl, x2, y2, a.y, b.y, k, k, rfl, hx2, hy2, sa.2, sb.2, (by omega), q⟩
    · rw [if_neg c] at q
      refine ifF (decide_eq_false c) ?_
      exact ⟨_, rfl, x, _, 0, _, rfl, rfl, SqT.of hx, rfl, _, rfl, y, _, 0, _, rfl, rfl, SqT.of hy, rfl, x1, y1, a.x, b.x, k, k, rfl, hx1, hy1, sa.1, sb.1, (by omega), q⟩
end

end ScA
namespace ScA
open PySem PySem.Spec PyProof.Rows L2
open Sc
theorem PtsAt.append {H : Hp} : ∀ {as bs : List Addr} {ps qs : List Pt}, PtsAt H as ps → PtsAt H bs qs → PtsAt H (as ++ bs) (ps ++ qs)
  | [], _, [], _, _, h => h
  | _ :: _, _, _ :: _, _, h, g => ⟨h.1, PtsAt.append h.2 g⟩
  | [], _, _ :: _, _, h, _ => h.elim
  | _ :: _, _, [], _, h, _ => h.elim
theorem PtsAt.drop {H : Hp} : ∀ {as : List Addr} {ps : List Pt} (i : Nat), PtsAt H as ps → PtsAt H (as.drop i) (ps.drop i)
  | _, _, 0, h => h
  | [], [], _ + 1, h => h
  | _ :: _, _ :: _, i + 1, h => PtsAt.drop i h.2
  | [], _ :: _, _, h => h.elim
  | _ :: _, [], _, h => h.elim
theorem PtsAt.take {H : Hp} : ∀ {as : List Addr} {ps : List Pt} (i : Nat), PtsAt H as ps → PtsAt H (as.take i) (ps.take i)
  | _, _, 0, _ => trivial
  | [], [], _ + 1, h => h
  | _ :: _, _ :: _, i + 1, h => ⟨h.1, PtsAt.take i h.2⟩
  | [], _ :: _, _, h => h.elim
  | _ :: _, [], _, h => h.elim
/-- what the top has written of a class with an __init__ -/
structure ClsTxt (K : PySem.W.Frag) (mg : Str → Option Value) (nm : Str) (C fI : Addr) (fs : List Str) : Prop where
  cl : Cls K C
  g : mg nm = some (.ref C)
  n : ∀ f ∈ fs, NoAttr K C f
  m : Mk K C fI
theorem lkH {k : Str} {v : V} {r : List (Str × V)} : List.lookup k ((k, v) :: r) = some v := by
  have e : (k == k) = true := beq_self_eq_true k
  simp only [List.lookup, e]
theorem lkP {k g : Str} {v : V} {r : List (Str × V)} (h : (k == g) = false) : List.lookup k ((g, v) :: r) = List.lookup k r := by
  simp only [List.lookup, h]
end ScA
namespace ScA
open PySem PySem.Spec PyProof.Rows L2
open Sc
section
variable {Pg : Program} {w : World} {K : PySem.W.Frag} {mg : Str → Option Value} {base : Heap} {CF CP CS fP fS : Addr}
/-! Part -/
def ptF (a b c : V) : List (Str × V) := [("piece", a), ("turned", b), ("slid", c)]
def spPtI (C : Addr) : Sp := fun vs H Q _ => ∃ (p dx : Addr) (a b c : V), vs = [.ref p, a, b, c] ∧ H p = some (.ins C dx []) ∧ ∀ H' : Hp, H' p = some (.ins C dx (ptF a b c)) → (∀ q o, H q = some o → q ≠ p → H' q = some o) → Q .non H'
theorem scPtI : FnScope ["self", "piece", "turned", "slid"] ["self", "piece", "turned", "slid"] (defScope s_Part) := ⟨rfl, rfl, rfl, by decide +kernel, rfl, by decide +kernel, by decide +kernel⟩
theorem ok_ptI {f : Addr} {fd : FuncData} (F : Fun K "__init__" "Part.__init__" s_Part f fd) (T : ClsTxt K mg "Part" CP fP ["piece", "turned", "slid"]) : FnOk Pg w K mg base CX0 1 f fd ["self", "piece", "turned", "slid"] (spPtI CP) := by
  refine F.ok scPtI (fun vs H Q E h => ?_) (fun cdv A outer s H vs Q E hr h => ⟨_, pss_cons (ps_fld (pv 0) (pv 1) rfl) (pss_cons (ps_fld (pv 0) (pv 2) rfl) (pss_one (ps_fld (pv 0) (pv 3) rfl))), ?_⟩)
  · obtain ⟨p, dx, a, b, c, rfl, _⟩ := h
    rfl
  · obtain ⟨p, dx, a, b, c, rfl, hp, k⟩ := h
    refine ⟨_, rfl, _, rfl, p, CP, dx, [], rfl, hp, T.cl, T.n _ (by simp), (by show 0 < 1000; decide), ?_⟩
    refine ⟨_, rfl, _, rfl, p, CP, dx, _, rfl, upd_same, T.cl, T.n _ (by simp), (by show 1 < 1000; decide), ?_⟩
    refine ⟨_, rfl, _, rfl, p, CP, dx, _, rfl, upd_same, T.cl, T.n _ (by simp), (by show 2 < 1000; decide), ?_⟩
    refine k _ ?_ fun q o e hq => by rw [upd_ne hq, upd_ne hq, upd_ne hq]; exact e
    rw [upd_same]
    have e : putF "slid" c (putF "turned" b (putF "piece" a [])) = ptF a b c := by
      unfold ptF
      have n1 : ¬ (("piece" : Str) = "turned") := by decide +kernel
      have n2 : ¬ (("piece" : Str) = "slid") := by decide +kernel
      have n3 : ¬ (("turned" : Str) = "slid") := by decide +kernel
      simp only [putF, if_neg n1, if_neg n2, if_neg n3]
    exact congrArg (fun z => some (HO.ins CP dx z)) e
end
end ScA
namespace ScA
open PySem PySem.Spec PyProof.Rows L2
open Sc
theorem cut_from {xs : List V} {j : Nat} : cutV xs (some (j : Int)) none = xs.drop j := by
  unfold cutV
  rw [HT.sIx_nat, HT.sIx_none]
  by_cases c : j ≤ xs.length
  · rw [Nat.min_eq_left c]
    exact List.take_of_length_le (by rw [List.length_drop]; omega)
  · rw [Nat.min_eq_right (by omega), List.drop_eq_nil_of_le (Nat.le_refl _), List.drop_eq_nil_of_le (by omega), List.take_nil]
theorem cut_to {xs : List V} {j : Nat} : cutV xs none (some (j : Int)) = xs.take j := by
  unfold cutV
  rw [HT.sIx_nat, HT.sIx_none, List.drop_zero, Nat.sub_zero]
  by_cases c : j ≤ xs.length
  · rw [Nat.min_eq_left c]
  · rw [Nat.min_eq_right (by omega), List.take_of_length_le (Nat.le_refl _), List.take_of_length_le (by omega)]
end ScA
namespace ScA
open PySem PySem.Spec PyProof.Rows L2
open Sc
/-! piece_of -/
def unl (ps : List Pt) (i : Nat) : List Pt := (List.range i).filterMap fun i => if Kzq1.at0 ps i = Kzq1.at0 ps (i + 1) then none else some (Kzq1.at0 ps i)
theorem unl_all (ps : List Pt) : unl ps ps.length = Kzq1.unlike ps := rfl
theorem unl_more (ps : List Pt) (i : Nat) : unl ps (i + 1) = unl ps i ++ if Kzq1.at0 ps i = Kzq1.at0 ps (i + 1) then [] else [Kzq1.at0 ps i] := by
  unfold unl
  rw [List.range_succ, List.filterMap_append]
  congr 1
  rw [List.filterMap_cons]
  by_cases c : Kzq1.at0 ps i = Kzq1.at0 ps (i + 1)
  · rw [if_pos c, if_pos c]; rfl
  · rw [if_neg c, if_neg c]; rfl
theorem unl_len (ps : List Pt) (i : Nat) : (unl ps i).length ≤ i := by
  unfold unl
  refine Nat.le_trans (List.length_filterMap_le _ _) ?_
  rw [List.length_range]; exact Nat.le_refl _
theorem at0_get {ps : List Pt} {i : Nat} (h : i < ps.length) : ps[i]? = some (Kzq1.at0 ps i) := by
  unfold Kzq1.at0
  rw [Nat.mod_eq_of_lt h, List.getD_eq_getElem?_getD, List.getElem?_eq_getElem h]; rfl
theorem at0_mod (ps : List Pt) (i : Nat) : Kzq1.at0 ps (i % ps.length) = Kzq1.at0 ps i := by
  unfold Kzq1.at0
  rw [Nat.mod_mod]
theorem at0_mem {ps : List Pt} {i : Nat} (h : 0 < ps.length) : Kzq1.at0 ps i ∈ ps := by
  rw [← at0_mod]
  exact List.mem_of_getElem? (at0_get (Nat.mod_lt _ h))
theorem unlike_mem {ps : List Pt} {p : Pt} (h : p ∈ Kzq1.unlike ps) : p ∈ ps := by
  obtain ⟨i, hi, e⟩ := List.mem_filterMap.mp h
  have hi : i < ps.length := List.mem_range.mp hi
  by_cases c : Kzq1.at0 ps i = Kzq1.at0 ps (i + 1)
  · rw [if_pos c] at e; cases e
  · rw [if_neg c] at e
    cases e
    exact at0_mem (by omega)
/-- the leftmost corner's place, as far as i of them are looked at -/
def fst (l : List Pt) (i : Nat) : Nat := (List.range i).foldl (fun a j => if Kzq1.before (Kzq1.at0 l j) (Kzq1.at0 l a) then j else a) 0
theorem fst_more (l : List Pt) (i : Nat) : fst l (i + 1) = if Kzq1.before (Kzq1.at0 l i) (Kzq1.at0 l (fst l i)) then i else fst l i := by
  unfold fst
  rw [List.range_succ, List.foldl_append]; rfl
theorem fst_le (l : List Pt) : ∀ i, fst l i ≤ i - 1
  | 0 => Nat.le_refl _
  | i + 1 => by
    rw [fst_more]
    have := fst_le l i
    split <;> omega
theorem begun_fst (l : List Pt) : Kzq1.begunWith l = l.drop (fst l l.length) ++ l.take (fst l l.length) := rfl
end ScA
namespace ScA
open PySem PySem.Spec PyProof.Rows L2
open Sc
section
variable {Pg : Program} {w : World} {K : PySem.W.Frag} {mg : Str → Option Value} {base : Heap} {CF CP CS fP fS : Addr}
def spPc : Sp := fun vs H Q _ => ∃ (a : Addr) (as : List Addr) (ps : List Pt) (k : Nat), vs = [.ref a] ∧ H a = some (.lst (as.map V.ref)) ∧ PtsAt H as ps ∧ (∀ p ∈ ps, SzP k p) ∧ k ≤ 20000 ∧ ps.length ≤ 1000 ∧
  ∀ H' q as', Same H H' → H q = none → H' q = some (.lst (as'.map V.ref)) → PtsAt H' as' (pieceOf ps) → Q (.ref q) H'
theorem scPc : FnScope ["corners", "count", "row", "first", "k"] ["corners"] (defScope s_piece_of) := ⟨rfl, rfl, rfl, by decide +kernel, rfl, by decide +kernel, by decide +kernel⟩
theorem ok_pc {f fB : Addr} {fd fdB : FuncData} (F : Fun K "piece_of" "piece_of" s_piece_of f fd) (mLen : mg "len" = none) (mRange : mg "range" = none)
    (GB : FnOk Pg w K mg base CX0 2 fB fdB ["a", "b"] spBef) (mB : mg "is_before" = some (.ref fB)) (kB : PySem.W.keepIn K (.ref fB) = true) (bB : Binds K fdB ["a", "b"] []) :
    FnOk Pg w K mg base CX0 3 f fd ["corners"] spPc := by
  refine F.ok scPc (fun vs H Q E h => ?_) (fun cdv A outer s H vs Q E hr h => ⟨_,
    pss_cons (ps_set (i := 1) scPc.nd rfl (Or.inr rfl) (pe_callB call_len_seq (by rfl) mLen PySem.boot_len (pa_cons (pv 0) pa_nil)))
    (pss_cons (ps_setLc (i := 2) (own := [("k", 4)]) (g := gName 4) rfl scPc.nd rfl rfl (sw_true rfl rfl rfl (by decide +kernel)) (pi_range1 rfl mRange (pa_cons (pv 1) pa_nil))
      (blkOk_by (own := [("k", 4)]) (N := ["corners", "count", "row", "first", "k"]) (sc := defScope s_piece_of) (by decide +kernel))
      (fun _ _ _ _ _ => pg_name (i := 4) scPc.nd rfl (Or.inl rfl))
      (fun _ _ _ _ _ => pts_one (pt_cmpR (r := rNeD K) (op_neD hr.units) (pe_ix (r := rIxL K) ix_list (pv 0) (pv 4) (fun _ _ => rfl)) (pe_ix (r := rIxL K) ix_list (pv 0) (pe_op op_mod (pe_op op_add (pv 4) pe_int) (pv 1)) (fun _ _ => rfl)) (nomark _)))
      (fun _ _ _ _ _ => pe_ix (r := rIxL K) ix_list (pv 0) (pv 4) (fun _ _ => rfl)))
    (pss_cons (ps_set (i := 3) scPc.nd rfl (Or.inl rfl) pe_int)
    (pss_cons (ps_for PassesOwn.never rfl (pi_range1 rfl mRange (pa_cons (pe_callB call_len_seq (by rfl) mLen PySem.boot_len (pa_cons (pv 2) pa_nil)) pa_nil)) (pg_name (i := 4) scPc.nd rfl (Or.inl rfl))
      (pss_one (ps_if (pt_val (pe_call GB hr rfl mB kB bB .nil pass0 (pa_cons (pe_ix ix_list (pv 2) (pv 4) (fun _ _ => rfl)) (pa_cons (pe_ix ix_list (pv 2) (pv 3) (fun _ _ => rfl)) pa_nil))))
        (pss_one (ps_set (i := 3) scPc.nd rfl (Or.inl rfl) (pv 4))) pss_nil)))
    (pss_one (ps_ret (pe_op op_cat (pe_slice sl_list (pv 2) (po_some (pv 3)) po_none) (pe_slice sl_list (pv 2) po_none (po_some (pv 3))))))))), ?_⟩)
  · obtain ⟨a, as, ps, k, rfl, _⟩ := h
    rfl
  · obtain ⟨a, as, ps, k, rfl, ha, hP, hz, hk, hl, q⟩ := h
    have la := hP.len
    refine ⟨_, rfl, a, _, rfl, .inl (SqL.of ha), ?_⟩
    refine ⟨_, rfl, _, rfl, by omega, by rw [List.length_map]; omega, fun D nD => ?_⟩
    rw [List.length_map, la, Int.toNat_natCast]
    refine lc_range (lo := 0) (n := ps.length) (fun i H' => Same H H' ∧ ∃ as', H' D = some (.lst (as'.map V.ref)) ∧ PtsAt H' as' (unl ps i)) ?_ ?_ ?_
    · exact ⟨Same.new nD, [], upd_same, trivial⟩
    · rintro i H1 hi ⟨s1, as', hD1, hP1⟩
      have hP0 := PtsAt.tu (Tu.of s1) hP
      obtain ⟨a1, e1, p1⟩ := hP0.get (at0_get hi)
      have hm : (i + 1) % ps.length < ps.length := Nat.mod_lt _ (by omega)
      obtain ⟨a2, e2, p2⟩ := hP0.get (at0_get hm)
      rw [at0_mod] at p2
      have g1 : (as.map V.ref)[i]? = some (V.ref a1) := by rw [List.getElem?_map, e1]; rfl
      have g2 : (as.map V.ref)[(i + 1) % ps.length]? = some (V.ref a2) := by rw [List.getElem?_map, e2]; rfl
      refine ⟨rfl, ?_⟩
      have hS1 : SqL K H1 a (as.map V.ref) := SqL.of (s1 _ _ ha)
      have em : (0 + (i : Int) + 1) % (ps.length : Int) = (((i + 1) % ps.length : Nat) : Int) := by
        rw [Int.natCast_emod]; congr 1; omega
      refine ⟨_, rfl, _, rfl, a, _, _, _, rfl, rfl, hS1, at_of (by omega) g1, _, rfl, _, rfl, _, _, rfl, rfl, _, rfl, _, _, rfl, rfl, (by show (0 : Int) < (ps.length : Int); omega), a, _, _, _, rfl, rfl, hS1, at_of em g2, ptD (Kzq1.at0 ps i), ptD (Kzq1.at0 ps (i + 1)), p1.dp, p2.dp, ptSh _, ptSh _, _, rfl, ?_⟩
      rw [eqv_pt]
      by_cases c : Kzq1.at0 ps i = Kzq1.at0 ps (i + 1)
      · refine ifF (by rw [decide_eq_true c]; rfl) ⟨s1, as', hD1, ?_⟩
        rw [unl_more, if_pos c, List.append_nil]; exact hP1
      · refine ifT (by rw [decide_eq_false c]; rfl) ?_
        have l1 := hP1.len
        have l2 := unl_len ps i
        refine ⟨_, rfl, _, rfl, a, _, _, _, rfl, rfl, hS1, at_of (by omega) g1, _, hD1, ?_, ?_, as' ++ [a1], ?_, ?_⟩
        · rw [List.length_map]
          have e : sizeLine = 16777216 := by decide
          rw [e]; omega
        · intro b o e
          rw [upd_ne (ne_of_none e nD)]
          exact s1 _ _ e
        · rw [upd_same, List.map_append]; rfl
        · rw [unl_more, if_neg c]
          exact PtsAt.snoc (p1.tu (Tu.lst hD1)) (PtsAt.tu (Tu.lst hD1) hP1)
    · rintro H1 ⟨s1, as', hD1, hP1⟩
      rw [unl_all] at hP1
      have l1 := hP1.len
      have l2 : (Kzq1.unlike ps).length ≤ ps.length := by rw [← unl_all]; exact unl_len ps _
      refine ⟨_, rfl, D, _, rfl, .inl (SqL.of hD1), _, rfl, by omega, by rw [List.length_map]; omega, ?_⟩
      rw [List.length_map, l1, Int.toNat_natCast]
      have szU : ∀ p ∈ Kzq1.unlike ps, SzP k p := fun p hp => hz p (unlike_mem hp)
      refine for_range (lo := 0) (n := (Kzq1.unlike ps).length) (fun i σ H' => H' = H1 ∧ ∃ r : Option V, σ = [some (.ref a), some (.int (ps.length : Int)), some (.ref D), some (.int ((fst (Kzq1.unlike ps) i : Nat) : Int)), r]) ?_ ?_ ?_
      · exact ⟨rfl, none, rfl⟩
      · rintro i σ H2 hi ⟨rfl, r, rfl⟩
        have hf : fst (Kzq1.unlike ps) i < (Kzq1.unlike ps).length := by have := fst_le (Kzq1.unlike ps) i; omega
        obtain ⟨a1, e1, p1⟩ := hP1.get (at0_get hi)
        obtain ⟨a2, e2, p2⟩ := hP1.get (at0_get hf)
        have g1 : (as'.map V.ref)[i]? = some (V.ref a1) := by rw [List.getElem?_map, e1]; rfl
        have g2 : (as'.map V.ref)[fst (Kzq1.unlike ps) i]? = some (V.ref a2) := by rw [List.getElem?_map, e2]; rfl
        refine ⟨_, rfl, _, rfl, D, _, _, _, rfl, rfl, SqL.of hD1, at_of (by omega) g1, _, rfl, _, rfl, D, _, _, _, rfl, rfl, SqL.of hD1, atI_nat g2, a1, a2, _, _, k, rfl, p1, p2, szU _ (at0_mem (by omega)), szU _ (at0_mem (by omega)), hk, _, rfl, ?_⟩
        by_cases c : Kzq1.before (Kzq1.at0 (Kzq1.unlike ps) i) (Kzq1.at0 (Kzq1.unlike ps) (fst (Kzq1.unlike ps) i)) = true
        · refine ifT c ?_
          refine ⟨_, rfl, rfl, some (.int (0 + (i : Int))), ?_⟩
          rw [fst_more, if_pos c, Int.zero_add]
          rfl
        · refine ifF (by simpa using c) ?_
          refine ⟨rfl, some (.int (0 + (i : Int))), ?_⟩
          rw [fst_more, if_neg c]
          rfl
      · rintro σ H2 ⟨rfl, r, rfl⟩
        refine ⟨_, rfl, _, rfl, _, rfl, D, _, rfl, SqL.of hD1, fun b1 n1 => ?_⟩
        generalize hj : fst (Kzq1.unlike ps) (Kzq1.unlike ps).length = j at *
        have t1 := Same.new (o := .lst (cutV (as'.map V.ref) (some (j : Int)) none)) n1
        refine ⟨_, rfl, _, rfl, _, rfl, D, _, rfl, SqL.of (t1 _ _ hD1), fun b2 n2 => ?_⟩
        have t2 := Same.new (o := .lst (cutV (as'.map V.ref) none (some (j : Int)))) n2
        have x1 := cutV_length (as'.map V.ref) (some (j : Int)) none
        have x2 := cutV_length (as'.map V.ref) none (some (j : Int))
        rw [List.length_map] at x1 x2
        refine ⟨b1, b2, _, _, rfl, rfl, t2 _ _ upd_same, upd_same, ?_, fun b3 n3 => ?_⟩
        · have e : sizeLine = 16777216 := by decide
          rw [e]; omega
        have t3 := Same.new (o := .lst (cutV (as'.map V.ref) (some (j : Int)) none ++ cutV (as'.map V.ref) none (some (j : Int)))) n3
        have tt := (s1.trans t1).trans (t2.trans t3)
        refine q _ b3 (as'.drop j ++ as'.take j) tt ((s1.trans (t1.trans t2)).free n3) ?_ ?_
        · rw [upd_same, cut_from, cut_to, List.map_append, List.map_drop, List.map_take]
        · unfold pieceOf
          rw [begun_fst, hj]
          have hP3 := PtsAt.tu (Tu.of (t1.trans (t2.trans t3))) hP1
          exact PtsAt.append (hP3.drop j) (hP3.take j)
end

end ScA
namespace ScA
open PySem PySem.Spec PyProof.Rows L2
open Sc
/-! parts in the heap; cutting_numbers -/
def hI (b : Bool) : Int := if b then 1 else 0
def PartAt (C : Addr) (H : Hp) (a : Addr) (p : Kzq2.Part) : Prop := ∃ dx pc sl as, H a = some (.ins C dx (ptF (.ref pc) (.int (hI p.m.h)) (.ref sl))) ∧ H pc = some (.lst (as.map V.ref)) ∧ PtsAt H as p.l ∧ PtAt H sl p.m.t
theorem PartAt.mono {C : Addr} {H H' : Hp} {a : Addr} {p : Kzq2.Part} (h : PartAt C H a p) (s : Same H H') : PartAt C H' a p :=
  let ⟨dx, pc, sl, as, h1, h2, h3, h4⟩ := h
  ⟨dx, pc, sl, as, s _ _ h1, s _ _ h2, PtsAt.tu (Tu.of s) h3, h4.mono s⟩
def PartsAt (C : Addr) (H : Hp) : List Addr → List Kzq2.Part → Prop
  | [], [] => True
  | a :: as, p :: ps => PartAt C H a p ∧ PartsAt C H as ps
  | _, _ => False
theorem PartsAt.mono {C : Addr} {H H' : Hp} (s : Same H H') : ∀ {as : List Addr} {ps : List Kzq2.Part}, PartsAt C H as ps → PartsAt C H' as ps
  | [], [], h => h
  | _ :: _, _ :: _, h => ⟨h.1.mono s, PartsAt.mono s h.2⟩
  | [], _ :: _, h => h.elim
  | _ :: _, [], h => h.elim
theorem PartsAt.len {C : Addr} {H : Hp} : ∀ {as : List Addr} {ps : List Kzq2.Part}, PartsAt C H as ps → as.length = ps.length
  | [], [], _ => rfl
  | _ :: _, _ :: _, h => congrArg (· + 1) (PartsAt.len h.2)
  | [], _ :: _, h => h.elim
  | _ :: _, [], h => h.elim
theorem PartsAt.get {C : Addr} {H : Hp} : ∀ {as : List Addr} {ps : List Kzq2.Part} {i : Nat} {a : Addr}, PartsAt C H as ps → as[i]? = some a → ∃ p, ps[i]? = some p ∧ PartAt C H a p
  | a :: _, p :: _, 0, q, h, e => by
    have e : a = q := Option.some.inj e
    subst e
    exact ⟨p, rfl, h.1⟩
  | _ :: _, _ :: _, i + 1, q, h, e => PartsAt.get (i := i) (a := q) h.2 e
  | [], [], _, _, _, e => by simp at e
  | [], _ :: _, _, _, h, _ => h.elim
  | _ :: _, [], _, _, h, _ => h.elim
theorem PtsAt.at {H : Hp} : ∀ {as : List Addr} {ps : List Pt} {i : Nat} {a : Addr}, PtsAt H as ps → as[i]? = some a → ∃ p, ps[i]? = some p ∧ PtAt H a p
  | a :: _, p :: _, 0, q, h, e => by
    have e : a = q := Option.some.inj e
    subst e
    exact ⟨p, rfl, h.1⟩
  | _ :: _, _ :: _, i + 1, q, h, e => PtsAt.at (i := i) (a := q) h.2 e
  | [], [], _, _, _, e => by simp at e
  | [], _ :: _, _, _, h, _ => h.elim
  | _ :: _, [], _, _, h, _ => h.elim
theorem written_snoc (l : List Pt) (p : Pt) : Kzq1.written (l ++ [p]) = Kzq1.written l ++ ptN p := by
  unfold Kzq1.written
  rw [List.flatMap_append, List.flatMap_singleton]; rfl
theorem cut_snoc (l : List Kzq2.Part) (p : Kzq2.Part) : Kzq2.writtenCut (l ++ [p]) = Kzq2.writtenCut l ++ (((p.l.length : Nat) : Int) :: (Kzq1.written p.l ++ (hI p.m.h :: ptN p.m.t))) := by
  unfold Kzq2.writtenCut
  rw [List.flatMap_append, List.flatMap_singleton]
  rfl
theorem cut_len (l : List Kzq2.Part) {n : Nat} (h : ∀ p ∈ l, p.l.length ≤ n) : (Kzq2.writtenCut l).length ≤ l.length * (4 * n + 6) := by
  induction l with
  | nil => exact Nat.zero_le _
  | cons p r ih =>
    have e : Kzq2.writtenCut (p :: r) = (((p.l.length : Nat) : Int) :: (Kzq1.written p.l ++ Kzq2.writtenMove p.m)) ++ Kzq2.writtenCut r := rfl
    have h1 := ih fun q hq => h q (List.mem_cons_of_mem _ hq)
    have h2 := h p List.mem_cons_self
    have e2 : (Kzq2.writtenMove p.m).length = 5 := rfl
    rw [e, List.length_append, List.length_cons, List.length_append, written_len, e2, List.length_cons, Nat.add_mul, Nat.one_mul]
    omega
end ScA
namespace ScA
open PySem PySem.Spec PyProof.Rows L2
open Sc
section
variable {Pg : Program} {w : World} {K : PySem.W.Frag} {mg : Str → Option Value} {base : Heap} {CF CP CS fP fS : Addr}
def spCn (C : Addr) : Sp := fun vs H Q _ => ∃ (a : Addr) (as : List Addr) (ps : List Kzq2.Part), vs = [.ref a] ∧ H a = some (.lst (as.map V.ref)) ∧ PartsAt C H as ps ∧ ps.length ≤ 1000 ∧ (∀ p ∈ ps, p.l.length ≤ 1000) ∧
  ∀ H' q, Same H H' → H q = none → H' q = some (.lst ((Kzq2.writtenCut ps).map V.int)) → Q (.ref q) H'
theorem scCn : FnScope ["parts", "row", "part", "corner"] ["parts"] (defScope s_cutting_numbers) := ⟨rfl, rfl, rfl, by decide +kernel, rfl, by decide +kernel, by decide +kernel⟩
theorem ok_cn {f fB : Addr} {fd fdB : FuncData} (F : Fun K "cutting_numbers" "cutting_numbers" s_cutting_numbers f fd) (T : ClsTxt K mg "Part" CP fP ["piece", "turned", "slid"]) (mLen : mg "len" = none)
    (GB : FnOk Pg w K mg base CX0 1 fB fdB ["point"] spPn) (mB : mg "point_numbers" = some (.ref fB)) (kB : PySem.W.keepIn K (.ref fB) = true) (bB : Binds K fdB ["point"] []) :
    FnOk Pg w K mg base CX0 2 f fd ["parts"] (spCn CP) := by
  refine F.ok scCn (fun vs H Q E h => ?_) (fun cdv A outer s H vs Q E hr h => ⟨_,
    pss_cons (ps_set (i := 1) scCn.nd rfl (Or.inl rfl) (pe_lst pa_nil))
    (pss_cons (ps_for PassesOwn.never rfl (pi_list (pv 0)) (pg_name (i := 2) scCn.nd rfl (Or.inl rfl))
      (pss_cons (ps_expr (pe_bm PySem.F.plainAttrs_list PySem.F.slot_list_append PySem.F.type_list_append mt_append (pv 1) (pa_cons (pe_callB call_len_seq (by rfl) mLen PySem.boot_len (pa_cons (pe_fld (pv 2) rfl) pa_nil)) pa_nil)))
      (pss_cons (ps_for PassesOwn.never rfl (pi_list (pe_fld (pv 2) rfl)) (pg_name (i := 3) scCn.nd rfl (Or.inl rfl))
        (pss_one (ps_expr (pe_bm PySem.F.plainAttrs_list PySem.F.slot_list_extend PySem.F.type_list_extend mt_extend (pv 1) (pa_cons (pe_call GB hr rfl mB kB bB .nil pass0 (pa_cons (pv 3) pa_nil)) pa_nil)))))
      (pss_cons (ps_expr (pe_bm PySem.F.plainAttrs_list PySem.F.slot_list_append PySem.F.type_list_append mt_append (pv 1) (pa_cons (pe_fld (pv 2) rfl) pa_nil)))
      (pss_one (ps_expr (pe_bm PySem.F.plainAttrs_list PySem.F.slot_list_extend PySem.F.type_list_extend mt_extend (pv 1) (pa_cons (pe_call GB hr rfl mB kB bB .nil pass0 (pa_cons (pe_fld (pv 2) rfl) pa_nil)) pa_nil))))))))
    (pss_one (ps_ret (pv 1)))), ?_⟩)
  · obtain ⟨a, as, ps, rfl, _⟩ := h
    rfl
  · obtain ⟨a, as, ps, rfl, ha, hP, hl, hpl, q⟩ := h
    have la := hP.len
    refine ⟨(by show 0 ≤ sizeLine; decide), fun r nr => ?_⟩
    have s0 := Same.new (o := .lst []) nr
    refine ⟨_, rfl, a, rfl, ⟨_, SqL.of (s0 _ _ ha)⟩, for_list (K := K) (a := a) (xs := as.map V.ref) (fun i σ H' => ∃ v1 v2 : Option V, σ = [some (.ref a), some (.ref r), v1, v2] ∧ Same H H' ∧ H' r = some (.lst ((Kzq2.writtenCut (ps.take i)).map V.int)))
      ⟨none, none, rfl, s0, upd_same⟩ (fun i σ H' _ ⟨_, _, _, s5, _⟩ => SqL.of (s5 _ _ ha)) ?_ ?_⟩
    · rintro i y σ H1 hi ⟨v1, v2, rfl, s1, hr1⟩
      obtain ⟨b, hb, rfl⟩ : ∃ b, as[i]? = some b ∧ y = V.ref b := by
        rw [List.getElem?_map] at hi
        cases e : as[i]? with
        | none => rw [e] at hi; cases hi
        | some z => rw [e] at hi; exact ⟨z, rfl, (Option.some.inj hi).symm⟩
      obtain ⟨p, hp, pa⟩ := hP.get hb
      have bd : (Kzq2.writtenCut (ps.take i)).length ≤ 1000 * 4006 := by
        have z := cut_len (ps.take i) (n := 1000) fun z hz => hpl z (List.mem_of_mem_take hz)
        rw [List.length_take] at z
        refine Nat.le_trans z (Nat.mul_le_mul ?_ (by omega))
        omega
      have pl : p.l.length ≤ 1000 := hpl p (List.mem_of_getElem? hp)
      generalize hw : Kzq2.writtenCut (ps.take i) = nums at *
      have fin : Kzq2.writtenCut (ps.take (i + 1)) = nums ++ (((p.l.length : Nat) : Int) :: (Kzq1.written p.l ++ (hI p.m.h :: ptN p.m.t))) := by rw [take_more hp, cut_snoc, hw]
      obtain ⟨dx, pc, sl, cs, h1, h2, h3, h4⟩ := pa
      have lc := h3.len
      have step : ∀ {H2 : Hp} {o : HO}, Same H H2 → Same H (upd H2 r o) := fun {H2 o} s2 b o' e => by
        rw [upd_ne (ne_of_none e nr)]; exact s2 _ _ e
      refine ⟨_, rfl, .inl ⟨rfl, _, SqL.of hr1⟩, _, rfl, b, CP, dx, _, _, rfl, s1 _ _ h1, T.cl, T.n _ (by simp), lkH, pc, _, rfl, .inl (SqL.of (s1 _ _ h2)), r, _, _, rfl, rfl, hr1, ?_, ?_⟩
      · rw [List.length_map, szl]; omega
      have s2 := step (o := .lst (nums.map V.int ++ [V.int ((cs.map V.ref).length : Int)])) s1
      refine ⟨_, rfl, b, CP, dx, _, _, rfl, s2 _ _ h1, T.cl, T.n _ (by simp), lkH, pc, rfl, ⟨_, SqL.of (s2 _ _ h2)⟩, for_list (K := K) (a := pc) (xs := cs.map V.ref)
        (fun j σ H' => ∃ v2 : Option V, σ = [some (.ref a), some (.ref r), some (.ref b), v2] ∧ Same H H' ∧ H' r = some (.lst ((nums ++ (((p.l.length : Nat) : Int) :: Kzq1.written (p.l.take j))).map V.int)))
        ⟨v2, rfl, s2, ?_⟩ (fun j σ H' _ ⟨_, _, s5, _⟩ => SqL.of (s5 _ _ h2)) ?_ ?_⟩
      · rw [upd_same, List.length_map, lc, List.map_append]; rfl
      · rintro j y σ H3 hj ⟨v3, rfl, s3, hr3⟩
        obtain ⟨c, hc, rfl⟩ : ∃ c, cs[j]? = some c ∧ y = V.ref c := by
          rw [List.getElem?_map] at hj
          cases e : cs[j]? with
          | none => rw [e] at hj; cases hj
          | some z => rw [e] at hj; exact ⟨z, rfl, (Option.some.inj hj).symm⟩
        obtain ⟨pt, hpt, hca⟩ := h3.at hc
        refine ⟨_, rfl, .inl ⟨rfl, _, SqL.of hr3⟩, _, rfl, c, pt, rfl, hca.mono s3, fun d nd => ?_⟩
        have s4 := Same.new (o := .lst ((ptN pt).map V.int)) nd
        have wl := written_len (p.l.take j)
        rw [List.length_take] at wl
        refine ⟨r, d, _, _, rfl, rfl, s4 _ _ hr3, upd_same, ?_, ?_⟩
        · rw [List.length_map, List.length_append, List.length_cons, List.length_map, szl]
          show _ + 4 ≤ _
          omega
        · refine ⟨some (.ref c), rfl, step (s3.trans s4), ?_⟩
          rw [upd_same, take_more hpt, written_snoc, ← List.map_append, List.append_assoc]; rfl
      · rintro σ H3 ⟨v3, rfl, s3, hr3⟩
        rw [List.length_map, lc, List.take_length] at hr3
        have wl := written_len p.l
        refine ⟨_, rfl, .inl ⟨rfl, _, SqL.of hr3⟩, _, rfl, b, CP, dx, _, _, rfl, s3 _ _ h1, T.cl, T.n _ (by simp), (lkP (by decide +kernel)).trans lkH, r, _, _, rfl, rfl, hr3, ?_, ?_⟩
        · rw [List.length_map, List.length_append, List.length_cons, szl]; omega
        have s4 := step (o := .lst ((nums ++ (((p.l.length : Nat) : Int) :: Kzq1.written p.l)).map V.int ++ [V.int (hI p.m.h)])) s3
        refine ⟨_, rfl, .inl ⟨rfl, _, SqL.of upd_same⟩, _, rfl, b, CP, dx, _, _, rfl, s4 _ _ h1, T.cl, T.n _ (by simp), (lkP (by decide +kernel)).trans ((lkP (by decide +kernel)).trans lkH), sl, p.m.t, rfl, h4.mono s4, fun d nd => ?_⟩
        have s5 := Same.new (o := .lst ((ptN p.m.t).map V.int)) nd
        refine ⟨r, d, _, _, rfl, rfl, s5 _ _ upd_same, upd_same, ?_, ?_⟩
        · rw [List.length_append, List.length_map, List.length_append, List.length_cons, List.length_map, szl]
          show _ + 1 + 4 ≤ _
          omega
        · refine ⟨some (.ref b), v3, rfl, step (s4.trans s5), ?_⟩
          rw [upd_same, fin]
          simp only [List.map_append, List.map_cons, List.append_assoc, List.cons_append, List.nil_append]
    · rintro σ H1 ⟨v1, v2, rfl, s1, hr1⟩
      rw [List.length_map, la, List.take_length] at hr1
      exact ⟨_, rfl, q H1 r s1 nr hr1⟩
end

end ScA
namespace ScA
open PySem PySem.Spec PyProof.Rows L2
open Sc
section
variable {Pg : Program} {w : World} {K : PySem.W.Frag} {mg : Str → Option Value} {base : Heap} {CF CP CS fP fS : Addr}
def spRr (K : PySem.W.Frag) (CF : Addr) : Sp := fun vs H Q E => ∃ (a : Addr) (ns : List Int), vs = [.ref a] ∧ SqL K H a (ns.map V.int) ∧ (rdQ1 ns = none → E (.ref CF) none H) ∧
  ∀ p, rdQ1 ns = some p → ∀ H' q, Same H H' → H q = none → FrAt H' q p → Q (.ref q) H'
theorem scRr : FnScope ["numbers"] ["numbers"] (defScope s_read_ratio) := ⟨rfl, rfl, rfl, by decide +kernel, rfl, by decide +kernel, by decide +kernel⟩
theorem ok_rr {f fI : Addr} {fd fdI : FuncData} (F : Fun K "read_ratio" "read_ratio" s_read_ratio f fd) (T : ErrTxt K mg CF) (mLen : mg "len" = none) {tPL : Tok} (mPL : mg "RATIO_LENGTH" = some (.int 2 tPL))
    (GI : FnOk Pg w K mg base CX0 2 fI fdI ["top", "bottom"] spIsr) (mI : mg "is_ratio" = some (.ref fI)) (kI : PySem.W.keepIn K (.ref fI) = true) (bI : Binds K fdI ["top", "bottom"] []) :
    FnOk Pg w K mg base (L2.CX Pg w) 3 f fd ["numbers"] (spRr K CF) := by
  refine F.okX scRr (fun vs H Q E h => ?_) (fun cdv A outer s H vs Q E hr h => ⟨_,
    pss_cons (ps_if (PW.pt (pw_or (pt_cmpR op_ne (pe_callB call_len_seq (by rfl) mLen PySem.boot_len (pa_cons (pv 0) pa_nil)) (pe_glob (v := V.int 2) rfl mPL ⟨_, rfl⟩) (nomark _))
        (pw_or1 (pt_not (pt_val (pe_call GI hr rfl mI kI bI .nil pass0 (pa_cons (pe_ix ix_list (pv 0) pe_int (fun _ _ => rfl)) (pa_cons (pe_ix ix_list (pv 0) pe_int (fun _ _ => rfl)) pa_nil))))))))
      (pss_one (ps_raise rfl (takes_of rfl rfl rfl rfl) (pmk_own PySem.F.excBase_ValueError T.x T.g T.k (raises_own T.b T.t) (by exact rfl)))) pss_nil)
    (pss_one (ps_ret (pe_tup (pa_cons (pe_ix ix_list (pv 0) pe_int (fun _ _ => rfl)) (pa_cons (pe_ix ix_list (pv 0) pe_int (fun _ _ => rfl)) pa_nil))))), ?_⟩)
  · obtain ⟨a, ns, rfl, _⟩ := h
    rfl
  · obtain ⟨a, ns, rfl, hS, kE, kQ⟩ := h
    refine ⟨_, rfl, a, _, rfl, .inl hS, rfl, _, rfl, ?_⟩
    by_cases h2 : ns.length = 2
    · match ns, h2 with
      | [x0, x1], _ =>
        refine ifF (by simp) ?_
        have e : rdQ1 [x0, x1] = if isR x0 x1 = true then some ⟨x0, x1.toNat⟩ else none := readQ_isR x0 x1
        refine ⟨_, rfl, a, _, 0, _, rfl, rfl, hS, rfl, _, rfl, a, _, 1, _, rfl, rfl, hS, rfl, x0, x1, rfl, _, rfl, ?_⟩
        by_cases c1 : isR x0 x1 = true
        · rw [if_pos c1] at e
          rw [c1]
          refine ifF rfl ?_
          refine ⟨_, rfl, a, _, 0, _, rfl, rfl, hS, rfl, _, rfl, a, _, 1, _, rfl, rfl, hS, rfl, (by show 2 ≤ sizeLine; decide), fun p1 n1 => ?_⟩
          refine kQ _ e _ p1 (Same.new n1) n1 ?_
          unfold FrAt
          rw [upd_same, (isR_ok c1).2]
        · rw [if_neg c1] at e
          rw [Bool.not_eq_true] at c1
          rw [c1]
          exact ifT rfl (kE e)
    · refine ifT ?_ (ifT rfl (kE ?_))
      · rw [List.length_map]
        have : ¬ (V.int (ns.length : Int) = V.int 2) := fun z => by injection z with z; omega
        rw [decide_eq_false this]; rfl
      · match ns, h2 with
        | [], _ => rfl
        | [_], _ => rfl
        | _ :: _ :: _ :: _, _ => rfl
        | [_, _], h2 => exact absurd rfl h2
end
end ScA
namespace ScA
open PySem PySem.Spec PyProof.Rows L2
open Sc
/-! lists of things in the heap -/
def LsAt {α : Type} (R : Hp → Addr → α → Prop) (H : Hp) : List Addr → List α → Prop
  | [], [] => True
  | a :: as, x :: xs => R H a x ∧ LsAt R H as xs
  | _, _ => False
section
variable {α : Type} {R : Hp → Addr → α → Prop} {H H' : Hp}
theorem LsAt.tu (hR : ∀ a x, R H a x → R H' a x) : ∀ {as : List Addr} {xs : List α}, LsAt R H as xs → LsAt R H' as xs
  | [], [], h => h
  | _ :: _, _ :: _, h => ⟨hR _ _ h.1, LsAt.tu hR h.2⟩
  | [], _ :: _, h => h.elim
  | _ :: _, [], h => h.elim
theorem LsAt.len : ∀ {as : List Addr} {xs : List α}, LsAt R H as xs → as.length = xs.length
  | [], [], _ => rfl
  | _ :: _, _ :: _, h => congrArg (· + 1) (LsAt.len h.2)
  | [], _ :: _, h => h.elim
  | _ :: _, [], h => h.elim
theorem LsAt.snoc {a : Addr} {x : α} (hx : R H a x) : ∀ {as : List Addr} {xs : List α}, LsAt R H as xs → LsAt R H (as ++ [a]) (xs ++ [x])
  | [], [], _ => ⟨hx, trivial⟩
  | _ :: _, _ :: _, h => ⟨h.1, LsAt.snoc hx h.2⟩
  | [], _ :: _, h => h.elim
  | _ :: _, [], h => h.elim
theorem LsAt.append : ∀ {as bs : List Addr} {xs ys : List α}, LsAt R H as xs → LsAt R H bs ys → LsAt R H (as ++ bs) (xs ++ ys)
  | [], _, [], _, _, h => h
  | _ :: _, _, _ :: _, _, h, g => ⟨h.1, LsAt.append h.2 g⟩
  | [], _, _ :: _, _, h, _ => h.elim
  | _ :: _, _, [], _, h, _ => h.elim
theorem LsAt.get : ∀ {as : List Addr} {xs : List α} {i : Nat} {x : α}, LsAt R H as xs → xs[i]? = some x → ∃ a, as[i]? = some a ∧ R H a x
  | a :: _, x :: _, 0, y, h, e => by
    have e : x = y := Option.some.inj e
    subst e
    exact ⟨a, rfl, h.1⟩
  | _ :: _, _ :: _, i + 1, y, h, e => LsAt.get (i := i) (x := y) h.2 e
  | [], [], _, _, _, e => by simp at e
  | [], _ :: _, _, _, h, _ => h.elim
  | _ :: _, [], _, _, h, _ => h.elim
theorem LsAt.at : ∀ {as : List Addr} {xs : List α} {i : Nat} {a : Addr}, LsAt R H as xs → as[i]? = some a → ∃ x, xs[i]? = some x ∧ R H a x
  | a :: _, x :: _, 0, q, h, e => by
    have e : a = q := Option.some.inj e
    subst e
    exact ⟨x, rfl, h.1⟩
  | _ :: _, _ :: _, i + 1, q, h, e => LsAt.at (i := i) (a := q) h.2 e
  | [], [], _, _, _, e => by simp at e
  | [], _ :: _, _, _, h, _ => h.elim
  | _ :: _, [], _, _, h, _ => h.elim
end
end ScA
namespace ScA
open PySem PySem.Spec PyProof.Rows L2
open Sc
theorem cut2 (ns : List Int) (i : Nat) (z z' : Int) (hz : z = ((2 * i : Nat) : Int)) (hz' : z' = ((2 * i + 2 : Nat) : Int)) (h : 2 * i + 2 ≤ ns.length) : cutV (ns.map V.int) (some z) (some z') = ((ns.drop (2 * i)).take 2).map V.int := by
  subst hz hz'
  unfold cutV
  rw [HT.sIx_nat, HT.sIx_nat, List.length_map, Nat.min_eq_left (by omega), Nat.min_eq_left (by omega), show 2 * i + 2 - 2 * i = 2 by omega, List.map_take, List.map_drop]
theorem rgc23 : RgC 0 ((2 * 3 : Nat) : Int) 2 3 := by
  refine ⟨by decide, by decide, by decide +kernel, by decide +kernel⟩
theorem FrAt.tu {H H' : Hp} (t : Tu H H') (a : Addr) (q : Fr) (h : FrAt H a q) : FrAt H' a q := t _ _ h
def nps (qs : List Fr) (i : Nat) : List Bool := (qs.take i).map fun q => decide (q.n ≤ 0)
section
variable {Pg : Program} {w : World} {K : PySem.W.Frag} {mg : Str → Option Value} {base : Heap} {CF CP CS fP fS : Addr}
def spRst (K : PySem.W.Frag) (CF : Addr) : Sp := fun vs H Q E => ∃ (x : Addr) (ns : List Int), vs = [.ref x] ∧ SqL K H x (ns.map V.int) ∧ (∀ z ∈ ns, z.natAbs < 2 ^ 300) ∧ (rdSt ns = none → ∀ H', Same H H' → E (.ref CF) none H') ∧
  ∀ a b c, rdSt ns = some (a, b, c) → ∀ H' q as, Same H H' → H' q = some (.lst (as.map V.ref)) → LsAt FrAt H' as [a, b, c] → Sz 300 a → Sz 300 b → Sz 300 c → Q (.ref q) H'
theorem scRst : FnScope ["numbers", "sizes", "k", "size"] ["numbers"] (defScope s_read_stairs) := ⟨rfl, rfl, rfl, by decide +kernel, rfl, by decide +kernel, by decide +kernel⟩
theorem ok_rst {f fR fL fH : Addr} {fd fdR fdL fdH : FuncData} (F : Fun K "read_stairs" "read_stairs" s_read_stairs f fd) (TE : ErrTxt K mg CF) (mLen : mg "len" = none) (mRange : mg "range" = none) (mAny : mg "any" = none) {tPL : Tok} (mPL : mg "RATIO_LENGTH" = some (.int 2 tPL))
    (GR : FnOk Pg w K mg base (L2.CX Pg w) 3 fR fdR ["numbers"] (spRr K CF)) (mR : mg "read_ratio" = some (.ref fR)) (kR : PySem.W.keepIn K (.ref fR) = true) (bR : Binds K fdR ["numbers"] [])
    (GL : FnOk Pg w K mg base CX0 1 fL fdL ["a", "b"] spLess) (mL : mg "is_less" = some (.ref fL)) (kL : PySem.W.keepIn K (.ref fL) = true) (bL : Binds K fdL ["a", "b"] [])
    (GH : FnOk Pg w K mg base CX0 3 fH fdH ["a"] spHalf) (mH : mg "half" = some (.ref fH)) (kH : PySem.W.keepIn K (.ref fH) = true) (bH : Binds K fdH ["a"] []) :
    FnOk Pg w K mg base (L2.CX Pg w) 4 f fd ["numbers"] (spRst K CF) := by
  refine F.okX scRst (fun vs H Q E h => ?_) (fun cdv A outer s H vs Q E hr h => ⟨_,
    pss_cons (ps_if (pt_cmpR op_ne (pe_callB call_len_seq (by rfl) mLen PySem.boot_len (pa_cons (pv 0) pa_nil)) (pe_op op_mulW pe_int (pe_glob (v := V.int 2) rfl mPL ⟨_, rfl⟩)) (nomark _))
      (pss_one (ps_raise rfl (takes_of rfl rfl rfl rfl) (pmk_own PySem.F.excBase_ValueError TE.x TE.g TE.k (raises_own TE.b TE.t) (by exact rfl)))) pss_nil)
    (pss_cons (ScL.ps_setLcX (i := 1) (own := [("k", 2)]) (g := gName 2) (E := E) rfl scRst.nd rfl rfl (sw_true rfl rfl rfl (by decide +kernel)) rfl rfl (takes_of rfl rfl rfl rfl)
      (pi_range3 rfl mRange (pa_cons pe_int (pa_cons (pe_callB call_len_seq (by rfl) mLen PySem.boot_len (pa_cons (pv 0) pa_nil)) (pa_cons (pe_glob (v := V.int 2) rfl mPL ⟨_, rfl⟩) pa_nil))))
      (blkOk_by (own := [("k", 2)]) (N := ["numbers", "sizes", "k", "size"]) (sc := defScope s_read_stairs) (by decide +kernel))
      (fun _ _ _ _ _ _ => pg_name (i := 2) scRst.nd rfl (Or.inl rfl)) (fun _ _ _ _ _ _ => pts_nil)
      (fun _ _ _ _ _ _ hx => pe_call GR hr rfl mR kR bR .nil hx (pa_cons (pe_slice (r := rSlL K) sl_list (pv 0) (po_some (pv 2)) (po_some (pe_op op_add (pv 2) (pe_glob (v := V.int 2) rfl mPL ⟨_, rfl⟩)))) pa_nil)))
    (pss_cons (ps_if (pt_val (pe_callB (cr_any rfl) (by rfl) mAny (by decide +kernel) (pa_cons (pe_lc (own := [("size", 3)]) (g := gName 3) (tt := tYes) rfl scRst.nd (pi_list (pv 1))
        (blkOk_by (own := [("size", 3)]) (N := ["numbers", "sizes", "k", "size"]) (sc := defScope s_read_stairs) (by decide +kernel))
        (fun _ _ _ _ _ => pg_name (i := 3) scRst.nd rfl (Or.inl rfl))
        (fun _ _ _ _ _ => pts_nil)
        (fun _ _ _ _ _ => pe_cmpR op_le (pe_ix (r := rIxT K) ix_tup (pv 3) pe_int (fun _ _ => rfl)) pe_int (nomark _))) pa_nil)))
      (pss_one (ps_raise rfl (takes_of rfl rfl rfl rfl) (pmk_own PySem.F.excBase_ValueError TE.x TE.g TE.k (raises_own TE.b TE.t) (by exact rfl)))) pss_nil)
    (pss_cons (ps_if (PW.pt (pw_or (pt_not (pt_val (pe_call GL (hr.mono (by decide)) rfl mL kL bL .nil pass0 (pa_cons (pe_ix ix_list (pv 1) pe_int (fun _ _ => rfl)) (pa_cons (pe_ix ix_list (pv 1) pe_int (fun _ _ => rfl)) pa_nil)))))
        (pw_or1 (pt_val (pe_call GL (hr.mono (by decide)) rfl mL kL bL .nil pass0 (pa_cons (pe_ix ix_list (pv 1) pe_int (fun _ _ => rfl)) (pa_cons (pe_call GH hr rfl mH kH bH .nil pass0 (pa_cons (pe_ix ix_list (pv 1) pe_int (fun _ _ => rfl)) pa_nil)) pa_nil)))))))
      (pss_one (ps_raise rfl (takes_of rfl rfl rfl rfl) (pmk_own PySem.F.excBase_ValueError TE.x TE.g TE.k (raises_own TE.b TE.t) (by exact rfl)))) pss_nil)
    (pss_one (ps_ret (pv 1)))))), ?_⟩)
  · obtain ⟨x, ns, rfl, _⟩ := h
    rfl
  · obtain ⟨x, ns, rfl, hS, hz, kE, kQ⟩ := h
    refine ⟨_, rfl, x, _, rfl, .inl hS, _, _, rfl, rfl, (by show CMulW 3 2; unfold CMulW; decide +kernel), rfl, _, rfl, ?_⟩
    by_cases h6 : ns.length = 6
    · refine ifF (by rw [List.length_map, h6]; rfl) ?_
      have h4 : ns.length = 2 * 3 := h6
      refine ⟨_, rfl, x, _, rfl, .inl hS, 0, _, 2, 3, rfl, ?_, ?_⟩
      · rw [List.length_map, h4]
        exact rgc23
      · intro D nD
        refine lc_it walk_rangeC (fun i H' => Same H H' ∧ ∃ as ps, rdQs (ns.take (2 * i)) = some ps ∧ H' D = some (.lst (as.map V.ref)) ∧ LsAt FrAt H' as ps) ?_ (fun _ _ _ _ => trivial) ?_ ?_
        · exact ⟨Same.new nD, [], [], rfl, upd_same, trivial⟩
        · rintro i x' H1 H2 hi ⟨s1, as, ps, hr1, hD1, hP1⟩ ⟨rfl, rfl⟩
          have hSn := s1.seq hS
          refine ⟨rfl, ?_⟩
          unfold tYes
          refine ifT rfl ?_
          refine ⟨_, rfl, _, rfl, _, rfl, _, rfl, _, _, rfl, rfl, _, rfl, _, _, rfl, hSn, fun q nq => ?_⟩
          have ec := cut2 ns i (0 + (i : Int) * 2) (0 + (i : Int) * 2 + 2) (by omega) (by omega) (by omega)
          have s2 := Same.new (o := .lst (cutV (ns.map V.int) (some (0 + (i : Int) * 2)) (some (0 + (i : Int) * 2 + 2)))) nq
          refine ⟨q, (ns.drop (2 * i)).take 2, rfl, ?_, fun hbad => ?_, fun p hp H3 a3 s3 n3 h3 => ?_⟩
          · rw [← ec]; exact SqL.of upd_same
          · exact kE (by unfold rdSt; rw [rq_bad h4 hi hbad]) _ (s1.trans s2)
          · have hD3 := s3 _ _ (s2 _ _ hD1)
            have t3 : Tu H3 (upd H3 D (.lst (as.map V.ref ++ [V.ref a3]))) := Tu.lst hD3
            have l1 := hP1.len
            have l2 := (rq_ok hr1).1
            rw [List.length_take] at l2
            refine ⟨_, hD3, ?_, ?_, as ++ [a3], ps ++ [p], ?_, ?_, ?_⟩
            · rw [List.length_map, szl]; omega
            · intro b o e
              have hb : b ≠ D := ne_of_none e nD
              rw [upd_ne hb]
              exact s3 _ _ (s2 _ _ (s1 _ _ e))
            · rw [rq_more h4 hi, hr1, hp]
            · rw [upd_same, List.map_append]; rfl
            · exact LsAt.snoc (FrAt.tu t3 _ _ h3) (LsAt.tu (FrAt.tu (((Tu.of s2).trans (Tu.of s3)).trans t3)) hP1)
        · rintro H1 ⟨s1, as, ps, hr1, hD1, hP1⟩
          rw [← h4, List.take_length] at hr1
          obtain ⟨lq, okq, szq⟩ := rq_ok hr1
          have szq := szq 300 hz
          have hl : ps.length = 3 := by omega
          match ps, hl with
          | [a, b, c], _ =>
            have la := hP1.len
            match as, la with
            | [xa, xb, xc], _ =>
              have hP := hP1
              obtain ⟨pa, pb, pc, _⟩ := hP1
              have e1 : rdSt ns = if goodSt a b c = true then some (a, b, c) else none := by unfold rdSt; rw [hr1]
              have bad : ∀ H', Same H1 H' → goodSt a b c = false → E (.ref CF) none H' := fun H' s' hb => kE (by rw [e1, hb]; rfl) H' (s1.trans s')
              unfold goodSt at bad e1
              refine ⟨_, rfl, D, rfl, ⟨_, SqL.of hD1⟩, fun D2 nD2 => ?_⟩
              refine lc_list (K := K) (a := D) (xs := [V.ref xa, V.ref xb, V.ref xc]) (fun i H' => Same H1 H' ∧ H' D2 = some (.lst ((nps [a, b, c] i).map V.bl))) ?_ ?_ ?_ ?_
              · exact ⟨Same.new nD2, upd_same⟩
              · rintro i H2 _ ⟨s2, _⟩
                exact SqL.of (s2 _ _ hD1)
              · have step : ∀ (i : Nat) (xq : Addr) (q : Fr) (H2 : Hp), Same H1 H2 → FrAt H1 xq q → H2 D2 = some (.lst ((nps [a, b, c] i).map V.bl)) → i < 3 → nps [a, b, c] (i + 1) = nps [a, b, c] i ++ [decide (q.n ≤ 0)] →
                    ∃ acc, H2 D2 = some (.lst acc) ∧ acc.length < sizeLine ∧ Same H1 (upd H2 D2 (.lst (acc ++ [V.bl (decide (q.n ≤ 0))]))) ∧ (upd H2 D2 (.lst (acc ++ [V.bl (decide (q.n ≤ 0))]))) D2 = some (.lst ((nps [a, b, c] (i + 1)).map V.bl)) := by
                  intro i xq q H2 s2 hq hD2 hi en
                  refine ⟨_, hD2, ?_, ?_, ?_⟩
                  · rw [List.length_map, szl]; unfold nps; rw [List.length_map, List.length_take]; simp; omega
                  · intro b' o e
                    rw [upd_ne (ne_of_none e nD2)]
                    exact s2 _ _ e
                  · rw [upd_same, en, List.map_append]; rfl
                rintro i y H2 hi ⟨s2, hD2⟩
                match i, hi with
                | 0, hi =>
                  obtain rfl : V.ref xa = y := Option.some.inj hi
                  refine ⟨rfl, ?_⟩
                  unfold tYes
                  refine ifT rfl ?_
                  exact ⟨_, rfl, xa, _, 0, _, rfl, rfl, SqT.of (s2 _ _ pa), rfl, _, _, rfl, rfl, step 0 xa a H2 s2 pa hD2 (by omega) rfl⟩
                | 1, hi =>
                  obtain rfl : V.ref xb = y := Option.some.inj hi
                  refine ⟨rfl, ?_⟩
                  unfold tYes
                  refine ifT rfl ?_
                  exact ⟨_, rfl, xb, _, 0, _, rfl, rfl, SqT.of (s2 _ _ pb), rfl, _, _, rfl, rfl, step 1 xb b H2 s2 pb hD2 (by omega) rfl⟩
                | 2, hi =>
                  obtain rfl : V.ref xc = y := Option.some.inj hi
                  refine ⟨rfl, ?_⟩
                  unfold tYes
                  refine ifT rfl ?_
                  exact ⟨_, rfl, xc, _, 0, _, rfl, rfl, SqT.of (s2 _ _ pc), rfl, _, _, rfl, rfl, step 2 xc c H2 s2 pc hD2 (by omega) rfl⟩
                | i + 3, hi => simp at hi
              · rintro H2 ⟨s2, hD2⟩
                refine ⟨D2, _, rfl, SqL.of hD2, _, rfl, ?_⟩
                have ea : (nps [a, b, c] 3).any id = (decide (a.n ≤ 0) || (decide (b.n ≤ 0) || decide (c.n ≤ 0))) := by
                  show (decide (a.n ≤ 0) || (decide (b.n ≤ 0) || (decide (c.n ≤ 0) || false))) = _
                  rw [Bool.or_false]
                have hDD := s2 _ _ hD1
                show if (nps [a, b, c] 3).any id = true then _ else _
                rw [ea]
                cases k1 : (decide (a.n ≤ 0) || (decide (b.n ≤ 0) || decide (c.n ≤ 0))) with
                | true =>
                  rw [k1] at bad
                  exact ifT rfl (bad H2 s2 rfl)
                | false =>
                  rw [k1] at bad e1
                  refine ifF rfl ?_
                  refine ⟨_, rfl, D, _, 2, _, rfl, rfl, SqL.of hDD, rfl, _, rfl, D, _, 0, _, rfl, rfl, SqL.of hDD, rfl, xc, xa, c, a, 300, 300, rfl, s2 _ _ pc, s2 _ _ pa, szq c (by simp), szq a (by simp), by omega, _, rfl, ?_⟩
                  cases k2 : Kzq1.lt c a with
                  | false =>
                    rw [k2] at bad
                    exact ifT rfl (ifT rfl (bad H2 s2 rfl))
                  | true =>
                    rw [k2] at bad e1
                    refine ifF rfl ?_
                    refine ⟨_, rfl, D, _, 2, _, rfl, rfl, SqL.of hDD, rfl, _, rfl, D, _, 0, _, rfl, rfl, SqL.of hDD, rfl, xa, a, 300, rfl, s2 _ _ pa, okq a (by simp), szq a (by simp), by omega, fun H3 p3 s3 n3 f3 => ?_⟩
                    have sh : Sz 302 (Kzq1.mul Kzq1.half a) := (mul_sz half_ok (okq a (by simp)) half_sz (szq a (by simp))).mono (by omega)
                    refine ⟨xc, p3, c, _, 300, 302, rfl, s3 _ _ (s2 _ _ pc), f3, szq c (by simp), sh, by omega, _, rfl, ?_⟩
                    cases k3 : Kzq1.lt c (Kzq1.mul Kzq1.half a) with
                    | true =>
                      rw [k3] at bad
                      exact ifT rfl (bad H3 (s2.trans s3) rfl)
                    | false =>
                      rw [k3] at e1
                      refine ifF rfl ?_
                      exact ⟨_, rfl, kQ a b c e1 H3 D [xa, xb, xc] ((s1.trans s2).trans s3) (s3 _ _ hDD) (LsAt.tu (FrAt.tu (Tu.of (s2.trans s3))) hP) (szq a (by simp)) (szq b (by simp)) (szq c (by simp))⟩
    · refine ifT ?_ (kE ?_ H (Same.refl H))
      · rw [List.length_map]
        have : ¬ (V.int (ns.length : Int) = V.int (3 * 2)) := fun z => by injection z with z; omega
        rw [decide_eq_false this]; rfl
      · unfold rdSt
        cases hr' : rdQs ns with
        | none => rfl
        | some ps =>
          have l := (rq_ok hr').1
          match ps, l with
          | [], _ => rfl
          | [_], _ => rfl
          | [_, _], _ => rfl
          | _ :: _ :: _ :: _ :: _, _ => rfl
          | [_, _, _], l => exact absurd (by simpa using l) h6
end
end ScA
namespace ScA
open PySem PySem.Spec PyProof.Rows L2
open Sc
section
variable {Pg : Program} {w : World} {K : PySem.W.Frag} {mg : Str → Option Value} {base : Heap} {CF CP CS fP fS : Addr}
def spStp (CP : Addr) : Sp := fun vs H Q _ => ∃ (xa xb xc : Addr) (a b c : Fr), vs = [.ref xa, .ref xb, .ref xc] ∧ (FrAt H xa a ∧ FrAt H xb b ∧ FrAt H xc c) ∧ (Ok a ∧ Ok b ∧ Ok c ∧ c.n ≠ 0) ∧ (Sz 300 a ∧ Sz 300 b ∧ Sz 300 c) ∧
  ∀ H' q as, Same H H' → H q = none → H' q = some (.lst (as.map V.ref)) → PartsAt CP H' as (stParts a b c) → Q (.ref q) H'
theorem scStp : FnScope ["a", "b", "c", "zero", "rest", "step", "first", "second", "third"] ["a", "b", "c"] (defScope s_stairs_parts) := ⟨rfl, rfl, rfl, by decide +kernel, rfl, by decide +kernel, by decide +kernel⟩
theorem pt_mk {H : Hp} {g x y : Addr} {a b : Fr} (h : H g = some (.tup [.ref x, .ref y])) (hx : FrAt H x a) (hy : FrAt H y b) : PtAt H g ⟨a, b⟩ := ⟨x, y, h, hx, hy⟩
theorem ok_stp {f fM fV fT fC fO : Addr} {fd fdM fdV fdT fdC fdO fdI : FuncData} (F : Fun K "stairs_parts" "stairs_parts" s_stairs_parts f fd) (TP : ClsTxt K mg "Part" CP fP ["piece", "turned", "slid"])
    (GM : FnOk Pg w K mg base CX0 3 fM fdM ["a", "b"] spMinus) (mM : mg "minus" = some (.ref fM)) (kM : PySem.W.keepIn K (.ref fM) = true) (bM : Binds K fdM ["a", "b"] [])
    (GV : FnOk Pg w K mg base CX0 3 fV fdV ["a", "b"] spOver) (mV : mg "over" = some (.ref fV)) (kV : PySem.W.keepIn K (.ref fV) = true) (bV : Binds K fdV ["a", "b"] [])
    (GT : FnOk Pg w K mg base CX0 3 fT fdT ["a", "b"] spTimes) (mT : mg "times" = some (.ref fT)) (kT : PySem.W.keepIn K (.ref fT) = true) (bT : Binds K fdT ["a", "b"] [])
    (GC : FnOk Pg w K mg base CX0 3 fC fdC ["corners"] spPc) (mC : mg "piece_of" = some (.ref fC)) (kC : PySem.W.keepIn K (.ref fC) = true) (bC : Binds K fdC ["corners"] [])
    (GO : FnOk Pg w K mg base CX0 1 fO fdO [] spOr) (mO : mg "origin" = some (.ref fO)) (kO : PySem.W.keepIn K (.ref fO) = true) (bO : Binds K fdO [] [])
    (GI : FnOk Pg w K mg base CX0 1 fP fdI ["self", "piece", "turned", "slid"] (spPtI CP)) (bI : Binds K fdI ["self", "piece", "turned", "slid"] []) :
    FnOk Pg w K mg base CX0 4 f fd ["a", "b", "c"] (spStp CP) := by
  refine F.ok scStp (fun vs H Q E h => ?_) (fun cdv A outer s H vs Q E hr h => ⟨_,
    pss_cons (ps_set (i := 3) scStp.nd rfl (Or.inl rfl) (pe_tup (pa_cons pe_int (pa_cons pe_int pa_nil))))
    (pss_cons (ps_set (i := 4) scStp.nd rfl (Or.inl rfl) (pe_call GM hr rfl mM kM bM .nil pass0 (pa_cons (pv 0) (pa_cons (pv 2) pa_nil))))
    (pss_cons (ps_set (i := 5) scStp.nd rfl (Or.inl rfl) (pe_call GV hr rfl mV kV bV .nil pass0 (pa_cons (pe_call GT hr rfl mT kT bT .nil pass0 (pa_cons (pv 1) (pa_cons (pv 4) pa_nil))) (pa_cons (pv 2) pa_nil))))
    (pss_cons (ps_set (i := 6) scStp.nd rfl (Or.inl rfl) (pe_call GC hr rfl mC kC bC .nil pass0 (pa_cons (pe_lst (pa_cons (pe_tup (pa_cons (pv 3) (pa_cons (pv 3) pa_nil))) (pa_cons (pe_tup (pa_cons (pv 2) (pa_cons (pv 3) pa_nil))) (pa_cons (pe_tup (pa_cons (pv 2) (pa_cons (pv 5) pa_nil))) (pa_cons (pe_tup (pa_cons (pv 4) (pa_cons (pv 1) pa_nil))) (pa_cons (pe_tup (pa_cons (pv 3) (pa_cons (pv 1) pa_nil))) pa_nil)))))) pa_nil)))
    (pss_cons (ps_set (i := 7) scStp.nd rfl (Or.inl rfl) (pe_call GC hr rfl mC kC bC .nil pass0 (pa_cons (pe_lst (pa_cons (pe_tup (pa_cons (pv 2) (pa_cons (pv 3) pa_nil))) (pa_cons (pe_tup (pa_cons (pv 0) (pa_cons (pv 3) pa_nil))) (pa_cons (pe_tup (pa_cons (pv 2) (pa_cons (pv 5) pa_nil))) pa_nil)))) pa_nil)))
    (pss_cons (ps_set (i := 8) scStp.nd rfl (Or.inl rfl) (pe_call GC hr rfl mC kC bC .nil pass0 (pa_cons (pe_lst (pa_cons (pe_tup (pa_cons (pv 4) (pa_cons (pv 1) pa_nil))) (pa_cons (pe_tup (pa_cons (pv 0) (pa_cons (pv 3) pa_nil))) (pa_cons (pe_tup (pa_cons (pv 0) (pa_cons (pv 1) pa_nil))) pa_nil)))) pa_nil)))
    (pss_one (ps_ret (pe_lst (pa_cons (pe_make TP.m GI (hr.mono (by decide)) rfl TP.g bI .nil pass0 (pa_cons (pv 6) (pa_cons pe_int (pa_cons (pe_call0 GO (hr.mono (by decide)) rfl mO kO bO .nil pass0) pa_nil))))
      (pa_cons (pe_make TP.m GI (hr.mono (by decide)) rfl TP.g bI .nil pass0 (pa_cons (pv 7) (pa_cons pe_int (pa_cons (pe_tup (pa_cons (pe_call GM hr rfl mM kM bM .nil pass0 (pa_cons (pv 3) (pa_cons (pv 2) pa_nil))) (pa_cons (pv 1) pa_nil))) pa_nil))))
      (pa_cons (pe_make TP.m GI (hr.mono (by decide)) rfl TP.g bI .nil pass0 (pa_cons (pv 8) (pa_cons pe_int (pa_cons (pe_tup (pa_cons (pe_call GM hr rfl mM kM bM .nil pass0 (pa_cons (pv 3) (pa_cons (pv 4) pa_nil))) (pa_cons (pv 5) pa_nil))) pa_nil)))) pa_nil))))))))))), ?_⟩)
  · obtain ⟨xa, xb, xc, a, b, c, rfl, _⟩ := h
    rfl
  · obtain ⟨xa, xb, xc, a, b, c, rfl, ⟨ha, hb, hc⟩, ⟨oa, ob, oc, c0⟩, ⟨za, zb, zc⟩, q⟩ := h
    have two : 2 ≤ sizeLine := by decide
    have three : 3 ≤ sizeLine := by decide
    have five : 5 ≤ sizeLine := by decide
    have orr : Ok (stRest a c) := sub_ok oa oc
    have zr : Sz 601 (stRest a c) := sub_sz oa oc za zc
    have om : Ok (Kzq1.mul b (stRest a c)) := mul_ok ob orr
    have zm : Sz 901 (Kzq1.mul b (stRest a c)) := mul_sz ob orr zb zr
    have zs : Sz 1201 (stStep a b c) := div_sz om oc c0 zm zc
    have zz : Sz 2 Kzq1.zero := ⟨by decide, by decide⟩
    refine ⟨two, fun pz nz => ?_⟩
    have s1 := Same.new (o := .tup [.int 0, .int 1]) nz
    have fz : FrAt (upd H pz (.tup [.int 0, .int 1])) pz Kzq1.zero := upd_same
    refine ⟨_, rfl, _, rfl, xa, xc, a, c, 300, 300, rfl, ha.mono s1, hc.mono s1, oa, oc, za, zc, by omega, fun H2 pr s2 n2 fr => ?_⟩
    have fr : FrAt H2 pr (stRest a c) := fr
    have u2 := s1.trans s2
    refine ⟨_, rfl, _, rfl, xb, pr, b, stRest a c, 300, 601, rfl, hb.mono u2, fr, ob, orr, zb, zr, by omega, fun H3 pm s3 n3 fm => ?_⟩
    have u3 := u2.trans s3
    refine ⟨_, rfl, pm, xc, _, c, 901, 300, rfl, fm, hc.mono u3, om, oc, zm, zc, by omega, c0, fun H4 ps s4 n4 fs => ?_⟩
    have fs : FrAt H4 ps (stStep a b c) := fs
    have u4 := u3.trans s4
    -- first
    refine ⟨_, rfl, _, rfl, two, fun g1 m1 => ⟨_, rfl, _, rfl, two, fun g2 m2 => ⟨_, rfl, _, rfl, two, fun g3 m3 => ⟨_, rfl, _, rfl, two, fun g4 m4 => ⟨_, rfl, _, rfl, two, fun g5 m5 => ⟨five, fun g6 m6 => ?_⟩⟩⟩⟩⟩⟩
    have t1 := Same.new (o := .tup [.ref pz, .ref pz]) m1
    have t2 := Same.new (o := .tup [.ref xc, .ref pz]) m2
    have t3 := Same.new (o := .tup [.ref xc, .ref ps]) m3
    have t4 := Same.new (o := .tup [.ref pr, .ref xb]) m4
    have t5 := Same.new (o := .tup [.ref pz, .ref xb]) m5
    have t6 := Same.new (o := .lst [V.ref g1, V.ref g2, V.ref g3, V.ref g4, V.ref g5]) m6
    have v5 := t5.trans t6
    have v4 := t4.trans v5
    have v3 := t3.trans v4
    have v2 := t2.trans v3
    have v1 := t1.trans v2
    have w0 := u4.trans v1
    have fz6 := fz.mono ((s2.trans (s3.trans s4)).trans v1)
    have fr6 := fr.mono ((s3.trans s4).trans v1)
    have fs6 := fs.mono v1
    refine ⟨g6, [g1, g2, g3, g4, g5], st1 a b c, 1300, rfl, upd_same, ⟨pt_mk (v2 _ _ upd_same) fz6 fz6, pt_mk (v3 _ _ upd_same) (hc.mono w0) fz6, pt_mk (v4 _ _ upd_same) (hc.mono w0) fs6, pt_mk (v5 _ _ upd_same) fr6 (hb.mono w0), pt_mk (t6 _ _ upd_same) fz6 (hb.mono w0), trivial⟩, ?_, by omega, by simp [st1], fun H5 q1 as1 s5 n5 h5 P5 => ?_⟩
    · intro p hp
      unfold st1 at hp
      simp only [List.mem_cons, List.not_mem_nil, or_false] at hp
      rcases hp with rfl | rfl | rfl | rfl | rfl
      · exact ⟨zz.mono (by omega), zz.mono (by omega)⟩
      · exact ⟨zc.mono (by omega), zz.mono (by omega)⟩
      · exact ⟨zc.mono (by omega), zs.mono (by omega)⟩
      · exact ⟨zr.mono (by omega), zb.mono (by omega)⟩
      · exact ⟨zz.mono (by omega), zb.mono (by omega)⟩
    have w5 := w0.trans s5
    have fz7 := fz6.mono s5
    have fr7 := fr6.mono s5
    have fs7 := fs6.mono s5
    -- second
    refine ⟨_, rfl, _, rfl, two, fun g1 m1 => ⟨_, rfl, _, rfl, two, fun g2 m2 => ⟨_, rfl, _, rfl, two, fun g3 m3 => ⟨three, fun g4 m4 => ?_⟩⟩⟩⟩
    have t1 := Same.new (o := .tup [.ref xc, .ref pz]) m1
    have t2 := Same.new (o := .tup [.ref xa, .ref pz]) m2
    have t3 := Same.new (o := .tup [.ref xc, .ref ps]) m3
    have t4 := Same.new (o := .lst [V.ref g1, V.ref g2, V.ref g3]) m4
    have v3 := t3.trans t4
    have v2 := t2.trans v3
    have v1 := t1.trans v2
    have w6 := w5.trans v1
    refine ⟨g4, [g1, g2, g3], st2 a b c, 1300, rfl, upd_same, ⟨pt_mk (v2 _ _ upd_same) (hc.mono w6) (fz7.mono v1), pt_mk (v3 _ _ upd_same) (ha.mono w6) (fz7.mono v1), pt_mk (t4 _ _ upd_same) (hc.mono w6) (fs7.mono v1), trivial⟩, ?_, by omega, by simp [st2], fun H6 q2 as2 s6 n6 h6 P6 => ?_⟩
    · intro p hp
      unfold st2 at hp
      simp only [List.mem_cons, List.not_mem_nil, or_false] at hp
      rcases hp with rfl | rfl | rfl
      · exact ⟨zc.mono (by omega), zz.mono (by omega)⟩
      · exact ⟨za.mono (by omega), zz.mono (by omega)⟩
      · exact ⟨zc.mono (by omega), zs.mono (by omega)⟩
    have w7 := w6.trans s6
    have x6 := v1.trans s6
    have fz8 := fz7.mono x6
    have fr8 := fr7.mono x6
    have fs8 := fs7.mono x6
    -- third
    refine ⟨_, rfl, _, rfl, two, fun g1 m1 => ⟨_, rfl, _, rfl, two, fun g2 m2 => ⟨_, rfl, _, rfl, two, fun g3 m3 => ⟨three, fun g4 m4 => ?_⟩⟩⟩⟩
    have t1 := Same.new (o := .tup [.ref pr, .ref xb]) m1
    have t2 := Same.new (o := .tup [.ref xa, .ref pz]) m2
    have t3 := Same.new (o := .tup [.ref xa, .ref xb]) m3
    have t4 := Same.new (o := .lst [V.ref g1, V.ref g2, V.ref g3]) m4
    have v3 := t3.trans t4
    have v2 := t2.trans v3
    have v1 := t1.trans v2
    have w8 := w7.trans v1
    refine ⟨g4, [g1, g2, g3], st3 a b c, 1300, rfl, upd_same, ⟨pt_mk (v2 _ _ upd_same) (fr8.mono v1) (hb.mono w8), pt_mk (v3 _ _ upd_same) (ha.mono w8) (fz8.mono v1), pt_mk (t4 _ _ upd_same) (ha.mono w8) (hb.mono w8), trivial⟩, ?_, by omega, by simp [st3], fun H7 q3 as3 s7 n7 h7 P7 => ?_⟩
    · intro p hp
      unfold st3 at hp
      simp only [List.mem_cons, List.not_mem_nil, or_false] at hp
      rcases hp with rfl | rfl | rfl
      · exact ⟨zr.mono (by omega), zb.mono (by omega)⟩
      · exact ⟨za.mono (by omega), zz.mono (by omega)⟩
      · exact ⟨za.mono (by omega), zb.mono (by omega)⟩
    have w9 := w8.trans s7
    have x7 := v1.trans s7
    have fz9 := fz8.mono x7
    have fr9 := fr8.mono x7
    have fs9 := fs8.mono x7
    -- the parts
    refine ⟨_, rfl, rfl, fun H8 og s8 n8 p8 y1 d1 nx1 nd1 ne1 => ?_⟩
    refine ⟨y1, d1, _, _, _, rfl, upd_same, fun H9 h9 k9 => ⟨rfl, ?_⟩⟩
    have s9 : Same H8 H9 := Same.made nx1 nd1 k9
    have w10 := (w9.trans s8).trans s9
    have x8 := s8.trans s9
    refine ⟨_, rfl, _, rfl, _, rfl, pz, xc, Kzq1.zero, c, 2, 300, rfl, fz9.mono x8, hc.mono w10, zero_ok, oc, zz, zc, by omega, fun H10 pn s10 n10 fn => ?_⟩
    refine ⟨_, rfl, two, fun gs ms => ?_⟩
    have t10 := Same.new (o := .tup [.ref pn, .ref xb]) ms
    intro y2 d2 nx2 nd2 ne2
    refine ⟨y2, d2, _, _, _, rfl, upd_same, fun H11 h11 k11 => ⟨rfl, ?_⟩⟩
    have s11 : Same _ H11 := Same.made nx2 nd2 k11
    have x9 := (s10.trans t10).trans s11
    have w11 := w10.trans x9
    refine ⟨_, rfl, _, rfl, _, rfl, pz, pr, Kzq1.zero, _, 2, 601, rfl, (fz9.mono x8).mono x9, (fr9.mono x8).mono x9, zero_ok, orr, zz, zr, by omega, fun H12 pn2 s12 n12 fn2 => ?_⟩
    refine ⟨_, rfl, two, fun gs2 ms2 => ?_⟩
    have t12 := Same.new (o := .tup [.ref pn2, .ref ps]) ms2
    intro y3 d3 nx3 nd3 ne3
    refine ⟨y3, d3, _, _, _, rfl, upd_same, fun H13 h13 k13 => ⟨rfl, ?_⟩⟩
    have s13 : Same _ H13 := Same.made nx3 nd3 k13
    refine ⟨three, fun ge me => ?_⟩
    have s14 := Same.new (o := .lst [V.ref y1, V.ref y2, V.ref y3]) me
    have x10 := (s12.trans t12).trans s13
    have w12 := w11.trans x10
    have e3 := s14
    have e2 := x10.trans s14
    have e1 := x9.trans e2
    have e0 := x8.trans e1
    refine q _ ge [y1, y2, y3] (w12.trans s14) (w12.free me) upd_same ⟨⟨d1, q1, og, as1, e1 _ _ h9, ?_, ?_, p8.mono (s9.trans e1)⟩, ⟨d2, q2, gs, as2, e2 _ _ h11, ?_, ?_, ?_⟩, ⟨d3, q3, gs2, as3, e3 _ _ h13, ?_, ?_, ?_⟩, trivial⟩
    · exact (x6.trans (x7.trans e0)) _ _ h5
    · exact PtsAt.tu (Tu.of (x6.trans (x7.trans e0))) P5
    · exact (x7.trans e0) _ _ h6
    · exact PtsAt.tu (Tu.of (x7.trans e0)) P6
    · exact pt_mk ((s11.trans e2) _ _ upd_same) (fn.mono (t10.trans (s11.trans e2))) (hb.mono (w12.trans s14))
    · exact e0 _ _ h7
    · exact PtsAt.tu (Tu.of e0) P7
    · exact pt_mk ((s13.trans s14) _ _ upd_same) (fn2.mono (t12.trans (s13.trans s14))) (fs9.mono e0)
end
end ScA
namespace ScA
open PySem PySem.Spec PyProof.Rows L2
open Sc
section
variable {Pg : Program} {w : World} {K : PySem.W.Frag} {mg : Str → Option Value} {base : Heap} {CF CP CS fP fS : Addr}
def spCa (C : Addr) : Sp := fun vs H Q _ => ∃ (a : Addr) (as : List Addr) (ps : List Kzq2.Part), vs = [.ref a] ∧ H a = some (.lst (as.map V.ref)) ∧ PartsAt C H as ps ∧ ps.length ≤ 1000 ∧ (∀ p ∈ ps, p.l.length ≤ 1000) ∧
  ∀ H' q, Same H H' → H q = none → H' q = some (.lst ((((ps.length : Nat) : Int) :: Kzq2.writtenCut ps).map V.int)) → Q (.ref q) H'
theorem scCa : FnScope ["parts"] ["parts"] (defScope s_cutting_answer) := ⟨rfl, rfl, rfl, by decide +kernel, rfl, by decide +kernel, by decide +kernel⟩
theorem ok_ca {f fC : Addr} {fd fdC : FuncData} (F : Fun K "cutting_answer" "cutting_answer" s_cutting_answer f fd) (mLen : mg "len" = none)
    (GC : FnOk Pg w K mg base CX0 2 fC fdC ["parts"] (spCn CP)) (mC : mg "cutting_numbers" = some (.ref fC)) (kC : PySem.W.keepIn K (.ref fC) = true) (bC : Binds K fdC ["parts"] []) :
    FnOk Pg w K mg base CX0 3 f fd ["parts"] (spCa CP) := by
  refine F.ok scCa (fun vs H Q E h => ?_) (fun cdv A outer s H vs Q E hr h => ⟨_,
    pss_one (ps_ret (pe_op op_cat (pe_lst (pa_cons (pe_callB call_len_seq (by rfl) mLen PySem.boot_len (pa_cons (pv 0) pa_nil)) pa_nil)) (pe_call GC hr rfl mC kC bC .nil pass0 (pa_cons (pv 0) pa_nil)))), ?_⟩)
  · obtain ⟨a, as, ps, rfl, _⟩ := h
    rfl
  · obtain ⟨a, as, ps, rfl, ha, hP, hl, hpl, q⟩ := h
    have la := hP.len
    refine ⟨_, rfl, a, _, rfl, .inl (SqL.of ha), (by show 1 ≤ sizeLine; decide), fun g3 n3 => ?_⟩
    have s3 := Same.new (o := .lst [V.int ((as.map V.ref).length : Int)]) n3
    refine ⟨_, rfl, a, as, ps, rfl, s3 _ _ ha, PartsAt.mono s3 hP, hl, hpl, fun H4 g4 s4 n4 h4 => ?_⟩
    refine ⟨g3, g4, _, _, rfl, rfl, s4 _ _ upd_same, h4, ?_, fun g5 n5 => ?_⟩
    · rw [List.length_map, szl]
      have z := cut_len ps (n := 1000) hpl
      have z2 : (Kzq2.writtenCut ps).length ≤ 1000 * 4006 := Nat.le_trans z (Nat.mul_le_mul hl (by omega))
      simp only [List.length_cons, List.length_nil, List.length_map]
      omega
    · have s5 := Same.new (o := .lst ([V.int ((as.map V.ref).length : Int)] ++ (Kzq2.writtenCut ps).map V.int)) n5
      refine q _ g5 ((s3.trans s4).trans s5) ((s3.trans s4).free n5) ?_
      rw [upd_same, List.length_map, la]
      rfl
end
end ScA
namespace ScA
open PySem PySem.Spec PyProof.Rows L2
open Sc
section
variable {Pg : Program} {w : World} {K : PySem.W.Frag} {mg : Str → Option Value} {base : Heap} {CF CP CS fP fS : Addr}
theorem begun_len (l : List Pt) : (Kzq1.begunWith l).length = l.length := by
  rw [begun_fst, List.length_append, List.length_drop, List.length_take]; omega
theorem piece_len (l : List Pt) : (pieceOf l).length ≤ l.length := by
  unfold pieceOf
  rw [begun_len, ← unl_all]
  exact unl_len l _
def spSt (K : PySem.W.Frag) : Sp := fun vs H Q _ => ∃ (x : Addr) (ns : List Int), vs = [.ref x] ∧ SqL K H x (ns.map V.int) ∧ (∀ z ∈ ns, z.natAbs < 2 ^ 256) ∧
  ∀ (H' : Hp) (p : Addr), H' p = some (.lst ((PyKzq2.stairs ns).map V.int)) → Q (.ref p) H'
theorem scSt : FnScope ["q", "sizes"] ["q"] (defScope s_stairs) := ⟨rfl, rfl, rfl, by decide +kernel, rfl, by decide +kernel, by decide +kernel⟩
theorem ok_st {f fR fH fC : Addr} {fd fdR fdH fdC : FuncData} (F : Fun K "stairs" "stairs" s_stairs f fd) (TE : ErrTxt K mg CF)
    (GR : FnOk Pg w K mg base (L2.CX Pg w) 4 fR fdR ["numbers"] (spRst K CF)) (mR : mg "read_stairs" = some (.ref fR)) (kR : PySem.W.keepIn K (.ref fR) = true) (bR : Binds K fdR ["numbers"] [])
    (GH : FnOk Pg w K mg base CX0 4 fH fdH ["a", "b", "c"] (spStp CP)) (mH : mg "stairs_parts" = some (.ref fH)) (kH : PySem.W.keepIn K (.ref fH) = true) (bH : Binds K fdH ["a", "b", "c"] [])
    (GC : FnOk Pg w K mg base CX0 3 fC fdC ["parts"] (spCa CP)) (mC : mg "cutting_answer" = some (.ref fC)) (kC : PySem.W.keepIn K (.ref fC) = true) (bC : Binds K fdC ["parts"] []) :
    FnOk Pg w K mg base CX0 8 f fd ["q"] (spSt K) := by
  refine F.ok scSt (fun vs H Q E h => ?_) (fun cdv A outer s H vs Q E hr h => ⟨_,
    pss_cons (ps_try_only (tb := fun W => tAsg (tCallS (spRst K CF) (WE W) (tCons (tVar 0) tNil)) (gName 1)) (Wout := fun _ _ _ _ => False) rfl rfl ⟨rfl, by decide, Or.inl TE.g⟩ takes0
      (fun W pn xe tk _ => pss_one (ps_set (i := 1) scSt.nd rfl (Or.inl rfl) (by exact (pe_callS GR (hr.mono (by decide)) rfl mR kR bR (fun σ => passAt tk σ) (by exact (pa_cons (pv 0) pa_nil))))))
      (fun _ _ _ _ _ _ _ => pss_one (ps_ret (pe_lst (pa_cons (pe_un un_neg pe_int) pa_nil)))))
    (pss_one (ps_ret (pe_call GC (hr.mono (by decide)) rfl mC kC bC .nil pass0 (pa_cons (pe_call GH (hr.mono (by decide)) rfl mH kH bH .nil pass0 (pa_cons (pe_ix ix_list (pv 1) pe_int (fun _ _ => rfl)) (pa_cons (pe_ix ix_list (pv 1) pe_int (fun _ _ => rfl)) (pa_cons (pe_ix ix_list (pv 1) pe_int (fun _ _ => rfl)) pa_nil)))) pa_nil)))), ?_⟩)
  · obtain ⟨x, ns, rfl, _⟩ := h
    rfl
  · obtain ⟨x, ns, rfl, hS, hz, k⟩ := h
    have e0 := stairs_eq ns
    refine ⟨_, rfl, x, ns, rfl, hS, fun z hz' => Nat.lt_of_lt_of_le (hz z hz') (Nat.pow_le_pow_right (by omega) (by omega)), fun hn H' s1 => ?_, fun a b c he H1 t as s1 h1 P1 za zb zc => ?_⟩
    · refine ⟨true, TE.e, fun _ a0 _ => ?_, fun z => Bool.noConfusion z⟩
      rw [hn] at e0
      refine ⟨_, rfl, (by show 1 ≤ sizeLine; decide), fun p np => ?_⟩
      refine k _ p ?_
      rw [e0]; exact upd_same
    · have l3 : as.length = 3 := P1.len
      have st : Stair a b c := by
        unfold rdSt at he
        split at he
        · rename_i a' b' c' hh
          have ok := (rq_ok hh).2.1
          split at he
          · rename_i g
            cases he
            exact (good_stair (ok a (by simp)) (ok b (by simp)) (ok c (by simp))).mp g
          · cases he
        · cases he
      rw [he] at e0
      match as, l3 with
      | [xa, xb, xc], _ =>
        obtain ⟨pa, pb, pc, _⟩ := P1
        have c0 : c.n ≠ 0 := fun e => by
          have := (n_zero_iff st.oc).mp e
          have := st.pc
          grind
        refine ⟨_, rfl, t, _, 0, _, rfl, rfl, SqL.of h1, rfl, _, rfl, t, _, 1, _, rfl, rfl, SqL.of h1, rfl, _, rfl, t, _, 2, _, rfl, rfl, SqL.of h1, rfl, ?_⟩
        refine ⟨xa, xb, xc, a, b, c, rfl, ⟨pa, pb, pc⟩, ⟨st.oa, st.ob, st.oc, c0⟩, ⟨za, zb, zc⟩, fun H2 g gs s2 n2 h2 P2 => ?_⟩
        refine ⟨g, gs, stParts a b c, rfl, h2, P2, (by show 3 ≤ 1000; decide), fun p hp => ?_, fun H3 g3 s3 n3 h3 => k H3 g3 ?_⟩
        · unfold stParts at hp
          simp only [List.mem_cons, List.not_mem_nil, or_false] at hp
          rcases hp with rfl | rfl | rfl
          · exact Nat.le_trans (piece_len _) (by simp [st1])
          · exact Nat.le_trans (piece_len _) (by simp [st2])
          · exact Nat.le_trans (piece_len _) (by simp [st3])
        · rw [h3, e0]; rfl
end
end ScA
namespace ScA
open PySem PySem.Spec PyProof.Rows L2
open Sc
open PySem.W (Codec)
/-- what the codec says of the numbers that are handed in -/
theorem int_bd {l : List Int} {n m : Nat} {b : Bool} (h : ((Codec.inLen n m l && l.all (Codec.inInt (Int.negSucc 115792089237316195423570985008687907853269984665640564039457584007913129639934) (Int.ofNat 115792089237316195423570985008687907853269984665640564039457584007913129639935))) && b) = true) : ∀ z ∈ l, z.natAbs < 2 ^ 256 := by
  intro z hz
  rw [Bool.and_eq_true, Bool.and_eq_true] at h
  have k := List.all_eq_true.mp h.1.2 z hz
  unfold Codec.inInt at k
  rw [Bool.and_eq_true, decide_eq_true_eq, decide_eq_true_eq] at k
  have e : (2 : Nat) ^ 256 = 115792089237316195423570985008687907853269984665640564039457584007913129639936 := by decide +kernel
  have k1 : -(115792089237316195423570985008687907853269984665640564039457584007913129639935 : Int) ≤ z := k.1
  have k2 : z ≤ (115792089237316195423570985008687907853269984665640564039457584007913129639935 : Int) := k.2
  rw [e]
  omega
theorem bd_snd {a b : Bool} (h : (a && b) = true) : b = true := (Bool.and_eq_true _ _ ▸ h).2
/-! the end -/
theorem exm_own {K : PySem.W.Frag} {T S : Addr} {b : Bool} (h1 : PySem.W.subIn K (.ref S) (.type "BaseException") = some true) (h2 : PySem.W.isClsIn K S = true) (h3 : PySem.W.typeIn K (.ref S) = some (.type "type"))
    (h4 : PySem.W.subIn K (.ref T) (.ref S) = some b) : PySem.W.exmOne K (.ref T) (.ref S) = some b := by
  have u1 : (PySem.W.subIn K (.ref S) (.type "BaseException") == some true) = true := by rw [h1] <;> rfl
  have u2 : ((PySem.W.clsIn K S).isSome && PySem.W.typeIn K (.ref S) == some (.type "type")) = true := by
    have h2x : (PySem.W.clsIn K S).isSome = true := h2
    rw [h2x, h3] <;> rfl
  show (if (PySem.W.subIn K (.ref S) (.type "BaseException") == some true) = true then (if ((PySem.W.clsIn K S).isSome && PySem.W.typeIn K (.ref S) == some (.type "type")) = true then PySem.W.subIn K (.ref T) (.ref S) else none)
    else none) = some b
  rw [if_pos u1, if_pos u2]; exact h4
theorem all_mk {Pg : Program} {w : World} {K : PySem.W.Frag} {h : Heap} {mg : Str → Option Value} {fa f_cm f_isr f_rr f_rat f_minus f_times f_over f_half f_less f_pn f_or f_bef f_cn f_pc f_rst f_stp f_st f_ca C_ptI f_ptI C_err : Addr} (X : K.In h) (G : h.Ns mainGlobals mg) (hfa : mg "stairs" = some (.ref fa))
    {od_cm an_cm od_isr an_isr od_rr an_rr od_rat an_rat od_minus an_minus od_times an_times od_over an_over od_half an_half od_less an_less od_pn an_pn od_or an_or od_bef an_bef od_cn an_cn od_pc an_pc od_rst an_rst od_stp an_stp od_st an_st od_ca an_ca od_ptI an_ptI : Option Addr} {sl_cm sl_isr sl_rr sl_rat sl_minus sl_times sl_over sl_half sl_less sl_pn sl_or sl_bef sl_cn sl_pc sl_rst sl_stp sl_st sl_ca sl_ptI : Array (Option Value)} {oc_cm kV_cm dc_cm pm_cm cd_cm ct_cm oc_isr kV_isr dc_isr pm_isr cd_isr ct_isr oc_rr kV_rr dc_rr pm_rr cd_rr ct_rr oc_rat kV_rat dc_rat pm_rat cd_rat ct_rat oc_minus kV_minus dc_minus pm_minus cd_minus ct_minus oc_times kV_times dc_times pm_times cd_times ct_times oc_over kV_over dc_over pm_over cd_over ct_over oc_half kV_half dc_half pm_half cd_half ct_half oc_less kV_less dc_less pm_less cd_less ct_less oc_pn kV_pn dc_pn pm_pn cd_pn ct_pn oc_or kV_or dc_or pm_or cd_or ct_or oc_bef kV_bef dc_bef pm_bef cd_bef ct_bef oc_cn kV_cn dc_cn pm_cn cd_cn ct_cn oc_pc kV_pc dc_pc pm_pc cd_pc ct_pc oc_rst kV_rst dc_rst pm_rst cd_rst ct_rst oc_stp kV_stp dc_stp pm_stp cd_stp ct_stp oc_st kV_st dc_st pm_st cd_st ct_st oc_ca kV_ca dc_ca pm_ca cd_ca ct_ca oc_ptI kV_ptI dc_ptI pm_ptI cd_ptI ct_ptI : Value} {t_RL : Tok}
    (a_cm : PySem.W.nsIn K mainGlobals "common_measure" = some (some (.ref f_cm)))
    (l_cm : K.lookup f_cm = some ⟨oc_cm, od_cm, .func (PySem.W.fnOf "common_measure" "common_measure" (defArgs s_common_measure) (defBody s_common_measure) (defScope s_common_measure) .none kV_cm dc_cm pm_cm an_cm cd_cm ct_cm), sl_cm⟩)
    (c_cm : PySem.W.codeIn K cd_cm "common_measure" = true)
    (k_cm : PySem.W.keepIn K (.ref f_cm) = true)
    (a_isr : PySem.W.nsIn K mainGlobals "is_ratio" = some (some (.ref f_isr)))
    (l_isr : K.lookup f_isr = some ⟨oc_isr, od_isr, .func (PySem.W.fnOf "is_ratio" "is_ratio" (defArgs s_is_ratio) (defBody s_is_ratio) (defScope s_is_ratio) .none kV_isr dc_isr pm_isr an_isr cd_isr ct_isr), sl_isr⟩)
    (c_isr : PySem.W.codeIn K cd_isr "is_ratio" = true)
    (k_isr : PySem.W.keepIn K (.ref f_isr) = true)
    (a_rr : PySem.W.nsIn K mainGlobals "read_ratio" = some (some (.ref f_rr)))
    (l_rr : K.lookup f_rr = some ⟨oc_rr, od_rr, .func (PySem.W.fnOf "read_ratio" "read_ratio" (defArgs s_read_ratio) (defBody s_read_ratio) (defScope s_read_ratio) .none kV_rr dc_rr pm_rr an_rr cd_rr ct_rr), sl_rr⟩)
    (c_rr : PySem.W.codeIn K cd_rr "read_ratio" = true)
    (k_rr : PySem.W.keepIn K (.ref f_rr) = true)
    (a_rat : PySem.W.nsIn K mainGlobals "ratio" = some (some (.ref f_rat)))
    (l_rat : K.lookup f_rat = some ⟨oc_rat, od_rat, .func (PySem.W.fnOf "ratio" "ratio" (defArgs s_ratio) (defBody s_ratio) (defScope s_ratio) .none kV_rat dc_rat pm_rat an_rat cd_rat ct_rat), sl_rat⟩)
    (c_rat : PySem.W.codeIn K cd_rat "ratio" = true)
    (k_rat : PySem.W.keepIn K (.ref f_rat) = true)
    (a_minus : PySem.W.nsIn K mainGlobals "minus" = some (some (.ref f_minus)))
    (l_minus : K.lookup f_minus = some ⟨oc_minus, od_minus, .func (PySem.W.fnOf "minus" "minus" (defArgs s_minus) (defBody s_minus) (defScope s_minus) .none kV_minus dc_minus pm_minus an_minus cd_minus ct_minus), sl_minus⟩)
    (c_minus : PySem.W.codeIn K cd_minus "minus" = true)
    (k_minus : PySem.W.keepIn K (.ref f_minus) = true)
    (a_times : PySem.W.nsIn K mainGlobals "times" = some (some (.ref f_times)))
    (l_times : K.lookup f_times = some ⟨oc_times, od_times, .func (PySem.W.fnOf "times" "times" (defArgs s_times) (defBody s_times) (defScope s_times) .none kV_times dc_times pm_times an_times cd_times ct_times), sl_times⟩)
    (c_times : PySem.W.codeIn K cd_times "times" = true)
    (k_times : PySem.W.keepIn K (.ref f_times) = true)
    (a_over : PySem.W.nsIn K mainGlobals "over" = some (some (.ref f_over)))
    (l_over : K.lookup f_over = some ⟨oc_over, od_over, .func (PySem.W.fnOf "over" "over" (defArgs s_over) (defBody s_over) (defScope s_over) .none kV_over dc_over pm_over an_over cd_over ct_over), sl_over⟩)
    (c_over : PySem.W.codeIn K cd_over "over" = true)
    (k_over : PySem.W.keepIn K (.ref f_over) = true)
    (a_half : PySem.W.nsIn K mainGlobals "half" = some (some (.ref f_half)))
    (l_half : K.lookup f_half = some ⟨oc_half, od_half, .func (PySem.W.fnOf "half" "half" (defArgs s_half) (defBody s_half) (defScope s_half) .none kV_half dc_half pm_half an_half cd_half ct_half), sl_half⟩)
    (c_half : PySem.W.codeIn K cd_half "half" = true)
    (k_half : PySem.W.keepIn K (.ref f_half) = true)
    (a_less : PySem.W.nsIn K mainGlobals "is_less" = some (some (.ref f_less)))
    (l_less : K.lookup f_less = some ⟨oc_less, od_less, .func (PySem.W.fnOf "is_less" "is_less" (defArgs s_is_less) (defBody s_is_less) (defScope s_is_less) .none kV_less dc_less pm_less an_less cd_less ct_less), sl_less⟩)
    (c_less : PySem.W.codeIn K cd_less "is_less" = true)
    (k_less : PySem.W.keepIn K (.ref f_less) = true)
    (a_pn : PySem.W.nsIn K mainGlobals "point_numbers" = some (some (.ref f_pn)))
    (l_pn : K.lookup f_pn = some ⟨oc_pn, od_pn, .func (PySem.W.fnOf "point_numbers" "point_numbers" (defArgs s_point_numbers) (defBody s_point_numbers) (defScope s_point_numbers) .none kV_pn dc_pn pm_pn an_pn cd_pn ct_pn), sl_pn⟩)
    (c_pn : PySem.W.codeIn K cd_pn "point_numbers" = true)
    (k_pn : PySem.W.keepIn K (.ref f_pn) = true)
    (a_or : PySem.W.nsIn K mainGlobals "origin" = some (some (.ref f_or)))
    (l_or : K.lookup f_or = some ⟨oc_or, od_or, .func (PySem.W.fnOf "origin" "origin" (defArgs s_origin) (defBody s_origin) (defScope s_origin) .none kV_or dc_or pm_or an_or cd_or ct_or), sl_or⟩)
    (c_or : PySem.W.codeIn K cd_or "origin" = true)
    (k_or : PySem.W.keepIn K (.ref f_or) = true)
    (a_bef : PySem.W.nsIn K mainGlobals "is_before" = some (some (.ref f_bef)))
    (l_bef : K.lookup f_bef = some ⟨oc_bef, od_bef, .func (PySem.W.fnOf "is_before" "is_before" (defArgs s_is_before) (defBody s_is_before) (defScope s_is_before) .none kV_bef dc_bef pm_bef an_bef cd_bef ct_bef), sl_bef⟩)
    (c_bef : PySem.W.codeIn K cd_bef "is_before" = true)
    (k_bef : PySem.W.keepIn K (.ref f_bef) = true)
    (a_cn : PySem.W.nsIn K mainGlobals "cutting_numbers" = some (some (.ref f_cn)))
    (l_cn : K.lookup f_cn = some ⟨oc_cn, od_cn, .func (PySem.W.fnOf "cutting_numbers" "cutting_numbers" (defArgs s_cutting_numbers) (defBody s_cutting_numbers) (defScope s_cutting_numbers) .none kV_cn dc_cn pm_cn an_cn cd_cn ct_cn), sl_cn⟩)
    (c_cn : PySem.W.codeIn K cd_cn "cutting_numbers" = true)
    (k_cn : PySem.W.keepIn K (.ref f_cn) = true)
    (a_pc : PySem.W.nsIn K mainGlobals "piece_of" = some (some (.ref f_pc)))
    (l_pc : K.lookup f_pc = some ⟨oc_pc, od_pc, .func (PySem.W.fnOf "piece_of" "piece_of" (defArgs s_piece_of) (defBody s_piece_of) (defScope s_piece_of) .none kV_pc dc_pc pm_pc an_pc cd_pc ct_pc), sl_pc⟩)
    (c_pc : PySem.W.codeIn K cd_pc "piece_of" = true)
    (k_pc : PySem.W.keepIn K (.ref f_pc) = true)
    (a_rst : PySem.W.nsIn K mainGlobals "read_stairs" = some (some (.ref f_rst)))
    (l_rst : K.lookup f_rst = some ⟨oc_rst, od_rst, .func (PySem.W.fnOf "read_stairs" "read_stairs" (defArgs s_read_stairs) (defBody s_read_stairs) (defScope s_read_stairs) .none kV_rst dc_rst pm_rst an_rst cd_rst ct_rst), sl_rst⟩)
    (c_rst : PySem.W.codeIn K cd_rst "read_stairs" = true)
    (k_rst : PySem.W.keepIn K (.ref f_rst) = true)
    (a_stp : PySem.W.nsIn K mainGlobals "stairs_parts" = some (some (.ref f_stp)))
    (l_stp : K.lookup f_stp = some ⟨oc_stp, od_stp, .func (PySem.W.fnOf "stairs_parts" "stairs_parts" (defArgs s_stairs_parts) (defBody s_stairs_parts) (defScope s_stairs_parts) .none kV_stp dc_stp pm_stp an_stp cd_stp ct_stp), sl_stp⟩)
    (c_stp : PySem.W.codeIn K cd_stp "stairs_parts" = true)
    (k_stp : PySem.W.keepIn K (.ref f_stp) = true)
    (a_st : PySem.W.nsIn K mainGlobals "stairs" = some (some (.ref f_st)))
    (l_st : K.lookup f_st = some ⟨oc_st, od_st, .func (PySem.W.fnOf "stairs" "stairs" (defArgs s_stairs) (defBody s_stairs) (defScope s_stairs) .none kV_st dc_st pm_st an_st cd_st ct_st), sl_st⟩)
    (c_st : PySem.W.codeIn K cd_st "stairs" = true)
    (k_st : PySem.W.keepIn K (.ref f_st) = true)
    (a_ca : PySem.W.nsIn K mainGlobals "cutting_answer" = some (some (.ref f_ca)))
    (l_ca : K.lookup f_ca = some ⟨oc_ca, od_ca, .func (PySem.W.fnOf "cutting_answer" "cutting_answer" (defArgs s_cutting_answer) (defBody s_cutting_answer) (defScope s_cutting_answer) .none kV_ca dc_ca pm_ca an_ca cd_ca ct_ca), sl_ca⟩)
    (c_ca : PySem.W.codeIn K cd_ca "cutting_answer" = true)
    (k_ca : PySem.W.keepIn K (.ref f_ca) = true)
    (aC_ptI : PySem.W.nsIn K mainGlobals "Part" = some (some (.ref C_ptI)))
    (a_ptI : PySem.W.findIn K (.ref C_ptI) "__init__" = some (some (.ref f_ptI)))
    (i_ptI : PySem.W.isFn K (.ref f_ptI) = true)
    (l_ptI : K.lookup f_ptI = some ⟨oc_ptI, od_ptI, .func (PySem.W.fnOf "__init__" "Part.__init__" (defArgs s_Part) (defBody s_Part) (defScope s_Part) .none kV_ptI dc_ptI pm_ptI an_ptI cd_ptI ct_ptI), sl_ptI⟩)
    (c_ptI : PySem.W.codeIn K cd_ptI "Part.__init__" = true)
    (k_ptI : PySem.W.keepIn K (.ref f_ptI) = true)
    (pg_ptI : PySem.W.plainGet K C_ptI Str.empty = true)
    (hd_ptI : PySem.W.hasDictIn K C_ptI = true)
    (po_ptI : PySem.W.plainOver K C_ptI = true)
    (sa_ptI : PySem.W.findIn K (.ref C_ptI) "__setattr__" = some (some (.builtin "object.__setattr__")))
    (mk_ptI : PySem.W.makesIn K C_ptI = true)
    (kc_ptI : PySem.W.keepIn K (.ref C_ptI) = true)
    (n0_ptI : PySem.W.findIn K (.ref C_ptI) "piece" = some none)
    (n1_ptI : PySem.W.findIn K (.ref C_ptI) "turned" = some none)
    (n2_ptI : PySem.W.findIn K (.ref C_ptI) "slid" = some none)
    (aE_err : PySem.W.nsIn K mainGlobals "NotAsTold" = some (some (.ref C_err)))
    (xE_err : PySem.W.excIn K C_err [.type "ValueError", .type "Exception", .type "BaseException", .type "object"] "ValueError.__new__" = true)
    (kE_err : PySem.W.keepIn K (.ref C_err) = true)
    (bE_err : PySem.W.subIn K (.ref C_err) (.type "BaseException") = some true)
    (tE_err : PySem.W.typeIn K (.ref C_err) = some (.type "type"))
    (iE_err : PySem.W.isClsIn K C_err = true)
    (sE_err : PySem.W.subIn K (.ref C_err) (.ref C_err) = some true)
    (aK_RL : PySem.W.nsIn K mainGlobals "RATIO_LENGTH" = some (some (.int 2 t_RL)))
    (z_abs : PySem.W.nsIn K mainGlobals "abs" = some none)
    (z_len : PySem.W.nsIn K mainGlobals "len" = some none)
    (z_range : PySem.W.nsIn K mainGlobals "range" = some none)
    (z_any : PySem.W.nsIn K mainGlobals "any" = some none)
    : ∃ fd : FuncData, (∀ (s : Shared) (us : List Value), us.length = (["q"] : List Str).length → BindsTo s fd ⟨us, []⟩ ((["q"] : List Str).zip us)) ∧ ∀ base : Heap, K.In base → base.Ns mainGlobals mg → FnOk Pg w K mg base CX0 8 fa fd ["q"] (spSt K) := by
  have e := hfa.symm.trans (PySem.W.mg_of X G a_st)
  cases e
  have F_cm := fun_mk (st := s_common_measure) l_cm c_cm k_cm
  have m_cm := PySem.W.mg_of X G a_cm
  have b_cm := F_cm.binds (ps := ["a", "b"]) fun _ _ _ _ _ _ us hl => match us, hl with | [_, _], _ => rfl
  have F_isr := fun_mk (st := s_is_ratio) l_isr c_isr k_isr
  have m_isr := PySem.W.mg_of X G a_isr
  have b_isr := F_isr.binds (ps := ["top", "bottom"]) fun _ _ _ _ _ _ us hl => match us, hl with | [_, _], _ => rfl
  have F_rr := fun_mk (st := s_read_ratio) l_rr c_rr k_rr
  have m_rr := PySem.W.mg_of X G a_rr
  have b_rr := F_rr.binds (ps := ["numbers"]) fun _ _ _ _ _ _ us hl => match us, hl with | [_], _ => rfl
  have F_rat := fun_mk (st := s_ratio) l_rat c_rat k_rat
  have m_rat := PySem.W.mg_of X G a_rat
  have b_rat := F_rat.binds (ps := ["top", "bottom"]) fun _ _ _ _ _ _ us hl => match us, hl with | [_, _], _ => rfl
  have F_minus := fun_mk (st := s_minus) l_minus c_minus k_minus
  have m_minus := PySem.W.mg_of X G a_minus
  have b_minus := F_minus.binds (ps := ["a", "b"]) fun _ _ _ _ _ _ us hl => match us, hl with | [_, _], _ => rfl
  have F_times := fun_mk (st := s_times) l_times c_times k_times
  have m_times := PySem.W.mg_of X G a_times
  have b_times := F_times.binds (ps := ["a", "b"]) fun _ _ _ _ _ _ us hl => match us, hl with | [_, _], _ => rfl
  have F_over := fun_mk (st := s_over) l_over c_over k_over
  have m_over := PySem.W.mg_of X G a_over
  have b_over := F_over.binds (ps := ["a", "b"]) fun _ _ _ _ _ _ us hl => match us, hl with | [_, _], _ => rfl
  have F_half := fun_mk (st := s_half) l_half c_half k_half
  have m_half := PySem.W.mg_of X G a_half
  have b_half := F_half.binds (ps := ["a"]) fun _ _ _ _ _ _ us hl => match us, hl with | [_], _ => rfl
  have F_less := fun_mk (st := s_is_less) l_less c_less k_less
  have m_less := PySem.W.mg_of X G a_less
  have b_less := F_less.binds (ps := ["a", "b"]) fun _ _ _ _ _ _ us hl => match us, hl with | [_, _], _ => rfl
  have F_pn := fun_mk (st := s_point_numbers) l_pn c_pn k_pn
  have m_pn := PySem.W.mg_of X G a_pn
  have b_pn := F_pn.binds (ps := ["point"]) fun _ _ _ _ _ _ us hl => match us, hl with | [_], _ => rfl
  have F_or := fun_mk (st := s_origin) l_or c_or k_or
  have m_or := PySem.W.mg_of X G a_or
  have b_or := F_or.binds (ps := []) fun _ _ _ _ _ _ us hl => match us, hl with | [], _ => rfl
  have F_bef := fun_mk (st := s_is_before) l_bef c_bef k_bef
  have m_bef := PySem.W.mg_of X G a_bef
  have b_bef := F_bef.binds (ps := ["a", "b"]) fun _ _ _ _ _ _ us hl => match us, hl with | [_, _], _ => rfl
  have F_cn := fun_mk (st := s_cutting_numbers) l_cn c_cn k_cn
  have m_cn := PySem.W.mg_of X G a_cn
  have b_cn := F_cn.binds (ps := ["parts"]) fun _ _ _ _ _ _ us hl => match us, hl with | [_], _ => rfl
  have F_pc := fun_mk (st := s_piece_of) l_pc c_pc k_pc
  have m_pc := PySem.W.mg_of X G a_pc
  have b_pc := F_pc.binds (ps := ["corners"]) fun _ _ _ _ _ _ us hl => match us, hl with | [_], _ => rfl
  have F_rst := fun_mk (st := s_read_stairs) l_rst c_rst k_rst
  have m_rst := PySem.W.mg_of X G a_rst
  have b_rst := F_rst.binds (ps := ["numbers"]) fun _ _ _ _ _ _ us hl => match us, hl with | [_], _ => rfl
  have F_stp := fun_mk (st := s_stairs_parts) l_stp c_stp k_stp
  have m_stp := PySem.W.mg_of X G a_stp
  have b_stp := F_stp.binds (ps := ["a", "b", "c"]) fun _ _ _ _ _ _ us hl => match us, hl with | [_, _, _], _ => rfl
  have F_st := fun_mk (st := s_stairs) l_st c_st k_st
  have m_st := PySem.W.mg_of X G a_st
  have F_ca := fun_mk (st := s_cutting_answer) l_ca c_ca k_ca
  have m_ca := PySem.W.mg_of X G a_ca
  have b_ca := F_ca.binds (ps := ["parts"]) fun _ _ _ _ _ _ us hl => match us, hl with | [_], _ => rfl
  have F_ptI := fun_mk (st := s_Part) l_ptI c_ptI k_ptI
  have b_ptI := F_ptI.binds (ps := ["self", "piece", "turned", "slid"]) fun _ _ _ _ _ _ us hl => match us, hl with | [_, _, _, _], _ => rfl
  have T_ptI : ClsTxt K mg "Part" C_ptI f_ptI ["piece", "turned", "slid"] := ⟨⟨pg_ptI, hd_ptI, po_ptI, sa_ptI⟩, PySem.W.mg_of X G aC_ptI, fun z hz => by
    simp only [List.mem_cons, List.not_mem_nil, or_false] at hz
    rcases hz with rfl | rfl | rfl
    · exact n0_ptI
    · exact n1_ptI
    · exact n2_ptI
    , ⟨mk_ptI, a_ptI, i_ptI, kc_ptI⟩⟩
  have T_err : ErrTx "NotAsTold" K mg C_err := ⟨PySem.W.mg_of X G aE_err, xE_err, kE_err, bE_err, tE_err, exm_own bE_err iE_err tE_err sE_err⟩
  have m_RL := PySem.W.mg_of X G aK_RL
  have m_abs := PySem.W.mg_none_of X G z_abs
  have m_len := PySem.W.mg_none_of X G z_len
  have m_range := PySem.W.mg_none_of X G z_range
  have m_any := PySem.W.mg_none_of X G z_any
  refine ⟨PySem.W.fnOf "stairs" "stairs" (defArgs s_stairs) (defBody s_stairs) (defScope s_stairs) .none kV_st dc_st pm_st an_st cd_st ct_st, fun s us hu => match us, hu with | [_], _ => .of_eq rfl, fun base _ _ => ?_⟩
  have G_ptI := ok_ptI (Pg := Pg) (w := w) (base := base) F_ptI T_ptI
  have G_cm := ok_cm (Pg := Pg) (w := w) (mg := mg) (base := base) F_cm m_abs
  have G_isr := ok_isr F_isr G_cm m_cm k_cm b_cm
  have G_rr := ok_rr F_rr T_err m_len m_RL G_isr m_isr k_isr b_isr
  have G_rat := ok_rat F_rat G_cm m_cm k_cm b_cm
  have G_minus := ok_minus F_minus G_rat m_rat k_rat b_rat
  have G_times := ok_times F_times G_rat m_rat k_rat b_rat
  have G_over := ok_over F_over G_rat m_rat k_rat b_rat
  have G_half := ok_half F_half G_rat m_rat k_rat b_rat
  have G_less := ok_less (Pg := Pg) (w := w) (mg := mg) (base := base) F_less
  have G_pn := ok_pn (Pg := Pg) (w := w) (mg := mg) (base := base) F_pn
  have G_or := ok_or (Pg := Pg) (w := w) (mg := mg) (base := base) F_or
  have G_bef := ok_bef F_bef G_less m_less k_less b_less
  have G_cn := ok_cn F_cn T_ptI m_len G_pn m_pn k_pn b_pn
  have G_pc := ok_pc F_pc m_len m_range G_bef m_bef k_bef b_bef
  have G_rst := ok_rst F_rst T_err m_len m_range m_any m_RL G_rr m_rr k_rr b_rr G_less m_less k_less b_less G_half m_half k_half b_half
  have G_stp := ok_stp F_stp T_ptI G_minus m_minus k_minus b_minus G_over m_over k_over b_over G_times m_times k_times b_times G_pc m_pc k_pc b_pc G_or m_or k_or b_or G_ptI b_ptI
  have G_ca := ok_ca F_ca m_len G_cn m_cn k_cn b_cn
  exact ok_st F_st T_err G_rst m_rst k_rst b_rst G_stp m_stp k_stp b_stp G_ca m_ca k_ca b_ca
end ScA
open PySem PySem.W PyProof.Rows
set_option maxRecDepth 100000 in
set_option maxHeartbeats 8000000 in
theorem PySem.Challenge.cw_stripcut_s04_stairs_holds : PySem.Challenge.rw_stripcut_s04_stairs.Holds := by
  w_on; k_headS; (case hw => exact ⟨[.list []], by decide +kernel, by decide +kernel⟩)
  k_fillS
  refine L2.walk_specK (r := PySem.Challenge.rw_stripcut_s04_stairs) (k := 8) (CX := L2.CX0) (ps := ["q"]) (sp := ScA.spSt) (by decide +kernel) rfl rfl ⟨rfl, by decide, by decide⟩ (fun w h Y => PySem.W.kIn_of Y) ?F ?S (fun _ _ _ _ z => z)
  case F =>
    intro w mg fa h Y KX G hmg
    refine' ScA.all_mk KX G hmg ?a_cm ?l_cm ?c_cm ?k_cm ?a_isr ?l_isr ?c_isr ?k_isr ?a_rr ?l_rr ?c_rr ?k_rr ?a_rat ?l_rat ?c_rat ?k_rat ?a_minus ?l_minus ?c_minus ?k_minus ?a_times ?l_times ?c_times ?k_times ?a_over ?l_over ?c_over ?k_over ?a_half ?l_half ?c_half ?k_half ?a_less ?l_less ?c_less ?k_less ?a_pn ?l_pn ?c_pn ?k_pn ?a_or ?l_or ?c_or ?k_or ?a_bef ?l_bef ?c_bef ?k_bef ?a_cn ?l_cn ?c_cn ?k_cn ?a_pc ?l_pc ?c_pc ?k_pc ?a_rst ?l_rst ?c_rst ?k_rst ?a_stp ?l_stp ?c_stp ?k_stp ?a_st ?l_st ?c_st ?k_st ?a_ca ?l_ca ?c_ca ?k_ca ?aC_ptI ?a_ptI ?i_ptI ?l_ptI ?c_ptI ?k_ptI ?pg_ptI ?hd_ptI ?po_ptI ?sa_ptI ?mk_ptI ?kc_ptI ?n0_ptI ?n1_ptI ?n2_ptI ?aE_err ?xE_err ?kE_err ?bE_err ?tE_err ?iE_err ?sE_err ?aK_RL ?z_abs ?z_len ?z_range ?z_any
    (case a_cm => k_is)
    (case l_cm => k_is)
    (case c_cm => k_is)
    (case k_cm => k_is)
    (case a_isr => k_is)
    (case l_isr => k_is)
    (case c_isr => k_is)
    (case k_isr => k_is)
    (case a_rr => k_is)
    (case l_rr => k_is)
    (case c_rr => k_is)
    (case k_rr => k_is)
    (case a_rat => k_is)
    (case l_rat => k_is)
    (case c_rat => k_is)
    (case k_rat => k_is)
    (case a_minus => k_is)
    (case l_minus => k_is)
    (case c_minus => k_is)
    (case k_minus => k_is)
    (case a_times => k_is)
    (case l_times => k_is)
    (case c_times => k_is)
    (case k_times => k_is)
    (case a_over => k_is)
    (case l_over => k_is)
    (case c_over => k_is)
    (case k_over => k_is)
    (case a_half => k_is)
    (case l_half => k_is)
    (case c_half => k_is)
    (case k_half => k_is)
    (case a_less => k_is)
    (case l_less => k_is)
    (case c_less => k_is)
    (case k_less => k_is)
    (case a_pn => k_is)
    (case l_pn => k_is)
    (case c_pn => k_is)
    (case k_pn => k_is)
    (case a_or => k_is)
    (case l_or => k_is)
    (case c_or => k_is)
    (case k_or => k_is)
    (case a_bef => k_is)
    (case l_bef => k_is)
    (case c_bef => k_is)
    (case k_bef => k_is)
    (case a_cn => k_is)
    (case l_cn => k_is)
    (case c_cn => k_is)
    (case k_cn => k_is)
    (case a_pc => k_is)
    (case l_pc => k_is)
    (case c_pc => k_is)
    (case k_pc => k_is)
    (case a_rst => k_is)
    (case l_rst => k_is)
    (case c_rst => k_is)
    (case k_rst => k_is)
    (case a_stp => k_is)
    (case l_stp => k_is)
    (case c_stp => k_is)
    (case k_stp => k_is)
    (case a_st => k_is)
    (case l_st => k_is)
    (case c_st => k_is)
    (case k_st => k_is)
    (case a_ca => k_is)
    (case l_ca => k_is)
    (case c_ca => k_is)
    (case k_ca => k_is)
    (case aC_ptI => k_is)
    (case a_ptI => k_is)
    (case i_ptI => k_is)
    (case l_ptI => k_is)
    (case c_ptI => k_is)
    (case k_ptI => k_is)
    (case pg_ptI => k_is)
    (case hd_ptI => k_is)
    (case po_ptI => k_is)
    (case sa_ptI => k_is)
    (case mk_ptI => k_is)
    (case kc_ptI => k_is)
    (case n0_ptI => k_is)
    (case n1_ptI => k_is)
    (case n2_ptI => k_is)
    (case aE_err => k_is)
    (case xE_err => k_exc)
    (case kE_err => k_is)
    (case bE_err => k_is)
    (case tE_err => k_is)
    (case iE_err => k_is)
    (case sE_err => first | rfl | k_is)
    (case aK_RL => k_is)
    (case z_abs => k_is)
    (case z_len => k_is)
    (case z_range => k_is)
    (case z_any => k_is)
  case S =>
    intro K H xs a hO hwi hask hx
    cases hx with
    | cons h1 h2 =>
      cases h2
      cases h1 with
      | lst hs ha =>
        have e := L2.ints_dw a.1 _ ha
        subst e
        refine ⟨_, a.1, rfl, hs, ScA.int_bd hwi, fun H' p hp => .lst (L2.SqL.of hp) (L2.dw_ints _)⟩
#print axioms PySem.Challenge.cw_stripcut_s04_stairs_holds
