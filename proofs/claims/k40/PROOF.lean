import PyProof.Rows.All
import Wide.All
import OpenK.AllK
import Wide.FinOn
import HandS.ForMost
import HandS.ForExc
import HandS.Wide
import HandS.Gcd
import HandS.IsInst
import HandS.Defaults
import HandS.ExcIs
import HandS.Flow
import HandS.Small
import HandS.HeadHook4
import HandS.HeadEnd
import HandS.AnyAll
import HandS.GenList
import HandS.NestedK
import HandS.HeadWalk
import HandS.Rev
import HandS.Conv
import HandS.Head0
import HandS.Head1
import HandS.Head2
import HandS.HeadHook1
import HandS.HeadHook2
import HandS.HeadHook3
import HandS.Head3
import PySem.Challenge.RW_unbent_k40_spread_of_two_payments
set_option Elab.async false
set_option linter.all false
set_option maxRecDepth 100000
set_option maxHeartbeats 4000000
/-! Plain mathematics: Euclid by a bounded number of turns, fractions as Rat. -/
namespace UbM
/-- m turns of Euclid are enough for a, b -/
def Enough (m a b : Nat) : Prop := ∃ e, (b < 2 ^ e ∧ 2 * e + 1 ≤ m) ∨ (b < a ∧ a < 2 ^ (e + 1) ∧ 2 * e + 2 ≤ m)
theorem Enough.pos {m a b : Nat} (h : Enough m a b) : 0 < m := by
  obtain ⟨e, h | h⟩ := h <;> omega
theorem half_mod {a b : Nat} (hb : 0 < b) (h : b < a) : 2 * (a % b) < a := by
  have h1 := Nat.mod_lt a hb
  have h2 := Nat.div_add_mod a b
  have h3 : 1 ≤ a / b := (Nat.le_div_iff_mul_le hb).mpr (by omega)
  have h4 : b * 1 ≤ b * (a / b) := Nat.mul_le_mul_left b h3
  omega
theorem Enough.step {m a b : Nat} (hb : 0 < b) (h : Enough m a b) : Enough (m - 1) b (a % b) := by
  obtain ⟨e, ⟨h1, h2⟩ | ⟨h1, h2, h3⟩⟩ := h
  · cases e with
    | zero =>
      have : b < 1 := h1
      omega
    | succ e =>
      refine ⟨e, .inr ⟨Nat.mod_lt _ hb, h1, by omega⟩⟩
  · refine ⟨e, .inl ⟨?_, by omega⟩⟩
    have h4 := half_mod hb h1
    have h5 : 2 ^ (e + 1) = 2 ^ e * 2 := Nat.pow_succ ..
    omega
theorem enough_of {m a b e : Nat} (h : b < 2 ^ e) (hm : 2 * e + 1 ≤ m) : Enough m a b := ⟨e, .inl ⟨h, hm⟩⟩
/-! ### fractions -/
theorem int_gcd (p q : Int) : q.gcd p = Nat.gcd p.natAbs q.natAbs := by
  unfold Int.gcd
  exact Nat.gcd_comm ..
theorem num_pos {p q : Int} (h : 0 < q) : p / ((Nat.gcd p.natAbs q.natAbs : Nat) : Int) = (Rat.divInt p q).num := by
  rw [Rat.num_divInt, int_gcd, Int.sign_eq_one_of_pos h, Int.one_mul]
theorem den_pos {p q : Int} (h : 0 < q) : q / ((Nat.gcd p.natAbs q.natAbs : Nat) : Int) = ((Rat.divInt p q).den : Int) := by
  rw [Rat.den_divInt, if_neg (by omega), int_gcd]
  have e : (q.natAbs : Int) = q := by omega
  rw [Int.natCast_ediv, e]
theorem gcd_pos {p q : Int} (h : q ≠ 0) : 0 < Nat.gcd p.natAbs q.natAbs := Nat.gcd_pos_of_pos_right _ (by omega)
theorem fdiv_neg_dvd {a b : Int} (h : b ∣ a) : a.fdiv (-b) = -(a / b) := by
  obtain ⟨c, rfl⟩ := h
  by_cases hb : b = 0
  · subst hb
    simp
  · rw [Int.mul_ediv_cancel_left _ hb]
    have e : b * c = -b * -c := by rw [Int.neg_mul_neg]
    rw [e, Int.mul_fdiv_cancel_left _ (by omega)]
theorem dvd_l (p q : Int) : ((Nat.gcd p.natAbs q.natAbs : Nat) : Int) ∣ p := Int.ofNat_dvd_left.mpr (Nat.gcd_dvd_left ..)
theorem dvd_r (p q : Int) : ((Nat.gcd p.natAbs q.natAbs : Nat) : Int) ∣ q := Int.ofNat_dvd_left.mpr (Nat.gcd_dvd_right ..)
theorem num_neg {p q : Int} (h : q < 0) : p.fdiv (-((Nat.gcd p.natAbs q.natAbs : Nat) : Int)) = (Rat.divInt p q).num := by
  rw [fdiv_neg_dvd (dvd_l p q), Rat.num_divInt, int_gcd, Int.sign_eq_neg_one_of_neg h, Int.neg_one_mul, Int.neg_ediv_of_dvd (dvd_l p q)]
theorem den_neg {p q : Int} (h : q < 0) : q.fdiv (-((Nat.gcd p.natAbs q.natAbs : Nat) : Int)) = ((Rat.divInt p q).den : Int) := by
  rw [fdiv_neg_dvd (dvd_r p q), Rat.den_divInt, if_neg (by omega), int_gcd]
  have e : (q.natAbs : Int) = -q := by omega
  rw [Int.natCast_ediv, e, Int.neg_ediv_of_dvd (dvd_r p q)]
/-! ### sizes -/
def Bd (n : Nat) (r : Rat) : Prop := r.num.natAbs < 2 ^ n ∧ r.den < 2 ^ n
theorem bd_divInt {p q : Int} {n : Nat} (hq : q ≠ 0) (h1 : p.natAbs < 2 ^ n) (h2 : q.natAbs < 2 ^ n) : Bd n (Rat.divInt p q) := by
  constructor
  · by_cases h : 0 < q
    · rw [← num_pos h, Int.natAbs_ediv_of_dvd (dvd_l p q)]
      exact Nat.lt_of_le_of_lt (Nat.div_le_self ..) h1
    · rw [← num_neg (show q < 0 by omega), fdiv_neg_dvd (dvd_l p q), Int.natAbs_neg, Int.natAbs_ediv_of_dvd (dvd_l p q)]
      exact Nat.lt_of_le_of_lt (Nat.div_le_self ..) h1
  · rw [Rat.den_divInt, if_neg hq]
    exact Nat.lt_of_le_of_lt (Nat.div_le_self ..) h2
theorem Bd.mono {n m : Nat} {r : Rat} (h : Bd n r) (k : n ≤ m) : Bd m r := ⟨Nat.lt_of_lt_of_le h.1 (Nat.pow_le_pow_right (by decide) k), Nat.lt_of_lt_of_le h.2 (Nat.pow_le_pow_right (by decide) k)⟩
theorem mul_lt {i j : Int} {a b : Nat} (ha : i.natAbs < 2 ^ a) (hb : j.natAbs < 2 ^ b) : (i * j).natAbs < 2 ^ (a + b) := by
  rw [Int.natAbs_mul, Nat.pow_add]
  exact Nat.mul_lt_mul'' ha hb
theorem add_lt {i j : Int} {a b : Nat} (ha : i.natAbs < 2 ^ a) (hb : j.natAbs < 2 ^ b) : (i + j).natAbs < 2 ^ (max a b + 1) := by
  have h1 : (2 : Nat) ^ a ≤ 2 ^ (max a b) := Nat.pow_le_pow_right (by decide) (by omega)
  have h2 : (2 : Nat) ^ b ≤ 2 ^ (max a b) := Nat.pow_le_pow_right (by decide) (by omega)
  have h3 : (2 : Nat) ^ (max a b + 1) = 2 ^ (max a b) * 2 := Nat.pow_succ ..
  omega
theorem sub_lt {i j : Int} {a b : Nat} (ha : i.natAbs < 2 ^ a) (hb : j.natAbs < 2 ^ b) : (i - j).natAbs < 2 ^ (max a b + 1) := by
  have h1 : (2 : Nat) ^ a ≤ 2 ^ (max a b) := Nat.pow_le_pow_right (by decide) (by omega)
  have h2 : (2 : Nat) ^ b ≤ 2 ^ (max a b) := Nat.pow_le_pow_right (by decide) (by omega)
  have h3 : (2 : Nat) ^ (max a b + 1) = 2 ^ (max a b) * 2 := Nat.pow_succ ..
  omega
theorem den_ne (r : Rat) : (r.den : Int) ≠ 0 := by
  have := r.den_nz
  omega
theorem den_p (r : Rat) : (0 : Int) < r.den := by
  have := r.den_nz
  omega
theorem den_lt {r : Rat} {n : Nat} (h : Bd n r) : (r.den : Int).natAbs < 2 ^ n := h.2
theorem add_as (r s : Rat) : Rat.divInt (r.num * s.den + s.num * r.den) (r.den * s.den) = r + s := by
  rw [Rat.add_def', ← Rat.divInt_ofNat, Int.natCast_mul]
theorem sub_as (r s : Rat) : Rat.divInt (r.num * s.den - s.num * r.den) (r.den * s.den) = r - s := by
  rw [Rat.sub_def', ← Rat.divInt_ofNat, Int.natCast_mul]
theorem mul_as (r s : Rat) : Rat.divInt (r.num * s.num) (r.den * s.den) = r * s := by
  rw [Rat.mul_def', ← Rat.divInt_ofNat, Int.natCast_mul]
theorem div_as (r s : Rat) : Rat.divInt (r.num * s.den) (r.den * s.num) = r / s := by
  rw [Rat.div_def, Rat.inv_def]
  conv => rhs; rw [← Rat.num_divInt_den r]
  rw [Rat.divInt_mul_divInt]
theorem bd_add {r s : Rat} {a b : Nat} (hr : Bd a r) (hs : Bd b s) : Bd (a + b + 1) (r + s) := by
  rw [← add_as]
  refine bd_divInt (Int.mul_ne_zero (den_ne r) (den_ne s)) ?_ ?_
  · have := add_lt (mul_lt hr.1 (den_lt hs)) (mul_lt hs.1 (den_lt hr))
    rw [show max (a + b) (b + a) + 1 = a + b + 1 by omega] at this
    exact this
  · exact Nat.lt_of_lt_of_le (mul_lt (den_lt hr) (den_lt hs)) (Nat.pow_le_pow_right (by decide) (by omega))
theorem bd_sub {r s : Rat} {a b : Nat} (hr : Bd a r) (hs : Bd b s) : Bd (a + b + 1) (r - s) := by
  rw [← sub_as]
  refine bd_divInt (Int.mul_ne_zero (den_ne r) (den_ne s)) ?_ ?_
  · have := sub_lt (mul_lt hr.1 (den_lt hs)) (mul_lt hs.1 (den_lt hr))
    rw [show max (a + b) (b + a) + 1 = a + b + 1 by omega] at this
    exact this
  · exact Nat.lt_of_lt_of_le (mul_lt (den_lt hr) (den_lt hs)) (Nat.pow_le_pow_right (by decide) (by omega))
theorem bd_mul {r s : Rat} {a b : Nat} (hr : Bd a r) (hs : Bd b s) : Bd (a + b) (r * s) := by
  rw [← mul_as]
  exact bd_divInt (Int.mul_ne_zero (den_ne r) (den_ne s)) (mul_lt hr.1 hs.1) (mul_lt (den_lt hr) (den_lt hs))
theorem bd_neg {r : Rat} {a : Nat} (hr : Bd a r) : Bd a (-r) := ⟨by rw [Rat.neg_num, Int.natAbs_neg]; exact hr.1, hr.2⟩
theorem bd_div {r s : Rat} {a b : Nat} (hz : s ≠ 0) (hr : Bd a r) (hs : Bd b s) : Bd (a + b) (r / s) := by
  rw [← div_as]
  exact bd_divInt (Int.mul_ne_zero (den_ne r) fun h => hz (Rat.num_eq_zero.mp h)) (mul_lt hr.1 (den_lt hs)) (mul_lt (den_lt hr) hs.1)
/-! ### the order -/
/-- -1, 0, 1 as r is below, equal to, above s -/
def cmpR (r s : Rat) : Int := Int.sign (r.num * s.den - s.num * r.den)
theorem cmpR_lt {r s : Rat} (h : r < s) : cmpR r s = -1 := by
  have := (Rat.lt_iff r s).mp h
  exact Int.sign_eq_neg_one_of_neg (by omega)
theorem cmpR_gt {r s : Rat} (h : s < r) : cmpR r s = 1 := by
  have := (Rat.lt_iff s r).mp h
  exact Int.sign_eq_one_of_pos (by omega)
theorem cmpR_self (r : Rat) : cmpR r r = 0 := by
  unfold cmpR
  rw [Int.sub_self]
  rfl
theorem cmpR_cases (r s : Rat) : (r < s ∧ cmpR r s = -1) ∨ (r = s ∧ cmpR r s = 0) ∨ (s < r ∧ cmpR r s = 1) := by
  by_cases h : r = s
  · subst h
    exact .inr (.inl ⟨rfl, cmpR_self r⟩)
  · by_cases h2 : r < s
    · exact .inl ⟨h2, cmpR_lt h2⟩
    · have h3 : s < r := Rat.lt_of_le_of_ne (Rat.not_lt.mp h2) fun e => h e.symm
      exact .inr (.inr ⟨h3, cmpR_gt h3⟩)
theorem cmpR_swap (r s : Rat) : cmpR s r = -cmpR r s := by
  rcases cmpR_cases r s with ⟨h, e⟩ | ⟨h, e⟩ | ⟨h, e⟩
  · rw [e, cmpR_gt h]
    rfl
  · rw [e, h, cmpR_self]
    rfl
  · rw [e, cmpR_lt h]
theorem cmpR_add (r s t : Rat) : cmpR (r + t) (s + t) = cmpR r s := by
  rcases cmpR_cases r s with ⟨h, e⟩ | ⟨h, e⟩ | ⟨h, e⟩
  · rw [e, cmpR_lt (Rat.add_lt_add_right.mpr h)]
  · rw [e, h, cmpR_self]
  · rw [e, cmpR_gt (Rat.add_lt_add_right.mpr h)]
theorem cmpR_mul {r s t : Rat} (ht : 0 < t) : cmpR (r * t) (s * t) = cmpR r s := by
  rcases cmpR_cases r s with ⟨h, e⟩ | ⟨h, e⟩ | ⟨h, e⟩
  · rw [e, cmpR_lt ((Rat.mul_lt_mul_right ht).mpr h)]
  · rw [e, h, cmpR_self]
  · rw [e, cmpR_gt ((Rat.mul_lt_mul_right ht).mpr h)]
theorem neg_pos {t : Rat} (h : t < 0) : 0 < -t := by
  have := Rat.neg_lt_neg h
  rw [Rat.neg_zero] at this
  exact this
theorem cmpR_mul_neg {r s t : Rat} (ht : t < 0) : cmpR (r * t) (s * t) = -cmpR r s := by
  have h1 := cmpR_mul (r := r) (s := s) (neg_pos ht)
  rw [Rat.mul_neg, Rat.mul_neg] at h1
  rw [← h1, ← cmpR_swap]
  unfold cmpR
  rw [Rat.neg_num, Rat.neg_num, Rat.neg_den, Rat.neg_den, Int.neg_mul, Int.neg_mul]
  congr 1
  omega
theorem sign_as (d : Int) : (if decide (0 < d) = true then (1 : Int) else 0) - (if decide (d < 0) = true then (1 : Int) else 0) = Int.sign d := by
  rcases Int.lt_trichotomy d 0 with h | h | h
  · rw [decide_eq_true h, decide_eq_false (show ¬0 < d by omega), Int.sign_eq_neg_one_of_neg h]
    rfl
  · subst h
    rfl
  · rw [decide_eq_true h, decide_eq_false (show ¬d < 0 by omega), Int.sign_eq_one_of_pos h]
    rfl
theorem cmpR_zero (r : Rat) : cmpR r 0 = Int.sign r.num := by
  unfold cmpR
  rw [Rat.zero_num, Rat.zero_den]
  congr 1
  omega
theorem num_pos_iff {r : Rat} : 0 < r.num ↔ 0 < r := by
  have h := Rat.lt_iff 0 r
  rw [Rat.zero_num, Rat.zero_den] at h
  rw [h]
  omega
theorem num_neg_iff {r : Rat} : r.num < 0 ↔ r < 0 := by
  have h := Rat.lt_iff r 0
  rw [Rat.zero_num, Rat.zero_den] at h
  rw [h]
  omega
end UbM

namespace Ub
open PySem PySem.Spec PyProof.Rows L2 UbM
/-! ### heaps -/
theorem sameNew {H : Hp} {p : Addr} {o : HO} (h : H p = none) : Same H (upd H p o) := fun b x e => by
  rw [upd_ne (ne_of_none e h)]
  exact e
theorem Same.tseq {K : PySem.W.Frag} {H H' : Hp} {a : Addr} {xs : List V} (e : Same H H') (h : SqT K H a xs) : SqT K H' a xs := by
  rcases h with (h | ⟨o, h⟩) | h
  · exact .inl (.inl (e _ _ h))
  · exact .inl (.inr ⟨o, e _ _ h⟩)
  · exact .inr h
mutual
theorem Dp.mono {K : PySem.W.Frag} {H H' : Hp} (e : Same H H') : ∀ (d : PyData) (v : V), Dp K H v d → Dp K H' v d
  | .none, _, h => by cases h; exact .non
  | .bool b, _, h => by cases h; exact .bl b
  | .int i, _, h => by cases h; exact .int i
  | .str x, _, h => by cases h; exact .str x
  | .list ds, _, h => by
    cases h with
    | lst hs ha => exact .lst (Same.seq e hs) (Dp.monoAll e ds _ ha)
  | .tuple ds, _, h => by
    cases h with
    | tup hs ha => exact .tup (Same.tseq e hs) (Dp.monoAll e ds _ ha)
  | .dict _, _, h => by cases h
theorem Dp.monoAll {K : PySem.W.Frag} {H H' : Hp} (e : Same H H') : ∀ (ds : List PyData) (vs : List V), DpAll K H vs ds → DpAll K H' vs ds
  | [], _, h => by cases h; exact .nil
  | d :: ds, _, h => by
    cases h with
    | cons h1 h2 => exact .cons (Dp.mono e d _ h1) (Dp.monoAll e ds _ h2)
end
/-- a fraction as data -/
def frD (r : Rat) : PyData := .tuple [.int r.num, .int (r.den : Int)]
/-- v is the fraction r -/
def Fr (K : PySem.W.Frag) (H : Hp) (v : V) (r : Rat) : Prop := Dp K H v (frD r)
theorem Fr.mono {K : PySem.W.Frag} {H H' : Hp} {v : V} {r : Rat} (e : Same H H') (h : Fr K H v r) : Fr K H' v r := Dp.mono e _ _ h
theorem Fr.get {K : PySem.W.Frag} {H : Hp} {v : V} {r : Rat} (h : Fr K H v r) : ∃ a, v = .ref a ∧ SqT K H a [.int r.num, .int (r.den : Int)] := by
  unfold Fr frD at h
  cases h with
  | tup hs ha =>
    cases ha with
    | cons h1 h2 =>
      cases h2 with
      | cons h2 h3 =>
        cases h3
        cases h1
        cases h2
        exact ⟨_, rfl, hs⟩
theorem fr_of {K : PySem.W.Frag} {H : Hp} {a : Addr} {r : Rat} {p q : Int} (h : SqT K H a [.int p, .int q]) (hp : p = r.num) (hq : q = (r.den : Int)) : Fr K H (.ref a) r := by
  subst hp hq
  exact .tup h (.cons (.int _) (.cons (.int _) .nil))
theorem frNew {K : PySem.W.Frag} {H : Hp} {a : Addr} {r : Rat} {p q : Int} (hp : p = r.num) (hq : q = (r.den : Int)) : Fr K (upd H a (.tup [.int p, .int q])) (.ref a) r := fr_of (.inl (.inl upd_same)) hp hq
/-! ### operators on ints of any size that these laws meet -/
def CDivX (_ j : Int) : Prop := j ≠ 0 ∧ j.natAbs.log2 < 9000
theorem cdivX {i j : Int} {b : Nat} (h : j ≠ 0) (hb : j.natAbs < 2 ^ b) (h0 : 0 < b) (h9 : b ≤ 9000) : CDivX i j := ⟨h, Nat.lt_of_lt_of_le (PySem.Flt.log2_lt_of h0 hb) h9⟩
section
variable {X : Cx}
theorem op_fdivX : OpR X (binaryOp .FloorDiv) (rI CDivX fun i j => .int (i.fdiv j)) := opI fun i j _ _ _ _ _ hc q => floordiv_int hc.1 q (.inl (PyProof.noPylong_of_log2 hc.2))
end
/-- * of two ints: one below 2 ^ 64, or together below a million bits -/
def CMulG (i j : Int) : Prop := CMul i j ∨ CMulW i j
section
variable {X : Cx}
theorem op_mulG : OpR X (binaryOp .Mult) (rI CMulG fun i j => .int (i * j)) := opI fun _ _ _ _ _ _ _ hc q => mul_int q (by
  rcases hc with hc | hc
  · exact hc.ok
  · exact hc.ok)
end
theorem fdiv_pos {i j : Int} (h : 0 < j) : i.fdiv j = i / j := Int.fdiv_eq_ediv_of_nonneg i (by omega)
/-! ### calls of the program's own defs -/
/-- at the name x stands a def that keeps the promise sp, by at most level k; dvs: the defaults that fill up -/
structure Cal (P : Program) (w : World) (K : PySem.W.Frag) (mg : Str → Option Value) (base : Heap) (x : Str) (k : Nat) (ps : List Str) (dvs : List V) (sp : Sp) : Prop where
  ex : ∃ (f : Addr) (fd : FuncData) (ds : List Value), FnOk P w K mg base (L2.CX P w) k f fd ps sp ∧ mg x = some (.ref f) ∧ PySem.W.keepIn K (.ref f) = true ∧ Vals dvs ds ∧ Binds K fd ps ds
section
variable {X : Cx} {x : Str} {k j : Nat} {ps : List Str} {dvs : List V} {sp : Sp} {p pos : Pos} {e : Expr} {es : List Expr} {t : TA}
theorem pe_callC (C : Cal X.prog X.w X.K X.mg X.base x k ps dvs sp) (hr : Room j X.A) (hj : k ≤ j) (hg : Gl X x) (ha : PA X (e :: es) t) (hdb : (x == ("__debug__" : Str)) = false := by decide)
    (he : starEach (e :: es) X.env = (false, eval e X.env) :: starEach es X.env := by rfl) (hpl : (backTo pos (starEach es X.env)).any (·.1) = false := by rfl) :
    PE X (.Call (.Name x p) (e :: es) [] pos) (tCall sp dvs E0 t) := by
  obtain ⟨f, fd, ds, F, hm, hk, hd, hb⟩ := C.ex
  exact pe_call F (hr.mono hj) hg hm hk hb hd passL ha hdb he hpl
theorem pe_callC0 (C : Cal X.prog X.w X.K X.mg X.base x k ps dvs sp) (hr : Room j X.A) (hj : k ≤ j) (hg : Gl X x) (hdb : (x == ("__debug__" : Str)) = false := by decide) : PE X (.Call (.Name x p) [] [] pos) (tCall sp dvs E0 tNil) := by
  obtain ⟨f, fd, ds, F, hm, hk, hd, hb⟩ := C.ex
  exact pe_call0 F (hr.mono hj) hg hm hk hb hd passL hdb
/-- in a def that may raise: what the callee raises leaves it -/
theorem pe_callCX {E : XK} (C : Cal X.prog X.w X.K X.mg X.base x k ps dvs sp) (hr : Room j X.A) (hj : k ≤ j) (hg : Gl X x) (tk : Takes X (fun cls d _ H => E cls d H)) (ha : PA X (e :: es) t) (hdb : (x == ("__debug__" : Str)) = false := by decide)
    (he : starEach (e :: es) X.env = (false, eval e X.env) :: starEach es X.env := by rfl) (hpl : (backTo pos (starEach es X.env)).any (·.1) = false := by rfl) :
    PE X (.Call (.Name x p) (e :: es) [] pos) (tCall sp dvs E t) := by
  obtain ⟨f, fd, ds, F, hm, hk, hd, hb⟩ := C.ex
  exact pe_call F (hr.mono hj) hg hm hk hb hd (passes_call tk fun _ _ _ _ h => h) ha hdb he hpl
/-- in a try: what it raises goes to the clause -/
theorem pe_callCS {W : WX} (C : Cal X.prog X.w X.K X.mg X.base x k ps [] sp) (hr : Room j X.A) (hj : k ≤ j) (hg : Gl X x) (tk : Takes X W) (ha : PA X (e :: es) t) (hdb : (x == ("__debug__" : Str)) = false := by decide)
    (he : starEach (e :: es) X.env = (false, eval e X.env) :: starEach es X.env := by rfl) (hpl : (backTo pos (starEach es X.env)).any (·.1) = false := by rfl) :
    PE X (.Call (.Name x p) (e :: es) [] pos) (tCallS sp (WE W) t) := by
  obtain ⟨f, fd, ds, F, hm, hk, hd, hb⟩ := C.ex
  cases hd
  exact pe_callS F (hr.mono hj) hg hm hk hb (fun σ => passAt tk σ) ha hdb he hpl
end
theorem Cal.mono {P : Program} {w : World} {K : PySem.W.Frag} {mg : Str → Option Value} {base : Heap} {x : Str} {k : Nat} {ps : List Str} {dvs : List V} {sp sp' : Sp} (C : Cal P w K mg base x k ps dvs sp)
    (h : ∀ vs H Q E, sp' vs H Q E → sp vs H Q E) : Cal P w K mg base x k ps dvs sp' := by
  obtain ⟨f, fd, ds, F, r⟩ := C.ex
  exact ⟨f, fd, ds, F.imp h, r⟩
/-! ### own exceptions -/
section
variable {X : Cx} {C : Addr} {bmB : List Value} {B newId initId : String}
/-- X(), X an own exception class without own __init__ -/
theorem pmk_own0 {x : Str} {p pos : Pos} (F : ExcBaseFacts B newId initId bmB) (q : PySem.W.excIn X.K C bmB newId = true) (gC : X.mg x = some (.ref C)) (kC : PySem.W.keepIn X.K (.ref C) = true) (r : Raises X (.ref C)) (hg : Gl X x)
    (hdb : (x == ("__debug__" : Str)) = false := by decide) : PMk X (.Call (.Name x p) [] [] pos) (fun _ H Q => Q (.ref C) none H) := by
  intro pins s σ H Q I h
  refine wpAny_Call_Name_kw (ld_glob I hg gC ?_ hdb)
  refine PySem.W.callWith_K0 I.kIn kC ?_
  show wpAny _ _ (call (.ref C) []) _ _ _
  obtain ⟨bm, N, nm, qn, bs, hdct, sn, sub, ab, col, dd, k0, k1, k2, k3, k5, mN, hC, hN, hni, T⟩ := exc_obj I.kIn q
  refine wpAny_call_exc_subT F T hC hN hni (fun h' e hm => ?_) (Nat.zero_le _)
  exact mk_of I hm r h (I.hok.gone hm.new)
end
/-- what the top says of an own exception class without own __init__ -/
structure ExcK (K : PySem.W.Frag) (mg : Str → Option Value) (x : Str) : Prop where
  gC : mg x = some (.ref (He.ga K x))
  xC : PySem.W.excIn K (He.ga K x) He.veBase "ValueError.__new__" = true
  kC : PySem.W.keepIn K (.ref (He.ga K x)) = true
  bC : PySem.W.subIn K (.ref (He.ga K x)) (.type "BaseException") = some true
  tC : PySem.W.typeIn K (.ref (He.ga K x)) = some (.type "type")
section
variable {X : Cx} {x : Str} {p pos pos2 : Pos} {W : WX}
theorem ps_raise0 (hc : X.calm = true) (T : ExcK X.K X.mg x) (tk : Takes X W) (hg : Gl X x) (hdb : (x == ("__debug__" : Str)) = false := by decide) :
    PS X (.Raise (some (.Call (.Name x p) [] [] pos)) none pos2) (fun _ σ H => W (.ref (He.ga X.K x)) none σ H) := ps_raise hc tk (pmk_own0 PySem.F.excBase_ValueError T.xC T.gC T.kC (raises_own T.bC T.tC) hg hdb)
end
/-- what isinstance asks of an exception's class, as a test of K -/
def excCB (K : PySem.W.Frag) (D : Addr) : Bool :=
  He.eqO (PySem.W.findIn K (.ref D) "__getattribute__") (some (some (.builtin "BaseException.__getattribute__"))) && (He.eqO (PySem.W.findIn K (.ref D) "__getattr__") (some none) && (decide (PySem.W.subIn K (.ref D) (.type "BaseException") = some true) && (PySem.W.hasDictIn K D && (He.eqO (PySem.W.findIn K (.ref D) "__class__") (some (some (.builtin "object.__class__"))) &&
  (decide (PySem.W.specialIn K (.builtin "object.__class__") "__get__" = some (some (.builtin "getset_descriptor.__get__"))) && (decide (PySem.W.takesIn K (.builtin "object.__class__") = some true) && decide (PySem.W.mroIn K D (.type "object") = some true)))))))
theorem excCB_ok {K : PySem.W.Frag} {D : Addr} (h : excCB K D = true) : ExcC K D := by
  unfold excCB at h
  obtain ⟨h1, h⟩ := He.ba h
  obtain ⟨h2, h⟩ := He.ba h
  obtain ⟨h3, h⟩ := He.ba h
  obtain ⟨h4, h⟩ := He.ba h
  obtain ⟨h5, h⟩ := He.ba h
  obtain ⟨h6, h⟩ := He.ba h
  obtain ⟨h7, h8⟩ := He.ba h
  exact ⟨He.eqO_ok h1, He.eqO_ok h2, of_decide_eq_true h3, h4, He.eqO_ok h5, of_decide_eq_true h6, of_decide_eq_true h7, of_decide_eq_true h8⟩
/-- isinstance(e, c), e the caught exception, of the class at D -/
def rIsEx (K : PySem.W.Frag) (D a : Addr) (cls : Value) (d : Option Addr) : List V → Hp → VK → Prop := fun xs H Q => cls = .ref D ∧ d = none ∧ rIsE K D a xs H Q
theorem call_isEx {X : Cx} {a D : Addr} {oe : Obj} {pn : List (Addr × Obj)} {cls : Value} {d : Option Addr} (C : ExcC X.K D) (hz : Zc cls d oe) (hf : ∃ vs, oe.data = .fields vs) : CallR (X.suite a ((a, oe) :: pn)) (.builtin "isinstance") (rIsEx X.K D a cls d) := by
  intro pins s σ H xs us Q I r h
  obtain ⟨e1, e2, h⟩ := h
  subst e1 e2
  exact call_isE C hz hf pins s σ H xs us Q I r h
theorem rdIsEx {K : PySem.W.Frag} {D a : Addr} {H : Hp} {Q : VK} {c : V} {cv : Value} {b : Bool} (hc : ∀ u, RelV c u → u = cv) (k : PySem.W.kitOne K (.ref D) cv = some b) (q : Q (.bl b) H) : rIsEx K D a (.ref D) none [.ref a, c] H Q := ⟨rfl, rfl, c, cv, b, rfl, hc, k, q⟩
/-! ### words for readings -/
theorem bb_int : bootBuiltins "int" = some (.type "int") := by decide +kernel
theorem bb_abs : bootBuiltins "abs" = some (.builtin "abs") := by decide +kernel
theorem bb_list : bootBuiltins "list" = some (.type "list") := by decide +kernel
theorem bb_len : bootBuiltins "len" = some (.builtin "len") := by decide +kernel
theorem bb_isinstance : bootBuiltins "isinstance" = some (.builtin "isinstance") := by decide +kernel
theorem bb_tuple : bootBuiltins "tuple" = some (.type "tuple") := by decide +kernel
theorem bb_bool : bootBuiltins "bool" = some (.type "bool") := by decide +kernel
theorem bb_str : bootBuiltins "str" = some (.type "str") := by decide +kernel
theorem bb_ValueError : bootBuiltins "ValueError" = some (.type "ValueError") := by decide +kernel
theorem bb_min : bootBuiltins "min" = some (.builtin "min") := by decide +kernel
theorem bb_max : bootBuiltins "max" = some (.builtin "max") := by decide +kernel
theorem bb_sum : bootBuiltins "sum" = some (.builtin "sum") := by decide +kernel
theorem bb_any : bootBuiltins "any" = some (.builtin "any") := by decide +kernel
theorem bb_all : bootBuiltins "all" = some (.builtin "all") := by decide +kernel
theorem bb_sorted : bootBuiltins "sorted" = some (.builtin "sorted") := by decide +kernel
theorem bb_repr : bootBuiltins "repr" = some (.builtin "repr") := by decide +kernel
/-- isinstance of data -/
def tyD : PyData → String
  | .none => "NoneType"
  | .bool _ => "bool"
  | .int _ => "int"
  | .str _ => "str"
  | .list _ => "list"
  | .tuple _ => "tuple"
  | .dict _ => "dict"
theorem tyx {K : PySem.W.Frag} {H : Hp} {v : V} {d : PyData} (h : Dp K H v d) : TyX K H v (.type (tyD d)) := by
  cases h with
  | non => exact .base .non
  | bl b => exact .base (.bl b)
  | int i => exact .base (.int i)
  | str x => exact .base (.str x)
  | lst hs _ =>
    rcases hs with (hs | ⟨o, hs⟩) | ⟨o, its, n, hl, hc, _⟩
    · exact .base (.lst hs)
    · exact .base (.frz hs)
    · exact .kList hl hc
  | tup hs _ =>
    rcases hs with (hs | ⟨o, hs⟩) | ⟨o, its, n, hl, hc, _⟩
    · exact .base (.tup hs)
    · exact .fTuple hs
    · exact .kTuple hl hc
/-- isinstance(x, T): the answer by the data's type -/
theorem isiD {K : PySem.W.Frag} {H : Hp} {v : V} {d : PyData} {T : String} {b : Bool} {Q : VK} (h : Dp K H v d) (k : kitB (tyD d) T = some b) (q : Q (.bl b) H) : rIsi K [v, .ty T] H Q := ⟨v, .ty T, .type (tyD d), .type T, b, rfl, .ty T, tyx h, kit_ty k, q⟩
/-! ### readings, step by step: each name says which construct has come -/
theorem log2_le {x a : Nat} (h : x < 2 ^ a) : x.log2 ≤ a := by
  by_cases ha : a = 0
  · subst ha
    have : x = 0 := by omega
    subst this
    exact Nat.le_of_eq (by decide)
  · exact Nat.le_of_lt (PySem.Flt.log2_lt_of (by omega) h)
theorem mulW {i j : Int} {a b : Nat} (ha : i.natAbs < 2 ^ a) (hb : j.natAbs < 2 ^ b) (h : a + b ≤ 900000) : CMulG i j := .inr <| by
  have h1 := log2_le ha
  have h2 := log2_le hb
  unfold CMulW
  omega
theorem divX {i j : Int} {b : Nat} (h : j ≠ 0) (hb : j.natAbs < 2 ^ b) (h9 : b < 9000) : CDivX i j := ⟨h, Nat.lt_of_le_of_lt (log2_le hb) h9⟩
/-! named readings of built-in calls -/
def rInt1 : List V → Hp → VK → Prop := fun xs H Q => (∃ i, xs = [.int i] ∧ Q (.int i) H) ∨ ∃ k, xs = [.bl k] ∧ Q (.int (if k then 1 else 0)) H
def rStrI : List V → Hp → VK → Prop := fun xs H Q => ∃ i, xs = [.int i] ∧ i.natAbs.log2 < 1920 ∧ Q (.str (toString i)) H
def rMin2 : List V → Hp → VK → Prop := fun xs H Q => ∃ i j, xs = [.int i, .int j] ∧ Q (.int (if j < i then j else i)) H
def rAbs1 : List V → Hp → VK → Prop := fun xs H Q => ∃ i, xs = [.int i] ∧ Q (.int (if i < 0 then -i else i)) H
def rLenS (K : PySem.W.Frag) : List V → Hp → VK → Prop := fun xs H Q => ∃ p ys, xs = [.ref p] ∧ (SqL K H p ys ∨ SqT K H p ys) ∧ Q (.int ys.length) H
def rListOf (K : PySem.W.Frag) : List V → Hp → VK → Prop := fun xs H Q => ∃ p ys, xs = [.ref p] ∧ (SqL K H p ys ∨ SqT K H p ys) ∧ ∀ l, H l = none → Q (.ref l) (upd H l (.lst ys))
section
variable {X : Cx}
theorem cl_int : CallR X (.type "int") rInt1 := call_int1
theorem cl_str : CallR X (.type "str") rStrI := call_str_int
theorem cl_min2 (hc : X.calm = true) : CallR X (.builtin "min") rMin2 := call_min2 hc
theorem cl_abs : CallR X (.builtin "abs") rAbs1 := call_abs
theorem cl_len : CallR X (.builtin "len") (rLenS X.K) := call_len_seq
theorem cl_list : CallR X (.type "list") (rListOf X.K) := call_list_of
end
def rIsN1 : R2 := fun x y H Q => y = .non ∧ Q (.bl (decide (x = .non))) H
def rNotN1 : R2 := fun x y H Q => y = .non ∧ Q (.bl (!decide (x = .non))) H
section
variable {X : Cx}
theorem op_isNo : OpR X (compareOp .Is) rIsN1 := op_isN
theorem op_notNo : OpR X (compareOp .IsNot) rNotN1 := op_notN
end
/-- == and !=: of scalars, or of data -/
def rEqA (K : PySem.W.Frag) : R2 := fun x y H Q => rEq x y H Q ∨ rEqD K x y H Q
def rNeA (K : PySem.W.Frag) : R2 := fun x y H Q => rNe x y H Q ∨ rNeD K x y H Q
section
variable {X : Cx}
theorem op_eqA (hu : X.A.units + 64 < cLine) : OpR X (compareOp .Eq) (rEqA X.K) := fun pins s σ H x y v u Q I rx ry h => h.elim (op_eq pins s σ H x y v u Q I rx ry) (op_eqD hu pins s σ H x y v u Q I rx ry)
theorem op_neA (hu : X.A.units + 64 < cLine) : OpR X (compareOp .NotEq) (rNeA X.K) := fun pins s σ H x y v u Q I rx ry h => h.elim (op_ne pins s σ H x y v u Q I rx ry) (op_neD hu pins s σ H x y v u Q I rx ry)
end
/-! the same rules with the written part named (in a comprehension's element) -/
section
variable {X : Cx} {K : PySem.W.Frag}
theorem ix_seqK (h : X.K = K) : IxR X (rIx K) := by
  subst h
  exact ix_seq
theorem cl_lenK (h : X.K = K) : CallR X (.builtin "len") (rLenS K) := by
  subst h
  exact cl_len
theorem cl_listK (h : X.K = K) : CallR X (.type "list") (rListOf K) := by
  subst h
  exact cl_list
theorem op_eqAK (h : X.K = K) (hu : X.A.units + 64 < cLine) : OpR X (compareOp .Eq) (rEqA K) := by
  subst h
  exact op_eqA hu
theorem op_neAK (h : X.K = K) (hu : X.A.units + 64 < cLine) : OpR X (compareOp .NotEq) (rNeA K) := by
  subst h
  exact op_neA hu
theorem call_isiKK (h : X.K = K) : CallR X (.builtin "isinstance") (rIsi K) := by
  subst h
  exact call_isi
end
/-! a sequence whose first part meets again: what holds behind it is said once -/
def tSeqJ (t u : TS) : TS := fun D σ H => ∀ U : L2.St → Hp → Prop, (∀ σ' H', u D σ' H' → U σ' H') → t { D with nx := U } σ H
theorem pss_consJ {X : Cx} {st : Stmt} {rest : List Stmt} {t u : TS} (h1 : PS X st t) (h2 : PSs X rest u) : PSs X (st :: rest) (tSeqJ t u) := ⟨fun pins s σ H D I h => (pss_cons h1 h2).run pins s σ H D I (h _ fun _ _ x => x)⟩
theorem seqJ {t u : TS} {D : Ends} {σ : L2.St} {H : Hp} (R : L2.St → Hp → Prop) (h1 : ∀ U : L2.St → Hp → Prop, (∀ σ' H', R σ' H' → U σ' H') → t { D with nx := U } σ H) (h2 : ∀ σ' H', R σ' H' → u D σ' H') : tSeqJ t u D σ H := fun U hU => h1 U fun σ' H' r => hU _ _ (h2 σ' H' r)
section
variable {K : PySem.W.Frag} {H : Hp} {Q : VK} {σ : L2.St}
theorem rdV {i : Nat} {v : V} (h : σ[i]? = some (some v)) (q : Q v H) : tVar i σ H Q := ⟨v, h, q⟩
theorem rdAdd {i j : Int} (q : Q (.int (i + j)) H) : rI0 (fun i j => .int (i + j)) (.int i) (.int j) H Q := ⟨i, j, rfl, rfl, q⟩
theorem rdSub {i j : Int} (q : Q (.int (i - j)) H) : rI0 (fun i j => .int (i - j)) (.int i) (.int j) H Q := ⟨i, j, rfl, rfl, q⟩
theorem rdMul {i j : Int} (c : CMulG i j) (q : Q (.int (i * j)) H) : rI CMulG (fun i j => .int (i * j)) (.int i) (.int j) H Q := ⟨i, j, rfl, rfl, c, q⟩
theorem rdDiv {i j : Int} (c : CDivX i j) (q : Q (.int (i.fdiv j)) H) : rI CDivX (fun i j => .int (i.fdiv j)) (.int i) (.int j) H Q := ⟨i, j, rfl, rfl, c, q⟩
theorem rdDivP {i j : Int} {b : Nat} (h : 0 < j) (hb : j.natAbs < 2 ^ b) (h9 : b < 9000) (q : Q (.int (i / j)) H) : rI CDivX (fun i j => .int (i.fdiv j)) (.int i) (.int j) H Q := ⟨i, j, rfl, rfl, divX (by omega) hb h9, by show Q (.int (i.fdiv j)) H; rw [fdiv_pos h]; exact q⟩
theorem rdMod {i j : Int} (c : 0 < j) (q : Q (.int (i % j)) H) : rI (fun _ j => 0 < j) (fun i j => .int (i % j)) (.int i) (.int j) H Q := ⟨i, j, rfl, rfl, c, q⟩
theorem rdNeg {i : Int} (q : Q (.int (-i)) H) : rU (fun i => .int (-i)) (.int i) H Q := ⟨i, rfl, q⟩
theorem rdEqI {i j : Int} (q : Q (.bl (decide (i = j))) H) : rEqA K (.int i) (.int j) H Q := .inl <| ⟨rfl, by
  have e : decide (V.int i = V.int j) = decide (i = j) := by
    rw [dec_int]
    exact Bool.beq_eq_decide_eq ..
  rw [e]
  exact q⟩
theorem rdNeI {i j : Int} (q : Q (.bl (!decide (i = j))) H) : rNeA K (.int i) (.int j) H Q := .inl <| ⟨rfl, by
  have e : decide (V.int i = V.int j) = decide (i = j) := by
    rw [dec_int]
    exact Bool.beq_eq_decide_eq ..
  rw [e]
  exact q⟩
theorem rdLt {i j : Int} (q : Q (.bl (decide (i < j))) H) : rI0 (fun i j => .bl (decide (i < j))) (.int i) (.int j) H Q := ⟨i, j, rfl, rfl, q⟩
theorem rdGt {i j : Int} (q : Q (.bl (decide (j < i))) H) : rI0 (fun i j => .bl (decide (j < i))) (.int i) (.int j) H Q := ⟨i, j, rfl, rfl, q⟩
theorem rdLe {i j : Int} (q : Q (.bl (decide (i ≤ j))) H) : rI0 (fun i j => .bl (decide (i ≤ j))) (.int i) (.int j) H Q := ⟨i, j, rfl, rfl, q⟩
theorem rdGe {i j : Int} (q : Q (.bl (decide (j ≤ i))) H) : rI0 (fun i j => .bl (decide (j ≤ i))) (.int i) (.int j) H Q := ⟨i, j, rfl, rfl, q⟩
theorem rdPow {i j : Int} (c : CPow i j) (q : Q (.int (i ^ j.toNat)) H) : rI CPow (fun i j => .int (i ^ j.toNat)) (.int i) (.int j) H Q := ⟨i, j, rfl, rfl, c, q⟩
theorem rdInt {i : Int} (q : Q (.int i) H) : rInt1 [.int i] H Q := .inl ⟨i, rfl, q⟩
theorem rdMin2 {m n : Nat} (q : Q (.int ((min m n : Nat) : Int)) H) : rMin2 [.int (m : Int), .int (n : Int)] H Q := ⟨_, _, rfl, by
  have e : (if (n : Int) < m then (n : Int) else m) = ((min m n : Nat) : Int) := by split <;> omega
  rw [e]
  exact q⟩
theorem rdStrI {i : Int} {n : Nat} (h : i.natAbs < 2 ^ n) (hn : n < 1920) (q : Q (.str (toString i)) H) : rStrI [.int i] H Q := ⟨i, rfl, Nat.lt_of_le_of_lt (log2_le h) hn, q⟩
theorem rdIntB {b : Bool} (q : Q (.int (if b then 1 else 0)) H) : rInt1 [.bl b] H Q := .inr ⟨b, rfl, q⟩
theorem rdAbs {i : Int} (q : Q (.int (i.natAbs : Int)) H) : rAbs1 [.int i] H Q := ⟨i, rfl, by
  have e : (if i < 0 then -i else i) = (i.natAbs : Int) := by split <;> omega
  rw [e]
  exact q⟩
theorem rdLenT {a : Addr} {xs : List V} (h : SqT K H a xs) (q : Q (.int (xs.length : Int)) H) : rLenS K [.ref a] H Q := ⟨a, xs, rfl, .inr h, q⟩
theorem rdLenL {a : Addr} {xs : List V} (h : SqL K H a xs) (q : Q (.int (xs.length : Int)) H) : rLenS K [.ref a] H Q := ⟨a, xs, rfl, .inl h, q⟩
theorem rdListL {a : Addr} {xs : List V} (h : SqL K H a xs) (q : ∀ l, H l = none → Q (.ref l) (upd H l (.lst xs))) : rListOf K [.ref a] H Q := ⟨a, xs, rfl, .inl h, q⟩
theorem rdListT {a : Addr} {xs : List V} (h : SqT K H a xs) (q : ∀ l, H l = none → Q (.ref l) (upd H l (.lst xs))) : rListOf K [.ref a] H Q := ⟨a, xs, rfl, .inr h, q⟩
theorem rdIxT {a : Addr} {xs : List V} {i : Int} {v : V} (h : SqT K H a xs) (e : atI xs i = some v) (q : Q v H) : rIx K (.ref a) (.int i) H Q := .inr (.inl ⟨a, xs, i, v, rfl, rfl, h, e, q⟩)
theorem rdIxL {a : Addr} {xs : List V} {i : Int} {v : V} (h : SqL K H a xs) (e : atI xs i = some v) (q : Q v H) : rIx K (.ref a) (.int i) H Q := .inl ⟨a, xs, i, v, rfl, rfl, h, e, q⟩
theorem ixFr0 {x : V} {r : Rat} (h : Fr K H x r) (q : Q (.int r.num) H) : rIx K x (.int 0) H Q := by
  obtain ⟨a, rfl, hs⟩ := h.get
  exact rdIxT hs rfl q
theorem ixFr1 {x : V} {r : Rat} (h : Fr K H x r) (q : Q (.int (r.den : Int)) H) : rIx K x (.int 1) H Q := by
  obtain ⟨a, rfl, hs⟩ := h.get
  exact rdIxT hs rfl q
theorem dpPair {x : V} {p q : Int} (h : Dp K H x (.tuple [.int p, .int q])) : ∃ a, x = .ref a ∧ SqT K H a [.int p, .int q] := by
  cases h with
  | tup hs ha =>
    cases ha with
    | cons h1 h2 =>
      cases h2 with
      | cons h2 h3 =>
        cases h3
        cases h1
        cases h2
        exact ⟨_, rfl, hs⟩
theorem ixP0 {x : V} {p z : Int} (h : Dp K H x (.tuple [.int p, .int z])) (q : Q (.int p) H) : rIx K x (.int 0) H Q := by
  obtain ⟨a, rfl, hs⟩ := dpPair h
  exact rdIxT hs rfl q
theorem ixP1 {x : V} {p z : Int} (h : Dp K H x (.tuple [.int p, .int z])) (q : Q (.int z) H) : rIx K x (.int 1) H Q := by
  obtain ⟨a, rfl, hs⟩ := dpPair h
  exact rdIxT hs rfl q
theorem rdGcd {a b : Int} (q : Q (.int ((Nat.gcd a.natAbs b.natAbs : Nat) : Int)) H) : rGcd [.int a, .int b] H Q := ⟨a, b, rfl, q⟩
end
/-! loops, the ends by parts -/
theorem forRange {lo : Int} {n : Nat} {g : TG} {tb : TS} {nx : L2.St → Hp → Prop} {rt : VK} {σ : L2.St} {H : Hp} (Pv : Nat → L2.St → Hp → Prop) (h0 : Pv 0 σ H)
    (hs : ∀ i σ H, i < n → Pv i σ H → g (.int (lo + i)) σ H fun σ2 H2 => tb { nx := Pv (i + 1), rt := rt, ct := Pv (i + 1), bk := nx } σ2 H2) (hd : ∀ σ H, Pv n σ H → nx σ H) :
    ∃ W : Nat → Nat → L2.St → Hp → Prop, (∃ m, W 0 m σ H) ∧ ∀ i m σ H, W i m σ H →
      ((Itr lo n).stop i H ∧ nx σ H) ∨ ((Itr lo n).go i H ∧ ∃ N : L2.St → Hp → Prop, (∀ σ' H', N σ' H' → ∃ m', m' < m ∧ W (i + 1) m' σ' H') ∧ ∀ x H', (Itr lo n).yld i H x H' → g x σ H' fun σ2 H2 => tb { nx := N, rt := rt, ct := N, bk := nx } σ2 H2) :=
  for_range (D := { nx := nx, rt := rt }) Pv h0 hs hd
theorem forList {K : PySem.W.Frag} {a : Addr} {xs : List V} {g : TG} {tb : TS} {nx : L2.St → Hp → Prop} {rt : VK} {σ : L2.St} {H : Hp} (Pv : Nat → L2.St → Hp → Prop) (h0 : Pv 0 σ H) (hl : ∀ i σ H, i ≤ xs.length → Pv i σ H → SqL K H a xs)
    (hs : ∀ i x σ H, xs[i]? = some x → Pv i σ H → g x σ H fun σ2 H2 => tb { nx := Pv (i + 1), rt := rt, ct := Pv (i + 1), bk := nx } σ2 H2) (hd : ∀ σ H, Pv xs.length σ H → nx σ H) :
    ∃ W : Nat → Nat → L2.St → Hp → Prop, (∃ m, W 0 m σ H) ∧ ∀ i m σ H, W i m σ H →
      ((Itl K a).stop i H ∧ nx σ H) ∨ ((Itl K a).go i H ∧ ∃ N : L2.St → Hp → Prop, (∀ σ' H', N σ' H' → ∃ m', m' < m ∧ W (i + 1) m' σ' H') ∧ ∀ x H', (Itl K a).yld i H x H' → g x σ H' fun σ2 H2 => tb { nx := N, rt := rt, ct := N, bk := nx } σ2 H2) :=
  for_list (D := { nx := nx, rt := rt }) Pv h0 hl hs hd
theorem noExc {P : Program} {w : World} {H : Hp} {s : Shared} {e : Value} {s' : Shared} (z : L2.CX P w [] H s (fun _ _ _ => False) e s') : False := by
  obtain ⟨_, _, _, _, _, _, _, _, _, _, _, _, z⟩ := z
  exact z.elim
/-! ### isinstance of data, by the type -/
def dInt : PyData → Bool
  | .int _ => true
  | .bool _ => true
  | _ => false
def dBool : PyData → Bool
  | .bool _ => true
  | _ => false
def dStr : PyData → Bool
  | .str _ => true
  | _ => false
def dTup : PyData → Bool
  | .tuple _ => true
  | _ => false
def dLst : PyData → Bool
  | .list _ => true
  | _ => false
section
variable {K : PySem.W.Frag} {H : Hp} {Q : VK} {v : V} {d : PyData}
theorem isiInt (h : Dp K H v d) (q : Q (.bl (dInt d)) H) : rIsi K [v, .ty "int"] H Q := isiD h (by
  cases h with
  | non => exact (by decide +kernel : kitB "NoneType" "int" = some false)
  | bl b => exact (by decide +kernel : kitB "bool" "int" = some true)
  | int i => exact (by decide +kernel : kitB "int" "int" = some true)
  | str x => exact (by decide +kernel : kitB "str" "int" = some false)
  | lst h1 h2 => exact (by decide +kernel : kitB "list" "int" = some false)
  | tup h1 h2 => exact (by decide +kernel : kitB "tuple" "int" = some false)) q
theorem isiBool (h : Dp K H v d) (q : Q (.bl (dBool d)) H) : rIsi K [v, .ty "bool"] H Q := isiD h (by
  cases h with
  | non => exact (by decide +kernel : kitB "NoneType" "bool" = some false)
  | bl b => exact (by decide +kernel : kitB "bool" "bool" = some true)
  | int i => exact (by decide +kernel : kitB "int" "bool" = some false)
  | str x => exact (by decide +kernel : kitB "str" "bool" = some false)
  | lst h1 h2 => exact (by decide +kernel : kitB "list" "bool" = some false)
  | tup h1 h2 => exact (by decide +kernel : kitB "tuple" "bool" = some false)) q
theorem isiStr (h : Dp K H v d) (q : Q (.bl (dStr d)) H) : rIsi K [v, .ty "str"] H Q := isiD h (by
  cases h with
  | non => exact (by decide +kernel : kitB "NoneType" "str" = some false)
  | bl b => exact (by decide +kernel : kitB "bool" "str" = some false)
  | int i => exact (by decide +kernel : kitB "int" "str" = some false)
  | str x => exact (by decide +kernel : kitB "str" "str" = some true)
  | lst h1 h2 => exact (by decide +kernel : kitB "list" "str" = some false)
  | tup h1 h2 => exact (by decide +kernel : kitB "tuple" "str" = some false)) q
theorem isiTup (h : Dp K H v d) (q : Q (.bl (dTup d)) H) : rIsi K [v, .ty "tuple"] H Q := isiD h (by
  cases h with
  | non => exact (by decide +kernel : kitB "NoneType" "tuple" = some false)
  | bl b => exact (by decide +kernel : kitB "bool" "tuple" = some false)
  | int i => exact (by decide +kernel : kitB "int" "tuple" = some false)
  | str x => exact (by decide +kernel : kitB "str" "tuple" = some false)
  | lst h1 h2 => exact (by decide +kernel : kitB "list" "tuple" = some false)
  | tup h1 h2 => exact (by decide +kernel : kitB "tuple" "tuple" = some true)) q
theorem isiLst (h : Dp K H v d) (q : Q (.bl (dLst d)) H) : rIsi K [v, .ty "list"] H Q := isiD h (by
  cases h with
  | non => exact (by decide +kernel : kitB "NoneType" "list" = some false)
  | bl b => exact (by decide +kernel : kitB "bool" "list" = some false)
  | int i => exact (by decide +kernel : kitB "int" "list" = some false)
  | str x => exact (by decide +kernel : kitB "str" "list" = some false)
  | lst h1 h2 => exact (by decide +kernel : kitB "list" "list" = some true)
  | tup h1 h2 => exact (by decide +kernel : kitB "tuple" "list" = some false)) q
end
def dNon : PyData → Bool
  | .none => true
  | _ => false
section
variable {K : PySem.W.Frag} {H : Hp} {Q : VK} {v : V} {d : PyData}
theorem dNon_eq (h : Dp K H v d) : decide (v = .non) = dNon d := by cases h <;> rfl
theorem rdIsN (h : Dp K H v d) (q : Q (.bl (dNon d)) H) : rIsN1 v .non H Q := ⟨rfl, by rw [dNon_eq h]; exact q⟩
theorem rdNotN (h : Dp K H v d) (q : Q (.bl (!dNon d)) H) : rNotN1 v .non H Q := ⟨rfl, by rw [dNon_eq h]; exact q⟩
theorem rdEqB {i j : Bool} (q : Q (.bl (decide (i = j))) H) : rEqA K (.bl i) (.bl j) H Q := .inl <| ⟨rfl, by
  have e : decide (V.bl i = V.bl j) = decide (i = j) := by
    rw [dec_bl]
    exact Bool.beq_eq_decide_eq ..
  rw [e]
  exact q⟩
theorem rdEqS {i j : Str} (q : Q (.bl (decide (i = j))) H) : rEqA K (.str i) (.str j) H Q := .inl <| ⟨rfl, by
  have e : decide (V.str i = V.str j) = decide (i = j) := by
    rw [dec_str]
    exact Bool.beq_eq_decide_eq ..
  rw [e]
  exact q⟩
theorem rdNeS {i j : Str} (q : Q (.bl (!decide (i = j))) H) : rNeA K (.str i) (.str j) H Q := .inl <| ⟨rfl, by
  have e : decide (V.str i = V.str j) = decide (i = j) := by
    rw [dec_str]
    exact Bool.beq_eq_decide_eq ..
  rw [e]
  exact q⟩
end
/-- a display's reading, by name -/
def rTup : List V → Hp → VK → Prop := fun xs H Q => xs.length ≤ sizeLine ∧ ∀ p, H p = none → Q (.ref p) (upd H p (.tup xs))
def rLst : List V → Hp → VK → Prop := fun xs H Q => xs.length ≤ sizeLine ∧ ∀ p, H p = none → Q (.ref p) (upd H p (.lst xs))
def tTupN (t : TA) : TE := fun σ H Q => t σ H fun xs H1 => rTup xs H1 Q
def tLstN (t : TA) : TE := fun σ H Q => t σ H fun xs H1 => rLst xs H1 Q
/-! displays of data: what is laid is new -/
section
variable {K : PySem.W.Frag} {H : Hp} {Q : VK}
theorem rdTupD {xs : List V} {ds : List PyData} (h : DpAll K H xs ds) (hz : xs.length ≤ sizeLine) (q : ∀ H' v, Same H H' → Dp K H' v (.tuple ds) → Q v H') : rTup xs H Q :=
  ⟨hz, fun p np => q _ _ (sameNew np) (.tup (.inl (.inl upd_same)) (Dp.monoAll (sameNew np) _ _ h))⟩
theorem rdLstD {xs : List V} {ds : List PyData} (h : DpAll K H xs ds) (hz : xs.length ≤ sizeLine) (q : ∀ H' v, Same H H' → Dp K H' v (.list ds) → Q v H') : rLst xs H Q :=
  ⟨hz, fun p np => q _ _ (sameNew np) (.lst (.inl (.inl upd_same)) (Dp.monoAll (sameNew np) _ _ h))⟩
/-- a display, its list tracked -/
theorem rdLstH {xs : List V} (hz : xs.length ≤ sizeLine) (q : ∀ H' p, Same H H' → H p = none → H' p = some (.lst xs) → Q (.ref p) H') : rLst xs H Q :=
  ⟨hz, fun p np => q _ _ (sameNew np) np upd_same⟩
end
section
variable {X : Cx} {es : List Expr} {t : TA} {pos : Pos}
theorem pe_tupN {x1} (h : PA X es t) : PE X (.Tuple es x1 pos) (tTupN t) := pe_tup h
theorem pe_lstN (h : PA X es t) : PE X (.List es pos) (tLstN t) := pe_lst h
end
theorem small_line {n : Nat} (h : n ≤ 1000) : n ≤ sizeLine := Nat.le_of_lt (small1000 h)
theorem dpAll_len {K : PySem.W.Frag} {H : Hp} : ∀ {xs : List V} {ds : List PyData}, DpAll K H xs ds → xs.length = ds.length
  | _, _, .nil => rfl
  | _, _, .cons _ h2 => congrArg Nat.succ (dpAll_len h2)
theorem dpAll_two {K : PySem.W.Frag} {H : Hp} {xs : List V} {ds : List PyData} (h : DpAll K H xs ds) (l : ds.length = 2) : ∃ v1 v2 x y, xs = [v1, v2] ∧ ds = [x, y] ∧ Dp K H v1 x ∧ Dp K H v2 y := by
  match ds, h, l with
  | [x, y], .cons (v := v1) g1 (.cons (v := v2) g2 .nil), _ => exact ⟨v1, v2, x, y, rfl, rfl, g1, g2⟩
theorem dTup_of {K : PySem.W.Frag} {H : Hp} {v : V} {d : PyData} (h : Dp K H v d) (t : dTup d = true) : ∃ a xs ds, v = .ref a ∧ d = .tuple ds ∧ SqT K H a xs ∧ DpAll K H xs ds := by
  cases h with
  | tup h1 h2 => exact ⟨_, _, _, rfl, rfl, h1, h2⟩
  | _ => cases t
theorem dInt_of {K : PySem.W.Frag} {H : Hp} {v : V} {i : Int} (h : Dp K H v (.int i)) : v = .int i := by
  cases h
  rfl
/-- all items, as a conjunction -/
def allP {α : Type} (P : α → Prop) : List α → Prop
  | [] => True
  | x :: xs => P x ∧ allP P xs
theorem allP_get {α : Type} {P : α → Prop} : ∀ {xs : List α} {i : Nat} {x : α}, allP P xs → xs[i]? = some x → P x
  | [], _, _, _, h => by simp at h
  | y :: r, 0, x, a, h => by
    simp at h
    subst h
    exact a.1
  | y :: r, i + 1, x, a, h => allP_get (i := i) a.2 (by simpa using h)
theorem frD_int (p : Int) : frD (Rat.divInt p 1) = .tuple [.int p, .int 1] := by
  unfold frD
  rw [← num_pos (p := p) (q := 1) (by decide), ← den_pos (p := p) (q := 1) (by decide)]
  have e : Nat.gcd p.natAbs (1 : Int).natAbs = 1 := Nat.gcd_one_right _
  rw [e]
  simp
theorem fr_int {K : PySem.W.Frag} {H : Hp} {v : V} {p : Int} (h : Dp K H v (.tuple [.int p, .int 1])) : Fr K H v (Rat.divInt p 1) := by
  unfold Fr
  rw [frD_int]
  exact h
/-- the law's end, for defs that may raise (the wish of the caller: nothing is let out) -/
theorem endOfLaw {l : PySem.W.OpenLaw} {n k : Nat} {q : Program} {loose : List Str} {XP : (Str → Option Value) → Heap → Prop} {YP : World → Heap → Prop} {d : DefRec} {x : Str}
    (most : l.most = some n) (small : n ≤ sizeLine) (plain : d.params.defaults = []) (room : Room k callerA)
    (all : ∀ (w : World) (mg : Str → Option Value) (fa : Addr) (h : Heap), YP w h → h.Ns mainGlobals mg → mg d.name = some (.ref fa) → ∃ (K : PySem.W.Frag) (fd : FuncData) (sp : Sp), K.In h ∧
      (∀ (s : Shared) (u : Value), BindsTo s fd ⟨[u], []⟩ [(x, u)]) ∧ (∀ (H : Hp) (a : Addr) (ns : List Int), ns.length ≤ n → Only H → SqL K H a (ns.map V.int) → sp [.ref a] H (fun v _ => v = .bl true) E0) ∧
      ∀ base : Heap, K.In base → base.Ns mainGlobals mg → FnOk l.prog w K mg base (L2.CX l.prog w) k fa fd [x] sp) :
    PySem.W.WalkO q loose XP YP l.row.toRowW d [] (fun f vs => PySem.call f vs) := by
  refine Att.attach_call most plain fun w sA sB mg mb fa o pm cd doc a vs ns G Y h1 h2 h3 hm ha hi len hg => ?_
  obtain ⟨K, fd, sp, kin, bnd, want, ok⟩ := all w mg fa _ Y G.T.g hm
  refine law_call kin G.T.g G.T.b G.T.builtins G.T.nolimit hg ha hi (Nat.le_trans len small) room ok bnd (fun H o S => want H a ns len o S) fun H e s' => noExc
theorem shaped_fr (r : Rat) : SeqAt.shaped (frD r) = true := rfl
theorem eqv_fr (r s : Rat) : PyData.eqv (frD r) (frD s) = decide (r = s) := by
  have e : PyData.eqv (frD r) (frD s) = ((r.num == s.num) && (((r.den : Int) == (s.den : Int)) && true)) := rfl
  rw [e, Bool.and_true, Bool.eq_iff_iff, decide_eq_true_iff, Bool.and_eq_true, beq_iff_eq, beq_iff_eq]
  exact ⟨fun h => Rat.ext h.1 (by omega), fun h => by rw [h]; exact ⟨rfl, rfl⟩⟩
section
variable {K : PySem.W.Frag} {H : Hp} {Q : VK} {x y : V} {r s : Rat}
theorem rdEqFr (h1 : Fr K H x r) (h2 : Fr K H y s) (q : Q (.bl (decide (r = s))) H) : rEqA K x y H Q := .inr ⟨_, _, h1, h2, shaped_fr r, shaped_fr s, by rw [eqv_fr]; exact q⟩
theorem rdNeFr (h1 : Fr K H x r) (h2 : Fr K H y s) (q : Q (.bl (!decide (r = s))) H) : rNeA K x y H Q := .inr ⟨_, _, h1, h2, shaped_fr r, shaped_fr s, by rw [eqv_fr]; exact q⟩
end
theorem line2 : 2 ≤ sizeLine := by decide
theorem line1 : 1 ≤ sizeLine := by decide
theorem line3 : 3 ≤ sizeLine := by decide
theorem line4 : 4 ≤ sizeLine := by decide
/-- an if whose test is a Bool -/
theorem ifB {b : Bool} {A B : Prop} (h1 : b = true → A) (h2 : b = false → B) : if b = true then A else B := by
  cases b with
  | true => exact h1 rfl
  | false => exact iteF (h2 rfl)
theorem ifBF {b : Bool} {A B : Prop} (h : b = false) (q : B) : if b = true then A else B := by
  rw [h]
  exact iteF q
theorem ifNe {c : Prop} [Decidable c] {A B : Prop} (h : c) (q : B) : if (!decide c) = true then A else B := ifBF (by rw [decide_eq_true h]; rfl) q
theorem ifYes {c : Prop} [Decidable c] {A B : Prop} (h : c) (q : A) : if decide c = true then A else B := by
  rw [decide_eq_true h]
  exact iteT q
theorem ifNo {c : Prop} [Decidable c] {A B : Prop} (h : ¬c) (q : B) : if decide c = true then A else B := by
  rw [decide_eq_false h]
  exact iteF q
theorem ifP {c : Prop} [Decidable c] {A B : Prop} (h : c) (q : A) : if c then A else B := by
  rw [if_pos h]
  exact q
theorem ifN {c : Prop} [Decidable c] {A B : Prop} (h : ¬c) (q : B) : if c then A else B := by
  rw [if_neg h]
  exact q
theorem ifBT {b : Bool} {A B : Prop} (h : b = true) (q : A) : if b = true then A else B := by
  rw [h]
  exact iteT q
theorem ifD {c : Prop} [Decidable c] {A B : Prop} (h1 : c → A) (h2 : ¬c → B) : if decide c = true then A else B := by
  by_cases h : c
  · rw [decide_eq_true h]
    exact h1 h
  · rw [decide_eq_false h]
    exact iteF (h2 h)
end Ub

namespace Ub
open PySem PySem.Spec PyProof.Rows L2 UbM
/-! ### the law's deck: a list [cells, place, rest, seed] -/
/-- all stands but what is at d -/
def But (d : Addr) (H H' : Hp) : Prop := ∀ b o, b ≠ d → H b = some o → H' b = some o
/-- the deck at d, its cells at s -/
def DeckS (H : Hp) (d s : Addr) : Prop := ∃ (ns : List Int) (i r m : Int), H d = some (.lst [.ref s, .int i, .int r, .int m]) ∧ H s = some (.lst (ns.map V.int)) ∧ s ≠ d ∧ 0 ≤ i ∧ ns.length ≤ 63
/-- what a draw leaves: all but the deck's own list; the deck keeps its cells -/
structure SameX (d : Addr) (H H' : Hp) : Prop where
  but : But d H H'
  cells : ∀ s, DeckS H d s → DeckS H' d s
theorem SameX.refl {d : Addr} (H : Hp) : SameX d H H := ⟨fun _ _ _ h => h, fun _ h => h⟩
theorem SameX.trans {d : Addr} {H H1 H2 : Hp} (a : SameX d H H1) (b : SameX d H1 H2) : SameX d H H2 := ⟨fun c o n h => b.but c o n (a.but c o n h), fun s h => b.cells s (a.cells s h)⟩
theorem Same.x {d : Addr} {H H' : Hp} (a : Same H H') : SameX d H H' := ⟨fun b o _ h => a b o h, fun s ⟨ns, i, r, m, h1, h2, h3⟩ => ⟨ns, i, r, m, a _ _ h1, a _ _ h2, h3⟩⟩
theorem but_upd {d : Addr} {H : Hp} {o : HO} : But d H (upd H d o) := fun b x n h => by
  rw [upd_ne n]
  exact h
theorem sameX_deck {d s : Addr} {H : Hp} {i r m : Int} {j t k : Int} (h : H d = some (.lst [.ref s, .int j, .int t, .int k])) (hi : 0 ≤ i) : SameX d H (upd H d (.lst [.ref s, .int i, .int r, .int m])) :=
  ⟨but_upd, fun s' ⟨ns, i', r', m', h1, h2, h3, _, h5⟩ => by
    rw [h] at h1
    cases h1
    exact ⟨ns, i, r, m, upd_same, by rw [upd_ne h3]; exact h2, h3, hi, h5⟩⟩
structure Deck (H : Hp) (d : Addr) : Prop where
  ex : ∃ (s : Addr) (ns : List Int) (i r m : Int), H d = some (.lst [.ref s, .int i, .int r, .int m]) ∧ H s = some (.lst (ns.map V.int)) ∧ s ≠ d ∧ 0 ≤ i ∧ ns.length ≤ 63
theorem Deck.mono {H H' : Hp} {d : Addr} (D : Deck H d) (e : Same H H') : Deck H' d := by
  obtain ⟨s, ns, i, r, m, h1, h2, h3, h4, h5⟩ := D.ex
  exact ⟨s, ns, i, r, m, e _ _ h1, e _ _ h2, h3, h4, h5⟩
/-- no list in it -/
def noL : PyData → Bool
  | .none | .bool _ | .int _ | .str _ => true
  | .list _ | .dict _ => false
  | .tuple ds => decide (ds.length ≤ 1000) && noLs ds
where noLs : List PyData → Bool
  | [] => true
  | d :: ds => noL d && noLs ds
theorem tseqX {K : PySem.W.Frag} {H H' : Hp} {d a : Addr} {xs : List V} (e : But d H H') (hd : ∃ ys, H d = some (.lst ys)) (h : SqT K H a xs) : SqT K H' a xs := by
  obtain ⟨ys, hd⟩ := hd
  rcases h with (h | ⟨o, h⟩) | h
  · exact .inl (.inl (e _ _ (ne_of h hd (by intro z; cases z)) h))
  · exact .inl (.inr ⟨o, e _ _ (ne_of h hd (by intro z; cases z)) h⟩)
  · exact .inr h
mutual
theorem Dp.monoX {K : PySem.W.Frag} {H H' : Hp} {d : Addr} (e : But d H H') (hd : ∃ ys, H d = some (.lst ys)) : ∀ (dt : PyData) (v : V), noL dt = true → Dp K H v dt → Dp K H' v dt
  | .none, _, _, h => by cases h; exact .non
  | .bool b, _, _, h => by cases h; exact .bl b
  | .int i, _, _, h => by cases h; exact .int i
  | .str x, _, _, h => by cases h; exact .str x
  | .list ds, _, n, _ => by
    unfold noL at n
    cases n
  | .tuple ds, _, n, h => by
    cases h with
    | tup hs ha => exact .tup (tseqX e hd hs) (Dp.monoXAll e hd ds _ (by unfold noL at n; exact (Bool.and_eq_true_iff.mp n).2) ha)
  | .dict _, _, _, h => by cases h
theorem Dp.monoXAll {K : PySem.W.Frag} {H H' : Hp} {d : Addr} (e : But d H H') (hd : ∃ ys, H d = some (.lst ys)) : ∀ (ds : List PyData) (vs : List V), noL.noLs ds = true → DpAll K H vs ds → DpAll K H' vs ds
  | [], _, _, h => by cases h; exact .nil
  | dt :: ds, _, n, h => by
    unfold noL.noLs at n
    obtain ⟨n1, n2⟩ := Bool.and_eq_true_iff.mp n
    cases h with
    | cons h1 h2 => exact .cons (Dp.monoX e hd dt _ n1 h1) (Dp.monoXAll e hd ds _ n2 h2)
end
theorem Deck.lst {H : Hp} {d : Addr} (D : Deck H d) : ∃ ys, H d = some (.lst ys) := by
  obtain ⟨s, ns, i, r, m, h1, _⟩ := D.ex
  exact ⟨_, h1⟩
theorem Fr.monoX {K : PySem.W.Frag} {H H' : Hp} {d : Addr} {v : V} {r : Rat} (h : Fr K H v r) (e : SameX d H H') (D : Deck H d) : Fr K H' v r := Dp.monoX e.but D.lst _ _ rfl h
theorem Deck.cells {H : Hp} {d : Addr} (D : Deck H d) : ∃ s, DeckS H d s := by
  obtain ⟨s, ns, i, r, m, h⟩ := D.ex
  exact ⟨s, ns, i, r, m, h⟩
theorem DeckS.deck {H : Hp} {d s : Addr} (h : DeckS H d s) : Deck H d := by
  obtain ⟨ns, i, r, m, h⟩ := h
  exact ⟨s, ns, i, r, m, h⟩
/-- a list that was laid later than the deck is changed: the deck stands -/
theorem DeckS.upd {H H' : Hp} {d s a : Addr} {o : HO} (h0 : DeckS H d s) (h : DeckS H' d s) (ha : H a = none) : DeckS (upd H' a o) d s := by
  obtain ⟨_, _, _, _, g1, g2, _⟩ := h0
  obtain ⟨ns, i, r, m, h1, h2, h3⟩ := h
  exact ⟨ns, i, r, m, by rw [upd_ne (ne_of_none g1 ha)]; exact h1, by rw [upd_ne (ne_of_none g2 ha)]; exact h2, h3⟩
theorem SameX.upd {H H' : Hp} {d a : Addr} {o : HO} (h : SameX d H H') (ha : H a = none) : SameX d H (upd H' a o) := ⟨fun b x n e => by
  rw [upd_ne (ne_of_none e ha)]
  exact h.but _ _ n e, fun s hs => hs.upd (h.cells s hs) ha⟩
section
variable {K : PySem.W.Frag} {H : Hp} {Q : VK}
theorem rdSetL {p : Addr} {xs : List V} {k : Int} {j : Nat} {v : V} {Q : Hp → Prop} (h : H p = some (.lst xs)) (e : ixN xs.length k = some j) (q : Q (upd H p (.lst (xs.set j v)))) : rSetL (.ref p) (.int k) v H Q := ⟨p, xs, k, j, rfl, rfl, h, e, q⟩
theorem rdSetU {p : Addr} {xs : List V} {k : Int} {j : Nat} {v : V} {Q : Hp → Prop} (e : ixN xs.length k = some j) (q : Q (upd H p (.lst (xs.set j v)))) : rSetL (.ref p) (.int k) v (upd H p (.lst xs)) Q := ⟨p, xs, k, j, rfl, rfl, upd_same, e, by rw [upd_upd]; exact q⟩
end
theorem lt_pow {a b : Nat} (h : a ≤ b) : (2 : Nat) ^ a ≤ 2 ^ b := Nat.pow_le_pow_right (by decide) h
end Ub

namespace Ub
open PySem PySem.Spec PyProof.Rows L2 UbM
/-! ### lists of fractions -/
def sumR (rs : List Rat) : Rat := rs.foldl (· + ·) 0
theorem sumR_take {rs : List Rat} {i : Nat} {r : Rat} (h : rs[i]? = some r) : sumR (rs.take (i + 1)) = sumR (rs.take i) + r := by
  unfold sumR
  obtain ⟨hi, e⟩ := List.getElem?_eq_some_iff.mp h
  rw [List.take_succ_eq_append_getElem hi, List.foldl_append, e]
  rfl
theorem bd_zero : Bd 1 (0 : Rat) := ⟨by decide, by decide⟩
theorem bd_sum {n : Nat} : ∀ (rs : List Rat) (m : Nat) (r : Rat), Bd m r → (∀ x ∈ rs, Bd n x) → Bd (m + rs.length * (n + 1)) (rs.foldl (· + ·) r)
  | [], m, r, h, _ => by simpa using h
  | x :: rs, m, r, h, hx => by
    have h1 := bd_sum rs (m + n + 1) (r + x) (bd_add h (hx x (List.mem_cons_self ..))) fun y hy => hx y (List.mem_cons_of_mem _ hy)
    refine h1.mono ?_
    rw [List.length_cons, Nat.succ_mul]
    omega
theorem bd_sumR {n : Nat} {rs : List Rat} (h : ∀ x ∈ rs, Bd n x) : Bd (1 + rs.length * (n + 1)) (sumR rs) := bd_sum rs 1 0 bd_zero h
def dotR (rs ss : List Rat) : Rat := sumR (List.zipWith (· * ·) rs ss)
theorem zip_at {rs ss : List Rat} {i : Nat} {r s : Rat} (h1 : rs[i]? = some r) (h2 : ss[i]? = some s) : (List.zipWith (· * ·) rs ss)[i]? = some (r * s) := by
  rw [List.getElem?_zipWith, h1, h2]
theorem bd_zip {n : Nat} {rs ss : List Rat} (h1 : ∀ x ∈ rs, Bd n x) (h2 : ∀ x ∈ ss, Bd n x) : ∀ x ∈ List.zipWith (· * ·) rs ss, Bd (n + n) x := by
  intro x hx
  obtain ⟨i, hi, e⟩ := List.getElem_of_mem hx
  rw [List.getElem_zipWith] at e
  rw [← e]
  exact bd_mul (h1 _ (List.getElem_mem _)) (h2 _ (List.getElem_mem _))
theorem take_bd {n : Nat} {rs : List Rat} (h : ∀ x ∈ rs, Bd n x) (i : Nat) : ∀ x ∈ rs.take i, Bd n x := fun x hx => h x (List.mem_of_mem_take hx)
/-- the place of the first fraction that no later one is beaten by: w = -1 the least, w = 1 the greatest -/
def pick (w : Int) (rs : List Rat) : Nat → Option Nat
  | 0 => none
  | i + 1 => match pick w rs i with
    | none => some i
    | some j => if cmpR (rs.getD i 0) (rs.getD j 0) = w then some i else some j
theorem pick_lt {w : Int} {rs : List Rat} : ∀ {i j : Nat}, pick w rs i = some j → j < i
  | 0, j, h => by cases h
  | i + 1, j, h => by
    unfold pick at h
    split at h
    · cases h
      omega
    · rename_i j0 e
      have := pick_lt e
      split at h
      · cases h
        omega
      · cases h
        omega
def optV : Option Nat → V
  | none => .non
  | some k => .int (k : Int)
def optD : Option Nat → PyData
  | none => .none
  | some k => .int (k : Int)
theorem dp_opt {K : PySem.W.Frag} {H : Hp} (o : Option Nat) : Dp K H (optV o) (optD o) := by
  cases o with
  | none => exact .non
  | some k => exact .int _
theorem frs_get {K : PySem.W.Frag} {H : Hp} {xs : List V} : ∀ {rs : List Rat} {xs : List V} {i : Nat} {r : Rat}, DpAll K H xs (rs.map frD) → rs[i]? = some r → ∃ v, xs[i]? = some v ∧ Fr K H v r
  | [], _, _, _, _, h => by simp at h
  | r0 :: rs, _, 0, r, .cons h1 _, h => by
    simp at h
    subst h
    exact ⟨_, rfl, h1⟩
  | r0 :: rs, _, i + 1, r, .cons _ h2, h => by
    obtain ⟨v, e, q⟩ := frs_get (xs := []) (i := i) (r := r) h2 (by simpa using h)
    exact ⟨v, by simpa using e, q⟩
theorem frs_at {K : PySem.W.Frag} {H : Hp} : ∀ {rs : List Rat} {xs : List V} {i : Nat} {v : V}, DpAll K H xs (rs.map frD) → xs[i]? = some v → ∃ r, rs[i]? = some r ∧ Fr K H v r
  | [], _, _, _, h, e => by
    cases h
    simp at e
  | r0 :: rs, _, 0, v, .cons h1 _, h => by
    simp at h
    subst h
    exact ⟨_, rfl, h1⟩
  | r0 :: rs, _, i + 1, v, .cons _ h2, h => by
    obtain ⟨r, e, q⟩ := frs_at (i := i) (v := v) h2 (by simpa using h)
    exact ⟨r, by simpa using e, q⟩
/-- v is a list of the fractions rs -/
def Frs (K : PySem.W.Frag) (H : Hp) (v : V) (rs : List Rat) : Prop := Dp K H v (.list (rs.map frD))
theorem Frs.mono {K : PySem.W.Frag} {H H' : Hp} {v : V} {rs : List Rat} (e : Same H H') (h : Frs K H v rs) : Frs K H' v rs := Dp.mono e _ _ h
theorem Frs.get {K : PySem.W.Frag} {H : Hp} {v : V} {rs : List Rat} (h : Frs K H v rs) : ∃ a xs, v = .ref a ∧ SqL K H a xs ∧ DpAll K H xs (rs.map frD) := by
  unfold Frs at h
  cases h with
  | lst h1 h2 => exact ⟨_, _, rfl, h1, h2⟩
theorem frs_len {K : PySem.W.Frag} {H : Hp} {xs : List V} {rs : List Rat} (h : DpAll K H xs (rs.map frD)) : xs.length = rs.length := by
  have := dpAll_len h
  rw [List.length_map] at this
  exact this
theorem canLay_frs : ∀ rs : List Rat, PyData.canLayAll0 (rs.map frD) = true
  | [] => rfl
  | r :: rs => by
    show (PyData.canLay0 (frD r) && PyData.canLayAll0 (rs.map frD)) = true
    rw [canLay_frs rs]
    rfl
theorem depth_frs : ∀ rs : List Rat, PyData.depthAll (rs.map frD) ≤ 1
  | [] => Nat.zero_le _
  | r :: rs => by
    show max (PyData.depth (frD r)) (PyData.depthAll (rs.map frD)) ≤ 1
    have h1 := depth_frs rs
    have h2 : PyData.depth (frD r) = 1 := rfl
    omega
theorem shaped_frs (rs : List Rat) : SeqAt.shaped (.list (rs.map frD)) = true := by
  show (PyData.canLayAll0 (rs.map frD) && decide (PyData.depthAll (rs.map frD) + 1 ≤ 64)) = true
  rw [canLay_frs, decide_eq_true (by have := depth_frs rs; omega)]
  rfl
theorem noL_frs : ∀ rs : List Rat, noL.noLs (rs.map frD) = true
  | [] => rfl
  | r :: rs => by
    show (noL (frD r) && noL.noLs (rs.map frD)) = true
    rw [noL_frs rs]
    rfl
/-- a tracked list of fractions, apart from the deck -/
structure Own (K : PySem.W.Frag) (H : Hp) (d a : Addr) (rs : List Rat) : Prop where
  ex : ∃ xs, H a = some (.lst xs) ∧ a ≠ d ∧ DpAll K H xs (rs.map frD)
theorem Own.frs {K : PySem.W.Frag} {H : Hp} {d a : Addr} {rs : List Rat} (h : Own K H d a rs) : Frs K H (.ref a) rs := by
  obtain ⟨xs, h1, _, h2⟩ := h.ex
  exact .lst (.inl (.inl h1)) h2
theorem Own.monoX {K : PySem.W.Frag} {H H' : Hp} {d a : Addr} {rs : List Rat} (h : Own K H d a rs) (e : SameX d H H') (D : Deck H d) : Own K H' d a rs := by
  obtain ⟨xs, h1, h2, h3⟩ := h.ex
  exact ⟨xs, e.but _ _ h2 h1, h2, Dp.monoXAll e.but D.lst _ _ (noL_frs rs) h3⟩
theorem Own.mono {K : PySem.W.Frag} {H H' : Hp} {d a : Addr} {rs : List Rat} (h : Own K H d a rs) (e : Same H H') : Own K H' d a rs := by
  obtain ⟨xs, h1, h2, h3⟩ := h.ex
  exact ⟨xs, e _ _ h1, h2, Dp.monoAll e _ _ h3⟩
theorem tseq_upd {K : PySem.W.Frag} {H : Hp} {p a : Addr} {xs ys zs : List V} (h : SqT K H a xs) (hp : H p = some (.lst ys)) : SqT K (upd H p (.lst zs)) a xs := by
  rcases h with (h | ⟨o, h⟩) | h
  · exact .inl (.inl (by rw [upd_ne (ne_of h hp (by intro z; cases z))]; exact h))
  · exact .inl (.inr ⟨o, by rw [upd_ne (ne_of h hp (by intro z; cases z))]; exact h⟩)
  · exact .inr h
theorem Own.push {K : PySem.W.Frag} {H : Hp} {d a : Addr} {rs : List Rat} {v : V} {r : Rat} {xs : List V} (h1 : H a = some (.lst xs)) (h2 : a ≠ d) (h3 : DpAll K H xs (rs.map frD)) (hv : Fr K H v r) : Own K (upd H a (.lst (xs ++ [v]))) d a (rs ++ [r]) := by
  refine ⟨_, upd_same, h2, ?_⟩
  have e : But a H (upd H a (.lst (xs ++ [v]))) := but_upd
  have g := Dp.monoXAll e ⟨_, h1⟩ _ _ (noL_frs rs) h3
  have gv := Dp.monoX e ⟨_, h1⟩ (frD r) v rfl hv
  rw [List.map_append]
  exact app g gv
where
  app {K : PySem.W.Frag} {H : Hp} : ∀ {xs : List V} {ds : List PyData} {v : V} {d : PyData}, DpAll K H xs ds → Dp K H v d → DpAll K H (xs ++ [v]) (ds ++ [d])
    | _, _, _, _, .nil, h => .cons h .nil
    | _, _, _, _, .cons h1 h2, h => .cons h1 (app h2 h)
theorem dpAll_snoc {K : PySem.W.Frag} {H : Hp} {xs : List V} {ds : List PyData} {v : V} {d : PyData} (h : DpAll K H xs ds) (h2 : Dp K H v d) : DpAll K H (xs ++ [v]) (ds ++ [d]) := Own.push.app h h2
/-! ### loops over two lists, over a list with its places -/
theorem forZip {K : PySem.W.Frag} {a b : Addr} {xs ys : List V} {g : TG} {tb : TS} {nx : L2.St → Hp → Prop} {rt : VK} {σ : L2.St} {H : Hp} (Pv : Nat → L2.St → Hp → Prop) (h0 : Pv 0 σ H) (hl : ∀ i σ H, Pv i σ H → SqL K H a xs ∧ SqL K H b ys)
    (hs : ∀ i x y σ H T, xs[i]? = some x → ys[i]? = some y → Pv i σ H → H T = none → g (.ref T) σ (upd H T (.tup [x, y])) fun σ2 H2 => tb { nx := Pv (i + 1), rt := rt, ct := Pv (i + 1), bk := nx } σ2 H2) (hd : ∀ σ H, Pv (min xs.length ys.length) σ H → nx σ H) :
    ∃ W : Nat → Nat → L2.St → Hp → Prop, (∃ m, W 0 m σ H) ∧ ∀ i m σ H, W i m σ H →
      ((Itz K a b).stop i H ∧ nx σ H) ∨ ((Itz K a b).go i H ∧ ∃ N : L2.St → Hp → Prop, (∀ σ' H', N σ' H' → ∃ m', m' < m ∧ W (i + 1) m' σ' H') ∧ ∀ x H', (Itz K a b).yld i H x H' → g x σ H' fun σ2 H2 => tb { nx := N, rt := rt, ct := N, bk := nx } σ2 H2) := by
  refine ⟨fun i m σ H => m = min xs.length ys.length - i ∧ i ≤ min xs.length ys.length ∧ Pv i σ H, ⟨_, rfl, Nat.zero_le _, h0⟩, ?_⟩
  rintro i m σ H ⟨rfl, hi, p⟩
  obtain ⟨q1, q2⟩ := hl i σ H p
  by_cases hlt : i < min xs.length ys.length
  · have l1 : i < xs.length := by omega
    have l2 : i < ys.length := by omega
    refine .inr ⟨⟨xs, ys, xs[i], ys[i], q1, q2, List.getElem?_eq_getElem l1, List.getElem?_eq_getElem l2⟩, Pv (i + 1), fun σ' H' p' => ⟨_, ?_, rfl, hlt, p'⟩, fun x H' yl => ?_⟩
    · omega
    · obtain ⟨T, x1, y1, rfl, nT, rfl, f1, f2⟩ := yl
      exact hs i x1 y1 σ H T (f1 _ q1) (f2 _ q2) p nT
  · have e : i = min xs.length ys.length := by omega
    refine .inl ⟨⟨xs, ys, q1, q2, by omega⟩, hd σ H (e ▸ p)⟩
theorem forEnum {K : PySem.W.Frag} {a : Addr} {xs : List V} {g : TG} {tb : TS} {nx : L2.St → Hp → Prop} {rt : VK} {σ : L2.St} {H : Hp} (Pv : Nat → L2.St → Hp → Prop) (h0 : Pv 0 σ H) (hl : ∀ i σ H, Pv i σ H → SqL K H a xs)
    (hs : ∀ i x σ H T, xs[i]? = some x → Pv i σ H → H T = none → g (.ref T) σ (upd H T (.tup [.int (i : Nat), x])) fun σ2 H2 => tb { nx := Pv (i + 1), rt := rt, ct := Pv (i + 1), bk := nx } σ2 H2) (hd : ∀ σ H, Pv xs.length σ H → nx σ H) :
    ∃ W : Nat → Nat → L2.St → Hp → Prop, (∃ m, W 0 m σ H) ∧ ∀ i m σ H, W i m σ H →
      ((Ite K a).stop i H ∧ nx σ H) ∨ ((Ite K a).go i H ∧ ∃ N : L2.St → Hp → Prop, (∀ σ' H', N σ' H' → ∃ m', m' < m ∧ W (i + 1) m' σ' H') ∧ ∀ x H', (Ite K a).yld i H x H' → g x σ H' fun σ2 H2 => tb { nx := N, rt := rt, ct := N, bk := nx } σ2 H2) := by
  refine ⟨fun i m σ H => m = xs.length - i ∧ i ≤ xs.length ∧ Pv i σ H, ⟨_, rfl, Nat.zero_le _, h0⟩, ?_⟩
  rintro i m σ H ⟨rfl, hi, p⟩
  have q1 := hl i σ H p
  by_cases hlt : i < xs.length
  · refine .inr ⟨⟨xs, xs[i], q1, List.getElem?_eq_getElem hlt⟩, Pv (i + 1), fun σ' H' p' => ⟨_, ?_, rfl, hlt, p'⟩, fun x H' yl => ?_⟩
    · omega
    · obtain ⟨T, x1, rfl, nT, rfl, f1⟩ := yl
      exact hs i x1 σ H T (f1 _ q1) p nT
  · have e : i = xs.length := by omega
    refine .inl ⟨⟨xs, q1, by omega⟩, hd σ H (e ▸ p)⟩
end Ub

/-! any, all of a generator expression whose element may call defs: its own frame, its own context. -/
namespace UbG
open PySem PySem.Spec PyProof.Rows L2
/-- the expression's own scope: its names (with their places in N) are local or captured -/
structure GexOk (N : List Str) (sc scope : Scope) (own : List (Str × Nat)) : Prop where
  kind : scope.kind = .function
  co : scope.isCoroutine = false
  nocell : ∀ y ∈ scope.names, y.2 ≠ .cell
  dot : scope.names.lookup (".0" : Str) = some NameKind.local
  uniq : ∀ y ∈ scope.names, scope.names.lookup y.1 = some y.2
  ix : ∀ p ∈ own, N[p.2]? = some p.1
  free : ∀ y ∈ scope.names, y.2 = .free → sc.names.lookup y.1 = some .cell ∨ sc.names.lookup y.1 = some .free
  own : ∀ y ∈ scope.names, y.2 = .local → y.1 ∈ own.map (·.1) ∨ y.1 ∉ N
/-- the context of its frame -/
abbrev gex (X : Cx) (A : Around) (s : Shared) (H : Hp) (genv : Env) (fp : List Addr) (pn : List (Addr × Obj)) : Cx :=
  { X with A := A, s_0 := s, H_0 := H, env := genv, outer := X.stack, stack := genv :: X.stack, ex := fp, fn := fun _ => false, calm := true, pn := pn, xe := fun _ _ => False }
section
variable {X : Cx} {pins : List (Addr × Obj)} {σ : L2.St} {H : Hp} {s : Shared}
theorem Inv.same {s' : Shared} (I : Inv X pins σ H s) (hh : s'.heap = s.heap) (ho : s'.os = s.os) (hb : AllBare s'.gens) : Inv X pins σ H s' :=
  I.call' (ch := []) ho (by rw [hh]; exact Un.kept fun _ _ e => e) (by rw [hh]; exact I.hok) hb fun b z => absurd z (by simp)
theorem Inv.more {s' : Shared} (I : Inv X pins σ H s) (hh : ∀ b o, s.heap.get? b = some o → s'.heap.get? b = some o) (ho : s'.os = s.os) (hb : AllBare s'.gens) : Inv X pins σ H s' :=
  I.call' (ch := []) ho (Un.kept hh) (I.hok.kept hh) hb fun b z => absurd z (by simp)
theorem Inv.nofr (I : Inv X pins σ H s) {b : Addr} (hb : s.heap.objs.size ≤ b) : b ∉ frs X.stack := fun z => by
  rcases List.mem_cons.mp (I.stkSub _ z) with e | e
  · have h1 := I.lt
    rw [← e] at h1
    exact Nat.lt_irrefl _ (Nat.lt_of_lt_of_le h1 hb)
  · exact I.nofs hb e
theorem gex_start {scope : Scope} {own : List (Str × Nat)} {fp : List Addr} {A : Around} {genv : Env} {code : Value} {s5 : Shared} {m : Str → Option Value} {pn : List (Addr × Obj)} (I : Inv X pins σ H s) (ok : GexOk X.N X.env.scope scope own) (hN : X.N.Nodup)
    (hfp : ∀ b ∈ fp, FpOk X pins H b ∧ b < s.heap.objs.size) (hA : A.handled = none) (hfr : A.frames = some (genv :: X.stack)) (hg : genv = genEnv scope (cloFrom X.env.cells scope.names []) s.heap.objs.size code builtinsNs X.env)
    (os : s5.os = s.os) (bare : AllBare s5.gens) (kp : ∀ b o, s.heap.get? b = some o → s5.heap.get? b = some o) (ns : s5.heap.Ns s.heap.objs.size m)
    (hpn : ∀ p ∈ pn, s5.heap.get? p.1 = some p.2 ∧ s.heap.objs.size < p.1 ∧ ∀ v, p.2.data ≠ .cell v) : Inv (gex X A s H genv fp pn) [] (wipe σ (own.map (·.2))) H s5 := by
  have hfree : ∀ y ∈ scope.names, y.2 = .free → ∃ c, X.env.cells.lookup y.1 = some c := fun y hy e => by
    rcases ok.free y hy e with k | k
    · exact I.ok.has _ (.inl k)
    · exact I.ok.has _ (.inr k)
  have hL : genv.locals = s.heap.objs.size := by rw [hg]; rfl
  have hcl : genv.cells = cloFrom X.env.cells scope.names [] := by rw [hg]; rfl
  have hsc : genv.scope = scope := by rw [hg]; rfl
  have cm : ∀ {y c}, genv.cells.lookup y = some c → scope.names.lookup y = some .free ∧ X.env.cells.lookup y = some c ∧ c < s.heap.objs.size := fun {y c} e => by
    rw [hcl] at e
    rcases cloFrom_mem (PySem.mem_of_lookup e) with hm | ⟨h1, rfl⟩
    · cases hm
    · obtain ⟨c, hc⟩ := hfree _ h1 rfl
      rw [hc]
      obtain ⟨w, z⟩ := I.cell _ _ hc
      exact ⟨ok.uniq _ h1, rfl, z.lt⟩
  have look : ∀ {y}, scope.names.lookup y = some .free → ∃ c, genv.cells.lookup y = some c ∧ X.env.cells.lookup y = some c := fun {y} hl => by
    have hy : (y, NameKind.free) ∈ scope.names := PySem.mem_of_lookup hl
    obtain ⟨c', e'⟩ := mem_lookup (cloFrom_has (cells := X.env.cells) (acc := []) hy)
    rw [← hcl] at e'
    exact ⟨c', e', (cm e').2.1⟩
  have okG : (gex X A s H genv fp pn).Ok := by
    refine ⟨I.ok.mod, by show genv.scope.kind = _; rw [hsc]; exact ok.kind, by show genv.globals = _; rw [hg]; exact I.ok.glob, by show genv.builtins = _; rw [hg]; rfl, by show s.heap.objs.size ≤ genv.locals; rw [hL]; exact Nat.le_refl _,
      fun y z c e1 e2 => I.ok.inj y z c (cm e1).2.1 (cm e2).2.1, fun y hy => ?_, fun y c z e => ?_, fun _ => hA, hfr, .inr ⟨rfl, by show genv.frame = some genv.locals; rw [hg]; rfl⟩, fun b hb => ⟨?_, fun y c e z => (hfp b hb).1.2.2.2.2.1 y c (cm e).2.1 z⟩, I.bs, Nat.le_trans I.ok.bsz I.sz, fun b o e hb => ?_, fun b hb z => ?_, I.stack, I.stkFree⟩
    · show ∃ c, genv.cells.lookup y = some c
      rcases hy with hy | hy
      · have hy : genv.scope.names.lookup y = some .cell := hy
        rw [hsc] at hy
        exact absurd rfl (ok.nocell _ (PySem.mem_of_lookup hy))
      · have hy : genv.scope.names.lookup y = some .free := hy
        rw [hsc] at hy
        obtain ⟨c, h1, _⟩ := look hy
        exact ⟨c, h1⟩
    · cases z
    · show b ≠ genv.locals
      rw [hL]; exact Nat.ne_of_lt (hfp b hb).2
    · rcases (hfp b hb).1.2.2.2.1 with z | z
      · exact I.ok.noex b o e z
      · exact absurd (Nat.lt_of_lt_of_le (Heap.lt_size e) (Nat.le_trans I.ok.bsz z)) (Nat.lt_irrefl _)
    · rcases List.mem_cons.mp (I.stkSub b z) with z | z
      · exact (hfp b hb).1.2.1 z
      · exact (hfp b hb).1.2.2.1 z
  refine ⟨okG, os, bare, Un.kept kp, ⟨m, by show Heap.Ns _ genv.locals _; rw [hL]; exact ns, fun i y av e1 e2 e3 => ?_⟩, fun y c e => ?_, ?_, fun y c e => I.freeC y c (cm e).2.1, fun p hp => ?_, I.hok.kept kp, by rw [wipe_length]; exact I.len⟩
  · obtain ⟨e2, hne⟩ := wipe_some e2
    have hfr : scope.names.lookup y = some .free := by
      have e3 : Vis genv.scope y := e3
      rw [hsc] at e3
      rcases e3 with e3 | e3 | e3
      · rcases ok.own _ (PySem.mem_of_lookup e3) rfl with e' | e'
        · obtain ⟨p, hp, hpy⟩ := List.mem_map.mp e'
          have e3 := ok.ix p hp
          have : p.1 = y := hpy
          rw [this] at e3
          exact absurd (List.mem_map.mpr ⟨p, hp, nodup_ix hN e3 e1⟩) hne
        · exact absurd (List.mem_of_getElem? e1) e'
      · exact absurd rfl (ok.nocell _ (PySem.mem_of_lookup e3))
      · exact e3
    obtain ⟨m, hn, hl⟩ := I.loc
    have hvis : Vis X.env.scope y := (ok.free _ (PySem.mem_of_lookup hfr) rfl).elim (fun k => .inr (.inl k)) (fun k => .inr (.inr k))
    obtain ⟨w, r, q⟩ := hl i y av e1 e2 hvis
    refine ⟨w, r, .inr ⟨.inr (by show genv.scope.names.lookup y = _; rw [hsc]; exact hfr), ?_⟩⟩
    obtain ⟨c, h1, h2⟩ := look hfr
    rcases q with ⟨k, _⟩ | ⟨_, c', e', z⟩
    · have k : X.env.scope.names.lookup y = some .local := k
      rcases ok.free _ (PySem.mem_of_lookup hfr) rfl with k' | k' <;> rw [show X.env.scope.names.lookup y = _ from k'] at k <;> cases k
    · rw [h2] at e'; cases e'
      exact ⟨c, h1, z.keeps kp⟩
  · obtain ⟨w, z⟩ := I.cell y c (cm e).2.1
    exact ⟨w, z.keeps kp⟩
  · show H genv.locals = none
    rw [hL]; exact I.hok.fresh (Nat.le_refl _)
  · rw [List.append_nil] at hp
    obtain ⟨h1, h2, h3⟩ := hpn p hp
    refine ⟨h1, I.hok.fresh (Nat.le_of_lt h2), by show p.1 ≠ genv.locals; rw [hL]; exact Nat.ne_of_gt h2, Inv.nofr I (Nat.le_of_lt h2), h3⟩
end
/-- the end of its run -/
def GR (G : Cx) (fp : List Addr) (Qd : Hp → Prop) : GenEnd := fun n s₀ r s₁ => ((r = .ok (.ret .none) ∨ r = .ok .next) ∧ ∃ σ' H', Inv G [] σ' H' s₁ ∧ (∀ b ∈ fp, H' b = none) ∧ Qd H') ∨ ∃ e, r = .error e ∧ False
/-- a truth value is handed out; on stopv nobody asks further -/
def GY (G : Cx) (fp : List Addr) (stopv : Bool) (Qs : Hp → Prop) : Protocol := fun n s₀ v s kap =>
  ∃ b σ' H', v = .bool b ∧ Inv G [] σ' H' s ∧ (∀ b ∈ fp, H' b = none) ∧ (b = stopv → Qs H') ∧ (b ≠ stopv → ∀ s', s'.heap = s.heap → s'.os = s.os → AllBare s'.gens → kap (.send .none) s')
/-- what a turn is to give -/
def Turns (J : It) (g : TG) (te : TE) (vs : List Nat) (σw : L2.St) (stopv : Bool) (Qs Qd : Hp → Prop) (W : Nat → Nat → Hp → Prop) : Prop := ∀ i m H, W i m H →
  (J.stop i H ∧ Qd H) ∨ (J.go i H ∧ ∃ Nx : Hp → Prop, (∀ H', Nx H' → ∃ m', m' < m ∧ W (i + 1) m' H') ∧ ∀ x H', J.yld i H x H' → g x σw H' fun σ2 H2 => wipe σ2 vs = σw ∧ te σ2 H2 fun y H3 => ∃ b, y = .bl b ∧ (b = stopv → Qs H3) ∧ (b ≠ stopv → Nx H3))
theorem seg_gex {G : Cx} {Aw : Around} {tg iter elt : Expr} {scope : Scope} {pos : Pos} {J : It} {fp : List Addr} {it : Addr} {tn : Nat → Heap → Prop} {g : TG} {te : TE} {vs : List Nat} {σw : L2.St} {stopv : Bool} {Qs Qd : Hp → Prop} {W : Nat → Nat → Hp → Prop}
    (T : Turn G.prog G.w G.K tg J fp it tn) (hex : G.ex = fp) (hc : G.calm = true) (hxe : G.xe = fun _ _ => False) (hpn : ∀ b ∈ fp, ∀ p ∈ G.pn, p.1 ≠ b)
    (hA : Aw.over (.compLoop (.GeneratorExp elt [⟨tg, iter, [], 0⟩] scope pos) 0 (.ref it) .none G.env) [] = G.A) (hco : G.env.scope.isCoroutine = false)
    (pg : PG G tg g) (pe : PE G elt te) (turn : Turns J g te vs σw stopv Qs Qd W) :
    ∀ (n i m : Nat) (H : Hp) (s₀ s : Shared), m < n → W i m H → Inv G [] σw H s → tn i s.heap → (∀ b ∈ fp, H b = none) →
      Seg (model G.prog G.w) Aw (GR G fp Qd) (GY G fp stopv Qs) n s₀ (.compLoop (.GeneratorExp elt [⟨tg, iter, [], 0⟩] scope pos) 0 (.ref it) .none G.env)
        ((model G.prog G.w).den (.compLoop (.GeneratorExp elt [⟨tg, iter, [], 0⟩] scope pos) 0 (.ref it) .none G.env)) [] s := by
  have stat : ∀ {σ' : L2.St} {H' : Hp} {s' : Shared}, Inv G [] σ' H' s' → (∀ b ∈ fp, H' b = none) → ∀ b ∈ fp, FpOk G [] H' b := fun {σ' H' s'} I' hn b hb =>
    ⟨hn b hb, (I'.ok.exf b (by rw [hex]; exact hb)).1, I'.ok.exfs b (by rw [hex]; exact hb), .inl (by rw [hex]; exact hb), fun x c e => (I'.ok.exf b (by rw [hex]; exact hb)).2 x c e, fun p hp => by rw [List.append_nil] at hp; exact hpn b hb p hp⟩
  intro n
  induction n with
  | zero => intro i m H s₀ s hm; exact absurd hm (Nat.not_lt_zero _)
  | succ n ih =>
    intro i m H s₀ s hm w0 I st hn
    show Seg _ Aw _ _ _ s₀ _ ((compTurn (.GeneratorExp elt [⟨tg, iter, [], 0⟩] scope pos) 0 (.ref it) .none G.env).onRaise (leaving G.env)) [] s
    rw [compTurn_gen, Sem.onRaise_eq_wrap]
    refine seg_bind_wrap (wpAny_standAt ?_)
    rcases turn i m H w0 with ⟨stop, qd⟩ | ⟨go, Nx, hNx, step⟩
    · refine seg_bind_wrap ?_
      rw [hA]
      refine wpAny_mono (T.done G rfl rfl rfl hc i [] s σw H (fun _ _ => False) I (stat I hn) st stop) (fun r s6 ⟨hr, I6⟩ => ?_) fun _ _ z => z.elim
      subst hr
      exact seg_end (.ok .next) (.inl ⟨.inr rfl, σw, H, I6, hn, qd⟩)
    · refine seg_bind_wrap ?_
      rw [hA]
      refine wpAny_mono (T.item G rfl rfl rfl hc i [] s σw H (fun _ _ => False) I (stat I hn) st go) (fun r s6 ⟨u, hr, h6⟩ => ?_) fun _ _ z => z.elim
      subst hr
      refine seg_bind_wrap ?_
      rw [hA]
      refine wpAny_mono h6 (fun _ s7 ⟨x, H7, I7, r7, y7, st7, n7⟩ => ?_) fun _ _ z => z.elim
      have I7' := I7.pinned (stat I7 n7) (T.obj _ _ st7)
      refine seg_bind_wrap ?_
      rw [hA]
      refine wpAny_mono (pg.run _ s7 _ H7 x u _ I7' r7 (step x H7 y7)) (fun _ s8 ⟨σ8, H8, I8, hw8, q8⟩ => ?_) fun _ _ z => by rw [hxe] at z; exact z.elim
      refine seg_bind_wrap ?_
      simp only [List.forIn_nil]
      refine wpAny_pure ?_
      simp only [if_true]
      have hy : ∀ v, yieldOut G.env v = yieldValue v := fun v => by simp only [yieldOut, hco, Bool.false_eq_true, if_false]
      simp only [hy]
      rw [Sem.bind_eq_wrap', Sem.bind_eq_wrap', Sem.wrap_wrap, Sem.wrap_wrap]
      refine seg_wrap ?_
      rw [hA]
      refine wpAny_mono (pe.run _ s8 σ8 H8 _ I8 q8) (fun y s9 ⟨yv, H9, I9, r9, b, hb, hs, hnx⟩ => ?_) fun _ _ z => by rw [hxe] at z; exact z.elim
      subst hb
      have ey : y = Value.bool b := r9
      subst ey
      have pin' : ∀ b ∈ fp, ∀ o, s7.heap.get? b = some o → s9.heap.get? b = some o ∧ H9 b = none := fun b hb o e =>
        let z := I9.pin (b, o) (List.mem_append_right _ (List.mem_append_right _ (mem_pinsAt hb e)))
        ⟨z.1, z.2.1⟩
      have hl : σw.length = σ8.length := by rw [← hw8, wipe_length]
      have I10 : Inv G [] σw H9 s9 := (I9.unpinned (pins := [])).weak hl fun j v e => by
        rw [← hw8] at e
        exact (wipe_some e).1
      have n10 : ∀ b ∈ fp, H9 b = none := fun b hb => by
        obtain ⟨o, e, _⟩ := T.obj _ _ st7 b hb
        exact (pin' b hb o e).2
      have st10 : tn (i + 1) s9.heap := T.keep _ _ _ st7 fun b hb o e => (pin' b hb o e).1
      refine seg_at (seg_yield rfl rfl rfl ⟨b, σw, H9, rfl, I10, n10, hs, fun nb s' hh ho hbare => ?_⟩)
      obtain ⟨m', hm', w'⟩ := hNx H9 (hnx nb)
      refine seg_again rfl (ih (i + 1) m' H9 s' s' (by omega) w' (Inv.same I10 hh ho hbare) (by rw [hh]; exact st10) n10)
theorem seg_gex0 {G : Cx} {Aw : Around} {tg iter elt : Expr} {scope : Scope} {pos : Pos} {J : It} {fp : List Addr} {it : Addr} {tn : Nat → Heap → Prop} {n : Nat} {s₀ s : Shared} {R : GenEnd} {Y : Protocol}
    (T : Turn G.prog G.w G.K tg J fp it tn) (st : tn 0 s.heap)
    (loop : Seg (model G.prog G.w) Aw R Y n s₀ (.compLoop (.GeneratorExp elt [⟨tg, iter, [], 0⟩] scope pos) 0 (.ref it) .none G.env)
        ((model G.prog G.w).den (.compLoop (.GeneratorExp elt [⟨tg, iter, [], 0⟩] scope pos) 0 (.ref it) .none G.env)) [] s) :
    Seg (model G.prog G.w) Aw R Y n s₀ (.compStart (.GeneratorExp elt [⟨tg, iter, [], 0⟩] scope pos) 0 (.ref it) .none G.env)
        ((model G.prog G.w).den (.compStart (.GeneratorExp elt [⟨tg, iter, [], 0⟩] scope pos) 0 (.ref it) .none G.env)) [] s := by
  show Seg _ Aw _ _ _ s₀ _ ((compStart (.GeneratorExp elt [⟨tg, iter, [], 0⟩] scope pos) 0 (.ref it) .none G.env).onRaise (leaving G.env)) [] s
  unfold compStart
  rw [Sem.onRaise_eq_wrap]
  show Seg _ Aw _ _ _ s₀ _ ((ask >>= _).wrap _ _ _ _) [] s
  refine seg_bind_wrap (wpAny_askSetting ?_)
  split
  · exact seg_again rfl loop
  · first
      | exact seg_bind_wrap (wpAny_rule (seg_bind_wrap (wpAny_standAt (seg_bind_wrap (T.self _ 0 s _ _ st (seg_again rfl loop))))))
      | (refine seg_bind_wrap (wpAny_rule ?_); show Seg _ Aw _ _ _ s₀ _ ((standAt iter.pos >>= _).wrap _ _ _ _) [] s; exact seg_bind_wrap (wpAny_standAt (seg_bind_wrap (T.self _ 0 s _ _ st (seg_again rfl loop)))))
/-- the generator, not begun or asleep, at most n turns left -/
def GAt (G : Cx) (A : Around) (fp : List Addr) (stopv : Bool) (Qs Qd : Hp → Prop) (a : Addr) (g : Nat) (n : Nat) (s : Shared) : Prop :=
  s.heap.IsGen a g ∧ s.heap.NoLimit ∧ AllBare s.gens ∧ ∃ gs, s.gens[g]? = some gs ∧ ∀ s'', s''.heap = s.heap → s''.os = s.os → AllBare s''.gens → gs.Goes (model G.prog G.w) A (GR G fp Qd) (GY G fp stopv Qs) n (.send .none) s''
section
variable {G : Cx} {A : Around} {fp : List Addr} {Qs Qd : Hp → Prop} {a : Addr} {g : Nat} {R : Result → Shared → Prop}
theorem all_loop (hh : A.handled = none) (hd : A.depth < recursionLimit) (hgen : ∀ σ' H' s', Inv G [] σ' H' s' → s'.heap.IsGen a g)
    (hend : ∀ s' σ' H', Inv G [] σ' H' s' → (∀ b ∈ fp, H' b = none) → Qd H' → R (.ok (.ret (.bool true))) s')
    (hstop : ∀ s' σ' H', Inv G [] σ' H' s' → (∀ b ∈ fp, H' b = none) → Qs H' → R (.ok (.ret (.bool false))) s') :
    ∀ (n : Nat) (s : Shared), GAt G A.in1.in1 fp false Qs Qd a g n s → codeAny (model G.prog G.w) A (.builtin "all.loop" ⟨[.ref a], []⟩) R s := by
  have goes : ∀ {gs : GenState} {B : Around} {n : Nat} {r : Resume} {s : Shared}, gs.Goes (model G.prog G.w) B (GR G fp Qd) (GY G fp false Qs) n r s →
      gs.Goes (model G.prog G.w) B (fun n s₀ r s1 => ((r = .ok (.ret .none) ∨ r = .ok .next) ∧ (∃ σ' H', Inv G [] σ' H' s1 ∧ (∀ b ∈ fp, H' b = none) ∧ Qd H')) ∨ ∃ e, r = .error e ∧ (fun (_ : Value) (_ : Shared) => False) e s1) (GY G fp false Qs) n r s := fun h => h
  intro n
  induction n with
  | zero =>
    rintro s ⟨hg, hl, hb, gs, hgs, hgo⟩
    refine codeAny_builtin F.entry_all_loop ?_
    rw [Around.under_plainId F.plain_all_loop _]
    show wpAny _ A.in1 (pyNext (.ref a) >>= _) _ _ s
    refine wpAny_bind (next_genG (A := A.in1) hh hl hd hg hgs (goes (hgo _ rfl rfl (allBare_setGen hb rfl))) (fun v s₁ gs' hbare hv => ?_) (fun s₁ hp h' hk => ?_) fun e s₁ he => he.elim)
    · obtain ⟨b, σ', H', rfl, I', n', hs, hk⟩ := hv
      refine wpAny_bind (wpAny_holding (wpAny_truthy_bool ?_))
      refine wpAny_bind (wpAny_letGo ?_)
      cases b with
      | true => exact (hk (by decide) _ rfl rfl I'.bare).elim
      | false =>
        simp only [Bool.false_eq_true, if_false]
        exact wpAny_bind (wpAny_rule (wpAny_pure (hstop _ σ' H' (Inv.same I' rfl rfl (allBare_setGen I'.bare hbare)) n' (hs rfl))))
    · obtain ⟨σ', H', I', n', hq⟩ := hp
      refine wpAny_bind (wpAny_rule (wpAny_pure ?_))
      exact hend _ σ' H' (Inv.more I' hk rfl (allBare_setGen I'.bare rfl)) n' hq
  | succ n ih =>
    rintro s ⟨hg, hl, hb, gs, hgs, hgo⟩
    have hgl : g < s.gens.size := (Array.getElem?_eq_some_iff.mp hgs).1
    refine codeAny_builtin F.entry_all_loop ?_
    rw [Around.under_plainId F.plain_all_loop _]
    show wpAny _ A.in1 (pyNext (.ref a) >>= _) _ _ s
    refine wpAny_bind (GenW.wpAny_gsz (n := g + 1) hgl (next_genG (A := A.in1) hh hl hd hg hgs (goes (hgo _ rfl rfl (allBare_setGen hb rfl))) (fun v s₁ gs' hbare hv => ?_) (fun s₁ hp h' hk => ?_) fun e s₁ he => he.elim))
    · intro hsz
      obtain ⟨b, σ', H', rfl, I', n', hs, hk⟩ := hv
      refine wpAny_bind (wpAny_holding (wpAny_truthy_bool ?_))
      refine wpAny_bind (wpAny_letGo ?_)
      cases b with
      | true =>
        simp only [if_true]
        have hsz1 : g < s₁.gens.size := by
          have q : (s₁.setGen g gs').gens.size = s₁.gens.size := GenW.setGen_size _ _ _
          have hsz' : g + 1 ≤ (s₁.setGen g gs').gens.size := hsz
          omega
        refine wpAny_pure ⟨plainId_quiet F.plain_all_loop _, ih (s₁.setGen g gs') ⟨hgen σ' H' s₁ I', I'.nolimit, allBare_setGen I'.bare hbare, gs', setGen_at hsz1, fun s'' h1 h2 h3 => ?_⟩⟩
        exact hk (by decide) s'' h1 h2 h3
      | false =>
        simp only [Bool.false_eq_true, if_false]
        exact wpAny_bind (wpAny_rule (wpAny_pure (hstop _ σ' H' (Inv.same I' rfl rfl (allBare_setGen I'.bare hbare)) n' (hs rfl))))
    · intro hsz
      obtain ⟨σ', H', I', n', hq⟩ := hp
      refine wpAny_bind (wpAny_rule (wpAny_pure ?_))
      exact hend _ σ' H' (Inv.more I' hk rfl (allBare_setGen I'.bare rfl)) n' hq
theorem any_loop (hh : A.handled = none) (hd : A.depth < recursionLimit) (hgen : ∀ σ' H' s', Inv G [] σ' H' s' → s'.heap.IsGen a g)
    (hend : ∀ s' σ' H', Inv G [] σ' H' s' → (∀ b ∈ fp, H' b = none) → Qd H' → R (.ok (.ret (.bool false))) s')
    (hstop : ∀ s' σ' H', Inv G [] σ' H' s' → (∀ b ∈ fp, H' b = none) → Qs H' → R (.ok (.ret (.bool true))) s') :
    ∀ (n : Nat) (s : Shared), GAt G A.in1.in1 fp true Qs Qd a g n s → codeAny (model G.prog G.w) A (.builtin "any.loop" ⟨[.ref a], []⟩) R s := by
  have goes : ∀ {gs : GenState} {B : Around} {n : Nat} {r : Resume} {s : Shared}, gs.Goes (model G.prog G.w) B (GR G fp Qd) (GY G fp true Qs) n r s →
      gs.Goes (model G.prog G.w) B (fun n s₀ r s1 => ((r = .ok (.ret .none) ∨ r = .ok .next) ∧ (∃ σ' H', Inv G [] σ' H' s1 ∧ (∀ b ∈ fp, H' b = none) ∧ Qd H')) ∨ ∃ e, r = .error e ∧ (fun (_ : Value) (_ : Shared) => False) e s1) (GY G fp true Qs) n r s := fun h => h
  intro n
  induction n with
  | zero =>
    rintro s ⟨hg, hl, hb, gs, hgs, hgo⟩
    refine codeAny_builtin F.entry_any_loop ?_
    rw [Around.under_plainId F.plain_any_loop _]
    show wpAny _ A.in1 (pyNext (.ref a) >>= _) _ _ s
    refine wpAny_bind (next_genG (A := A.in1) hh hl hd hg hgs (goes (hgo _ rfl rfl (allBare_setGen hb rfl))) (fun v s₁ gs' hbare hv => ?_) (fun s₁ hp h' hk => ?_) fun e s₁ he => he.elim)
    · obtain ⟨b, σ', H', rfl, I', n', hs, hk⟩ := hv
      refine wpAny_bind (wpAny_holding (wpAny_truthy_bool ?_))
      refine wpAny_bind (wpAny_letGo ?_)
      cases b with
      | false => exact (hk (by decide) _ rfl rfl I'.bare).elim
      | true =>
        simp only [if_true]
        exact wpAny_bind (wpAny_rule (wpAny_pure (hstop _ σ' H' (Inv.same I' rfl rfl (allBare_setGen I'.bare hbare)) n' (hs rfl))))
    · obtain ⟨σ', H', I', n', hq⟩ := hp
      refine wpAny_bind (wpAny_rule (wpAny_pure ?_))
      exact hend _ σ' H' (Inv.more I' hk rfl (allBare_setGen I'.bare rfl)) n' hq
  | succ n ih =>
    rintro s ⟨hg, hl, hb, gs, hgs, hgo⟩
    have hgl : g < s.gens.size := (Array.getElem?_eq_some_iff.mp hgs).1
    refine codeAny_builtin F.entry_any_loop ?_
    rw [Around.under_plainId F.plain_any_loop _]
    show wpAny _ A.in1 (pyNext (.ref a) >>= _) _ _ s
    refine wpAny_bind (GenW.wpAny_gsz (n := g + 1) hgl (next_genG (A := A.in1) hh hl hd hg hgs (goes (hgo _ rfl rfl (allBare_setGen hb rfl))) (fun v s₁ gs' hbare hv => ?_) (fun s₁ hp h' hk => ?_) fun e s₁ he => he.elim))
    · intro hsz
      obtain ⟨b, σ', H', rfl, I', n', hs, hk⟩ := hv
      refine wpAny_bind (wpAny_holding (wpAny_truthy_bool ?_))
      refine wpAny_bind (wpAny_letGo ?_)
      cases b with
      | false =>
        simp only [Bool.false_eq_true, if_false]
        have hsz1 : g < s₁.gens.size := by
          have q : (s₁.setGen g gs').gens.size = s₁.gens.size := GenW.setGen_size _ _ _
          have hsz' : g + 1 ≤ (s₁.setGen g gs').gens.size := hsz
          omega
        refine wpAny_pure ⟨plainId_quiet F.plain_any_loop _, ih (s₁.setGen g gs') ⟨hgen σ' H' s₁ I', I'.nolimit, allBare_setGen I'.bare hbare, gs', setGen_at hsz1, fun s'' h1 h2 h3 => ?_⟩⟩
        exact hk (by decide) s'' h1 h2 h3
      | true =>
        simp only [if_true]
        exact wpAny_bind (wpAny_rule (wpAny_pure (hstop _ σ' H' (Inv.same I' rfl rfl (allBare_setGen I'.bare hbare)) n' (hs rfl))))
    · intro hsz
      obtain ⟨σ', H', I', n', hq⟩ := hp
      refine wpAny_bind (wpAny_rule (wpAny_pure ?_))
      exact hend _ σ' H' (Inv.more I' hk rfl (allBare_setGen I'.bare rfl)) n' hq
theorem call_all_gen {G : Cx} {A : Around} {fp : List Addr} {Qs Qd : Hp → Prop} {a : Addr} {g n : Nat} {s : Shared} {Q E : Value → Shared → Prop} (hh : A.handled = none) (hd : A.depth < recursionLimit) (hgen : ∀ σ' H' s', Inv G [] σ' H' s' → s'.heap.IsGen a g)
    (hG : GAt G A.in1.in1 fp false Qs Qd a g n s) (hend : ∀ s' σ' H', Inv G [] σ' H' s' → (∀ b ∈ fp, H' b = none) → Qd H' → Q (.bool true) s')
    (hstop : ∀ s' σ' H', Inv G [] σ' H' s' → (∀ b ∈ fp, H' b = none) → Qs H' → Q (.bool false) s') : wpAny (model G.prog G.w) A (call (.builtin "all") [.ref a]) Q E s := by
  refine call_function_tree F.kind_all F.plain_all F.entry_all (F.args_all1 _) ?_
  unfold Builtin.«all»
  refine wpAny_bind (m := oneArg "all" _) (wpAny_pure ?_)
  refine wpAny_bind (wpAny_pyIter_gen hG.1 ?_)
  exact wpAny_pure ⟨plainId_quiet F.plain_all_loop _, all_loop hh hd hgen hend hstop n s hG⟩
theorem call_any_gen {G : Cx} {A : Around} {fp : List Addr} {Qs Qd : Hp → Prop} {a : Addr} {g n : Nat} {s : Shared} {Q E : Value → Shared → Prop} (hh : A.handled = none) (hd : A.depth < recursionLimit) (hgen : ∀ σ' H' s', Inv G [] σ' H' s' → s'.heap.IsGen a g)
    (hG : GAt G A.in1.in1 fp true Qs Qd a g n s) (hend : ∀ s' σ' H', Inv G [] σ' H' s' → (∀ b ∈ fp, H' b = none) → Qd H' → Q (.bool false) s')
    (hstop : ∀ s' σ' H', Inv G [] σ' H' s' → (∀ b ∈ fp, H' b = none) → Qs H' → Q (.bool true) s') : wpAny (model G.prog G.w) A (call (.builtin "any") [.ref a]) Q E s := by
  refine call_function_tree F.kind_any F.plain_any F.entry_any (F.args_any1 _) ?_
  unfold Builtin.«any»
  refine wpAny_bind (m := oneArg "any" _) (wpAny_pure ?_)
  refine wpAny_bind (wpAny_pyIter_gen hG.1 ?_)
  exact wpAny_pure ⟨plainId_quiet F.plain_any_loop _, any_loop hh hd hgen hend hstop n s hG⟩
end
section
variable {X : Cx} {pins : List (Addr × Obj)} {σ : L2.St} {H : Hp} {s : Shared}
/-- the generator is made -/
theorem gex_made {c P : Addr} {tg elt iter : Expr} {gpos : Pos} {scope : Scope} {own : List (Str × Nat)} {k : Nat} {g : TG} {te : TE} {wi : TI} {stopv : Bool} {Qs Qd : Hp → Prop}
    (hr : Room (k + 1) X.A) (hN : X.N.Nodup) (TB : GxR.TabB X.base X.mg c P) (hcode : X.env.code = .ref c) (ok : GexOk X.N X.env.scope scope own) (hi : PI X tg iter wi)
    (hpe : ∀ (A : Around) (s : Shared) (H : Hp) (C : Addr) (code : Value) (fp : List Addr) (pn : List (Addr × Obj)), Room k A → let G := gex X A s H (genEnv scope (cloFrom X.env.cells scope.names []) C code builtinsNs X.env) fp pn
      PG G tg g ∧ PE G elt te)
    (hs : ∀ v, genFold iter X.env v = pure v) (I : Inv X pins σ H s)
    (h : wi σ H fun J H1 => GxR.TabG H1 P ∧ ∀ H2, GxR.Tabbed P H1 H2 → ∃ W : Nat → Nat → Hp → Prop, (∃ m, W 0 m H2) ∧ Turns J g te (own.map (·.2)) (wipe σ (own.map (·.2))) stopv Qs Qd W) :
    wpAny (model X.prog X.w) X.A (eval (.GeneratorExp elt [⟨tg, iter, [], 0⟩] scope gpos) X.env) (fun v s5 => ∃ (A' : Around) (sG : Shared) (HG : Hp) (genv : Env) (fp : List Addr) (pn : List (Addr × Obj)) (a : Addr) (gn n : Nat),
      v = .ref a ∧ GAt (gex X A' sG HG genv fp pn) X.A.in1.in1 fp stopv Qs Qd a gn n s5 ∧ (∀ σ' H' s', Inv (gex X A' sG HG genv fp pn) [] σ' H' s' → s'.heap.IsGen a gn) ∧
      (∀ σ' H' s', Inv (gex X A' sG HG genv fp pn) [] σ' H' s' → (∀ b ∈ fp, H' b = none) → Inv X pins σ H' s')) X.xe s := by
  have hfree : ∀ y ∈ scope.names, y.2 = .free → ∃ c, X.env.cells.lookup y.1 = some c := fun y hy e => by
    rcases ok.free y hy e with k | k
    · exact I.ok.has _ (.inl k)
    · exact I.ok.has _ (.inr k)
  refine wpAny_GeneratorExp_make ok.co (closure_ok hfree) ok.nocell ok.dot ok.kind (by have := hr.dp; omega) ?_ hs
  refine thn (hi.run pins s σ H _ I h) fun xv s1 hx => thn hx fun itv s2 h2 => ?_
  obtain ⟨it, fp, tn, J, H1, rfl, I2, T, st2, f2, ⟨ps, hP, ht⟩, q⟩ := h2
  have hPs : s2.heap.get? P = some { cls := .none, data := .fields ps } := I2.hok P _ hP
  have cd : PySem.W.CodeHd s2.heap c P := TB.code.keeps I2.bk
  have lim2 : s2.heap.NoLimit := I2.nolimit
  have cont : ∀ (code : Value) (h3 : Heap) (tk : Nat) (ps' : Array Value), Heap.ExtBut P s2.heap h3 → s2.heap.objs.size ≤ h3.objs.size → h3.get? P = some { cls := .none, data := .fields ps' } → (∃ more, ps' = ps ++ more) → TriplesOk ps'.toList →
      wpAny (model X.prog X.w) X.A (builtinsFor X.env.globals X.env.builtins) (fun bi s₄ =>
        ∀ h', h'.Ns s₄.heap.objs.size (fun y => if y = ".0" then some (.ref it) else none) → Heap.SameBut s₄.heap.objs.size (s₄.heap.push { cls := .type "frame", data := .dict #[] }) h' →
          (fun v s5 => ∃ (A' : Around) (sG : Shared) (HG : Hp) (genv : Env) (fp : List Addr) (pn : List (Addr × Obj)) (a : Addr) (gn n : Nat),
            v = .ref a ∧ GAt (gex X A' sG HG genv fp pn) X.A.in1.in1 fp stopv Qs Qd a gn n s5 ∧ (∀ σ' H' s', Inv (gex X A' sG HG genv fp pn) [] σ' H' s' → s'.heap.IsGen a gn) ∧
            (∀ σ' H' s', Inv (gex X A' sG HG genv fp pn) [] σ' H' s' → (∀ b ∈ fp, H' b = none) → Inv X pins σ H' s')) (Value.ref h'.objs.size) { s₄ with
            gens := s₄.gens.push (.fresh (.compStart (.GeneratorExp elt [⟨tg, iter, [], 0⟩] scope gpos) 0 (.ref it) .none (genEnv scope (cloFrom X.env.cells scope.names []) s₄.heap.objs.size code bi X.env))),
            toks := s₄.toks + 1 + 1 + 1,
            heap := h'.push { cls := .type "generator", data := .fields #[.int s₄.gens.size 0, .str "<genexpr>" (s₄.toks + 1), .str (X.env.qual ++ "<genexpr>") (s₄.toks + 1 + 1)] } }) X.xe { s2 with heap := h3, toks := tk } := by
    intro code h3 tk ps' hx hsz hP3 ⟨more, hmore⟩ ht3
    subst hmore
    obtain ⟨bm, ob, e1, e2, e3, e4, e5, e6, e7, e8⟩ := TB.bm
    have keep3 : ∀ b u, b ≠ P → s2.heap.get? b = some u → h3.get? b = some u := fun b u hb e => hx b u hb e
    refine wpAny_builtinsFor (m := X.mg) (by rw [I2.ok.glob]; exact (I2.mod.glob.keeps I2.bk).extBut hx TB.gP) e1 e2 (keep3 _ _ e4 (I2.bk _ _ e5)) e6 e7 e8 ?_
    intro h' hn' hs'
    have I3 : Inv X pins σ (upd H1 P (.tbl (ps ++ more))) { s2 with heap := h3, toks := tk } := GxR.inv_tab (g' := s2.gens) (d' := s2.drawn) I2 hP keep3 hP3 I2.bare
    have hT2 : GxR.Tabbed P H1 (upd H1 P (.tbl (ps ++ more))) := ⟨⟨ps ++ more, upd_same, ht3⟩, fun b hb => upd_ne hb⟩
    obtain ⟨W, ⟨m0, w0⟩, turn⟩ := q _ hT2
    have hsz' : h'.objs.size = h3.objs.size + 1 := by rw [hs'.1, Heap.size_push]
    have keep' : ∀ b o, h3.get? b = some o → h'.get? b = some o := fun b o e => hs'.extBut b o (Nat.ne_of_lt (Heap.lt_size e)) (Heap.get?_push_of_some _ e)
    have nP : ∀ b ∈ fp, b ≠ P := fun b hb z => by
      have := (f2 b hb).1
      rw [z, hP] at this
      cases this
    have sz : ∀ b ∈ fp, b < h3.objs.size := fun b hb => by
      obtain ⟨o, e, _⟩ := T.obj _ _ st2 b hb
      exact Heap.lt_size (keep3 b o (nP b hb) e)
    have f3 : ∀ b ∈ fp, FpOk X pins (upd H1 P (.tbl (ps ++ more))) b ∧ b < ({ s2 with heap := h3, toks := tk } : Shared).heap.objs.size := fun b hb =>
      ⟨⟨by rw [upd_ne (nP b hb)]; exact (f2 b hb).1, (f2 b hb).2⟩, sz b hb⟩
    generalize hgo : ({ cls := .type "generator", data := .fields #[.int s2.gens.size 0, .str "<genexpr>" (tk + 1), .str (X.env.qual ++ "<genexpr>") (tk + 1 + 1)] } : Obj) = go
    have hgen : ∀ h : Heap, h.get? h'.objs.size = some go → h.IsGen h'.objs.size s2.gens.size := fun h e => ⟨go, _, _, e, by rw [← hgo], by rw [← hgo], by rw [← hgo]⟩
    have hpush : (h'.push go).get? h'.objs.size = some go := by
      rw [← hgo]
      exact Heap.get?_push_size _ rfl
    have hgd : ∀ v, go.data ≠ .cell v := fun v z => by rw [← hgo] at z; cases z
    have keep5 : ∀ b o, h3.get? b = some o → (h'.push go).get? b = some o := fun b o e => Heap.get?_push_of_some _ (keep' b o e)
    have st5 : tn 0 (h'.push go) := T.keep _ _ _ st2 fun b hb o e => keep5 b o (keep3 b o (nP b hb) e)
    obtain ⟨genv, hge⟩ : ∃ genv, genv = genEnv scope (cloFrom X.env.cells scope.names []) h3.objs.size code builtinsNs X.env := ⟨_, rfl⟩
    obtain ⟨A', hA'⟩ : ∃ A', A' = X.A.in1.in1.over (.compLoop (.GeneratorExp elt [⟨tg, iter, [], 0⟩] scope gpos) 0 (.ref it) .none genv) [] := ⟨_, rfl⟩
    have roomA : Room k A' := by
      rw [hA']
      refine ⟨hr.hd, ?_, ?_⟩
      · have := hr.dp
        show X.A.depth + 1 + 3 * k + 5 < _
        omega
      · have := hr.un
        show X.A.units + 1 + 1 + 3 + 16 * k + 200 < _
        omega
    have frA : A'.frames = some (genv :: X.stack) := by
      rw [hA']
      show pushEnvs [genv] X.A.frames = _
      rw [I.ok.frames]
      rfl
    obtain ⟨pg, pe⟩ := hpe A' { s2 with heap := h3, toks := tk } (upd H1 P (.tbl (ps ++ more))) h3.objs.size code fp [(h'.objs.size, go)] roomA
    rw [← hge] at pg pe
    have lim5 : (h'.push go).NoLimit := I3.nolimit.keeps keep5
    refine ⟨A', { s2 with heap := h3, toks := tk }, upd H1 P (.tbl (ps ++ more)), genv, fp, [(h'.objs.size, go)], h'.objs.size, s2.gens.size, m0 + 1, rfl, ?_, fun σ' H' s' I' => hgen _ (I'.pin (h'.objs.size, go) (List.mem_append_left _ (List.mem_singleton.mpr rfl))).1, fun σ' H' s' I' n' => ?_⟩
    · refine ⟨hgen _ hpush, lim5, AllBare.push I2.bare rfl, _, Array.getElem?_push_size .., fun s'' hh ho hb => ⟨rfl, ?_⟩⟩
      show Seg _ _ _ _ _ _ (.compStart (.GeneratorExp elt [⟨tg, iter, [], 0⟩] scope gpos) 0 (.ref it) .none (genEnv scope (cloFrom X.env.cells scope.names []) h3.objs.size code builtinsNs X.env)) _ _ _
      rw [← hge]
      have IG : Inv (gex X A' { s2 with heap := h3, toks := tk } (upd H1 P (.tbl (ps ++ more))) genv fp [(h'.objs.size, go)]) [] (wipe σ (own.map (·.2))) (upd H1 P (.tbl (ps ++ more))) s'' := by
        refine gex_start (m := fun y => if y = ".0" then some (.ref it) else none) I3 ok hN f3 (by rw [hA']; exact hr.hd) frA hge ho hb (by rw [hh]; exact keep5) (by rw [hh]; exact hn'.push _) fun p hp => ?_
        rw [List.mem_singleton.mp hp, hh]
        refine ⟨hpush, ?_, hgd⟩
        show h3.objs.size < h'.objs.size
        omega
      refine seg_gex0 (G := gex X A' { s2 with heap := h3, toks := tk } (upd H1 P (.tbl (ps ++ more))) genv fp [(h'.objs.size, go)]) T (by rw [hh]; exact st5) ?_
      refine seg_gex (G := gex X A' { s2 with heap := h3, toks := tk } (upd H1 P (.tbl (ps ++ more))) genv fp [(h'.objs.size, go)]) T rfl rfl rfl (fun b hb p hp => ?_) hA'.symm (by show genv.scope.isCoroutine = false; rw [hge]; exact ok.co) pg pe turn (m0 + 1) 0 m0 _ _ _ (Nat.lt_succ_self _) w0 IG (by rw [hh]; exact st5) fun b hb => (f3 b hb).1.1
      rw [List.mem_singleton.mp hp]
      show h'.objs.size ≠ b
      exact Nat.ne_of_gt (by rw [hsz']; exact Nat.lt_succ_of_lt (sz b hb))
    · exact I3.call' (ch := fp) I'.os I'.base I'.hok I'.bare fun b hb => ⟨(f3 b hb).1.2.2.2.1, (f3 b hb).1.2.1, (f3 b hb).1.2.2.2.2.1, (f3 b hb).1.2.2.2.2.2⟩
  refine ⟨lim2, ?_⟩
  cases hf : codeAmong gpos ps.toList with
  | none =>
    refine wpAny_genexprCodeX hcode (cd.code hPs ht) (cd.tab hPs) hf fun c' h' tk hx hge hlt hco' _ htab' _ => ?_
    obtain ⟨o1, vs, f1, tf, fl, tg, inF, tx, tt, op, _, _, _, _, _, _, _, _, _, htr, _⟩ := hco'
    exact cont _ h' tk _ hx (Nat.le_trans hge (Nat.le_of_lt hlt)) htab'.2 ⟨_, rfl⟩ htr
  | some cv =>
    refine wpAny_genexprCode_hit hcode (cd.code hPs ht) hf ?_
    exact cont cv s2.heap s2.toks ps (Heap.ExtBut.refl _ _) (Nat.le_refl _) hPs ⟨#[], by simp⟩ ht
/-- all(test for tg in iter), any(..): behind it the def's table may have grown -/
def tAllG (P : Addr) (wi : TI) (g : TG) (te : TE) (vs : List Nat) : TE := fun σ H Q => wi σ H fun J H1 => GxR.TabG H1 P ∧ ∀ H2, GxR.Tabbed P H1 H2 → ∃ W : Nat → Nat → Hp → Prop, (∃ m, W 0 m H2) ∧ Turns J g te vs (wipe σ vs) false (fun H' => Q (.bl false) H') (fun H' => Q (.bl true) H') W
def tAnyG (P : Addr) (wi : TI) (g : TG) (te : TE) (vs : List Nat) : TE := fun σ H Q => wi σ H fun J H1 => GxR.TabG H1 P ∧ ∀ H2, GxR.Tabbed P H1 H2 → ∃ W : Nat → Nat → Hp → Prop, (∃ m, W 0 m H2) ∧ Turns J g te vs (wipe σ vs) true (fun H' => Q (.bl true) H') (fun H' => Q (.bl false) H') W
section
variable {c P : Addr} {tg elt iter : Expr} {p pos gpos : Pos} {scope : Scope} {own : List (Str × Nat)} {k : Nat} {g : TG} {te : TE} {wi : TI}
theorem pe_allG (hr : Room (k + 1) X.A) (hN : X.N.Nodup) (hg : Gl X "all") (hm : X.mg "all" = none) (hb : bootBuiltins "all" = some (.builtin "all")) (TB : GxR.TabB X.base X.mg c P) (hcode : X.env.code = .ref c) (ok : GexOk X.N X.env.scope scope own) (hi : PI X tg iter wi)
    (hpe : ∀ (A : Around) (s : Shared) (H : Hp) (C : Addr) (code : Value) (fp : List Addr) (pn : List (Addr × Obj)), Room k A → let G := gex X A s H (genEnv scope (cloFrom X.env.cells scope.names []) C code builtinsNs X.env) fp pn
      PG G tg g ∧ PE G elt te)
    (hs : ∀ v, genFold iter X.env v = pure v)
    (he : starEach [.GeneratorExp elt [⟨tg, iter, [], 0⟩] scope gpos] X.env = (false, eval (.GeneratorExp elt [⟨tg, iter, [], 0⟩] scope gpos) X.env) :: starEach [] X.env := by rfl) :
    PE X (.Call (.Name "all" p) [.GeneratorExp elt [⟨tg, iter, [], 0⟩] scope gpos] [] pos) (tAllG P wi g te (own.map (·.2))) := by
  refine ⟨fun pins s σ H Q I h => ?_⟩
  refine wpAny_Call_Name_kw (ld_blt I hg hm hb ?_)
  refine PyProof.Rows.callWith_builtin1 ?_ he (by rfl)
  rw [he]
  show wpAny _ _ (spliced ((false, eval (.GeneratorExp elt [⟨tg, iter, [], 0⟩] scope gpos) X.env) :: backTo pos (starEach [] X.env))) _ _ s
  refine Calls.spliced_cons (thn (gex_made (stopv := false) hr hN TB hcode ok hi hpe hs I h) fun v s5 ⟨A', sG, HG, genv, fp, pn, a, gn, n, hv, hG, hgen, back⟩ => ?_)
  subst hv
  refine Calls.spliced_nil ?_
  exact call_all_gen (G := gex X A' sG HG genv fp pn) hr.hd (by have := hr.dp; omega) hgen hG (fun s' σ' H' I' n' q => ⟨.bl true, H', back σ' H' s' I' n', rfl, q⟩) fun s' σ' H' I' n' q => ⟨.bl false, H', back σ' H' s' I' n', rfl, q⟩
theorem pe_anyG (hr : Room (k + 1) X.A) (hN : X.N.Nodup) (hg : Gl X "any") (hm : X.mg "any" = none) (hb : bootBuiltins "any" = some (.builtin "any")) (TB : GxR.TabB X.base X.mg c P) (hcode : X.env.code = .ref c) (ok : GexOk X.N X.env.scope scope own) (hi : PI X tg iter wi)
    (hpe : ∀ (A : Around) (s : Shared) (H : Hp) (C : Addr) (code : Value) (fp : List Addr) (pn : List (Addr × Obj)), Room k A → let G := gex X A s H (genEnv scope (cloFrom X.env.cells scope.names []) C code builtinsNs X.env) fp pn
      PG G tg g ∧ PE G elt te)
    (hs : ∀ v, genFold iter X.env v = pure v)
    (he : starEach [.GeneratorExp elt [⟨tg, iter, [], 0⟩] scope gpos] X.env = (false, eval (.GeneratorExp elt [⟨tg, iter, [], 0⟩] scope gpos) X.env) :: starEach [] X.env := by rfl) :
    PE X (.Call (.Name "any" p) [.GeneratorExp elt [⟨tg, iter, [], 0⟩] scope gpos] [] pos) (tAnyG P wi g te (own.map (·.2))) := by
  refine ⟨fun pins s σ H Q I h => ?_⟩
  refine wpAny_Call_Name_kw (ld_blt I hg hm hb ?_)
  refine PyProof.Rows.callWith_builtin1 ?_ he (by rfl)
  rw [he]
  show wpAny _ _ (spliced ((false, eval (.GeneratorExp elt [⟨tg, iter, [], 0⟩] scope gpos) X.env) :: backTo pos (starEach [] X.env))) _ _ s
  refine Calls.spliced_cons (thn (gex_made (stopv := true) hr hN TB hcode ok hi hpe hs I h) fun v s5 ⟨A', sG, HG, genv, fp, pn, a, gn, n, hv, hG, hgen, back⟩ => ?_)
  subst hv
  refine Calls.spliced_nil ?_
  exact call_any_gen (G := gex X A' sG HG genv fp pn) hr.hd (by have := hr.dp; omega) hgen hG (fun s' σ' H' I' n' q => ⟨.bl false, H', back σ' H' s' I' n', rfl, q⟩) fun s' σ' H' I' n' q => ⟨.bl true, H', back σ' H' s' I' n', rfl, q⟩
end
end
/-! ### heaps: the defs' tables may grow -/
structure SameT (H H' : Hp) : Prop where
  but : ∀ b o, H b = some o → (∀ ps, o ≠ .tbl ps) → H' b = some o
  tab : ∀ P, GxR.TabG H P → GxR.TabG H' P
theorem SameT.refl (H : Hp) : SameT H H := ⟨fun _ _ h _ => h, fun _ h => h⟩
theorem SameT.trans {H H1 H2 : Hp} (a : SameT H H1) (b : SameT H1 H2) : SameT H H2 := ⟨fun c o h n => b.but c o (a.but c o h n) n, fun P h => b.tab P (a.tab P h)⟩
theorem TabG.mono {H H' : Hp} {P : Addr} (e : Same H H') (h : GxR.TabG H P) : GxR.TabG H' P := by
  obtain ⟨ps, h1, h2⟩ := h
  exact ⟨ps, e _ _ h1, h2⟩
theorem sameT {H H' : Hp} (e : Same H H') : SameT H H' := ⟨fun b o h _ => e b o h, fun _ h => TabG.mono e h⟩
theorem tabbedT {H H' : Hp} {P : Addr} (hP : GxR.TabG H P) (t : GxR.Tabbed P H H') : SameT H H' := by
  obtain ⟨ps, h1, h2⟩ := hP
  refine ⟨fun b o h n => ?_, fun Q h => ?_⟩
  · rw [t.2 b fun z => by rw [z, h1] at h; cases h; exact n ps rfl]
    exact h
  · by_cases hQ : Q = P
    · rw [hQ]
      exact t.1
    · obtain ⟨qs, g1, g2⟩ := h
      exact ⟨qs, by rw [t.2 Q hQ]; exact g1, g2⟩
section
variable {K : PySem.W.Frag} {H H' : Hp}
theorem SameT.seq {a : Addr} {xs : List V} (e : SameT H H') (h : SqL K H a xs) : SqL K H' a xs := by
  rcases h with (h | ⟨o, h⟩) | h
  · exact .inl (.inl (e.but _ _ h fun _ z => by cases z))
  · exact .inl (.inr ⟨o, e.but _ _ h fun _ z => by cases z⟩)
  · exact .inr h
theorem SameT.tseq {a : Addr} {xs : List V} (e : SameT H H') (h : SqT K H a xs) : SqT K H' a xs := by
  rcases h with (h | ⟨o, h⟩) | h
  · exact .inl (.inl (e.but _ _ h fun _ z => by cases z))
  · exact .inl (.inr ⟨o, e.but _ _ h fun _ z => by cases z⟩)
  · exact .inr h
mutual
theorem Dp.monoT (e : SameT H H') : ∀ (d : PyData) (v : V), Dp K H v d → Dp K H' v d
  | .none, _, h => by cases h; exact .non
  | .bool b, _, h => by cases h; exact .bl b
  | .int i, _, h => by cases h; exact .int i
  | .str x, _, h => by cases h; exact .str x
  | .list ds, _, h => by
    cases h with
    | lst hs ha => exact .lst (SameT.seq e hs) (Dp.monoTAll e ds _ ha)
  | .tuple ds, _, h => by
    cases h with
    | tup hs ha => exact .tup (SameT.tseq e hs) (Dp.monoTAll e ds _ ha)
  | .dict _, _, h => by cases h
theorem Dp.monoTAll (e : SameT H H') : ∀ (ds : List PyData) (vs : List V), DpAll K H vs ds → DpAll K H' vs ds
  | [], _, h => by cases h; exact .nil
  | d :: ds, _, h => by
    cases h with
    | cons h1 h2 => exact .cons (Dp.monoT e d _ h1) (Dp.monoTAll e ds _ h2)
end
theorem Fr.monoT {v : V} {r : Rat} (e : SameT H H') (h : Ub.Fr K H v r) : Ub.Fr K H' v r := Dp.monoT e _ _ h
theorem Frs.monoT {v : V} {rs : List Rat} (e : SameT H H') (h : Ub.Frs K H v rs) : Ub.Frs K H' v rs := Dp.monoT e _ _ h
end
/-! ### turns over a list, a range, two lists -/
section
variable {K : PySem.W.Frag} {g : TG} {te : TE} {vs : List Nat} {σw : L2.St} {stopv : Bool} {Qs Qd : Hp → Prop} {H2 : Hp}
theorem turnsL {a : Addr} {xs : List V} (Pv : Nat → Hp → Prop) (h0 : Pv 0 H2) (hl : ∀ i H, i ≤ xs.length → Pv i H → SqL K H a xs)
    (hs : ∀ i x H, xs[i]? = some x → Pv i H → g x σw H fun σ2 H2 => wipe σ2 vs = σw ∧ te σ2 H2 fun y H3 => ∃ b, y = .bl b ∧ (b = stopv → Qs H3) ∧ (b ≠ stopv → Pv (i + 1) H3)) (hd : ∀ H, Pv xs.length H → Qd H) :
    ∃ W : Nat → Nat → Hp → Prop, (∃ m, W 0 m H2) ∧ Turns (Itl K a) g te vs σw stopv Qs Qd W := by
  refine ⟨fun i m H => m = xs.length - i ∧ i ≤ xs.length ∧ Pv i H, ⟨xs.length, by simp, Nat.zero_le _, h0⟩, ?_⟩
  rintro i m H ⟨rfl, hi, p⟩
  have q := hl i H hi p
  by_cases hlt : i < xs.length
  · refine .inr ⟨⟨xs, xs[i], q, by simp [hlt]⟩, Pv (i + 1), fun H' p' => ⟨xs.length - (i + 1), by omega, rfl, hlt, p'⟩, fun x H' y => ?_⟩
    obtain ⟨e, y⟩ := y
    subst e
    exact hs i x _ (y xs q) p
  · have e : i = xs.length := by omega
    subst e
    exact .inl ⟨⟨xs, q, Nat.le_refl _⟩, hd H p⟩
theorem turnsZ {a c : Addr} {xs ys : List V} (Pv : Nat → Hp → Prop) (h0 : Pv 0 H2) (hl : ∀ i H, Pv i H → SqL K H a xs ∧ SqL K H c ys)
    (hs : ∀ i x y T H, xs[i]? = some x → ys[i]? = some y → H T = none → Pv i H → g (.ref T) σw (upd H T (.tup [x, y])) fun σ2 H2 => wipe σ2 vs = σw ∧ te σ2 H2 fun y H3 => ∃ b, y = .bl b ∧ (b = stopv → Qs H3) ∧ (b ≠ stopv → Pv (i + 1) H3)) (hd : ∀ H, Pv (min xs.length ys.length) H → Qd H) :
    ∃ W : Nat → Nat → Hp → Prop, (∃ m, W 0 m H2) ∧ Turns (Itz K a c) g te vs σw stopv Qs Qd W := by
  refine ⟨fun i m H => m = min xs.length ys.length - i ∧ i ≤ min xs.length ys.length ∧ Pv i H, ⟨min xs.length ys.length, by simp, Nat.zero_le _, h0⟩, ?_⟩
  rintro i m H ⟨rfl, hi, p⟩
  obtain ⟨q1, q2⟩ := hl i H p
  by_cases hlt : i < min xs.length ys.length
  · have h1 : i < xs.length := by omega
    have h2 : i < ys.length := by omega
    refine .inr ⟨⟨xs, ys, xs[i], ys[i], q1, q2, by simp [h1], by simp [h2]⟩, Pv (i + 1), fun H' p' => ⟨min xs.length ys.length - (i + 1), by omega, rfl, by omega, p'⟩, fun v H' y => ?_⟩
    obtain ⟨T, x, y, rfl, nT, rfl, hx, hy⟩ := y
    exact hs i x y T H (hx xs q1) (hy ys q2) nT p
  · have e : i = min xs.length ys.length := by omega
    subst e
    exact .inl ⟨⟨xs, ys, q1, q2, by omega⟩, hd H p⟩
end
/-! ### defs with a table, the law's end -/
def dT (x : String) : He.Defn := (Str.ofString x, none)
section
variable {P : Program} {w : World} {K : PySem.W.Frag} {mg : Str → Option Value} {base : Heap} {x qual : Str} {params : Arguments} {body : List Stmt} {scope : Scope} {dvs : List V} {kws : List (Str × V)} {f : Addr} {fd : FuncData}
theorem FunD.okT {CX : CXT} {N ps : List Str} {k : Nat} {sp : Sp} {p : He.Defn} (F : FunD K x qual params body scope dvs kws f fd) (hf : f = He.fAd K p) (S : FnScope N ps scope) (len : ∀ vs H Q E, sp vs H Q E → vs.length = ps.length)
    (hbody : ∀ (A : Around) (outer : List Env) (s : Shared) (H : Hp) (vs : List V) (Q : VK) (E : XK), Room k (A.deeper (envOfC qual scope s.heap.objs.size f (.ref (He.cT K p).1))) → sp vs H Q E →
      ∃ t, PSs (cxOf CX P w K mg base N qual scope f (.ref (He.cT K p).1) A outer s H E) body t ∧ t { nx := fun _ H' => Q .non H', rt := Q } (start N vs) H) : FnOk P w K mg base CX (k + 1) f fd ps sp := by
  obtain ⟨oc, od, dV, kV, doc, pm, an, cdv, ct, osl, rfl, lk, hcd, _, _⟩ := F.ex
  obtain ⟨c, hc⟩ := He.codeIn_ref hcd
  subst hc
  have e : (He.cT K p).1 = c := He.codeOf_eq (by rw [← hf]; exact lk) rfl
  refine fn_of lk hcd S len fun A outer s H vs Q E hr hsp => ?_
  have h := hbody A outer s H vs Q E (by rw [e]; exact hr) hsp
  rw [e] at h
  exact h
end
theorem endOfLawT {l : PySem.W.OpenLaw} {n k : Nat} {q : Program} {loose : List Str} {XP : (Str → Option Value) → Heap → Prop} {YP : World → Heap → Prop} {d : DefRec} {x : Str}
    (most : l.most = some n) (small : n ≤ sizeLine) (plain : d.params.defaults = []) (room : Room k callerA) (tf : List He.Defn)
    (all : ∀ (w : World) (mg : Str → Option Value) (fa : Addr) (h : Heap), YP w h → h.Ns mainGlobals mg → mg d.name = some (.ref fa) → ∃ (K : PySem.W.Frag) (fd : FuncData) (sp : Sp), K.In h ∧
      (∀ p ∈ tf, PySem.W.codeHdIn K (He.cT K p).1 (He.cT K p).2 = true) ∧ (∀ p ∈ tf, K.lookup (He.cT K p).2 = none) ∧ (∀ p ∈ tf, h.get? (He.cT K p).2 = some { cls := .none, data := .fields #[] }) ∧
      (∀ (s : Shared) (u : Value), BindsTo s fd ⟨[u], []⟩ [(x, u)]) ∧ (∀ (H : Hp) (a : Addr) (ns : List Int), ns.length ≤ n → (∀ z ∈ ns, Builtin.Int.intBits z ≤ 1048576) → (∀ p ∈ tf, GxR.TabG H (He.cT K p).2) → SqL K H a (ns.map V.int) → sp [.ref a] H (fun v _ => v = .bl true) E0) ∧
      ∀ base : Heap, K.In base → base.Ns mainGlobals mg → (∀ p ∈ tf, GxR.TabB base mg (He.cT K p).1 (He.cT K p).2) → FnOk l.prog w K mg base (L2.CX l.prog w) k fa fd [x] sp) :
    PySem.W.WalkO q loose XP YP l.row.toRowW d [] (fun f vs => PySem.call f vs) := by
  refine LamX.walk_ofTsE (CX := fun w => L2.CX l.prog w) (x := x) most small plain room (fun w mg fa h Y hn hm => ?_) fun w H s e s' z => Ub.noExc z
  obtain ⟨K, fd, sp, kin, hd, out, emp, bnd, want, ok⟩ := all w mg fa h Y hn hm
  refine ⟨K, kin, fd, tf.map (He.cT K), sp, fun p hp => ?_, fun p hp => ?_, fun p hp => ?_, bnd, fun H a ns hl hb hT hS => want H a ns hl hb (fun p hp => ?_) hS, fun base k2 g2 tb => ok base k2 g2 fun p hp => ?_⟩
  · obtain ⟨q, hq, rfl⟩ := List.mem_map.mp hp
    exact emp q hq
  · obtain ⟨q, hq, rfl⟩ := List.mem_map.mp hp
    exact out q hq
  · obtain ⟨q, hq, rfl⟩ := List.mem_map.mp hp
    exact PySem.W.codeHd_of_K kin (hd q hq)
  · exact ⟨#[], hT _ (List.mem_map.mpr ⟨p, hp, rfl⟩), True.intro⟩
  · obtain ⟨a, b, c⟩ := tb _ (List.mem_map.mpr ⟨p, hp, rfl⟩)
    exact ⟨a, b, c⟩
def gexC (N : List Str) (sc scope : Scope) (own : List (Str × Nat)) : Bool :=
  decide (scope.kind = .function) && (decide (scope.isCoroutine = false) && (scope.names.all (fun y => decide (y.2 ≠ .cell)) && (decide (scope.names.lookup (".0" : Str) = some NameKind.local) && (scope.names.all (fun y => decide (scope.names.lookup y.1 = some y.2)) &&
    (own.all (fun p => decide (N[p.2]? = some p.1)) && (scope.names.all (fun y => decide (y.2 = .free → (sc.names.lookup y.1 = some .cell ∨ sc.names.lookup y.1 = some .free))) && scope.names.all (fun y => decide (y.2 = .local → (y.1 ∈ own.map (·.1) ∨ y.1 ∉ N)))))))))
theorem gexOk_by {N : List Str} {sc scope : Scope} {own : List (Str × Nat)} (h : gexC N sc scope own = true) : GexOk N sc scope own := by
  unfold gexC at h
  simp only [Bool.and_eq_true, List.all_eq_true, decide_eq_true_eq] at h
  obtain ⟨h1, h2, h3, h4, h5, h6, h7, h8⟩ := h
  exact ⟨h1, h2, h3, h4, h5, h6, h7, h8⟩
theorem bb_all : bootBuiltins "all" = some (.builtin "all") := by kernel_rfl
theorem bb_any : bootBuiltins "any" = some (.builtin "any") := by kernel_rfl
/-! ### list(reversed(x)), x a list -/
section
open RT
variable {prog : Program} {w : World} {A : Around} {E : Value → Shared → Prop} {s : Shared}
theorem call_list_revI {it l : Addr} {items : Array Value} {Q : Value → Shared → Prop} (hh : A.handled = none) (hit : s.heap.IsRevIter it l ((items.size : Int) - 1)) (hl : s.heap.IsList l items) (hne : l ≠ it) (hn : items.size ≤ sizeLine)
    (hQ : ∀ (h' : Heap) (tk : Nat) (acc : Array Value) (c' : Nat), (∀ b o, b ≠ it → s.heap.get? b = some o → h'.get? b = some o) → h'.get? s.heap.objs.size = some (lstObj acc c') → ItemsOf (fun i v => items[items.size - 1 - i]? = some v) acc items.size → Q (.ref s.heap.objs.size) { s with heap := h', toks := tk }) :
    wpAny (model prog w) A (call (.type "list") [.ref it]) Q E s := by
  have W := (Walks.listRev (prog := prog) (w := w) (A := A.in1.in1) hh it l hne items).toS
  obtain ⟨oi, hoi, _⟩ := id hit
  obtain ⟨ol, hol, _⟩ := id hl
  have hSi : s.heap.objs.size ≠ it := Nat.ne_of_gt (Heap.lt_size hoi)
  have hSl : s.heap.objs.size ≠ l := Nat.ne_of_gt (Heap.lt_size hol)
  have hSf : s.heap.objs.size ∉ [it, l] := by simp only [List.mem_cons, List.not_mem_nil, or_false, not_or]; exact ⟨hSi, hSl⟩
  refine callType_codes (Q₁ := fun obj s₁ => obj = .ref s.heap.objs.size ∧ s₁ = { s with heap := s.heap.push { cls := .type "list", data := .seq #[] } }) F.called_list (F.typeCall_list_1 _) F.entry_list_init
    (code_list_new _ ⟨rfl, rfl⟩) fun obj s₁ h₁ => ?_
  obtain ⟨rfl, rfl⟩ := h₁
  have hS : (s.heap.push { cls := .type "list", data := .seq #[] }).get? s.heap.objs.size = some { cls := .type "list", data := .seq #[] } := Heap.get?_push_size _ rfl
  refine ⟨⟨_, hS, rfl⟩, F.args_list_init_2 _ _, ?_⟩
  show wpAny _ A.in1.in1 (do let old ← Builtin.List.listItems (.ref s.heap.objs.size); Builtin.List.listUpdate (.ref s.heap.objs.size) (fun _ => #[]); letGo old.toList.reverse; Builtin.List.listExtendWith (.ref s.heap.objs.size) (.ref it) .none) _ _ _
  refine wpAny_bind ?_
  unfold Builtin.List.listItems
  refine wpAny_bind (wpAny_seqItems hS rfl (wpAny_pure ?_))
  show wpAny _ A.in1.in1 (updateSeq s.heap.objs.size (fun _ => #[]) >>= fun _ => letGo (#[] : Array Value).toList.reverse >>= fun _ => Builtin.List.listExtendWith (.ref s.heap.objs.size) (.ref it) .none) _ _ _
  refine wpAny_bind (wpAny_updateSeq hS rfl ?_)
  have hS2 := Heap.get?_update_self (Obj.mapSeq (fun _ => (#[] : Array Value))) hS rfl
  refine wpAny_bind (wpAny_letGo ?_)
  have kp : ∀ b o, s.heap.get? b = some o → ((s.heap.push { cls := .type "list", data := .seq #[] }).update s.heap.objs.size (Obj.mapSeq (fun _ => (#[] : Array Value)))).get? b = some o := fun b o e =>
    (Heap.get?_update_other _ _ (Ne.symm (Nat.ne_of_lt (Heap.lt_size e)))).trans (Heap.get?_push_of_some _ e)
  generalize ((s.heap.push { cls := .type "list", data := .seq #[] }).update s.heap.objs.size (Obj.mapSeq (fun _ => (#[] : Array Value)))) = h2 at hS2 kp ⊢
  have hit1 : h2.IsRevIter it l ((items.size : Int) - 1) := hit.at fun o e => kp it o e
  have hl1 : h2.IsList l items := hl.at fun o e => kp l o e
  have hT : ({ s with heap := h2 } : Shared).TypeIs (.ref it) "list_reverseiterator" := Heap.IsRevIter.typeIs (s := { s with heap := h2 }) hit1
  have h1 : Builtin.List.listSameRef (.ref s.heap.objs.size) (.ref it) = false := by simp [Builtin.List.listSameRef, hSi]
  unfold Builtin.List.listExtendWith
  refine wpAny_bind (wpAny_typeOf hT ?_)
  rw [if_neg (by rw [h1]; decide)]
  refine wpAny_bind (wpAny_pyIter_revIter (s := { s with heap := h2 }) hit1 ?_)
  refine wpAny_bind (wpAny_holding ?_)
  unfold Builtin.List.listLengthHint
  refine wpAny_bind (wpAny_specialOf hT nolen_lri ?_)
  show wpAny _ A.in1.in1 (specialOf (Value.ref it) (Str.ofString "__length_hint__") >>= _) _ _ _
  refine wpAny_bind (wpAny_specialOf hT hint_lri ?_)
  generalize hid : ("list_reverseiterator.__length_hint__" : String) = id0
  wp_delta
  rw [show splitId id0 = some ("list_reverseiterator", "__length_hint__") from by subst hid; decide +kernel]
  subst hid
  refine wpAny_bind (wpAny_isInstance (b := true) hT (by rw [isSubtype_type]; kernel_rfl) ?_)
  refine wpAny_pure ?_
  rw [if_neg (by decide)]
  have e0 : ((items.size : Nat) : Int) - 1 - ((0 : Nat) : Int) = (items.size : Int) - 1 := by omega
  refine wpAny_pure ⟨plainId_quiet F.plain_extend_loop _, codeAny_extend_loopS W hn _ hSf _ items.size 0 _ _ _ rfl (Nat.zero_le _) ⟨Nat.zero_le _, by rw [e0]; exact hit1, hl1⟩ hS2 (ItemsOf.nil _) fun s' acc' c' hm hS' hacc => ?_⟩
  rw [Moved.eq_with hm]
  refine ⟨rfl, hQ s'.heap s'.toks acc' c' (fun b o hb e => hm.heap b o (fun hmem => ?_) (kp b o e)) hS' hacc⟩
  rcases List.mem_cons.mp hmem with e' | hmem
  · exact absurd (Heap.lt_size e) (by rw [e']; exact Nat.lt_irrefl _)
  · exact hb (List.mem_singleton.mp hmem)
end
def tListRev (K : PySem.W.Frag) (te : TE) : TE := fun σ H Q => te σ H fun v H1 => ∃ (a : Addr) (xs : List V), v = .ref a ∧ SqL K H1 a xs ∧ ∀ q, H1 q = none → Q (.ref q) (upd H1 q (.lst xs.reverse))
theorem pe_listRev {X : Cx} {e : Expr} {te : TE} {p p2 pos pos2 : Pos} (hc : X.calm = true) (hg : Gl X "list") (hm : X.mg "list" = none) (hb : bootBuiltins "list" = some (.type "list")) (hg2 : Gl X "reversed") (hm2 : X.mg "reversed" = none) (he : PE X e te)
    (hs : starEach [e] X.env = (false, eval e X.env) :: starEach [] X.env := by rfl)
    (hs2 : starEach [.Call (.Name "reversed" p2) [e] [] pos2] X.env = (false, eval (.Call (.Name "reversed" p2) [e] [] pos2) X.env) :: starEach [] X.env := by rfl) :
    PE X (.Call (.Name "list" p) [.Call (.Name "reversed" p2) [e] [] pos2] [] pos) (tListRev X.K te) := by
  refine ⟨fun pins s σ H Q I h => ?_⟩
  refine Call_ (ld_blt I hg hm hb (PyProof.Rows.callWith_type1 (args_cons (Call_ (ld_blt I hg2 hm2 PyProof.Rows.boot_reversed (PyProof.Rows.callWith_type1 (args_cons (thn (he.run pins s σ H _ I h) fun u s1 ⟨v, H1, I1, r1, q1⟩ => args_nil ?_) hs) hs rfl))) hs2) hs2 rfl))
  obtain ⟨a, xs, ev, hq, q⟩ := q1
  subst ev
  obtain rfl : u = Value.ref a := r1
  obtain ⟨its, rv, p', hz⟩ := I1.list hq
  refine call_reversed_list p'.isList (args_nil ?_)
  have k0 : ∀ b o, s1.heap.get? b = some o → (s1.heap.push (revObj a ((its.toArray.size : Int) - 1))).get? b = some o := fun b o e => Heap.get?_push_of_some _ e
  have I2 : L2.Inv X pins σ H1 { s1 with heap := s1.heap.push (revObj a ((its.toArray.size : Int) - 1)) } := I1.kept (t' := s1.toks) k0
  obtain ⟨f0, f1, f2, f3, f4, f5⟩ := I1.fpOk (H' := H1) (b := s1.heap.objs.size) (Nat.le_refl _) (I1.hok.fresh (Nat.le_refl _))
  have hl := p'.isList
  obtain ⟨ol, hol, _⟩ := id hl
  have hne : a ≠ s1.heap.objs.size := Nat.ne_of_lt (Heap.lt_size hol)
  have hn : its.toArray.size ≤ sizeLine := by rw [List.size_toArray, ← rv.length]; exact hz
  refine call_list_revI (s := { s1 with heap := s1.heap.push (revObj a ((its.toArray.size : Int) - 1)) }) (I1.ok.hd hc) ⟨_, Heap.get?_push_size _ rfl, rfl, rfl⟩ (hl.push _) hne hn fun h' tk acc c' hk hS hi => ?_
  have I3 : L2.Inv X pins σ H1 { s1 with heap := h', toks := tk } := I2.turned (t' := tk) (fun b o hb e => hk b o hb e) f0 f1 f3 f4 f5
  have nS : H1 (s1.heap.push (revObj a ((its.toArray.size : Int) - 1))).objs.size = none := I2.hok.fresh (Nat.le_refl _)
  refine ⟨.ref (s1.heap.push (revObj a ((its.toArray.size : Int) - 1))).objs.size, upd H1 _ (.lst xs.reverse), Inv.drained (sc := { s1 with heap := s1.heap.push (revObj a ((its.toArray.size : Int) - 1)) }) (ex := [s1.heap.objs.size]) I2 (Nat.le_refl _) (by rw [List.length_reverse]; exact hz) hS (RT.vals_rev rv hi) ?_ rfl I1.bare ?_ I3.hok nS, rfl, q _ nS⟩
  · intro b hb
    rw [List.mem_singleton.mp hb]
    exact ⟨f3, f1, f4, f5⟩
  · refine ⟨fun b o e n hb hx => hk b o (fun z => hx (List.mem_singleton.mpr z)) e, fun b o e n hb hx => ⟨o.slots, hk b o (fun z => hx (List.mem_singleton.mpr z)) e⟩, fun b o e n hx => n, fun b o e hx => ⟨o, hk b o (fun z => hx (List.mem_singleton.mpr z)) e⟩, fun _ _ z => z, fun _ _ _ z => z, fun b ps z => ⟨#[], by rw [z]; simp⟩⟩
/-- isinstance of an exception that has one of two classes -/
def rIsEx2 (K : PySem.W.Frag) (D1 D2 a : Addr) (cls : Value) (d : Option Addr) : List V → Hp → VK → Prop := fun xs H Q => Ub.rIsEx K D1 a cls d xs H Q ∨ Ub.rIsEx K D2 a cls d xs H Q
theorem call_isEx2 {X : Cx} {a D1 D2 : Addr} {oe : Obj} {pn : List (Addr × Obj)} {cls : Value} {d : Option Addr} (C1 : ExcC X.K D1) (C2 : ExcC X.K D2) (hz : Zc cls d oe) (hf : ∃ vs, oe.data = .fields vs) : CallR (X.suite a ((a, oe) :: pn)) (.builtin "isinstance") (rIsEx2 X.K D1 D2 a cls d) := by
  intro pins s σ H xs us Q I r h
  exact h.elim (Ub.call_isEx C1 hz hf pins s σ H xs us Q I r) (Ub.call_isEx C2 hz hf pins s σ H xs us Q I r)
/-- what is never reached needs no rule -/
def tNo : TS := fun _ _ _ => False
def tNoE : TE := fun _ _ _ => False
theorem ps_no {X : Cx} {st : Stmt} : PS X st tNo := ⟨fun _ _ _ _ _ _ h => h.elim⟩
theorem pe_no {X : Cx} {e : Expr} : PE X e tNoE := ⟨fun _ _ _ _ _ _ h => h.elim⟩
end UbG

namespace UbR
open PySem PySem.Spec PyProof.Rows L2 UbM Ub
/-! ### lists that change: all other data stand apart from them -/
/-- the heap without the cells in S -/
def wo (S : List Addr) (H : Hp) : Hp := fun b => if b ∈ S then none else H b
theorem wo_in {S : List Addr} {H : Hp} {b : Addr} {o : HO} (h : wo S H b = some o) : b ∉ S ∧ H b = some o := by
  unfold wo at h
  by_cases hb : b ∈ S
  · rw [if_pos hb] at h
    cases h
  · rw [if_neg hb] at h
    exact ⟨hb, h⟩
theorem wo_out {S : List Addr} {H : Hp} {b : Addr} (hb : b ∉ S) : wo S H b = H b := by
  unfold wo
  rw [if_neg hb]
theorem wo_same {S : List Addr} {H : Hp} : Same (wo S H) H := fun b o h => (wo_in h).2
theorem wo_upd {S : List Addr} {H : Hp} {a : Addr} {o : HO} (ha : a ∈ S) : wo S (upd H a o) = wo S H := by
  funext b
  unfold wo
  by_cases hb : b ∈ S
  · rw [if_pos hb, if_pos hb]
  · rw [if_neg hb, if_neg hb, upd_ne (show b ≠ a from fun z => hb (by rw [z]; exact ha))]
theorem wo_sub {S S' : List Addr} {H : Hp} (h : ∀ s ∈ S, s ∈ S') : Same (wo S' H) (wo S H) := fun b o e => by
  obtain ⟨h1, h2⟩ := wo_in e
  rw [wo_out fun z => h1 (h b z)]
  exact h2
/-- all stands but the lists in S; tables may grow -/
structure SameS (S : List Addr) (H H' : Hp) : Prop where
  but : ∀ b o, b ∉ S → H b = some o → (∀ ps, o ≠ .tbl ps) → H' b = some o
  tab : ∀ P, GxR.TabG H P → GxR.TabG H' P
  ls : ∀ s, s ∈ S → (∃ xs, H s = some (.lst xs)) → ∃ xs, H' s = some (.lst xs)
/-- the cells in S are lists -/
def Ls (S : List Addr) (H : Hp) : Prop := ∀ s, s ∈ S → ∃ xs, H s = some (.lst xs)
theorem SameS.refl {S : List Addr} (H : Hp) : SameS S H H := ⟨fun _ _ _ h _ => h, fun _ h => h, fun _ _ h => h⟩
theorem SameS.trans {S : List Addr} {H H1 H2 : Hp} (a : SameS S H H1) (b : SameS S H1 H2) : SameS S H H2 :=
  ⟨fun c o n h t => b.but c o n (a.but c o n h t) t, fun P h => b.tab P (a.tab P h), fun s hs h => b.ls s hs (a.ls s hs h)⟩
theorem sameTS {S : List Addr} {H H' : Hp} (e : UbG.SameT H H') : SameS S H H' := ⟨fun b o _ h t => e.but b o h t, e.tab, fun s _ ⟨xs, h⟩ => ⟨xs, e.but _ _ h fun _ z => by cases z⟩⟩
theorem sameS {S : List Addr} {H H' : Hp} (e : Same H H') : SameS S H H' := sameTS (UbG.sameT e)
theorem SameS.sub {S S' : List Addr} {H H' : Hp} (e : SameS S H H') (h : ∀ s ∈ S, s ∈ S') : SameS S' H H' :=
  ⟨fun b o n g t => e.but b o (fun z => n (h b z)) g t, e.tab, fun s _ ⟨xs, g⟩ => by
    by_cases hs : s ∈ S
    · exact e.ls s hs ⟨xs, g⟩
    · exact ⟨xs, e.but _ _ hs g fun _ z => by cases z⟩⟩
theorem sameS_upd {S : List Addr} {H : Hp} {a : Addr} {xs : List V} (ha : a ∈ S) (h : ∀ ps, H a ≠ some (.tbl ps)) : SameS S H (upd H a (.lst xs)) := by
  refine ⟨fun b o n e _ => ?_, fun P ⟨ps, e, t⟩ => ⟨ps, ?_, t⟩, fun s _ ⟨ys, e⟩ => ?_⟩
  · rw [upd_ne (show b ≠ a from fun z => n (by rw [z]; exact ha))]
    exact e
  · rw [upd_ne (show P ≠ a from fun z => h ps (by rw [← z]; exact e))]
    exact e
  · by_cases hs : s = a
    · rw [hs]
      exact ⟨xs, upd_same⟩
    · exact ⟨ys, by rw [upd_ne hs]; exact e⟩
theorem notTbl {H : Hp} {a : Addr} {xs : List V} (h : H a = some (.lst xs)) : ∀ ps, H a ≠ some (.tbl ps) := fun ps z => by
  rw [h] at z
  cases z
theorem notTbl0 {H : Hp} {a : Addr} (h : H a = none) : ∀ ps, H a ≠ some (.tbl ps) := fun ps z => by
  rw [h] at z
  cases z
theorem SameS.wT {S : List Addr} {H H' : Hp} (e : SameS S H H') : UbG.SameT (wo S H) (wo S H') := by
  refine ⟨fun b o h t => ?_, fun P ⟨ps, h, t⟩ => ?_⟩
  · obtain ⟨h1, h2⟩ := wo_in h
    rw [wo_out h1]
    exact e.but b o h1 h2 t
  · obtain ⟨h1, h2⟩ := wo_in h
    obtain ⟨qs, g, t2⟩ := e.tab P ⟨ps, h2, t⟩
    exact ⟨qs, by rw [wo_out h1]; exact g, t2⟩
theorem SameS.lsS {S : List Addr} {H H' : Hp} (e : SameS S H H') (h : Ls S H) : Ls S H' := fun s hs => e.ls s hs (h s hs)
theorem SameS.get {S : List Addr} {H H' : Hp} {a : Addr} {xs : List V} (e : SameS S H H') (h : H a = some (.lst xs)) (ha : a ∉ S) : H' a = some (.lst xs) := e.but _ _ ha h fun _ z => by cases z
theorem SameS.seqL {K : PySem.W.Frag} {S : List Addr} {H H' : Hp} {a : Addr} {xs : List V} (e : SameS S H H') (h : SqL K (wo S H) a xs) : SqL K (wo S H') a xs := UbG.SameT.seq e.wT h
section
variable {K : PySem.W.Frag} {S S' : List Addr} {H H' : Hp} {v : V} {d : PyData}
theorem Kp.mono (e : SameS S H H') (h : Dp K (wo S H) v d) : Dp K (wo S H') v d := UbG.Dp.monoT e.wT _ _ h
theorem Kp.monoAll {vs : List V} {ds : List PyData} (e : SameS S H H') (h : DpAll K (wo S H) vs ds) : DpAll K (wo S H') vs ds := UbG.Dp.monoTAll e.wT _ _ h
theorem Kp.dp (h : Dp K (wo S H) v d) : Dp K H v d := Dp.mono wo_same _ _ h
theorem Kp.dpAll {vs : List V} {ds : List PyData} (h : DpAll K (wo S H) vs ds) : DpAll K H vs ds := Dp.monoAll wo_same _ _ h
theorem Kp.sub (i : ∀ s ∈ S, s ∈ S') (h : Dp K (wo S' H) v d) : Dp K (wo S H) v d := Dp.mono (wo_sub i) _ _ h
theorem Kp.subAll {vs : List V} {ds : List PyData} (i : ∀ s ∈ S, s ∈ S') (h : DpAll K (wo S' H) vs ds) : DpAll K (wo S H) vs ds := Dp.monoAll (wo_sub i) _ _ h
theorem wo_tseq {a : Addr} {xs : List V} (l : Ls S H) (h : SqT K H a xs) : SqT K (wo S H) a xs := by
  have go : ∀ o, H a = some o → (∀ ys, o ≠ .lst ys) → wo S H a = some o := fun o e n => by
    rw [wo_out fun z => ?_]
    · exact e
    · obtain ⟨ys, g⟩ := l _ z
      rw [g] at e
      cases e
      exact n ys rfl
  rcases h with (h | ⟨o, h⟩) | h
  · exact .inl (.inl (go _ h fun _ z => by cases z))
  · exact .inl (.inr ⟨o, go _ h fun _ z => by cases z⟩)
  · exact .inr h
mutual
theorem Kp.ofNoL (l : Ls S H) : ∀ (d : PyData) (v : V), noL d = true → Dp K H v d → Dp K (wo S H) v d
  | .none, _, _, h => by cases h; exact .non
  | .bool b, _, _, h => by cases h; exact .bl b
  | .int i, _, _, h => by cases h; exact .int i
  | .str x, _, _, h => by cases h; exact .str x
  | .list ds, _, n, _ => by
    unfold noL at n
    cases n
  | .tuple ds, _, n, h => by
    cases h with
    | tup hs ha => exact .tup (wo_tseq l hs) (Kp.ofNoLAll l ds _ (by unfold noL at n; exact (Bool.and_eq_true_iff.mp n).2) ha)
  | .dict _, _, _, h => by cases h
theorem Kp.ofNoLAll (l : Ls S H) : ∀ (ds : List PyData) (vs : List V), noL.noLs ds = true → DpAll K H vs ds → DpAll K (wo S H) vs ds
  | [], _, _, h => by cases h; exact .nil
  | dt :: ds, _, n, h => by
    unfold noL.noLs at n
    obtain ⟨n1, n2⟩ := Bool.and_eq_true_iff.mp n
    cases h with
    | cons h1 h2 => exact .cons (Kp.ofNoL l dt _ n1 h1) (Kp.ofNoLAll l ds _ n2 h2)
end
theorem Kp.fr {r : Rat} (l : Ls S H) (h : Fr K H v r) : Fr K (wo S H) v r := Kp.ofNoL l _ _ rfl h
/-- what is new is in no cell -/
theorem Ls.new {p : Addr} (l : Ls S H) (np : H p = none) : p ∉ S := fun z => by
  obtain ⟨xs, h⟩ := l p z
  rw [np] at h
  cases h
theorem wo_new {p : Addr} {o : HO} (hp : p ∉ S) : wo S (upd H p o) = upd (wo S H) p o := by
  funext b
  by_cases hb : b = p
  · rw [hb, wo_out hp, upd_same, upd_same]
  · rw [upd_ne hb]
    unfold wo
    by_cases hs : b ∈ S
    · rw [if_pos hs, if_pos hs]
    · rw [if_neg hs, if_neg hs, upd_ne hb]
theorem wo_none {p : Addr} (np : H p = none) : wo S H p = none := by
  cases e : wo S H p with
  | none => rfl
  | some o =>
    rw [(wo_in e).2] at np
    cases np
/-- a new list, a new tuple of data that stand apart -/
theorem Kp.newL {p : Addr} {xs : List V} {ds : List PyData} (l : Ls S H) (np : H p = none) (h : DpAll K (wo S H) xs ds) : Dp K (wo S (upd H p (.lst xs))) (.ref p) (.list ds) := by
  rw [wo_new (l.new np)]
  exact .lst (.inl (.inl upd_same)) (Dp.monoAll (sameNew (wo_none np)) _ _ h)
theorem Kp.newT {p : Addr} {xs : List V} {ds : List PyData} (l : Ls S H) (np : H p = none) (h : DpAll K (wo S H) xs ds) : Dp K (wo S (upd H p (.tup xs))) (.ref p) (.tuple ds) := by
  rw [wo_new (l.new np)]
  exact .tup (.inl (.inl upd_same)) (Dp.monoAll (sameNew (wo_none np)) _ _ h)
/-- a cell whose items stand apart from it, at its end: data -/
theorem Kp.done {a : Addr} {xs : List V} {ds : List PyData} (h : H a = some (.lst xs)) (ha : a ∉ S) (hD : DpAll K (wo (a :: S) H) xs ds) : Dp K (wo S H) (.ref a) (.list ds) :=
  .lst (.inl (.inl (by rw [wo_out ha]; exact h))) (Kp.subAll (fun s hs => List.mem_cons_of_mem _ hs) hD)
theorem Kp.lst {a : Addr} {ds : List PyData} (h : Dp K (wo S H) (.ref a) (.list ds)) : ∃ xs, SqL K (wo S H) a xs ∧ DpAll K (wo S H) xs ds := by
  cases h with
  | lst h1 h2 => exact ⟨_, h1, h2⟩
theorem wo_seqH {a : Addr} {xs : List V} (h : SqL K (wo S H) a xs) : SqL K H a xs := Same.seq wo_same h
theorem Kp.setAll {vs : List V} {ds : List PyData} {v : V} {d : PyData} : ∀ {vs : List V} {ds : List PyData} (i : Nat), DpAll K H vs ds → Dp K H v d → DpAll K H (vs.set i v) (ds.set i d)
  | _, _, _, .nil, _ => .nil
  | _, _, 0, .cons _ h2, h => .cons h h2
  | _, _, i + 1, .cons h1 h2, h => .cons h1 (Kp.setAll (vs := []) (ds := []) i h2 h)
end
/-! ### the law's row of numbers -/
/-- a list of whole numbers stands at d -/
def Ints (H : Hp) (d : Addr) : Prop := ∃ ns : List Int, H d = some (.lst (ns.map V.int))
theorem Ints.monoT {H H' : Hp} {d : Addr} (e : UbG.SameT H H') (h : Ints H d) : Ints H' d := by
  obtain ⟨ns, h⟩ := h
  exact ⟨ns, e.but _ _ h fun _ z => by cases z⟩
theorem Ints.mono {H H' : Hp} {d : Addr} (e : Same H H') (h : Ints H d) : Ints H' d := h.monoT (UbG.sameT e)
theorem Ints.monoS {S : List Addr} {H H' : Hp} {d : Addr} (e : SameS S H H') (hd : d ∉ S) (h : Ints H d) : Ints H' d := by
  obtain ⟨ns, h⟩ := h
  exact ⟨ns, e.get h hd⟩
theorem Ints.stay {H : Hp} {d a : Addr} {o : HO} (h : Ints H d) (n : d ≠ a) : Ints (upd H a o) d := by
  obtain ⟨ns, h⟩ := h
  exact ⟨ns, by rw [upd_ne n]; exact h⟩
theorem Ints.ls {H : Hp} {d : Addr} (h : Ints H d) : Ls [d] H := fun s hs => by
  obtain ⟨ns, h⟩ := h
  rw [List.mem_singleton.mp hs]
  exact ⟨_, h⟩
theorem Ints.ne {H : Hp} {d a : Addr} (h : Ints H d) (na : H a = none) : d ≠ a := fun z => by
  obtain ⟨ns, h⟩ := h
  rw [z, na] at h
  cases h
theorem rdApp {H : Hp} {Q : VK} {d : Addr} {xs : List V} {x : V} (h : H d = some (.lst xs)) (hz : xs.length ≤ 5000) (q : Q .non (upd H d (.lst (xs ++ [x])))) : rAppend (.ref d) [x] H Q :=
  ⟨d, _, _, rfl, rfl, h, Nat.lt_of_le_of_lt hz (by decide), q⟩
/-- small fractions -/
def Sm (a b : Nat) (r : Rat) : Prop := r.num.natAbs ≤ a ∧ r.den ≤ b
theorem Sm.bd {a b n : Nat} {r : Rat} (h : Sm a b r) (ha : a < 2 ^ n) (hb : b < 2 ^ n) : Bd n r := ⟨Nat.lt_of_le_of_lt h.1 ha, Nat.lt_of_le_of_lt h.2 hb⟩
theorem Sm.mono {a b a' b' : Nat} {r : Rat} (h : Sm a b r) (ha : a ≤ a') (hb : b ≤ b') : Sm a' b' r := ⟨Nat.le_trans h.1 ha, Nat.le_trans h.2 hb⟩
theorem sm_divInt {p q : Int} {a b : Nat} (hq : 0 < q) (h1 : p.natAbs ≤ a) (h2 : q.natAbs ≤ b) : Sm a b (Rat.divInt p q) := by
  have e1 := num_pos (p := p) hq
  have e2 := den_pos (p := p) hq
  refine ⟨?_, ?_⟩
  · rw [← e1, Int.natAbs_ediv_of_dvd (dvd_l p q)]
    exact Nat.le_trans (Nat.div_le_self ..) h1
  · have : ((Rat.divInt p q).den : Int).natAbs ≤ b := by
      rw [← e2, Int.natAbs_ediv_of_dvd (dvd_r p q)]
      exact Nat.le_trans (Nat.div_le_self ..) h2
    exact this
theorem mapInt_at {ns : List Int} {i : Nat} {x : V} (h : (ns.map V.int)[i]? = some x) : ∃ z, x = .int z ∧ ns[i]? = some z := by
  rw [List.getElem?_map] at h
  cases e : ns[i]? with
  | none =>
    rw [e] at h
    cases h
  | some z =>
    rw [e] at h
    cases h
    exact ⟨z, rfl, rfl⟩
/-! ### real lists (of this run) of data -/
def LL (K : PySem.W.Frag) (H : Hp) (a : Addr) (ds : List PyData) : Prop := ∃ xs, H a = some (.lst xs) ∧ DpAll K H xs ds
section
variable {K : PySem.W.Frag} {S S' : List Addr} {H H' : Hp} {a : Addr} {ds : List PyData}
theorem LL.dp (h : LL K H a ds) : Dp K H (.ref a) (.list ds) := by
  obtain ⟨xs, h1, h2⟩ := h
  exact .lst (.inl (.inl h1)) h2
theorem LL.monoT (e : UbG.SameT H H') (h : LL K H a ds) : LL K H' a ds := by
  obtain ⟨xs, h1, h2⟩ := h
  exact ⟨xs, e.but _ _ h1 (fun _ z => by cases z), UbG.Dp.monoTAll e _ _ h2⟩
theorem LL.mono (e : Same H H') (h : LL K H a ds) : LL K H' a ds := h.monoT (UbG.sameT e)
theorem LL.monoS (e : SameS S H H') (h : LL K (wo S H) a ds) : LL K (wo S H') a ds := h.monoT e.wT
theorem LL.out (h : LL K (wo S H) a ds) : LL K H a ds := h.mono wo_same
theorem LL.sub (i : ∀ s ∈ S, s ∈ S') (h : LL K (wo S' H) a ds) : LL K (wo S H) a ds := h.mono (wo_sub i)
theorem LL.notIn (h : LL K (wo S H) a ds) : a ∉ S := by
  obtain ⟨xs, h1, h2⟩ := h
  exact (wo_in h1).1
theorem LL.at {i : Nat} {d : PyData} (h : LL K H a ds) (e : ds[i]? = some d) : ∃ xs v, H a = some (.lst xs) ∧ xs[i]? = some v ∧ Dp K H v d := by
  obtain ⟨xs, h1, h2⟩ := h
  obtain ⟨v, h3, h4⟩ := go h2 e
  exact ⟨xs, v, h1, h3, h4⟩
where
  go {K : PySem.W.Frag} {H : Hp} : ∀ {xs : List V} {ds : List PyData} {i : Nat} {d : PyData}, DpAll K H xs ds → ds[i]? = some d → ∃ v, xs[i]? = some v ∧ Dp K H v d
    | _, _, _, _, .nil, h => by simp at h
    | _, _, 0, _, .cons h1 _, h => by
      simp at h
      subst h
      exact ⟨_, rfl, h1⟩
    | _, _, i + 1, d, .cons _ h2, h => by
      obtain ⟨v, e, q⟩ := LL.at.go (i := i) (d := d) h2 (by simpa using h)
      exact ⟨v, by simpa using e, q⟩
theorem LL.newS {p : Addr} {xs : List V} (l : Ls S H) (np : H p = none) (h : DpAll K (wo S H) xs ds) : LL K (wo S (upd H p (.lst xs))) p ds := by
  rw [wo_new (l.new np)]
  exact ⟨xs, upd_same, Dp.monoAll (sameNew (wo_none np)) _ _ h⟩
theorem LL.done {xs : List V} (h : H a = some (.lst xs)) (ha : a ∉ S) (hD : DpAll K (wo (a :: S) H) xs ds) : LL K (wo S H) a ds :=
  ⟨xs, by rw [wo_out ha]; exact h, Kp.subAll (fun s hs => List.mem_cons_of_mem _ hs) hD⟩
end
/-! ### cells: lists that grow or change, their items apart from all cells in S -/
def Cel (K : PySem.W.Frag) (S : List Addr) (H : Hp) (a : Addr) (ds : List PyData) : Prop := ∃ xs, H a = some (.lst xs) ∧ DpAll K (wo S H) xs ds
theorem SameS.late {S : List Addr} {H H' : Hp} {D : Addr} {o : HO} (e : SameS S H H') (nD : H D = none) : SameS S H (upd H' D o) :=
  ⟨fun b x n h t => by rw [upd_ne (ne_of_none h nD)]; exact e.but b x n h t, fun P g => by
    obtain ⟨ps, h, _⟩ := id g
    obtain ⟨qs, h2, t2⟩ := e.tab P g
    exact ⟨qs, by rw [upd_ne (ne_of_none h nD)]; exact h2, t2⟩, fun s hs ⟨xs, h⟩ => by
    obtain ⟨ys, g⟩ := e.ls s hs ⟨xs, h⟩
    exact ⟨ys, by rw [upd_ne (ne_of_none h nD)]; exact g⟩⟩
theorem SameT.late {H H' : Hp} {D : Addr} {o : HO} (e : UbG.SameT H H') (nD : H D = none) : UbG.SameT H (upd H' D o) :=
  ⟨fun b x h t => by rw [upd_ne (ne_of_none h nD)]; exact e.but b x h t, fun P g => by
    obtain ⟨ps, h, _⟩ := id g
    obtain ⟨qs, h2, t2⟩ := e.tab P g
    exact ⟨qs, by rw [upd_ne (ne_of_none h nD)]; exact h2, t2⟩⟩
section
variable {K : PySem.W.Frag} {S S' : List Addr} {H H' : Hp} {a b : Addr} {ds es : List PyData} {o : HO}
theorem Cel.new {p : Addr} : Cel K S (upd H p (.lst [])) p [] := ⟨[], upd_same, .nil⟩
theorem Cel.monoS (e : SameS S' H H') (i : ∀ s ∈ S', s ∈ S) (ha : a ∉ S') (h : Cel K S H a ds) : Cel K S H' a ds := by
  obtain ⟨xs, h1, h2⟩ := h
  exact ⟨xs, e.get h1 ha, Kp.monoAll (e.sub i) h2⟩
theorem Cel.monoT (e : UbG.SameT H H') (h : Cel K S H a ds) : Cel K S H' a ds := h.monoS (S' := []) (sameTS e) (fun _ z => absurd z (List.not_mem_nil)) (List.not_mem_nil)
theorem Cel.mono (e : Same H H') (h : Cel K S H a ds) : Cel K S H' a ds := h.monoT (UbG.sameT e)
theorem Cel.ls (h : Cel K S H a ds) : ∃ xs, H a = some (.lst xs) := by
  obtain ⟨xs, h1, _⟩ := h
  exact ⟨xs, h1⟩
theorem Cel.turn {y : V} {d : PyData} (h : Cel K S H a ds) (ha : a ∈ S) (hz : ds.length ≤ 5000) (hy : Dp K (wo S H) y d) : ∃ acc, H a = some (.lst acc) ∧ acc.length < sizeLine ∧ Cel K S (upd H a (.lst (acc ++ [y]))) a (ds ++ [d]) := by
  obtain ⟨xs, h1, h2⟩ := h
  exact ⟨xs, h1, Nat.lt_of_le_of_lt (by rw [dpAll_len h2]; exact hz) (by decide), _, upd_same, by rw [wo_upd ha]; exact dpAll_snoc h2 hy⟩
theorem Cel.app {y : V} {d : PyData} {Q : VK} (h : Cel K S H a ds) (ha : a ∈ S) (hz : ds.length ≤ 5000) (hy : Dp K (wo S H) y d) (q : ∀ acc, H a = some (.lst acc) → Cel K S (upd H a (.lst (acc ++ [y]))) a (ds ++ [d]) → Q .non (upd H a (.lst (acc ++ [y])))) : rAppend (.ref a) [y] H Q := by
  obtain ⟨xs, h1, h2⟩ := h
  exact rdApp h1 (by rw [dpAll_len h2]; exact hz) (q _ h1 ⟨_, upd_same, by rw [wo_upd ha]; exact dpAll_snoc h2 hy⟩)
theorem Cel.done (h : Cel K S H a ds) (i : ∀ s ∈ S', s ∈ S) (ha : a ∉ S') : LL K (wo S' H) a ds := by
  obtain ⟨xs, h1, h2⟩ := h
  exact ⟨xs, by rw [wo_out ha]; exact h1, Kp.subAll i h2⟩
theorem Cel.stay (h : Cel K S H b es) (ha : a ∈ S) (n : b ≠ a) : Cel K S (upd H a o) b es := by
  obtain ⟨xs, h1, h2⟩ := h
  exact ⟨xs, by rw [upd_ne n]; exact h1, by rw [wo_upd ha]; exact h2⟩
theorem LL.stay (h : LL K (wo S H) b es) (ha : a ∈ S) : LL K (wo S (upd H a o)) b es := by
  rw [wo_upd ha]
  exact h
theorem Kp.stay {v : V} {d : PyData} (h : Dp K (wo S H) v d) (ha : a ∈ S) : Dp K (wo S (upd H a o)) v d := by
  rw [wo_upd ha]
  exact h
end
section
variable {K : PySem.W.Frag} {S S' : List Addr} {H H' : Hp} {a b : Addr} {ds es : List PyData} {o : HO}
theorem ixN_of {n j : Nat} (hj : j < n) : ixN n (j : Int) = some j := by
  unfold ixN
  rw [if_pos (by omega), if_pos (by omega)]
  simp
theorem Cel.setAt {v : V} {d : PyData} {k : Nat} {z : Int} {Q : Hp → Prop} (h : Cel K S H a ds) (ha : a ∈ S) (hz : z = (k : Int)) (hk : k < ds.length) (hv : Dp K (wo S H) v d) (q : ∀ xs, H a = some (.lst xs) → Cel K S (upd H a (.lst (xs.set k v))) a (ds.set k d) → Q (upd H a (.lst (xs.set k v)))) : rSetL (.ref a) (.int z) v H Q := by
  obtain ⟨xs, h1, h2⟩ := h
  subst hz
  exact rdSetL h1 (ixN_of (by rw [dpAll_len h2]; exact hk)) (q xs h1 ⟨_, upd_same, by rw [wo_upd ha]; exact Kp.setAll (vs := []) (ds := []) k h2 hv⟩)
theorem Cel.ix {d : PyData} {k : Nat} {z : Int} {Q : VK} (h : Cel K S H a ds) (hz : z = (k : Int)) (e : ds[k]? = some d) (q : ∀ v, Dp K (wo S H) v d → Q v H) : rIx K (.ref a) (.int z) H Q := by
  obtain ⟨xs, h1, h2⟩ := h
  obtain ⟨v, h3, h4⟩ := LL.at.go h2 e
  exact rdIxL (.inl (.inl h1)) (at_of hz h3) (q v h4)
theorem LL.ix {d : PyData} {k : Nat} {z : Int} {Q : VK} (h : LL K (wo S H) a ds) (hz : z = (k : Int)) (e : ds[k]? = some d) (q : ∀ v, Dp K (wo S H) v d → Q v H) : rIx K (.ref a) (.int z) H Q := by
  obtain ⟨xs, v, h1, h3, h4⟩ := h.at e
  exact rdIxL (.inl (.inl (wo_in h1).2)) (at_of hz h3) (q v h4)
/-- a new list of fractions stands apart from all older cells -/
theorem frsApart {rs : List Rat} {xs : List V} (l : Ls S H') (h : H' a = some (.lst xs)) (ha : a ∉ S) (hD : DpAll K H' xs (rs.map frD)) : LL K (wo S H') a (rs.map frD) :=
  ⟨xs, by rw [wo_out ha]; exact h, Kp.ofNoLAll l _ _ (noL_frs rs) hD⟩
end
/-- whole numbers from 0 on, as values -/
def natV (t : Nat) : V := .int (t : Int)
theorem natV_at {ts : List Nat} {i : Nat} {x : V} (h : (ts.map natV)[i]? = some x) : ∃ t, x = .int (t : Nat) ∧ ts[i]? = some t := by
  rw [List.getElem?_map] at h
  cases e : ts[i]? with
  | none =>
    rw [e] at h
    cases h
  | some z =>
    rw [e] at h
    cases h
    exact ⟨z, rfl, rfl⟩
theorem natV_get {ts : List Nat} {i t : Nat} (h : ts[i]? = some t) : (ts.map natV)[i]? = some (.int (t : Nat)) := by
  rw [List.getElem?_map, h]
  rfl
/-- of m + 1 numbers below m two are the same -/
theorem pigeon : ∀ (m : Nat) (g : Nat → Nat), (∀ i, i ≤ m → g i < m) → ∃ i j, i < j ∧ j ≤ m ∧ g i = g j
  | 0, g, h => absurd (h 0 (Nat.le_refl _)) (Nat.not_lt_zero _)
  | m + 1, g, h => by
    by_cases he : ∃ i, i ≤ m ∧ g i = g (m + 1)
    · obtain ⟨i, hi, e⟩ := he
      exact ⟨i, m + 1, by omega, Nat.le_refl _, e⟩
    · have hne : ∀ i, i ≤ m → g i ≠ g (m + 1) := fun i hi e => he ⟨i, hi, e⟩
      have hv := h (m + 1) (Nat.le_refl _)
      obtain ⟨i, j, hij, hj, e⟩ := pigeon m (fun i => if g i < g (m + 1) then g i else g i - 1) (fun i hi => by
        have h1 := h i (by omega)
        have h2 := hne i hi
        show (if g i < g (m + 1) then g i else g i - 1) < m
        split <;> omega)
      refine ⟨i, j, hij, by omega, ?_⟩
      have h1 := hne i (by omega)
      have h2 := hne j hj
      have e' : (if g i < g (m + 1) then g i else g i - 1) = (if g j < g (m + 1) then g j else g j - 1) := e
      split at e' <;> split at e' <;> omega
/-- fractions over one denominator -/
def Sz (D N : Nat) (r : Rat) : Prop := ∃ k : Int, r = Rat.divInt k D ∧ k.natAbs ≤ N
theorem div_plus {a s n : Int} : Rat.divInt a n + Rat.divInt s n = Rat.divInt (a + s) n := by
  rw [Rat.divInt_eq_div, Rat.divInt_eq_div, Rat.divInt_eq_div, Rat.div_def, Rat.div_def, Rat.div_def, ← Rat.add_mul, Rat.intCast_add]
theorem Sz.add {D N M : Nat} {r s : Rat} (h1 : Sz D N r) (h2 : Sz D M s) : Sz D (N + M) (r + s) := by
  obtain ⟨a, rfl, ha⟩ := h1
  obtain ⟨b, rfl, hb⟩ := h2
  exact ⟨a + b, div_plus, by omega⟩
theorem div_neg (a n : Int) : -Rat.divInt a n = Rat.divInt (-a) n := by
  rw [Rat.divInt_eq_div, Rat.divInt_eq_div, Rat.div_def, Rat.div_def, Rat.intCast_neg, Rat.neg_mul]
theorem Sz.neg {D N : Nat} {r : Rat} (h : Sz D N r) : Sz D N (-r) := by
  obtain ⟨a, rfl, ha⟩ := h
  exact ⟨-a, div_neg a D, by omega⟩
theorem Sz.sub {D N M : Nat} {r s : Rat} (h1 : Sz D N r) (h2 : Sz D M s) : Sz D (N + M) (r - s) := by
  rw [Rat.sub_eq_add_neg]
  exact h1.add h2.neg
theorem Sz.mono {D N M : Nat} {r : Rat} (h : Sz D N r) (l : N ≤ M) : Sz D M r := by
  obtain ⟨a, e, ha⟩ := h
  exact ⟨a, e, by omega⟩
theorem Sz.mul {D E N M : Nat} {r s : Rat} (h1 : Sz D N r) (h2 : Sz E M s) : Sz (D * E) (N * M) (r * s) := by
  obtain ⟨a, rfl, ha⟩ := h1
  obtain ⟨b, rfl, hb⟩ := h2
  refine ⟨a * b, ?_, ?_⟩
  · rw [Rat.divInt_mul_divInt]
    push_cast
    rfl
  · rw [Int.natAbs_mul]
    exact Nat.mul_le_mul ha hb
theorem Sz.zero {D N : Nat} : Sz D N 0 := ⟨0, by rw [Rat.zero_divInt], Nat.zero_le _⟩
theorem Sz.sum {D N : Nat} : ∀ (rs : List Rat) (M : Nat) (r : Rat), Sz D M r → (∀ x ∈ rs, Sz D N x) → Sz D (M + rs.length * N) (rs.foldl (· + ·) r)
  | [], M, r, h, _ => by simpa using h
  | x :: rs, M, r, h, hx => by
    have h1 := Sz.sum rs (M + N) (r + x) (h.add (hx x (List.mem_cons_self ..))) fun y hy => hx y (List.mem_cons_of_mem _ hy)
    refine h1.mono ?_
    rw [List.length_cons, Nat.succ_mul]
    omega
theorem Sz.bd {D N n : Nat} {r : Rat} (h : Sz D N r) (h0 : 0 < D) (h1 : D < 2 ^ n) (h2 : N < 2 ^ n) : Bd n r := by
  obtain ⟨a, rfl, ha⟩ := h
  exact bd_divInt (by omega) (by omega) (by omega)
theorem Sz.of {D a b : Nat} {r : Rat} (h : Sm a b r) (hd : r.den ∣ D) (h0 : 0 < D) : Sz D (a * D) r := by
  obtain ⟨c, hc⟩ := hd
  refine ⟨r.num * (c : Int), ?_, ?_⟩
  · have hc0 : (c : Int) ≠ 0 := by
      intro z
      have : c = 0 := by omega
      subst this
      omega
    rw [hc]
    push_cast
    rw [Rat.divInt_mul_right hc0, Rat.num_divInt_den]
  · rw [Int.natAbs_mul]
    have h1 : (c : Int).natAbs ≤ D := by
      have : c ≤ r.den * c := Nat.le_mul_of_pos_left _ r.den_pos
      omega
    exact Nat.mul_le_mul h.1 h1
/-! ### what is new -/
def Nw (H : Hp) (a : Addr) : Prop := ∀ o, H a = some o → ∃ ps, o = .tbl ps
theorem Nw.of {H : Hp} {a : Addr} (h : H a = none) : Nw H a := fun o e => by
  rw [h] at e
  cases e
theorem Nw.back {H H1 : Hp} {a : Addr} (e : UbG.SameT H H1) (h : Nw H1 a) : Nw H a := fun o g => by
  by_cases ht : ∃ ps, o = .tbl ps
  · exact ht
  · exact h o (e.but _ _ g fun ps z => ht ⟨ps, z⟩)
theorem Nw.backS {S : List Addr} {H H1 : Hp} {a : Addr} (e : SameS S H H1) (l : Ls S H) (h : Nw H1 a) : Nw H a := fun o g => by
  by_cases ht : ∃ ps, o = .tbl ps
  · exact ht
  · by_cases hs : a ∈ S
    · obtain ⟨xs, hx⟩ := e.ls a hs (l a hs)
      obtain ⟨ps, z⟩ := h _ hx
      cases z
    · exact h o (e.but _ _ hs g fun ps z => ht ⟨ps, z⟩)
theorem Nw.ne {H : Hp} {a b : Addr} {xs : List V} (h : Nw H a) (hb : H b = some (.lst xs)) : b ≠ a := fun z => by
  obtain ⟨ps, e⟩ := h _ (z ▸ hb)
  cases e
theorem Nw.notIn {S : List Addr} {H : Hp} {a : Addr} (h : Nw H a) (l : Ls S H) : a ∉ S := fun z => by
  obtain ⟨xs, e⟩ := l a z
  exact h.ne e rfl
theorem late_nw {S : List Addr} {H H' : Hp} {p : Addr} {xs : List V} (e : SameS S H H') (n : Nw H p) (h : ∀ ps, H' p ≠ some (.tbl ps)) (l : Ls S H) : SameS S H (upd H' p (.lst xs)) :=
  ⟨fun b o m g t => by
    have hb : b ≠ p := fun z => by
      obtain ⟨ps, q⟩ := n o (z ▸ g)
      exact t ps q
    rw [upd_ne hb]
    exact e.but b o m g t, fun P g => by
    obtain ⟨qs, g1, t1⟩ := e.tab P g
    exact ⟨qs, by rw [upd_ne (show P ≠ p from fun z => h qs (z ▸ g1))]; exact g1, t1⟩, fun s hs hl => by
    obtain ⟨ys, g⟩ := e.ls s hs hl
    exact ⟨ys, by rw [upd_ne (show s ≠ p from fun z => (n.notIn l) (z ▸ hs))]; exact g⟩⟩
theorem wo_nones {S : List Addr} {H : Hp} (h : ∀ s ∈ S, H s = none) : wo S H = H := by
  funext b
  unfold wo
  by_cases hb : b ∈ S
  · rw [if_pos hb, h b hb]
  · rw [if_neg hb]
theorem SameS.toT {S : List Addr} {H H4 H' : Hp} (e : SameS S H4 H') (s : UbG.SameT H H4) (h : ∀ x ∈ S, Nw H x) : UbG.SameT H H' :=
  ⟨fun b o g t => e.but _ _ (fun z => by
    obtain ⟨ps, q⟩ := h b z o g
    exact t ps q) (s.but _ _ g t) t, fun P g => e.tab P (s.tab P g)⟩
theorem wo_cons {S : List Addr} {H : Hp} {a : Addr} (h : H a = none) : wo (a :: S) H = wo S H := by
  funext b
  unfold wo
  by_cases hb : b ∈ S
  · rw [if_pos hb, if_pos (List.mem_cons_of_mem _ hb)]
  · rw [if_neg hb]
    by_cases e : b = a
    · rw [if_pos (by rw [e]; exact List.mem_cons_self ..), e, h]
    · rw [if_neg (fun z => (List.mem_cons.mp z).elim e hb)]
theorem dpAll_rep {K : PySem.W.Frag} {H : Hp} {v : V} {d : PyData} (h : Dp K H v d) : ∀ n, DpAll K H (List.replicate n v) (List.replicate n d)
  | 0 => .nil
  | n + 1 => .cons h (dpAll_rep h n)
theorem rgV_nat (n : Nat) : rgV 0 (n : Int) = (List.range n).map natV := by
  unfold rgV natV
  simp
theorem rng_at {n i : Nat} {x : V} (h : ((List.range n).map natV)[i]? = some x) : x = .int (i : Nat) ∧ i < n := by
  obtain ⟨t, rfl, e⟩ := natV_at h
  have hi := (List.getElem?_eq_some_iff.mp e).1
  rw [List.length_range] at hi
  rw [List.getElem?_range hi] at e
  cases e
  exact ⟨rfl, hi⟩
theorem rng_len (n : Nat) : ((List.range n).map natV).length = n := by rw [List.length_map, List.length_range]
/-! ### truth of lists, slices -/
theorem truNot {K : PySem.W.Frag} {H : Hp} {p : Addr} {xs : List V} {A B : Prop} (h : SqL K H p xs) (h1 : xs = [] → A) (h2 : xs ≠ [] → B) : ∃ k, TruV K (.ref p) H k ∧ if (!k) = true then A else B := by
  cases xs with
  | nil => exact ⟨false, .inl ⟨_, h, rfl⟩, iteT (h1 rfl)⟩
  | cons x xs => exact ⟨true, .inl ⟨_, h, rfl⟩, iteF (h2 (by simp))⟩
theorem truIf {K : PySem.W.Frag} {H : Hp} {p : Addr} {xs : List V} {A B : Prop} (h : SqL K H p xs) (h1 : xs = [] → B) (h2 : xs ≠ [] → A) : ∃ k, TruV K (.ref p) H k ∧ if k = true then A else B := by
  cases xs with
  | nil => exact ⟨false, .inl ⟨_, h, rfl⟩, iteF (h1 rfl)⟩
  | cons x xs => exact ⟨true, .inl ⟨_, h, rfl⟩, iteT (h2 (by simp))⟩
theorem cut_all {xs : List V} {n : Nat} (h : xs.length ≤ n) : cutV xs none (some (n : Int)) = xs := by
  have e0 : HT.sIx xs.length 0 none = 0 := rfl
  have e1 : HT.sIx xs.length xs.length (some (n : Int)) = xs.length := by
    rw [HT.sIx_nat]
    omega
  unfold cutV
  rw [e0, e1]
  simp
theorem rdSlL {K : PySem.W.Frag} {H : Hp} {Q : VK} {a : Addr} {xs ys : List V} {lo hi : Option Int} (h : SqL K H a xs) (e : cutV xs lo hi = ys) (q : ∀ p, H p = none → Q (.ref p) (upd H p (.lst ys))) : rSlL K (.ref a) lo hi H Q :=
  ⟨a, xs, rfl, h, fun p np => by rw [e]; exact q p np⟩
theorem cut_last {xs : List V} : cutV xs none (some (-1)) = xs.dropLast := by
  have e0 : HT.sIx xs.length 0 none = 0 := rfl
  have e1 : HT.sIx xs.length xs.length (some (-1)) = xs.length - 1 := by
    show (if (-1 : Int) < 0 then ((-1 : Int) + (xs.length : Int)).toNat else min (-1 : Int).toNat xs.length) = xs.length - 1
    rw [if_pos (by decide)]
    omega
  unfold cutV
  rw [e0, e1, List.drop_zero, Nat.sub_zero, List.dropLast_eq_take]
theorem dpAll_take {K : PySem.W.Frag} {H : Hp} : ∀ {xs : List V} {ds : List PyData} (i : Nat), DpAll K H xs ds → DpAll K H (xs.take i) (ds.take i)
  | _, _, 0, _ => .nil
  | _, _, i + 1, .nil => .nil
  | _, _, i + 1, .cons h1 h2 => .cons h1 (dpAll_take i h2)
theorem dpAll_drop {K : PySem.W.Frag} {H : Hp} : ∀ {xs : List V} {ds : List PyData} (i : Nat), DpAll K H xs ds → DpAll K H (xs.drop i) (ds.drop i)
  | _, _, 0, h => h
  | _, _, i + 1, .nil => .nil
  | _, _, i + 1, .cons _ h2 => dpAll_drop i h2
theorem pi_listK {X : Cx} {K : PySem.W.Frag} {tg e : Expr} {te : TE} (h : X.K = K) (he : PE X e te) : PI X tg e (iList K te) := by
  subst h
  exact pi_list he
/-! ### comprehensions and loops, their parts kept -/
def LC (J : It) (g : TG) (tt : TT) (te : TE) (vs : List Nat) (σ : L2.St) (H1 : Hp) (D : Addr) (Qd : Hp → Prop) : Prop := ∃ W : Nat → Nat → Hp → Prop, (∃ m, W 0 m (upd H1 D (.lst []))) ∧ ∀ i m H, W i m H →
  (J.stop i H ∧ Qd H) ∨ (J.go i H ∧ ∃ Nx : Hp → Prop, (∀ H', Nx H' → ∃ m', m' < m ∧ W (i + 1) m' H') ∧ ∀ x H', J.yld i H x H' → g x (wipe σ vs) H' fun σ2 H2 => wipe σ2 vs = wipe σ vs ∧ tt σ2 H2 fun b H3 =>
    if b = true then te σ2 H3 fun y H4 => ∃ acc, H4 D = some (.lst acc) ∧ acc.length < sizeLine ∧ Nx (upd H4 D (.lst (acc ++ [y]))) else Nx H3)
theorem lcOf {wi : TI} {g : TG} {tt : TT} {te : TE} {vs : List Nat} {σ : L2.St} {H : Hp} {Q : VK} (h : wi σ H fun J H1 => ∀ D, H1 D = none → LC J g tt te vs σ H1 D (Q (.ref D))) : tLc wi g tt te vs σ H Q := h
def FL (J : It) (g : TG) (tb : TS) (D : Ends) (σ : L2.St) (H1 : Hp) : Prop := ∃ W : Nat → Nat → L2.St → Hp → Prop, (∃ m, W 0 m σ H1) ∧ ∀ i m σ H, W i m σ H →
  (J.stop i H ∧ D.nx σ H) ∨ (J.go i H ∧ ∃ N : L2.St → Hp → Prop, (∀ σ' H', N σ' H' → ∃ m', m' < m ∧ W (i + 1) m' σ' H') ∧ ∀ x H', J.yld i H x H' → g x σ H' fun σ2 H2 => tb { D with nx := N, ct := N, bk := D.nx } σ2 H2)
theorem forOf {wi : TI} {g : TG} {tb : TS} {D : Ends} {σ : L2.St} {H : Hp} (h : wi σ H fun J H1 => FL J g tb D σ H1) : tFor wi g tb D σ H := h
theorem FL.range {lo : Int} {n : Nat} {g : TG} {tb : TS} {D : Ends} {σ : L2.St} {H : Hp} (Pv : Nat → L2.St → Hp → Prop) (h0 : Pv 0 σ H)
    (hs : ∀ i σ H, i < n → Pv i σ H → g (.int (lo + i)) σ H fun σ2 H2 => tb { D with nx := Pv (i + 1), ct := Pv (i + 1), bk := D.nx } σ2 H2) (hd : ∀ σ H, Pv n σ H → D.nx σ H) : FL (Itr lo n) g tb D σ H := for_range Pv h0 hs hd
theorem FL.list {K : PySem.W.Frag} {a : Addr} {xs : List V} {g : TG} {tb : TS} {D : Ends} {σ : L2.St} {H : Hp} (Pv : Nat → L2.St → Hp → Prop) (h0 : Pv 0 σ H) (hl : ∀ i σ H, i ≤ xs.length → Pv i σ H → SqL K H a xs)
    (hs : ∀ i x σ H, xs[i]? = some x → Pv i σ H → g x σ H fun σ2 H2 => tb { D with nx := Pv (i + 1), ct := Pv (i + 1), bk := D.nx } σ2 H2) (hd : ∀ σ H, Pv xs.length σ H → D.nx σ H) : FL (Itl K a) g tb D σ H := for_list Pv h0 hl hs hd
theorem FL.enum {K : PySem.W.Frag} {a : Addr} {xs : List V} {g : TG} {tb : TS} {D : Ends} {σ : L2.St} {H : Hp} (Pv : Nat → L2.St → Hp → Prop) (h0 : Pv 0 σ H) (hl : ∀ i σ H, Pv i σ H → SqL K H a xs)
    (hs : ∀ i x σ H T, xs[i]? = some x → Pv i σ H → H T = none → g (.ref T) σ (upd H T (.tup [.int (i : Nat), x])) fun σ2 H2 => tb { D with nx := Pv (i + 1), ct := Pv (i + 1), bk := D.nx } σ2 H2) (hd : ∀ σ H, Pv xs.length σ H → D.nx σ H) : FL (Ite K a) g tb D σ H := forEnum Pv h0 hl hs hd
theorem FL.zip {K : PySem.W.Frag} {a b : Addr} {xs ys : List V} {g : TG} {tb : TS} {D : Ends} {σ : L2.St} {H : Hp} (Pv : Nat → L2.St → Hp → Prop) (h0 : Pv 0 σ H) (hl : ∀ i σ H, Pv i σ H → SqL K H a xs ∧ SqL K H b ys)
    (hs : ∀ i x y σ H T, xs[i]? = some x → ys[i]? = some y → Pv i σ H → H T = none → g (.ref T) σ (upd H T (.tup [x, y])) fun σ2 H2 => tb { D with nx := Pv (i + 1), ct := Pv (i + 1), bk := D.nx } σ2 H2) (hd : ∀ σ H, Pv (min xs.length ys.length) σ H → D.nx σ H) : FL (Itz K a b) g tb D σ H := forZip Pv h0 hl hs hd
theorem LC.range {lo : Int} {n : Nat} {g : TG} {tt : TT} {te : TE} {vs : List Nat} {σ : L2.St} {H1 : Hp} {D : Addr} {Qd : Hp → Prop} (Pv : Nat → Hp → Prop) (h0 : Pv 0 (upd H1 D (.lst [])))
    (hs : ∀ i H, i < n → Pv i H → g (.int (lo + i)) (wipe σ vs) H fun σ2 H2 => wipe σ2 vs = wipe σ vs ∧ tt σ2 H2 fun b H3 =>
      if b = true then te σ2 H3 fun y H4 => ∃ acc, H4 D = some (.lst acc) ∧ acc.length < sizeLine ∧ Pv (i + 1) (upd H4 D (.lst (acc ++ [y]))) else Pv (i + 1) H3) (hd : ∀ H, Pv n H → Qd H) : LC (Itr lo n) g tt te vs σ H1 D Qd := lc_range Pv h0 hs hd
theorem LC.list {K : PySem.W.Frag} {a : Addr} {xs : List V} {g : TG} {tt : TT} {te : TE} {vs : List Nat} {σ : L2.St} {H1 : Hp} {D : Addr} {Qd : Hp → Prop} (Pv : Nat → Hp → Prop) (h0 : Pv 0 (upd H1 D (.lst []))) (hl : ∀ i H, i ≤ xs.length → Pv i H → SqL K H a xs)
    (hs : ∀ i x H, xs[i]? = some x → Pv i H → g x (wipe σ vs) H fun σ2 H2 => wipe σ2 vs = wipe σ vs ∧ tt σ2 H2 fun b H3 =>
      if b = true then te σ2 H3 fun y H4 => ∃ acc, H4 D = some (.lst acc) ∧ acc.length < sizeLine ∧ Pv (i + 1) (upd H4 D (.lst (acc ++ [y]))) else Pv (i + 1) H3) (hd : ∀ H, Pv xs.length H → Qd H) : LC (Itl K a) g tt te vs σ H1 D Qd := lc_list Pv h0 hl hs hd
theorem LC.zip {K : PySem.W.Frag} {a b : Addr} {xs ys : List V} {g : TG} {tt : TT} {te : TE} {vs : List Nat} {σ : L2.St} {H1 : Hp} {D : Addr} {Qd : Hp → Prop} (Pv : Nat → Hp → Prop) (h0 : Pv 0 (upd H1 D (.lst []))) (hl : ∀ i H, Pv i H → SqL K H a xs ∧ SqL K H b ys)
    (hs : ∀ i x y T H, xs[i]? = some x → ys[i]? = some y → H T = none → Pv i H → g (.ref T) (wipe σ vs) (upd H T (.tup [x, y])) fun σ2 H2 => wipe σ2 vs = wipe σ vs ∧ tt σ2 H2 fun b H3 =>
      if b = true then te σ2 H3 fun y H4 => ∃ acc, H4 D = some (.lst acc) ∧ acc.length < sizeLine ∧ Pv (i + 1) (upd H4 D (.lst (acc ++ [y]))) else Pv (i + 1) H3) (hd : ∀ H, Pv (min xs.length ys.length) H → Qd H) : LC (Itz K a b) g tt te vs σ H1 D Qd := by
  refine ⟨fun i m H => m = min xs.length ys.length - i ∧ i ≤ min xs.length ys.length ∧ Pv i H, ⟨_, rfl, Nat.zero_le _, h0⟩, ?_⟩
  rintro i m H ⟨rfl, hi, p⟩
  obtain ⟨q1, q2⟩ := hl i H p
  by_cases hlt : i < min xs.length ys.length
  · have l1 : i < xs.length := by omega
    have l2 : i < ys.length := by omega
    refine .inr ⟨⟨xs, ys, xs[i], ys[i], q1, q2, List.getElem?_eq_getElem l1, List.getElem?_eq_getElem l2⟩, Pv (i + 1), fun H' p' => ⟨_, ?_, rfl, hlt, p'⟩, fun x H' yl => ?_⟩
    · omega
    · obtain ⟨T, x1, y1, rfl, nT, rfl, f1, f2⟩ := yl
      exact hs i x1 y1 T H (f1 _ q1) (f2 _ q2) nT p
  · have e : i = min xs.length ys.length := by omega
    refine .inl ⟨⟨xs, ys, q1, q2, by omega⟩, hd H (e ▸ p)⟩
end UbR

/-! Menus: lists of lists of fractions, gains, honest payments. -/
namespace UbR
open PySem PySem.Spec PyProof.Rows L2 UbM Ub
def rowD (r : List Rat) : PyData := .list (r.map frD)
def mD (W : List (List Rat)) : List PyData := W.map rowD
theorem mD_len (W : List (List Rat)) : (mD W).length = W.length := List.length_map ..
theorem mD_at {W : List (List Rat)} {i : Nat} {r : List Rat} (h : W[i]? = some r) : (mD W)[i]? = some (rowD r) := by
  unfold mD
  rw [List.getElem?_map, h]
  rfl
/-- W and L fit together: kinds, o outcomes -/
structure Men (W L : List (List Rat)) (o : Nat) : Prop where
  len : L.length = W.length
  pos : 1 ≤ W.length
  most : W.length ≤ 4
  op : 1 ≤ o
  om : o ≤ 3
  w : ∀ r ∈ W, r.length = o
  l : ∀ r ∈ L, r.length = o
  wb : ∀ r ∈ W, ∀ x ∈ r, Sm 100 30 x
  lb : ∀ r ∈ L, ∀ x ∈ r, Sm 3 3 x
theorem LL.len {K : PySem.W.Frag} {H : Hp} {a : Addr} {xs : List V} {ds : List PyData} (h : DpAll K H xs ds) : xs.length = ds.length := dpAll_len h
theorem rowAt {K : PySem.W.Frag} {H : Hp} {xs : List V} {W : List (List Rat)} {i : Nat} (h : DpAll K H xs (mD W)) (hi : i < W.length) : ∃ v, xs[i]? = some v ∧ Frs K H v W[i] := by
  obtain ⟨v, h1, h2⟩ := LL.at.go (i := i) h (mD_at (List.getElem?_eq_getElem hi))
  exact ⟨v, h1, h2⟩
/-- the gain of kind k from the lot of kind j -/
def gainR (W L : List (List Rat)) (k j : Nat) : Rat := dotR (W.getD k []) (L.getD j []) - dotR (W.getD k []) (L.getD k [])
theorem getD_at {W : List (List Rat)} {i : Nat} (h : i < W.length) : W.getD i [] = W[i] := by
  rw [List.getD_eq_getElem?_getD, List.getElem?_eq_getElem h]
  rfl
theorem Men.wB {W L : List (List Rat)} {o : Nat} (M : Men W L o) {i : Nat} (h : i < W.length) : ∀ r ∈ W[i], Bd 7 r := fun r hr => (M.wb _ (List.getElem_mem h) r hr).bd (by decide) (by decide)
theorem Men.lB {W L : List (List Rat)} {o : Nat} (M : Men W L o) {i : Nat} (h : i < L.length) : ∀ r ∈ L[i], Bd 7 r := fun r hr => (M.lb _ (List.getElem_mem h) r hr).bd (by decide) (by decide)
theorem bd_dot {W L : List (List Rat)} {o k j : Nat} (M : Men W L o) (hk : k < W.length) (hj : j < L.length) : Bd 60 (dotR W[k] L[j]) := by
  have h := bd_sumR (bd_zip (M.wB hk) (M.lB hj))
  refine h.mono ?_
  have h1 := M.w _ (List.getElem_mem hk)
  have h2 := M.om
  have h3 : (List.zipWith (· * ·) W[k] L[j]).length ≤ 3 := by
    rw [List.length_zipWith]
    omega
  have := Nat.mul_le_mul_right (7 + 7 + 1) h3
  omega
/-- the gain of a cycle -/
def cycR (W L : List (List Rat)) (cs : List Nat) : Rat := sumR (List.zipWith (gainR W L) cs (cs.drop 1 ++ cs.take 1))
theorem cut_from {xs : List V} {n : Nat} : cutV xs (some (n : Int)) none = xs.drop n := by
  have e0 : HT.sIx xs.length 0 (some (n : Int)) = min n xs.length := HT.sIx_nat ..
  have e1 : HT.sIx xs.length xs.length none = xs.length := rfl
  unfold cutV
  rw [e0, e1]
  by_cases h : n ≤ xs.length
  · rw [Nat.min_eq_left h, List.take_of_length_le (by rw [List.length_drop]; exact Nat.le_refl _)]
  · rw [Nat.min_eq_right (by omega), List.drop_of_length_le (Nat.le_refl _), List.drop_of_length_le (by omega)]
    simp
theorem cut_to {xs : List V} {n : Nat} : cutV xs none (some (n : Int)) = xs.take n := by
  have e0 : HT.sIx xs.length 0 none = 0 := rfl
  have e1 : HT.sIx xs.length xs.length (some (n : Int)) = min n xs.length := HT.sIx_nat ..
  unfold cutV
  rw [e0, e1, List.drop_zero, Nat.sub_zero]
  by_cases h : n ≤ xs.length
  · rw [Nat.min_eq_left h]
  · rw [Nat.min_eq_right (by omega), List.take_of_length_le (Nat.le_refl _), List.take_of_length_le (by omega)]
/-- honest payments -/
def HonP (W L : List (List Rat)) (ps : List Rat) : Prop := ps.length = W.length ∧ ps.getD 0 1 = 0 ∧ ∀ k, k < W.length → ∀ j, j < W.length → gainR W L k j ≤ ps.getD j 0 - ps.getD k 0
theorem bd_gain {W L : List (List Rat)} {o k j : Nat} (M : Men W L o) (hk : k < W.length) (hj : j < W.length) : Bd 121 (gainR W L k j) := by
  have m2 := M.len
  unfold gainR
  rw [getD_at hk, getD_at (show j < L.length by omega), getD_at (show k < L.length by omega)]
  exact bd_sub (bd_dot M hk (by omega)) (bd_dot M hk (by omega))
theorem getR_at {ps : List Rat} {i : Nat} {d : Rat} (h : i < ps.length) : ps.getD i d = ps[i] := by
  rw [List.getD_eq_getElem?_getD, List.getElem?_eq_getElem h]
  rfl
theorem frAt {K : PySem.W.Frag} {H : Hp} {xs : List V} {ps : List Rat} {i : Nat} (h : DpAll K H xs (ps.map frD)) (hi : i < ps.length) : ∃ v, xs[i]? = some v ∧ Fr K H v ps[i] := frs_get (xs := []) h (List.getElem?_eq_getElem hi)
theorem cmp_gt {r s : Rat} : 0 < cmpR r s ↔ s < r := by
  rcases cmpR_cases r s with ⟨h, e⟩ | ⟨h, e⟩ | ⟨h, e⟩ <;> rw [e]
  · exact ⟨fun z => absurd z (by decide), fun z => absurd (Rat.le_of_lt h) (Rat.not_le.mpr z)⟩
  · exact ⟨fun z => absurd z (by decide), fun z => absurd z (by rw [h]; exact Rat.lt_irrefl)⟩
  · exact ⟨fun _ => h, fun _ => by decide⟩
theorem frsLen (rs : List Rat) : (rs.map frD).length = rs.length := List.length_map ..
theorem frsAt {rs : List Rat} {i : Nat} {r : Rat} (h : rs[i]? = some r) : (rs.map frD)[i]? = some (frD r) := by
  rw [List.getElem?_map, h]
  rfl
theorem mem_set {α : Type} {l : List α} {i : Nat} {x y : α} {P : α → Prop} (h : ∀ z ∈ l, P z) (hx : P x) (hy : y ∈ l.set i x) : P y := by
  rcases List.mem_or_eq_of_mem_set hy with e | e
  · exact h _ e
  · rw [e]
    exact hx
/-- one denominator for all gains of a menu, and a bound of their numerators -/
abbrev d30 : Nat := 2329089562800
theorem dvd30 : ∀ d : Nat, d ≤ 30 → 0 < d → d ∣ d30 := by decide
theorem dvd6 : ∀ d : Nat, d ≤ 3 → 0 < d → d ∣ 6 := by decide
abbrev dG : Nat := d30 * 6
abbrev nG : Nat := 6 * ((100 * d30) * (3 * 6))
theorem sz_dot {W L : List (List Rat)} {o k j : Nat} (M : Men W L o) (hk : k < W.length) (hj : j < L.length) : Sz dG (3 * ((100 * d30) * (3 * 6))) (dotR W[k] L[j]) := by
  have h3 : (List.zipWith (· * ·) W[k] L[j]).length ≤ 3 := by
    rw [List.length_zipWith]
    have h1 := M.w _ (List.getElem_mem hk)
    have h2 := M.om
    omega
  have h := Sz.sum (D := dG) (N := (100 * d30) * (3 * 6)) (List.zipWith (· * ·) W[k] L[j]) 0 0 Sz.zero fun x hx => by
    obtain ⟨i, hi, e⟩ := List.getElem_of_mem hx
    rw [List.getElem_zipWith] at e
    rw [← e]
    have a1 := M.wb _ (List.getElem_mem hk) _ (List.getElem_mem (l := W[k]) (n := i) (by rw [List.length_zipWith] at hi; omega))
    have a2 := M.lb _ (List.getElem_mem hj) _ (List.getElem_mem (l := L[j]) (n := i) (by rw [List.length_zipWith] at hi; omega))
    exact (Sz.of a1 (dvd30 _ a1.2 (Rat.den_pos _)) (by decide)).mul (Sz.of a2 (dvd6 _ a2.2 (Rat.den_pos _)) (by decide))
  refine Sz.mono h ?_
  have := Nat.mul_le_mul_right ((100 * d30) * (3 * 6)) h3
  omega
theorem sz_gain {W L : List (List Rat)} {o k j : Nat} (M : Men W L o) (hk : k < W.length) (hj : j < W.length) : Sz dG nG (gainR W L k j) := by
  have m2 := M.len
  unfold gainR
  rw [getD_at hk, getD_at (show j < L.length by omega), getD_at (show k < L.length by omega)]
  exact ((sz_dot M hk (by omega)).sub (sz_dot M hk (by omega))).mono (by decide)
/-- all gains of a menu -/
def gains (W L : List (List Rat)) : List (List Rat) := (List.range W.length).map fun k => (List.range W.length).map fun j => gainR W L k j
def bG : Nat := nG + 4 * (4 * 4 * nG)
theorem mem_gains {W L : List (List Rat)} {row : List Rat} (h : row ∈ gains W L) : ∃ k, k < W.length ∧ row = (List.range W.length).map fun j => gainR W L k j := by
  obtain ⟨k, hk, e⟩ := List.mem_map.mp h
  exact ⟨k, List.mem_range.mp hk, e.symm⟩
theorem range_at {n i : Nat} (h : i < n) : (List.range n)[i]? = some i := by
  rw [List.getElem?_range h]
theorem take_range {α : Type} (f : Nat → α) {n i : Nat} (h : i < n) : ((List.range n).map f).take (i + 1) = ((List.range n).map f).take i ++ [f i] := by
  rw [List.take_add_one, List.getElem?_map, range_at h]
  rfl
theorem sub1 {a d : Addr} : ∀ s ∈ [d], s ∈ [a, d] := fun s hs => List.mem_cons_of_mem _ hs
theorem ls2 {H : Hp} {a d : Addr} (h1 : ∃ xs, H a = some (.lst xs)) (h2 : Ints H d) : Ls [a, d] H := fun s hs => by
  rcases List.mem_cons.mp hs with e | e
  · rw [e]
    exact h1
  · rw [List.mem_singleton.mp e]
    exact h2.ls d (List.mem_singleton.mpr rfl)
theorem ne1 {H : Hp} {a d : Addr} (h : Ints H d) (n : Nw H a) : a ∉ [d] := fun z => by
  obtain ⟨ns, e⟩ := h
  exact n.ne e (List.mem_singleton.mp z).symm
/-- the payments as they grow at p -/
structure DrI (K : PySem.W.Frag) (H : Hp) (d : Addr) (H' : Hp) (p : Addr) (rs : List Rat) : Prop where
  s : SameS [d] H H'
  i : Ints H' d
  n : Nw H p
  c : Cel K [p, d] H' p (rs.map frD)
  b : ∀ r ∈ rs, Sm 100 30 r
theorem DrI.ls {K : PySem.W.Frag} {H H' : Hp} {d p : Addr} {rs : List Rat} (h : DrI K H d H' p rs) : Ls [p, d] H' := fun s hs => by
  rcases List.mem_cons.mp hs with e | e
  · rw [e]
    exact h.c.ls
  · rw [e |> List.mem_singleton.mp]
    exact h.i.ls d (List.mem_singleton.mpr rfl)
theorem DrI.ne {K : PySem.W.Frag} {H H' : Hp} {d p : Addr} {rs : List Rat} (h : DrI K H d H' p rs) (h0 : Ints H d) : d ≠ p := by
  obtain ⟨ns, e⟩ := h0
  exact h.n.ne e
theorem DrI.mono {K : PySem.W.Frag} {H H' H2 : Hp} {d p : Addr} {rs : List Rat} (h : DrI K H d H' p rs) (h0 : Ints H d) (e : SameS [d] H' H2) (i : Ints H2 d) : DrI K H d H2 p rs :=
  ⟨h.s.trans e, i, h.n, h.c.monoS e (fun s hs => List.mem_cons_of_mem _ hs) (fun z => h.ne h0 (List.mem_singleton.mp z).symm), h.b⟩
theorem DrI.push {K : PySem.W.Frag} {H H' : Hp} {d p : Addr} {rs : List Rat} {v : V} {r : Rat} {Q : VK} (h : DrI K H d H' p rs) (h0 : Ints H d) (hz : rs.length ≤ 5000) (hv : Fr K H' v r) (hb : Sm 100 30 r) (q : ∀ H2, DrI K H d H2 p (rs ++ [r]) → Q .non H2) : rAppend (.ref p) [v] H' Q := by
  obtain ⟨ys, hy⟩ := h.c.ls
  refine h.c.app (d := frD r) (List.mem_cons_self ..) (by rw [frsLen]; exact hz) (Kp.fr h.ls hv) fun acc ha hC => q _ ⟨late_nw h.s h.n (notTbl hy) h0.ls, h.i.stay (h.ne h0), h.n, ?_, fun x hx => ?_⟩
  · rw [List.map_append]
    exact hC
  · rcases List.mem_append.mp hx with e | e
    · exact h.b x e
    · rw [List.mem_singleton.mp e]
      exact hb
end UbR

/-! Greatest chains between n kinds, by passes: sums s, steps f, the pass u of each kind's last change. -/
namespace UbC
/-- f again and again -/
def it (f : Nat → Nat) : Nat → Nat → Nat
  | 0, k => k
  | i + 1, k => f (it f i k)
theorem it_add (f : Nat → Nat) (i : Nat) : ∀ (j k : Nat), it f (i + j) k = it f j (it f i k)
  | 0, k => rfl
  | j + 1, k => by
    show f (it f (i + j) k) = f (it f j (it f i k))
    rw [it_add f i j k]
theorem it_lt {f : Nat → Nat} {n k : Nat} (h : ∀ k, k < n → f k < n) (hk : k < n) : ∀ i, it f i k < n
  | 0 => hk
  | i + 1 => h _ (it_lt h hk i)
theorem rlt1 {a b c : Rat} (h1 : a ≤ b) (h2 : b < c) : a < c := Rat.not_le.mp fun z => absurd h2 (Rat.not_lt.mpr (Rat.le_trans z h1))
theorem rlt2 {a b c : Rat} (h1 : a < b) (h2 : b ≤ c) : a < c := Rat.not_le.mp fun z => absurd h1 (Rat.not_lt.mpr (Rat.le_trans h2 z))
/-- r is the gain of a chain from k to l -/
inductive Wk (g : Nat → Nat → Rat) (n l : Nat) : Nat → Rat → Prop where
  | base (k : Nat) : Wk g n l k (g k l)
  | step (k j : Nat) (r : Rat) : j < n → Wk g n l j r → Wk g n l k (g k j + r)
/-- a change at one place -/
def put {α : Type} (s : Nat → α) (k : Nat) (x : α) : Nat → α := fun m => if m = k then x else s m
theorem put_at {α : Type} {s : Nat → α} {k : Nat} {x : α} : put s k x k = x := by
  unfold put
  rw [if_pos rfl]
theorem put_ne {α : Type} {s : Nat → α} {k m : Nat} {x : α} (h : m ≠ k) : put s k x m = s m := by
  unfold put
  rw [if_neg h]
structure BF (g : Nat → Nat → Rat) (n l t : Nat) (s : Nat → Rat) (f u : Nat → Nat) (done : Nat → Nat → Prop) (found : Option Nat) : Prop where
  fl : ∀ k, k < n → f k < n
  wk : ∀ k, k < n → Wk g n l k (s k)
  tri : ∀ k, k < n → s k ≤ g k (f k) + s (f k)
  low : 0 ≤ s l
  cyc : ∀ c, c < n → ∀ p, 1 ≤ p → it f p c = c → (c = l ∧ f l = l) ∨ ∃ i, i < p ∧ s (it f i c) < g (it f i c) (it f (i + 1) c) + s (it f (i + 1) c)
  stp : ∀ k, k < n → u k ≤ u (f k) + 1
  loop : f l = l → u l = 0
  old : ∀ k j, k < n → j < n → u j + 1 < t → g k j + s j ≤ s k
  now : ∀ k j, k < n → j < n → done k j → u j < t → g k j + s j ≤ s k
  top : ∀ k, k < n → u k ≤ t
  fnd : (found = none → ∀ k, k < n → u k < t) ∧ ∀ k, found = some k → k < n ∧ u k = t
section
variable {g : Nat → Nat → Rat} {n l t : Nat} {s : Nat → Rat} {f u : Nat → Nat} {done : Nat → Nat → Prop} {found : Option Nat}
theorem BF.start (hg : ∀ k, g k k = 0) (hl : l < n) : BF g n l 1 (fun k => g k l) (fun _ => l) (fun _ => 0) (fun _ _ => False) none :=
  ⟨fun _ _ => hl, fun k _ => .base k, fun k _ => by rw [hg l, Rat.add_zero]; exact Rat.le_refl, by rw [hg l]; exact Rat.le_refl, fun c _ p hp h => by
    cases p with
    | zero => omega
    | succ p => exact .inl ⟨h.symm, rfl⟩, fun _ _ => by omega, fun _ => rfl, fun _ _ _ _ h => by omega, fun _ _ _ _ h => h.elim, fun _ _ => by omega, fun _ _ _ => by omega, fun _ h => nomatch h⟩
theorem BF.less {done' : Nat → Nat → Prop} (B : BF g n l t s f u done found) (h : ∀ a b, a < n → b < n → done' a b → done a b) : BF g n l t s f u done' found :=
  { B with now := fun a b ha hb hd hu => B.now a b ha hb (h a b ha hb hd) hu }
/-- nothing is greater by this step -/
theorem BF.keep (B : BF g n l t s f u done found) {k j : Nat} (h : g k j + s j ≤ s k) : BF g n l t s f u (fun a b => done a b ∨ (a = k ∧ b = j)) found :=
  { B with now := fun a b ha hb hd hu => hd.elim (fun z => B.now a b ha hb z hu) (fun e => by
      rw [e.1, e.2]
      exact h) }
/-- the cycle's nodes under a changed step -/
theorem it_put {k j : Nat} {c : Nat} : ∀ (i : Nat), (∀ m, m < i → it (put f k j) m c ≠ k) → it (put f k j) i c = it f i c
  | 0, _ => rfl
  | i + 1, h => by
    have h1 := it_put i fun m hm => h m (by omega)
    show put f k j (it (put f k j) i c) = f (it f i c)
    rw [put_ne (h i (by omega)), h1]
theorem lt_add {a b c : Rat} (h : b < c) : a + b < a + c := Rat.add_lt_add_left.mpr h
theorem le_add {a b c : Rat} (h : b ≤ c) : a + b ≤ a + c := Rat.add_le_add_left.mpr h
/-- a greater sum by this step -/
theorem BF.raise (B : BF g n l t s f u done found) (hg : ∀ k, g k k = 0) {k j : Nat} (hk : k < n) (hj : j < n) (h : s k < g k j + s j) :
    BF g n l t (put s k (g k j + s j)) (put f k j) (put u k t) (fun a b => done a b ∨ (a = k ∧ b = j)) (some k) := by
  have hjk : j ≠ k := fun e => by
    rw [e, hg k, Rat.zero_add] at h
    exact Rat.lt_irrefl h
  have up : ∀ m, s m ≤ put s k (g k j + s j) m := fun m => by
    by_cases e : m = k
    · rw [e, put_at]
      exact Rat.le_of_lt h
    · rw [put_ne e]
      exact Rat.le_refl
  have uu : ∀ m, m < n → u m ≤ put u k t m := fun m hm => by
    by_cases e : m = k
    · rw [e, put_at]
      exact B.top k hk
    · rw [put_ne e]
      exact Nat.le_refl _
  refine ⟨fun m hm => ?_, fun m hm => ?_, fun m hm => ?_, Rat.le_trans B.low (up l), fun c hc p hp hcyc => ?_, fun m hm => ?_, fun e => ?_, fun a b ha hb hu => ?_, fun a b ha hb hd hu => ?_, fun m hm => ?_, ⟨fun z => (nomatch z), fun m e => ?_⟩⟩
  · by_cases e : m = k
    · rw [e, put_at]
      exact hj
    · rw [put_ne e]
      exact B.fl m hm
  · by_cases e : m = k
    · rw [e, put_at]
      exact .step k j _ hj (B.wk j hj)
    · rw [put_ne e]
      exact B.wk m hm
  · by_cases e : m = k
    · subst e
      rw [put_at, put_at, put_ne hjk]
      exact Rat.le_refl
    · rw [put_ne e, put_ne e]
      exact Rat.le_trans (B.tri m hm) (le_add (up _))
  · -- cycles
    have hlt : ∀ i, it (put f k j) i c < n := it_lt (fun m hm => by
      by_cases e : m = k
      · rw [e, put_at]
        exact hj
      · rw [put_ne e]
        exact B.fl m hm) hc
    by_cases hon : ∃ m, m < p ∧ it (put f k j) m c = k
    · obtain ⟨m, hm, em⟩ := hon
      -- the node before k on the cycle
      have hpre : ∃ q, q < p ∧ it (put f k j) (q + 1) c = k := by
        cases m with
        | zero =>
          refine ⟨p - 1, by omega, ?_⟩
          have e : p - 1 + 1 = p := by omega
          have em : c = k := em
          rw [e, hcyc, em]
        | succ m => exact ⟨m, by omega, em⟩
      obtain ⟨q, hq, eq⟩ := hpre
      refine .inr ⟨q, hq, ?_⟩
      rw [eq]
      have hne : it (put f k j) q c ≠ k := fun e => by
        have : put f k j (it (put f k j) q c) = k := eq
        rw [e, put_at] at this
        exact hjk this
      have e2 : f (it (put f k j) q c) = k := by
        have : put f k j (it (put f k j) q c) = k := eq
        rw [put_ne hne] at this
        exact this
      have h1 := B.tri _ (hlt q)
      rw [e2] at h1
      rw [put_ne hne, put_at]
      exact rlt1 h1 (lt_add h)
    · have hno : ∀ m, m < p → it (put f k j) m c ≠ k := fun m hm e => hon ⟨m, hm, e⟩
      have e1 : ∀ i, i ≤ p → it (put f k j) i c = it f i c := fun i hi => it_put i fun m hm => hno m (by omega)
      have hf : it f p c = c := by rw [← e1 p (Nat.le_refl _)]; exact hcyc
      rcases B.cyc c hc p hp hf with ⟨e, e'⟩ | ⟨i, hi, hs⟩
      · refine .inl ⟨e, ?_⟩
        have : l ≠ k := fun z => hno 0 (by omega) (e.trans z)
        rw [put_ne this]
        exact e'
      · refine .inr ⟨i, hi, ?_⟩
        rw [e1 i (by omega), e1 (i + 1) (by omega)]
        have hne : it f i c ≠ k := by
          rw [← e1 i (by omega)]
          exact hno i hi
        rw [put_ne hne]
        exact rlt2 hs (le_add (up _))
  · by_cases e : m = k
    · subst e
      rw [put_at, put_at, put_ne hjk]
      have : ¬ u j + 1 < t := fun z => absurd h (Rat.not_lt.mpr (B.old m j hm hj z))
      omega
    · rw [put_ne e, put_ne e]
      have h1 := B.stp m hm
      have h2 := uu _ (B.fl m hm)
      omega
  · by_cases e2 : l = k
    · subst e2
      rw [put_at] at e
      exact absurd e hjk
    · rw [put_ne e2] at e ⊢
      exact B.loop e
  · by_cases e : b = k
    · rw [e, put_at] at hu
      omega
    · rw [put_ne e] at hu
      rw [put_ne e]
      exact Rat.le_trans (B.old a b ha hb hu) (up a)
  · by_cases e : b = k
    · rw [e, put_at] at hu
      omega
    · rw [put_ne e] at hu
      rw [put_ne e]
      rcases hd with hd | ⟨e1, e2⟩
      · exact Rat.le_trans (B.now a b ha hb hd hu) (up a)
      · rw [e1, e2, put_at]
        exact Rat.le_refl
  · by_cases e : m = k
    · rw [e, put_at]
      exact Nat.le_refl _
    · rw [put_ne e]
      exact B.top m hm
  · cases e
    exact ⟨hk, put_at⟩
/-- the next pass -/
theorem BF.next (B : BF g n l t s f u done found) (h : ∀ k j, k < n → j < n → done k j) : BF g n l (t + 1) s f u (fun _ _ => False) none :=
  { B with old := fun a b ha hb hu => B.now a b ha hb (h a b ha hb) (by omega), now := fun _ _ _ _ z => z.elim, top := fun k hk => by have := B.top k hk; omega, fnd := ⟨fun _ k hk => by have := B.top k hk; omega, fun _ z => nomatch z⟩ }
/-- nothing was greater: the sums stand -/
theorem BF.fix (B : BF g n l t s f u done none) (h : ∀ k j, k < n → j < n → done k j) : ∀ k j, k < n → j < n → g k j + s j ≤ s k := fun k j hk hj => B.now k j hk hj (h k j hk hj) (B.fnd.1 rfl j hj)
/-- sums that stand are above every chain -/
theorem wk_le (F : ∀ k j, k < n → j < n → g k j + s j ≤ s k) (hl : l < n) {k : Nat} {r : Rat} (h : Wk g n l k r) (hk : k < n) : r + s l ≤ s k := by
  induction h with
  | base k => exact F k l hk hl
  | step k j r hj w ih =>
    rw [Rat.add_assoc]
    exact Rat.le_trans (le_add (ih hj)) (F k j hk hj)
theorem BF.zero (B : BF g n l t s f u done found) (hl : l < n) (F : ∀ k j, k < n → j < n → g k j + s j ≤ s k) : s l = 0 := by
  have h1 := wk_le F hl (B.wk l hl) hl
  have h2 : s l ≤ 0 := by
    have h3 : s l + s l ≤ s l + 0 := by
      rw [Rat.add_zero]
      exact h1
    exact Rat.add_le_add_left.mp h3
  exact Rat.le_antisymm h2 B.low
/-- the gain of a chain is no greater than the payments allow -/
theorem wk_pay {p : Nat → Rat} (hp : ∀ k j, k < n → j < n → g k j ≤ p j - p k) (hl : l < n) {k : Nat} {r : Rat} (h : Wk g n l k r) (hk : k < n) : r ≤ p l - p k := by
  induction h with
  | base k => exact hp k l hk hl
  | step k j r hj w ih =>
    have h1 := hp k j hk hj
    have h2 := ih hj
    have e : p l - p k = (p j - p k) + (p l - p j) := by grind
    rw [e]
    exact Rat.le_trans (Rat.add_le_add_right.mpr h1) (le_add h2)
/-- the sum of the gains along a cycle -/
def cycS (g : Nat → Nat → Rat) (f : Nat → Nat) (c : Nat) : Nat → Rat
  | 0 => 0
  | p + 1 => cycS g f c p + g (it f p c) (it f (p + 1) c)
theorem cyc_ge (B : BF g n l t s f u done found) {c : Nat} (hc : c < n) : ∀ p, s c ≤ cycS g f c p + s (it f p c)
  | 0 => by
    show s c ≤ 0 + s c
    rw [Rat.zero_add]
    exact Rat.le_refl
  | p + 1 => by
    have h1 := cyc_ge B hc p
    have h2 := B.tri _ (it_lt B.fl hc p)
    show s c ≤ cycS g f c p + g (it f p c) (f (it f p c)) + s (f (it f p c))
    rw [Rat.add_assoc]
    exact Rat.le_trans h1 (le_add h2)
theorem cyc_gt (B : BF g n l t s f u done found) {c : Nat} (hc : c < n) {i : Nat} (hs : s (it f i c) < g (it f i c) (it f (i + 1) c) + s (it f (i + 1) c)) : ∀ p, i < p → s c < cycS g f c p + s (it f p c)
  | 0, h => absurd h (Nat.not_lt_zero _)
  | p + 1, h => by
    show s c < cycS g f c p + g (it f p c) (it f (p + 1) c) + s (it f (p + 1) c)
    rw [Rat.add_assoc]
    by_cases e : i = p
    · subst e
      exact rlt1 (cyc_ge B hc i) (lt_add hs)
    · exact rlt2 (cyc_gt B hc hs p (by omega)) (le_add (B.tri _ (it_lt B.fl hc p)))
theorem stp_it (B : BF g n l t s f u done found) {k : Nat} (hk : k < n) : ∀ i, u k ≤ u (it f i k) + i
  | 0 => Nat.le_refl _
  | i + 1 => by
    have h1 := stp_it B hk i
    have h2 := B.stp _ (it_lt B.fl hk i)
    show u k ≤ u (f (it f i k)) + (i + 1)
    omega
theorem it_fix {k : Nat} (h : f k = k) : ∀ i, it f i k = k
  | 0 => rfl
  | i + 1 => by
    show f (it f i k) = k
    rw [it_fix h i, h]
theorem it_per {k i d : Nat} (h : it f (i + d) k = it f i k) : ∀ q, it f (i + q * d) k = it f i k
  | 0 => by rw [Nat.zero_mul, Nat.add_zero]
  | q + 1 => by
    rw [Nat.succ_mul, ← Nat.add_assoc, it_add, it_per h q, ← it_add]
    exact h
/-- a cycle behind what was greater in the last pass gains -/
theorem BF.gains (B : BF g n l n s f u done (some k)) {p : Nat} (hp : 1 ≤ p) (h : it f p (it f n k) = it f n k) : 0 < cycS g f (it f n k) p := by
  obtain ⟨hk, huk⟩ := B.fnd.2 k rfl
  have hc := it_lt B.fl hk n
  have fin : ∀ i, i < p → s (it f i (it f n k)) < g (it f i (it f n k)) (it f (i + 1) (it f n k)) + s (it f (i + 1) (it f n k)) → 0 < cycS g f (it f n k) p := fun i hi hs => by
    have h1 := cyc_gt B hc hs p hi
    rw [h] at h1
    have h2 : 0 + s (it f n k) < cycS g f (it f n k) p + s (it f n k) := by
      rw [Rat.zero_add]
      exact h1
    exact Rat.add_lt_add_right.mp h2
  rcases B.cyc _ hc p hp h with ⟨e, hl⟩ | ⟨i, hi, hs⟩
  · exfalso
    obtain ⟨i, j, hij, hj, eij⟩ := UbR.pigeon n (fun i => it f i k) fun i _ => it_lt B.fl hk i
    have eij : it f i k = it f j k := eij
    have hper : it f (i + (j - i)) k = it f i k := by
      rw [show i + (j - i) = j by omega]
      exact eij.symm
    have h1 := it_per hper n
    have hge : n ≤ i + n * (j - i) := by
      have : n * 1 ≤ n * (j - i) := Nat.mul_le_mul_left n (by omega)
      omega
    have h2 : it f (i + n * (j - i)) k = l := by
      rw [show i + n * (j - i) = n + (i + n * (j - i) - n) by omega, it_add, e, it_fix hl]
    have h3 := stp_it B hk i
    rw [← h1, h2, B.loop hl, huk] at h3
    omega
  · exact fin i hi hs
/-- under payments no cycle gains -/
theorem cyc_pay {q : Nat → Rat} (hq : ∀ k j, k < n → j < n → g k j ≤ q j - q k) (hf : ∀ k, k < n → f k < n) {c : Nat} (hc : c < n) : ∀ p, cycS g f c p + q c ≤ q (it f p c)
  | 0 => by
    show 0 + q c ≤ q c
    rw [Rat.zero_add]
    exact Rat.le_refl
  | p + 1 => by
    have h1 := cyc_pay hq hf hc p
    have h2 := hq _ _ (it_lt hf hc p) (it_lt hf hc (p + 1))
    show cycS g f c p + g (it f p c) (it f (p + 1) c) + q c ≤ q (it f (p + 1) c)
    rw [Rat.add_assoc, Rat.add_comm (g _ _), ← Rat.add_assoc]
    refine Rat.le_trans (Rat.add_le_add_right.mpr h1) (Rat.le_trans (le_add h2) ?_)
    rw [Rat.sub_eq_add_neg, Rat.add_comm (q (it f (p + 1) c)), ← Rat.add_assoc, Rat.add_neg_cancel, Rat.zero_add]
    exact Rat.le_refl
theorem no_pay {q : Nat → Rat} (hq : ∀ k j, k < n → j < n → g k j ≤ q j - q k) (hf : ∀ k, k < n → f k < n) {c p : Nat} (hc : c < n) (h : it f p c = c) : ¬ 0 < cycS g f c p := fun z => by
  have h1 := cyc_pay hq hf hc p
  rw [h] at h1
  have h2 : cycS g f c p + q c ≤ 0 + q c := by
    rw [Rat.zero_add]
    exact h1
  exact absurd z (Rat.not_lt.mpr (Rat.add_le_add_right.mp h2))
end
/-! the passes as functions -/
abbrev St := (Nat → Rat) × (Nat → Nat) × Option Nat
def stp (g : Nat → Nat → Rat) (k j : Nat) (x : St) : St := if x.1 k < g k j + x.1 j then (put x.1 k (g k j + x.1 j), put x.2.1 k j, some k) else x
def inner (g : Nat → Nat → Rat) (k : Nat) (x : St) : Nat → St
  | 0 => x
  | j + 1 => stp g k j (inner g k x j)
def outer (g : Nat → Nat → Rat) (n : Nat) (x : St) : Nat → St
  | 0 => x
  | i + 1 => inner g i (outer g n x i) n
def passes (g : Nat → Nat → Rat) (n l : Nat) : Nat → St
  | 0 => (fun k => g k l, fun _ => l, none)
  | i + 1 => outer g n ((passes g n l i).1, (passes g n l i).2.1, none) n
/-- the steps and the first kind of the cycle behind the passes -/
def Det (g : Nat → Nat → Rat) (n l : Nat) (f : Nat → Nat) (c : Nat) : Prop := ∃ s k, passes g n l n = (s, f, some k) ∧ c = it f n k
theorem Det.uniq {g : Nat → Nat → Rat} {n l : Nat} {f f' : Nat → Nat} {c c' : Nat} (h : Det g n l f c) (h' : Det g n l f' c') : f = f' ∧ c = c' := by
  obtain ⟨s, k, e, rfl⟩ := h
  obtain ⟨s', k', e', rfl⟩ := h'
  rw [e] at e'
  cases e'
  exact ⟨rfl, rfl⟩
theorem per_uniq {f : Nat → Nat} {c p p' : Nat} (h1 : 1 ≤ p) (h2 : it f p c = c) (h3 : ∀ i, 1 ≤ i → i < p → it f i c ≠ c) (g1 : 1 ≤ p') (g2 : it f p' c = c) (g3 : ∀ i, 1 ≤ i → i < p' → it f i c ≠ c) : p = p' := by
  rcases Nat.lt_trichotomy p p' with h | h | h
  · exact absurd h2 (g3 p h1 h)
  · exact h
  · exact absurd g2 (h3 p' g1 h)
/-! as lists -/
def tab {α : Type} (n : Nat) (s : Nat → α) : List α := (List.range n).map s
theorem tab_len {α : Type} (n : Nat) (s : Nat → α) : (tab n s).length = n := by
  unfold tab
  rw [List.length_map, List.length_range]
theorem tab_at {α : Type} {n i : Nat} {s : Nat → α} (h : i < n) : (tab n s)[i]? = some (s i) := by
  unfold tab
  rw [List.getElem?_map, List.getElem?_range h]
  rfl
theorem tab_set {α : Type} {n k : Nat} {s : Nat → α} {x : α} (hk : k < n) : (tab n s).set k x = tab n (put s k x) := by
  refine List.ext_getElem? fun i => ?_
  by_cases hi : i < n
  · rw [tab_at hi]
    by_cases e : k = i
    · subst e
      rw [List.getElem?_set_self (by rw [tab_len]; exact hk), put_at]
    · rw [List.getElem?_set_ne e, tab_at hi, put_ne fun z => e z.symm]
  · rw [List.getElem?_eq_none (by rw [List.length_set, tab_len]; omega), List.getElem?_eq_none (by rw [tab_len]; omega)]
theorem tab_ext {α : Type} {n : Nat} {s s' : Nat → α} (h : ∀ k, k < n → s k = s' k) : tab n s = tab n s' := by
  unfold tab
  exact List.map_congr_left fun k hk => h k (List.mem_range.mp hk)
theorem tab_map {α β : Type} (n : Nat) (s : Nat → α) (m : α → β) : (tab n s).map m = tab n fun k => m (s k) := by
  unfold tab
  rw [List.map_map]
  rfl
end UbC

namespace UbK
open PySem PySem.Spec PyProof.Rows L2 Ub UbM UbR UbC
def topS (i : Nat) : Stmt := PySem.Challenge.pw_unbent_k40_spread_of_two_payments.main.body.getD i (.Pass ⟨0, 0, 0, 0⟩)
def topM (i j : Nat) : Stmt := match topS i with
  | .ClassDef _ _ _ body _ _ _ _ _ _ _ => body.getD j (.Pass ⟨0, 0, 0, 0⟩)
  | _ => .Pass ⟨0, 0, 0, 0⟩
abbrev s_make : Stmt := topS 8
abbrev N_make : List Str := ["p", "q", "common"]
theorem sc_make : FnScope N_make ["p", "q"] (defScope s_make) := ⟨rfl, rfl, rfl, by decide +kernel, rfl, by decide +kernel, by decide +kernel⟩
abbrev s_add : Stmt := topS 9
abbrev N_add : List Str := ["a", "b"]
theorem sc_add : FnScope N_add ["a", "b"] (defScope s_add) := ⟨rfl, rfl, rfl, by decide +kernel, rfl, by decide +kernel, by decide +kernel⟩
abbrev s_subtract : Stmt := topS 10
abbrev N_subtract : List Str := ["a", "b"]
theorem sc_subtract : FnScope N_subtract ["a", "b"] (defScope s_subtract) := ⟨rfl, rfl, rfl, by decide +kernel, rfl, by decide +kernel, by decide +kernel⟩
abbrev s_multiply : Stmt := topS 11
abbrev N_multiply : List Str := ["a", "b"]
theorem sc_multiply : FnScope N_multiply ["a", "b"] (defScope s_multiply) := ⟨rfl, rfl, rfl, by decide +kernel, rfl, by decide +kernel, by decide +kernel⟩
abbrev s_negate : Stmt := topS 12
abbrev N_negate : List Str := ["a"]
theorem sc_negate : FnScope N_negate ["a"] (defScope s_negate) := ⟨rfl, rfl, rfl, by decide +kernel, rfl, by decide +kernel, by decide +kernel⟩
abbrev s_sign : Stmt := topS 13
abbrev N_sign : List Str := ["a"]
theorem sc_sign : FnScope N_sign ["a"] (defScope s_sign) := ⟨rfl, rfl, rfl, by decide +kernel, rfl, by decide +kernel, by decide +kernel⟩
abbrev s_compare : Stmt := topS 14
abbrev N_compare : List Str := ["a", "b"]
theorem sc_compare : FnScope N_compare ["a", "b"] (defScope s_compare) := ⟨rfl, rfl, rfl, by decide +kernel, rfl, by decide +kernel, by decide +kernel⟩
abbrev s_dot : Stmt := topS 15
abbrev N_dot : List Str := ["first", "second", "found", "a", "b"]
theorem sc_dot : FnScope N_dot ["first", "second"] (defScope s_dot) := ⟨rfl, rfl, rfl, by decide +kernel, rfl, by decide +kernel, by decide +kernel⟩
abbrev s__law_mix : Stmt := topS 27
abbrev N__law_mix : List Str := ["number", "k"]
theorem sc__law_mix : FnScope N__law_mix ["number", "k"] (defScope s__law_mix) := ⟨rfl, rfl, rfl, by decide +kernel, rfl, by decide +kernel, by decide +kernel⟩
abbrev s__law_numbers : Stmt := topS 28
abbrev N__law_numbers : List Str := ["script", "count", "row", "base", "cell", "rest", "k"]
theorem sc__law_numbers : FnScope N__law_numbers ["script", "count"] (defScope s__law_numbers) := ⟨rfl, rfl, rfl, by decide +kernel, rfl, by decide +kernel, by decide +kernel⟩
abbrev s__law_take : Stmt := topS 29
abbrev N__law_take : List Str := ["row", "bound"]
theorem sc__law_take : FnScope N__law_take ["row", "bound"] (defScope s__law_take) := ⟨rfl, rfl, rfl, by decide +kernel, rfl, by decide +kernel, by decide +kernel⟩
abbrev s__law_lowest : Stmt := topS 31
abbrev N__law_lowest : List Str := ["p", "q", "first", "second", "k"]
theorem sc__law_lowest : FnScope N__law_lowest ["p", "q"] (defScope s__law_lowest) := ⟨rfl, rfl, rfl, by decide +kernel, rfl, by decide +kernel, by decide +kernel⟩
abbrev s__law_fraction : Stmt := topS 30
abbrev N__law_fraction : List Str := ["row", "choice"]
theorem sc__law_fraction : FnScope N__law_fraction ["row"] (defScope s__law_fraction) := ⟨rfl, rfl, rfl, by decide +kernel, rfl, by decide +kernel, by decide +kernel⟩
abbrev s__law_plus : Stmt := topS 32
abbrev N__law_plus : List Str := ["a", "b"]
theorem sc__law_plus : FnScope N__law_plus ["a", "b"] (defScope s__law_plus) := ⟨rfl, rfl, rfl, by decide +kernel, rfl, by decide +kernel, by decide +kernel⟩
abbrev s__law_times : Stmt := topS 33
abbrev N__law_times : List Str := ["a", "b"]
theorem sc__law_times : FnScope N__law_times ["a", "b"] (defScope s__law_times) := ⟨rfl, rfl, rfl, by decide +kernel, rfl, by decide +kernel, by decide +kernel⟩
abbrev s__law_less : Stmt := topS 34
abbrev N__law_less : List Str := ["a", "b"]
theorem sc__law_less : FnScope N__law_less ["a", "b"] (defScope s__law_less) := ⟨rfl, rfl, rfl, by decide +kernel, rfl, by decide +kernel, by decide +kernel⟩
abbrev s__law_dot : Stmt := topS 35
abbrev N__law_dot : List Str := ["first", "second", "found", "k"]
theorem sc__law_dot : FnScope N__law_dot ["first", "second"] (defScope s__law_dot) := ⟨rfl, rfl, rfl, by decide +kernel, rfl, by decide +kernel, by decide +kernel⟩
abbrev s__law_minus : Stmt := topS 38
abbrev N__law_minus : List Str := ["a", "b"]
theorem sc__law_minus : FnScope N__law_minus ["a", "b"] (defScope s__law_minus) := ⟨rfl, rfl, rfl, by decide +kernel, rfl, by decide +kernel, by decide +kernel⟩
abbrev s__check_menu : Stmt := topS 19
abbrev N__check_menu : List Str := ["worths", "lots", "outcomes", "line"]
theorem sc__check_menu : FnScope N__check_menu ["worths", "lots"] (defScope s__check_menu) := ⟨rfl, rfl, rfl, by decide +kernel, rfl, by decide +kernel, by decide +kernel⟩
abbrev s__gain : Stmt := topS 20
abbrev N__gain : List Str := ["worths", "lots", "kind", "other"]
theorem sc__gain : FnScope N__gain ["worths", "lots", "kind", "other"] (defScope s__gain) := ⟨rfl, rfl, rfl, by decide +kernel, rfl, by decide +kernel, by decide +kernel⟩
abbrev s__raised : Stmt := topS 21
abbrev N__raised : List Str := ["gains", "sums", "steps", "found", "kind", "line", "other", "amount", "through"]
theorem sc__raised : FnScope N__raised ["gains", "sums", "steps"] (defScope s__raised) := ⟨rfl, rfl, rfl, by decide +kernel, rfl, by decide +kernel, by decide +kernel⟩
abbrev s__cycle_behind : Stmt := topS 22
abbrev N__cycle_behind : List Str := ["steps", "kind", "_", "cycle"]
theorem sc__cycle_behind : FnScope N__cycle_behind ["steps", "kind"] (defScope s__cycle_behind) := ⟨rfl, rfl, rfl, by decide +kernel, rfl, by decide +kernel, by decide +kernel⟩
abbrev s__chains : Stmt := topS 23
abbrev N__chains : List Str := ["worths", "lots", "last", "every", "gains", "sums", "_", "steps", "raised", "kind", "line", "other"]
theorem sc__chains : FnScope N__chains ["worths", "lots", "last"] (defScope s__chains) := ⟨rfl, rfl, rfl, by decide +kernel, rfl, by decide +kernel, by decide +kernel⟩
abbrev s_highest_payments : Stmt := topS 24
abbrev N_highest_payments : List Str := ["worths", "lots", "sums", "cycle", "amount"]
theorem sc_highest_payments : FnScope N_highest_payments ["worths", "lots"] (defScope s_highest_payments) := ⟨rfl, rfl, rfl, by decide +kernel, rfl, by decide +kernel, by decide +kernel⟩
abbrev s_spread : Stmt := topS 25
abbrev N_spread : List Str := ["worths", "lots", "first", "second", "forth", "cycle", "back", "_"]
theorem sc_spread : FnScope N_spread ["worths", "lots", "first", "second"] (defScope s_spread) := ⟨rfl, rfl, rfl, by decide +kernel, rfl, by decide +kernel, by decide +kernel⟩
abbrev s__law_gain : Stmt := topS 37
abbrev N__law_gain : List Str := ["worths", "lots", "kind", "other"]
theorem sc__law_gain : FnScope N__law_gain ["worths", "lots", "kind", "other"] (defScope s__law_gain) := ⟨rfl, rfl, rfl, by decide +kernel, rfl, by decide +kernel, by decide +kernel⟩
abbrev s__law_honest : Stmt := topS 39
abbrev N__law_honest : List Str := ["worths", "lots", "payments", "kind", "other"]
theorem sc__law_honest : FnScope N__law_honest ["worths", "lots", "payments"] (defScope s__law_honest) := ⟨rfl, rfl, rfl, by decide +kernel, rfl, by decide +kernel, by decide +kernel⟩
abbrev s__law_copies : Stmt := topS 40
abbrev N__law_copies : List Str := ["rows", "one"]
theorem sc__law_copies : FnScope N__law_copies ["rows"] (defScope s__law_copies) := ⟨rfl, rfl, rfl, by decide +kernel, rfl, by decide +kernel, by decide +kernel⟩
abbrev s__law_menu : Stmt := topS 36
abbrev N__law_menu : List Str := ["row", "kinds", "outcomes", "j", "k", "worths", "lots", "lot", "best", "i"]
theorem sc__law_menu : FnScope N__law_menu ["row"] (defScope s__law_menu) := ⟨rfl, rfl, rfl, by decide +kernel, rfl, by decide +kernel, by decide +kernel⟩
abbrev s__law_asked : Stmt := topS 41
abbrev N__law_asked : List Str := ["worths", "lots", "first", "second"]
theorem sc__law_asked : FnScope N__law_asked ["worths", "lots", "first", "second"] (defScope s__law_asked) := ⟨rfl, rfl, rfl, by decide +kernel, rfl, by decide +kernel, by decide +kernel⟩
abbrev s__law_reached : Stmt := topS 42
abbrev N__law_reached : List Str := ["worths", "lots", "first", "second", "greatest", "values", "kind", "told", "value"]
theorem sc__law_reached : FnScope N__law_reached ["worths", "lots", "first", "second", "greatest"] (defScope s__law_reached) := ⟨rfl, rfl, rfl, by decide +kernel, rfl, by decide +kernel, by decide +kernel⟩
abbrev s_law : Stmt := topS 43
abbrev N_law : List Str := ["script", "row", "worths", "lots", "first", "second", "told", "both", "least", "greatest", "upper", "payments", "turn", "k", "difference"]
theorem sc_law : FnScope N_law ["script"] (defScope s_law) := ⟨rfl, rfl, rfl, by decide +kernel, rfl, by decide +kernel, by decide +kernel⟩
/-! ### words of my own for readings -/
local macro_rules | `(tactic| walk_at "un") => `(tactic| try dsimp only [L2.start, tVar, tC, tOp, tUn, tTest, tB, tAnd, tOr, tNot, tAndV, tOrV, tNotV, tIf, tNext, tSeq, tBreak, tCont, tDrop, tRet, tRetN, tIfS, tNever, gName, gNil, gCons, gSub, tAsg, tPar, tSl, tPart, tNoPart, tNil, tCons, tCall, tCallS, tCB, tBM, tBM0, tChain, tTupN, tLstN, gTup, Cx.nox, Cx.wish, cxOf, List.map, List.replicate, List.length, List.cons_append, List.nil_append, List.set, List.getElem?_cons_zero, List.getElem?_cons_succ, Nat.reduceAdd, Nat.reduceSub, N_make, N_add, N_subtract, N_multiply, N_negate, N_sign, N_compare, N_dot, N__law_mix, N__law_numbers, N__law_take, N__law_lowest, N__law_fraction, N__law_plus, N__law_times, N__law_less, N__law_dot, N__law_minus, N__check_menu, N__gain, N__raised, N__cycle_behind, N__chains, N_highest_payments, N_spread, N__law_gain, N__law_honest, N__law_copies, N__law_menu, N__law_asked, N__law_reached, N_law])
local macro_rules | `(tactic| walk_at "dp") => `(tactic| first | assumption | exact .int _ | exact .bl _ | exact .str _ | exact .non | exact Ub.Dp.mono (by assumption) _ _ (by walk_at "dp"))
local macro_rules | `(tactic| walk_at "fr") => `(tactic| first | assumption | exact Ub.Fr.mono (by assumption) (by walk_at "fr"))
local macro_rules | `(tactic| walk_at "dps") => `(tactic| first | exact .nil | (refine' .cons ?j1 ?j2; (case j1 => walk_at "dp"); (case j2 => walk_at "dps")))
local macro_rules | `(tactic| walk_at "st") => `(tactic| first
  | (with_reducible refine ⟨_, rfl, ?_⟩)
  | (with_reducible refine rdAdd ?_)
  | (with_reducible refine rdSub ?_)
  | (with_reducible refine rdNeg ?_)
  | (with_reducible refine rdEqI ?_)
  | (with_reducible refine rdNeI ?_)
  | (with_reducible refine rdLt ?_)
  | (with_reducible refine rdGt ?_)
  | (with_reducible refine rdLe ?_)
  | (with_reducible refine rdGe ?_)
  | (with_reducible refine rdInt ?_)
  | (with_reducible refine rdIntB ?_)
  | (with_reducible refine rdAbs ?_)
  | (with_reducible refine rdGcd ?_)
  | (with_reducible refine rdEqB ?_)
  | (with_reducible refine rdEqS ?_)
  | (with_reducible refine rdNeS ?_)
  | ((with_reducible refine' ixFr0 ?k1 ?_); (case k1 => walk_at "fr"))
  | ((with_reducible refine' ixFr1 ?k1 ?_); (case k1 => walk_at "fr"))
  | ((with_reducible refine' ixP0 ?k1 ?_); (case k1 => walk_at "dp"))
  | ((with_reducible refine' ixP1 ?k1 ?_); (case k1 => walk_at "dp"))
  | ((with_reducible refine' rdIsN ?k1 ?_); (case k1 => walk_at "dp"))
  | ((with_reducible refine' rdNotN ?k1 ?_); (case k1 => walk_at "dp"))
  | ((with_reducible refine' isiInt ?k1 ?_); (case k1 => walk_at "dp"))
  | ((with_reducible refine' isiBool ?k1 ?_); (case k1 => walk_at "dp"))
  | ((with_reducible refine' isiStr ?k1 ?_); (case k1 => walk_at "dp"))
  | ((with_reducible refine' isiTup ?k1 ?_); (case k1 => walk_at "dp"))
  | ((with_reducible refine' isiLst ?k1 ?_); (case k1 => walk_at "dp"))
  | ((with_reducible refine' rdIxL ?k1 ?k2 ?_); (case k1 => first | assumption | exact .inl (.inl (by assumption)) | exact .inl (.inl upd_same)); (case k2 => exact rfl))
  | ((with_reducible refine' rdMul ?k1 ?_); (case k1 => first | exact .inl (.inr ⟨by decide, by decide⟩) | exact .inl (.inl ⟨by decide, by decide⟩) | exact mulW (by assumption) (by assumption) (by omega)))
  | ((with_reducible refine' rdLenL ?k1 ?_); (case k1 => first | assumption | exact .inl (.inl (by assumption))))
  | ((with_reducible refine' rdLenT ?k1 ?_); (case k1 => first | assumption | exact .inl (.inl (by assumption))))
  | (with_reducible refine rdMin2 ?_)
  | ((with_reducible refine' rdTupD (K := ‹PySem.W.Frag›) ?k1 ?k2 (fun _ _ _ _ => ?_)); (case k1 => walk_at "dps"); (case k2 => exact small_line (Nat.le_of_ble_eq_true rfl)))
  | (with_reducible refine ⟨_, by rfl, ?_⟩))
local macro_rules | `(tactic| walk_at "go") => `(tactic| repeat walk_at "st")
local macro_rules | `(tactic| walk_at "for") => `(tactic| try dsimp only [tFor, iRng1, iRng2, iList, iTup, tCons, tC, tNil, tVar, tOp, tCB, tUn, List.getElem?_cons_zero, List.getElem?_cons_succ])
local macro_rules | `(tactic| walk_at "ew") => `(tactic| (simp only [dInt, dBool, dStr, dTup, dLst, dNon, Bool.not_true, Bool.not_false, reduceIte, Bool.false_eq_true, Bool.true_eq_false, decide_true, decide_false, Bool.not_not, if_true, if_false, decide_eq_true_eq, true_and, and_true]))
local macro_rules | `(tactic| walk_at "ev") => `(tactic| try walk_at "ew")
local macro_rules | `(tactic| walk_at "gv") => `(tactic| repeat first | walk_at "st" | walk_at "ew")
local macro_rules | `(tactic| walk_at "it") => `(tactic| try dsimp only [iRng1, iRng2, iList, iTup, iZip, iEnum])
/-- what stands at the module's names -/
structure Tx (K : PySem.W.Frag) (mg : Str → Option Value) : Prop where
  n_abs : mg "abs" = none
  n_any : mg "any" = none
  n_enumerate : mg "enumerate" = none
  n_int : mg "int" = none
  n_len : mg "len" = none
  n_list : mg "list" = none
  n_min : mg "min" = none
  n_range : mg "range" = none
  n_zip : mg "zip" = none
  g_gcd : mg "gcd" = some (.builtin "math.gcd")
  c__MOST_KINDS : ∃ t, mg "_MOST_KINDS" = some (.int 8 t)
  c__MOST_OUTCOMES : ∃ t, mg "_MOST_OUTCOMES" = some (.int 6 t)
  e_ZeroDenominator : ExcK K mg "ZeroDenominator"
  e_NotHonest : ExcK K mg "NotHonest"
  m_NotHonest_NotHonest : PySem.W.exmOne K (.ref (He.ga K "NotHonest")) (.ref (He.ga K "NotHonest")) = some true
section
variable {P : Program} {w : World} {K : PySem.W.Frag} {mg : Str → Option Value} {base : Heap}
/-! ### make -/
/-- make(p, q): the fraction p / q; for q = 0 the error (E) -/
def sp_make (K : PySem.W.Frag) : Sp := fun vs H Q E => ∃ (p q : Int) (n : Nat), vs = [.int p, .int q] ∧ q.natAbs < 2 ^ n ∧ n < 9000 ∧ (q = 0 → E (.ref (He.ga K "ZeroDenominator")) none H) ∧ (q ≠ 0 → ∀ H' v, Same H H' → Fr K H' v (Rat.divInt p q) → Q v H')
theorem gcd_le_r {p q : Int} (h : q ≠ 0) : ((Nat.gcd p.natAbs q.natAbs : Nat) : Int).natAbs ≤ q.natAbs := Nat.le_of_dvd (by omega) (Nat.gcd_dvd_right ..)
theorem ok_make {f : Addr} {fd : FuncData} (T : Tx K mg) (F : FunD K "make" "make" (defArgs s_make) (defBody s_make) (defScope s_make) [V.int 1] [] f fd) : FnOk P w K mg base (L2.CX P w) 1 f fd ["p", "q"] (sp_make K) := by
  refine F.ok sc_make (fun vs H Q E h => ?_) (fun cdv A outer s H vs Q E hr h => ?_)
  · obtain ⟨_, _, _, rfl, _⟩ := h
    rfl
  · obtain ⟨p, q, n, rfl, hn, hn9, k0, k1⟩ := h
    refine ⟨_, (pss_cons (ps_if (pt_cmpR (op_eqA hr.units) (pv 1) pe_int (nomark _)) (pss_one (ps_raise0 rfl T.e_ZeroDenominator (takes_of rfl rfl rfl rfl) (by rfl))) pss_nil) (pss_cons (ps_set (i := 2) sc_make.nd rfl (Or.inl rfl) (pe_callBfun cr_gcd (by rfl) T.g_gcd (pa_cons (pv 0) (pa_cons (pv 1) pa_nil)))) (pss_cons (ps_if (pt_cmpR op_lt (pv 1) pe_int (nomark _)) (pss_one (ps_set (i := 2) sc_make.nd rfl (Or.inl rfl) (pe_un un_neg (pv 2)))) pss_nil) (pss_one (ps_ret (pe_tupN (pa_cons (pe_op op_fdivX (pv 0) (pv 2)) (pa_cons (pe_op op_fdivX (pv 1) (pv 2)) pa_nil)))))))), ?_⟩
    walk_at "un"
    walk_at "go"
    refine ifD (fun e => k0 e) (fun e => ?_)
    have hg := gcd_pos (p := p) e
    have hl := gcd_le_r (p := p) e
    have hb : ((Nat.gcd p.natAbs q.natAbs : Nat) : Int).natAbs < 2 ^ n := Nat.lt_of_le_of_lt hl hn
    walk_at "go"
    refine ifD (fun c => ?_) (fun c => ?_)
    · have hb2 : (-((Nat.gcd p.natAbs q.natAbs : Nat) : Int)).natAbs < 2 ^ n := by
        rw [Int.natAbs_neg]
        exact hb
      walk_at "go"
      refine rdDiv (divX (by omega) hb2 hn9) ?_
      walk_at "go"
      refine rdDiv (divX (by omega) hb2 hn9) ⟨line2, fun a na => ?_⟩
      exact k1 e _ _ (sameNew na) (frNew (num_neg c) (den_neg c))
    · have c2 : 0 < q := by omega
      walk_at "go"
      refine rdDivP (by omega) hb hn9 ?_
      walk_at "go"
      refine rdDivP (by omega) hb hn9 ⟨line2, fun a na => ?_⟩
      exact k1 e _ _ (sameNew na) (frNew (num_pos c2) (den_pos c2))
/-! ### add -/
def sp_add (K : PySem.W.Frag) : Sp := fun vs H Q _ => ∃ (v u : V) (r s : Rat) (m n : Nat), vs = [v, u] ∧ Fr K H v r ∧ Fr K H u s ∧ Bd m r ∧ Bd n s ∧ m + n < 8999 ∧ ∀ H' x, Same H H' → Fr K H' x (r + s) → Q x H'
theorem ok_add {f : Addr} {fd : FuncData} (T : Tx K mg) (F : FunD K "add" "add" (defArgs s_add) (defBody s_add) (defScope s_add) [] [] f fd) (C_make : Cal P w K mg base "make" 1 ["p", "q"] [] (sp_make K)) : FnOk P w K mg base (L2.CX P w) 2 f fd ["a", "b"] (sp_add K) := by
  refine F.ok sc_add (fun vs H Q E h => ?_) (fun cdv A outer st H vs Q E hr h => ?_)
  · obtain ⟨_, _, _, _, _, _, rfl, _⟩ := h
    rfl
  · obtain ⟨v, u, r, s, m, n, rfl, hv, hu, ⟨h1, h2'⟩, ⟨h3, h4'⟩, hmn, q⟩ := h
    have h2 : (r.den : Int).natAbs < 2 ^ m := h2'
    have h4 : (s.den : Int).natAbs < 2 ^ n := h4'
    refine ⟨_, PSs.nox (pss_one (ps_ret (pe_callC C_make hr (by decide) (by rfl) (pa_cons (pe_op op_add (pe_op op_mulG (pe_ix ix_seq (pv 0) pe_int (fun _ _ => rfl)) (pe_ix ix_seq (pv 1) pe_int (fun _ _ => rfl))) (pe_op op_mulG (pe_ix ix_seq (pv 1) pe_int (fun _ _ => rfl)) (pe_ix ix_seq (pv 0) pe_int (fun _ _ => rfl)))) (pa_cons (pe_op op_mulG (pe_ix ix_seq (pv 0) pe_int (fun _ _ => rfl)) (pe_ix ix_seq (pv 1) pe_int (fun _ _ => rfl))) pa_nil))))), ?_⟩
    walk_at "un"
    walk_at "go"
    refine ⟨_, _, m + n, rfl, mul_lt h2 h4, by omega, fun e => absurd e (Int.mul_ne_zero (den_ne r) (den_ne s)), fun _ H' x sm hx => ?_⟩
    rw [add_as] at hx
    exact q _ _ sm hx
/-! ### subtract -/
def sp_subtract (K : PySem.W.Frag) : Sp := fun vs H Q _ => ∃ (v u : V) (r s : Rat) (m n : Nat), vs = [v, u] ∧ Fr K H v r ∧ Fr K H u s ∧ Bd m r ∧ Bd n s ∧ m + n < 8999 ∧ ∀ H' x, Same H H' → Fr K H' x (r - s) → Q x H'
theorem ok_subtract {f : Addr} {fd : FuncData} (T : Tx K mg) (F : FunD K "subtract" "subtract" (defArgs s_subtract) (defBody s_subtract) (defScope s_subtract) [] [] f fd) (C_make : Cal P w K mg base "make" 1 ["p", "q"] [] (sp_make K)) : FnOk P w K mg base (L2.CX P w) 2 f fd ["a", "b"] (sp_subtract K) := by
  refine F.ok sc_subtract (fun vs H Q E h => ?_) (fun cdv A outer st H vs Q E hr h => ?_)
  · obtain ⟨_, _, _, _, _, _, rfl, _⟩ := h
    rfl
  · obtain ⟨v, u, r, s, m, n, rfl, hv, hu, ⟨h1, h2'⟩, ⟨h3, h4'⟩, hmn, q⟩ := h
    have h2 : (r.den : Int).natAbs < 2 ^ m := h2'
    have h4 : (s.den : Int).natAbs < 2 ^ n := h4'
    refine ⟨_, PSs.nox (pss_one (ps_ret (pe_callC C_make hr (by decide) (by rfl) (pa_cons (pe_op op_sub (pe_op op_mulG (pe_ix ix_seq (pv 0) pe_int (fun _ _ => rfl)) (pe_ix ix_seq (pv 1) pe_int (fun _ _ => rfl))) (pe_op op_mulG (pe_ix ix_seq (pv 1) pe_int (fun _ _ => rfl)) (pe_ix ix_seq (pv 0) pe_int (fun _ _ => rfl)))) (pa_cons (pe_op op_mulG (pe_ix ix_seq (pv 0) pe_int (fun _ _ => rfl)) (pe_ix ix_seq (pv 1) pe_int (fun _ _ => rfl))) pa_nil))))), ?_⟩
    walk_at "un"
    walk_at "go"
    refine ⟨_, _, m + n, rfl, mul_lt h2 h4, by omega, fun e => absurd e (Int.mul_ne_zero (den_ne r) (den_ne s)), fun _ H' x sm hx => ?_⟩
    rw [sub_as] at hx
    exact q _ _ sm hx
/-! ### multiply -/
def sp_multiply (K : PySem.W.Frag) : Sp := fun vs H Q _ => ∃ (v u : V) (r s : Rat) (m n : Nat), vs = [v, u] ∧ Fr K H v r ∧ Fr K H u s ∧ Bd m r ∧ Bd n s ∧ m + n < 8999 ∧ ∀ H' x, Same H H' → Fr K H' x (r * s) → Q x H'
theorem ok_multiply {f : Addr} {fd : FuncData} (T : Tx K mg) (F : FunD K "multiply" "multiply" (defArgs s_multiply) (defBody s_multiply) (defScope s_multiply) [] [] f fd) (C_make : Cal P w K mg base "make" 1 ["p", "q"] [] (sp_make K)) : FnOk P w K mg base (L2.CX P w) 2 f fd ["a", "b"] (sp_multiply K) := by
  refine F.ok sc_multiply (fun vs H Q E h => ?_) (fun cdv A outer st H vs Q E hr h => ?_)
  · obtain ⟨_, _, _, _, _, _, rfl, _⟩ := h
    rfl
  · obtain ⟨v, u, r, s, m, n, rfl, hv, hu, ⟨h1, h2'⟩, ⟨h3, h4'⟩, hmn, q⟩ := h
    have h2 : (r.den : Int).natAbs < 2 ^ m := h2'
    have h4 : (s.den : Int).natAbs < 2 ^ n := h4'
    refine ⟨_, PSs.nox (pss_one (ps_ret (pe_callC C_make hr (by decide) (by rfl) (pa_cons (pe_op op_mulG (pe_ix ix_seq (pv 0) pe_int (fun _ _ => rfl)) (pe_ix ix_seq (pv 1) pe_int (fun _ _ => rfl))) (pa_cons (pe_op op_mulG (pe_ix ix_seq (pv 0) pe_int (fun _ _ => rfl)) (pe_ix ix_seq (pv 1) pe_int (fun _ _ => rfl))) pa_nil))))), ?_⟩
    walk_at "un"
    walk_at "go"
    refine ⟨_, _, m + n, rfl, mul_lt h2 h4, by omega, fun e => absurd e (Int.mul_ne_zero (den_ne r) (den_ne s)), fun _ H' x sm hx => ?_⟩
    rw [mul_as] at hx
    exact q _ _ sm hx
/-! ### negate -/
def sp_negate (K : PySem.W.Frag) : Sp := fun vs H Q _ => ∃ (v : V) (r : Rat), vs = [v] ∧ Fr K H v r ∧ ∀ H' x, Same H H' → Fr K H' x (-r) → Q x H'
theorem ok_negate {f : Addr} {fd : FuncData} (T : Tx K mg) (F : FunD K "negate" "negate" (defArgs s_negate) (defBody s_negate) (defScope s_negate) [] [] f fd) : FnOk P w K mg base (L2.CX P w) 1 f fd ["a"] (sp_negate K) := by
  refine F.ok sc_negate (fun vs H Q E h => ?_) (fun cdv A outer st H vs Q E hr h => ?_)
  · obtain ⟨_, _, rfl, _⟩ := h
    rfl
  · obtain ⟨v, r, rfl, hv, q⟩ := h
    refine ⟨_, PSs.nox (pss_one (ps_ret (pe_tupN (pa_cons (pe_un un_neg (pe_ix ix_seq (pv 0) pe_int (fun _ _ => rfl))) (pa_cons (pe_ix ix_seq (pv 0) pe_int (fun _ _ => rfl)) pa_nil))))), ?_⟩
    walk_at "un"
    walk_at "go"
    exact q _ _ (by assumption) (by assumption)
/-! ### sign -/
def sp_sign (K : PySem.W.Frag) : Sp := fun vs H Q _ => ∃ (v : V) (p q : Int), vs = [v] ∧ Dp K H v (.tuple [.int p, .int q]) ∧ Q (.int (Int.sign p)) H
theorem rd_sign {K : PySem.W.Frag} {H : Hp} {Q : VK} {E : XK} {v : V} {p z : Int} (h : Dp K H v (.tuple [.int p, .int z])) (q : Q (.int (Int.sign p)) H) : sp_sign K [v] H Q E := ⟨v, p, z, rfl, h, q⟩
theorem ok_sign {f : Addr} {fd : FuncData} (T : Tx K mg) (F : FunD K "sign" "sign" (defArgs s_sign) (defBody s_sign) (defScope s_sign) [] [] f fd) : FnOk P w K mg base (L2.CX P w) 1 f fd ["a"] (sp_sign K) := by
  refine F.ok sc_sign (fun vs H Q E h => ?_) (fun cdv A outer st H vs Q E hr h => ?_)
  · obtain ⟨_, _, _, rfl, _⟩ := h
    rfl
  · obtain ⟨v, p, z, rfl, ha, q⟩ := h
    refine ⟨_, PSs.nox (pss_cons (ps_if (pt_cmpR op_gt (pe_ix ix_seq (pv 0) pe_int (fun _ _ => rfl)) pe_int (nomark _)) (pss_one (ps_ret pe_int)) pss_nil) (pss_one (ps_ret (pe_ifExp (pt_cmpR op_lt (pe_ix ix_seq (pv 0) pe_int (fun _ _ => rfl)) pe_int (nomark _)) (pe_un un_neg pe_int) pe_int)))), ?_⟩
    walk_at "un"
    walk_at "go"
    refine ifD (fun c => ?_) (fun c => ?_)
    · rw [Int.sign_eq_one_of_pos c] at q
      exact q
    · walk_at "go"
      refine ifD (fun c2 => ?_) (fun c2 => ?_)
      · rw [Int.sign_eq_neg_one_of_neg c2] at q
        walk_at "go"
        exact q
      · have : p = 0 := by omega
        subst this
        exact q
/-! ### compare -/
def sp_compare (K : PySem.W.Frag) : Sp := fun vs H Q _ => ∃ (v u : V) (r s : Rat) (m n : Nat), vs = [v, u] ∧ Fr K H v r ∧ Fr K H u s ∧ Bd m r ∧ Bd n s ∧ m + n < 8999 ∧ ∀ H', Same H H' → Q (.int (cmpR r s)) H'
theorem rd_compare {K : PySem.W.Frag} {H : Hp} {Q : VK} {E : XK} {v u : V} {r s : Rat} {m n : Nat} (hv : Fr K H v r) (hu : Fr K H u s) (bm : Bd m r) (bn : Bd n s) (hmn : m + n < 8999) (q : ∀ H', Same H H' → Q (.int (cmpR r s)) H') : sp_compare K [v, u] H Q E := ⟨v, u, r, s, m, n, rfl, hv, hu, bm, bn, hmn, q⟩
theorem ok_compare {f : Addr} {fd : FuncData} (T : Tx K mg) (F : FunD K "compare" "compare" (defArgs s_compare) (defBody s_compare) (defScope s_compare) [] [] f fd) (C_sign : Cal P w K mg base "sign" 1 ["a"] [] (sp_sign K)) : FnOk P w K mg base (L2.CX P w) 2 f fd ["a", "b"] (sp_compare K) := by
  refine F.ok sc_compare (fun vs H Q E h => ?_) (fun cdv A outer st H vs Q E hr h => ?_)
  · obtain ⟨_, _, _, _, _, _, rfl, _⟩ := h
    rfl
  · obtain ⟨v, u, r, s, m, n, rfl, hv, hu, ⟨h1, h2'⟩, ⟨h3, h4'⟩, hmn, q⟩ := h
    have h2 : (r.den : Int).natAbs < 2 ^ m := h2'
    have h4 : (s.den : Int).natAbs < 2 ^ n := h4'
    refine ⟨_, PSs.nox (pss_one (ps_ret (pe_callC C_sign hr (by decide) (by rfl) (pa_cons (pe_tupN (pa_cons (pe_op op_sub (pe_op op_mulG (pe_ix ix_seq (pv 0) pe_int (fun _ _ => rfl)) (pe_ix ix_seq (pv 1) pe_int (fun _ _ => rfl))) (pe_op op_mulG (pe_ix ix_seq (pv 1) pe_int (fun _ _ => rfl)) (pe_ix ix_seq (pv 0) pe_int (fun _ _ => rfl)))) (pa_cons (pe_op op_mulG (pe_ix ix_seq (pv 0) pe_int (fun _ _ => rfl)) (pe_ix ix_seq (pv 1) pe_int (fun _ _ => rfl))) pa_nil))) pa_nil)))), ?_⟩
    walk_at "un"
    walk_at "go"
    rename_i H1 t1 s1 g1
    exact rd_sign g1 (q _ s1)
/-! ### dot -/
def sp_dot (K : PySem.W.Frag) : Sp := fun vs H Q _ => ∃ (v u : V) (rs ss : List Rat) (n : Nat), vs = [v, u] ∧ Frs K H v rs ∧ Frs K H u ss ∧ (∀ r ∈ rs, Bd n r) ∧ (∀ r ∈ ss, Bd n r) ∧ 1 + rs.length * (n + n + 1) + n + n < 8998 ∧ ∀ H' x, Same H H' → Fr K H' x (dotR rs ss) → Q x H'
theorem dot_skip {rs ss : List Rat} {i : Nat} {r s : Rat} (h1 : rs[i]? = some r) (h2 : ss[i]? = some s) (h : r.num = 0 ∨ s.num = 0) : sumR ((List.zipWith (· * ·) rs ss).take (i + 1)) = sumR ((List.zipWith (· * ·) rs ss).take i) := by
  rw [sumR_take (zip_at h1 h2)]
  have e : r * s = 0 := by
    rcases h with h | h
    · rw [Rat.num_eq_zero.mp h, Rat.zero_mul]
    · rw [Rat.num_eq_zero.mp h, Rat.mul_zero]
  rw [e, Rat.add_zero]
theorem ok_dot {f : Addr} {fd : FuncData} (T : Tx K mg) (F : FunD K "dot" "dot" (defArgs s_dot) (defBody s_dot) (defScope s_dot) [] [] f fd) (C_add : Cal P w K mg base "add" 2 ["a", "b"] [] (sp_add K)) (C_multiply : Cal P w K mg base "multiply" 2 ["a", "b"] [] (sp_multiply K)) : FnOk P w K mg base (L2.CX P w) 3 f fd ["first", "second"] (sp_dot K) := by
  refine F.ok sc_dot (fun vs H Q E h => ?_) (fun cdv A outer st H vs Q E hr h => ?_)
  · obtain ⟨_, _, _, _, _, rfl, _⟩ := h
    rfl
  · obtain ⟨v, u, rs, ss, n, rfl, hv, hu, hb1, hb2, hn, q⟩ := h
    obtain ⟨a, xs, rfl, hS, hD⟩ := hv.get
    obtain ⟨b, ys, rfl, hS2, hD2⟩ := hu.get
    have hl := frs_len hD
    have hl2 := frs_len hD2
    refine ⟨_, PSs.nox (pss_cons (ps_set (i := 2) sc_dot.nd rfl (Or.inl rfl) (pe_tupN (pa_cons pe_int (pa_cons pe_int pa_nil)))) (pss_cons (ps_for PassesOwn.never rfl (pi_zip (by rfl) T.n_zip (pa_cons (pv 0) (pa_cons (pv 1) pa_nil))) (pg_tup rfl (pgs_cons (pg_name (i := 3) sc_dot.nd rfl (Or.inl rfl)) (pgs_cons (pg_name (i := 4) sc_dot.nd rfl (Or.inl rfl)) pgs_nil))) (pss_one (ps_if ((pw_and (pt_cmpR (op_neA hr.units) (pe_ix ix_seq (pv 3) pe_int (fun _ _ => rfl)) pe_int (nomark _)) (pw_and1 (pt_cmpR (op_neA hr.units) (pe_ix ix_seq (pv 4) pe_int (fun _ _ => rfl)) pe_int (nomark _))))).pt (pss_one (ps_set (i := 2) sc_dot.nd rfl (Or.inl rfl) (pe_callC C_add hr (by decide) (by rfl) (pa_cons (pv 2) (pa_cons (pe_callC C_multiply hr (by decide) (by rfl) (pa_cons (pv 3) (pa_cons (pv 4) pa_nil))) pa_nil))))) pss_nil))) (pss_one (ps_ret (pv 2))))), ?_⟩
    walk_at "un"
    walk_at "go"
    rename_i H1 f1 s1 g1
    walk_at "for"
    dsimp only [iZip]
    walk_at "for"
    refine ⟨_, rfl, _, rfl, a, b, xs, ys, rfl, s1.seq hS, s1.seq hS2, ?_⟩
    refine forZip (xs := xs) (ys := ys) (fun i σ' H' => ∃ f o1 o2, σ' = [some (.ref a), some (.ref b), some f, o1, o2] ∧ Same H H' ∧ Fr K H' f (sumR ((List.zipWith (· * ·) rs ss).take i))) ⟨f1, _, _, rfl, s1, g1⟩ (fun i σ' H' ⟨_, _, _, _, e, _⟩ => ⟨e.seq hS, e.seq hS2⟩) ?_ ?_
    · rintro i x y σ' H' T hi hj ⟨f, o1, o2, rfl, s2, hf⟩ nT
      obtain ⟨r, hr, hx⟩ := frs_at hD hi
      obtain ⟨s, hs, hy⟩ := frs_at hD2 hj
      have hi' : i < rs.length := (List.getElem?_eq_some_iff.mp hr).1
      have sT : Same H' (upd H' T (.tup [x, y])) := sameNew nT
      have hbr : Bd n r := hb1 r (List.mem_of_getElem? hr)
      have hbs : Bd n s := hb2 s (List.mem_of_getElem? hs)
      have hbz := bd_sumR (take_bd (bd_zip hb1 hb2) i)
      have hlz : ((List.zipWith (· * ·) rs ss).take i).length ≤ rs.length := by
        rw [List.length_take, List.length_zipWith]
        omega
      have hmul : ((List.zipWith (· * ·) rs ss).take i).length * (n + n + 1) ≤ rs.length * (n + n + 1) := Nat.mul_le_mul_right _ hlz
      have hxT : Fr K (upd H' T (.tup [x, y])) x r := (hx.mono s2).mono sT
      have hyT : Fr K (upd H' T (.tup [x, y])) y s := (hy.mono s2).mono sT
      have hfT := hf.mono sT
      walk_at "un"
      refine ⟨T, [x, y], rfl, .inl (.inl upd_same), rfl, x, [y], rfl, y, [], rfl, rfl, ?_⟩
      walk_at "un"
      walk_at "go"
      refine ifB (fun e => ?_) (fun e => ?_)
      · walk_at "go"
        refine ifB (fun e2 => ?_) (fun e2 => ?_)
        · walk_at "go"
          refine ⟨x, y, r, s, n, n, rfl, hxT, hyT, hbr, hbs, by omega, fun H3 u3 s3 hu3 => ?_⟩
          walk_at "go"
          refine ⟨f, u3, _, _, _, _, rfl, hfT.mono s3, hu3, hbz, bd_mul hbr hbs, by omega, fun H4 u4 s4 hu4 => ?_⟩
          rw [← sumR_take (zip_at hr hs)] at hu4
          exact ⟨u4, _, _, rfl, ((s2.trans sT).trans s3).trans s4, hu4⟩
        · have e3 : s.num = 0 := by simpa using e2
          rw [← dot_skip hr hs (.inr e3)] at hfT
          exact ⟨f, _, _, rfl, s2.trans sT, hfT⟩
      · have e3 : r.num = 0 := by simpa using e
        rw [← dot_skip hr hs (.inl e3)] at hfT
        refine iteF ?_
        exact ⟨f, _, _, rfl, s2.trans sT, hfT⟩
    · rintro σ' H' ⟨f, o1, o2, rfl, s2, hf⟩
      rw [List.take_of_length_le (by rw [List.length_zipWith]; omega)] at hf
      exact ⟨_, rfl, q _ _ s2 hf⟩
/-! ### _law_mix -/
/-- the law's mixing: some whole number -/
def sp__law_mix : Sp := fun vs H Q _ => ∃ (x k : Int), vs = [.int x, .int k] ∧ 0 ≤ k ∧ k ≤ 1000 ∧ ∀ z, Q (.int z) H
theorem ok__law_mix {f : Addr} {fd : FuncData} (T : Tx K mg) (F : FunD K "_law_mix" "_law_mix" (defArgs s__law_mix) (defBody s__law_mix) (defScope s__law_mix) [] [] f fd) : FnOk P w K mg base (L2.CX P w) 1 f fd ["number", "k"] sp__law_mix := by
  refine F.ok sc__law_mix (fun vs H Q E h => ?_) (fun cdv A outer st H vs Q E hr h => ?_)
  · obtain ⟨_, _, rfl, _⟩ := h
    rfl
  · obtain ⟨x, k, rfl, h0, h1, q⟩ := h
    refine ⟨_, PSs.nox (pss_one (ps_ret (pe_op op_mod (pe_op op_mulG (pe_op op_mod (pe_callTy cl_int (by rfl) T.n_int bb_int (pa_cons (pe_op op_mulG (pe_op op_add (pe_op op_add (pe_op op_mod (pe_callTy cl_int (by rfl) T.n_int bb_int (pa_cons (pv 0) pa_nil)) pe_int) (pe_op op_mulG pe_int (pv 1))) pe_int) pe_int) pa_nil)) pe_int) pe_int) pe_int))), ?_⟩
    walk_at "un"
    walk_at "go"
    refine rdMod (by decide) ?_
    walk_at "go"
    refine rdMod (by decide) ?_
    walk_at "go"
    refine rdMod (by decide) ?_
    exact q _
/-! ### _law_numbers -/
/-- the row of numbers: some whole numbers, in a new list -/
def sp__law_numbers (K : PySem.W.Frag) : Sp := fun vs H Q _ => ∃ (a : Addr) (ns : List Int) (c : Nat), vs = [.ref a, .int (c : Int)] ∧ SqL K H a (ns.map V.int) ∧ ns.length ≤ 63 ∧ c ≤ 200 ∧ ∀ H' d, Same H H' → H d = none → Ints H' d → Q (.ref d) H'
theorem sameLate' {H H' : Hp} {d : Addr} {o : HO} (e : Same H H') (nd : H d = none) : Same H (upd H' d o) := fun b x h => by
  rw [upd_ne (ne_of_none h nd)]
  exact e b x h
theorem rdAppJ {H : Hp} {Q : VK} {d : Addr} {ms : List Int} {x : Int} (h : H d = some (.lst (ms.map V.int))) (hz : ms.length ≤ 5000) (q : Q .non (upd H d (.lst ((ms ++ [x]).map V.int)))) : rAppend (.ref d) [.int x] H Q :=
  rdApp h (by rw [List.length_map]; exact hz) (by rw [List.map_append] at q; exact q)
theorem ok__law_numbers {f : Addr} {fd : FuncData} (T : Tx K mg) (F : FunD K "_law_numbers" "_law_numbers" (defArgs s__law_numbers) (defBody s__law_numbers) (defScope s__law_numbers) [] [] f fd) (C__law_mix : Cal P w K mg base "_law_mix" 1 ["number", "k"] [] (sp__law_mix)) : FnOk P w K mg base (L2.CX P w) 2 f fd ["script", "count"] (sp__law_numbers K) := by
  refine F.ok sc__law_numbers (fun vs H Q E h => ?_) (fun cdv A outer st H vs Q E hr h => ?_)
  · obtain ⟨_, _, _, rfl, _⟩ := h
    rfl
  · obtain ⟨a, ns, c, rfl, hS, hl, hc, q⟩ := h
    refine ⟨_, PSs.nox (pss_cons (ps_set (i := 2) sc__law_numbers.nd rfl (Or.inl rfl) (pe_lstN pa_nil)) (pss_cons (ps_set (i := 3) sc__law_numbers.nd rfl (Or.inl rfl) pe_int) (pss_cons (ps_for PassesOwn.never rfl (pi_list (pe_slice sl_list (pv 0) po_none (po_some pe_int))) (pg_name (i := 4) sc__law_numbers.nd rfl (Or.inl rfl)) (pss_cons (ps_set (i := 3) sc__law_numbers.nd rfl (Or.inl rfl) (pe_op op_add (pv 3) (pv 4))) (pss_one (ps_if (pt_cmpR op_ge (pv 4) pe_int (nomark _)) (pss_cons (ps_set (i := 5) sc__law_numbers.nd rfl (Or.inl rfl) (pv 4)) (pss_one (ps_for PassesOwn.never rfl (pi_range1 (by rfl) T.n_range (pa_cons pe_int pa_nil)) (pg_name (i := 6) sc__law_numbers.nd rfl (Or.inl rfl)) (pss_cons (ps_expr (pe_bm PySem.F.plainAttrs_list PySem.F.slot_list_append PySem.F.type_list_append mt_append (pv 2) (pa_cons (pe_op op_mod (pe_callTy cl_int (by rfl) T.n_int bb_int (pa_cons (pv 5) pa_nil)) pe_int) pa_nil))) (pss_cons (ps_set (i := 5) sc__law_numbers.nd rfl (Or.inl rfl) (pe_op op_fdivX (pv 5) pe_int)) (pss_one (ps_if (pt_cmpR (op_eqA hr.units) (pv 5) pe_int (nomark _)) (pss_one ps_break) pss_nil))))))) (pss_one (ps_expr (pe_bm PySem.F.plainAttrs_list PySem.F.slot_list_append PySem.F.type_list_append mt_append (pv 2) (pa_cons (pe_callC C__law_mix hr (by decide) (by rfl) (pa_cons (pe_callC C__law_mix hr (by decide) (by rfl) (pa_cons (pv 4) (pa_cons pe_int pa_nil))) (pa_cons pe_int pa_nil))) pa_nil)))))))) (pss_cons (ps_for PassesOwn.never rfl (pi_range1 (by rfl) T.n_range (pa_cons (pv 1) pa_nil)) (pg_name (i := 6) sc__law_numbers.nd rfl (Or.inl rfl)) (pss_one (ps_expr (pe_bm PySem.F.plainAttrs_list PySem.F.slot_list_append PySem.F.type_list_append mt_append (pv 2) (pa_cons (pe_callC C__law_mix hr (by decide) (by rfl) (pa_cons (pe_callC C__law_mix hr (by decide) (by rfl) (pa_cons (pe_op op_add (pv 3) (pe_op op_mulG pe_int (pv 6))) (pa_cons (pe_op op_add pe_int (pv 6)) pa_nil))) (pa_cons pe_int pa_nil))) pa_nil))))) (pss_cons (ps_expr (pe_bm0 PySem.F.plainAttrs_list PySem.F.slot_list_reverse PySem.F.type_list_reverse mt_reverse (pv 2))) (pss_one (ps_ret (pv 2)))))))), ?_⟩
    walk_at "un"
    walk_at "go"
    refine rdLstH (Nat.zero_le _) fun H1 d s1 nd hd => ?_
    walk_at "go"
    refine forOf ?_
    walk_at "it"
    walk_at "un"
    walk_at "go"
    refine rdSlL (s1.seq hS) (cut_all (n := 63) (by rw [List.length_map]; exact hl)) fun p np => ?_
    have s2 : Same H (upd H1 p (.lst (ns.map V.int))) := s1.trans (sameNew np)
    have npd : p ≠ d := fun z => by rw [z, hd] at np; cases np
    refine ⟨p, rfl, ⟨_, .inl (.inl upd_same)⟩, ?_⟩
    refine FL.list (xs := ns.map V.int) (fun i σ' H' => ∃ (b : Int) (o2 o3 o4 : Option V), σ' = [some (.ref a), some (.int (c : Int)), some (.ref d), some (.int b), o2, o3, o4] ∧ Same H H' ∧ H' p = some (.lst (ns.map V.int)) ∧ ∃ ms : List Int, H' d = some (.lst (ms.map V.int)) ∧ ms.length ≤ 61 * i)
      ⟨0, _, _, _, rfl, s2, upd_same, [], by rw [upd_ne npd.symm]; exact hd, Nat.zero_le _⟩ (fun i σ' H' _ ⟨_, _, _, _, _, _, e, _⟩ => .inl (.inl e)) ?_ ?_
    · rintro i x σ' H2 hi ⟨b, o2, o3, o4, rfl, s3, hp, ms, hms, hlm⟩
      have hi' : i < ns.length := by
        have := (List.getElem?_eq_some_iff.mp hi).1
        rw [List.length_map] at this
        exact this
      obtain ⟨z, rfl, hz⟩ := mapInt_at hi
      walk_at "un"
      walk_at "go"
      refine ifD (fun hbig => ?_) (fun hbig => ?_)
      · walk_at "go"
        refine forOf ?_
        walk_at "it"
        walk_at "un"
        refine ⟨_, rfl, by decide, by decide, ?_⟩
        refine FL.range (n := 60) (fun j σ' H' => ∃ (r : Int) (o4 : Option V), σ' = [some (.ref a), some (.int (c : Int)), some (.ref d), some (.int (b + z)), some (.int z), some (.int r), o4] ∧ Same H H' ∧ H' p = some (.lst (ns.map V.int)) ∧ ∃ ms : List Int, H' d = some (.lst (ms.map V.int)) ∧ ms.length ≤ 61 * i + j) ⟨_, o4, rfl, s3, hp, ms, hms, hlm⟩ ?_ ?_
        · rintro j σ' H4 hj ⟨r, o5, rfl, s4, hp4, ms4, hms4, hlm4⟩
          walk_at "un"
          walk_at "go"
          refine ⟨.inl ⟨rfl, _, .inl (.inl hms4)⟩, ?_⟩
          walk_at "go"
          refine rdMod (by decide) ?_
          refine rdAppJ hms4 (by omega) ?_
          walk_at "go"
          refine rdDivP (b := 10) (by decide) (by decide) (by decide) ?_
          walk_at "go"
          have s5 : ∀ xs, Same H (upd H4 d (.lst xs)) := fun xs => sameLate' s4 nd
          have hp5 : ∀ xs, upd H4 d (.lst xs) p = some (.lst (ns.map V.int)) := fun xs => by rw [upd_ne npd]; exact hp4
          refine ifD (fun cc => ?_) (fun cc => ?_)
          · refine ⟨b + z, _, _, _, rfl, s5 _, hp5 _, _, upd_same, ?_⟩
            rw [List.length_append]
            show ms4.length + 1 ≤ _
            omega
          · refine ⟨_, _, rfl, s5 _, hp5 _, _, upd_same, ?_⟩
            rw [List.length_append]
            show ms4.length + 1 ≤ _
            omega
        · rintro σ' H4 ⟨r, o5, rfl, s4, hp4, ms4, hms4, hlm4⟩
          exact ⟨_, _, _, _, rfl, s4, hp4, ms4, hms4, by omega⟩
      · walk_at "go"
        refine ⟨.inl ⟨rfl, _, .inl (.inl hms)⟩, ?_⟩
        walk_at "go"
        refine ⟨z, 3, rfl, by decide, by decide, fun z1 => ?_⟩
        refine ⟨z1, 5, rfl, by decide, by decide, fun z2 => ?_⟩
        refine rdAppJ hms (by omega) ?_
        refine ⟨_, _, _, _, rfl, sameLate' s3 nd, by rw [upd_ne npd]; exact hp, _, upd_same, ?_⟩
        rw [List.length_append]
        show ms.length + 1 ≤ _
        omega
    · rintro σ' H2 ⟨b, o2, o3, o4, rfl, s3, _, ms, hms, hlm⟩
      rw [List.length_map] at hlm
      walk_at "un"
      refine forOf ?_
      walk_at "it"
      walk_at "un"
      walk_at "go"
      refine ⟨by omega, by omega, ?_⟩
      rw [show ((c : Nat) : Int).toNat = c by omega]
      refine FL.range (n := c) (fun j σ' H' => ∃ (o4 : Option V), σ' = [some (.ref a), some (.int (c : Int)), some (.ref d), some (.int b), o2, o3, o4] ∧ Same H H' ∧ ∃ ms : List Int, H' d = some (.lst (ms.map V.int)) ∧ ms.length ≤ 61 * ns.length + j) ⟨o4, rfl, s3, ms, hms, hlm⟩ ?_ ?_
      · rintro j σ' H4 hj ⟨o5, rfl, s4, ms4, hms4, hlm4⟩
        walk_at "un"
        walk_at "go"
        refine ⟨.inl ⟨rfl, _, .inl (.inl hms4)⟩, ?_⟩
        walk_at "go"
        refine ⟨_, _, rfl, by omega, by omega, fun z1 => ?_⟩
        refine ⟨z1, 17, rfl, by decide, by decide, fun z2 => ?_⟩
        refine rdAppJ hms4 (by omega) ?_
        refine ⟨_, rfl, sameLate' s4 nd, _, upd_same, ?_⟩
        rw [List.length_append]
        show ms4.length + 1 ≤ _
        omega
      · rintro σ' H4 ⟨o5, rfl, s4, ms4, hms4, hlm4⟩
        walk_at "un"
        walk_at "go"
        refine ⟨.inl ⟨rfl, _, .inl (.inl hms4)⟩, d, ms4.map V.int, rfl, rfl, hms4, ?_⟩
        rw [← List.map_reverse]
        exact ⟨_, rfl, q _ _ (sameLate' s4 nd) nd ⟨_, upd_same⟩⟩
/-! ### _law_take -/
/-- the next number: any below the bound -/
def sp__law_take : Sp := fun vs H Q _ => ∃ (d : Addr) (m : Int), vs = [.ref d, .int m] ∧ Ints H d ∧ 0 < m ∧ ∀ H' x, SameS [d] H H' → Ints H' d → 0 ≤ x → x < m → Q (.int x) H'
theorem ok__law_take {f : Addr} {fd : FuncData} (T : Tx K mg) (F : FunD K "_law_take" "_law_take" (defArgs s__law_take) (defBody s__law_take) (defScope s__law_take) [] [] f fd) : FnOk P w K mg base (L2.CX P w) 1 f fd ["row", "bound"] sp__law_take := by
  refine F.ok sc__law_take (fun vs H Q E h => ?_) (fun cdv A outer st H vs Q E hr h => ?_)
  · obtain ⟨_, _, rfl, _⟩ := h
    rfl
  · obtain ⟨d, m, rfl, hI, hm, q⟩ := h
    obtain ⟨ns, hd⟩ := id hI
    refine ⟨_, PSs.nox (pss_cons (ps_if (pt_not (pt_truth (pv 0) (by intro _; rfl))) (pss_one (ps_ret pe_int)) pss_nil) (pss_one (ps_ret (pe_op op_mod (pe_callTy cl_int (by rfl) T.n_int bb_int (pa_cons (pe_bm0 PySem.F.plainAttrs_list PySem.F.slot_list_pop PySem.F.type_list_pop mt_pop (pv 0)) pa_nil)) (pv 1))))), ?_⟩
    walk_at "un"
    walk_at "go"
    refine truNot (.inl (.inl hd)) (fun c => ?_) (fun c => ?_)
    · exact q _ _ (SameS.refl _) hI (by decide) hm
    · have hne : ns ≠ [] := fun z => c (by rw [z]; rfl)
      have hl : 0 < ns.length := List.length_pos_iff.mpr hne
      walk_at "go"
      refine ⟨.inl ⟨rfl, _, .inl (.inl hd)⟩, d, ns.map V.int, .int ns[ns.length - 1], rfl, rfl, hd, by rw [List.length_map, List.getElem?_map, List.getElem?_eq_getElem (by omega)]; rfl, ?_⟩
      walk_at "go"
      refine rdMod hm ?_
      rw [← List.map_dropLast]
      exact q _ _ (sameS_upd (List.mem_singleton.mpr rfl) (notTbl hd)) ⟨_, upd_same⟩ (Int.emod_nonneg _ (by omega)) (Int.emod_lt_of_pos _ hm)
/-! ### _law_lowest -/
/-- the law's own fraction p / q, q above 0 -/
def sp__law_lowest (K : PySem.W.Frag) : Sp := fun vs H Q E => ∃ (p q : Int) (n : Nat), vs = [.int p, .int q] ∧ q.natAbs < 2 ^ n ∧ n < 2400 ∧ 0 < q ∧ ∀ H' v, Same H H' → Fr K H' v (Rat.divInt p q) → Q v H'
theorem ok__law_lowest {f : Addr} {fd : FuncData} (T : Tx K mg) (F : FunD K "_law_lowest" "_law_lowest" (defArgs s__law_lowest) (defBody s__law_lowest) (defScope s__law_lowest) [] [] f fd) : FnOk P w K mg base (L2.CX P w) 1 f fd ["p", "q"] (sp__law_lowest K) := by
  refine F.ok sc__law_lowest (fun vs H Q E h => ?_) (fun cdv A outer s H vs Q E hr h => ?_)
  · obtain ⟨_, _, _, rfl, _⟩ := h
    rfl
  · obtain ⟨p, q, n, rfl, hn, hn9, c2, k1⟩ := h
    have e : q ≠ 0 := by omega
    have hg := gcd_pos (p := p) e
    have hl : ((Nat.gcd p.natAbs q.natAbs : Nat) : Int).natAbs ≤ q.natAbs := Nat.le_of_dvd (by omega) (Nat.gcd_dvd_right ..)
    have hb : ((Nat.gcd p.natAbs q.natAbs : Nat) : Int).natAbs < 2 ^ n := Nat.lt_of_le_of_lt hl hn
    refine ⟨_, PSs.nox (pss_cons (ps_par (i := 2) (j := 3) (by rfl) sc__law_lowest.nd rfl rfl (by decide) rfl rfl (pa_cons (pe_callB cl_abs (by rfl) T.n_abs bb_abs (pa_cons (pv 0) pa_nil)) (pa_cons (pv 1) pa_nil)) (by rfl)) (pss_cons (ps_for PassesOwn.never rfl (pi_range1 (by rfl) T.n_range (pa_cons pe_int pa_nil)) (pg_name (i := 4) sc__law_lowest.nd rfl (Or.inl rfl)) (pss_cons (ps_if (pt_cmpR (op_eqA hr.units) (pv 3) pe_int (nomark _)) (pss_one ps_break) pss_nil) (pss_one (ps_par (i := 2) (j := 3) (by rfl) sc__law_lowest.nd rfl rfl (by decide) rfl rfl (pa_cons (pv 3) (pa_cons (pe_op op_mod (pe_callTy cl_int (by rfl) T.n_int bb_int (pa_cons (pv 2) pa_nil)) (pv 3)) pa_nil)) (by rfl))))) (pss_cons (ps_if (pt_cmpR (op_eqA hr.units) (pv 2) pe_int (nomark _)) (pss_one (ps_ret (pe_tupN (pa_cons pe_int (pa_cons pe_int pa_nil))))) pss_nil) (pss_one (ps_ret (pe_tupN (pa_cons (pe_op op_fdivX (pv 0) (pv 2)) (pa_cons (pe_op op_fdivX (pv 1) (pv 2)) pa_nil)))))))), ?_⟩
    walk_at "un"
    walk_at "go"
    refine ⟨_, _, rfl, ?_⟩
    walk_at "un"
    refine forOf ?_
    walk_at "it"
    walk_at "un"
    refine ⟨_, rfl, by decide, by decide, ?_⟩
    refine FL.range (n := 5000) (fun i σ' H' => ∃ (x y : Nat) (o1 : Option V), σ' = [some (.int p), some (.int q), some (.int (x : Int)), some (.int (y : Int)), o1] ∧ Nat.gcd x y = Nat.gcd p.natAbs q.natAbs ∧ Enough (5000 - i) x y ∧ H' = H) ⟨p.natAbs, q.natAbs, none, ?_, rfl, enough_of hn (by omega), rfl⟩ ?_ ?_
    · rw [show ((q.natAbs : Nat) : Int) = q from Int.natAbs_of_nonneg (by omega)]
    · rintro i σ' H' hi ⟨x, y, o1, rfl, hgx, hen, rfl⟩
      walk_at "un"
      walk_at "go"
      refine ifD (fun c => ?_) (fun c => ?_)
      · have : y = 0 := by omega
        subst this
        rw [Nat.gcd_zero_right] at hgx
        subst hgx
        walk_at "go"
        refine ifD (fun c0 => absurd c0 (by omega)) (fun _ => ?_)
        walk_at "go"
        refine rdDivP (by omega) hb (by omega) ?_
        walk_at "go"
        refine rdDivP (by omega) hb (by omega) ⟨line2, fun a na => ?_⟩
        exact k1 _ _ (sameNew na) (frNew (num_pos c2) (den_pos c2))
      · walk_at "go"
        refine rdMod (by omega) ?_
        refine ⟨_, _, rfl, ?_⟩
        walk_at "un"
        refine ⟨y, x % y, _, by rw [Int.natCast_emod], ?_, ?_, rfl⟩
        · rw [← hgx, Nat.gcd_comm x y, Nat.gcd_rec y x, Nat.gcd_comm]
        · have h1 := hen.step (by omega)
          rw [show 5000 - i - 1 = 5000 - (i + 1) by omega] at h1
          exact h1
    · rintro σ' H' ⟨x, y, o1, rfl, hgx, hen, rfl⟩
      have := hen.pos
      omega
/-! ### _law_fraction -/
/-- a drawn fraction -/
def sp__law_fraction (K : PySem.W.Frag) : Sp := fun vs H Q _ => ∃ (d : Addr), vs = [.ref d] ∧ Ints H d ∧ ∀ H' v r, SameS [d] H H' → Ints H' d → Fr K H' v r → Sm 100 30 r → Q v H'
theorem ok__law_fraction {f : Addr} {fd : FuncData} (T : Tx K mg) (F : FunD K "_law_fraction" "_law_fraction" (defArgs s__law_fraction) (defBody s__law_fraction) (defScope s__law_fraction) [] [] f fd) (C__law_lowest : Cal P w K mg base "_law_lowest" 1 ["p", "q"] [] (sp__law_lowest K)) (C__law_take : Cal P w K mg base "_law_take" 1 ["row", "bound"] [] (sp__law_take)) : FnOk P w K mg base (L2.CX P w) 2 f fd ["row"] (sp__law_fraction K) := by
  refine F.ok sc__law_fraction (fun vs H Q E h => ?_) (fun cdv A outer st H vs Q E hr h => ?_)
  · obtain ⟨_, rfl, _⟩ := h
    rfl
  · obtain ⟨d, rfl, hI, q⟩ := h
    refine ⟨_, PSs.nox (pss_cons (ps_set (i := 1) sc__law_fraction.nd rfl (Or.inl rfl) (pe_callC C__law_take hr (by decide) (by rfl) (pa_cons (pv 0) (pa_cons pe_int pa_nil)))) (pss_cons (ps_if (pt_cmpR op_lt (pv 1) pe_int (nomark _)) (pss_one (ps_ret (pe_tupN (pa_cons (pe_op op_sub (pe_callC C__law_take hr (by decide) (by rfl) (pa_cons (pv 0) (pa_cons pe_int pa_nil))) pe_int) (pa_cons pe_int pa_nil))))) pss_nil) (pss_cons (ps_if (pt_cmpR op_lt (pv 1) pe_int (nomark _)) (pss_one (ps_ret (pe_callC C__law_lowest hr (by decide) (by rfl) (pa_cons (pe_op op_sub (pe_callC C__law_take hr (by decide) (by rfl) (pa_cons (pv 0) (pa_cons pe_int pa_nil))) pe_int) (pa_cons (pe_op op_add pe_int (pe_callC C__law_take hr (by decide) (by rfl) (pa_cons (pv 0) (pa_cons pe_int pa_nil)))) pa_nil))))) pss_nil) (pss_cons (ps_if (pt_cmpR (op_eqA hr.units) (pv 1) pe_int (nomark _)) (pss_one (ps_ret (pe_tupN (pa_cons pe_int (pa_cons pe_int pa_nil))))) pss_nil) (pss_one (ps_ret (pe_callC C__law_lowest hr (by decide) (by rfl) (pa_cons (pe_op op_sub (pe_callC C__law_take hr (by decide) (by rfl) (pa_cons (pv 0) (pa_cons pe_int pa_nil))) pe_int) (pa_cons (pe_op op_add pe_int (pe_callC C__law_take hr (by decide) (by rfl) (pa_cons (pv 0) (pa_cons pe_int pa_nil)))) pa_nil))))))))), ?_⟩
    walk_at "un"
    walk_at "go"
    refine ⟨d, 8, rfl, hI, by decide, fun H1 c s1 hI c0 c8 => ?_⟩
    walk_at "go"
    refine ifD (fun c4 => ?_) (fun c4 => ?_)
    · walk_at "go"
      refine ⟨d, 7, rfl, hI, by decide, fun H2 p s2 hI p0 p7 => ?_⟩
      walk_at "go"
      rename_i H3 t s3 g
      exact q _ _ (Rat.divInt (p - 2) 1) ((s1.trans s2).trans (sameS s3)) (hI.mono s3) (fr_int g) (sm_divInt (by decide) (by omega) (by decide))
    · walk_at "go"
      refine ifD (fun c6 => ?_) (fun c6 => ?_)
      · walk_at "go"
        refine ⟨d, 13, rfl, hI, by decide, fun H2 p s2 hI p0 p7 => ?_⟩
        walk_at "go"
        refine ⟨d, 4, rfl, hI, by decide, fun H3 k s3 hI k0 k4 => ?_⟩
        walk_at "go"
        refine ⟨_, _, 6, rfl, by omega, by decide, by omega, fun H4 v s4 hv => ?_⟩
        exact q _ _ _ (((s1.trans s2).trans s3).trans (sameS s4)) (hI.mono s4) hv (sm_divInt (by omega) (by omega) (by omega))
      · walk_at "go"
        refine ifD (fun c7 => ?_) (fun c7 => ?_)
        · walk_at "go"
          rename_i H3 t s3 g
          exact q _ _ (Rat.divInt 0 1) (s1.trans (sameS s3)) (hI.mono s3) (fr_int g) (sm_divInt (by decide) (by decide) (by decide))
        · walk_at "go"
          refine ⟨d, 200, rfl, hI, by decide, fun H2 p s2 hI p0 p7 => ?_⟩
          walk_at "go"
          refine ⟨d, 30, rfl, hI, by decide, fun H3 k s3 hI k0 k4 => ?_⟩
          walk_at "go"
          refine ⟨_, _, 6, rfl, by omega, by decide, by omega, fun H4 v s4 hv => ?_⟩
          exact q _ _ _ (((s1.trans s2).trans s3).trans (sameS s4)) (hI.mono s4) hv (sm_divInt (by omega) (by omega) (by omega))
/-! ### _law_plus -/
def sp__law_plus (K : PySem.W.Frag) : Sp := fun vs H Q _ => ∃ (v u : V) (r s : Rat) (m n : Nat), vs = [v, u] ∧ Fr K H v r ∧ Fr K H u s ∧ Bd m r ∧ Bd n s ∧ m + n < 2399 ∧ ∀ H' x, Same H H' → Fr K H' x (r + s) → Q x H'
theorem ok__law_plus {f : Addr} {fd : FuncData} (T : Tx K mg) (F : FunD K "_law_plus" "_law_plus" (defArgs s__law_plus) (defBody s__law_plus) (defScope s__law_plus) [] [] f fd) (C__law_lowest : Cal P w K mg base "_law_lowest" 1 ["p", "q"] [] (sp__law_lowest K)) : FnOk P w K mg base (L2.CX P w) 2 f fd ["a", "b"] (sp__law_plus K) := by
  refine F.ok sc__law_plus (fun vs H Q E h => ?_) (fun cdv A outer st H vs Q E hr h => ?_)
  · obtain ⟨_, _, _, _, _, _, rfl, _⟩ := h
    rfl
  · obtain ⟨v, u, r, s, m, n, rfl, hv, hu, ⟨h1, h2'⟩, ⟨h3, h4'⟩, hmn, q⟩ := h
    have h2 : (r.den : Int).natAbs < 2 ^ m := h2'
    have h4 : (s.den : Int).natAbs < 2 ^ n := h4'
    refine ⟨_, PSs.nox (pss_one (ps_ret (pe_callC C__law_lowest hr (by decide) (by rfl) (pa_cons (pe_op op_add (pe_op op_mulG (pe_ix ix_seq (pv 0) pe_int (fun _ _ => rfl)) (pe_ix ix_seq (pv 1) pe_int (fun _ _ => rfl))) (pe_op op_mulG (pe_ix ix_seq (pv 1) pe_int (fun _ _ => rfl)) (pe_ix ix_seq (pv 0) pe_int (fun _ _ => rfl)))) (pa_cons (pe_op op_mulG (pe_ix ix_seq (pv 0) pe_int (fun _ _ => rfl)) (pe_ix ix_seq (pv 1) pe_int (fun _ _ => rfl))) pa_nil))))), ?_⟩
    walk_at "un"
    walk_at "go"
    refine ⟨_, _, m + n, rfl, mul_lt h2 h4, by omega, Int.mul_pos (den_p r) (den_p s), fun H' x sm hx => ?_⟩
    rw [add_as] at hx
    exact q _ _ sm hx
/-! ### _law_times -/
/-- the product of two pairs, in lowest terms -/
def sp__law_times (K : PySem.W.Frag) : Sp := fun vs H Q _ => ∃ (v u : V) (p1 q1 p2 q2 : Int) (m n : Nat), vs = [v, u] ∧ Dp K H v (.tuple [.int p1, .int q1]) ∧ Dp K H u (.tuple [.int p2, .int q2]) ∧ p1.natAbs < 2 ^ m ∧ q1.natAbs < 2 ^ m ∧ p2.natAbs < 2 ^ n ∧ q2.natAbs < 2 ^ n ∧ 0 < q1 ∧ 0 < q2 ∧ m + n < 2399 ∧ ∀ H' x, Same H H' → Fr K H' x (Rat.divInt (p1 * p2) (q1 * q2)) → Q x H'
theorem ok__law_times {f : Addr} {fd : FuncData} (T : Tx K mg) (F : FunD K "_law_times" "_law_times" (defArgs s__law_times) (defBody s__law_times) (defScope s__law_times) [] [] f fd) (C__law_lowest : Cal P w K mg base "_law_lowest" 1 ["p", "q"] [] (sp__law_lowest K)) : FnOk P w K mg base (L2.CX P w) 2 f fd ["a", "b"] (sp__law_times K) := by
  refine F.ok sc__law_times (fun vs H Q E h => ?_) (fun cdv A outer st H vs Q E hr h => ?_)
  · obtain ⟨_, _, _, _, _, _, _, _, rfl, _⟩ := h
    rfl
  · obtain ⟨v, u, p1, q1, p2, q2, m, n, rfl, hv, hu, h1, h2, h3, h4, c1, c2, hmn, q⟩ := h
    refine ⟨_, PSs.nox (pss_one (ps_ret (pe_callC C__law_lowest hr (by decide) (by rfl) (pa_cons (pe_op op_mulG (pe_ix ix_seq (pv 0) pe_int (fun _ _ => rfl)) (pe_ix ix_seq (pv 1) pe_int (fun _ _ => rfl))) (pa_cons (pe_op op_mulG (pe_ix ix_seq (pv 0) pe_int (fun _ _ => rfl)) (pe_ix ix_seq (pv 1) pe_int (fun _ _ => rfl))) pa_nil))))), ?_⟩
    walk_at "un"
    walk_at "go"
    refine ⟨_, _, m + n, rfl, mul_lt h2 h4, by omega, Int.mul_pos c1 c2, fun H' x sm hx => ?_⟩
    exact q _ _ sm hx
theorem mone_div (p q : Int) : Rat.divInt (-1 * p) (1 * q) = -Rat.divInt p q := by
  rw [Int.one_mul, div_neg]
  congr 1
  omega
theorem rd_timesM {K : PySem.W.Frag} {H : Hp} {Q : VK} {E : XK} {v u : V} {s : Rat} {n : Nat} (hv : Fr K H v (-1)) (hu : Fr K H u s) (hb : Bd n s) (hn : 1 + n < 2399) (q : ∀ H' x, Same H H' → Fr K H' x (-s) → Q x H') : sp__law_times K [v, u] H Q E :=
  ⟨v, u, -1, 1, s.num, (s.den : Int), 1, n, rfl, hv, hu, by decide, by decide, hb.1, hb.2, by decide, den_p s, hn, fun H' x sm hx => by
    rw [mone_div, Rat.num_divInt_den] at hx
    exact q _ _ sm hx⟩
theorem rd_timesF {K : PySem.W.Frag} {H : Hp} {Q : VK} {E : XK} {v u : V} {r s : Rat} {m n : Nat} (hv : Fr K H v r) (hu : Fr K H u s) (b1 : Bd m r) (b2 : Bd n s) (hn : m + n < 2399) (q : ∀ H' x, Same H H' → Fr K H' x (r * s) → Q x H') : sp__law_times K [v, u] H Q E :=
  ⟨v, u, r.num, (r.den : Int), s.num, (s.den : Int), m, n, rfl, hv, hu, b1.1, b1.2, b2.1, b2.2, den_p r, den_p s, hn, fun H' x sm hx => by
    rw [mul_as] at hx
    exact q _ _ sm hx⟩
/-! ### _law_less -/
/-- one fraction below another -/
def sp__law_less (K : PySem.W.Frag) : Sp := fun vs H Q _ => ∃ (v u : V) (r s : Rat) (m n : Nat), vs = [v, u] ∧ Fr K H v r ∧ Fr K H u s ∧ Bd m r ∧ Bd n s ∧ m + n < 8999 ∧ Q (.bl (decide (r < s))) H
theorem less_as (r s : Rat) : decide (r.num * (s.den : Int) < s.num * (r.den : Int)) = decide (r < s) := by
  rw [Bool.eq_iff_iff, decide_eq_true_iff, decide_eq_true_iff, Rat.lt_iff]
theorem ok__law_less {f : Addr} {fd : FuncData} (T : Tx K mg) (F : FunD K "_law_less" "_law_less" (defArgs s__law_less) (defBody s__law_less) (defScope s__law_less) [] [] f fd) : FnOk P w K mg base (L2.CX P w) 1 f fd ["a", "b"] (sp__law_less K) := by
  refine F.ok sc__law_less (fun vs H Q E h => ?_) (fun cdv A outer st H vs Q E hr h => ?_)
  · obtain ⟨_, _, _, _, _, _, rfl, _⟩ := h
    rfl
  · obtain ⟨v, u, r, s, m, n, rfl, hv, hu, ⟨h1, h2'⟩, ⟨h3, h4'⟩, hmn, q⟩ := h
    have h2 : (r.den : Int).natAbs < 2 ^ m := h2'
    have h4 : (s.den : Int).natAbs < 2 ^ n := h4'
    refine ⟨_, PSs.nox (pss_one (ps_ret (pe_cmpR op_lt (pe_op op_mulG (pe_ix ix_seq (pv 0) pe_int (fun _ _ => rfl)) (pe_ix ix_seq (pv 1) pe_int (fun _ _ => rfl))) (pe_op op_mulG (pe_ix ix_seq (pv 1) pe_int (fun _ _ => rfl)) (pe_ix ix_seq (pv 0) pe_int (fun _ _ => rfl))) (nomark _)))), ?_⟩
    walk_at "un"
    walk_at "go"
    rw [less_as]
    exact q
/-! ### _law_dot -/
def sp__law_dot (K : PySem.W.Frag) : Sp := fun vs H Q _ => ∃ (v u : V) (rs ss : List Rat) (n : Nat), vs = [v, u] ∧ Frs K H v rs ∧ Frs K H u ss ∧ (∀ r ∈ rs, Bd n r) ∧ (∀ r ∈ ss, Bd n r) ∧ 1 + rs.length * (n + n + 1) + n + n < 2398 ∧ rs.length ≤ 1000 ∧ ∀ H' x, Same H H' → Fr K H' x (dotR rs ss) → Q x H'
theorem ok__law_dot {f : Addr} {fd : FuncData} (T : Tx K mg) (F : FunD K "_law_dot" "_law_dot" (defArgs s__law_dot) (defBody s__law_dot) (defScope s__law_dot) [] [] f fd) (C__law_plus : Cal P w K mg base "_law_plus" 2 ["a", "b"] [] (sp__law_plus K)) (C__law_times : Cal P w K mg base "_law_times" 2 ["a", "b"] [] (sp__law_times K)) : FnOk P w K mg base (L2.CX P w) 3 f fd ["first", "second"] (sp__law_dot K) := by
  refine F.ok sc__law_dot (fun vs H Q E h => ?_) (fun cdv A outer st H vs Q E hr h => ?_)
  · obtain ⟨_, _, _, _, _, rfl, _⟩ := h
    rfl
  · obtain ⟨v, u, rs, ss, n, rfl, hv, hu, hb1, hb2, hn, hlr, q⟩ := h
    obtain ⟨a, xs, rfl, hS, hD⟩ := hv.get
    obtain ⟨b, ys, rfl, hS2, hD2⟩ := hu.get
    have hl := frs_len hD
    have hl2 := frs_len hD2
    refine ⟨_, PSs.nox (pss_cons (ps_set (i := 2) sc__law_dot.nd rfl (Or.inl rfl) (pe_tupN (pa_cons pe_int (pa_cons pe_int pa_nil)))) (pss_cons (ps_for PassesOwn.never rfl (pi_range1 (by rfl) T.n_range (pa_cons (pe_callB (cl_min2 rfl) (by rfl) T.n_min bb_min (pa_cons (pe_callB cl_len (by rfl) T.n_len bb_len (pa_cons (pv 0) pa_nil)) (pa_cons (pe_callB cl_len (by rfl) T.n_len bb_len (pa_cons (pv 1) pa_nil)) pa_nil))) pa_nil)) (pg_name (i := 3) sc__law_dot.nd rfl (Or.inl rfl)) (pss_one (ps_if ((pw_and (pt_cmpR (op_neA hr.units) (pe_ix ix_seq (pe_ix ix_seq (pv 0) (pv 3) (fun _ _ => rfl)) pe_int (fun _ _ => rfl)) pe_int (nomark _)) (pw_and1 (pt_cmpR (op_neA hr.units) (pe_ix ix_seq (pe_ix ix_seq (pv 1) (pv 3) (fun _ _ => rfl)) pe_int (fun _ _ => rfl)) pe_int (nomark _))))).pt (pss_one (ps_set (i := 2) sc__law_dot.nd rfl (Or.inl rfl) (pe_callC C__law_plus hr (by decide) (by rfl) (pa_cons (pv 2) (pa_cons (pe_callC C__law_times hr (by decide) (by rfl) (pa_cons (pe_ix ix_seq (pv 0) (pv 3) (fun _ _ => rfl)) (pa_cons (pe_ix ix_seq (pv 1) (pv 3) (fun _ _ => rfl)) pa_nil))) pa_nil))))) pss_nil))) (pss_one (ps_ret (pv 2))))), ?_⟩
    walk_at "un"
    walk_at "go"
    rename_i H1 f1 s1 g1
    refine forOf ?_
    walk_at "it"
    walk_at "un"
    walk_at "go"
    refine rdLenL (s1.seq hS) ?_
    walk_at "go"
    refine rdLenL (s1.seq hS2) ?_
    walk_at "go"
    refine ⟨by omega, by omega, ?_⟩
    rw [show ((min xs.length ys.length : Nat) : Int).toNat = min xs.length ys.length by omega]
    refine FL.range (n := min xs.length ys.length) (fun i σ' H' => ∃ f o1, σ' = [some (.ref a), some (.ref b), some f, o1] ∧ Same H H' ∧ Fr K H' f (sumR ((List.zipWith (· * ·) rs ss).take i))) ⟨f1, _, rfl, s1, g1⟩ ?_ ?_
    · rintro i σ' H' hi ⟨f, o1, rfl, s2, hf⟩
      obtain ⟨r, hr, hx⟩ := frs_at hD (List.getElem?_eq_getElem (show i < xs.length by omega))
      obtain ⟨s, hs, hy⟩ := frs_at hD2 (List.getElem?_eq_getElem (show i < ys.length by omega))
      have hx := hx.mono s2
      have hy := hy.mono s2
      have hbr : Bd n r := hb1 r (List.mem_of_getElem? hr)
      have hbs : Bd n s := hb2 s (List.mem_of_getElem? hs)
      have hbz := bd_sumR (take_bd (bd_zip hb1 hb2) i)
      have hlz : ((List.zipWith (· * ·) rs ss).take i).length ≤ rs.length := by
        rw [List.length_take, List.length_zipWith]
        omega
      have hmul : ((List.zipWith (· * ·) rs ss).take i).length * (n + n + 1) ≤ rs.length * (n + n + 1) := Nat.mul_le_mul_right _ hlz
      have ix : ∀ {H'' : Hp} {Q' : VK}, Same H' H'' → Q' xs[i] H'' → rIx K (.ref a) (.int (0 + (i : Nat))) H'' Q' := fun e q' => rdIxL (e.seq (s2.seq hS)) (at_of (j := i) (by omega) (List.getElem?_eq_getElem (by omega))) q'
      have iy : ∀ {H'' : Hp} {Q' : VK}, Same H' H'' → Q' ys[i] H'' → rIx K (.ref b) (.int (0 + (i : Nat))) H'' Q' := fun e q' => rdIxL (e.seq (s2.seq hS2)) (at_of (j := i) (by omega) (List.getElem?_eq_getElem (by omega))) q'
      have rf : Same H' H' := fun _ _ h => h
      walk_at "un"
      walk_at "go"
      refine ix rf ?_
      walk_at "go"
      refine ifB (fun e => ?_) (fun e => ?_)
      · walk_at "go"
        refine iy rf ?_
        walk_at "go"
        refine ifB (fun e2 => ?_) (fun e2 => ?_)
        · walk_at "go"
          refine ix rf ?_
          walk_at "go"
          refine iy rf ?_
          refine rd_timesF hx hy hbr hbs (by omega) fun H3 u3 s3 hu3 => ?_
          refine ⟨f, u3, _, _, _, _, rfl, hf.mono s3, hu3, hbz, bd_mul hbr hbs, by omega, fun H4 u4 s4 hu4 => ?_⟩
          rw [← sumR_take (zip_at hr hs)] at hu4
          exact ⟨u4, _, rfl, (s2.trans s3).trans s4, hu4⟩
        · have e3 : s.num = 0 := by simpa using e2
          rw [← dot_skip hr hs (.inr e3)] at hf
          exact ⟨f, _, rfl, s2, hf⟩
      · have e3 : r.num = 0 := by simpa using e
        rw [← dot_skip hr hs (.inl e3)] at hf
        refine iteF ?_
        exact ⟨f, _, rfl, s2, hf⟩
    · rintro σ' H' ⟨f, o1, rfl, s2, hf⟩
      rw [List.take_of_length_le (by rw [List.length_zipWith]; omega)] at hf
      exact ⟨_, rfl, q _ _ s2 hf⟩
/-! ### _law_minus -/
/-- a fraction less a pair -/
def sp__law_minus (K : PySem.W.Frag) : Sp := fun vs H Q _ => ∃ (v u : V) (r : Rat) (p2 q2 : Int) (m n : Nat), vs = [v, u] ∧ Fr K H v r ∧ Dp K H u (.tuple [.int p2, .int q2]) ∧ Bd m r ∧ p2.natAbs < 2 ^ n ∧ q2.natAbs < 2 ^ n ∧ 0 < q2 ∧ m + n < 2390 ∧ ∀ H' x, Same H H' → Fr K H' x (r - Rat.divInt p2 q2) → Q x H'
theorem rd_minusF {K : PySem.W.Frag} {H : Hp} {Q : VK} {E : XK} {v u : V} {r s : Rat} {m n : Nat} (hv : Fr K H v r) (hu : Fr K H u s) (b1 : Bd m r) (b2 : Bd n s) (hmn : m + n < 2390) (q : ∀ H' x, Same H H' → Fr K H' x (r - s) → Q x H') : sp__law_minus K [v, u] H Q E :=
  ⟨v, u, r, s.num, (s.den : Int), m, n, rfl, hv, hu, b1, b2.1, b2.2, den_p s, hmn, fun H' x sm hx => by
    rw [Rat.num_divInt_den] at hx
    exact q _ _ sm hx⟩
theorem ok__law_minus {f : Addr} {fd : FuncData} (T : Tx K mg) (F : FunD K "_law_minus" "_law_minus" (defArgs s__law_minus) (defBody s__law_minus) (defScope s__law_minus) [] [] f fd) (C__law_plus : Cal P w K mg base "_law_plus" 2 ["a", "b"] [] (sp__law_plus K)) (C__law_times : Cal P w K mg base "_law_times" 2 ["a", "b"] [] (sp__law_times K)) : FnOk P w K mg base (L2.CX P w) 3 f fd ["a", "b"] (sp__law_minus K) := by
  refine F.ok sc__law_minus (fun vs H Q E h => ?_) (fun cdv A outer st H vs Q E hr h => ?_)
  · obtain ⟨_, _, _, _, _, _, _, rfl, _⟩ := h
    rfl
  · obtain ⟨v, u, r, p2, q2, m, n, rfl, hv, hu, b1, b2, b3, c2, hmn, q⟩ := h
    refine ⟨_, PSs.nox (pss_one (ps_ret (pe_callC C__law_plus hr (by decide) (by rfl) (pa_cons (pv 0) (pa_cons (pe_callC C__law_times hr (by decide) (by rfl) (pa_cons (pe_tupN (pa_cons (pe_un un_neg pe_int) (pa_cons pe_int pa_nil))) (pa_cons (pv 1) pa_nil))) pa_nil))))), ?_⟩
    walk_at "un"
    walk_at "go"
    rename_i H1 x1 s1 g1
    refine ⟨_, _, -1, 1, p2, q2, 1, n, rfl, g1, Ub.Dp.mono s1 _ _ hu, by decide, by decide, b2, b3, by decide, c2, by omega, fun H2 x2 s2 hx => ?_⟩
    rw [mone_div] at hx
    refine ⟨_, _, r, _, m, n, rfl, (hv.mono s1).mono s2, hx, b1, bd_neg (bd_divInt (by omega) b2 b3), by omega, fun H3 x3 s3 hx3 => ?_⟩
    rw [← Rat.sub_eq_add_neg] at hx3
    exact q _ _ ((s1.trans s2).trans s3) hx3
/-! ### _check_menu -/
/-! menus: lists of lists of fractions -/
abbrev pCheck (K : PySem.W.Frag) : Addr := (He.cT K (("_check_menu", none) : He.Defn)).2
def sp__check_menu (K : PySem.W.Frag) : Sp := fun vs H Q E => ∃ (a b : Addr) (W L : List (List Rat)) (o : Nat), vs = [.ref a, .ref b] ∧ LL K H a (mD W) ∧ LL K H b (mD L) ∧ Men W L o ∧ GxR.TabG H (pCheck K) ∧ ∀ H', UbG.SameT H H' → Q .non H'
theorem ok__check_menu {f : Addr} {fd : FuncData} (T : Tx K mg) (F : FunD K "_check_menu" "_check_menu" (defArgs s__check_menu) (defBody s__check_menu) (defScope s__check_menu) [] [] f fd) (hf : f = He.fAd K (("_check_menu", none) : He.Defn)) (TB : GxR.TabB base mg (He.cT K (("_check_menu", none) : He.Defn)).1 (He.cT K (("_check_menu", none) : He.Defn)).2) : FnOk P w K mg base (L2.CX P w) 2 f fd ["worths", "lots"] (sp__check_menu K) := by
  refine UbG.FunD.okT F hf sc__check_menu (fun vs H Q E h => ?_) (fun A outer st H vs Q E hr h => ?_)
  · obtain ⟨_, _, _, _, _, rfl, _⟩ := h
    rfl
  · obtain ⟨a, b, W, L, o, rfl, ⟨xs, ha, hA⟩, ⟨ys, hb, hB⟩, M, hT, q⟩ := h
    have lx := (dpAll_len hA).trans (mD_len W)
    have ly := (dpAll_len hB).trans (mD_len L)
    have m0 := M.pos
    have m1 := M.most
    have m2 := M.len
    refine ⟨_, PSs.nox (pss_cons (ps_if ((pw_or (pt_cmpR (op_eqA hr.units) (pe_callB cl_len (by rfl) T.n_len bb_len (pa_cons (pv 0) pa_nil)) pe_int (nomark _)) (pw_or1 (pt_cmpR (op_neA hr.units) (pe_callB cl_len (by rfl) T.n_len bb_len (pa_cons (pv 1) pa_nil)) (pe_callB cl_len (by rfl) T.n_len bb_len (pa_cons (pv 0) pa_nil)) (nomark _))))).pt (pss_one UbG.ps_no) pss_nil) (pss_cons (ps_set (i := 2) sc__check_menu.nd rfl (Or.inr rfl) (pe_callB cl_len (by rfl) T.n_len bb_len (pa_cons (pe_ix ix_seq (pv 0) pe_int (fun _ _ => rfl)) pa_nil))) (pss_cons (ps_if ((pw_or (pt_cmpR (op_eqA hr.units) (pv 2) pe_int (nomark _)) (pw_or1 (pt_val (UbG.pe_anyG (c := (He.cT K (("_check_menu", none) : He.Defn)).1) (P := (He.cT K (("_check_menu", none) : He.Defn)).2) (k := 0) (own := [("line", 3)]) (g := gName 3) hr sc__check_menu.nd (by rfl) T.n_any UbG.bb_any TB rfl (UbG.gexOk_by (N := N__check_menu) (sc := defScope s__check_menu) (by decide +kernel)) (pi_list (pe_op op_cat (pv 0) (pv 1))) (fun _ _ _ _ _ _ _ hrG => ⟨(pg_name (i := 3) sc__check_menu.nd rfl (by first | exact Or.inl rfl | exact Or.inr rfl)), (pe_cmpR (op_neAK (K := K) rfl hrG.units) (pe_callB (cl_lenK (K := K) rfl) (by rfl) T.n_len bb_len (pa_cons (pv 3) pa_nil)) (pv 2) (nomark _))⟩) (fun _ => rfl)))))).pt (pss_one UbG.ps_no) pss_nil) (pss_cons (ps_if (pt_cmpR op_gt (pe_callB cl_len (by rfl) T.n_len bb_len (pa_cons (pv 0) pa_nil)) (pe_glob (v := .int 8) (by rfl) T.c__MOST_KINDS.choose_spec ⟨_, rfl⟩) (nomark _)) (pss_one UbG.ps_no) pss_nil) (pss_one (ps_if (pt_cmpR op_gt (pv 2) (pe_glob (v := .int 6) (by rfl) T.c__MOST_OUTCOMES.choose_spec ⟨_, rfl⟩) (nomark _)) (pss_one UbG.ps_no) pss_nil)))))), ?_⟩
    walk_at "un"
    walk_at "go"
    refine ifNo (by omega) ?_
    walk_at "go"
    refine ifNe (by omega) ?_
    walk_at "go"
    obtain ⟨v0, e0, h0⟩ := rowAt hA (show 0 < W.length by omega)
    obtain ⟨a0, xs0, rfl, hS0, hD0⟩ := h0.get
    have l0 : xs0.length = o := by
      rw [frs_len hD0]
      exact M.w _ (List.getElem_mem _)
    refine rdIxL (.inl (.inl ha)) (atI_nat (j := 0) e0) ?_
    walk_at "go"
    have o1 := M.op
    have o2 := M.om
    refine ifNo (by omega) ?_
    dsimp only [UbG.tAnyG, iList, tVar, tOp]
    walk_at "un"
    walk_at "go"
    refine ⟨a, b, xs, ys, rfl, rfl, ha, hb, small_line (by omega), fun p np => ?_⟩
    have s1 : Same H (upd H p (.lst (xs ++ ys))) := sameNew np
    refine ⟨p, rfl, ⟨_, .inl (.inl upd_same)⟩, UbG.TabG.mono s1 hT, fun H2 tb => ?_⟩
    have s2 := UbG.tabbedT (UbG.TabG.mono s1 hT) tb
    have s12 : UbG.SameT H H2 := (UbG.sameT s1).trans s2
    refine UbG.turnsL (xs := xs ++ ys) (fun i H' => H' = H2) rfl (fun i H' _ e => by rw [e]; exact s2.seq (.inl (.inl upd_same))) ?_ ?_
    · rintro i x H' hi rfl
      walk_at "un"
      refine ⟨rfl, ?_⟩
      walk_at "un"
      walk_at "go"
      have row : ∃ a1 xs1, x = .ref a1 ∧ SqL K H' a1 xs1 ∧ xs1.length = o := by
        by_cases hlt : i < xs.length
        · rw [List.getElem?_append_left hlt] at hi
          obtain ⟨v, e, h⟩ := rowAt hA (show i < W.length by omega)
          rw [hi] at e
          cases e
          obtain ⟨a1, xs1, rfl, hS1, hD1⟩ := h.get
          exact ⟨a1, xs1, rfl, s12.seq hS1, by rw [frs_len hD1]; exact M.w _ (List.getElem_mem _)⟩
        · rw [List.getElem?_append_right (by omega)] at hi
          have hi2 := (List.getElem?_eq_some_iff.mp hi).1
          obtain ⟨v, e, h⟩ := rowAt hB (show i - xs.length < L.length by omega)
          rw [hi] at e
          cases e
          obtain ⟨a1, xs1, rfl, hS1, hD1⟩ := h.get
          exact ⟨a1, xs1, rfl, s12.seq hS1, by rw [frs_len hD1]; exact M.l _ (List.getElem_mem _)⟩
      obtain ⟨a1, xs1, rfl, hS1, hl1⟩ := row
      refine rdLenL hS1 ?_
      walk_at "go"
      rw [hl1, l0]
      refine ⟨fun hb => ?_, fun _ => rfl⟩
      simp at hb
    · rintro H' rfl
      walk_at "un"
      walk_at "gv"
      refine rdLenL (s12.seq (.inl (.inl ha))) ?_
      walk_at "go"
      refine ifNo (by omega) ?_
      walk_at "go"
      refine ifNo (by omega) ?_
      exact q _ s12
/-! ### _gain -/
def sp__gain (K : PySem.W.Frag) : Sp := fun vs H Q E => ∃ (a b : Addr) (W L : List (List Rat)) (o k j : Nat), vs = [.ref a, .ref b, .int (k : Int), .int (j : Int)] ∧ LL K H a (mD W) ∧ LL K H b (mD L) ∧ Men W L o ∧ k < W.length ∧ j < W.length ∧
  ∀ H' v, Same H H' → Fr K H' v (gainR W L k j) → Q v H'
theorem ok__gain {f : Addr} {fd : FuncData} (T : Tx K mg) (F : FunD K "_gain" "_gain" (defArgs s__gain) (defBody s__gain) (defScope s__gain) [] [] f fd) (C_dot : Cal P w K mg base "dot" 3 ["first", "second"] [] (sp_dot K)) (C_subtract : Cal P w K mg base "subtract" 2 ["a", "b"] [] (sp_subtract K)) : FnOk P w K mg base (L2.CX P w) 4 f fd ["worths", "lots", "kind", "other"] (sp__gain K) := by
  refine F.ok sc__gain (fun vs H Q E h => ?_) (fun cdv A outer st H vs Q E hr h => ?_)
  · obtain ⟨_, _, _, _, _, _, _, rfl, _⟩ := h
    rfl
  · obtain ⟨a, b, W, L, o, k, j, rfl, ⟨xs, ha, hA⟩, ⟨ys, hb, hB⟩, M, hk, hj, q⟩ := h
    have m2 := M.len
    obtain ⟨vk, ek, hvk⟩ := rowAt hA hk
    obtain ⟨vj, ej, hvj⟩ := rowAt hB (show j < L.length by omega)
    obtain ⟨vl, el, hvl⟩ := rowAt hB (show k < L.length by omega)
    have o1 := M.w _ (List.getElem_mem hk)
    have o2 := M.om
    refine ⟨_, PSs.nox (pss_one (ps_ret (pe_callC C_subtract hr (by decide) (by rfl) (pa_cons (pe_callC C_dot hr (by decide) (by rfl) (pa_cons (pe_ix ix_seq (pv 0) (pv 2) (fun _ _ => rfl)) (pa_cons (pe_ix ix_seq (pv 1) (pv 3) (fun _ _ => rfl)) pa_nil))) (pa_cons (pe_callC C_dot hr (by decide) (by rfl) (pa_cons (pe_ix ix_seq (pv 0) (pv 2) (fun _ _ => rfl)) (pa_cons (pe_ix ix_seq (pv 1) (pv 2) (fun _ _ => rfl)) pa_nil))) pa_nil))))), ?_⟩
    walk_at "un"
    walk_at "go"
    refine rdIxL (.inl (.inl ha)) (atI_nat ek) ?_
    walk_at "go"
    refine rdIxL (.inl (.inl hb)) (atI_nat ej) ?_
    refine ⟨_, _, _, _, 7, rfl, hvk, hvj, M.wB hk, M.lB (by omega), by rw [o1]; omega, fun H1 v1 s1 h1 => ?_⟩
    walk_at "go"
    refine rdIxL (.inl (.inl (s1 _ _ ha))) (atI_nat ek) ?_
    walk_at "go"
    refine rdIxL (.inl (.inl (s1 _ _ hb))) (atI_nat el) ?_
    refine ⟨_, _, _, _, 7, rfl, hvk.mono s1, hvl.mono s1, M.wB hk, M.lB (by omega), by rw [o1]; omega, fun H2 v2 s2 h2 => ?_⟩
    refine ⟨_, _, _, _, 60, 60, rfl, h1.mono s2, h2, bd_dot M hk (by omega), bd_dot M hk (by omega), by decide, fun H3 v3 s3 h3 => ?_⟩
    refine q _ _ ((s1.trans s2).trans s3) ?_
    unfold gainR
    rw [getD_at hk, getD_at (show j < L.length by omega), getD_at (show k < L.length by omega)]
    exact h3
/-! ### _raised -/
open UbC
/-- one more step of the chains -/
def sp__raised (K : PySem.W.Frag) : Sp := fun vs H Q E => ∃ (ga sa ta : Addr) (g : Nat → Nat → Rat) (n l t D N M : Nat) (s : Nat → Rat) (f u : Nat → Nat), vs = [.ref ga, .ref sa, .ref ta] ∧ LL K (wo [sa, ta] H) ga (mD (tab n fun k => tab n (g k))) ∧ Cel K [sa, ta] H sa ((tab n s).map frD) ∧ H ta = some (.lst ((tab n f).map natV)) ∧ sa ≠ ta ∧
  BF g n l t s f u (fun _ _ => False) none ∧ (∀ k, g k k = 0) ∧ (∀ k j, k < n → j < n → Sz D N (g k j)) ∧ (∀ k, k < n → Sz D M (s k)) ∧ 0 < D ∧ D < 2 ^ 100 ∧ N < 2 ^ 100 ∧ M + n * n * N < 2 ^ 100 ∧ n ≤ 8 ∧
  ∀ (H' : Hp) (s' : Nat → Rat) (f' u' : Nat → Nat) (o : Option Nat), SameS [sa, ta] H H' → Cel K [sa, ta] H' sa ((tab n s').map frD) → H' ta = some (.lst ((tab n f').map natV)) → BF g n l t s' f' u' (fun k j => k < n ∧ j < n) o → (s', f', o) = UbC.outer g n (s, f, none) n → (∀ k, k < n → Sz D (M + n * n * N) (s' k)) → Q (optV o) H'
/-- what stands in the loops of _raised -/
structure RaI (K : PySem.W.Frag) (H : Hp) (sa ta : Addr) (g : Nat → Nat → Rat) (n l t D M : Nat) (done : Nat → Nat → Prop) (o : Option Nat) (H' : Hp) (s : Nat → Rat) (f u : Nat → Nat) : Prop where
  sm : SameS [sa, ta] H H'
  ce : Cel K [sa, ta] H' sa ((tab n s).map frD)
  st : H' ta = some (.lst ((tab n f).map natV))
  bf : BF g n l t s f u done o
  sz : ∀ k, k < n → Sz D M (s k)
section
variable {K : PySem.W.Frag} {H H' H2 : Hp} {sa ta : Addr} {g : Nat → Nat → Rat} {n l t D M M' : Nat} {done done' : Nat → Nat → Prop} {o : Option Nat} {s : Nat → Rat} {f u : Nat → Nat}
theorem RaI.lsS (R : RaI K H sa ta g n l t D M done o H' s f u) : Ls [sa, ta] H' := fun s hs => by
  rcases List.mem_cons.mp hs with e | e
  · rw [e]
    exact R.ce.ls
  · rw [List.mem_singleton.mp e]
    exact ⟨_, R.st⟩
theorem RaI.same (R : RaI K H sa ta g n l t D M done o H' s f u) (e : Same H' H2) : RaI K H sa ta g n l t D M done o H2 s f u :=
  ⟨R.sm.trans (sameS e), R.ce.mono e, e _ _ R.st, R.bf, R.sz⟩
theorem RaI.wide (R : RaI K H sa ta g n l t D M done o H' s f u) (h : M ≤ M') (h2 : ∀ a b, a < n → b < n → done' a b → done a b) : RaI K H sa ta g n l t D M' done' o H' s f u :=
  ⟨R.sm, R.ce, R.st, R.bf.less h2, fun k hk => (R.sz k hk).mono h⟩
end
theorem ok__raised {f : Addr} {fd : FuncData} (T : Tx K mg) (F : FunD K "_raised" "_raised" (defArgs s__raised) (defBody s__raised) (defScope s__raised) [] [] f fd) (C_add : Cal P w K mg base "add" 2 ["a", "b"] [] (sp_add K)) (C_compare : Cal P w K mg base "compare" 2 ["a", "b"] [] (sp_compare K)) : FnOk P w K mg base (L2.CX P w) 3 f fd ["gains", "sums", "steps"] (sp__raised K) := by
  refine F.ok sc__raised (fun vs H Q E h => ?_) (fun cdv A outer st H vs Q E hr h => ?_)
  · obtain ⟨_, _, _, _, _, _, _, _, _, _, _, _, _, rfl, _⟩ := h
    rfl
  · obtain ⟨ga, sa, ta, g, n, l, t, D, N, M, s0, fF, uF, rfl, hG, hS, hT, hne, hB, hg, hN, hM, hD0, hD, hNb, hMb, hn, q⟩ := h
    obtain ⟨xs, hga, hA⟩ := id hG
    have lx := ((dpAll_len hA).trans (mD_len _)).trans (tab_len n _)
    have memS : sa ∈ [sa, ta] := List.mem_cons_self ..
    have memT : ta ∈ [sa, ta] := List.mem_cons_of_mem _ (List.mem_singleton.mpr rfl)
    refine ⟨_, PSs.nox (pss_cons (ps_set (i := 3) sc__raised.nd rfl (Or.inl rfl) pe_non) (pss_cons (ps_for PassesOwn.never rfl (pi_enum (by rfl) T.n_enumerate (pa_cons (pv 0) pa_nil)) (pg_tup rfl (pgs_cons (pg_name (i := 4) sc__raised.nd rfl (Or.inl rfl)) (pgs_cons (pg_name (i := 5) sc__raised.nd rfl (Or.inl rfl)) pgs_nil))) (pss_one (ps_for PassesOwn.never rfl (pi_enum (by rfl) T.n_enumerate (pa_cons (pv 5) pa_nil)) (pg_tup rfl (pgs_cons (pg_name (i := 6) sc__raised.nd rfl (Or.inl rfl)) (pgs_cons (pg_name (i := 7) sc__raised.nd rfl (Or.inl rfl)) pgs_nil))) (pss_cons (ps_set (i := 8) sc__raised.nd rfl (Or.inl rfl) (pe_callC C_add hr (by decide) (by rfl) (pa_cons (pv 7) (pa_cons (pe_ix ix_seq (pv 1) (pv 6) (fun _ _ => rfl)) pa_nil)))) (pss_one (ps_if (pt_cmpR op_gt (pe_callC C_compare hr (by decide) (by rfl) (pa_cons (pv 8) (pa_cons (pe_ix ix_seq (pv 1) (pv 4) (fun _ _ => rfl)) pa_nil))) pe_int (nomark _)) (pss_cons (ps_asg (pv 8) (pg_sub (pv 1) (pv 4) set_list)) (pss_cons (ps_asg (pv 6) (pg_sub (pv 2) (pv 4) set_list)) (pss_one (ps_set (i := 3) sc__raised.nd rfl (Or.inl rfl) (pv 4))))) pss_nil)))))) (pss_one (ps_ret (pv 3))))), ?_⟩
    walk_at "un"
    walk_at "go"
    refine forOf ?_
    walk_at "it"
    walk_at "un"
    refine ⟨_, rfl, ga, xs, rfl, .inl (.inl (wo_in hga).2), ?_⟩
    refine FL.enum (xs := xs) (fun i σ' H' => ∃ (o : Option Nat) (s : Nat → Rat) (f u : Nat → Nat) (o1 o2 o3 o4 o5 : Option V), σ' = [some (.ref ga), some (.ref sa), some (.ref ta), some (optV o), o1, o2, o3, o4, o5] ∧ RaI K H sa ta g n l t D (M + i * n * N) (fun k j => k < i ∧ j < n) o H' s f u ∧ (s, f, o) = UbC.outer g n (s0, fF, none) i)
      ⟨none, s0, fF, uF, _, _, _, _, _, rfl, ⟨SameS.refl _, hS, hT, hB.less (fun a b _ _ z => absurd z.1 (Nat.not_lt_zero _)), fun k hk => (hM k hk).mono (by simp)⟩, rfl⟩ (fun i σ' H' ⟨_, _, _, _, _, _, _, _, _, _, R, _⟩ => by
        obtain ⟨h1, h2⟩ := wo_in hga
        exact .inl (.inl (R.sm.get h2 h1))) ?_ ?_
    · rintro i x σ' H1 T' hx ⟨o, s1, f1, u1, o1, o2, o3, o4, o5, rfl, R, eS⟩ nT
      have hi : i < n := by
        have := (List.getElem?_eq_some_iff.mp hx).1
        omega
      obtain ⟨v, e1, h1⟩ := rowAt hA (show i < (tab n fun k => tab n (g k)).length by rw [tab_len]; exact hi)
      rw [hx] at e1
      cases e1
      have erow : (tab n fun k => tab n (g k))[i]'(by rw [tab_len]; exact hi) = tab n (g i) := by
        have := tab_at (s := fun k => tab n (g k)) hi
        rw [List.getElem?_eq_getElem (by rw [tab_len]; exact hi)] at this
        exact Option.some.inj this
      rw [erow] at h1
      obtain ⟨la, ys, rfl, hSy, hDy⟩ := h1.get
      have ly : ys.length = n := by
        rw [frs_len hDy, tab_len]
      have R1 := R.same (sameNew nT (o := .tup [.int (i : Nat), .ref la]))
      walk_at "un"
      refine ⟨T', _, rfl, .inl (.inl upd_same), rfl, _, _, rfl, _, _, rfl, rfl, ?_⟩
      walk_at "un"
      refine forOf ?_
      walk_at "it"
      walk_at "un"
      refine ⟨_, rfl, la, ys, rfl, wo_seqH (UbG.SameT.seq R1.sm.wT hSy), ?_⟩
      have hin : i * n * N + n * N = (i + 1) * n * N := by
        rw [← Nat.add_mul, ← Nat.succ_mul]
      refine FL.enum (xs := ys) (fun j σ' H' => ∃ (o : Option Nat) (s : Nat → Rat) (f u : Nat → Nat) (o3 o4 o5 : Option V), σ' = [some (.ref ga), some (.ref sa), some (.ref ta), some (optV o), some (.int (i : Nat)), some (.ref la), o3, o4, o5] ∧ RaI K H sa ta g n l t D (M + i * n * N + j * N) (fun a b => (a < i ∧ b < n) ∨ (a = i ∧ b < j)) o H' s f u ∧ (s, f, o) = inner g i (UbC.outer g n (s0, fF, none) i) j)
        ⟨o, s1, f1, u1, _, _, _, rfl, R1.wide (by omega) (fun a b _ _ z => z.elim (fun z => z) fun z => absurd z.2 (Nat.not_lt_zero _)), eS⟩ (fun j σ' H' ⟨_, _, _, _, _, _, _, _, R, _⟩ => wo_seqH (UbG.SameT.seq R.sm.wT hSy)) ?_ ?_
      · rintro j y σ' H2 T2 hy ⟨o, s2, f2, u2, o3, o4, o5, rfl, R2, eS2⟩ nT2
        have hj : j < n := by
          have := (List.getElem?_eq_some_iff.mp hy).1
          omega
        obtain ⟨r, hr, hyF⟩ := frs_at hDy hy
        rw [tab_at hj] at hr
        cases hr
        have hgz : Sz D N (g i j) := hN i j hi hj
        have R3 := R2.same (sameNew nT2 (o := .tup [.int (j : Nat), y]))
        have bound : M + i * n * N + (j + 1) * N ≤ M + n * n * N := by
          have h1 : i * n * N + (j + 1) * N ≤ n * n * N := by
            rw [← Nat.add_mul]
            refine Nat.mul_le_mul_right _ ?_
            have : (i + 1) * n ≤ n * n := Nat.mul_le_mul_right _ (by omega)
            rw [Nat.succ_mul] at this
            omega
          omega
        have hjN : (j + 1) * N = j * N + N := Nat.succ_mul ..
        walk_at "un"
        refine ⟨T2, _, rfl, .inl (.inl upd_same), rfl, _, _, rfl, _, _, rfl, rfl, ?_⟩
        walk_at "un"
        walk_at "go"
        refine R3.ce.ix rfl (frsAt (tab_at hj)) fun v1 h1 => ?_
        have hz1 := R3.sz j hj
        have hz2 := R3.sz i hi
        have hyF3 : Fr K (upd H2 T2 (.tup [.int (j : Nat), y])) y (g i j) := Kp.dp (UbG.Dp.monoT R3.sm.wT _ _ hyF)
        refine ⟨_, _, _, _, 100, 100, rfl, hyF3, Kp.dp h1, hgz.bd hD0 hD hNb, hz1.bd hD0 hD (by omega), by decide, fun H4 v4 s4 h4 => ?_⟩
        have R4 := R3.same s4
        walk_at "go"
        refine R4.ce.ix rfl (frsAt (tab_at hi)) fun v5 h5 => ?_
        have hsum := hgz.add hz1
        refine rd_compare h4 (Kp.dp h5) (hsum.bd (n := 100) hD0 hD (by omega)) (hz2.bd (n := 100) hD0 hD (by omega)) (by decide) fun H5 s5 => ?_
        have R5 := R4.same s5
        walk_at "go"
        refine ifD (fun cc => ?_) (fun cc => ?_)
        · have hraise := R5.bf.raise hg hi hj (cmp_gt.mp cc)
          walk_at "go"
          refine R5.ce.setAt (d := frD _) memS rfl (by rw [frsLen, tab_len]; exact hi) (Kp.fr R5.lsS (h4.mono s5)) fun zs hz C6 => ?_
          have t6 : upd H5 sa (.lst (zs.set i v4)) ta = some (.lst ((tab n f2).map natV)) := by
            rw [upd_ne hne.symm]
            exact R5.st
          have s6 : SameS [sa, ta] H (upd H5 sa (.lst (zs.set i v4))) := R5.sm.trans (sameS_upd memS (notTbl hz))
          walk_at "go"
          refine rdSetL t6 (ixN_of (by rw [List.length_map, tab_len]; exact hi)) ?_
          have s7 := s6.trans (sameS_upd (H := upd H5 sa (.lst (zs.set i v4))) (xs := ((tab n f2).map natV).set i (.int (j : Nat))) memT (notTbl t6))
          walk_at "go"
          refine ⟨some i, put s2 i (g i j + s2 j), put f2 i j, put u2 i t, _, _, _, rfl, ⟨s7, ?_, ?_, hraise.less (fun a b _ _ z => ?_), fun k hk => ?_⟩, ?_⟩
          · have := C6.stay (o := .lst (((tab n f2).map natV).set i (.int (j : Nat)))) memT hne
            rw [← tab_set hi, List.map_set]
            exact this
          · rw [upd_same, ← tab_set hi, List.map_set]
            rfl
          · rcases z with z | ⟨z1, z2⟩
            · exact .inl (.inl z)
            · by_cases e : b = j
              · exact .inr ⟨z1, e⟩
              · exact .inl (.inr ⟨z1, by omega⟩)
          · by_cases e : k = i
            · rw [e, put_at]
              exact hsum.mono (by omega)
            · rw [put_ne e]
              exact (R5.sz k hk).mono (by omega)
          · show _ = stp g i j (inner g i (UbC.outer g n (s0, fF, none) i) j)
            rw [← eS2]
            unfold stp
            rw [if_pos (cmp_gt.mp cc)]
        · have hkeep := R5.bf.keep (k := i) (j := j) (Rat.not_lt.mp fun z => cc (cmp_gt.mpr z))
          refine ⟨o, s2, f2, u2, _, _, _, rfl, ⟨R5.sm, R5.ce, R5.st, hkeep.less (fun a b _ _ z => ?_), fun k hk => (R5.sz k hk).mono (by omega)⟩, ?_⟩
          · rcases z with z | ⟨z1, z2⟩
            · exact .inl (.inl z)
            · by_cases e : b = j
              · exact .inr ⟨z1, e⟩
              · exact .inl (.inr ⟨z1, by omega⟩)
          · show _ = stp g i j (inner g i (UbC.outer g n (s0, fF, none) i) j)
            rw [← eS2]
            unfold stp
            rw [if_neg fun z => cc (cmp_gt.mpr z)]
      · rintro σ' H2 ⟨o, s2, f2, u2, o3, o4, o5, rfl, R2, eS2⟩
        refine ⟨o, s2, f2, u2, _, _, _, _, _, rfl, R2.wide ?_ (fun a b _ hb z => ?_), by rw [ly] at eS2; exact eS2⟩
        · rw [ly]
          omega
        · rw [ly]
          by_cases e : a = i
          · exact .inr ⟨e, hb⟩
          · exact .inl ⟨by omega, hb⟩
    · rintro σ' H1 ⟨o, s1, f1, u1, o1, o2, o3, o4, o5, rfl, R, eS⟩
      rw [lx] at R eS
      exact ⟨_, rfl, q _ s1 f1 u1 o R.sm R.ce R.st R.bf eS R.sz⟩
/-! ### _cycle_behind -/
/-- a cycle behind a kind -/
def sp__cycle_behind (K : PySem.W.Frag) : Sp := fun vs H Q E => ∃ (ta : Addr) (f : Nat → Nat) (k n : Nat), vs = [.ref ta, .int (k : Int)] ∧ H ta = some (.lst ((tab n f).map natV)) ∧ (∀ t, t < n → f t < n) ∧ k < n ∧ n ≤ 100 ∧
  ∀ (H' : Hp) (c : Addr) (p : Nat), Same H H' → H c = none → H' c = some (.lst ((tab p fun i => it f i (it f n k)).map natV)) → 1 ≤ p → p ≤ n → it f p (it f n k) = it f n k → (∀ i, 1 ≤ i → i < p → it f i (it f n k) ≠ it f n k) → Q (.ref c) H'
theorem it_at {f : Nat → Nat} {n : Nat} (h : ∀ t, t < n → f t < n) {k : Nat} (hk : k < n) (i : Nat) : (tab n f)[it f i k]? = some (it f (i + 1) k) := tab_at (it_lt h hk i)
theorem it_cyc {f : Nat → Nat} {n : Nat} (h : ∀ t, t < n → f t < n) {k : Nat} (hk : k < n) : ∃ p, 1 ≤ p ∧ p ≤ n ∧ it f p (it f n k) = it f n k := by
  obtain ⟨i, j, hij, hj, e⟩ := pigeon n (fun i => it f i k) fun i _ => it_lt h hk i
  have e' : it f i k = it f j k := e
  refine ⟨j - i, by omega, by omega, ?_⟩
  rw [← it_add]
  have h1 : it f (n + (j - i)) k = it f (n - i) (it f j k) := by
    rw [← it_add]
    congr 1
    omega
  have h2 : it f n k = it f (n - i) (it f i k) := by
    rw [← it_add]
    congr 1
    omega
  rw [h1, h2, e']
theorem atI_last {xs : List V} {v : V} : atI (xs ++ [v]) (-1) = some v := by
  have e : ixN (xs ++ [v]).length (-1) = some xs.length := by
    unfold ixN
    rw [List.length_append]
    simp <;> omega
  unfold atI
  rw [e]
  simp
theorem ok__cycle_behind {f : Addr} {fd : FuncData} (T : Tx K mg) (F : FunD K "_cycle_behind" "_cycle_behind" (defArgs s__cycle_behind) (defBody s__cycle_behind) (defScope s__cycle_behind) [] [] f fd) : FnOk P w K mg base (L2.CX P w) 1 f fd ["steps", "kind"] (sp__cycle_behind K) := by
  refine F.ok sc__cycle_behind (fun vs H Q E h => ?_) (fun cdv A outer st H vs Q E hr h => ?_)
  · obtain ⟨_, _, _, _, rfl, _⟩ := h
    rfl
  · obtain ⟨ta, fF, k, n, rfl, hT, hlt, hk, hn, q⟩ := h
    refine ⟨_, PSs.nox (pss_cons (ps_for PassesOwn.never rfl (pi_list (pv 0)) (pg_name (i := 2) sc__cycle_behind.nd rfl (Or.inl rfl)) (pss_one (ps_set (i := 1) sc__cycle_behind.nd rfl (Or.inl rfl) (pe_ix ix_seq (pv 0) (pv 1) (fun _ _ => rfl))))) (pss_cons (ps_set (i := 3) sc__cycle_behind.nd rfl (Or.inl rfl) (pe_lstN (pa_cons (pv 1) pa_nil))) (pss_cons (ps_while PassesOwn.never (pt_cmpR (op_neA hr.units) (pe_ix ix_seq (pv 0) (pe_ix ix_seq (pv 3) (pe_un un_neg pe_int) (fun _ _ => rfl)) (fun _ _ => rfl)) (pv 1) (nomark _)) (pss_one (ps_expr (pe_bm PySem.F.plainAttrs_list PySem.F.slot_list_append PySem.F.type_list_append mt_append (pv 3) (pa_cons (pe_ix ix_seq (pv 0) (pe_ix ix_seq (pv 3) (pe_un un_neg pe_int) (fun _ _ => rfl)) (fun _ _ => rfl)) pa_nil))))) (pss_one (ps_ret (pv 3)))))), ?_⟩
    walk_at "un"
    refine forOf ?_
    walk_at "it"
    walk_at "un"
    refine ⟨_, rfl, ta, rfl, ⟨_, .inl (.inl hT)⟩, ?_⟩
    refine FL.list (xs := (tab n fF).map natV) (fun i σ' H' => ∃ o1 o2, σ' = [some (.ref ta), some (.int (it fF i k : Nat)), o1, o2] ∧ H' = H) ⟨_, _, rfl, rfl⟩ (fun i σ' H' _ ⟨_, _, _, e⟩ => by rw [e]; exact .inl (.inl hT)) ?_ ?_
    · rintro i x σ' H1 hx ⟨o1, o2, rfl, rfl⟩
      walk_at "un"
      walk_at "go"
      refine rdIxL (.inl (.inl hT)) (at_of rfl (natV_get (it_at hlt hk i))) ?_
      exact ⟨_, _, rfl, rfl⟩
    · rintro σ' H1 ⟨o1, o2, rfl, rfl⟩
      rw [List.length_map, tab_len]
      obtain ⟨p0, hp1, hpn, hp⟩ := it_cyc hlt hk
      have hc := it_lt hlt hk n
      generalize it fF n k = c at *
      walk_at "un"
      walk_at "go"
      refine rdLstH line1 fun H2 a s2 na ha => ?_
      have at1 : ∀ (i : Nat), it fF i c < n := it_lt hlt hc
      have last : ∀ (i : Nat), ((List.range (i + 1)).map fun j => natV (it fF j c)) = ((List.range i).map fun j => natV (it fF j c)) ++ [.int (it fF i c : Nat)] := fun i => by
        rw [List.range_succ, List.map_append]
        rfl
      refine ⟨fun m σ' H' => ∃ i : Nat, σ' = [some (.ref ta), some (.int (c : Nat)), o1, some (.ref a)] ∧ m = p0 - i ∧ i < p0 ∧ (∀ j, 1 ≤ j → j ≤ i → it fF j c ≠ c) ∧ Same H1 H' ∧ H' a = some (.lst ((List.range (i + 1)).map fun j => natV (it fF j c))), ⟨p0, 0, rfl, rfl, by omega, fun j h1 h2 => by omega, s2, ha⟩, ?_⟩
      rintro m σ' H3 ⟨i, rfl, rfl, hi, hno, s3, ha3⟩
      have ix : ∀ {Q' : VK}, Q' (.int (it fF (i + 1) c : Nat)) H3 → (rIx K (.ref a) (.int (-1)) H3 fun y H' => rIx K (.ref ta) y H' Q') := fun q' => by
        rw [last i] at ha3
        refine rdIxL (.inl (.inl ha3)) atI_last ?_
        exact rdIxL (.inl (.inl (s3 _ _ hT))) (at_of rfl (natV_get (it_at hlt hc i))) q'
      dsimp only [tTest]
      walk_at "un"
      walk_at "go"
      refine ix ?_
      walk_at "go"
      refine ifB (fun cc => ?_) (fun cc => ?_)
      · have hne : it fF (i + 1) c ≠ c := fun z => by
          rw [z] at cc
          simp at cc
        have hi1 : i + 1 < p0 := by
          rcases Nat.lt_or_ge (i + 1) p0 with z | z
          · exact z
          · have e : i + 1 = p0 := by omega
            rw [e, hp] at hne
            exact absurd rfl hne
        refine ⟨fun σ2 H' => σ2 = [some (.ref ta), some (.int (c : Nat)), o1, some (.ref a)] ∧ Same H1 H' ∧ H' a = some (.lst ((List.range (i + 2)).map fun j => natV (it fF j c))), ?_, ?_⟩
        · rintro σ2 H' ⟨rfl, s4, ha4⟩
          exact ⟨p0 - (i + 1), by omega, i + 1, rfl, rfl, hi1, fun j h1 h2 => by
            by_cases e : j = i + 1
            · rw [e]
              exact hne
            · exact hno j h1 (by omega), s4, ha4⟩
        · walk_at "un"
          walk_at "go"
          refine ⟨.inl ⟨rfl, _, .inl (.inl ha3)⟩, ?_⟩
          walk_at "go"
          refine ix ?_
          refine rdApp ha3 (by rw [List.length_map, List.length_range]; omega) ⟨rfl, sameLate' s3 na, ?_⟩
          rw [upd_same, last (i + 1)]
      · walk_at "un"
        walk_at "go"
        have hcl : it fF (i + 1) c = c := by
          have : ((it fF (i + 1) c : Nat) : Int) = (c : Int) := by simpa using cc
          omega
        refine q _ _ (i + 1) s3 na ?_ (by omega) (by omega) hcl (fun j h1 h2 => hno j h1 (by omega))
        rw [ha3, tab_map]
        rfl
/-! ### _chains -/
/-- sums of greatest chains to l -/
structure ChOk (g : Nat → Nat → Rat) (n l : Nat) (s : Nat → Rat) : Prop where
  wk : ∀ k, k < n → Wk g n l k (s k)
  fx : ∀ k j, k < n → j < n → g k j + s j ≤ s k
  z : s l = 0
/-- a cycle that gains -/
structure CyOk (g : Nat → Nat → Rat) (n : Nat) (f : Nat → Nat) (c p : Nat) : Prop where
  fl : ∀ k, k < n → f k < n
  lt : c < n
  p1 : 1 ≤ p
  pn : p ≤ n
  e : it f p c = c
  d : ∀ i, 1 ≤ i → i < p → it f i c ≠ c
  gt : 0 < cycS g f c p
/-- greatest chains and a cycle that gains exclude each other -/
theorem cy_ch {g : Nat → Nat → Rat} {n l : Nat} {f : Nat → Nat} {c p : Nat} {s : Nat → Rat} (C : CyOk g n f c p) (S : ChOk g n l s) : False :=
  no_pay (q := fun k => -s k) (fun k j hk hj => by have := S.fx k j hk hj; grind) C.fl C.lt C.e C.gt
theorem wk_app {g : Nat → Nat → Rat} {n k j : Nat} (hk : k < n) (hj : j < n) {a : Nat} {r : Rat} (h : Wk g n k a r) : Wk g n j a (r + g k j) := by
  induction h with
  | base a => exact .step a k _ hk (.base k)
  | step a m r hm w ih =>
    rw [Rat.add_assoc]
    exact .step a m _ hm ih
theorem gain_self (W L : List (List Rat)) (k : Nat) : gainR W L k k = 0 := by
  unfold gainR
  exact Rat.sub_self
def sp__chains (K : PySem.W.Frag) : Sp := fun vs H Q E => ∃ (a b : Addr) (W L : List (List Rat)) (o l : Nat), vs = [.ref a, .ref b, .int (l : Int)] ∧ LL K H a (mD W) ∧ LL K H b (mD L) ∧ Men W L o ∧ l < W.length ∧
  (∀ (H' : Hp) (t s : Addr) (xs : List V) (ss : Nat → Rat), UbG.SameT H H' → SqT K H' t [.ref s, .non] → Nw H s → H' s = some (.lst xs) → DpAll K H' xs ((tab W.length ss).map frD) → ChOk (gainR W L) W.length l ss → (∀ k, k < W.length → Sz dG bG (ss k)) → ss = (passes (gainR W L) W.length l W.length).1 → Q (.ref t) H') ∧
  (∀ (H' : Hp) (t c : Addr) (f : Nat → Nat) (c0 p : Nat), UbG.SameT H H' → SqT K H' t [.non, .ref c] → Nw H c → H' c = some (.lst ((tab p fun i => it f i c0).map natV)) → CyOk (gainR W L) W.length f c0 p → Det (gainR W L) W.length l f c0 → Q (.ref t) H')
theorem ok__chains {f : Addr} {fd : FuncData} (T : Tx K mg) (F : FunD K "_chains" "_chains" (defArgs s__chains) (defBody s__chains) (defScope s__chains) [] [] f fd) (C__cycle_behind : Cal P w K mg base "_cycle_behind" 1 ["steps", "kind"] [] (sp__cycle_behind K)) (C__gain : Cal P w K mg base "_gain" 4 ["worths", "lots", "kind", "other"] [] (sp__gain K)) (C__raised : Cal P w K mg base "_raised" 3 ["gains", "sums", "steps"] [] (sp__raised K)) : FnOk P w K mg base (L2.CX P w) 5 f fd ["worths", "lots", "last"] (sp__chains K) := by
  refine F.ok sc__chains (fun vs H Q E h => ?_) (fun cdv A outer st H vs Q E hr h => ?_)
  · obtain ⟨_, _, _, _, _, _, rfl, _⟩ := h
    rfl
  · obtain ⟨a, b, W, L, o, l, rfl, hW, hL, M, hl, q1, q2⟩ := h
    have m0 := M.pos
    have m1 := M.most
    obtain ⟨xs, ha, hA⟩ := id hW
    have lx := (dpAll_len hA).trans (mD_len W)
    refine ⟨_, PSs.nox (pss_cons (ps_set (i := 3) sc__chains.nd rfl (Or.inr rfl) (pe_listRg rfl (by rfl) T.n_list (prg_1 (by rfl) T.n_range (pe_callB cl_len (by rfl) T.n_len bb_len (pa_cons (pv 0) pa_nil))))) (pss_cons (ps_setLc (i := 4) (own := [("kind", 9)]) (g := gName 9) (tt := tYes) rfl sc__chains.nd rfl rfl (sw_true rfl rfl rfl rfl) (pi_list (pv 3)) (blkOk_by (N := N__chains) (sc := defScope s__chains) (by decide +kernel)) (fun _ _ _ _ _ => (pg_name (i := 9) sc__chains.nd rfl (by first | exact Or.inl rfl | exact Or.inr rfl))) (fun _ _ _ _ _ => pts_nil) (fun _ _ _ _ _ => (by exact (pe_lc (own := [("other", 11)]) (g := gName 11) (tt := tYes) rfl sc__chains.nd (pi_listK (K := K) rfl (pv 3)) (blkOk_by (N := N__chains) (sc := (relS _ (defScope s__chains))) (by decide +kernel)) (fun _ _ _ _ _ => (pg_name (i := 11) sc__chains.nd rfl (by first | exact Or.inl rfl | exact Or.inr rfl))) (fun _ _ _ _ _ => pts_nil) (fun _ _ _ _ _ => (pe_callC C__gain hr (by decide) (by rfl) (pa_cons (pv 0) (pa_cons (pv 1) (pa_cons (pv 9) (pa_cons (pv 11) pa_nil)))))))))) (pss_cons (ps_setLc (i := 5) (own := [("line", 10)]) (g := gName 10) (tt := tYes) rfl sc__chains.nd rfl rfl (sw_true rfl rfl rfl rfl) (pi_list (pv 4)) (blkOk_by (N := N__chains) (sc := defScope s__chains) (by decide +kernel)) (fun _ _ _ _ _ => (pg_name (i := 10) sc__chains.nd rfl (by first | exact Or.inl rfl | exact Or.inr rfl))) (fun _ _ _ _ _ => pts_nil) (fun _ _ _ _ _ => (pe_ix (ix_seqK (K := K) rfl) (pv 10) (pv 2) (fun _ _ => rfl)))) (pss_cons (ps_setLc (i := 7) (own := [("_", 6)]) (g := gName 6) (tt := tYes) rfl sc__chains.nd rfl rfl (sw_true rfl rfl rfl rfl) (pi_list (pv 3)) (blkOk_by (N := N__chains) (sc := defScope s__chains) (by decide +kernel)) (fun _ _ _ _ _ => (pg_name (i := 6) sc__chains.nd rfl (by first | exact Or.inl rfl | exact Or.inr rfl))) (fun _ _ _ _ _ => pts_nil) (fun _ _ _ _ _ => (pv 2))) (pss_cons (ps_set (i := 8) sc__chains.nd rfl (Or.inl rfl) pe_non) (pss_cons (ps_for PassesOwn.never rfl (pi_list (pv 3)) (pg_name (i := 6) sc__chains.nd rfl (Or.inl rfl)) (pss_one (ps_set (i := 8) sc__chains.nd rfl (Or.inl rfl) (pe_callC C__raised hr (by decide) (by rfl) (pa_cons (pv 4) (pa_cons (pv 5) (pa_cons (pv 7) pa_nil))))))) (pss_cons (ps_if (pt_cmpR op_notNo (pv 8) pe_non (nomark _)) (pss_one (ps_ret (pe_tupN (pa_cons pe_non (pa_cons (pe_callC C__cycle_behind hr (by decide) (by rfl) (pa_cons (pv 7) (pa_cons (pv 8) pa_nil))) pa_nil))))) pss_nil) (pss_one (ps_ret (pe_tupN (pa_cons (pv 5) (pa_cons pe_non pa_nil)))))))))))), ?_⟩
    walk_at "un"
    dsimp only [tLstRg, tRg1]
    walk_at "un"
    walk_at "go"
    refine ⟨RgOk.of_le (by decide) (by omega) (by decide) (by omega), fun ev nev => ?_⟩
    rw [lx, rgV_nat]
    have s1 : Same H (upd H ev (.lst ((List.range W.length).map natV))) := sameNew nev
    have hev := upd_same (H := H) (a := ev) (o := .lst ((List.range W.length).map natV))
    revert s1 hev
    generalize upd H ev (.lst ((List.range W.length).map natV)) = H1
    intro s1 hev
    -- the gains
    refine lcOf ?_
    walk_at "it"
    walk_at "un"
    refine ⟨_, rfl, ev, rfl, ⟨_, .inl (.inl hev)⟩, fun D nD => ?_⟩
    refine LC.list (xs := (List.range W.length).map natV) (fun i H' => Same H1 H' ∧ Cel K [D] H' D (mD ((gains W L).take i))) ⟨sameNew nD, Cel.new⟩ (fun i H' _ ⟨e, _⟩ => .inl (.inl (e _ _ hev))) ?_ ?_
    · rintro k x H2 hx ⟨s2, hC⟩
      obtain ⟨rfl, hk⟩ := rng_at hx
      dsimp only [wipe, tYes]
      walk_at "un"
      refine ⟨rfl, iteT ?_⟩
      refine lcOf ?_
      walk_at "it"
      walk_at "un"
      refine ⟨_, rfl, ev, rfl, ⟨_, .inl (.inl (s2 _ _ hev))⟩, fun D2 nD2 => ?_⟩
      refine LC.list (xs := (List.range W.length).map natV) (fun j H' => Same H2 H' ∧ Cel K [D2] H' D2 ((((List.range W.length).map fun j => gainR W L k j).take j).map frD)) ⟨sameNew nD2, Cel.new⟩ (fun i H' _ ⟨e, _⟩ => .inl (.inl (e _ _ (s2 _ _ hev)))) ?_ ?_
      · rintro j y H3 hy ⟨s3, hC3⟩
        obtain ⟨rfl, hj⟩ := rng_at hy
        dsimp only [wipe, tYes]
        walk_at "un"
        refine ⟨rfl, iteT ?_⟩
        walk_at "go"
        have s03 : Same H H3 := (s1.trans s2).trans s3
        refine ⟨a, b, W, L, o, k, j, rfl, hW.mono s03, hL.mono s03, M, hk, hj, fun H4 v s4 hv => ?_⟩
        have hC4 := hC3.mono s4
        have hl : Ls [D2] H4 := fun z hz => by
          rw [List.mem_singleton.mp hz]
          exact hC4.ls
        obtain ⟨acc, e1, e2, hC5⟩ := hC4.turn (d := frD (gainR W L k j)) (List.mem_singleton.mpr rfl) (by rw [List.length_map, List.length_take, List.length_map, List.length_range]; omega) (Kp.fr hl hv)
        refine ⟨acc, e1, e2, sameLate' (s3.trans s4) nD2, ?_⟩
        rw [take_range _ hj, List.map_append]
        exact hC5
      · rintro H3 ⟨s3, hC3⟩
        rw [rng_len, List.take_of_length_le (by rw [List.length_map, List.length_range]; omega)] at hC3
        have hC4 := hC.mono s3
        have hl : Ls [D] H3 := fun z hz => by
          rw [List.mem_singleton.mp hz]
          exact hC4.ls
        have nD2' : D2 ∉ [D] := fun z => by
          obtain ⟨zs, e⟩ := hC.ls
          rw [List.mem_singleton.mp z, e] at nD2
          cases nD2
        obtain ⟨zs, h1, h2⟩ := hC3
        have row := (frsApart hl h1 nD2' (Kp.dpAll h2)).dp
        obtain ⟨acc, e1, e2, hC5⟩ := hC4.turn (d := rowD ((List.range W.length).map fun j => gainR W L k j)) (List.mem_singleton.mpr rfl) (by rw [mD_len, List.length_take]; omega) row
        refine ⟨acc, e1, e2, sameLate' (s2.trans s3) nD, ?_⟩
        unfold gains mD
        rw [take_range _ hk, List.map_append]
        exact hC5
    · rintro H2 ⟨s2, hC⟩
      rw [rng_len, List.take_of_length_le (by unfold gains; rw [List.length_map, List.length_range]; omega)] at hC
      have hG : LL K H2 D (mD (gains W L)) := by
        have := hC.done (S' := []) (fun _ z => absurd z List.not_mem_nil) List.not_mem_nil
        rw [wo_nones (fun _ z => absurd z List.not_mem_nil)] at this
        exact this
      have lG : (gains W L).length = W.length := by
        unfold gains
        rw [List.length_map, List.length_range]
      obtain ⟨gs, hgs, hgD⟩ := id hG
      have lgs := (dpAll_len hgD).trans (mD_len _)
      -- the sums
      refine lcOf ?_
      walk_at "it"
      walk_at "un"
      refine ⟨_, rfl, D, rfl, ⟨_, .inl (.inl hgs)⟩, fun sa nsa => ?_⟩
      refine LC.list (xs := gs) (fun i H' => Same H2 H' ∧ Cel K [sa] H' sa ((((List.range W.length).map fun k => gainR W L k l).take i).map frD)) ⟨sameNew nsa, Cel.new⟩ (fun i H' _ ⟨e, _⟩ => .inl (.inl (e _ _ hgs))) ?_ ?_
      · rintro k x H3 hx ⟨s3, hC3⟩
        have hk : k < W.length := by
          have := (List.getElem?_eq_some_iff.mp hx).1
          omega
        obtain ⟨v, e1, h1⟩ := rowAt hgD (show k < (gains W L).length by omega)
        rw [hx] at e1
        cases e1
        have eG : (gains W L)[k]'(by omega) = (List.range W.length).map fun j => gainR W L k j := by
          unfold gains
          simp
        rw [eG] at h1
        obtain ⟨ra, rs, rfl, hSr, hDr⟩ := (h1.mono s3).get
        obtain ⟨v, e2, hv⟩ := frAt (i := l) hDr (by rw [List.length_map, List.length_range]; exact hl)
        dsimp only [wipe, tYes]
        walk_at "un"
        refine ⟨rfl, iteT ?_⟩
        walk_at "go"
        refine rdIxL hSr (atI_nat e2) ?_
        have hl : Ls [sa] H3 := fun z hz => by
          rw [List.mem_singleton.mp hz]
          exact hC3.ls
        have ev2 : ((List.range W.length).map fun j => gainR W L k j)[l]'(by rw [List.length_map, List.length_range]; assumption) = gainR W L k l := by simp
        rw [ev2] at hv
        obtain ⟨acc, e1, e2, hC5⟩ := hC3.turn (d := frD (gainR W L k l)) (List.mem_singleton.mpr rfl) (by rw [List.length_map, List.length_take, List.length_map, List.length_range]; omega) (Kp.fr hl hv)
        refine ⟨acc, e1, e2, sameLate' s3 nsa, ?_⟩
        rw [take_range _ hk, List.map_append]
        exact hC5
      · rintro H3 ⟨s3, hC3⟩
        rw [lgs, lG, List.take_of_length_le (by rw [List.length_map, List.length_range]; omega)] at hC3
        -- the steps
        refine lcOf ?_
        walk_at "it"
        walk_at "un"
        refine ⟨_, rfl, ev, rfl, ⟨_, .inl (.inl (s3 _ _ (s2 _ _ hev)))⟩, fun ta nta => ?_⟩
        refine LC.list (xs := (List.range W.length).map natV) (fun i H' => Same H3 H' ∧ H' ta = some (.lst ((List.replicate i l).map natV))) ⟨sameNew nta, upd_same⟩ (fun i H' _ ⟨e, _⟩ => .inl (.inl (e _ _ (s3 _ _ (s2 _ _ hev))))) ?_ ?_
        · rintro k x H4 hx ⟨s4, hT4⟩
          obtain ⟨rfl, hk⟩ := rng_at hx
          dsimp only [wipe, tYes]
          walk_at "un"
          refine ⟨rfl, iteT ?_⟩
          walk_at "go"
          refine ⟨_, hT4, by have := small1000 (n := ((List.replicate k l).map natV).length) (by rw [List.length_map, List.length_replicate]; omega); exact this, sameLate' s4 nta, ?_⟩
          rw [upd_same]
          have e : (List.replicate (k + 1) l).map natV = (List.replicate k l).map natV ++ [.int (l : Nat)] := by
            rw [List.replicate_succ', List.map_append]
            rfl
          exact congrArg (fun z => some (HO.lst z)) e.symm
        · rintro H4 ⟨s4, hT4⟩
          rw [rng_len] at hT4
          have s14 : Same H1 H4 := (s2.trans s3).trans s4
          have hev4 := s14 _ _ hev
          have nsaH : H sa = none := by
            cases e : H sa with
            | none => rfl
            | some z =>
              rw [(s1.trans s2) _ _ e] at nsa
              cases nsa
          have ntaH : H ta = none := by
            cases e : H ta with
            | none => rfl
            | some z =>
              rw [((s1.trans s2).trans s3) _ _ e] at nta
              cases nta
          have nta2 : H2 ta = none := by
            cases e : H2 ta with
            | none => rfl
            | some z =>
              rw [s3 _ _ e] at nta
              cases nta
          have hne : sa ≠ ta := fun z => by
            obtain ⟨zs, e⟩ := hC3.ls
            rw [z, nta] at e
            cases e
          have hG4 : LL K (wo [sa, ta] H4) D (mD (gains W L)) := by
            have h0 : LL K (wo [sa, ta] H2) D (mD (gains W L)) := by
              rw [wo_nones]
              · exact hG
              · intro z hz
                rcases List.mem_cons.mp hz with e | e
                · rw [e]
                  exact nsa
                · rw [List.mem_singleton.mp e]
                  exact nta2
            exact h0.monoS (sameS (s3.trans s4))
          have hL4 : Ls [sa, ta] H4 := fun z hz => by
            rcases List.mem_cons.mp hz with e | e
            · rw [e]
              exact (hC3.mono s4).ls
            · rw [List.mem_singleton.mp e]
              exact ⟨_, hT4⟩
          have hC4 : Cel K [sa, ta] H4 sa (((List.range W.length).map fun k => gainR W L k l).map frD) := by
            obtain ⟨zs, h1, h2⟩ := hC3.mono s4
            exact ⟨zs, h1, Kp.ofNoLAll hL4 _ _ (noL_frs _) (Kp.dpAll h2)⟩
          have evN : ev ∉ [sa, ta] := fun z => by
            rcases List.mem_cons.mp z with e | e
            · rw [← e] at nsa
              rw [s2 _ _ hev] at nsa
              cases nsa
            · have e := List.mem_singleton.mp e
              rw [← e] at nta2
              rw [s2 _ _ hev] at nta2
              cases nta2
          -- the passes
          refine forOf ?_
          walk_at "it"
          walk_at "un"
          refine ⟨_, rfl, ev, rfl, ⟨_, .inl (.inl hev4)⟩, ?_⟩
          have hrep : List.replicate W.length l = tab W.length (fun _ => l) := by
            unfold tab
            rw [List.map_const', List.length_range]
          rw [hrep] at hT4
          refine FL.list (xs := (List.range W.length).map natV) (fun i σ' H' => ∃ (o' : Option Nat) (s : Nat → Rat) (fF uF : Nat → Nat) (o1 : Option V), σ' = [some (.ref a), some (.ref b), some (.int (l : Nat)), some (.ref ev), some (.ref D), some (.ref sa), o1, some (.ref ta), some (optV o'), none, none, none] ∧
              SameS [sa, ta] H4 H' ∧ Cel K [sa, ta] H' sa ((tab W.length s).map frD) ∧ H' ta = some (.lst ((tab W.length fF).map natV)) ∧ (∀ k, k < W.length → Sz dG (nG + i * (W.length * W.length * nG)) (s k)) ∧ BF (gainR W L) W.length l (i + 1) s fF uF (fun _ _ => False) none ∧ (1 ≤ i → BF (gainR W L) W.length l i s fF uF (fun k j => k < W.length ∧ j < W.length) o') ∧ (s, fF, o') = passes (gainR W L) W.length l i)
            ⟨none, fun k => gainR W L k l, fun _ => l, fun _ => 0, _, rfl, SameS.refl _, hC4, hT4, fun k hk => ?_, BF.start (gain_self W L) hl, fun z => by omega, rfl⟩ (fun i σ' H' _ ⟨_, _, _, _, _, _, e, _⟩ => .inl (.inl (e.get hev4 evN))) ?_ ?_
          · exact (sz_gain M hk hl).mono (by omega)
          · rintro i x σ' H5 hx ⟨o', s, fF, uF, o1, rfl, S5, C5, T5, Z5, B5, _, E5⟩
            obtain ⟨rfl, hi⟩ := rng_at hx
            walk_at "un"
            walk_at "go"
            refine ⟨D, sa, ta, gainR W L, W.length, l, i + 1, dG, nG, _, s, fF, uF, rfl, hG4.monoS S5, C5, T5, hne, B5, gain_self W L, fun k j hk hj => sz_gain M hk hj, Z5, by decide, by decide, by decide, ?_, by omega, fun H6 s6 f6 u6 o6 S6 C6 T6 B6 E6 Z6 => ?_⟩
            · have h1 : W.length * W.length * nG ≤ 4 * 4 * nG := Nat.mul_le_mul_right _ (Nat.mul_le_mul m1 m1)
              have h2 : i * (W.length * W.length * nG) ≤ 4 * (4 * 4 * nG) := Nat.mul_le_mul (by omega) h1
              have h3 : nG + 4 * (4 * 4 * nG) + 4 * 4 * nG < 2 ^ 100 := by decide
              omega
            · refine ⟨o6, s6, f6, u6, _, rfl, S5.trans S6, C6, T6, fun k hk => (Z6 k hk).mono ?_, B6.next (fun k j hk hj => ⟨hk, hj⟩), fun _ => B6, ?_⟩
              · rw [Nat.succ_mul]
                omega
              · show _ = UbC.outer (gainR W L) W.length ((passes (gainR W L) W.length l i).1, (passes (gainR W L) W.length l i).2.1, none) W.length
                rw [← E5]
                exact E6
          · rintro σ' H5 ⟨o', s, fF, uF, o1, rfl, S5, C5, T5, Z5, _, B5, E5⟩
            rw [rng_len] at Z5 B5 E5
            have B5 := B5 m0
            have sT : UbG.SameT H H5 := SameS.toT S5 (UbG.sameT (s1.trans s14)) fun z hz => by
              rcases List.mem_cons.mp hz with e | e
              · rw [e]
                exact Nw.of nsaH
              · rw [List.mem_singleton.mp e]
                exact Nw.of ntaH
            obtain ⟨zs, hz1, hz2⟩ := C5
            cases o' with
            | none =>
              walk_at "un"
              dsimp only [optV]
              walk_at "gv"
              refine ⟨rfl, ?_⟩
              walk_at "gv"
              refine ⟨line2, fun t nt => ?_⟩
              have F5 := B5.fix fun k j hk hj => ⟨hk, hj⟩
              refine q1 _ _ sa zs s (sT.trans (UbG.sameT (sameNew nt))) (.inl (.inl upd_same)) (Nw.of nsaH) (sameNew nt _ _ hz1) (Dp.monoAll (sameNew nt) _ _ (Kp.dpAll hz2)) ⟨B5.wk, F5, B5.zero hl F5⟩ (fun k hk => (Z5 k hk).mono ?_) (congrArg Prod.fst E5)
              have h1 : W.length * W.length * nG ≤ 4 * 4 * nG := Nat.mul_le_mul_right _ (Nat.mul_le_mul m1 m1)
              have h2 : W.length * (W.length * W.length * nG) ≤ 4 * (4 * 4 * nG) := Nat.mul_le_mul (by omega) h1
              unfold bG
              exact Nat.add_le_add_left h2 nG
            | some k =>
              have hk := (B5.fnd.2 k rfl).1
              walk_at "un"
              dsimp only [optV]
              walk_at "gv"
              refine ⟨rfl, ?_⟩
              walk_at "gv"
              refine ifBT (by rw [decide_eq_false (by intro z; cases z)]; rfl) ?_
              walk_at "go"
              refine ⟨ta, fF, k, W.length, rfl, T5, B5.fl, hk, by omega, fun H6 c p s6 nc hc p1 pn pe pd => ?_⟩
              refine ⟨line2, fun t nt => ?_⟩
              exact q2 _ _ c fF _ p (sT.trans (UbG.sameT (s6.trans (sameNew nt)))) (.inl (.inl upd_same)) ((Nw.of nc).back sT) (sameNew nt _ _ hc) ⟨B5.fl, it_lt B5.fl hk _, p1, pn, pe, pd, B5.gains p1 pe⟩ ⟨s, k, E5.symm, rfl⟩
/-! ### highest_payments -/
def sp_highest_payments (K : PySem.W.Frag) : Sp := fun vs H Q E => ∃ (a b : Addr) (W L : List (List Rat)) (o : Nat), vs = [.ref a, .ref b] ∧ LL K H a (mD W) ∧ LL K H b (mD L) ∧ Men W L o ∧ GxR.TabG H (pCheck K) ∧
  (∀ (H' : Hp) (t s : Addr) (xs : List V) (ss : Nat → Rat), UbG.SameT H H' → SqT K H' t [.str "payments", .ref s] → Nw H t → Nw H s → H' s = some (.lst xs) → DpAll K H' xs ((tab W.length fun k => -ss k).map frD) → ChOk (gainR W L) W.length 0 ss → (∀ k, k < W.length → Sz dG bG (-ss k)) → Q (.ref t) H') ∧
  (∀ (H' : Hp) (t c : Addr) (f : Nat → Nat) (c0 p : Nat), UbG.SameT H H' → SqT K H' t [.str "cycle", .ref c] → Nw H t → Nw H c → H' c = some (.lst ((tab p fun i => it f i c0).map natV)) → CyOk (gainR W L) W.length f c0 p → Det (gainR W L) W.length 0 f c0 → Q (.ref t) H')
theorem ok_highest_payments {f : Addr} {fd : FuncData} (T : Tx K mg) (F : FunD K "highest_payments" "highest_payments" (defArgs s_highest_payments) (defBody s_highest_payments) (defScope s_highest_payments) [] [] f fd) (C__chains : Cal P w K mg base "_chains" 5 ["worths", "lots", "last"] [] (sp__chains K)) (C__check_menu : Cal P w K mg base "_check_menu" 2 ["worths", "lots"] [] (sp__check_menu K)) (C_negate : Cal P w K mg base "negate" 1 ["a"] [] (sp_negate K)) : FnOk P w K mg base (L2.CX P w) 6 f fd ["worths", "lots"] (sp_highest_payments K) := by
  refine F.ok sc_highest_payments (fun vs H Q E h => ?_) (fun cdv A outer st H vs Q E hr h => ?_)
  · obtain ⟨_, _, _, _, _, rfl, _⟩ := h
    rfl
  · obtain ⟨a, b, W, L, o, rfl, hW, hL, M, hT, q1, q2⟩ := h
    have m0 := M.pos
    have m1 := M.most
    refine ⟨_, PSs.nox (pss_cons (ps_expr (pe_callC C__check_menu hr (by decide) (by rfl) (pa_cons (pv 0) (pa_cons (pv 1) pa_nil)))) (pss_cons (ps_asg (pe_callC C__chains hr (by decide) (by rfl) (pa_cons (pv 0) (pa_cons (pv 1) (pa_cons pe_int pa_nil)))) (pg_tup rfl (pgs_cons (pg_name (i := 2) sc_highest_payments.nd rfl (Or.inl rfl)) (pgs_cons (pg_name (i := 3) sc_highest_payments.nd rfl (Or.inl rfl)) pgs_nil)))) (pss_cons (ps_if (pt_cmpR op_notNo (pv 3) pe_non (nomark _)) (pss_one (ps_ret (pe_tupN (pa_cons pe_str (pa_cons (pv 3) pa_nil))))) pss_nil) (pss_one (ps_ret (pe_tupN (pa_cons pe_str (pa_cons (pe_lc (own := [("amount", 4)]) (g := gName 4) (tt := tYes) rfl sc_highest_payments.nd (pi_list (pv 2)) (blkOk_by (N := N_highest_payments) (sc := defScope s_highest_payments) (by decide +kernel)) (fun _ _ _ _ _ => (pg_name (i := 4) sc_highest_payments.nd rfl (by first | exact Or.inl rfl | exact Or.inr rfl))) (fun _ _ _ _ _ => pts_nil) (fun _ _ _ _ _ => (pe_callC C_negate hr (by decide) (by rfl) (pa_cons (pv 4) pa_nil)))) pa_nil)))))))), ?_⟩
    walk_at "un"
    walk_at "go"
    refine ⟨a, b, W, L, o, rfl, hW, hL, M, hT, fun H1 s1 => ?_⟩
    walk_at "go"
    refine ⟨a, b, W, L, o, 0, rfl, hW.monoT s1, hL.monoT s1, M, by omega, fun H2 t s xs ss s2 ht ns hs hD hch hz _ => ?_, fun H2 t c fF c0 p s2 ht nc hc hcy hdet => ?_⟩
    · walk_at "un"
      refine ⟨t, _, rfl, ht, rfl, _, _, rfl, _, _, rfl, rfl, ?_⟩
      walk_at "gv"
      refine ⟨rfl, ?_⟩
      walk_at "gv"
      refine lcOf ?_
      walk_at "it"
      walk_at "un"
      refine ⟨_, rfl, s, rfl, ⟨_, .inl (.inl hs)⟩, fun D nD => ?_⟩
      have lxs := (frs_len hD).trans (tab_len _ _)
      have ls : (tab W.length ss).length = W.length := tab_len _ _
      have s02 : UbG.SameT H H2 := s1.trans s2
      refine LC.list (xs := xs) (fun i H' => Same H2 H' ∧ Cel K [D] H' D ((((tab W.length ss).map (- ·)).take i).map frD)) ⟨sameNew nD, Cel.new⟩ (fun i H' _ ⟨e, _⟩ => .inl (.inl (e _ _ hs))) ?_ ?_
      · rintro i x H3 hx ⟨s3, hC⟩
        obtain ⟨r, hr, hxF⟩ := frs_at hD hx
        dsimp only [wipe, tYes]
        walk_at "un"
        refine ⟨rfl, iteT ?_⟩
        walk_at "go"
        refine ⟨x, r, rfl, hxF.mono s3, fun H4 v s4 hv => ?_⟩
        have hC4 := hC.mono s4
        have hl : Ls [D] H4 := fun z hz => by
          rw [List.mem_singleton.mp hz]
          exact hC4.ls
        obtain ⟨acc, e1, e2, hC5⟩ := hC4.turn (d := frD (-r)) (List.mem_singleton.mpr rfl) (by rw [List.length_map, List.length_take, List.length_map]; omega) (Kp.fr hl hv)
        refine ⟨acc, e1, e2, sameLate' (s3.trans s4) nD, ?_⟩
        have e : ((tab W.length ss).map (- ·)).take (i + 1) = ((tab W.length ss).map (- ·)).take i ++ [-r] := by
          rw [List.take_add_one, List.getElem?_map, hr]
          rfl
        rw [e, List.map_append]
        exact hC5
      · rintro H3 ⟨s3, hC⟩
        rw [List.take_of_length_le (by rw [List.length_map]; omega)] at hC
        obtain ⟨zs, h1, h2⟩ := hC
        refine ⟨line2, fun t2 nt => ?_⟩
        have nD1 : Nw H D := (Nw.of nD).back s02
        rw [tab_map] at h2
        exact q1 _ _ D zs ss (s02.trans (UbG.sameT (s3.trans (sameNew nt)))) (.inl (.inl upd_same)) ((Nw.of nt).back (s02.trans (UbG.sameT s3))) nD1 (sameNew nt _ _ h1) (Dp.monoAll (sameNew nt) _ _ (Kp.dpAll h2)) hch fun k hk => (hz k hk).neg
    · have nc0 : Nw H c := nc.back s1
      walk_at "un"
      refine ⟨t, _, rfl, ht, rfl, _, _, rfl, _, _, rfl, rfl, ?_⟩
      walk_at "gv"
      refine ⟨rfl, ?_⟩
      walk_at "gv"
      refine ⟨_, rfl, line2, fun t2 nt => ?_⟩
      exact q2 _ _ c fF c0 p ((s1.trans s2).trans (UbG.sameT (sameNew nt))) (.inl (.inl upd_same)) ((Nw.of nt).back (s1.trans s2)) nc0 (sameNew nt _ _ hc) hcy hdet
/-! ### spread -/
/-- the least and the greatest difference -/
abbrev pS (W L : List (List Rat)) (l k : Nat) : Rat := (passes (gainR W L) W.length l W.length).1 k
def sp_spread (K : PySem.W.Frag) : Sp := fun vs H Q E => ∃ (a b : Addr) (W L : List (List Rat)) (o i j : Nat), vs = [.ref a, .ref b, .int (i : Int), .int (j : Int)] ∧ LL K H a (mD W) ∧ LL K H b (mD L) ∧ Men W L o ∧ i < W.length ∧ j < W.length ∧ GxR.TabG H (pCheck K) ∧
  (∀ (H' : Hp) (t : Addr), ChOk (gainR W L) W.length i (pS W L i) → ChOk (gainR W L) W.length j (pS W L j) → (∀ k, k < W.length → Bd 90 (pS W L i k) ∧ Bd 90 (pS W L j k)) → UbG.SameT H H' → Dp K H' (.ref t) (.tuple [frD (pS W L j i), frD (-(pS W L i j))]) → Q (.ref t) H') ∧
  ∀ (H' : Hp) (f : Nat → Nat) (c p : Nat), CyOk (gainR W L) W.length f c p → UbG.SameT H H' → E (.ref (He.ga K "NotHonest")) none H'
theorem ok_spread {f : Addr} {fd : FuncData} (T : Tx K mg) (F : FunD K "spread" "spread" (defArgs s_spread) (defBody s_spread) (defScope s_spread) [] [] f fd) (C__chains : Cal P w K mg base "_chains" 5 ["worths", "lots", "last"] [] (sp__chains K)) (C__check_menu : Cal P w K mg base "_check_menu" 2 ["worths", "lots"] [] (sp__check_menu K)) (C_negate : Cal P w K mg base "negate" 1 ["a"] [] (sp_negate K)) : FnOk P w K mg base (L2.CX P w) 6 f fd ["worths", "lots", "first", "second"] (sp_spread K) := by
  refine F.ok sc_spread (fun vs H Q E h => ?_) (fun cdv A outer st H vs Q E hr h => ?_)
  · obtain ⟨_, _, _, _, _, _, _, rfl, _⟩ := h
    rfl
  · obtain ⟨a, b, W, L, o, i, j, rfl, hW, hL, M, hi, hj, hT, q1, q2⟩ := h
    refine ⟨_, (pss_cons (ps_expr (pe_callC C__check_menu hr (by decide) (by rfl) (pa_cons (pv 0) (pa_cons (pv 1) pa_nil)))) (pss_cons (ps_asg (pe_callC C__chains hr (by decide) (by rfl) (pa_cons (pv 0) (pa_cons (pv 1) (pa_cons (pv 3) pa_nil)))) (pg_tup rfl (pgs_cons (pg_name (i := 4) sc_spread.nd rfl (Or.inl rfl)) (pgs_cons (pg_name (i := 5) sc_spread.nd rfl (Or.inl rfl)) pgs_nil)))) (pss_cons (ps_if (pt_cmpR op_notNo (pv 5) pe_non (nomark _)) (pss_one (ps_raise0 rfl T.e_NotHonest (takes_of rfl rfl rfl rfl) (by rfl))) pss_nil) (pss_cons (ps_asg (pe_callC C__chains hr (by decide) (by rfl) (pa_cons (pv 0) (pa_cons (pv 1) (pa_cons (pv 2) pa_nil)))) (pg_tup rfl (pgs_cons (pg_name (i := 6) sc_spread.nd rfl (Or.inl rfl)) (pgs_cons (pg_name (i := 7) sc_spread.nd rfl (Or.inl rfl)) pgs_nil)))) (pss_one (ps_ret (pe_tupN (pa_cons (pe_ix ix_seq (pv 4) (pv 2) (fun _ _ => rfl)) (pa_cons (pe_callC C_negate hr (by decide) (by rfl) (pa_cons (pe_ix ix_seq (pv 6) (pv 3) (fun _ _ => rfl)) pa_nil)) pa_nil))))))))), ?_⟩
    walk_at "un"
    walk_at "go"
    refine ⟨a, b, W, L, o, rfl, hW, hL, M, hT, fun H1 s1 => ?_⟩
    walk_at "go"
    refine ⟨a, b, W, L, o, j, rfl, hW.monoT s1, hL.monoT s1, M, hj, fun H2 t s xs ss s2 ht ns hs hD hch hz hp => ?_, fun H2 t c fF c0 p s2 ht nc hc hcy _ => ?_⟩
    · have s02 := s1.trans s2
      walk_at "un"
      refine ⟨t, _, rfl, ht, rfl, _, _, rfl, _, _, rfl, rfl, ?_⟩
      walk_at "gv"
      refine ⟨rfl, ?_⟩
      walk_at "gv"
      refine ⟨a, b, W, L, o, i, rfl, hW.monoT s02, hL.monoT s02, M, hi, fun H3 t3 s3 xs3 ss3 s23 ht3 ns3 hs3 hD3 hch3 hz3 hp3 => ?_, fun H3 t3 c fF c0 p s23 ht3 nc hc hcy _ => (cy_ch hcy hch).elim⟩
      refine ⟨t3, _, rfl, ht3, rfl, _, _, rfl, _, _, rfl, rfl, ?_⟩
      have hsF : Frs K H3 (.ref s) (tab W.length ss) := UbG.Dp.monoT s23 _ _ (.lst (.inl (.inl hs)) hD)
      have hs3F : Frs K H3 (.ref s3) (tab W.length ss3) := .lst (.inl (.inl hs3)) hD3
      obtain ⟨sa, sx, e1, hsS, hsD⟩ := hsF.get
      cases e1
      obtain ⟨sb, sy, e2, hsS3, hsD3⟩ := hs3F.get
      cases e2
      have at1 : ∀ {s : Nat → Rat} {k : Nat} (h : k < (tab W.length s).length), (tab W.length s)[k] = s k := fun {s} {k} h => by
        have h' : k < W.length := by rw [tab_len] at h; exact h
        have := tab_at (s := s) h'
        rw [List.getElem?_eq_getElem h] at this
        exact Option.some.inj this
      obtain ⟨v1, e1, h1⟩ := frAt hsD (show i < (tab W.length ss).length by rw [tab_len]; exact hi)
      obtain ⟨v2, e2, h2⟩ := frAt hsD3 (show j < (tab W.length ss3).length by rw [tab_len]; exact hj)
      rw [at1] at h1 h2
      walk_at "un"
      walk_at "go"
      refine rdIxL hsS (atI_nat e1) ?_
      walk_at "go"
      refine rdIxL hsS3 (atI_nat e2) ?_
      refine ⟨_, _, rfl, h2, fun H4 v4 s4 h4 => ?_⟩
      refine rdTupD (K := K) (ds := [frD (ss i), frD (-(ss3 j))]) (.cons (h1.mono s4) (.cons h4 .nil)) line2 fun H5 v5 s5 h5 => ?_
      subst hp hp3
      have hv5 : ∃ t5, v5 = .ref t5 := by
        cases h5 with
        | tup _ _ => exact ⟨_, rfl⟩
      obtain ⟨t5, rfl⟩ := hv5
      exact q1 _ t5 hch3 hch (fun k hk => ⟨(hz3 k hk).bd (by decide) (by decide) (by unfold bG; decide), (hz k hk).bd (by decide) (by decide) (by unfold bG; decide)⟩) ((s02.trans s23).trans (UbG.sameT (s4.trans s5))) h5
    · walk_at "un"
      refine ⟨t, _, rfl, ht, rfl, _, _, rfl, _, _, rfl, rfl, ?_⟩
      walk_at "gv"
      refine ⟨rfl, ?_⟩
      walk_at "gv"
      exact q2 _ fF c0 p hcy (s1.trans s2)
/-! ### _law_gain -/
def sp__law_gain (K : PySem.W.Frag) : Sp := fun vs H Q E => ∃ (a b : Addr) (W L : List (List Rat)) (o k j : Nat), vs = [.ref a, .ref b, .int (k : Int), .int (j : Int)] ∧ LL K H a (mD W) ∧ LL K H b (mD L) ∧ Men W L o ∧ k < W.length ∧ j < W.length ∧
  ∀ H' v, Same H H' → Fr K H' v (gainR W L k j) → Q v H'
theorem ok__law_gain {f : Addr} {fd : FuncData} (T : Tx K mg) (F : FunD K "_law_gain" "_law_gain" (defArgs s__law_gain) (defBody s__law_gain) (defScope s__law_gain) [] [] f fd) (C__law_dot : Cal P w K mg base "_law_dot" 3 ["first", "second"] [] (sp__law_dot K)) (C__law_plus : Cal P w K mg base "_law_plus" 2 ["a", "b"] [] (sp__law_plus K)) (C__law_times : Cal P w K mg base "_law_times" 2 ["a", "b"] [] (sp__law_times K)) : FnOk P w K mg base (L2.CX P w) 4 f fd ["worths", "lots", "kind", "other"] (sp__law_gain K) := by
  refine F.ok sc__law_gain (fun vs H Q E h => ?_) (fun cdv A outer st H vs Q E hr h => ?_)
  · obtain ⟨_, _, _, _, _, _, _, rfl, _⟩ := h
    rfl
  · obtain ⟨a, b, W, L, o, k, j, rfl, ⟨xs, ha, hA⟩, ⟨ys, hb, hB⟩, M, hk, hj, q⟩ := h
    have m2 := M.len
    obtain ⟨vk, ek, hvk⟩ := rowAt hA hk
    obtain ⟨vj, ej, hvj⟩ := rowAt hB (show j < L.length by omega)
    obtain ⟨vl, el, hvl⟩ := rowAt hB (show k < L.length by omega)
    have o1 := M.w _ (List.getElem_mem hk)
    have o2 := M.om
    refine ⟨_, PSs.nox (pss_one (ps_ret (pe_callC C__law_plus hr (by decide) (by rfl) (pa_cons (pe_callC C__law_dot hr (by decide) (by rfl) (pa_cons (pe_ix ix_seq (pv 0) (pv 2) (fun _ _ => rfl)) (pa_cons (pe_ix ix_seq (pv 1) (pv 3) (fun _ _ => rfl)) pa_nil))) (pa_cons (pe_callC C__law_times hr (by decide) (by rfl) (pa_cons (pe_tupN (pa_cons (pe_un un_neg pe_int) (pa_cons pe_int pa_nil))) (pa_cons (pe_callC C__law_dot hr (by decide) (by rfl) (pa_cons (pe_ix ix_seq (pv 0) (pv 2) (fun _ _ => rfl)) (pa_cons (pe_ix ix_seq (pv 1) (pv 2) (fun _ _ => rfl)) pa_nil))) pa_nil))) pa_nil))))), ?_⟩
    walk_at "un"
    walk_at "go"
    refine rdIxL (.inl (.inl ha)) (atI_nat ek) ?_
    walk_at "go"
    refine rdIxL (.inl (.inl hb)) (atI_nat ej) ?_
    refine ⟨_, _, _, _, 7, rfl, hvk, hvj, M.wB hk, M.lB (by omega), by rw [o1]; omega, by omega, fun H1 v1 s1 h1 => ?_⟩
    walk_at "go"
    rename_i H2 v2 s2 g2
    have g2 : Fr K H2 v2 (-1) := g2
    have s02 := s1.trans s2
    refine rdIxL (.inl (.inl (s02 _ _ ha))) (atI_nat ek) ?_
    walk_at "go"
    refine rdIxL (.inl (.inl (s02 _ _ hb))) (atI_nat el) ?_
    refine ⟨_, _, _, _, 7, rfl, hvk.mono s02, hvl.mono s02, M.wB hk, M.lB (by omega), by rw [o1]; omega, by omega, fun H3 v3 s3 h3 => ?_⟩
    refine rd_timesM (g2.mono s3) h3 (bd_dot M hk (by omega)) (by decide) fun H4 v4 s4 h4 => ?_
    refine ⟨_, _, _, _, 60, 60, rfl, ((h1.mono s2).mono s3).mono s4, h4, bd_dot M hk (by omega), bd_neg (bd_dot M hk (by omega)), by decide, fun H5 v5 s5 h5 => ?_⟩
    refine q _ _ (((s02.trans s3).trans s4).trans s5) ?_
    unfold gainR
    rw [getD_at hk, getD_at (show j < L.length by omega), getD_at (show k < L.length by omega)]
    rw [← Rat.sub_eq_add_neg] at h5
    exact h5
/-! ### _law_honest -/
def sp__law_honest (K : PySem.W.Frag) : Sp := fun vs H Q E => ∃ (a b : Addr) (u : V) (W L : List (List Rat)) (o : Nat) (ps : List Rat), vs = [.ref a, .ref b, u] ∧ LL K H a (mD W) ∧ LL K H b (mD L) ∧ Men W L o ∧ Frs K H u ps ∧ (∀ r ∈ ps, Bd 200 r) ∧
  (HonP W L ps → ∀ H', Same H H' → Q (.bl true) H') ∧ (¬HonP W L ps → ∀ H', Same H H' → Q (.bl false) H')
theorem ok__law_honest {f : Addr} {fd : FuncData} (T : Tx K mg) (F : FunD K "_law_honest" "_law_honest" (defArgs s__law_honest) (defBody s__law_honest) (defScope s__law_honest) [] [] f fd) (C__law_gain : Cal P w K mg base "_law_gain" 4 ["worths", "lots", "kind", "other"] [] (sp__law_gain K)) (C__law_less : Cal P w K mg base "_law_less" 1 ["a", "b"] [] (sp__law_less K)) (C__law_minus : Cal P w K mg base "_law_minus" 3 ["a", "b"] [] (sp__law_minus K)) : FnOk P w K mg base (L2.CX P w) 5 f fd ["worths", "lots", "payments"] (sp__law_honest K) := by
  refine F.ok sc__law_honest (fun vs H Q E h => ?_) (fun cdv A outer st H vs Q E hr h => ?_)
  · obtain ⟨_, _, _, _, _, _, _, rfl, _⟩ := h
    rfl
  · obtain ⟨a, b, u, W, L, o, ps, rfl, hW, hL, M, hu, hbp, q1, q2⟩ := h
    refine ⟨_, PSs.nox (pss_cons (ps_if ((pw_or (pt_cmpR (op_neA hr.units) (pe_callB cl_len (by rfl) T.n_len bb_len (pa_cons (pv 2) pa_nil)) (pe_callB cl_len (by rfl) T.n_len bb_len (pa_cons (pv 0) pa_nil)) (nomark _)) (pw_or1 (pt_cmpR (op_neA hr.units) (pe_ix ix_seq (pv 2) pe_int (fun _ _ => rfl)) (pe_tupN (pa_cons pe_int (pa_cons pe_int pa_nil))) (nomark _))))).pt (pss_one (ps_ret pe_bl)) pss_nil) (pss_cons (ps_for PassesOwn.never rfl (pi_range1 (by rfl) T.n_range (pa_cons (pe_callB cl_len (by rfl) T.n_len bb_len (pa_cons (pv 0) pa_nil)) pa_nil)) (pg_name (i := 3) sc__law_honest.nd rfl (Or.inl rfl)) (pss_one (ps_for PassesOwn.never rfl (pi_range1 (by rfl) T.n_range (pa_cons (pe_callB cl_len (by rfl) T.n_len bb_len (pa_cons (pv 0) pa_nil)) pa_nil)) (pg_name (i := 4) sc__law_honest.nd rfl (Or.inl rfl)) (pss_one (ps_if (pt_val (pe_callC C__law_less hr (by decide) (by rfl) (pa_cons (pe_callC C__law_minus hr (by decide) (by rfl) (pa_cons (pe_ix ix_seq (pv 2) (pv 4) (fun _ _ => rfl)) (pa_cons (pe_ix ix_seq (pv 2) (pv 3) (fun _ _ => rfl)) pa_nil))) (pa_cons (pe_callC C__law_gain hr (by decide) (by rfl) (pa_cons (pv 0) (pa_cons (pv 1) (pa_cons (pv 3) (pa_cons (pv 4) pa_nil))))) pa_nil)))) (pss_one (ps_ret pe_bl)) pss_nil))))) (pss_one (ps_ret pe_bl)))), ?_⟩
    obtain ⟨xs, ha, hA⟩ := id hW
    obtain ⟨c, zs, rfl, hS, hD⟩ := hu.get
    have lz := frs_len hD
    have lx := (dpAll_len hA).trans (mD_len W)
    have m0 := M.pos
    have m1 := M.most
    walk_at "un"
    walk_at "go"
    by_cases hlen : ps.length = W.length
    · refine ifNe (by omega) ?_
      obtain ⟨v0, e0, h0⟩ := frAt hD (show 0 < ps.length by omega)
      walk_at "go"
      refine rdIxL hS (atI_nat (j := 0) e0) ?_
      walk_at "go"
      rename_i H2 t2 s2 g2
      have g2 : Fr K H2 t2 0 := g2
      refine rdNeFr (h0.mono s2) g2 ?_
      walk_at "go"
      by_cases hz : ps[0] = 0
      · refine ifNe hz ?_
        refine forOf ?_
        walk_at "it"
        walk_at "un"
        walk_at "go"
        refine rdLenL (.inl (.inl (s2 _ _ ha))) ?_
        refine ⟨_, rfl, by omega, by omega, ?_⟩
        rw [show ((xs.length : Nat) : Int).toNat = W.length by omega]
        refine FL.range (n := W.length) (fun i σ' H' => ∃ o1 o2, σ' = [some (.ref a), some (.ref b), some (.ref c), o1, o2] ∧ Same H H' ∧ ∀ k, k < i → ∀ j, j < W.length → gainR W L k j ≤ ps.getD j 0 - ps.getD k 0) ⟨_, _, rfl, s2, fun k hk => absurd hk (Nat.not_lt_zero _)⟩ ?_ ?_
        · rintro k σ' H3 hk ⟨o1, o2, rfl, s3, hh⟩
          walk_at "un"
          refine forOf ?_
          walk_at "it"
          walk_at "un"
          walk_at "go"
          refine rdLenL (.inl (.inl (s3 _ _ ha))) ?_
          refine ⟨_, rfl, by omega, by omega, ?_⟩
          rw [show ((xs.length : Nat) : Int).toNat = W.length by omega]
          refine FL.range (n := W.length) (fun i σ' H' => ∃ o2, σ' = [some (.ref a), some (.ref b), some (.ref c), some (.int (k : Int)), o2] ∧ Same H H' ∧ ∀ j, j < i → gainR W L k j ≤ ps.getD j 0 - ps.getD k 0) ⟨_, by rw [Int.zero_add], s3, fun j hj => absurd hj (Nat.not_lt_zero _)⟩ ?_ ?_
          · rintro j σ' H4 hj ⟨o2', rfl, s4, hh4⟩
            obtain ⟨vj, ej, hvj⟩ := frAt hD (show j < ps.length by omega)
            obtain ⟨vk, ek, hvk⟩ := frAt hD (show k < ps.length by omega)
            walk_at "un"
            walk_at "go"
            refine rdIxL (s4.seq hS) (at_of (j := j) (by omega) ej) ?_
            walk_at "go"
            refine rdIxL (s4.seq hS) (at_of (j := k) (by omega) ek) ?_
            refine rd_minusF (hvj.mono s4) (hvk.mono s4) (hbp _ (List.getElem_mem _)) (hbp _ (List.getElem_mem _)) (by decide) fun H5 v5 s5 h5 => ?_
            walk_at "go"
            refine ⟨a, b, W, L, o, k, j, by rw [Int.zero_add], (hW.mono s4).mono s5, (hL.mono s4).mono s5, M, hk, hj, fun H6 v6 s6 h6 => ?_⟩
            refine ⟨_, _, _, _, 401, 121, rfl, h5.mono s6, h6, bd_sub (hbp _ (List.getElem_mem _)) (hbp _ (List.getElem_mem _)), bd_gain M hk hj, by decide, ?_⟩
            walk_at "go"
            have s07 : Same H H6 := (s4.trans s5).trans s6
            refine ifD (fun cc => ?_) (fun cc => ?_)
            · refine q2 (fun hp => ?_) _ s07
              have := hp.2.2 k hk j hj
              rw [getR_at (show j < ps.length by omega), getR_at (show k < ps.length by omega)] at this
              exact absurd cc (Rat.not_lt.mpr this)
            · refine ⟨_, by rw [Int.zero_add], s07, fun j' hj' => ?_⟩
              by_cases e : j' = j
              · subst e
                rw [getR_at (show j' < ps.length by omega), getR_at (show k < ps.length by omega)]
                exact Rat.not_lt.mp cc
              · exact hh4 j' (by omega)
          · rintro σ' H4 ⟨o2', rfl, s4, hh4⟩
            refine ⟨_, _, rfl, s4, fun k' hk' => ?_⟩
            by_cases e : k' = k
            · subst e
              exact hh4
            · exact hh k' (by omega)
        · rintro σ' H3 ⟨o1, o2, rfl, s3, hh⟩
          walk_at "un"
          refine q1 ⟨hlen, ?_, hh⟩ _ s3
          rw [getR_at (show 0 < ps.length by omega)]
          exact hz
      · refine ifBT (by rw [decide_eq_false hz]; rfl) ?_
        refine q2 (fun hp => hz ?_) _ s2
        have := hp.2.1
        rw [getR_at (show 0 < ps.length by omega)] at this
        exact this
    · refine ifBT (by rw [decide_eq_false (by omega)]; rfl) ?_
      exact iteT (q2 (fun hp => hlen hp.1) _ fun _ _ h => h)
/-! ### _law_copies -/
/-- copies of the rows, apart from the cells in S -/
def sp__law_copies (K : PySem.W.Frag) : Sp := fun vs H Q E => ∃ (a : Addr) (W : List (List Rat)) (S : List Addr), vs = [.ref a] ∧ LL K H a (mD W) ∧ W.length ≤ 1000 ∧ Ls S H ∧ ∀ H' c, Same H H' → LL K (wo S H') c (mD W) → Q (.ref c) H'
theorem ok__law_copies {f : Addr} {fd : FuncData} (T : Tx K mg) (F : FunD K "_law_copies" "_law_copies" (defArgs s__law_copies) (defBody s__law_copies) (defScope s__law_copies) [] [] f fd) : FnOk P w K mg base (L2.CX P w) 1 f fd ["rows"] (sp__law_copies K) := by
  refine F.ok sc__law_copies (fun vs H Q E h => ?_) (fun cdv A outer st H vs Q E hr h => ?_)
  · obtain ⟨_, _, _, rfl, _⟩ := h
    rfl
  · obtain ⟨a, W, S, rfl, hW, hw, hS, q⟩ := h
    obtain ⟨xs, ha, hA⟩ := id hW
    have lx := (dpAll_len hA).trans (mD_len W)
    refine ⟨_, PSs.nox (pss_one (ps_ret (pe_lc (own := [("one", 1)]) (g := gName 1) (tt := tYes) rfl sc__law_copies.nd (pi_list (pv 0)) (blkOk_by (N := N__law_copies) (sc := defScope s__law_copies) (by decide +kernel)) (fun _ _ _ _ _ => (pg_name (i := 1) sc__law_copies.nd rfl (by first | exact Or.inl rfl | exact Or.inr rfl))) (fun _ _ _ _ _ => pts_nil) (fun _ _ _ _ _ => (pe_callTy (cl_listK (K := K) rfl) (by rfl) T.n_list bb_list (pa_cons (pv 1) pa_nil)))))), ?_⟩
    walk_at "un"
    refine lcOf ?_
    walk_at "it"
    walk_at "un"
    refine ⟨_, rfl, a, rfl, ⟨_, .inl (.inl ha)⟩, fun D nD => ?_⟩
    have nDS : D ∉ S := hS.new nD
    refine LC.list (xs := xs) (fun i H' => Same H H' ∧ Cel K (D :: S) H' D (mD (W.take i))) ⟨sameNew nD, Cel.new⟩ (fun i H' _ ⟨e, _⟩ => .inl (.inl (e _ _ ha))) ?_ ?_
    · rintro i x H1 hx ⟨s1, hC⟩
      have hi : i < W.length := by
        have := (List.getElem?_eq_some_iff.mp hx).1
        omega
      obtain ⟨v, e1, h1⟩ := rowAt hA hi
      rw [hx] at e1
      cases e1
      obtain ⟨ra, rs, rfl, hSr, hDr⟩ := (h1.mono s1).get
      dsimp only [wipe, tYes]
      walk_at "un"
      refine ⟨rfl, iteT ?_⟩
      walk_at "go"
      refine rdListL hSr fun l nl => ?_
      have sl : Same H1 (upd H1 l (.lst rs)) := sameNew nl
      have hC2 := hC.mono sl
      have hl : Ls (D :: S) (upd H1 l (.lst rs)) := fun z hz => by
        rcases List.mem_cons.mp hz with e | e
        · rw [e]
          exact hC2.ls
        · obtain ⟨ys, h⟩ := hS z e
          exact ⟨ys, (s1.trans sl) _ _ h⟩
      have lN : l ∉ D :: S := fun z => by
        rcases List.mem_cons.mp z with e | e
        · obtain ⟨ys, h⟩ := hC.ls
          rw [← e, nl] at h
          cases h
        · obtain ⟨ys, h⟩ := hS l e
          rw [s1 _ _ h] at nl
          cases nl
      have row := (frsApart hl upd_same lN (Dp.monoAll sl _ _ hDr)).dp
      obtain ⟨acc, e1, e2, hC5⟩ := hC2.turn (d := rowD W[i]) (List.mem_cons_self ..) (by rw [mD_len, List.length_take]; omega) row
      refine ⟨acc, e1, e2, sameLate' (s1.trans sl) nD, ?_⟩
      have e : W.take (i + 1) = W.take i ++ [W[i]] := by rw [List.take_succ_eq_append_getElem hi]
      unfold mD
      rw [e, List.map_append]
      exact hC5
    · rintro H1 ⟨s1, hC⟩
      rw [List.take_of_length_le (by omega)] at hC
      exact q _ D s1 (hC.done (fun s hs => List.mem_cons_of_mem _ hs) nDS)
/-! ### _law_menu -/
/-- a drawn menu -/
def sp__law_menu (K : PySem.W.Frag) : Sp := fun vs H Q E => ∃ (d : Addr), vs = [.ref d] ∧ Ints H d ∧ ∀ (H' : Hp) (t a b : Addr) (W L : List (List Rat)) (o : Nat), SameS [d] H H' → Ints H' d → SqT K H' t [.ref a, .ref b] → LL K (wo [d] H') a (mD W) → LL K (wo [d] H') b (mD L) → Men W L o → Q (.ref t) H'
/-- rows of o fractions, small -/
structure Rws (o m q : Nat) (W : List (List Rat)) : Prop where
  l : ∀ r ∈ W, r.length = o
  b : ∀ r ∈ W, ∀ x ∈ r, Sm m q x
theorem Rws.nil {o m q : Nat} : Rws o m q [] := ⟨fun _ h => absurd h List.not_mem_nil, fun _ h => absurd h List.not_mem_nil⟩
theorem Rws.push {o m q : Nat} {W : List (List Rat)} {r : List Rat} (h : Rws o m q W) (h1 : r.length = o) (h2 : ∀ x ∈ r, Sm m q x) : Rws o m q (W ++ [r]) :=
  ⟨fun x hx => by
    rcases List.mem_append.mp hx with e | e
    · exact h.l x e
    · rw [List.mem_singleton.mp e]
      exact h1, fun x hx => by
    rcases List.mem_append.mp hx with e | e
    · exact h.b x e
    · rw [List.mem_singleton.mp e]
      exact h2⟩
theorem Rws.set {o m q : Nat} {W : List (List Rat)} {r : List Rat} {i : Nat} (h : Rws o m q W) (h1 : r.length = o) (h2 : ∀ x ∈ r, Sm m q x) : Rws o m q (W.set i r) :=
  ⟨fun x hx => by
    rcases List.mem_or_eq_of_mem_set hx with e | e
    · exact h.l x e
    · rw [e]
      exact h1, fun x hx => by
    rcases List.mem_or_eq_of_mem_set hx with e | e
    · exact h.b x e
    · rw [e]
      exact h2⟩
theorem ok__law_menu {f : Addr} {fd : FuncData} (T : Tx K mg) (F : FunD K "_law_menu" "_law_menu" (defArgs s__law_menu) (defBody s__law_menu) (defScope s__law_menu) [] [] f fd) (C__law_dot : Cal P w K mg base "_law_dot" 3 ["first", "second"] [] (sp__law_dot K)) (C__law_fraction : Cal P w K mg base "_law_fraction" 2 ["row"] [] (sp__law_fraction K)) (C__law_less : Cal P w K mg base "_law_less" 1 ["a", "b"] [] (sp__law_less K)) (C__law_lowest : Cal P w K mg base "_law_lowest" 1 ["p", "q"] [] (sp__law_lowest K)) (C__law_take : Cal P w K mg base "_law_take" 1 ["row", "bound"] [] (sp__law_take)) : FnOk P w K mg base (L2.CX P w) 4 f fd ["row"] (sp__law_menu K) := by
  refine F.ok sc__law_menu (fun vs H Q E h => ?_) (fun cdv A outer st H vs Q E hr h => ?_)
  · obtain ⟨_, rfl, _⟩ := h
    rfl
  · obtain ⟨d, rfl, hI, q⟩ := h
    refine ⟨_, PSs.nox (pss_cons (ps_set (i := 1) sc__law_menu.nd rfl (Or.inl rfl) (pe_op op_add pe_int (pe_callC C__law_take hr (by decide) (by rfl) (pa_cons (pv 0) (pa_cons pe_int pa_nil))))) (pss_cons (ps_set (i := 2) sc__law_menu.nd rfl (Or.inr rfl) (pe_op op_add pe_int (pe_callC C__law_take hr (by decide) (by rfl) (pa_cons (pv 0) (pa_cons pe_int pa_nil))))) (pss_cons (ps_setLc (i := 5) (own := [("j", 3)]) (g := gName 3) (tt := tYes) rfl sc__law_menu.nd rfl rfl (sw_true rfl rfl rfl rfl) (pi_range1 (by rfl) T.n_range (pa_cons (pv 1) pa_nil)) (blkOk_by (N := N__law_menu) (sc := defScope s__law_menu) (by decide +kernel)) (fun _ _ _ _ _ => (pg_name (i := 3) sc__law_menu.nd rfl (by first | exact Or.inl rfl | exact Or.inr rfl))) (fun _ _ _ _ _ => pts_nil) (fun _ _ _ _ _ => (by exact (pe_lc (own := [("k", 4)]) (g := gName 4) (tt := tYes) rfl sc__law_menu.nd (pi_range1 (by rfl) T.n_range (pa_cons (pv 2) pa_nil)) (blkOk_by (N := N__law_menu) (sc := (relS _ (defScope s__law_menu))) (by decide +kernel)) (fun _ _ _ _ _ => (pg_name (i := 4) sc__law_menu.nd rfl (by first | exact Or.inl rfl | exact Or.inr rfl))) (fun _ _ _ _ _ => pts_nil) (fun _ _ _ _ _ => (pe_callC C__law_fraction hr (by decide) (by rfl) (pa_cons (pv 0) pa_nil))))))) (pss_cons (ps_set (i := 6) sc__law_menu.nd rfl (Or.inl rfl) (pe_lstN pa_nil)) (pss_cons (ps_for PassesOwn.never rfl (pi_range1 (by rfl) T.n_range (pa_cons (pv 1) pa_nil)) (pg_name (i := 3) sc__law_menu.nd rfl (Or.inl rfl)) (pss_cons (ps_set (i := 7) sc__law_menu.nd rfl (Or.inl rfl) (pe_op op_rep (pe_lstN (pa_cons (pe_tupN (pa_cons pe_int (pa_cons pe_int pa_nil))) pa_nil)) (pv 2))) (pss_cons (ps_set (i := 4) sc__law_menu.nd rfl (Or.inl rfl) (pe_callC C__law_take hr (by decide) (by rfl) (pa_cons (pv 0) (pa_cons (pv 2) pa_nil)))) (pss_cons (ps_asg (pe_tupN (pa_cons pe_int (pa_cons pe_int pa_nil))) (pg_sub (pv 7) (pv 4) set_list)) (pss_consJ (ps_if (pt_cmpR (op_eqA hr.units) (pe_callC C__law_take hr (by decide) (by rfl) (pa_cons (pv 0) (pa_cons pe_int pa_nil))) pe_int (nomark _)) (pss_one (ps_setLc (i := 7) (own := [("i", 9)]) (g := gName 9) (tt := tYes) rfl sc__law_menu.nd rfl rfl (sw_true rfl rfl rfl rfl) (pi_range1 (by rfl) T.n_range (pa_cons (pv 2) pa_nil)) (blkOk_by (N := N__law_menu) (sc := defScope s__law_menu) (by decide +kernel)) (fun _ _ _ _ _ => (pg_name (i := 9) sc__law_menu.nd rfl (by first | exact Or.inl rfl | exact Or.inr rfl))) (fun _ _ _ _ _ => pts_nil) (fun _ _ _ _ _ => (pe_callC C__law_lowest hr (by decide) (by rfl) (pa_cons (pe_callC C__law_take hr (by decide) (by rfl) (pa_cons (pv 0) (pa_cons pe_int pa_nil))) (pa_cons (pe_op op_add pe_int (pe_callC C__law_take hr (by decide) (by rfl) (pa_cons (pv 0) (pa_cons pe_int pa_nil)))) pa_nil)))))) pss_nil) (pss_one (ps_expr (pe_bm PySem.F.plainAttrs_list PySem.F.slot_list_append PySem.F.type_list_append mt_append (pv 6) (pa_cons (pv 7) pa_nil))))))))) (pss_consJ (ps_if (pt_cmpR (op_eqA hr.units) (pe_callC C__law_take hr (by decide) (by rfl) (pa_cons (pv 0) (pa_cons pe_int pa_nil))) pe_int (nomark _)) (pss_one (ps_for PassesOwn.never rfl (pi_range1 (by rfl) T.n_range (pa_cons (pv 1) pa_nil)) (pg_name (i := 3) sc__law_menu.nd rfl (Or.inl rfl)) (pss_cons (ps_set (i := 8) sc__law_menu.nd rfl (Or.inl rfl) pe_int) (pss_cons (ps_for PassesOwn.never rfl (pi_range1 (by rfl) T.n_range (pa_cons (pv 1) pa_nil)) (pg_name (i := 4) sc__law_menu.nd rfl (Or.inl rfl)) (pss_one (ps_if (pt_val (pe_callC C__law_less hr (by decide) (by rfl) (pa_cons (pe_callC C__law_dot hr (by decide) (by rfl) (pa_cons (pe_ix ix_seq (pv 5) (pv 3) (fun _ _ => rfl)) (pa_cons (pe_ix ix_seq (pv 6) (pv 8) (fun _ _ => rfl)) pa_nil))) (pa_cons (pe_callC C__law_dot hr (by decide) (by rfl) (pa_cons (pe_ix ix_seq (pv 5) (pv 3) (fun _ _ => rfl)) (pa_cons (pe_ix ix_seq (pv 6) (pv 4) (fun _ _ => rfl)) pa_nil))) pa_nil)))) (pss_one (ps_set (i := 8) sc__law_menu.nd rfl (Or.inl rfl) (pv 4))) pss_nil))) (pss_one (ps_asg (pe_callTy cl_list (by rfl) T.n_list bb_list (pa_cons (pe_ix ix_seq (pv 6) (pv 8) (fun _ _ => rfl)) pa_nil)) (pg_sub (pv 6) (pv 3) set_list))))))) pss_nil) (pss_one (ps_ret (pe_tupN (pa_cons (pv 5) (pa_cons (pv 6) pa_nil))))))))))), ?_⟩
    walk_at "un"
    walk_at "go"
    refine ⟨d, 4, rfl, hI, by decide, fun H1 n0 s1 i1 n00 n04 => ?_⟩
    obtain ⟨n, hn⟩ : ∃ n : Nat, 1 + n0 = (n : Int) := ⟨(1 + n0).toNat, by omega⟩
    walk_at "go"
    rw [hn]
    refine ⟨d, 3, rfl, i1, by decide, fun H2 o0 s2 i2 o00 o03 => ?_⟩
    obtain ⟨o, ho⟩ : ∃ o : Nat, 1 + o0 = (o : Int) := ⟨(1 + o0).toNat, by omega⟩
    walk_at "go"
    rw [ho]
    have s12 : SameS [d] H H2 := s1.trans s2
    have hn1 : 1 ≤ n := by omega
    have hn4 : n ≤ 4 := by omega
    have ho1 : 1 ≤ o := by omega
    have ho3 : o ≤ 3 := by omega
    clear hn ho
    -- the worths
    refine lcOf ?_
    walk_at "it"
    walk_at "un"
    walk_at "go"
    refine ⟨by omega, by omega, fun D nD => ?_⟩
    rw [show ((n : Nat) : Int).toNat = n by omega]
    refine LC.range (n := n) (fun i H' => SameS [d] H2 H' ∧ Ints H' d ∧ ∃ W, Cel K [D, d] H' D (mD W) ∧ W.length = i ∧ Rws o 100 30 W) ⟨sameS (sameNew nD), i2.mono (sameNew nD), [], Cel.new, rfl, Rws.nil⟩ ?_ ?_
    · rintro i H3 hi ⟨s3, i3, W, hC, lW, hW⟩
      dsimp only [wipe, tYes]
      walk_at "un"
      refine ⟨rfl, iteT ?_⟩
      refine lcOf ?_
      walk_at "it"
      walk_at "un"
      walk_at "go"
      refine ⟨by omega, by omega, fun D2 nD2 => ?_⟩
      rw [show ((o : Nat) : Int).toNat = o by omega]
      refine LC.range (n := o) (fun j H' => SameS [d] H3 H' ∧ Ints H' d ∧ ∃ rs, Cel K [D2, d] H' D2 (rs.map frD) ∧ rs.length = j ∧ ∀ r ∈ rs, Sm 100 30 r) ⟨sameS (sameNew nD2), i3.mono (sameNew nD2), [], Cel.new, rfl, fun _ h => absurd h List.not_mem_nil⟩ ?_ ?_
      · rintro j H4 hj ⟨s4, i4, rs, hC4, lrs, brs⟩
        dsimp only [wipe, tYes]
        walk_at "un"
        refine ⟨rfl, iteT ?_⟩
        walk_at "go"
        refine ⟨d, rfl, i4, fun H5 v r s5 i5 hv hb => ?_⟩
        have hD2 : D2 ∉ [d] := ne1 i3 (Nw.of nD2)
        have hC5 := hC4.monoS s5 sub1 hD2
        obtain ⟨acc, e1, e2, hC6⟩ := hC5.turn (d := frD r) (List.mem_cons_self ..) (by rw [frsLen]; omega) (Kp.fr (ls2 hC5.ls i5) hv)
        refine ⟨acc, e1, e2, (s4.trans s5).late nD2, i5.stay (fun z => hD2 (List.mem_singleton.mpr z.symm)), rs ++ [r], by rw [List.map_append]; exact hC6, by rw [List.length_append, lrs]; rfl, fun x hx => ?_⟩
        rcases List.mem_append.mp hx with e | e
        · exact brs x e
        · rw [List.mem_singleton.mp e]
          exact hb
      · rintro H4 ⟨s4, i4, rs, hC4, lrs, brs⟩
        have hD : D ∉ [d] := ne1 i2 (Nw.of nD)
        have hC5 := hC.monoS s4 sub1 hD
        obtain ⟨zs, h1, h2⟩ := hC4
        have hD2 : D2 ∉ [D, d] := (Nw.of nD2).notIn (ls2 hC.ls i3)
        have row := (frsApart (ls2 hC5.ls i4) h1 hD2 (Kp.dpAll h2)).dp
        obtain ⟨acc, e1, e2, hC6⟩ := hC5.turn (d := rowD rs) (List.mem_cons_self ..) (by rw [mD_len]; omega) row
        refine ⟨acc, e1, e2, (s3.trans s4).late nD, i4.stay (fun z => hD (List.mem_singleton.mpr z.symm)), W ++ [rs], by unfold mD; rw [List.map_append]; exact hC6, by rw [List.length_append, lW]; rfl, hW.push lrs brs⟩
    · rintro H3 ⟨s3, i3, W, hC, lW, hW⟩
      have hD : D ∉ [d] := ne1 i2 (Nw.of nD)
      have hWL := hC.done sub1 hD
      have s13 : SameS [d] H H3 := s12.trans s3
      walk_at "un"
      walk_at "go"
      refine rdLstH (Nat.zero_le _) fun H4 lc s4 nlc hlc => ?_
      have i4 := i3.mono s4
      have hlcd : lc ∉ [d] := ne1 i3 (Nw.of nlc)
      have nlcH : Nw H lc := (Nw.of nlc).backS s13 hI.ls
      -- the lots
      refine forOf ?_
      walk_at "it"
      walk_at "un"
      walk_at "go"
      refine ⟨by omega, by omega, ?_⟩
      rw [show ((n : Nat) : Int).toNat = n by omega]
      refine FL.range (n := n) (fun i σ' H' => ∃ (o3 o4 o7 o8 o9 : Option V) (L : List (List Rat)), σ' = [some (.ref d), some (.int (n : Nat)), some (.int (o : Nat)), o3, o4, some (.ref D), some (.ref lc), o7, o8, o9] ∧ SameS [d] H3 H' ∧ Ints H' d ∧ Cel K [lc, d] H' lc (mD L) ∧ L.length = i ∧ Rws o 3 3 L) ⟨_, _, _, _, _, [], rfl, sameS s4, i4, ⟨[], hlc, .nil⟩, rfl, Rws.nil⟩ ?_ ?_
      · rintro j σ' H5 hj ⟨o3, o4, o7, o8, o9, L, rfl, s5, i5, hC5, lL, hL⟩
        walk_at "un"
        walk_at "go"
        rename_i H6 t6 s6 g6
        have g6 : Fr K H6 t6 0 := g6
        refine rdLstH line1 fun H7 x7 s7 n7 h7 => ?_
        walk_at "go"
        refine ⟨x7, (o : Nat), [t6], rfl, rfl, h7, by omega, by omega, by have := small_line (n := [t6].length * ((o : Nat) : Int).toNat) (by show 1 * _ ≤ 1000; omega); exact this, fun p np => ?_⟩
        rw [show ((o : Nat) : Int).toNat = o by omega, List.flatten_replicate_singleton]
        have s57 : Same H5 (upd H7 p (.lst (List.replicate o t6))) := (s6.trans s7).trans (sameNew np)
        have i8 := i5.mono s57
        have C8 : Cel K [p, d] (upd H7 p (.lst (List.replicate o t6))) p ((List.replicate o (0 : Rat)).map frD) := by
          refine ⟨_, upd_same, Kp.ofNoLAll (ls2 ⟨_, upd_same⟩ i8) _ _ (noL_frs _) ?_⟩
          rw [List.map_replicate]
          exact dpAll_rep ((g6.mono s7).mono (sameNew np)) o
        have nlo : Nw H5 p := (Nw.of np).back (UbG.sameT (s6.trans s7))
        revert s57 i8 C8
        generalize upd H7 p (.lst (List.replicate o t6)) = H8
        intro s57 i8 C8
        have hp1 : p ∉ [d] := ne1 i5 nlo
        walk_at "go"
        refine ⟨d, (o : Nat), rfl, i8, by omega, fun H9 k s9 i9 k0 ko => ?_⟩
        walk_at "go"
        rename_i H10 t10 s10 g10
        have g10 : Fr K H10 t10 1 := g10
        have C10 := (C8.monoS s9 sub1 hp1).mono s10
        have i10 := i9.mono s10
        have s5a : SameS [d] H5 H10 := ((sameS s57).trans s9).trans (sameS s10)
        refine C10.setAt (d := frD 1) (k := k.toNat) (List.mem_cons_self ..) (by omega) (by rw [frsLen, List.length_replicate]; omega) (Kp.fr (ls2 C10.ls i10) g10) fun xs hx C11 => ?_
        refine seqJ (fun σ' H' => ∃ (lo : Addr) (rs : List Rat) (ys : List V) (o9 : Option V), σ' = [some (.ref d), some (.int (n : Nat)), some (.int (o : Nat)), some (.int (0 + (j : Nat))), some (.int k), some (.ref D), some (.ref lc), some (.ref lo), o8, o9] ∧ SameS [d] H5 H' ∧ Ints H' d ∧ Nw H5 lo ∧ H' lo = some (.lst ys) ∧ DpAll K H' ys (rs.map frD) ∧ rs.length = o ∧ ∀ r ∈ rs, Sm 3 3 r) (fun U hU => ?_) ?_
        · have s5b : SameS [d] H5 (upd H10 p (.lst (xs.set k.toNat t10))) := late_nw s5a nlo (notTbl hx) i5.ls
          have i11 : Ints (upd H10 p (.lst (xs.set k.toNat t10))) d := i10.stay fun z => hp1 (List.mem_singleton.mpr z.symm)
          obtain ⟨ys, hy, hA⟩ := id C11
          revert s5b i11 hA
          generalize upd H10 p (.lst (xs.set k.toNat t10)) = H11 at *
          intro s5b i11 hA
          walk_at "un"
          walk_at "go"
          refine ⟨d, 3, rfl, i11, by decide, fun H12 z s12' i12 z0 z3 => ?_⟩
          walk_at "go"
          refine ifD (fun cc => ?_) (fun cc => ?_)
          · refine lcOf ?_
            walk_at "it"
            walk_at "un"
            walk_at "go"
            refine ⟨by omega, by omega, fun lo nlo2 => ?_⟩
            rw [show ((o : Nat) : Int).toNat = o by omega]
            refine LC.range (n := o) (fun j H' => SameS [d] H12 H' ∧ Ints H' d ∧ ∃ rs, Cel K [lo, d] H' lo (rs.map frD) ∧ rs.length = j ∧ ∀ r ∈ rs, Sm 3 3 r) ⟨sameS (sameNew nlo2), i12.mono (sameNew nlo2), [], Cel.new, rfl, fun _ h => absurd h List.not_mem_nil⟩ ?_ ?_
            · rintro m H13 hm ⟨s13', i13, rs, hC13, lrs, brs⟩
              dsimp only [wipe, tYes]
              walk_at "un"
              refine ⟨rfl, iteT ?_⟩
              walk_at "go"
              refine ⟨d, 4, rfl, i13, by decide, fun H14 a1 s14 i14 a10 a14 => ?_⟩
              walk_at "go"
              refine ⟨d, 3, rfl, i14, by decide, fun H15 b1 s15 i15 b10 b13 => ?_⟩
              walk_at "go"
              refine ⟨_, _, 6, rfl, by omega, by decide, by omega, fun H16 v s16 hv => ?_⟩
              have hlo : lo ∉ [d] := ne1 i12 (Nw.of nlo2)
              have hC16 := ((hC13.monoS s14 sub1 hlo).monoS s15 sub1 hlo).mono s16
              have i16 := i15.mono s16
              obtain ⟨acc, e1, e2, hC17⟩ := hC16.turn (d := frD _) (List.mem_cons_self ..) (by rw [frsLen]; omega) (Kp.fr (ls2 hC16.ls i16) hv)
              refine ⟨acc, e1, e2, (((s13'.trans s14).trans s15).trans (sameS s16)).late nlo2, i16.stay (fun z => hlo (List.mem_singleton.mpr z.symm)), rs ++ [Rat.divInt a1 (1 + b1)], by rw [List.map_append]; exact hC17, by rw [List.length_append, lrs]; rfl, fun x hx => ?_⟩
              rcases List.mem_append.mp hx with e | e
              · exact brs x e
              · rw [List.mem_singleton.mp e]
                exact sm_divInt (by omega) (by omega) (by omega)
            · rintro H13 ⟨s13', i13, rs, ⟨ys2, hy2, hA2⟩, lrs, brs⟩
              exact hU _ _ ⟨lo, rs, ys2, _, rfl, (s5b.trans s12').trans s13', i13, (Nw.of nlo2).backS (s5b.trans s12') i5.ls, hy2, Kp.dpAll hA2, lrs, brs⟩
          · refine hU _ _ ⟨p, (List.replicate o (0 : Rat)).set k.toNat 1, ys, _, rfl, s5b.trans s12', i12, nlo, s12'.get hy hp1, ?_, by rw [List.length_set, List.length_replicate], fun r hr => ?_⟩
            · rw [List.map_set]
              exact Kp.dpAll (Kp.monoAll (s12'.sub sub1) hA)
            · rcases List.mem_or_eq_of_mem_set hr with e | e
              · rw [(List.mem_replicate.mp e).2]
                exact ⟨by decide, by decide⟩
              · rw [e]
                exact ⟨by decide, by decide⟩
        · rintro σ' H12 ⟨lo, rs, ys, o9', rfl, s12', i12, nlo2, hlo, hA, lrs, brs⟩
          have C12 := hC5.monoS s12' sub1 hlcd
          walk_at "un"
          walk_at "go"
          obtain ⟨zs, hz⟩ := C12.ls
          refine ⟨.inl ⟨rfl, _, .inl (.inl hz)⟩, ?_⟩
          walk_at "go"
          have row := (frsApart (ls2 C12.ls i12) hlo (nlo2.notIn (ls2 hC5.ls i5)) hA).dp
          refine C12.app (d := rowD rs) (List.mem_cons_self ..) (by rw [mD_len]; omega) row fun acc ha C13 => ?_
          refine ⟨_, _, _, _, _, L ++ [rs], rfl, (s5.trans s12').late nlc, i12.stay (fun z => hlcd (List.mem_singleton.mpr z.symm)), by unfold mD; rw [List.map_append]; exact C13, by rw [List.length_append, lL]; rfl, hL.push lrs brs⟩
      · rintro σ' H5 ⟨o3, o4, o7, o8, o9, L, rfl, s5, i5, hC5, lL, hL⟩
        have hW5 : ∀ {H' : Hp}, SameS [d] H3 H' → LL K (wo [lc, d] H') D (mD W) := fun {H'} e => by
          have h0 : LL K (wo [lc, d] H3) D (mD W) := by
            rw [wo_cons nlc]
            exact hWL
          exact h0.monoS (e.sub sub1)
        walk_at "un"
        walk_at "go"
        refine seqJ (fun σ' H' => ∃ (o3 o4 o7 o8 o9 : Option V) (L : List (List Rat)), σ' = [some (.ref d), some (.int (n : Nat)), some (.int (o : Nat)), o3, o4, some (.ref D), some (.ref lc), o7, o8, o9] ∧ SameS [d] H3 H' ∧ Ints H' d ∧ Cel K [lc, d] H' lc (mD L) ∧ L.length = n ∧ Rws o 3 3 L) (fun U hU => ?_) ?_
        · walk_at "un"
          walk_at "go"
          refine ⟨d, 2, rfl, i5, by decide, fun H6 z s6 i6 z0 z2 => ?_⟩
          have C6 := hC5.monoS s6 sub1 hlcd
          walk_at "go"
          refine ifD (fun cc => ?_) (fun cc => hU _ _ ⟨_, _, _, _, _, L, rfl, s5.trans s6, i6, C6, lL, hL⟩)
          refine forOf ?_
          walk_at "it"
          walk_at "un"
          walk_at "go"
          refine ⟨by omega, by omega, ?_⟩
          rw [show ((n : Nat) : Int).toNat = n by omega]
          refine FL.range (n := n) (fun i σ' H' => ∃ (o3 o4 o7 o8 o9 : Option V) (L : List (List Rat)), σ' = [some (.ref d), some (.int (n : Nat)), some (.int (o : Nat)), o3, o4, some (.ref D), some (.ref lc), o7, o8, o9] ∧ SameS [d] H3 H' ∧ Ints H' d ∧ Cel K [lc, d] H' lc (mD L) ∧ L.length = n ∧ Rws o 3 3 L) ⟨_, _, _, _, _, L, rfl, s5.trans s6, i6, C6, lL, hL⟩ ?_ ?_
          · rintro j σ' H7 hj ⟨o3, o4, o7, o8, o9, L, rfl, s7, i7, C7, lL, hL⟩
            walk_at "un"
            walk_at "go"
            refine forOf ?_
            walk_at "it"
            walk_at "un"
            walk_at "go"
            refine ⟨by omega, by omega, ?_⟩
            rw [show ((n : Nat) : Int).toNat = n by omega]
            refine FL.range (n := n) (fun i σ' H' => ∃ (o4 : Option V) (b : Nat), σ' = [some (.ref d), some (.int (n : Nat)), some (.int (o : Nat)), some (.int (0 + (j : Nat))), o4, some (.ref D), some (.ref lc), o7, some (.int (b : Nat)), o9] ∧ Same H7 H' ∧ b < n) ⟨_, 0, rfl, fun _ _ h => h, by omega⟩ ?_ ?_
            · rintro k σ' H8 hk ⟨o4', b, rfl, s8, hb⟩
              have C8 := C7.mono s8
              have W8 := hW5 (s7.trans (sameS s8))
              have bW : ∀ (i : Nat) (h : i < W.length), ∀ r ∈ W[i], Bd 7 r := fun i h r hr => (hW.b _ (List.getElem_mem h) r hr).bd (by decide) (by decide)
              have bL : ∀ (i : Nat) (h : i < L.length), ∀ r ∈ L[i], Bd 7 r := fun i h r hr => (hL.b _ (List.getElem_mem h) r hr).bd (by decide) (by decide)
              have lj := hW.l _ (List.getElem_mem (show j < W.length by omega))
              have bdd : ∀ (i k : Nat) (h1 : i < W.length) (h2 : k < L.length), Bd 60 (dotR W[i] L[k]) := fun i k h1 h2 => by
                refine (bd_sumR (bd_zip (bW i h1) (bL k h2))).mono ?_
                have h3 : (List.zipWith (· * ·) W[i] L[k]).length ≤ 3 := by
                  rw [List.length_zipWith]
                  have := hW.l _ (List.getElem_mem h1)
                  omega
                have := Nat.mul_le_mul_right (7 + 7 + 1) h3
                omega
              walk_at "un"
              walk_at "go"
              refine W8.ix (k := j) (by omega) (mD_at (List.getElem?_eq_getElem (show j < W.length by omega))) fun v1 h1 => ?_
              walk_at "go"
              refine C8.ix rfl (mD_at (List.getElem?_eq_getElem (show b < L.length by omega))) fun v2 h2 => ?_
              refine ⟨_, _, _, _, 7, rfl, Kp.dp h1, Kp.dp h2, bW _ _, bL _ _, by rw [lj]; omega, by omega, fun H9 v3 s9 h3 => ?_⟩
              have C9 := C8.mono s9
              have W9 := W8.monoS (sameS s9)
              walk_at "go"
              refine W9.ix (k := j) (by omega) (mD_at (List.getElem?_eq_getElem (show j < W.length by omega))) fun v4 h4 => ?_
              walk_at "go"
              refine C9.ix (k := k) (by omega) (mD_at (List.getElem?_eq_getElem (show k < L.length by omega))) fun v5 h5 => ?_
              refine ⟨_, _, _, _, 7, rfl, Kp.dp h4, Kp.dp h5, bW _ _, bL _ _, by rw [lj]; omega, by omega, fun H10 v6 s10 h6 => ?_⟩
              refine ⟨_, _, _, _, 60, 60, rfl, h3.mono s10, h6, bdd _ _ _ _, bdd _ _ _ _, by decide, ?_⟩
              walk_at "go"
              refine ifD (fun _ => ?_) (fun _ => ?_)
              · walk_at "go"
                exact ⟨_, k, by rw [Int.zero_add (k : Int)], (s8.trans s9).trans s10, hk⟩
              · exact ⟨_, b, rfl, (s8.trans s9).trans s10, hb⟩
            · rintro σ' H8 ⟨o4', b, rfl, s8, hb⟩
              have C8 := C7.mono s8
              walk_at "un"
              walk_at "go"
              refine C8.ix rfl (mD_at (List.getElem?_eq_getElem (show b < L.length by omega))) fun v1 h1 => ?_
              obtain ⟨ra, rs, rfl, hSr, hDr⟩ := Frs.get (Kp.dp h1)
              refine rdListL hSr fun l nl => ?_
              have sl : Same H8 (upd H8 l (.lst rs)) := sameNew nl
              have C9 := C8.mono sl
              have i9 := (i7.mono s8).mono sl
              have row := (frsApart (ls2 C9.ls i9) upd_same ((Nw.of nl).notIn (ls2 C8.ls (i7.mono s8))) (Dp.monoAll sl _ _ hDr)).dp
              walk_at "go"
              refine C9.setAt (d := rowD L[b]) (k := j) (List.mem_cons_self ..) (by omega) (by rw [mD_len]; omega) row fun xs hx C10 => ?_
              exact ⟨_, _, _, _, _, L.set j L[b], rfl, (s7.trans (sameS (s8.trans sl))).late nlc, i9.stay (fun z => hlcd (List.mem_singleton.mpr z.symm)), by unfold mD; rw [List.map_set]; exact C10, by rw [List.length_set]; exact lL, hL.set (hL.l _ (List.getElem_mem _)) (hL.b _ (List.getElem_mem _))⟩
          · rintro σ' H7 ⟨o3, o4, o7, o8, o9, L, rfl, s7, i7, C7, lL, hL⟩
            exact hU _ _ ⟨_, _, _, _, _, L, rfl, s7, i7, C7, lL, hL⟩
        · rintro σ' H6 ⟨o3, o4, o7, o8, o9, L, rfl, s6, i6, C6, lL, hL⟩
          walk_at "un"
          walk_at "go"
          refine ⟨line2, fun t nt => ?_⟩
          have st : Same H6 (upd H6 t (.tup [.ref D, .ref lc])) := sameNew nt
          refine q _ t D lc W L o ((s13.trans s6).trans (sameS st)) (i6.mono st) (.inl (.inl upd_same)) ?_ ?_ ⟨by omega, by omega, by omega, ho1, ho3, hW.l, hL.l, hW.b, hL.b⟩
          · exact (hWL.monoS s6).monoS (sameS st)
          · exact (C6.done sub1 hlcd).monoS (sameS st)
/-! ### _law_asked -/
def sp__law_asked (K : PySem.W.Frag) : Sp := fun vs H Q E => ∃ (a b : Addr) (W L : List (List Rat)) (o i j : Nat), vs = [.ref a, .ref b, .int (i : Int), .int (j : Int)] ∧ LL K H a (mD W) ∧ LL K H b (mD L) ∧ Men W L o ∧ i < W.length ∧ j < W.length ∧ GxR.TabG H (pCheck K) ∧
  (∀ (H' : Hp) (t : Addr), ChOk (gainR W L) W.length i (pS W L i) → ChOk (gainR W L) W.length j (pS W L j) → (∀ k, k < W.length → Bd 90 (pS W L i k) ∧ Bd 90 (pS W L j k)) → UbG.SameT H H' → Dp K H' (.ref t) (.tuple [frD (pS W L j i), frD (-(pS W L i j))]) → Q (.ref t) H') ∧
  ∀ (H' : Hp) (f : Nat → Nat) (c p : Nat), CyOk (gainR W L) W.length f c p → UbG.SameT H H' → Q .non H'
theorem ok__law_asked {f : Addr} {fd : FuncData} (T : Tx K mg) (F : FunD K "_law_asked" "_law_asked" (defArgs s__law_asked) (defBody s__law_asked) (defScope s__law_asked) [] [] f fd) (C_spread : Cal P w K mg base "spread" 6 ["worths", "lots", "first", "second"] [] (sp_spread K)) : FnOk P w K mg base (L2.CX P w) 7 f fd ["worths", "lots", "first", "second"] (sp__law_asked K) := by
  refine F.ok sc__law_asked (fun vs H Q E h => ?_) (fun cdv A outer st H vs Q E hr h => ?_)
  · obtain ⟨_, _, _, _, _, _, _, rfl, _⟩ := h
    rfl
  · obtain ⟨a, b, W, L, o, i, j, rfl, hW, hL, M, hi, hj, hT, q1, q2⟩ := h
    refine ⟨_, PSs.nox (pss_one (ps_try_only rfl rfl ⟨rfl, by decide, .inl T.e_NotHonest.gC⟩ takes0 (fun W pn xe tk _ => (pss_one (ps_ret (by exact (pe_callCS C_spread hr (by decide) (by rfl) tk (by exact (pa_cons (pv 0) (pa_cons (pv 1) (pa_cons (pv 2) (pa_cons (pv 3) pa_nil)))))))))) (fun a oe cls d pn hz hf => (pss_one (ps_ret pe_non))))), ?_⟩
    walk_at "un"
    walk_at "go"
    refine ⟨a, b, W, L, o, i, j, rfl, hW, hL, M, hi, hj, hT, fun H' t c1 c2 bb s d => q1 _ t c1 c2 bb s d, fun H' f c p hc s => ?_⟩
    refine ⟨true, T.m_NotHonest_NotHonest, fun _ a na => ?_, fun q => nomatch q⟩
    walk_at "un"
    walk_at "go"
    exact q2 _ f c p hc s
/-! ### _law_reached -/
/-- payments that reach the greatest (the least) difference of each kind -/
def vR (W L : List (List Rat)) (i : Nat) (b : Bool) (k : Nat) : Rat := if b then -(pS W L i k) else pS W L k i
def sp__law_reached (K : PySem.W.Frag) : Sp := fun vs H Q E => ∃ (a b : Addr) (W L : List (List Rat)) (o i j : Nat) (g : Bool), vs = [.ref a, .ref b, .int (i : Int), .int (j : Int), .bl g] ∧ LL K H a (mD W) ∧ LL K H b (mD L) ∧ Men W L o ∧ i < W.length ∧ GxR.TabG H (pCheck K) ∧ ChOk (gainR W L) W.length i (pS W L i) ∧
  ∀ (H' : Hp) (v : V), (∀ k, k < W.length → ChOk (gainR W L) W.length k (pS W L k)) → (∀ k, k < W.length → Bd 90 (vR W L i g k)) → UbG.SameT H H' → Frs K H' v (tab W.length fun k => vR W L i g k - vR W L i g 0) → Q v H'
theorem dp_two {K : PySem.W.Frag} {H : Hp} {t : Addr} {r s : Rat} (h : Dp K H (.ref t) (.tuple [frD r, frD s])) : ∃ x y, SqT K H t [x, y] ∧ Fr K H x r ∧ Fr K H y s := by
  cases h with
  | tup hs ha =>
    cases ha with
    | cons h1 h2 =>
      cases h2 with
      | cons h2 h3 =>
        cases h3
        exact ⟨_, _, hs, h1, h2⟩
theorem ok__law_reached {f : Addr} {fd : FuncData} (T : Tx K mg) (F : FunD K "_law_reached" "_law_reached" (defArgs s__law_reached) (defBody s__law_reached) (defScope s__law_reached) [] [] f fd) (C__law_minus : Cal P w K mg base "_law_minus" 3 ["a", "b"] [] (sp__law_minus K)) (C__law_plus : Cal P w K mg base "_law_plus" 2 ["a", "b"] [] (sp__law_plus K)) (C_spread : Cal P w K mg base "spread" 6 ["worths", "lots", "first", "second"] [] (sp_spread K)) : FnOk P w K mg base (L2.CX P w) 7 f fd ["worths", "lots", "first", "second", "greatest"] (sp__law_reached K) := by
  refine F.ok sc__law_reached (fun vs H Q E h => ?_) (fun cdv A outer st H vs Q E hr h => ?_)
  · obtain ⟨_, _, _, _, _, _, _, _, rfl, _⟩ := h
    rfl
  · obtain ⟨a, b, W, L, o, i, j, g, rfl, hW, hL, M, hi, hT, hC, q⟩ := h
    have m0 := M.pos
    have m1 := M.most
    refine ⟨_, PSs.nox (pss_cons (ps_set (i := 5) sc__law_reached.nd rfl (Or.inr rfl) (pe_lstN pa_nil)) (pss_cons (ps_for PassesOwn.never rfl (pi_range1 (by rfl) T.n_range (pa_cons (pe_callB cl_len (by rfl) T.n_len bb_len (pa_cons (pv 0) pa_nil)) pa_nil)) (pg_name (i := 6) sc__law_reached.nd rfl (Or.inl rfl)) (pss_cons (ps_set (i := 7) sc__law_reached.nd rfl (Or.inl rfl) (pe_callC C_spread hr (by decide) (by rfl) (pa_cons (pv 0) (pa_cons (pv 1) (pa_cons (pv 2) (pa_cons (pv 6) pa_nil)))))) (pss_one (ps_if (pt_truth (pv 4) (by intro _; rfl)) (pss_one (ps_expr (pe_bm PySem.F.plainAttrs_list PySem.F.slot_list_append PySem.F.type_list_append mt_append (pv 5) (pa_cons (pe_callC C__law_minus hr (by decide) (by rfl) (pa_cons (pe_ix ix_seq (pv 7) pe_int (fun _ _ => rfl)) (pa_cons (pe_tupN (pa_cons pe_int (pa_cons pe_int pa_nil))) pa_nil))) pa_nil)))) (pss_one (ps_expr (pe_bm PySem.F.plainAttrs_list PySem.F.slot_list_append PySem.F.type_list_append mt_append (pv 5) (pa_cons (pe_callC C__law_plus hr (by decide) (by rfl) (pa_cons (pe_ix ix_seq (pv 7) pe_int (fun _ _ => rfl)) (pa_cons (pe_tupN (pa_cons pe_int (pa_cons pe_int pa_nil))) pa_nil))) pa_nil)))))))) (pss_one (ps_ret (pe_lc (own := [("value", 8)]) (g := gName 8) (tt := tYes) rfl sc__law_reached.nd (pi_list (pv 5)) (blkOk_by (N := N__law_reached) (sc := defScope s__law_reached) (by decide +kernel)) (fun _ _ _ _ _ => (pg_name (i := 8) sc__law_reached.nd rfl (by first | exact Or.inl rfl | exact Or.inr rfl))) (fun _ _ _ _ _ => pts_nil) (fun _ _ _ _ _ => (pe_callC C__law_minus hr (by decide) (by rfl) (pa_cons (pv 8) (pa_cons (pe_ix (ix_seqK (K := K) rfl) (pv 5) pe_int (fun _ _ => rfl)) pa_nil))))))))), ?_⟩
    walk_at "un"
    walk_at "go"
    refine rdLstH (Nat.zero_le _) fun H1 p s1 np hp => ?_
    have hpN : ∀ s, s ∈ [p] → H s = none := fun s hs => by rw [List.mem_singleton.mp hs]; exact np
    obtain ⟨wx, hwx, hwD⟩ := id hW
    have lwx := (dpAll_len hwD).trans (mD_len W)
    refine forOf ?_
    walk_at "it"
    walk_at "un"
    walk_at "go"
    refine rdLenL (.inl (.inl (s1 _ _ hwx))) ?_
    refine ⟨_, rfl, by omega, by omega, ?_⟩
    rw [lwx, show ((W.length : Nat) : Int).toNat = W.length by omega]
    refine FL.range (n := W.length) (fun m σ' H' => ∃ (o6 o7 : Option V), σ' = [some (.ref a), some (.ref b), some (.int (i : Nat)), some (.int (j : Nat)), some (.bl g), some (.ref p), o6, o7, none] ∧ UbG.SameT H H' ∧ Cel K [p] H' p ((tab m (vR W L i g)).map frD) ∧ (∀ k, k < m → ChOk (gainR W L) W.length k (pS W L k)) ∧ ∀ k, k < m → Bd 90 (vR W L i g k)) ⟨_, _, rfl, UbG.sameT s1, ⟨[], hp, .nil⟩, fun k hk => absurd hk (Nat.not_lt_zero _), fun k hk => absurd hk (Nat.not_lt_zero _)⟩ ?_ ?_
    · rintro k σ' H2 hk ⟨o6, o7, rfl, s2, C2, K2, B2⟩
      walk_at "un"
      walk_at "go"
      refine ⟨a, b, W, L, o, i, k, by rw [Int.zero_add], hW.monoT s2, hL.monoT s2, M, hi, hk, s2.tab _ hT, fun H3 t c1 c2 bb s3 d3 => ?_, fun H3 f c p hc s3 => (cy_ch hc hC).elim⟩
      obtain ⟨x, y, hxy, hx, hy⟩ := dp_two d3
      have s03 := s2.trans s3
      have C3 := C2.monoT s3
      have bk : Bd 90 (vR W L i g k) := by
        unfold vR
        split
        · exact bd_neg (bb k hk).1
        · exact (bb i hi).2
      have fin : ∀ (H' : Hp) (v : V), Same H3 H' → Fr K H' v (vR W L i g k) → rAppend (.ref p) [v] H' fun _ H'' => ∃ (o6 o7 : Option V), [some (.ref a), some (.ref b), some (.int (i : Nat)), some (.int (j : Nat)), some (.bl g), some (.ref p), some (.int (0 + (k : Nat))), some (.ref t), none] = [some (.ref a), some (.ref b), some (.int (i : Nat)), some (.int (j : Nat)), some (.bl g), some (.ref p), o6, o7, none] ∧ UbG.SameT H H'' ∧ Cel K [p] H'' p ((tab (k + 1) (vR W L i g)).map frD) ∧ (∀ m, m < k + 1 → ChOk (gainR W L) W.length m (pS W L m)) ∧ ∀ m, m < k + 1 → Bd 90 (vR W L i g m) := fun H' v s h => by
        have C4 := C3.mono s
        refine C4.app (d := frD (vR W L i g k)) (List.mem_singleton.mpr rfl) (by rw [frsLen, tab_len]; omega) (Kp.fr (fun z hz => by rw [List.mem_singleton.mp hz]; exact C4.ls) h) fun acc ha C5 => ⟨_, _, rfl, UbR.SameT.late (s03.trans (UbG.sameT s)) np, ?_, fun m hm => ?_, fun m hm => ?_⟩
        · have e : tab (k + 1) (vR W L i g) = tab k (vR W L i g) ++ [vR W L i g k] := by
            unfold tab
            rw [List.range_succ, List.map_append]
            rfl
          rw [e, List.map_append]
          exact C5
        · by_cases e : m = k
          · rw [e]
            exact c2
          · exact K2 m (by omega)
        · by_cases e : m = k
          · rw [e]
            exact bk
          · exact B2 m (by omega)
      walk_at "go"
      cases g with
      | true =>
        refine ⟨true, rfl, iteT ?_⟩
        obtain ⟨zs, hz⟩ := C3.ls
        walk_at "go"
        refine ⟨.inl ⟨rfl, _, .inl (.inl hz)⟩, ?_⟩
        walk_at "go"
        refine rdIxT hxy rfl ?_
        walk_at "go"
        rename_i H4 t4 s4 g4
        have g4 : Fr K H4 t4 0 := g4
        refine rd_minusF (hy.mono s4) g4 (bd_neg (bb k hk).1) bd_zero (by decide) fun H5 v5 s5 h5 => ?_
        rw [Rat.sub_eq_add_neg, show (-0 : Rat) = 0 by decide, Rat.add_zero] at h5
        exact fin _ v5 (s4.trans s5) h5
      | false =>
        refine ⟨false, rfl, iteF ?_⟩
        obtain ⟨zs, hz⟩ := C3.ls
        walk_at "go"
        refine ⟨.inl ⟨rfl, _, .inl (.inl hz)⟩, ?_⟩
        walk_at "go"
        refine rdIxT hxy rfl ?_
        walk_at "go"
        rename_i H4 t4 s4 g4
        have g4 : Fr K H4 t4 0 := g4
        refine ⟨_, _, _, _, 90, 1, rfl, hx.mono s4, g4, (bb i hi).2, bd_zero, by decide, fun H5 v5 s5 h5 => ?_⟩
        rw [Rat.add_zero] at h5
        exact fin _ v5 (s4.trans s5) h5
    · rintro σ' H2 ⟨o6, o7, rfl, s2, C2, K2, B2⟩
      obtain ⟨zs, hz, hzD⟩ := id C2
      have lz : zs.length = W.length := (frs_len hzD).trans (tab_len _ _)
      have at1 : ∀ {s : Nat → Rat} {k : Nat} (h : k < (tab W.length s).length), (tab W.length s)[k] = s k := fun {s} {k} h => by
        have h' : k < W.length := by rw [tab_len] at h; exact h
        have := tab_at (s := s) h'
        rw [List.getElem?_eq_getElem h] at this
        exact Option.some.inj this
      walk_at "un"
      refine lcOf ?_
      walk_at "it"
      walk_at "un"
      refine ⟨_, rfl, p, rfl, ⟨_, .inl (.inl hz)⟩, fun D nD => ?_⟩
      refine LC.list (xs := zs) (fun i' H' => Same H2 H' ∧ Cel K [D] H' D (((tab W.length fun k => vR W L i g k - vR W L i g 0).take i').map frD)) ⟨sameNew nD, Cel.new⟩ (fun i' H' _ ⟨e, _⟩ => .inl (.inl (e _ _ hz))) ?_ ?_
      · rintro k x H3 hx ⟨s3, C3⟩
        have hk : k < W.length := by
          have := (List.getElem?_eq_some_iff.mp hx).1
          omega
        obtain ⟨v1, e1, h1⟩ := frAt (Kp.dpAll hzD) (show k < (tab W.length (vR W L i g)).length by rw [tab_len]; exact hk)
        obtain ⟨v0, e0, h0⟩ := frAt (Kp.dpAll hzD) (show 0 < (tab W.length (vR W L i g)).length by rw [tab_len]; exact m0)
        rw [hx] at e1
        cases e1
        rw [at1] at h1 h0
        dsimp only [wipe, tYes]
        walk_at "un"
        refine ⟨rfl, iteT ?_⟩
        walk_at "go"
        refine rdIxL (.inl (.inl (s3 _ _ hz))) (atI_nat (j := 0) e0) ?_
        refine rd_minusF (h1.mono s3) (h0.mono s3) (B2 k hk) (B2 0 m0) (by decide) fun H4 v4 s4 h4 => ?_
        have C4 := C3.mono s4
        obtain ⟨acc, a1, a2, C5⟩ := C4.turn (d := frD (vR W L i g k - vR W L i g 0)) (List.mem_singleton.mpr rfl) (by rw [frsLen, List.length_take, tab_len]; omega) (Kp.fr (fun z hz => by rw [List.mem_singleton.mp hz]; exact C4.ls) h4)
        refine ⟨acc, a1, a2, sameLate' (s3.trans s4) nD, ?_⟩
        have e : (tab W.length fun k => vR W L i g k - vR W L i g 0).take (k + 1) = (tab W.length fun k => vR W L i g k - vR W L i g 0).take k ++ [vR W L i g k - vR W L i g 0] := by
          rw [List.take_add_one, tab_at hk]
          rfl
        rw [e, List.map_append]
        exact C5
      · rintro H3 ⟨s3, C3⟩
        rw [List.take_of_length_le (by rw [tab_len]; omega)] at C3
        obtain ⟨ys, h1, h2⟩ := C3
        exact q _ _ K2 B2 (s2.trans (UbG.sameT s3)) (.lst (.inl (.inl h1)) (Kp.dpAll h2))
/-! ### law -/
/-- what stands while the law runs, apart from d -/
structure LwJ (K : PySem.W.Frag) (d wa wb : Addr) (W L : List (List Rat)) (H : Hp) : Prop where
  i : Ints H d
  t : GxR.TabG H (pCheck K)
  w : LL K (wo [d] H) wa (mD W)
  l : LL K (wo [d] H) wb (mD L)
theorem LwJ.mono {K : PySem.W.Frag} {d wa wb : Addr} {W L : List (List Rat)} {H H' : Hp} (h : LwJ K d wa wb W L H) (e : SameS [d] H H') (i : Ints H' d) : LwJ K d wa wb W L H' := ⟨i, e.tab _ h.t, h.w.monoS e, h.l.monoS e⟩
theorem LwJ.monoT {K : PySem.W.Frag} {d wa wb : Addr} {W L : List (List Rat)} {H H' : Hp} (h : LwJ K d wa wb W L H) (e : UbG.SameT H H') : LwJ K d wa wb W L H' := h.mono (sameTS e) (h.i.monoT e)
section
variable {W L : List (List Rat)} {i j : Nat}
/-- the least is no more than the greatest -/
theorem least_le (hi : i < W.length) (hj : j < W.length) (ci : ChOk (gainR W L) W.length i (pS W L i)) (cj : ChOk (gainR W L) W.length j (pS W L j)) : pS W L j i ≤ -(pS W L i j) := by
  have h1 := wk_le ci.fx hj (cj.wk i hi) hi
  rw [ci.z] at h1
  have h1 : pS W L j i + pS W L i j ≤ 0 := h1
  grind
/-- the payments that reach it are honest -/
theorem vR_hon (hi : i < W.length) (h0 : 0 < W.length) (b : Bool) (c : ∀ k, k < W.length → ChOk (gainR W L) W.length k (pS W L k)) : HonP W L (tab W.length fun k => vR W L i b k - vR W L i b 0) := by
  have ge : ∀ k d, k < W.length → (tab W.length fun k => vR W L i b k - vR W L i b 0).getD k d = vR W L i b k - vR W L i b 0 := fun k d hk => by
    rw [List.getD_eq_getElem?_getD, tab_at hk]
    rfl
  refine ⟨tab_len _ _, ?_, fun k hk j hj => ?_⟩
  · rw [ge 0 1 h0, Rat.sub_self]
  · rw [ge j 0 hj, ge k 0 hk]
    have key : gainR W L k j ≤ vR W L i b j - vR W L i b k := by
      cases b with
      | true =>
        have := (c i hi).fx k j hk hj
        show gainR W L k j ≤ -(pS W L i j) - -(pS W L i k)
        have : gainR W L k j + pS W L i j ≤ pS W L i k := this
        grind
      | false =>
        have h1 := wk_app hk hj ((c k hk).wk i hi)
        have h2 := wk_le (c j hj).fx hj h1 hi
        rw [(c j hj).z] at h2
        have h2 : pS W L k i + gainR W L k j + 0 ≤ pS W L j i := h2
        show gainR W L k j ≤ pS W L j i - pS W L k i
        grind
    grind
theorem vR_diff (hi : i < W.length) (b : Bool) (c : ∀ k, k < W.length → ChOk (gainR W L) W.length k (pS W L k)) : vR W L i b j - vR W L i b 0 - (vR W L i b i - vR W L i b 0) = if b then -(pS W L i j) else pS W L j i := by
  have z := (c i hi).z
  have z : pS W L i i = 0 := z
  cases b with
  | true =>
    show -(pS W L i j) - -(pS W L i 0) - (-(pS W L i i) - -(pS W L i 0)) = -(pS W L i j)
    rw [z]
    grind
  | false =>
    show pS W L j i - pS W L 0 i - (pS W L i i - pS W L 0 i) = pS W L j i
    rw [z]
    grind
end
def sp_law (K : PySem.W.Frag) : Sp := fun vs H Q _ => ∃ (a : Addr) (ns : List Int), vs = [.ref a] ∧ SqL K H a (ns.map V.int) ∧ ns.length ≤ 63 ∧ (∀ z ∈ ns, Builtin.Int.intBits z ≤ 1048576) ∧ (∀ p ∈ ([("_check_menu", none)] : List He.Defn), GxR.TabG H (He.cT K p).2) ∧ ∀ H', Q (.bl true) H'
theorem ok_law {f : Addr} {fd : FuncData} (T : Tx K mg) (F : FunD K "law" "law" (defArgs s_law) (defBody s_law) (defScope s_law) [] [] f fd) (C__law_asked : Cal P w K mg base "_law_asked" 7 ["worths", "lots", "first", "second"] [] (sp__law_asked K)) (C__law_copies : Cal P w K mg base "_law_copies" 1 ["rows"] [] (sp__law_copies K)) (C__law_fraction : Cal P w K mg base "_law_fraction" 2 ["row"] [] (sp__law_fraction K)) (C__law_honest : Cal P w K mg base "_law_honest" 5 ["worths", "lots", "payments"] [] (sp__law_honest K)) (C__law_less : Cal P w K mg base "_law_less" 1 ["a", "b"] [] (sp__law_less K)) (C__law_menu : Cal P w K mg base "_law_menu" 4 ["row"] [] (sp__law_menu K)) (C__law_minus : Cal P w K mg base "_law_minus" 3 ["a", "b"] [] (sp__law_minus K)) (C__law_numbers : Cal P w K mg base "_law_numbers" 2 ["script", "count"] [] (sp__law_numbers K)) (C__law_reached : Cal P w K mg base "_law_reached" 7 ["worths", "lots", "first", "second", "greatest"] [] (sp__law_reached K)) (C__law_take : Cal P w K mg base "_law_take" 1 ["row", "bound"] [] (sp__law_take)) (C_highest_payments : Cal P w K mg base "highest_payments" 6 ["worths", "lots"] [] (sp_highest_payments K)) (C_spread : Cal P w K mg base "spread" 6 ["worths", "lots", "first", "second"] [] (sp_spread K)) : FnOk P w K mg base (L2.CX P w) 8 f fd ["script"] (sp_law K) := by
  refine F.ok sc_law (fun vs H Q E h => ?_) (fun cdv A outer st H vs Q E hr h => ?_)
  · obtain ⟨_, _, rfl, _⟩ := h
    rfl
  · obtain ⟨ad, cs, rfl, hS, hl, _, hT, q⟩ := h
    have hT := hT _ (List.mem_singleton.mpr rfl)
    refine ⟨_, PSs.nox (pss_cons (ps_set (i := 1) sc_law.nd rfl (Or.inl rfl) (pe_callC C__law_numbers hr (by decide) (by rfl) (pa_cons (pv 0) (pa_cons pe_int pa_nil)))) (pss_cons (ps_asg (pe_callC C__law_menu hr (by decide) (by rfl) (pa_cons (pv 1) pa_nil)) (pg_tup rfl (pgs_cons (pg_name (i := 2) sc_law.nd rfl (Or.inl rfl)) (pgs_cons (pg_name (i := 3) sc_law.nd rfl (Or.inl rfl)) pgs_nil)))) (pss_cons (ps_set (i := 4) sc_law.nd rfl (Or.inl rfl) (pe_callC C__law_take hr (by decide) (by rfl) (pa_cons (pv 1) (pa_cons (pe_callB cl_len (by rfl) T.n_len bb_len (pa_cons (pv 2) pa_nil)) pa_nil)))) (pss_cons (ps_set (i := 5) sc_law.nd rfl (Or.inl rfl) (pe_callC C__law_take hr (by decide) (by rfl) (pa_cons (pv 1) (pa_cons (pe_callB cl_len (by rfl) T.n_len bb_len (pa_cons (pv 2) pa_nil)) pa_nil)))) (pss_cons (ps_set (i := 6) sc_law.nd rfl (Or.inl rfl) (pe_callC C_highest_payments hr (by decide) (by rfl) (pa_cons (pe_callC C__law_copies hr (by decide) (by rfl) (pa_cons (pv 2) pa_nil)) (pa_cons (pe_callC C__law_copies hr (by decide) (by rfl) (pa_cons (pv 3) pa_nil)) pa_nil)))) (pss_cons (ps_set (i := 7) sc_law.nd rfl (Or.inl rfl) (pe_callC C__law_asked hr (by decide) (by rfl) (pa_cons (pe_callC C__law_copies hr (by decide) (by rfl) (pa_cons (pv 2) pa_nil)) (pa_cons (pe_callC C__law_copies hr (by decide) (by rfl) (pa_cons (pv 3) pa_nil)) (pa_cons (pv 4) (pa_cons (pv 5) pa_nil)))))) (pss_cons (ps_if ((pw_or (pt_cmpR (op_eqA hr.units) (pe_ix ix_seq (pv 6) pe_int (fun _ _ => rfl)) pe_str (nomark _)) (pw_or1 (pt_cmpR op_isNo (pv 7) pe_non (nomark _))))).pt (pss_one (ps_ret (pe_and (pe_cmpR (op_eqA hr.units) (pe_ix ix_seq (pv 6) pe_int (fun _ _ => rfl)) pe_str (nomark _)) (pe_one (pe_cmpR op_isNo (pv 7) pe_non (nomark _)))))) pss_nil) (pss_cons (ps_asg (pv 7) (pg_tup rfl (pgs_cons (pg_name (i := 8) sc_law.nd rfl (Or.inl rfl)) (pgs_cons (pg_name (i := 9) sc_law.nd rfl (Or.inl rfl)) pgs_nil)))) (pss_cons (ps_if ((pw_or (pt_val (pe_callC C__law_less hr (by decide) (by rfl) (pa_cons (pv 9) (pa_cons (pv 8) pa_nil)))) (pw_or1 (pt_cmpR (op_neA hr.units) (pe_callC C_spread hr (by decide) (by rfl) (pa_cons (pv 2) (pa_cons (pv 3) (pa_cons (pv 4) (pa_cons (pv 4) pa_nil))))) (pe_tupN (pa_cons (pe_tupN (pa_cons pe_int (pa_cons pe_int pa_nil))) (pa_cons (pe_tupN (pa_cons pe_int (pa_cons pe_int pa_nil))) pa_nil))) (nomark _))))).pt (pss_one (ps_ret pe_bl)) pss_nil) (pss_cons (ps_if (pt_cmpR (op_neA hr.units) (pe_callC C_spread hr (by decide) (by rfl) (pa_cons (pv 2) (pa_cons (pv 3) (pa_cons (pv 5) (pa_cons (pv 4) pa_nil))))) (pe_tupN (pa_cons (pe_callC C__law_minus hr (by decide) (by rfl) (pa_cons (pe_tupN (pa_cons pe_int (pa_cons pe_int pa_nil))) (pa_cons (pv 9) pa_nil))) (pa_cons (pe_callC C__law_minus hr (by decide) (by rfl) (pa_cons (pe_tupN (pa_cons pe_int (pa_cons pe_int pa_nil))) (pa_cons (pv 8) pa_nil))) pa_nil))) (nomark _)) (pss_one (ps_ret pe_bl)) pss_nil) (pss_cons (ps_for PassesOwn.never rfl (pi_list (pe_lstN (pa_cons pe_bl (pa_cons pe_bl pa_nil)))) (pg_name (i := 10) sc_law.nd rfl (Or.inl rfl)) (pss_cons (ps_set (i := 11) sc_law.nd rfl (Or.inl rfl) (pe_callC C__law_reached hr (by decide) (by rfl) (pa_cons (pv 2) (pa_cons (pv 3) (pa_cons (pv 4) (pa_cons (pv 5) (pa_cons (pv 10) pa_nil))))))) (pss_cons (ps_if (pt_not (pt_val (pe_callC C__law_honest hr (by decide) (by rfl) (pa_cons (pv 2) (pa_cons (pv 3) (pa_cons (pv 11) pa_nil)))))) (pss_one (ps_ret pe_bl)) pss_nil) (pss_one (ps_if (pt_cmpR (op_neA hr.units) (pe_callC C__law_minus hr (by decide) (by rfl) (pa_cons (pe_ix ix_seq (pv 11) (pv 5) (fun _ _ => rfl)) (pa_cons (pe_ix ix_seq (pv 11) (pv 4) (fun _ _ => rfl)) pa_nil))) (pe_ix ix_seq (pe_lstN (pa_cons (pv 8) (pa_cons (pv 9) pa_nil))) (pe_callTy cl_int (by rfl) T.n_int bb_int (pa_cons (pv 10) pa_nil)) (fun _ _ => rfl)) (nomark _)) (pss_one (ps_ret pe_bl)) pss_nil))))) (pss_cons (ps_for PassesOwn.never rfl (pi_range1 (by rfl) T.n_range (pa_cons pe_int pa_nil)) (pg_name (i := 12) sc_law.nd rfl (Or.inl rfl)) (pss_cons (ps_set (i := 11) sc_law.nd rfl (Or.inl rfl) (pe_lstN (pa_cons (pe_tupN (pa_cons pe_int (pa_cons pe_int pa_nil))) pa_nil))) (pss_cons (ps_for PassesOwn.never rfl (pi_range1 (by rfl) T.n_range (pa_cons (pe_op op_sub (pe_callB cl_len (by rfl) T.n_len bb_len (pa_cons (pv 2) pa_nil)) pe_int) pa_nil)) (pg_name (i := 13) sc_law.nd rfl (Or.inl rfl)) (pss_one (ps_expr (pe_bm PySem.F.plainAttrs_list PySem.F.slot_list_append PySem.F.type_list_append mt_append (pv 11) (pa_cons (pe_callC C__law_fraction hr (by decide) (by rfl) (pa_cons (pv 1) pa_nil)) pa_nil))))) (pss_one (ps_if (pt_val (pe_callC C__law_honest hr (by decide) (by rfl) (pa_cons (pv 2) (pa_cons (pv 3) (pa_cons (pv 11) pa_nil))))) (pss_cons (ps_set (i := 14) sc_law.nd rfl (Or.inl rfl) (pe_callC C__law_minus hr (by decide) (by rfl) (pa_cons (pe_ix ix_seq (pv 11) (pv 5) (fun _ _ => rfl)) (pa_cons (pe_ix ix_seq (pv 11) (pv 4) (fun _ _ => rfl)) pa_nil)))) (pss_one (ps_if ((pw_or (pt_val (pe_callC C__law_less hr (by decide) (by rfl) (pa_cons (pv 14) (pa_cons (pv 8) pa_nil)))) (pw_or1 (pt_val (pe_callC C__law_less hr (by decide) (by rfl) (pa_cons (pv 9) (pa_cons (pv 14) pa_nil))))))).pt (pss_one (ps_ret pe_bl)) pss_nil))) pss_nil))))) (pss_one (ps_ret pe_bl)))))))))))))), ?_⟩
    walk_at "un"
    walk_at "go"
    refine ⟨ad, cs, 80, rfl, hS, hl, by decide, fun H1 d s1 nd hI => ?_⟩
    have hT1 := UbG.TabG.mono s1 hT
    clear s1 hT hS hl nd
    walk_at "go"
    refine ⟨d, rfl, hI, fun H2 t wa wb W L o s2 i2 ht hW hL M => ?_⟩
    have I2 : LwJ K d wa wb W L H2 := ⟨i2, s2.tab _ hT1, hW, hL⟩
    clear s2 hT1 hI hW hL i2
    have m0 := M.pos
    have m1 := M.most
    have m2 := M.len
    walk_at "go"
    refine ⟨t, _, rfl, ht, rfl, _, _, rfl, _, _, rfl, rfl, ?_⟩
    clear ht
    have lenW : ∀ {H' : Hp} {Q' : VK}, LwJ K d wa wb W L H' → Q' (.int (W.length : Nat)) H' → rLenS K [.ref wa] H' Q' := fun I q' => by
      obtain ⟨wx, hwx, hwD⟩ := I.w
      refine rdLenL (.inl (.inl (wo_in hwx).2)) ?_
      rw [(dpAll_len hwD).trans (mD_len W)]
      exact q'
    walk_at "un"
    walk_at "go"
    refine lenW I2 ?_
    refine ⟨d, (W.length : Nat), rfl, I2.i, by omega, fun H3 i0 s3 i3 i00 i0n => ?_⟩
    have I3 := I2.mono s3 i3
    obtain ⟨i, rfl⟩ : ∃ i : Nat, i0 = (i : Int) := ⟨i0.toNat, by omega⟩
    have hi : i < W.length := by omega
    walk_at "go"
    refine lenW I3 ?_
    refine ⟨d, (W.length : Nat), rfl, I3.i, by omega, fun H4 j0 s4 i4 j00 j0n => ?_⟩
    have I4 := I3.mono s4 i4
    obtain ⟨j, rfl⟩ : ∃ j : Nat, j0 = (j : Int) := ⟨j0.toNat, by omega⟩
    have hj : j < W.length := by omega
    clear I2 I3 s3 s4 i3 i4 i00 i0n j00 j0n
    walk_at "go"
    -- copies for the search
    refine ⟨wa, W, [d], rfl, I4.w.out, by omega, I4.i.ls, fun H5 ga s5 hga => ?_⟩
    walk_at "go"
    refine ⟨wb, L, [d], rfl, (I4.monoT (UbG.sameT s5)).l.out, by omega, (I4.i.mono s5).ls, fun H6 gb s6 hgb => ?_⟩
    have I6 := I4.monoT (UbG.sameT (s5.trans s6))
    refine ⟨ga, gb, W, L, o, rfl, (hga.monoS (sameS s6)).out, hgb.out, M, I6.t, fun H7 t s xs ss s7 ht _ _ _ _ hch _ => ?_, fun H7 t c fF c0 p s7 ht _ _ _ hcy _ => ?_⟩
    all_goals have I7 := I6.monoT s7
    all_goals clear I4 I6 hga hgb s5 s6 s7
    all_goals walk_at "go"
    all_goals refine ⟨wa, W, [d], rfl, I7.w.out, by omega, I7.i.ls, fun H8 ga s8 hga => ?_⟩
    all_goals walk_at "go"
    all_goals refine ⟨wb, L, [d], rfl, (I7.monoT (UbG.sameT s8)).l.out, by omega, (I7.i.mono s8).ls, fun H9 gb s9 hgb => ?_⟩
    all_goals have I9 := I7.monoT (UbG.sameT (s8.trans s9))
    all_goals have ht9 := Same.tseq (s8.trans s9) ht
    all_goals walk_at "go"
    · refine ⟨ga, gb, W, L, o, i, j, rfl, (hga.monoS (sameS s9)).out, hgb.out, M, hi, hj, I9.t, fun H10 t2 ci cj bb s10 d10 => ?_, fun H10 f c p hc _ => (cy_ch hc hch).elim⟩
      have I10 := I9.monoT s10
      have ht10 := UbG.SameT.tseq s10 ht9
      obtain ⟨vx, vy, hxy, hx, hy⟩ := dp_two d10
      have hx := Kp.fr I10.i.ls hx
      have hy := Kp.fr I10.i.ls hy
      have bi := (bb j hj).1
      have bj := (bb i hi).2
      clear I7 I9 hga hgb s8 s9 s10 ht ht9 d10
      walk_at "go"
      refine rdIxT ht10 rfl ?_
      walk_at "go"
      refine ifNo (by decide) ?_
      walk_at "go"
      refine ⟨rfl, ?_⟩
      walk_at "go"
      refine ifNo (by intro z; cases z) ?_
      walk_at "go"
      refine ⟨t2, _, rfl, hxy, rfl, _, _, rfl, _, _, rfl, rfl, ?_⟩
      clear hxy ht10
      walk_at "un"
      walk_at "go"
      refine ⟨_, _, _, _, 90, 90, rfl, Kp.dp hy, Kp.dp hx, bd_neg bi, bj, by decide, ?_⟩
      walk_at "go"
      refine ifNo (Rat.not_lt.mpr (least_le hi hj ci cj)) ?_
      walk_at "go"
      refine ⟨wa, wb, W, L, o, i, i, rfl, I10.w.out, I10.l.out, M, hi, hi, I10.t, fun H11 t3 _ _ _ s11 d11 => ?_, fun H11 f c p hc _ => (cy_ch hc ci).elim⟩
      have I11 := I10.monoT s11
      have hx := Kp.mono (sameTS s11) hx
      have hy := Kp.mono (sameTS s11) hy
      have e11 : PyData.tuple [frD (pS W L i i), frD (-(pS W L i i))] = .tuple [.tuple [.int 0, .int 1], .tuple [.int 0, .int 1]] := by
        have z : pS W L i i = 0 := ci.z
        rw [z]
        rfl
      rw [e11] at d11
      clear I10 s11 e11
      walk_at "go"
      rename_i H12 a12 s12 g12 H13 a13 s13 g13 H14 a14 s14 g14
      have s4 : Same H11 H14 := (s12.trans s13).trans s14
      refine .inr ⟨_, _, Ub.Dp.mono s4 _ _ d11, g14, rfl, rfl, ?_⟩
      rw [SeqAt.eqv_refl _ rfl]
      walk_at "go"
      refine iteF ?_
      have I14 := I11.monoT (UbG.sameT s4)
      have hx := Kp.mono (sameS s4) hx
      have hy := Kp.mono (sameS s4) hy
      clear I11 s4 d11 g12 g13 g14 s12 s13 s14
      walk_at "go"
      refine ⟨wa, wb, W, L, o, j, i, rfl, I14.w.out, I14.l.out, M, hj, hi, I14.t, fun H15 t3 _ _ _ s15 d15 => ?_, fun H15 f c p hc _ => (cy_ch hc ci).elim⟩
      have I15 := I14.monoT s15
      have hx := Kp.mono (sameTS s15) hx
      have hy := Kp.mono (sameTS s15) hy
      walk_at "go"
      rename_i H16 a16 s16 g16
      have g16 : Fr K H16 a16 0 := g16
      refine rd_minusF g16 (Kp.dp (Kp.mono (sameS s16) hy)) bd_zero (bd_neg bi) (by decide) fun H17 v17 s17 h17 => ?_
      walk_at "go"
      rename_i H18 a18 s18 g18
      have g18 : Fr K H18 a18 0 := g18
      have s1618 := (s16.trans s17).trans s18
      refine rd_minusF g18 (Kp.dp (Kp.mono (sameS s1618) hx)) bd_zero bj (by decide) fun H19 v19 s19 h19 => ?_
      refine rdTupD (K := K) (.cons ((h17.mono s18).mono s19) (.cons h19 .nil)) line2 fun H20 v20 s20 h20 => ?_
      have s20' := (s1618.trans s19).trans s20
      have e20 : PyData.tuple [frD (0 - -(pS W L i j)), frD (0 - pS W L j i)] = .tuple [frD (pS W L i j), frD (-(pS W L j i))] := by
        have e1 : (0 : Rat) - -(pS W L i j) = pS W L i j := by grind
        have e2 : (0 : Rat) - pS W L j i = -(pS W L j i) := by grind
        rw [e1, e2]
      have h20 : Dp K H20 v20 (.tuple [frD (pS W L i j), frD (-(pS W L j i))]) := by
        rw [← e20]
        exact h20
      refine .inr ⟨_, _, Ub.Dp.mono s20' _ _ d15, h20, rfl, rfl, ?_⟩
      rw [SeqAt.eqv_refl _ rfl]
      walk_at "go"
      refine iteF ?_
      have I20 := I15.monoT (UbG.sameT s20')
      have hx := Kp.mono (sameS s20') hx
      have hy := Kp.mono (sameS s20') hy
      clear I14 I15 s15 d15 g16 g18 h17 h19 s16 s17 s18 s19 s20 s1618 s20' e20 h20
      -- reached
      refine forOf ?_
      walk_at "it"
      walk_at "un"
      walk_at "go"
      refine ⟨line2, fun bl nbl => ?_⟩
      have sb : Same H20 (upd H20 bl (.lst [.bl true, .bl false])) := sameNew nbl
      have hbl := upd_same (H := H20) (a := bl) (o := .lst [.bl true, .bl false])
      have I21 := I20.monoT (UbG.sameT sb)
      have hx := Kp.mono (sameS sb) hx
      have hy := Kp.mono (sameS sb) hy
      revert sb hbl I21 hx hy
      generalize upd H20 bl (.lst [.bl true, .bl false]) = H21
      intro sb hbl I21 hx hy
      clear I20 sb nbl
      refine ⟨bl, rfl, ⟨_, .inl (.inl hbl)⟩, ?_⟩
      refine FL.list (xs := [.bl true, .bl false]) (fun m σ' H' => ∃ (o10 o11 : Option V), σ' = [some (.ref ad), some (.ref d), some (.ref wa), some (.ref wb), some (.int (i : Nat)), some (.int (j : Nat)), some (.ref t), some (.ref t2), some vx, some vy, o10, o11, none, none, none] ∧ UbG.SameT H21 H') ⟨_, _, rfl, UbG.SameT.refl _⟩ (fun m σ' H' _ ⟨_, _, _, e⟩ => e.seq (.inl (.inl hbl))) ?_ ?_
      · rintro m x σ' H22 hxm ⟨o10, o11, rfl, s22⟩
        obtain ⟨g, rfl⟩ : ∃ g : Bool, x = .bl g := by
          match m, hxm with
          | 0, hxm => exact ⟨_, (Option.some.inj hxm).symm⟩
          | 1, hxm => exact ⟨_, (Option.some.inj hxm).symm⟩
        have I22 := I21.monoT s22
        walk_at "un"
        walk_at "go"
        refine ⟨wa, wb, W, L, o, i, j, g, rfl, I22.w.out, I22.l.out, M, hi, I22.t, ci, fun H23 v cK bK s23 hv => ?_⟩
        have I23 := I22.monoT s23
        have lv := tab_len W.length fun k => vR W L i g k - vR W L i g 0
        have bv : ∀ r ∈ tab W.length (fun k => vR W L i g k - vR W L i g 0), Bd 181 r := fun r hr => by
          obtain ⟨k, hk, e⟩ := List.mem_map.mp hr
          rw [← e]
          exact bd_sub (bK k (List.mem_range.mp hk)) (bK 0 m0)
        walk_at "go"
        refine ⟨wa, wb, v, W, L, o, _, rfl, I23.w.out, I23.l.out, M, hv, fun r hr => (bv r hr).mono (by decide), fun _ H24 s24 => ?_, fun z => absurd (vR_hon hi m0 g cK) z⟩
        walk_at "go"
        refine iteF ?_
        obtain ⟨pa, px, rfl, hpS, hpD⟩ := (hv.mono s24).get
        have at1 : ∀ {k : Nat} (h : k < W.length), (tab W.length fun k => vR W L i g k - vR W L i g 0)[k]'(by rw [lv]; exact h) = vR W L i g k - vR W L i g 0 := fun {k} h => by
          have := tab_at (s := fun k => vR W L i g k - vR W L i g 0) h
          rw [List.getElem?_eq_getElem (by rw [lv]; exact h)] at this
          exact Option.some.inj this
        obtain ⟨v1, e1, h1⟩ := frAt hpD (show j < (tab W.length fun k => vR W L i g k - vR W L i g 0).length by rw [lv]; exact hj)
        obtain ⟨v2, e2, h2⟩ := frAt hpD (show i < (tab W.length fun k => vR W L i g k - vR W L i g 0).length by rw [lv]; exact hi)
        rw [at1 hj] at h1
        rw [at1 hi] at h2
        walk_at "go"
        refine rdIxL hpS (atI_nat e1) ?_
        walk_at "go"
        refine rdIxL hpS (atI_nat e2) ?_
        refine rd_minusF h1 h2 (bd_sub (bK j hj) (bK 0 m0)) (bd_sub (bK i hi) (bK 0 m0)) (by decide) fun H25 v25 s25 h25 => ?_
        rw [vR_diff hi g cK] at h25
        have s2125 : UbG.SameT H21 H25 := (s22.trans s23).trans (UbG.sameT (s24.trans s25))
        walk_at "go"
        refine ⟨line2, fun l2 nl2 => ?_⟩
        have sl : Same H25 (upd H25 l2 (.lst [vx, vy])) := sameNew nl2
        have hx2 : Fr K (upd H25 l2 (.lst [vx, vy])) vx (pS W L j i) := Kp.dp (Kp.mono (sameTS (s2125.trans (UbG.sameT sl))) hx)
        have hy2 : Fr K (upd H25 l2 (.lst [vx, vy])) vy (-(pS W L i j)) := Kp.dp (Kp.mono (sameTS (s2125.trans (UbG.sameT sl))) hy)
        walk_at "go"
        have ixy : ∀ {Q' : VK}, (∀ u, Fr K (upd H25 l2 (.lst [vx, vy])) u (if g then -(pS W L i j) else pS W L j i) → Q' u (upd H25 l2 (.lst [vx, vy]))) → rIx K (.ref l2) (.int (if g then 1 else 0)) (upd H25 l2 (.lst [vx, vy])) Q' := fun {Q'} q' => by
          cases g with
          | true => exact rdIxL (.inl (.inl upd_same)) (atI_nat (j := 1) rfl) (q' _ hy2)
          | false => exact rdIxL (.inl (.inl upd_same)) (atI_nat (j := 0) rfl) (q' _ hx2)
        refine ixy fun u hu => ?_
        refine rdNeFr (h25.mono sl) hu ?_
        walk_at "go"
        refine ifNe rfl ?_
        exact ⟨_, _, rfl, s2125.trans (UbG.sameT sl)⟩
      · rintro σ' H22 ⟨o10, o11, rfl, s22⟩
        have I22 := I21.monoT s22
        have hx := Kp.mono (sameTS s22) hx
        have hy := Kp.mono (sameTS s22) hy
        clear I21 s22 hbl
        walk_at "un"
        -- drawn payments
        refine forOf ?_
        walk_at "it"
        walk_at "un"
        refine ⟨_, rfl, by decide, by decide, ?_⟩
        refine FL.range (n := 3) (fun m σ' H' => ∃ (o11 o12 o13 o14 : Option V), σ' = [some (.ref ad), some (.ref d), some (.ref wa), some (.ref wb), some (.int (i : Nat)), some (.int (j : Nat)), some (.ref t), some (.ref t2), some vx, some vy, o10, o11, o12, o13, o14] ∧ LwJ K d wa wb W L H' ∧ Fr K (wo [d] H') vx (pS W L j i) ∧ Fr K (wo [d] H') vy (-(pS W L i j))) ⟨_, _, _, _, rfl, I22, hx, hy⟩ ?_ ?_
        · rintro m σ' H23 hm ⟨o11, o12, o13, o14, rfl, I23, hx, hy⟩
          walk_at "un"
          walk_at "go"
          rename_i H24 t24 s24 g24
          have g24 : Fr K H24 t24 0 := g24
          refine rdLstH line1 fun H25 p s25 np hp => ?_
          have J25 : DrI K H23 d H25 p [0] := by
            have e : SameS [d] H23 H25 := sameS (s24.trans s25)
            refine ⟨e, I23.i.mono (s24.trans s25), (Nw.of np).back (UbG.sameT s24), ⟨_, hp, ?_⟩, fun r hr => ?_⟩
            · exact Kp.ofNoLAll (ls2 ⟨_, hp⟩ (I23.i.mono (s24.trans s25))) [frD 0] _ rfl (.cons (g24.mono s25) .nil)
            · rw [List.mem_singleton.mp hr]
              exact ⟨by decide, by decide⟩
          refine forOf ?_
          walk_at "it"
          walk_at "un"
          walk_at "go"
          refine lenW (I23.monoT (UbG.sameT (s24.trans s25))) ?_
          walk_at "go"
          refine ⟨by omega, by omega, ?_⟩
          rw [show ((W.length : Nat) : Int) - 1 = ((W.length - 1 : Nat) : Int) by omega, show (((W.length - 1 : Nat) : Nat) : Int).toNat = W.length - 1 by omega]
          refine FL.range (n := W.length - 1) (fun k σ' H' => ∃ (o13 : Option V) (rs : List Rat), σ' = [some (.ref ad), some (.ref d), some (.ref wa), some (.ref wb), some (.int (i : Nat)), some (.int (j : Nat)), some (.ref t), some (.ref t2), some vx, some vy, o10, some (.ref p), some (.int (0 + (m : Nat))), o13, o14] ∧ DrI K H23 d H' p rs ∧ rs.length = k + 1) ⟨_, _, rfl, J25, rfl⟩ ?_ ?_
          · rintro k σ' H26 hk ⟨o13', rs, rfl, J26, l26⟩
            obtain ⟨ys, hy'⟩ := J26.c.ls
            walk_at "un"
            walk_at "go"
            refine ⟨.inl ⟨rfl, _, .inl (.inl hy')⟩, ?_⟩
            walk_at "go"
            refine ⟨d, rfl, J26.i, fun H27 v r s27 i27 hv hb => ?_⟩
            exact (J26.mono I23.i s27 i27).push I23.i (by omega) hv hb fun H28 J28 => ⟨_, _, rfl, J28, by rw [List.length_append, l26]; rfl⟩
          · rintro σ' H26 ⟨o13', rs, rfl, J26, l26⟩
            have lrs : rs.length = W.length := by omega
            have I26 := I23.mono J26.s J26.i
            have hx := Kp.mono J26.s hx
            have hy := Kp.mono J26.s hy
            obtain ⟨ys, hys, hyD⟩ := J26.c
            have hpay : Frs K H26 (.ref p) rs := .lst (.inl (.inl hys)) (Kp.dpAll hyD)
            have brs : ∀ r ∈ rs, Bd 7 r := fun r hr => (J26.b r hr).bd (by decide) (by decide)
            walk_at "un"
            walk_at "go"
            refine ⟨wa, wb, _, W, L, o, rs, rfl, I26.w.out, I26.l.out, M, hpay, fun r hr => (brs r hr).mono (by decide), fun hon H27 s27 => ?_, fun _ H27 s27 => ?_⟩
            · walk_at "go"
              refine iteT ?_
              obtain ⟨v1, e1, h1⟩ := frAt (Kp.dpAll hyD) (show j < rs.length by omega)
              obtain ⟨v2, e2, h2⟩ := frAt (Kp.dpAll hyD) (show i < rs.length by omega)
              have hys27 := s27 _ _ hys
              walk_at "go"
              refine rdIxL (.inl (.inl hys27)) (atI_nat e1) ?_
              walk_at "go"
              refine rdIxL (.inl (.inl hys27)) (atI_nat e2) ?_
              refine rd_minusF (h1.mono s27) (h2.mono s27) (brs _ (List.getElem_mem _)) (brs _ (List.getElem_mem _)) (by decide) fun H28 v28 s28 h28 => ?_
              have bd28 := bd_sub (brs _ (List.getElem_mem (show j < rs.length by omega))) (brs _ (List.getElem_mem (show i < rs.length by omega)))
              have hx28 := Kp.mono (sameS (s27.trans s28)) hx
              have hy28 := Kp.mono (sameS (s27.trans s28)) hy
              have pay : ∀ k m', k < W.length → m' < W.length → gainR W L k m' ≤ (fun k => rs.getD k 0) m' - (fun k => rs.getD k 0) k := fun k m' hk hm' => hon.2.2 k hk m' hm'
              have lo := wk_pay (p := fun k => rs.getD k 0) pay hj (cj.wk i hi) hi
              have up := wk_pay (p := fun k => rs.getD k 0) pay hi (ci.wk j hj) hj
              have lo : pS W L j i ≤ rs.getD j 0 - rs.getD i 0 := lo
              have up : pS W L i j ≤ rs.getD i 0 - rs.getD j 0 := up
              rw [getR_at (show j < rs.length by omega), getR_at (show i < rs.length by omega)] at lo up
              have up : rs[j] - rs[i] ≤ -(pS W L i j) := by grind
              walk_at "go"
              refine ⟨_, _, _, _, 15, 90, rfl, h28, Kp.dp hx28, bd28, bj, by decide, ?_⟩
              walk_at "go"
              refine ifNo (Rat.not_lt.mpr lo) ?_
              walk_at "go"
              refine ⟨_, _, _, _, 90, 15, rfl, Kp.dp hy28, h28, bd_neg bi, bd28, by decide, ?_⟩
              walk_at "go"
              refine ifNo (Rat.not_lt.mpr up) ?_
              exact ⟨_, _, _, _, rfl, I26.monoT (UbG.sameT (s27.trans s28)), hx28, hy28⟩
            · walk_at "go"
              refine iteF ?_
              exact ⟨_, _, _, _, rfl, I26.monoT (UbG.sameT s27), Kp.mono (sameS s27) hx, Kp.mono (sameS s27) hy⟩
        · rintro σ' H23 ⟨o11, o12, o13, o14, rfl, I23, hx, hy⟩
          walk_at "un"
          exact q _
    · refine ⟨ga, gb, W, L, o, i, j, rfl, (hga.monoS (sameS s9)).out, hgb.out, M, hi, hj, I9.t, fun H10 t2 ci _ _ _ _ => (cy_ch hcy ci).elim, fun H10 f c p hc s10 => ?_⟩
      have ht10 := UbG.SameT.tseq s10 ht9
      walk_at "go"
      refine rdIxT ht10 rfl ?_
      walk_at "go"
      refine ifYes rfl ?_
      refine iteT ?_
      walk_at "go"
      refine rdIxT ht10 rfl ?_
      walk_at "go"
      refine ifYes rfl ?_
      walk_at "go"
      refine ⟨rfl, ?_⟩
      exact q _
end
/-! ### the head: what the top holds, by names -/
def d_make : He.DefD := ⟨("make", none), "make", "make", defArgs s_make, defBody s_make, defScope s_make, [.int 1], []⟩
def d_add : He.DefD := ⟨("add", none), "add", "add", defArgs s_add, defBody s_add, defScope s_add, [], []⟩
def d_subtract : He.DefD := ⟨("subtract", none), "subtract", "subtract", defArgs s_subtract, defBody s_subtract, defScope s_subtract, [], []⟩
def d_multiply : He.DefD := ⟨("multiply", none), "multiply", "multiply", defArgs s_multiply, defBody s_multiply, defScope s_multiply, [], []⟩
def d_negate : He.DefD := ⟨("negate", none), "negate", "negate", defArgs s_negate, defBody s_negate, defScope s_negate, [], []⟩
def d_sign : He.DefD := ⟨("sign", none), "sign", "sign", defArgs s_sign, defBody s_sign, defScope s_sign, [], []⟩
def d_compare : He.DefD := ⟨("compare", none), "compare", "compare", defArgs s_compare, defBody s_compare, defScope s_compare, [], []⟩
def d_dot : He.DefD := ⟨("dot", none), "dot", "dot", defArgs s_dot, defBody s_dot, defScope s_dot, [], []⟩
def d__law_mix : He.DefD := ⟨("_law_mix", none), "_law_mix", "_law_mix", defArgs s__law_mix, defBody s__law_mix, defScope s__law_mix, [], []⟩
def d__law_numbers : He.DefD := ⟨("_law_numbers", none), "_law_numbers", "_law_numbers", defArgs s__law_numbers, defBody s__law_numbers, defScope s__law_numbers, [], []⟩
def d__law_take : He.DefD := ⟨("_law_take", none), "_law_take", "_law_take", defArgs s__law_take, defBody s__law_take, defScope s__law_take, [], []⟩
def d__law_lowest : He.DefD := ⟨("_law_lowest", none), "_law_lowest", "_law_lowest", defArgs s__law_lowest, defBody s__law_lowest, defScope s__law_lowest, [], []⟩
def d__law_fraction : He.DefD := ⟨("_law_fraction", none), "_law_fraction", "_law_fraction", defArgs s__law_fraction, defBody s__law_fraction, defScope s__law_fraction, [], []⟩
def d__law_plus : He.DefD := ⟨("_law_plus", none), "_law_plus", "_law_plus", defArgs s__law_plus, defBody s__law_plus, defScope s__law_plus, [], []⟩
def d__law_times : He.DefD := ⟨("_law_times", none), "_law_times", "_law_times", defArgs s__law_times, defBody s__law_times, defScope s__law_times, [], []⟩
def d__law_less : He.DefD := ⟨("_law_less", none), "_law_less", "_law_less", defArgs s__law_less, defBody s__law_less, defScope s__law_less, [], []⟩
def d__law_dot : He.DefD := ⟨("_law_dot", none), "_law_dot", "_law_dot", defArgs s__law_dot, defBody s__law_dot, defScope s__law_dot, [], []⟩
def d__law_minus : He.DefD := ⟨("_law_minus", none), "_law_minus", "_law_minus", defArgs s__law_minus, defBody s__law_minus, defScope s__law_minus, [], []⟩
def d__check_menu : He.DefD := ⟨("_check_menu", none), "_check_menu", "_check_menu", defArgs s__check_menu, defBody s__check_menu, defScope s__check_menu, [], []⟩
def d__gain : He.DefD := ⟨("_gain", none), "_gain", "_gain", defArgs s__gain, defBody s__gain, defScope s__gain, [], []⟩
def d__raised : He.DefD := ⟨("_raised", none), "_raised", "_raised", defArgs s__raised, defBody s__raised, defScope s__raised, [], []⟩
def d__cycle_behind : He.DefD := ⟨("_cycle_behind", none), "_cycle_behind", "_cycle_behind", defArgs s__cycle_behind, defBody s__cycle_behind, defScope s__cycle_behind, [], []⟩
def d__chains : He.DefD := ⟨("_chains", none), "_chains", "_chains", defArgs s__chains, defBody s__chains, defScope s__chains, [], []⟩
def d_highest_payments : He.DefD := ⟨("highest_payments", none), "highest_payments", "highest_payments", defArgs s_highest_payments, defBody s_highest_payments, defScope s_highest_payments, [], []⟩
def d_spread : He.DefD := ⟨("spread", none), "spread", "spread", defArgs s_spread, defBody s_spread, defScope s_spread, [], []⟩
def d__law_gain : He.DefD := ⟨("_law_gain", none), "_law_gain", "_law_gain", defArgs s__law_gain, defBody s__law_gain, defScope s__law_gain, [], []⟩
def d__law_honest : He.DefD := ⟨("_law_honest", none), "_law_honest", "_law_honest", defArgs s__law_honest, defBody s__law_honest, defScope s__law_honest, [], []⟩
def d__law_copies : He.DefD := ⟨("_law_copies", none), "_law_copies", "_law_copies", defArgs s__law_copies, defBody s__law_copies, defScope s__law_copies, [], []⟩
def d__law_menu : He.DefD := ⟨("_law_menu", none), "_law_menu", "_law_menu", defArgs s__law_menu, defBody s__law_menu, defScope s__law_menu, [], []⟩
def d__law_asked : He.DefD := ⟨("_law_asked", none), "_law_asked", "_law_asked", defArgs s__law_asked, defBody s__law_asked, defScope s__law_asked, [], []⟩
def d__law_reached : He.DefD := ⟨("_law_reached", none), "_law_reached", "_law_reached", defArgs s__law_reached, defBody s__law_reached, defScope s__law_reached, [], []⟩
def d_law : He.DefD := ⟨("law", none), "law", "law", defArgs s_law, defBody s_law, defScope s_law, [], []⟩
def fn : List He.DefD := [d_make, d_add, d_subtract, d_multiply, d_negate, d_sign, d_compare, d_dot, d__law_mix, d__law_numbers, d__law_take, d__law_lowest, d__law_fraction, d__law_plus, d__law_times, d__law_less, d__law_dot, d__law_minus, d__check_menu, d__gain, d__raised, d__cycle_behind, d__chains, d_highest_payments, d_spread, d__law_gain, d__law_honest, d__law_copies, d__law_menu, d__law_asked, d__law_reached, d_law]
def fa : List He.Fa := ([.glo "make", .glo "add", .glo "subtract", .glo "multiply", .glo "negate", .glo "sign", .glo "compare", .glo "dot", .glo "_law_mix", .glo "_law_numbers", .glo "_law_take", .glo "_law_lowest", .glo "_law_fraction", .glo "_law_plus", .glo "_law_times", .glo "_law_less", .glo "_law_dot", .glo "_law_minus", .glo "_check_menu", .glo "_gain", .glo "_raised", .glo "_cycle_behind", .glo "_chains", .glo "highest_payments", .glo "spread", .glo "_law_gain", .glo "_law_honest", .glo "_law_copies", .glo "_law_menu", .glo "_law_asked"] : List He.Fa) ++ ([.glo "_law_reached", .glo "law", .free "abs", .free "any", .free "enumerate", .free "int", .free "len", .free "list", .free "min", .free "range", .free "zip", .glo "ZeroDenominator", .exc "ZeroDenominator", .glo "NotHonest", .exc "NotHonest", .exm "NotHonest" "NotHonest" true, .int "_MOST_KINDS" 8, .int "_MOST_OUTCOMES" 6] : List He.Fa)
def ex (K : PySem.W.Frag) : Bool := (He.eqO (PySem.W.nsIn K mainGlobals "gcd") (some (some (.builtin "math.gcd"))) && true)
def tf : List He.Defn := [("_check_menu", none)]
abbrev R : PySem.W.OpenRow := PySem.W.OpenLaw.row PySem.Challenge.rw_unbent_k40_spread_of_two_payments
abbrev loose : List Str := (["gcd", "UnbentError", "TooLarge", "InvalidMenu", "ZeroDenominator", "NotHonest", "make", "add", "subtract", "multiply", "negate", "sign", "compare", "dot", "_MOST_KINDS", "_MOST_OUTCOMES", "_check_menu", "_gain", "_raised", "_cycle_behind", "_chains", "highest_payments", "spread", "_law_mix", "_law_numbers", "_law_take", "_law_fraction", "_law_lowest", "_law_plus", "_law_times"] : List Str) ++ (["_law_less", "_law_dot", "_law_menu", "_law_gain", "_law_minus", "_law_honest", "_law_copies", "_law_asked", "_law_reached"] : List Str)
abbrev hk : PySem.W.Hook := He.hookX 5 fa fn [] tf ex
def ob (s : PySem.W.SharedT) : He.AlX := He.obsX 5 fa fn [] tf ex (HandSHeadRun.getT s)
theorem ob_eq (s : PySem.W.SharedT) : ob s = hk.obs s.abs := He.obsX_eq (HandSHeadRun.getT_eq s)
theorem run (w : World) : HandSHeadRun.RunEqI R (PySem.W.view R.prog [0, 43]) hk ob 4000 loose w := by
  unfold HandSHeadRun.RunEqI
  kernel_rfl
theorem facts {w : World} {K : PySem.W.Frag} {h : Heap} {mg : Str → Option Value} {f : Addr} (X : K.In h) (G : h.Ns mainGlobals mg) (hfa : mg ("law" : Str) = some (.ref f)) (c : He.SaysX fa fn [] tf ex w h K) (P : Program) :
    ∃ fd : FuncData, (∀ (s : Shared) (v : Value), BindsTo s fd ⟨[v], []⟩ [("script", v)]) ∧ ∀ base : Heap, K.In base → base.Ns mainGlobals mg → (∀ p ∈ tf, GxR.TabB base mg (He.cT K p).1 (He.cT K p).2) → FnOk P w K mg base (L2.CX P w) 8 f fd ["script"] (sp_law K) := by
  have cd := c.t.d
  have cm := c.more
  unfold ex at cm
  obtain ⟨cm0, cm⟩ := He.ba cm
  have T : Tx K mg := { n_abs := He.free_ok X G (cd.fact 32 rfl), n_any := He.free_ok X G (cd.fact 33 rfl), n_enumerate := He.free_ok X G (cd.fact 34 rfl), n_int := He.free_ok X G (cd.fact 35 rfl), n_len := He.free_ok X G (cd.fact 36 rfl), n_list := He.free_ok X G (cd.fact 37 rfl), n_min := He.free_ok X G (cd.fact 38 rfl), n_range := He.free_ok X G (cd.fact 39 rfl), n_zip := He.free_ok X G (cd.fact 40 rfl), g_gcd := PySem.W.mg_of X G (He.eqO_ok cm0), c__MOST_KINDS := He.int_ok X G (cd.fact 46 rfl), c__MOST_OUTCOMES := He.int_ok X G (cd.fact 47 rfl), e_ZeroDenominator := ⟨He.glo_ok X G (cd.fact 41 rfl), (He.exc_ok (cd.fact 42 rfl)).1, (He.exc_ok (cd.fact 42 rfl)).2.1, (He.exc_ok (cd.fact 42 rfl)).2.2.1, (He.exc_ok (cd.fact 42 rfl)).2.2.2⟩, e_NotHonest := ⟨He.glo_ok X G (cd.fact 43 rfl), (He.exc_ok (cd.fact 44 rfl)).1, (He.exc_ok (cd.fact 44 rfl)).2.1, (He.exc_ok (cd.fact 44 rfl)).2.2.1, (He.exc_ok (cd.fact 44 rfl)).2.2.2⟩, m_NotHonest_NotHonest := He.exm_ok (cd.fact 45 rfl) }
  obtain ⟨fd_make, F_make⟩ := cd.def_ 0 (d := d_make) rfl
  have m_make := He.glo_ok X G (cd.fact 0 (f := .glo "make") rfl)
  obtain ⟨fd_add, F_add⟩ := cd.def_ 1 (d := d_add) rfl
  have m_add := He.glo_ok X G (cd.fact 1 (f := .glo "add") rfl)
  obtain ⟨fd_subtract, F_subtract⟩ := cd.def_ 2 (d := d_subtract) rfl
  have m_subtract := He.glo_ok X G (cd.fact 2 (f := .glo "subtract") rfl)
  obtain ⟨fd_multiply, F_multiply⟩ := cd.def_ 3 (d := d_multiply) rfl
  have m_multiply := He.glo_ok X G (cd.fact 3 (f := .glo "multiply") rfl)
  obtain ⟨fd_negate, F_negate⟩ := cd.def_ 4 (d := d_negate) rfl
  have m_negate := He.glo_ok X G (cd.fact 4 (f := .glo "negate") rfl)
  obtain ⟨fd_sign, F_sign⟩ := cd.def_ 5 (d := d_sign) rfl
  have m_sign := He.glo_ok X G (cd.fact 5 (f := .glo "sign") rfl)
  obtain ⟨fd_compare, F_compare⟩ := cd.def_ 6 (d := d_compare) rfl
  have m_compare := He.glo_ok X G (cd.fact 6 (f := .glo "compare") rfl)
  obtain ⟨fd_dot, F_dot⟩ := cd.def_ 7 (d := d_dot) rfl
  have m_dot := He.glo_ok X G (cd.fact 7 (f := .glo "dot") rfl)
  obtain ⟨fd__law_mix, F__law_mix⟩ := cd.def_ 8 (d := d__law_mix) rfl
  have m__law_mix := He.glo_ok X G (cd.fact 8 (f := .glo "_law_mix") rfl)
  obtain ⟨fd__law_numbers, F__law_numbers⟩ := cd.def_ 9 (d := d__law_numbers) rfl
  have m__law_numbers := He.glo_ok X G (cd.fact 9 (f := .glo "_law_numbers") rfl)
  obtain ⟨fd__law_take, F__law_take⟩ := cd.def_ 10 (d := d__law_take) rfl
  have m__law_take := He.glo_ok X G (cd.fact 10 (f := .glo "_law_take") rfl)
  obtain ⟨fd__law_lowest, F__law_lowest⟩ := cd.def_ 11 (d := d__law_lowest) rfl
  have m__law_lowest := He.glo_ok X G (cd.fact 11 (f := .glo "_law_lowest") rfl)
  obtain ⟨fd__law_fraction, F__law_fraction⟩ := cd.def_ 12 (d := d__law_fraction) rfl
  have m__law_fraction := He.glo_ok X G (cd.fact 12 (f := .glo "_law_fraction") rfl)
  obtain ⟨fd__law_plus, F__law_plus⟩ := cd.def_ 13 (d := d__law_plus) rfl
  have m__law_plus := He.glo_ok X G (cd.fact 13 (f := .glo "_law_plus") rfl)
  obtain ⟨fd__law_times, F__law_times⟩ := cd.def_ 14 (d := d__law_times) rfl
  have m__law_times := He.glo_ok X G (cd.fact 14 (f := .glo "_law_times") rfl)
  obtain ⟨fd__law_less, F__law_less⟩ := cd.def_ 15 (d := d__law_less) rfl
  have m__law_less := He.glo_ok X G (cd.fact 15 (f := .glo "_law_less") rfl)
  obtain ⟨fd__law_dot, F__law_dot⟩ := cd.def_ 16 (d := d__law_dot) rfl
  have m__law_dot := He.glo_ok X G (cd.fact 16 (f := .glo "_law_dot") rfl)
  obtain ⟨fd__law_minus, F__law_minus⟩ := cd.def_ 17 (d := d__law_minus) rfl
  have m__law_minus := He.glo_ok X G (cd.fact 17 (f := .glo "_law_minus") rfl)
  obtain ⟨fd__check_menu, F__check_menu⟩ := cd.def_ 18 (d := d__check_menu) rfl
  have m__check_menu := He.glo_ok X G (cd.fact 18 (f := .glo "_check_menu") rfl)
  obtain ⟨fd__gain, F__gain⟩ := cd.def_ 19 (d := d__gain) rfl
  have m__gain := He.glo_ok X G (cd.fact 19 (f := .glo "_gain") rfl)
  obtain ⟨fd__raised, F__raised⟩ := cd.def_ 20 (d := d__raised) rfl
  have m__raised := He.glo_ok X G (cd.fact 20 (f := .glo "_raised") rfl)
  obtain ⟨fd__cycle_behind, F__cycle_behind⟩ := cd.def_ 21 (d := d__cycle_behind) rfl
  have m__cycle_behind := He.glo_ok X G (cd.fact 21 (f := .glo "_cycle_behind") rfl)
  obtain ⟨fd__chains, F__chains⟩ := cd.def_ 22 (d := d__chains) rfl
  have m__chains := He.glo_ok X G (cd.fact 22 (f := .glo "_chains") rfl)
  obtain ⟨fd_highest_payments, F_highest_payments⟩ := cd.def_ 23 (d := d_highest_payments) rfl
  have m_highest_payments := He.glo_ok X G (cd.fact 23 (f := .glo "highest_payments") rfl)
  obtain ⟨fd_spread, F_spread⟩ := cd.def_ 24 (d := d_spread) rfl
  have m_spread := He.glo_ok X G (cd.fact 24 (f := .glo "spread") rfl)
  obtain ⟨fd__law_gain, F__law_gain⟩ := cd.def_ 25 (d := d__law_gain) rfl
  have m__law_gain := He.glo_ok X G (cd.fact 25 (f := .glo "_law_gain") rfl)
  obtain ⟨fd__law_honest, F__law_honest⟩ := cd.def_ 26 (d := d__law_honest) rfl
  have m__law_honest := He.glo_ok X G (cd.fact 26 (f := .glo "_law_honest") rfl)
  obtain ⟨fd__law_copies, F__law_copies⟩ := cd.def_ 27 (d := d__law_copies) rfl
  have m__law_copies := He.glo_ok X G (cd.fact 27 (f := .glo "_law_copies") rfl)
  obtain ⟨fd__law_menu, F__law_menu⟩ := cd.def_ 28 (d := d__law_menu) rfl
  have m__law_menu := He.glo_ok X G (cd.fact 28 (f := .glo "_law_menu") rfl)
  obtain ⟨fd__law_asked, F__law_asked⟩ := cd.def_ 29 (d := d__law_asked) rfl
  have m__law_asked := He.glo_ok X G (cd.fact 29 (f := .glo "_law_asked") rfl)
  obtain ⟨fd__law_reached, F__law_reached⟩ := cd.def_ 30 (d := d__law_reached) rfl
  have m__law_reached := He.glo_ok X G (cd.fact 30 (f := .glo "_law_reached") rfl)
  obtain ⟨fd_law, F_law⟩ := cd.def_ 31 (d := d_law) rfl
  have m_law := He.glo_ok X G (cd.fact 31 (f := .glo "law") rfl)
  have e := hfa.symm.trans m_law
  cases e
  have bl := FunD.bindsA (ps := ["script"]) F_law fun _ _ _ _ _ _ us hl => match us, hl with | [_], _ => rfl
  refine ⟨fd_law, fun s v => bl s [v] rfl, fun base _ _ TBs => ?_⟩
  have G_make : FnOk P w K mg base (L2.CX P w) 1 (He.ga K "make") fd_make ["p", "q"] (sp_make K) := ok_make T F_make 
  have C_make : Cal P w K mg base "make" 1 ["p", "q"] [] (sp_make K) := by
    have F1 : FunD K "make" "make" (defArgs s_make) (defBody s_make) (defScope s_make) [V.int 1] [] (He.ga K "make") fd_make := F_make
    obtain ⟨ds, hd, hb⟩ := F1.binds1 (ps := ["p", "q"]) 2 1 (by simp) rfl (fun T kV doc pm an cdv ct us its hu hi => by
      match us, hu, its, hi with
      | [_, _], _, [_], _ =>
        refine ⟨_, rfl, ?_⟩
        rfl)
    exact ⟨_, _, ds, G_make, m_make, F_make.kp, hd, hb⟩
  have G_add : FnOk P w K mg base (L2.CX P w) 2 (He.ga K "add") fd_add ["a", "b"] (sp_add K) := ok_add T F_add C_make
  have C_add : Cal P w K mg base "add" 2 ["a", "b"] [] (sp_add K) := ⟨_, _, [], G_add, m_add, F_add.kp, .nil, F_add.bindsN fun _ _ _ _ _ _ us hl => match us, hl with | [_, _], _ => rfl⟩
  have G_subtract : FnOk P w K mg base (L2.CX P w) 2 (He.ga K "subtract") fd_subtract ["a", "b"] (sp_subtract K) := ok_subtract T F_subtract C_make
  have C_subtract : Cal P w K mg base "subtract" 2 ["a", "b"] [] (sp_subtract K) := ⟨_, _, [], G_subtract, m_subtract, F_subtract.kp, .nil, F_subtract.bindsN fun _ _ _ _ _ _ us hl => match us, hl with | [_, _], _ => rfl⟩
  have G_multiply : FnOk P w K mg base (L2.CX P w) 2 (He.ga K "multiply") fd_multiply ["a", "b"] (sp_multiply K) := ok_multiply T F_multiply C_make
  have C_multiply : Cal P w K mg base "multiply" 2 ["a", "b"] [] (sp_multiply K) := ⟨_, _, [], G_multiply, m_multiply, F_multiply.kp, .nil, F_multiply.bindsN fun _ _ _ _ _ _ us hl => match us, hl with | [_, _], _ => rfl⟩
  have G_negate : FnOk P w K mg base (L2.CX P w) 1 (He.ga K "negate") fd_negate ["a"] (sp_negate K) := ok_negate T F_negate 
  have C_negate : Cal P w K mg base "negate" 1 ["a"] [] (sp_negate K) := ⟨_, _, [], G_negate, m_negate, F_negate.kp, .nil, F_negate.bindsN fun _ _ _ _ _ _ us hl => match us, hl with | [_], _ => rfl⟩
  have G_sign : FnOk P w K mg base (L2.CX P w) 1 (He.ga K "sign") fd_sign ["a"] (sp_sign K) := ok_sign T F_sign 
  have C_sign : Cal P w K mg base "sign" 1 ["a"] [] (sp_sign K) := ⟨_, _, [], G_sign, m_sign, F_sign.kp, .nil, F_sign.bindsN fun _ _ _ _ _ _ us hl => match us, hl with | [_], _ => rfl⟩
  have G_compare : FnOk P w K mg base (L2.CX P w) 2 (He.ga K "compare") fd_compare ["a", "b"] (sp_compare K) := ok_compare T F_compare C_sign
  have C_compare : Cal P w K mg base "compare" 2 ["a", "b"] [] (sp_compare K) := ⟨_, _, [], G_compare, m_compare, F_compare.kp, .nil, F_compare.bindsN fun _ _ _ _ _ _ us hl => match us, hl with | [_, _], _ => rfl⟩
  have G_dot : FnOk P w K mg base (L2.CX P w) 3 (He.ga K "dot") fd_dot ["first", "second"] (sp_dot K) := ok_dot T F_dot C_add C_multiply
  have C_dot : Cal P w K mg base "dot" 3 ["first", "second"] [] (sp_dot K) := ⟨_, _, [], G_dot, m_dot, F_dot.kp, .nil, F_dot.bindsN fun _ _ _ _ _ _ us hl => match us, hl with | [_, _], _ => rfl⟩
  have G__law_mix : FnOk P w K mg base (L2.CX P w) 1 (He.ga K "_law_mix") fd__law_mix ["number", "k"] (sp__law_mix) := ok__law_mix T F__law_mix 
  have C__law_mix : Cal P w K mg base "_law_mix" 1 ["number", "k"] [] (sp__law_mix) := ⟨_, _, [], G__law_mix, m__law_mix, F__law_mix.kp, .nil, F__law_mix.bindsN fun _ _ _ _ _ _ us hl => match us, hl with | [_, _], _ => rfl⟩
  have G__law_numbers : FnOk P w K mg base (L2.CX P w) 2 (He.ga K "_law_numbers") fd__law_numbers ["script", "count"] (sp__law_numbers K) := ok__law_numbers T F__law_numbers C__law_mix
  have C__law_numbers : Cal P w K mg base "_law_numbers" 2 ["script", "count"] [] (sp__law_numbers K) := ⟨_, _, [], G__law_numbers, m__law_numbers, F__law_numbers.kp, .nil, F__law_numbers.bindsN fun _ _ _ _ _ _ us hl => match us, hl with | [_, _], _ => rfl⟩
  have G__law_take : FnOk P w K mg base (L2.CX P w) 1 (He.ga K "_law_take") fd__law_take ["row", "bound"] (sp__law_take) := ok__law_take T F__law_take 
  have C__law_take : Cal P w K mg base "_law_take" 1 ["row", "bound"] [] (sp__law_take) := ⟨_, _, [], G__law_take, m__law_take, F__law_take.kp, .nil, F__law_take.bindsN fun _ _ _ _ _ _ us hl => match us, hl with | [_, _], _ => rfl⟩
  have G__law_lowest : FnOk P w K mg base (L2.CX P w) 1 (He.ga K "_law_lowest") fd__law_lowest ["p", "q"] (sp__law_lowest K) := ok__law_lowest T F__law_lowest 
  have C__law_lowest : Cal P w K mg base "_law_lowest" 1 ["p", "q"] [] (sp__law_lowest K) := ⟨_, _, [], G__law_lowest, m__law_lowest, F__law_lowest.kp, .nil, F__law_lowest.bindsN fun _ _ _ _ _ _ us hl => match us, hl with | [_, _], _ => rfl⟩
  have G__law_fraction : FnOk P w K mg base (L2.CX P w) 2 (He.ga K "_law_fraction") fd__law_fraction ["row"] (sp__law_fraction K) := ok__law_fraction T F__law_fraction C__law_lowest C__law_take
  have C__law_fraction : Cal P w K mg base "_law_fraction" 2 ["row"] [] (sp__law_fraction K) := ⟨_, _, [], G__law_fraction, m__law_fraction, F__law_fraction.kp, .nil, F__law_fraction.bindsN fun _ _ _ _ _ _ us hl => match us, hl with | [_], _ => rfl⟩
  have G__law_plus : FnOk P w K mg base (L2.CX P w) 2 (He.ga K "_law_plus") fd__law_plus ["a", "b"] (sp__law_plus K) := ok__law_plus T F__law_plus C__law_lowest
  have C__law_plus : Cal P w K mg base "_law_plus" 2 ["a", "b"] [] (sp__law_plus K) := ⟨_, _, [], G__law_plus, m__law_plus, F__law_plus.kp, .nil, F__law_plus.bindsN fun _ _ _ _ _ _ us hl => match us, hl with | [_, _], _ => rfl⟩
  have G__law_times : FnOk P w K mg base (L2.CX P w) 2 (He.ga K "_law_times") fd__law_times ["a", "b"] (sp__law_times K) := ok__law_times T F__law_times C__law_lowest
  have C__law_times : Cal P w K mg base "_law_times" 2 ["a", "b"] [] (sp__law_times K) := ⟨_, _, [], G__law_times, m__law_times, F__law_times.kp, .nil, F__law_times.bindsN fun _ _ _ _ _ _ us hl => match us, hl with | [_, _], _ => rfl⟩
  have G__law_less : FnOk P w K mg base (L2.CX P w) 1 (He.ga K "_law_less") fd__law_less ["a", "b"] (sp__law_less K) := ok__law_less T F__law_less 
  have C__law_less : Cal P w K mg base "_law_less" 1 ["a", "b"] [] (sp__law_less K) := ⟨_, _, [], G__law_less, m__law_less, F__law_less.kp, .nil, F__law_less.bindsN fun _ _ _ _ _ _ us hl => match us, hl with | [_, _], _ => rfl⟩
  have G__law_dot : FnOk P w K mg base (L2.CX P w) 3 (He.ga K "_law_dot") fd__law_dot ["first", "second"] (sp__law_dot K) := ok__law_dot T F__law_dot C__law_plus C__law_times
  have C__law_dot : Cal P w K mg base "_law_dot" 3 ["first", "second"] [] (sp__law_dot K) := ⟨_, _, [], G__law_dot, m__law_dot, F__law_dot.kp, .nil, F__law_dot.bindsN fun _ _ _ _ _ _ us hl => match us, hl with | [_, _], _ => rfl⟩
  have G__law_minus : FnOk P w K mg base (L2.CX P w) 3 (He.ga K "_law_minus") fd__law_minus ["a", "b"] (sp__law_minus K) := ok__law_minus T F__law_minus C__law_plus C__law_times
  have C__law_minus : Cal P w K mg base "_law_minus" 3 ["a", "b"] [] (sp__law_minus K) := ⟨_, _, [], G__law_minus, m__law_minus, F__law_minus.kp, .nil, F__law_minus.bindsN fun _ _ _ _ _ _ us hl => match us, hl with | [_, _], _ => rfl⟩
  have G__check_menu : FnOk P w K mg base (L2.CX P w) 2 (He.ga K "_check_menu") fd__check_menu ["worths", "lots"] (sp__check_menu K) := ok__check_menu T F__check_menu rfl (TBs (("_check_menu", none) : He.Defn) (by unfold tf; simp)) 
  have C__check_menu : Cal P w K mg base "_check_menu" 2 ["worths", "lots"] [] (sp__check_menu K) := ⟨_, _, [], G__check_menu, m__check_menu, F__check_menu.kp, .nil, F__check_menu.bindsN fun _ _ _ _ _ _ us hl => match us, hl with | [_, _], _ => rfl⟩
  have G__gain : FnOk P w K mg base (L2.CX P w) 4 (He.ga K "_gain") fd__gain ["worths", "lots", "kind", "other"] (sp__gain K) := ok__gain T F__gain C_dot C_subtract
  have C__gain : Cal P w K mg base "_gain" 4 ["worths", "lots", "kind", "other"] [] (sp__gain K) := ⟨_, _, [], G__gain, m__gain, F__gain.kp, .nil, F__gain.bindsN fun _ _ _ _ _ _ us hl => match us, hl with | [_, _, _, _], _ => rfl⟩
  have G__raised : FnOk P w K mg base (L2.CX P w) 3 (He.ga K "_raised") fd__raised ["gains", "sums", "steps"] (sp__raised K) := ok__raised T F__raised C_add C_compare
  have C__raised : Cal P w K mg base "_raised" 3 ["gains", "sums", "steps"] [] (sp__raised K) := ⟨_, _, [], G__raised, m__raised, F__raised.kp, .nil, F__raised.bindsN fun _ _ _ _ _ _ us hl => match us, hl with | [_, _, _], _ => rfl⟩
  have G__cycle_behind : FnOk P w K mg base (L2.CX P w) 1 (He.ga K "_cycle_behind") fd__cycle_behind ["steps", "kind"] (sp__cycle_behind K) := ok__cycle_behind T F__cycle_behind 
  have C__cycle_behind : Cal P w K mg base "_cycle_behind" 1 ["steps", "kind"] [] (sp__cycle_behind K) := ⟨_, _, [], G__cycle_behind, m__cycle_behind, F__cycle_behind.kp, .nil, F__cycle_behind.bindsN fun _ _ _ _ _ _ us hl => match us, hl with | [_, _], _ => rfl⟩
  have G__chains : FnOk P w K mg base (L2.CX P w) 5 (He.ga K "_chains") fd__chains ["worths", "lots", "last"] (sp__chains K) := ok__chains T F__chains C__cycle_behind C__gain C__raised
  have C__chains : Cal P w K mg base "_chains" 5 ["worths", "lots", "last"] [] (sp__chains K) := ⟨_, _, [], G__chains, m__chains, F__chains.kp, .nil, F__chains.bindsN fun _ _ _ _ _ _ us hl => match us, hl with | [_, _, _], _ => rfl⟩
  have G_highest_payments : FnOk P w K mg base (L2.CX P w) 6 (He.ga K "highest_payments") fd_highest_payments ["worths", "lots"] (sp_highest_payments K) := ok_highest_payments T F_highest_payments C__chains C__check_menu C_negate
  have C_highest_payments : Cal P w K mg base "highest_payments" 6 ["worths", "lots"] [] (sp_highest_payments K) := ⟨_, _, [], G_highest_payments, m_highest_payments, F_highest_payments.kp, .nil, F_highest_payments.bindsN fun _ _ _ _ _ _ us hl => match us, hl with | [_, _], _ => rfl⟩
  have G_spread : FnOk P w K mg base (L2.CX P w) 6 (He.ga K "spread") fd_spread ["worths", "lots", "first", "second"] (sp_spread K) := ok_spread T F_spread C__chains C__check_menu C_negate
  have C_spread : Cal P w K mg base "spread" 6 ["worths", "lots", "first", "second"] [] (sp_spread K) := ⟨_, _, [], G_spread, m_spread, F_spread.kp, .nil, F_spread.bindsN fun _ _ _ _ _ _ us hl => match us, hl with | [_, _, _, _], _ => rfl⟩
  have G__law_gain : FnOk P w K mg base (L2.CX P w) 4 (He.ga K "_law_gain") fd__law_gain ["worths", "lots", "kind", "other"] (sp__law_gain K) := ok__law_gain T F__law_gain C__law_dot C__law_plus C__law_times
  have C__law_gain : Cal P w K mg base "_law_gain" 4 ["worths", "lots", "kind", "other"] [] (sp__law_gain K) := ⟨_, _, [], G__law_gain, m__law_gain, F__law_gain.kp, .nil, F__law_gain.bindsN fun _ _ _ _ _ _ us hl => match us, hl with | [_, _, _, _], _ => rfl⟩
  have G__law_honest : FnOk P w K mg base (L2.CX P w) 5 (He.ga K "_law_honest") fd__law_honest ["worths", "lots", "payments"] (sp__law_honest K) := ok__law_honest T F__law_honest C__law_gain C__law_less C__law_minus
  have C__law_honest : Cal P w K mg base "_law_honest" 5 ["worths", "lots", "payments"] [] (sp__law_honest K) := ⟨_, _, [], G__law_honest, m__law_honest, F__law_honest.kp, .nil, F__law_honest.bindsN fun _ _ _ _ _ _ us hl => match us, hl with | [_, _, _], _ => rfl⟩
  have G__law_copies : FnOk P w K mg base (L2.CX P w) 1 (He.ga K "_law_copies") fd__law_copies ["rows"] (sp__law_copies K) := ok__law_copies T F__law_copies 
  have C__law_copies : Cal P w K mg base "_law_copies" 1 ["rows"] [] (sp__law_copies K) := ⟨_, _, [], G__law_copies, m__law_copies, F__law_copies.kp, .nil, F__law_copies.bindsN fun _ _ _ _ _ _ us hl => match us, hl with | [_], _ => rfl⟩
  have G__law_menu : FnOk P w K mg base (L2.CX P w) 4 (He.ga K "_law_menu") fd__law_menu ["row"] (sp__law_menu K) := ok__law_menu T F__law_menu C__law_dot C__law_fraction C__law_less C__law_lowest C__law_take
  have C__law_menu : Cal P w K mg base "_law_menu" 4 ["row"] [] (sp__law_menu K) := ⟨_, _, [], G__law_menu, m__law_menu, F__law_menu.kp, .nil, F__law_menu.bindsN fun _ _ _ _ _ _ us hl => match us, hl with | [_], _ => rfl⟩
  have G__law_asked : FnOk P w K mg base (L2.CX P w) 7 (He.ga K "_law_asked") fd__law_asked ["worths", "lots", "first", "second"] (sp__law_asked K) := ok__law_asked T F__law_asked C_spread
  have C__law_asked : Cal P w K mg base "_law_asked" 7 ["worths", "lots", "first", "second"] [] (sp__law_asked K) := ⟨_, _, [], G__law_asked, m__law_asked, F__law_asked.kp, .nil, F__law_asked.bindsN fun _ _ _ _ _ _ us hl => match us, hl with | [_, _, _, _], _ => rfl⟩
  have G__law_reached : FnOk P w K mg base (L2.CX P w) 7 (He.ga K "_law_reached") fd__law_reached ["worths", "lots", "first", "second", "greatest"] (sp__law_reached K) := ok__law_reached T F__law_reached C__law_minus C__law_plus C_spread
  have C__law_reached : Cal P w K mg base "_law_reached" 7 ["worths", "lots", "first", "second", "greatest"] [] (sp__law_reached K) := ⟨_, _, [], G__law_reached, m__law_reached, F__law_reached.kp, .nil, F__law_reached.bindsN fun _ _ _ _ _ _ us hl => match us, hl with | [_, _, _, _, _], _ => rfl⟩
  exact ok_law T F_law C__law_asked C__law_copies C__law_fraction C__law_honest C__law_less C__law_menu C__law_minus C__law_numbers C__law_reached C__law_take C_highest_payments C_spread
end UbK
open PySem PySem.W PySem.Calls PyProof.Rows
set_option maxHeartbeats 0 in
theorem PySem.Challenge.cw_unbent_k40_spread_of_two_payments_holds : PySem.Challenge.rw_unbent_k40_spread_of_two_payments.Holds := by
  w_on; o_law
  refine HandSHeadRun.head_imp (r := OpenLaw.row PySem.Challenge.rw_unbent_k40_spread_of_two_payments) (q := view (OpenLaw.row PySem.Challenge.rw_unbent_k40_spread_of_two_payments).prog [0, 43]) (H := UbK.hk) (ob := UbK.ob) (M := 4000) (loose := UbK.loose) (d := HandSHeadRun.topDef (OpenLaw.row PySem.Challenge.rw_unbent_k40_spread_of_two_payments).prog 43) (kwd := []) UbK.ob_eq UbK.run
    (by kernel_rfl) (by kernel_rfl) (by kernel_rfl) (by rfl) (by first | assumption | decide +kernel) (by decide +kernel) ⟨rfl, rfl, rfl, rfl, rfl, by decide +kernel⟩ ?hw ?hc
  case hw => w_witness2
  case hc =>
    refine UbG.endOfLawT (l := PySem.Challenge.rw_unbent_k40_spread_of_two_payments) (n := 63) (k := 8) (x := "script") rfl (by decide) (by kernel_rfl) ⟨rfl, by decide, by decide⟩ UbK.tf ?F
    intro w mg fa h Y G hmg0
    obtain ⟨K, KX, c⟩ := Y
    have hmg : mg ("law" : PySem.Str) = some (.ref fa) := by
      have e : (HandSHeadRun.topDef (OpenLaw.row PySem.Challenge.rw_unbent_k40_spread_of_two_payments).prog 43).name = ("law" : PySem.Str) := by kernel_rfl
      rw [← e]
      exact hmg0
    obtain ⟨fd, hb, hF⟩ := UbK.facts KX G hmg c (PySem.Challenge.rw_unbent_k40_spread_of_two_payments).prog
    exact ⟨K, fd, UbK.sp_law K, KX, c.hd, c.out, c.empty, hb, fun H a ns hl hz hT hS => ⟨a, ns, rfl, hS, hl, hz, hT, fun _ => rfl⟩, hF⟩
