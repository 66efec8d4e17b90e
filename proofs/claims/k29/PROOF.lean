import PyProof.Rows.All
import Wide.All
import OpenK.AllK
import Wide.FinOn
import HandS.ForMost
import HandS.ForExc
import HandS.Wide
import HandS.Gcd
import HandS.IsInst
import HandS.Defaults
import HandS.ExcIs
import HandS.Flow
import HandS.Small
import HandS.HeadHook4
import HandS.HeadEnd
import HandS.AnyAll
import HandS.GenList
import HandS.NestedK
import HandS.HeadWalk
import HandS.Rev
import HandS.Head0
import HandS.Head1
import HandS.Head2
import HandS.HeadHook1
import HandS.HeadHook2
import HandS.HeadHook3
import HandS.Head3
import PySem.Challenge.RW_unbent_k29_draws_by_tickets
set_option Elab.async false
set_option linter.all false
set_option maxRecDepth 100000
set_option maxHeartbeats 4000000
/-! Plain mathematics: Euclid by a bounded number of turns, fractions as Rat. -/
namespace UbM
/-- m turns of Euclid are enough for a, b -/
def Enough (m a b : Nat) : Prop := ∃ e, (b < 2 ^ e ∧ 2 * e + 1 ≤ m) ∨ (b < a ∧ a < 2 ^ (e + 1) ∧ 2 * e + 2 ≤ m)
theorem Enough.pos {m a b : Nat} (h : Enough m a b) : 0 < m := by
  obtain ⟨e, h | h⟩ := h <;> omega
theorem half_mod {a b : Nat} (hb : 0 < b) (h : b < a) : 2 * (a % b) < a := by
  have h1 := Nat.mod_lt a hb
  have h2 := Nat.div_add_mod a b
  have h3 : 1 ≤ a / b := (Nat.le_div_iff_mul_le hb).mpr (by omega)
  have h4 : b * 1 ≤ b * (a / b) := Nat.mul_le_mul_left b h3
  omega
theorem Enough.step {m a b : Nat} (hb : 0 < b) (h : Enough m a b) : Enough (m - 1) b (a % b) := by
  obtain ⟨e, ⟨h1, h2⟩ | ⟨h1, h2, h3⟩⟩ := h
  · cases e with
    | zero =>
      have : b < 1 := h1
      omega
    | succ e =>
      refine ⟨e, .inr ⟨Nat.mod_lt _ hb, h1, by omega⟩⟩
  · refine ⟨e, .inl ⟨?_, by omega⟩⟩
    have h4 := half_mod hb h1
    have h5 : 2 ^ (e + 1) = 2 ^ e * 2 := Nat.pow_succ ..
    omega
theorem enough_of {m a b e : Nat} (h : b < 2 ^ e) (hm : 2 * e + 1 ≤ m) : Enough m a b := ⟨e, .inl ⟨h, hm⟩⟩
/-! ### fractions -/
theorem int_gcd (p q : Int) : q.gcd p = Nat.gcd p.natAbs q.natAbs := by
  unfold Int.gcd
  exact Nat.gcd_comm ..
theorem num_pos {p q : Int} (h : 0 < q) : p / ((Nat.gcd p.natAbs q.natAbs : Nat) : Int) = (Rat.divInt p q).num := by
  rw [Rat.num_divInt, int_gcd, Int.sign_eq_one_of_pos h, Int.one_mul]
theorem den_pos {p q : Int} (h : 0 < q) : q / ((Nat.gcd p.natAbs q.natAbs : Nat) : Int) = ((Rat.divInt p q).den : Int) := by
  rw [Rat.den_divInt, if_neg (by omega), int_gcd]
  have e : (q.natAbs : Int) = q := by omega
  rw [Int.natCast_ediv, e]
theorem gcd_pos {p q : Int} (h : q ≠ 0) : 0 < Nat.gcd p.natAbs q.natAbs := Nat.gcd_pos_of_pos_right _ (by omega)
theorem fdiv_neg_dvd {a b : Int} (h : b ∣ a) : a.fdiv (-b) = -(a / b) := by
  obtain ⟨c, rfl⟩ := h
  by_cases hb : b = 0
  · subst hb
    simp
  · rw [Int.mul_ediv_cancel_left _ hb]
    have e : b * c = -b * -c := by rw [Int.neg_mul_neg]
    rw [e, Int.mul_fdiv_cancel_left _ (by omega)]
theorem dvd_l (p q : Int) : ((Nat.gcd p.natAbs q.natAbs : Nat) : Int) ∣ p := Int.ofNat_dvd_left.mpr (Nat.gcd_dvd_left ..)
theorem dvd_r (p q : Int) : ((Nat.gcd p.natAbs q.natAbs : Nat) : Int) ∣ q := Int.ofNat_dvd_left.mpr (Nat.gcd_dvd_right ..)
theorem num_neg {p q : Int} (h : q < 0) : p.fdiv (-((Nat.gcd p.natAbs q.natAbs : Nat) : Int)) = (Rat.divInt p q).num := by
  rw [fdiv_neg_dvd (dvd_l p q), Rat.num_divInt, int_gcd, Int.sign_eq_neg_one_of_neg h, Int.neg_one_mul, Int.neg_ediv_of_dvd (dvd_l p q)]
theorem den_neg {p q : Int} (h : q < 0) : q.fdiv (-((Nat.gcd p.natAbs q.natAbs : Nat) : Int)) = ((Rat.divInt p q).den : Int) := by
  rw [fdiv_neg_dvd (dvd_r p q), Rat.den_divInt, if_neg (by omega), int_gcd]
  have e : (q.natAbs : Int) = -q := by omega
  rw [Int.natCast_ediv, e, Int.neg_ediv_of_dvd (dvd_r p q)]
/-! ### sizes -/
def Bd (n : Nat) (r : Rat) : Prop := r.num.natAbs < 2 ^ n ∧ r.den < 2 ^ n
theorem bd_divInt {p q : Int} {n : Nat} (hq : q ≠ 0) (h1 : p.natAbs < 2 ^ n) (h2 : q.natAbs < 2 ^ n) : Bd n (Rat.divInt p q) := by
  constructor
  · by_cases h : 0 < q
    · rw [← num_pos h, Int.natAbs_ediv_of_dvd (dvd_l p q)]
      exact Nat.lt_of_le_of_lt (Nat.div_le_self ..) h1
    · rw [← num_neg (show q < 0 by omega), fdiv_neg_dvd (dvd_l p q), Int.natAbs_neg, Int.natAbs_ediv_of_dvd (dvd_l p q)]
      exact Nat.lt_of_le_of_lt (Nat.div_le_self ..) h1
  · rw [Rat.den_divInt, if_neg hq]
    exact Nat.lt_of_le_of_lt (Nat.div_le_self ..) h2
theorem Bd.mono {n m : Nat} {r : Rat} (h : Bd n r) (k : n ≤ m) : Bd m r := ⟨Nat.lt_of_lt_of_le h.1 (Nat.pow_le_pow_right (by decide) k), Nat.lt_of_lt_of_le h.2 (Nat.pow_le_pow_right (by decide) k)⟩
theorem mul_lt {i j : Int} {a b : Nat} (ha : i.natAbs < 2 ^ a) (hb : j.natAbs < 2 ^ b) : (i * j).natAbs < 2 ^ (a + b) := by
  rw [Int.natAbs_mul, Nat.pow_add]
  exact Nat.mul_lt_mul'' ha hb
theorem add_lt {i j : Int} {a b : Nat} (ha : i.natAbs < 2 ^ a) (hb : j.natAbs < 2 ^ b) : (i + j).natAbs < 2 ^ (max a b + 1) := by
  have h1 : (2 : Nat) ^ a ≤ 2 ^ (max a b) := Nat.pow_le_pow_right (by decide) (by omega)
  have h2 : (2 : Nat) ^ b ≤ 2 ^ (max a b) := Nat.pow_le_pow_right (by decide) (by omega)
  have h3 : (2 : Nat) ^ (max a b + 1) = 2 ^ (max a b) * 2 := Nat.pow_succ ..
  omega
theorem sub_lt {i j : Int} {a b : Nat} (ha : i.natAbs < 2 ^ a) (hb : j.natAbs < 2 ^ b) : (i - j).natAbs < 2 ^ (max a b + 1) := by
  have h1 : (2 : Nat) ^ a ≤ 2 ^ (max a b) := Nat.pow_le_pow_right (by decide) (by omega)
  have h2 : (2 : Nat) ^ b ≤ 2 ^ (max a b) := Nat.pow_le_pow_right (by decide) (by omega)
  have h3 : (2 : Nat) ^ (max a b + 1) = 2 ^ (max a b) * 2 := Nat.pow_succ ..
  omega
theorem den_ne (r : Rat) : (r.den : Int) ≠ 0 := by
  have := r.den_nz
  omega
theorem den_p (r : Rat) : (0 : Int) < r.den := by
  have := r.den_nz
  omega
theorem den_lt {r : Rat} {n : Nat} (h : Bd n r) : (r.den : Int).natAbs < 2 ^ n := h.2
theorem add_as (r s : Rat) : Rat.divInt (r.num * s.den + s.num * r.den) (r.den * s.den) = r + s := by
  rw [Rat.add_def', ← Rat.divInt_ofNat, Int.natCast_mul]
theorem sub_as (r s : Rat) : Rat.divInt (r.num * s.den - s.num * r.den) (r.den * s.den) = r - s := by
  rw [Rat.sub_def', ← Rat.divInt_ofNat, Int.natCast_mul]
theorem mul_as (r s : Rat) : Rat.divInt (r.num * s.num) (r.den * s.den) = r * s := by
  rw [Rat.mul_def', ← Rat.divInt_ofNat, Int.natCast_mul]
theorem div_as (r s : Rat) : Rat.divInt (r.num * s.den) (r.den * s.num) = r / s := by
  rw [Rat.div_def, Rat.inv_def]
  conv => rhs; rw [← Rat.num_divInt_den r]
  rw [Rat.divInt_mul_divInt]
theorem bd_add {r s : Rat} {a b : Nat} (hr : Bd a r) (hs : Bd b s) : Bd (a + b + 1) (r + s) := by
  rw [← add_as]
  refine bd_divInt (Int.mul_ne_zero (den_ne r) (den_ne s)) ?_ ?_
  · have := add_lt (mul_lt hr.1 (den_lt hs)) (mul_lt hs.1 (den_lt hr))
    rw [show max (a + b) (b + a) + 1 = a + b + 1 by omega] at this
    exact this
  · exact Nat.lt_of_lt_of_le (mul_lt (den_lt hr) (den_lt hs)) (Nat.pow_le_pow_right (by decide) (by omega))
theorem bd_sub {r s : Rat} {a b : Nat} (hr : Bd a r) (hs : Bd b s) : Bd (a + b + 1) (r - s) := by
  rw [← sub_as]
  refine bd_divInt (Int.mul_ne_zero (den_ne r) (den_ne s)) ?_ ?_
  · have := sub_lt (mul_lt hr.1 (den_lt hs)) (mul_lt hs.1 (den_lt hr))
    rw [show max (a + b) (b + a) + 1 = a + b + 1 by omega] at this
    exact this
  · exact Nat.lt_of_lt_of_le (mul_lt (den_lt hr) (den_lt hs)) (Nat.pow_le_pow_right (by decide) (by omega))
theorem bd_mul {r s : Rat} {a b : Nat} (hr : Bd a r) (hs : Bd b s) : Bd (a + b) (r * s) := by
  rw [← mul_as]
  exact bd_divInt (Int.mul_ne_zero (den_ne r) (den_ne s)) (mul_lt hr.1 hs.1) (mul_lt (den_lt hr) (den_lt hs))
theorem bd_neg {r : Rat} {a : Nat} (hr : Bd a r) : Bd a (-r) := ⟨by rw [Rat.neg_num, Int.natAbs_neg]; exact hr.1, hr.2⟩
theorem bd_div {r s : Rat} {a b : Nat} (hz : s ≠ 0) (hr : Bd a r) (hs : Bd b s) : Bd (a + b) (r / s) := by
  rw [← div_as]
  exact bd_divInt (Int.mul_ne_zero (den_ne r) fun h => hz (Rat.num_eq_zero.mp h)) (mul_lt hr.1 (den_lt hs)) (mul_lt (den_lt hr) hs.1)
/-! ### the order -/
/-- -1, 0, 1 as r is below, equal to, above s -/
def cmpR (r s : Rat) : Int := Int.sign (r.num * s.den - s.num * r.den)
theorem cmpR_lt {r s : Rat} (h : r < s) : cmpR r s = -1 := by
  have := (Rat.lt_iff r s).mp h
  exact Int.sign_eq_neg_one_of_neg (by omega)
theorem cmpR_gt {r s : Rat} (h : s < r) : cmpR r s = 1 := by
  have := (Rat.lt_iff s r).mp h
  exact Int.sign_eq_one_of_pos (by omega)
theorem cmpR_self (r : Rat) : cmpR r r = 0 := by
  unfold cmpR
  rw [Int.sub_self]
  rfl
theorem cmpR_cases (r s : Rat) : (r < s ∧ cmpR r s = -1) ∨ (r = s ∧ cmpR r s = 0) ∨ (s < r ∧ cmpR r s = 1) := by
  by_cases h : r = s
  · subst h
    exact .inr (.inl ⟨rfl, cmpR_self r⟩)
  · by_cases h2 : r < s
    · exact .inl ⟨h2, cmpR_lt h2⟩
    · have h3 : s < r := Rat.lt_of_le_of_ne (Rat.not_lt.mp h2) fun e => h e.symm
      exact .inr (.inr ⟨h3, cmpR_gt h3⟩)
theorem cmpR_swap (r s : Rat) : cmpR s r = -cmpR r s := by
  rcases cmpR_cases r s with ⟨h, e⟩ | ⟨h, e⟩ | ⟨h, e⟩
  · rw [e, cmpR_gt h]
    rfl
  · rw [e, h, cmpR_self]
    rfl
  · rw [e, cmpR_lt h]
theorem cmpR_add (r s t : Rat) : cmpR (r + t) (s + t) = cmpR r s := by
  rcases cmpR_cases r s with ⟨h, e⟩ | ⟨h, e⟩ | ⟨h, e⟩
  · rw [e, cmpR_lt (Rat.add_lt_add_right.mpr h)]
  · rw [e, h, cmpR_self]
  · rw [e, cmpR_gt (Rat.add_lt_add_right.mpr h)]
theorem cmpR_mul {r s t : Rat} (ht : 0 < t) : cmpR (r * t) (s * t) = cmpR r s := by
  rcases cmpR_cases r s with ⟨h, e⟩ | ⟨h, e⟩ | ⟨h, e⟩
  · rw [e, cmpR_lt ((Rat.mul_lt_mul_right ht).mpr h)]
  · rw [e, h, cmpR_self]
  · rw [e, cmpR_gt ((Rat.mul_lt_mul_right ht).mpr h)]
theorem neg_pos {t : Rat} (h : t < 0) : 0 < -t := by
  have := Rat.neg_lt_neg h
  rw [Rat.neg_zero] at this
  exact this
theorem cmpR_mul_neg {r s t : Rat} (ht : t < 0) : cmpR (r * t) (s * t) = -cmpR r s := by
  have h1 := cmpR_mul (r := r) (s := s) (neg_pos ht)
  rw [Rat.mul_neg, Rat.mul_neg] at h1
  rw [← h1, ← cmpR_swap]
  unfold cmpR
  rw [Rat.neg_num, Rat.neg_num, Rat.neg_den, Rat.neg_den, Int.neg_mul, Int.neg_mul]
  congr 1
  omega
theorem sign_as (d : Int) : (if decide (0 < d) = true then (1 : Int) else 0) - (if decide (d < 0) = true then (1 : Int) else 0) = Int.sign d := by
  rcases Int.lt_trichotomy d 0 with h | h | h
  · rw [decide_eq_true h, decide_eq_false (show ¬0 < d by omega), Int.sign_eq_neg_one_of_neg h]
    rfl
  · subst h
    rfl
  · rw [decide_eq_true h, decide_eq_false (show ¬d < 0 by omega), Int.sign_eq_one_of_pos h]
    rfl
theorem cmpR_zero (r : Rat) : cmpR r 0 = Int.sign r.num := by
  unfold cmpR
  rw [Rat.zero_num, Rat.zero_den]
  congr 1
  omega
theorem num_pos_iff {r : Rat} : 0 < r.num ↔ 0 < r := by
  have h := Rat.lt_iff 0 r
  rw [Rat.zero_num, Rat.zero_den] at h
  rw [h]
  omega
theorem num_neg_iff {r : Rat} : r.num < 0 ↔ r < 0 := by
  have h := Rat.lt_iff r 0
  rw [Rat.zero_num, Rat.zero_den] at h
  rw [h]
  omega
end UbM

namespace Ub
open PySem PySem.Spec PyProof.Rows L2 UbM
/-! ### heaps -/
theorem sameNew {H : Hp} {p : Addr} {o : HO} (h : H p = none) : Same H (upd H p o) := fun b x e => by
  rw [upd_ne (ne_of_none e h)]
  exact e
theorem Same.tseq {K : PySem.W.Frag} {H H' : Hp} {a : Addr} {xs : List V} (e : Same H H') (h : SqT K H a xs) : SqT K H' a xs := by
  rcases h with (h | ⟨o, h⟩) | h
  · exact .inl (.inl (e _ _ h))
  · exact .inl (.inr ⟨o, e _ _ h⟩)
  · exact .inr h
mutual
theorem Dp.mono {K : PySem.W.Frag} {H H' : Hp} (e : Same H H') : ∀ (d : PyData) (v : V), Dp K H v d → Dp K H' v d
  | .none, _, h => by cases h; exact .non
  | .bool b, _, h => by cases h; exact .bl b
  | .int i, _, h => by cases h; exact .int i
  | .str x, _, h => by cases h; exact .str x
  | .list ds, _, h => by
    cases h with
    | lst hs ha => exact .lst (Same.seq e hs) (Dp.monoAll e ds _ ha)
  | .tuple ds, _, h => by
    cases h with
    | tup hs ha => exact .tup (Same.tseq e hs) (Dp.monoAll e ds _ ha)
  | .dict _, _, h => by cases h
theorem Dp.monoAll {K : PySem.W.Frag} {H H' : Hp} (e : Same H H') : ∀ (ds : List PyData) (vs : List V), DpAll K H vs ds → DpAll K H' vs ds
  | [], _, h => by cases h; exact .nil
  | d :: ds, _, h => by
    cases h with
    | cons h1 h2 => exact .cons (Dp.mono e d _ h1) (Dp.monoAll e ds _ h2)
end
/-- a fraction as data -/
def frD (r : Rat) : PyData := .tuple [.int r.num, .int (r.den : Int)]
/-- v is the fraction r -/
def Fr (K : PySem.W.Frag) (H : Hp) (v : V) (r : Rat) : Prop := Dp K H v (frD r)
theorem Fr.mono {K : PySem.W.Frag} {H H' : Hp} {v : V} {r : Rat} (e : Same H H') (h : Fr K H v r) : Fr K H' v r := Dp.mono e _ _ h
theorem Fr.get {K : PySem.W.Frag} {H : Hp} {v : V} {r : Rat} (h : Fr K H v r) : ∃ a, v = .ref a ∧ SqT K H a [.int r.num, .int (r.den : Int)] := by
  unfold Fr frD at h
  cases h with
  | tup hs ha =>
    cases ha with
    | cons h1 h2 =>
      cases h2 with
      | cons h2 h3 =>
        cases h3
        cases h1
        cases h2
        exact ⟨_, rfl, hs⟩
theorem fr_of {K : PySem.W.Frag} {H : Hp} {a : Addr} {r : Rat} {p q : Int} (h : SqT K H a [.int p, .int q]) (hp : p = r.num) (hq : q = (r.den : Int)) : Fr K H (.ref a) r := by
  subst hp hq
  exact .tup h (.cons (.int _) (.cons (.int _) .nil))
theorem frNew {K : PySem.W.Frag} {H : Hp} {a : Addr} {r : Rat} {p q : Int} (hp : p = r.num) (hq : q = (r.den : Int)) : Fr K (upd H a (.tup [.int p, .int q])) (.ref a) r := fr_of (.inl (.inl upd_same)) hp hq
/-! ### operators on ints of any size that these laws meet -/
def CDivX (_ j : Int) : Prop := j ≠ 0 ∧ j.natAbs.log2 < 9000
theorem cdivX {i j : Int} {b : Nat} (h : j ≠ 0) (hb : j.natAbs < 2 ^ b) (h0 : 0 < b) (h9 : b ≤ 9000) : CDivX i j := ⟨h, Nat.lt_of_lt_of_le (PySem.Flt.log2_lt_of h0 hb) h9⟩
section
variable {X : Cx}
theorem op_fdivX : OpR X (binaryOp .FloorDiv) (rI CDivX fun i j => .int (i.fdiv j)) := opI fun i j _ _ _ _ _ hc q => floordiv_int hc.1 q (.inl (PyProof.noPylong_of_log2 hc.2))
end
/-- * of two ints: one below 2 ^ 64, or together below a million bits -/
def CMulG (i j : Int) : Prop := CMul i j ∨ CMulW i j
section
variable {X : Cx}
theorem op_mulG : OpR X (binaryOp .Mult) (rI CMulG fun i j => .int (i * j)) := opI fun _ _ _ _ _ _ _ hc q => mul_int q (by
  rcases hc with hc | hc
  · exact hc.ok
  · exact hc.ok)
end
theorem fdiv_pos {i j : Int} (h : 0 < j) : i.fdiv j = i / j := Int.fdiv_eq_ediv_of_nonneg i (by omega)
/-! ### calls of the program's own defs -/
/-- at the name x stands a def that keeps the promise sp, by at most level k; dvs: the defaults that fill up -/
structure Cal (P : Program) (w : World) (K : PySem.W.Frag) (mg : Str → Option Value) (base : Heap) (x : Str) (k : Nat) (ps : List Str) (dvs : List V) (sp : Sp) : Prop where
  ex : ∃ (f : Addr) (fd : FuncData) (ds : List Value), FnOk P w K mg base (L2.CX P w) k f fd ps sp ∧ mg x = some (.ref f) ∧ PySem.W.keepIn K (.ref f) = true ∧ Vals dvs ds ∧ Binds K fd ps ds
section
variable {X : Cx} {x : Str} {k j : Nat} {ps : List Str} {dvs : List V} {sp : Sp} {p pos : Pos} {e : Expr} {es : List Expr} {t : TA}
theorem pe_callC (C : Cal X.prog X.w X.K X.mg X.base x k ps dvs sp) (hr : Room j X.A) (hj : k ≤ j) (hg : Gl X x) (ha : PA X (e :: es) t) (hdb : (x == ("__debug__" : Str)) = false := by decide)
    (he : starEach (e :: es) X.env = (false, eval e X.env) :: starEach es X.env := by rfl) (hpl : (backTo pos (starEach es X.env)).any (·.1) = false := by rfl) :
    PE X (.Call (.Name x p) (e :: es) [] pos) (tCall sp dvs E0 t) := by
  obtain ⟨f, fd, ds, F, hm, hk, hd, hb⟩ := C.ex
  exact pe_call F (hr.mono hj) hg hm hk hb hd passL ha hdb he hpl
theorem pe_callC0 (C : Cal X.prog X.w X.K X.mg X.base x k ps dvs sp) (hr : Room j X.A) (hj : k ≤ j) (hg : Gl X x) (hdb : (x == ("__debug__" : Str)) = false := by decide) : PE X (.Call (.Name x p) [] [] pos) (tCall sp dvs E0 tNil) := by
  obtain ⟨f, fd, ds, F, hm, hk, hd, hb⟩ := C.ex
  exact pe_call0 F (hr.mono hj) hg hm hk hb hd passL hdb
/-- in a def that may raise: what the callee raises leaves it -/
theorem pe_callCX {E : XK} (C : Cal X.prog X.w X.K X.mg X.base x k ps dvs sp) (hr : Room j X.A) (hj : k ≤ j) (hg : Gl X x) (tk : Takes X (fun cls d _ H => E cls d H)) (ha : PA X (e :: es) t) (hdb : (x == ("__debug__" : Str)) = false := by decide)
    (he : starEach (e :: es) X.env = (false, eval e X.env) :: starEach es X.env := by rfl) (hpl : (backTo pos (starEach es X.env)).any (·.1) = false := by rfl) :
    PE X (.Call (.Name x p) (e :: es) [] pos) (tCall sp dvs E t) := by
  obtain ⟨f, fd, ds, F, hm, hk, hd, hb⟩ := C.ex
  exact pe_call F (hr.mono hj) hg hm hk hb hd (passes_call tk fun _ _ _ _ h => h) ha hdb he hpl
/-- in a try: what it raises goes to the clause -/
theorem pe_callCS {W : WX} (C : Cal X.prog X.w X.K X.mg X.base x k ps [] sp) (hr : Room j X.A) (hj : k ≤ j) (hg : Gl X x) (tk : Takes X W) (ha : PA X (e :: es) t) (hdb : (x == ("__debug__" : Str)) = false := by decide)
    (he : starEach (e :: es) X.env = (false, eval e X.env) :: starEach es X.env := by rfl) (hpl : (backTo pos (starEach es X.env)).any (·.1) = false := by rfl) :
    PE X (.Call (.Name x p) (e :: es) [] pos) (tCallS sp (WE W) t) := by
  obtain ⟨f, fd, ds, F, hm, hk, hd, hb⟩ := C.ex
  cases hd
  exact pe_callS F (hr.mono hj) hg hm hk hb (fun σ => passAt tk σ) ha hdb he hpl
end
theorem Cal.mono {P : Program} {w : World} {K : PySem.W.Frag} {mg : Str → Option Value} {base : Heap} {x : Str} {k : Nat} {ps : List Str} {dvs : List V} {sp sp' : Sp} (C : Cal P w K mg base x k ps dvs sp)
    (h : ∀ vs H Q E, sp' vs H Q E → sp vs H Q E) : Cal P w K mg base x k ps dvs sp' := by
  obtain ⟨f, fd, ds, F, r⟩ := C.ex
  exact ⟨f, fd, ds, F.imp h, r⟩
/-! ### own exceptions -/
section
variable {X : Cx} {C : Addr} {bmB : List Value} {B newId initId : String}
/-- X(), X an own exception class without own __init__ -/
theorem pmk_own0 {x : Str} {p pos : Pos} (F : ExcBaseFacts B newId initId bmB) (q : PySem.W.excIn X.K C bmB newId = true) (gC : X.mg x = some (.ref C)) (kC : PySem.W.keepIn X.K (.ref C) = true) (r : Raises X (.ref C)) (hg : Gl X x)
    (hdb : (x == ("__debug__" : Str)) = false := by decide) : PMk X (.Call (.Name x p) [] [] pos) (fun _ H Q => Q (.ref C) none H) := by
  intro pins s σ H Q I h
  refine wpAny_Call_Name_kw (ld_glob I hg gC ?_ hdb)
  refine PySem.W.callWith_K0 I.kIn kC ?_
  show wpAny _ _ (call (.ref C) []) _ _ _
  obtain ⟨bm, N, nm, qn, bs, hdct, sn, sub, ab, col, dd, k0, k1, k2, k3, k5, mN, hC, hN, hni, T⟩ := exc_obj I.kIn q
  refine wpAny_call_exc_subT F T hC hN hni (fun h' e hm => ?_) (Nat.zero_le _)
  exact mk_of I hm r h (I.hok.gone hm.new)
end
/-- what the top says of an own exception class without own __init__ -/
structure ExcK (K : PySem.W.Frag) (mg : Str → Option Value) (x : Str) : Prop where
  gC : mg x = some (.ref (He.ga K x))
  xC : PySem.W.excIn K (He.ga K x) He.veBase "ValueError.__new__" = true
  kC : PySem.W.keepIn K (.ref (He.ga K x)) = true
  bC : PySem.W.subIn K (.ref (He.ga K x)) (.type "BaseException") = some true
  tC : PySem.W.typeIn K (.ref (He.ga K x)) = some (.type "type")
section
variable {X : Cx} {x : Str} {p pos pos2 : Pos} {W : WX}
theorem ps_raise0 (hc : X.calm = true) (T : ExcK X.K X.mg x) (tk : Takes X W) (hg : Gl X x) (hdb : (x == ("__debug__" : Str)) = false := by decide) :
    PS X (.Raise (some (.Call (.Name x p) [] [] pos)) none pos2) (fun _ σ H => W (.ref (He.ga X.K x)) none σ H) := ps_raise hc tk (pmk_own0 PySem.F.excBase_ValueError T.xC T.gC T.kC (raises_own T.bC T.tC) hg hdb)
end
/-- what isinstance asks of an exception's class, as a test of K -/
def excCB (K : PySem.W.Frag) (D : Addr) : Bool :=
  He.eqO (PySem.W.findIn K (.ref D) "__getattribute__") (some (some (.builtin "BaseException.__getattribute__"))) && (He.eqO (PySem.W.findIn K (.ref D) "__getattr__") (some none) && (decide (PySem.W.subIn K (.ref D) (.type "BaseException") = some true) && (PySem.W.hasDictIn K D && (He.eqO (PySem.W.findIn K (.ref D) "__class__") (some (some (.builtin "object.__class__"))) &&
  (decide (PySem.W.specialIn K (.builtin "object.__class__") "__get__" = some (some (.builtin "getset_descriptor.__get__"))) && (decide (PySem.W.takesIn K (.builtin "object.__class__") = some true) && decide (PySem.W.mroIn K D (.type "object") = some true)))))))
theorem excCB_ok {K : PySem.W.Frag} {D : Addr} (h : excCB K D = true) : ExcC K D := by
  unfold excCB at h
  obtain ⟨h1, h⟩ := He.ba h
  obtain ⟨h2, h⟩ := He.ba h
  obtain ⟨h3, h⟩ := He.ba h
  obtain ⟨h4, h⟩ := He.ba h
  obtain ⟨h5, h⟩ := He.ba h
  obtain ⟨h6, h⟩ := He.ba h
  obtain ⟨h7, h8⟩ := He.ba h
  exact ⟨He.eqO_ok h1, He.eqO_ok h2, of_decide_eq_true h3, h4, He.eqO_ok h5, of_decide_eq_true h6, of_decide_eq_true h7, of_decide_eq_true h8⟩
/-- isinstance(e, c), e the caught exception, of the class at D -/
def rIsEx (K : PySem.W.Frag) (D a : Addr) (cls : Value) (d : Option Addr) : List V → Hp → VK → Prop := fun xs H Q => cls = .ref D ∧ d = none ∧ rIsE K D a xs H Q
theorem call_isEx {X : Cx} {a D : Addr} {oe : Obj} {pn : List (Addr × Obj)} {cls : Value} {d : Option Addr} (C : ExcC X.K D) (hz : Zc cls d oe) (hf : ∃ vs, oe.data = .fields vs) : CallR (X.suite a ((a, oe) :: pn)) (.builtin "isinstance") (rIsEx X.K D a cls d) := by
  intro pins s σ H xs us Q I r h
  obtain ⟨e1, e2, h⟩ := h
  subst e1 e2
  exact call_isE C hz hf pins s σ H xs us Q I r h
theorem rdIsEx {K : PySem.W.Frag} {D a : Addr} {H : Hp} {Q : VK} {c : V} {cv : Value} {b : Bool} (hc : ∀ u, RelV c u → u = cv) (k : PySem.W.kitOne K (.ref D) cv = some b) (q : Q (.bl b) H) : rIsEx K D a (.ref D) none [.ref a, c] H Q := ⟨rfl, rfl, c, cv, b, rfl, hc, k, q⟩
/-! ### words for readings -/
theorem bb_int : bootBuiltins "int" = some (.type "int") := by decide +kernel
theorem bb_abs : bootBuiltins "abs" = some (.builtin "abs") := by decide +kernel
theorem bb_list : bootBuiltins "list" = some (.type "list") := by decide +kernel
theorem bb_len : bootBuiltins "len" = some (.builtin "len") := by decide +kernel
theorem bb_isinstance : bootBuiltins "isinstance" = some (.builtin "isinstance") := by decide +kernel
theorem bb_tuple : bootBuiltins "tuple" = some (.type "tuple") := by decide +kernel
theorem bb_bool : bootBuiltins "bool" = some (.type "bool") := by decide +kernel
theorem bb_str : bootBuiltins "str" = some (.type "str") := by decide +kernel
theorem bb_ValueError : bootBuiltins "ValueError" = some (.type "ValueError") := by decide +kernel
theorem bb_min : bootBuiltins "min" = some (.builtin "min") := by decide +kernel
theorem bb_max : bootBuiltins "max" = some (.builtin "max") := by decide +kernel
theorem bb_sum : bootBuiltins "sum" = some (.builtin "sum") := by decide +kernel
theorem bb_any : bootBuiltins "any" = some (.builtin "any") := by decide +kernel
theorem bb_all : bootBuiltins "all" = some (.builtin "all") := by decide +kernel
theorem bb_sorted : bootBuiltins "sorted" = some (.builtin "sorted") := by decide +kernel
theorem bb_repr : bootBuiltins "repr" = some (.builtin "repr") := by decide +kernel
/-- isinstance of data -/
def tyD : PyData → String
  | .none => "NoneType"
  | .bool _ => "bool"
  | .int _ => "int"
  | .str _ => "str"
  | .list _ => "list"
  | .tuple _ => "tuple"
  | .dict _ => "dict"
theorem tyx {K : PySem.W.Frag} {H : Hp} {v : V} {d : PyData} (h : Dp K H v d) : TyX K H v (.type (tyD d)) := by
  cases h with
  | non => exact .base .non
  | bl b => exact .base (.bl b)
  | int i => exact .base (.int i)
  | str x => exact .base (.str x)
  | lst hs _ =>
    rcases hs with (hs | ⟨o, hs⟩) | ⟨o, its, n, hl, hc, _⟩
    · exact .base (.lst hs)
    · exact .base (.frz hs)
    · exact .kList hl hc
  | tup hs _ =>
    rcases hs with (hs | ⟨o, hs⟩) | ⟨o, its, n, hl, hc, _⟩
    · exact .base (.tup hs)
    · exact .fTuple hs
    · exact .kTuple hl hc
/-- isinstance(x, T): the answer by the data's type -/
theorem isiD {K : PySem.W.Frag} {H : Hp} {v : V} {d : PyData} {T : String} {b : Bool} {Q : VK} (h : Dp K H v d) (k : kitB (tyD d) T = some b) (q : Q (.bl b) H) : rIsi K [v, .ty T] H Q := ⟨v, .ty T, .type (tyD d), .type T, b, rfl, .ty T, tyx h, kit_ty k, q⟩
/-! ### readings, step by step: each name says which construct has come -/
theorem log2_le {x a : Nat} (h : x < 2 ^ a) : x.log2 ≤ a := by
  by_cases ha : a = 0
  · subst ha
    have : x = 0 := by omega
    subst this
    exact Nat.le_of_eq (by decide)
  · exact Nat.le_of_lt (PySem.Flt.log2_lt_of (by omega) h)
theorem mulW {i j : Int} {a b : Nat} (ha : i.natAbs < 2 ^ a) (hb : j.natAbs < 2 ^ b) (h : a + b ≤ 900000) : CMulG i j := .inr <| by
  have h1 := log2_le ha
  have h2 := log2_le hb
  unfold CMulW
  omega
theorem divX {i j : Int} {b : Nat} (h : j ≠ 0) (hb : j.natAbs < 2 ^ b) (h9 : b < 9000) : CDivX i j := ⟨h, Nat.lt_of_le_of_lt (log2_le hb) h9⟩
/-! named readings of built-in calls -/
def rInt1 : List V → Hp → VK → Prop := fun xs H Q => (∃ i, xs = [.int i] ∧ Q (.int i) H) ∨ ∃ k, xs = [.bl k] ∧ Q (.int (if k then 1 else 0)) H
def rStrI : List V → Hp → VK → Prop := fun xs H Q => ∃ i, xs = [.int i] ∧ i.natAbs.log2 < 1920 ∧ Q (.str (toString i)) H
def rMin2 : List V → Hp → VK → Prop := fun xs H Q => ∃ i j, xs = [.int i, .int j] ∧ Q (.int (if j < i then j else i)) H
def rAbs1 : List V → Hp → VK → Prop := fun xs H Q => ∃ i, xs = [.int i] ∧ Q (.int (if i < 0 then -i else i)) H
def rLenS (K : PySem.W.Frag) : List V → Hp → VK → Prop := fun xs H Q => ∃ p ys, xs = [.ref p] ∧ (SqL K H p ys ∨ SqT K H p ys) ∧ Q (.int ys.length) H
def rListOf (K : PySem.W.Frag) : List V → Hp → VK → Prop := fun xs H Q => ∃ p ys, xs = [.ref p] ∧ (SqL K H p ys ∨ SqT K H p ys) ∧ ∀ l, H l = none → Q (.ref l) (upd H l (.lst ys))
section
variable {X : Cx}
theorem cl_int : CallR X (.type "int") rInt1 := call_int1
theorem cl_str : CallR X (.type "str") rStrI := call_str_int
theorem cl_min2 (hc : X.calm = true) : CallR X (.builtin "min") rMin2 := call_min2 hc
theorem cl_abs : CallR X (.builtin "abs") rAbs1 := call_abs
theorem cl_len : CallR X (.builtin "len") (rLenS X.K) := call_len_seq
theorem cl_list : CallR X (.type "list") (rListOf X.K) := call_list_of
end
def rIsN1 : R2 := fun x y H Q => y = .non ∧ Q (.bl (decide (x = .non))) H
def rNotN1 : R2 := fun x y H Q => y = .non ∧ Q (.bl (!decide (x = .non))) H
section
variable {X : Cx}
theorem op_isNo : OpR X (compareOp .Is) rIsN1 := op_isN
theorem op_notNo : OpR X (compareOp .IsNot) rNotN1 := op_notN
end
/-- == and !=: of scalars, or of data -/
def rEqA (K : PySem.W.Frag) : R2 := fun x y H Q => rEq x y H Q ∨ rEqD K x y H Q
def rNeA (K : PySem.W.Frag) : R2 := fun x y H Q => rNe x y H Q ∨ rNeD K x y H Q
section
variable {X : Cx}
theorem op_eqA (hu : X.A.units + 64 < cLine) : OpR X (compareOp .Eq) (rEqA X.K) := fun pins s σ H x y v u Q I rx ry h => h.elim (op_eq pins s σ H x y v u Q I rx ry) (op_eqD hu pins s σ H x y v u Q I rx ry)
theorem op_neA (hu : X.A.units + 64 < cLine) : OpR X (compareOp .NotEq) (rNeA X.K) := fun pins s σ H x y v u Q I rx ry h => h.elim (op_ne pins s σ H x y v u Q I rx ry) (op_neD hu pins s σ H x y v u Q I rx ry)
end
/-! the same rules with the written part named (in a comprehension's element) -/
section
variable {X : Cx} {K : PySem.W.Frag}
theorem ix_seqK (h : X.K = K) : IxR X (rIx K) := by
  subst h
  exact ix_seq
theorem cl_lenK (h : X.K = K) : CallR X (.builtin "len") (rLenS K) := by
  subst h
  exact cl_len
theorem cl_listK (h : X.K = K) : CallR X (.type "list") (rListOf K) := by
  subst h
  exact cl_list
theorem op_eqAK (h : X.K = K) (hu : X.A.units + 64 < cLine) : OpR X (compareOp .Eq) (rEqA K) := by
  subst h
  exact op_eqA hu
theorem op_neAK (h : X.K = K) (hu : X.A.units + 64 < cLine) : OpR X (compareOp .NotEq) (rNeA K) := by
  subst h
  exact op_neA hu
theorem call_isiKK (h : X.K = K) : CallR X (.builtin "isinstance") (rIsi K) := by
  subst h
  exact call_isi
end
/-! a sequence whose first part meets again: what holds behind it is said once -/
def tSeqJ (t u : TS) : TS := fun D σ H => ∀ U : L2.St → Hp → Prop, (∀ σ' H', u D σ' H' → U σ' H') → t { D with nx := U } σ H
theorem pss_consJ {X : Cx} {st : Stmt} {rest : List Stmt} {t u : TS} (h1 : PS X st t) (h2 : PSs X rest u) : PSs X (st :: rest) (tSeqJ t u) := ⟨fun pins s σ H D I h => (pss_cons h1 h2).run pins s σ H D I (h _ fun _ _ x => x)⟩
theorem seqJ {t u : TS} {D : Ends} {σ : L2.St} {H : Hp} (R : L2.St → Hp → Prop) (h1 : ∀ U : L2.St → Hp → Prop, (∀ σ' H', R σ' H' → U σ' H') → t { D with nx := U } σ H) (h2 : ∀ σ' H', R σ' H' → u D σ' H') : tSeqJ t u D σ H := fun U hU => h1 U fun σ' H' r => hU _ _ (h2 σ' H' r)
section
variable {K : PySem.W.Frag} {H : Hp} {Q : VK} {σ : L2.St}
theorem rdV {i : Nat} {v : V} (h : σ[i]? = some (some v)) (q : Q v H) : tVar i σ H Q := ⟨v, h, q⟩
theorem rdAdd {i j : Int} (q : Q (.int (i + j)) H) : rI0 (fun i j => .int (i + j)) (.int i) (.int j) H Q := ⟨i, j, rfl, rfl, q⟩
theorem rdSub {i j : Int} (q : Q (.int (i - j)) H) : rI0 (fun i j => .int (i - j)) (.int i) (.int j) H Q := ⟨i, j, rfl, rfl, q⟩
theorem rdMul {i j : Int} (c : CMulG i j) (q : Q (.int (i * j)) H) : rI CMulG (fun i j => .int (i * j)) (.int i) (.int j) H Q := ⟨i, j, rfl, rfl, c, q⟩
theorem rdDiv {i j : Int} (c : CDivX i j) (q : Q (.int (i.fdiv j)) H) : rI CDivX (fun i j => .int (i.fdiv j)) (.int i) (.int j) H Q := ⟨i, j, rfl, rfl, c, q⟩
theorem rdDivP {i j : Int} {b : Nat} (h : 0 < j) (hb : j.natAbs < 2 ^ b) (h9 : b < 9000) (q : Q (.int (i / j)) H) : rI CDivX (fun i j => .int (i.fdiv j)) (.int i) (.int j) H Q := ⟨i, j, rfl, rfl, divX (by omega) hb h9, by show Q (.int (i.fdiv j)) H; rw [fdiv_pos h]; exact q⟩
theorem rdMod {i j : Int} (c : 0 < j) (q : Q (.int (i % j)) H) : rI (fun _ j => 0 < j) (fun i j => .int (i % j)) (.int i) (.int j) H Q := ⟨i, j, rfl, rfl, c, q⟩
theorem rdNeg {i : Int} (q : Q (.int (-i)) H) : rU (fun i => .int (-i)) (.int i) H Q := ⟨i, rfl, q⟩
theorem rdEqI {i j : Int} (q : Q (.bl (decide (i = j))) H) : rEqA K (.int i) (.int j) H Q := .inl <| ⟨rfl, by
  have e : decide (V.int i = V.int j) = decide (i = j) := by
    rw [dec_int]
    exact Bool.beq_eq_decide_eq ..
  rw [e]
  exact q⟩
theorem rdNeI {i j : Int} (q : Q (.bl (!decide (i = j))) H) : rNeA K (.int i) (.int j) H Q := .inl <| ⟨rfl, by
  have e : decide (V.int i = V.int j) = decide (i = j) := by
    rw [dec_int]
    exact Bool.beq_eq_decide_eq ..
  rw [e]
  exact q⟩
theorem rdLt {i j : Int} (q : Q (.bl (decide (i < j))) H) : rI0 (fun i j => .bl (decide (i < j))) (.int i) (.int j) H Q := ⟨i, j, rfl, rfl, q⟩
theorem rdGt {i j : Int} (q : Q (.bl (decide (j < i))) H) : rI0 (fun i j => .bl (decide (j < i))) (.int i) (.int j) H Q := ⟨i, j, rfl, rfl, q⟩
theorem rdLe {i j : Int} (q : Q (.bl (decide (i ≤ j))) H) : rI0 (fun i j => .bl (decide (i ≤ j))) (.int i) (.int j) H Q := ⟨i, j, rfl, rfl, q⟩
theorem rdGe {i j : Int} (q : Q (.bl (decide (j ≤ i))) H) : rI0 (fun i j => .bl (decide (j ≤ i))) (.int i) (.int j) H Q := ⟨i, j, rfl, rfl, q⟩
theorem rdPow {i j : Int} (c : CPow i j) (q : Q (.int (i ^ j.toNat)) H) : rI CPow (fun i j => .int (i ^ j.toNat)) (.int i) (.int j) H Q := ⟨i, j, rfl, rfl, c, q⟩
theorem rdInt {i : Int} (q : Q (.int i) H) : rInt1 [.int i] H Q := .inl ⟨i, rfl, q⟩
theorem rdMin2 {m n : Nat} (q : Q (.int ((min m n : Nat) : Int)) H) : rMin2 [.int (m : Int), .int (n : Int)] H Q := ⟨_, _, rfl, by
  have e : (if (n : Int) < m then (n : Int) else m) = ((min m n : Nat) : Int) := by split <;> omega
  rw [e]
  exact q⟩
theorem rdStrI {i : Int} {n : Nat} (h : i.natAbs < 2 ^ n) (hn : n < 1920) (q : Q (.str (toString i)) H) : rStrI [.int i] H Q := ⟨i, rfl, Nat.lt_of_le_of_lt (log2_le h) hn, q⟩
theorem rdIntB {b : Bool} (q : Q (.int (if b then 1 else 0)) H) : rInt1 [.bl b] H Q := .inr ⟨b, rfl, q⟩
theorem rdAbs {i : Int} (q : Q (.int (i.natAbs : Int)) H) : rAbs1 [.int i] H Q := ⟨i, rfl, by
  have e : (if i < 0 then -i else i) = (i.natAbs : Int) := by split <;> omega
  rw [e]
  exact q⟩
theorem rdLenT {a : Addr} {xs : List V} (h : SqT K H a xs) (q : Q (.int (xs.length : Int)) H) : rLenS K [.ref a] H Q := ⟨a, xs, rfl, .inr h, q⟩
theorem rdLenL {a : Addr} {xs : List V} (h : SqL K H a xs) (q : Q (.int (xs.length : Int)) H) : rLenS K [.ref a] H Q := ⟨a, xs, rfl, .inl h, q⟩
theorem rdListL {a : Addr} {xs : List V} (h : SqL K H a xs) (q : ∀ l, H l = none → Q (.ref l) (upd H l (.lst xs))) : rListOf K [.ref a] H Q := ⟨a, xs, rfl, .inl h, q⟩
theorem rdListT {a : Addr} {xs : List V} (h : SqT K H a xs) (q : ∀ l, H l = none → Q (.ref l) (upd H l (.lst xs))) : rListOf K [.ref a] H Q := ⟨a, xs, rfl, .inr h, q⟩
theorem rdIxT {a : Addr} {xs : List V} {i : Int} {v : V} (h : SqT K H a xs) (e : atI xs i = some v) (q : Q v H) : rIx K (.ref a) (.int i) H Q := .inr (.inl ⟨a, xs, i, v, rfl, rfl, h, e, q⟩)
theorem rdIxL {a : Addr} {xs : List V} {i : Int} {v : V} (h : SqL K H a xs) (e : atI xs i = some v) (q : Q v H) : rIx K (.ref a) (.int i) H Q := .inl ⟨a, xs, i, v, rfl, rfl, h, e, q⟩
theorem ixFr0 {x : V} {r : Rat} (h : Fr K H x r) (q : Q (.int r.num) H) : rIx K x (.int 0) H Q := by
  obtain ⟨a, rfl, hs⟩ := h.get
  exact rdIxT hs rfl q
theorem ixFr1 {x : V} {r : Rat} (h : Fr K H x r) (q : Q (.int (r.den : Int)) H) : rIx K x (.int 1) H Q := by
  obtain ⟨a, rfl, hs⟩ := h.get
  exact rdIxT hs rfl q
theorem dpPair {x : V} {p q : Int} (h : Dp K H x (.tuple [.int p, .int q])) : ∃ a, x = .ref a ∧ SqT K H a [.int p, .int q] := by
  cases h with
  | tup hs ha =>
    cases ha with
    | cons h1 h2 =>
      cases h2 with
      | cons h2 h3 =>
        cases h3
        cases h1
        cases h2
        exact ⟨_, rfl, hs⟩
theorem ixP0 {x : V} {p z : Int} (h : Dp K H x (.tuple [.int p, .int z])) (q : Q (.int p) H) : rIx K x (.int 0) H Q := by
  obtain ⟨a, rfl, hs⟩ := dpPair h
  exact rdIxT hs rfl q
theorem ixP1 {x : V} {p z : Int} (h : Dp K H x (.tuple [.int p, .int z])) (q : Q (.int z) H) : rIx K x (.int 1) H Q := by
  obtain ⟨a, rfl, hs⟩ := dpPair h
  exact rdIxT hs rfl q
theorem rdGcd {a b : Int} (q : Q (.int ((Nat.gcd a.natAbs b.natAbs : Nat) : Int)) H) : rGcd [.int a, .int b] H Q := ⟨a, b, rfl, q⟩
end
/-! loops, the ends by parts -/
theorem forRange {lo : Int} {n : Nat} {g : TG} {tb : TS} {nx : L2.St → Hp → Prop} {rt : VK} {σ : L2.St} {H : Hp} (Pv : Nat → L2.St → Hp → Prop) (h0 : Pv 0 σ H)
    (hs : ∀ i σ H, i < n → Pv i σ H → g (.int (lo + i)) σ H fun σ2 H2 => tb { nx := Pv (i + 1), rt := rt, ct := Pv (i + 1), bk := nx } σ2 H2) (hd : ∀ σ H, Pv n σ H → nx σ H) :
    ∃ W : Nat → Nat → L2.St → Hp → Prop, (∃ m, W 0 m σ H) ∧ ∀ i m σ H, W i m σ H →
      ((Itr lo n).stop i H ∧ nx σ H) ∨ ((Itr lo n).go i H ∧ ∃ N : L2.St → Hp → Prop, (∀ σ' H', N σ' H' → ∃ m', m' < m ∧ W (i + 1) m' σ' H') ∧ ∀ x H', (Itr lo n).yld i H x H' → g x σ H' fun σ2 H2 => tb { nx := N, rt := rt, ct := N, bk := nx } σ2 H2) :=
  for_range (D := { nx := nx, rt := rt }) Pv h0 hs hd
theorem forList {K : PySem.W.Frag} {a : Addr} {xs : List V} {g : TG} {tb : TS} {nx : L2.St → Hp → Prop} {rt : VK} {σ : L2.St} {H : Hp} (Pv : Nat → L2.St → Hp → Prop) (h0 : Pv 0 σ H) (hl : ∀ i σ H, i ≤ xs.length → Pv i σ H → SqL K H a xs)
    (hs : ∀ i x σ H, xs[i]? = some x → Pv i σ H → g x σ H fun σ2 H2 => tb { nx := Pv (i + 1), rt := rt, ct := Pv (i + 1), bk := nx } σ2 H2) (hd : ∀ σ H, Pv xs.length σ H → nx σ H) :
    ∃ W : Nat → Nat → L2.St → Hp → Prop, (∃ m, W 0 m σ H) ∧ ∀ i m σ H, W i m σ H →
      ((Itl K a).stop i H ∧ nx σ H) ∨ ((Itl K a).go i H ∧ ∃ N : L2.St → Hp → Prop, (∀ σ' H', N σ' H' → ∃ m', m' < m ∧ W (i + 1) m' σ' H') ∧ ∀ x H', (Itl K a).yld i H x H' → g x σ H' fun σ2 H2 => tb { nx := N, rt := rt, ct := N, bk := nx } σ2 H2) :=
  for_list (D := { nx := nx, rt := rt }) Pv h0 hl hs hd
theorem noExc {P : Program} {w : World} {H : Hp} {s : Shared} {e : Value} {s' : Shared} (z : L2.CX P w [] H s (fun _ _ _ => False) e s') : False := by
  obtain ⟨_, _, _, _, _, _, _, _, _, _, _, _, z⟩ := z
  exact z.elim
/-! ### isinstance of data, by the type -/
def dInt : PyData → Bool
  | .int _ => true
  | .bool _ => true
  | _ => false
def dBool : PyData → Bool
  | .bool _ => true
  | _ => false
def dStr : PyData → Bool
  | .str _ => true
  | _ => false
def dTup : PyData → Bool
  | .tuple _ => true
  | _ => false
def dLst : PyData → Bool
  | .list _ => true
  | _ => false
section
variable {K : PySem.W.Frag} {H : Hp} {Q : VK} {v : V} {d : PyData}
theorem isiInt (h : Dp K H v d) (q : Q (.bl (dInt d)) H) : rIsi K [v, .ty "int"] H Q := isiD h (by
  cases h with
  | non => exact (by decide +kernel : kitB "NoneType" "int" = some false)
  | bl b => exact (by decide +kernel : kitB "bool" "int" = some true)
  | int i => exact (by decide +kernel : kitB "int" "int" = some true)
  | str x => exact (by decide +kernel : kitB "str" "int" = some false)
  | lst h1 h2 => exact (by decide +kernel : kitB "list" "int" = some false)
  | tup h1 h2 => exact (by decide +kernel : kitB "tuple" "int" = some false)) q
theorem isiBool (h : Dp K H v d) (q : Q (.bl (dBool d)) H) : rIsi K [v, .ty "bool"] H Q := isiD h (by
  cases h with
  | non => exact (by decide +kernel : kitB "NoneType" "bool" = some false)
  | bl b => exact (by decide +kernel : kitB "bool" "bool" = some true)
  | int i => exact (by decide +kernel : kitB "int" "bool" = some false)
  | str x => exact (by decide +kernel : kitB "str" "bool" = some false)
  | lst h1 h2 => exact (by decide +kernel : kitB "list" "bool" = some false)
  | tup h1 h2 => exact (by decide +kernel : kitB "tuple" "bool" = some false)) q
theorem isiStr (h : Dp K H v d) (q : Q (.bl (dStr d)) H) : rIsi K [v, .ty "str"] H Q := isiD h (by
  cases h with
  | non => exact (by decide +kernel : kitB "NoneType" "str" = some false)
  | bl b => exact (by decide +kernel : kitB "bool" "str" = some false)
  | int i => exact (by decide +kernel : kitB "int" "str" = some false)
  | str x => exact (by decide +kernel : kitB "str" "str" = some true)
  | lst h1 h2 => exact (by decide +kernel : kitB "list" "str" = some false)
  | tup h1 h2 => exact (by decide +kernel : kitB "tuple" "str" = some false)) q
theorem isiTup (h : Dp K H v d) (q : Q (.bl (dTup d)) H) : rIsi K [v, .ty "tuple"] H Q := isiD h (by
  cases h with
  | non => exact (by decide +kernel : kitB "NoneType" "tuple" = some false)
  | bl b => exact (by decide +kernel : kitB "bool" "tuple" = some false)
  | int i => exact (by decide +kernel : kitB "int" "tuple" = some false)
  | str x => exact (by decide +kernel : kitB "str" "tuple" = some false)
  | lst h1 h2 => exact (by decide +kernel : kitB "list" "tuple" = some false)
  | tup h1 h2 => exact (by decide +kernel : kitB "tuple" "tuple" = some true)) q
theorem isiLst (h : Dp K H v d) (q : Q (.bl (dLst d)) H) : rIsi K [v, .ty "list"] H Q := isiD h (by
  cases h with
  | non => exact (by decide +kernel : kitB "NoneType" "list" = some false)
  | bl b => exact (by decide +kernel : kitB "bool" "list" = some false)
  | int i => exact (by decide +kernel : kitB "int" "list" = some false)
  | str x => exact (by decide +kernel : kitB "str" "list" = some false)
  | lst h1 h2 => exact (by decide +kernel : kitB "list" "list" = some true)
  | tup h1 h2 => exact (by decide +kernel : kitB "tuple" "list" = some false)) q
end
def dNon : PyData → Bool
  | .none => true
  | _ => false
section
variable {K : PySem.W.Frag} {H : Hp} {Q : VK} {v : V} {d : PyData}
theorem dNon_eq (h : Dp K H v d) : decide (v = .non) = dNon d := by cases h <;> rfl
theorem rdIsN (h : Dp K H v d) (q : Q (.bl (dNon d)) H) : rIsN1 v .non H Q := ⟨rfl, by rw [dNon_eq h]; exact q⟩
theorem rdNotN (h : Dp K H v d) (q : Q (.bl (!dNon d)) H) : rNotN1 v .non H Q := ⟨rfl, by rw [dNon_eq h]; exact q⟩
theorem rdEqB {i j : Bool} (q : Q (.bl (decide (i = j))) H) : rEqA K (.bl i) (.bl j) H Q := .inl <| ⟨rfl, by
  have e : decide (V.bl i = V.bl j) = decide (i = j) := by
    rw [dec_bl]
    exact Bool.beq_eq_decide_eq ..
  rw [e]
  exact q⟩
theorem rdEqS {i j : Str} (q : Q (.bl (decide (i = j))) H) : rEqA K (.str i) (.str j) H Q := .inl <| ⟨rfl, by
  have e : decide (V.str i = V.str j) = decide (i = j) := by
    rw [dec_str]
    exact Bool.beq_eq_decide_eq ..
  rw [e]
  exact q⟩
theorem rdNeS {i j : Str} (q : Q (.bl (!decide (i = j))) H) : rNeA K (.str i) (.str j) H Q := .inl <| ⟨rfl, by
  have e : decide (V.str i = V.str j) = decide (i = j) := by
    rw [dec_str]
    exact Bool.beq_eq_decide_eq ..
  rw [e]
  exact q⟩
end
/-- a display's reading, by name -/
def rTup : List V → Hp → VK → Prop := fun xs H Q => xs.length ≤ sizeLine ∧ ∀ p, H p = none → Q (.ref p) (upd H p (.tup xs))
def rLst : List V → Hp → VK → Prop := fun xs H Q => xs.length ≤ sizeLine ∧ ∀ p, H p = none → Q (.ref p) (upd H p (.lst xs))
def tTupN (t : TA) : TE := fun σ H Q => t σ H fun xs H1 => rTup xs H1 Q
def tLstN (t : TA) : TE := fun σ H Q => t σ H fun xs H1 => rLst xs H1 Q
/-! displays of data: what is laid is new -/
section
variable {K : PySem.W.Frag} {H : Hp} {Q : VK}
theorem rdTupD {xs : List V} {ds : List PyData} (h : DpAll K H xs ds) (hz : xs.length ≤ sizeLine) (q : ∀ H' v, Same H H' → Dp K H' v (.tuple ds) → Q v H') : rTup xs H Q :=
  ⟨hz, fun p np => q _ _ (sameNew np) (.tup (.inl (.inl upd_same)) (Dp.monoAll (sameNew np) _ _ h))⟩
theorem rdLstD {xs : List V} {ds : List PyData} (h : DpAll K H xs ds) (hz : xs.length ≤ sizeLine) (q : ∀ H' v, Same H H' → Dp K H' v (.list ds) → Q v H') : rLst xs H Q :=
  ⟨hz, fun p np => q _ _ (sameNew np) (.lst (.inl (.inl upd_same)) (Dp.monoAll (sameNew np) _ _ h))⟩
/-- a display, its list tracked -/
theorem rdLstH {xs : List V} (hz : xs.length ≤ sizeLine) (q : ∀ H' p, Same H H' → H p = none → H' p = some (.lst xs) → Q (.ref p) H') : rLst xs H Q :=
  ⟨hz, fun p np => q _ _ (sameNew np) np upd_same⟩
end
section
variable {X : Cx} {es : List Expr} {t : TA} {pos : Pos}
theorem pe_tupN {x1} (h : PA X es t) : PE X (.Tuple es x1 pos) (tTupN t) := pe_tup h
theorem pe_lstN (h : PA X es t) : PE X (.List es pos) (tLstN t) := pe_lst h
end
theorem small_line {n : Nat} (h : n ≤ 1000) : n ≤ sizeLine := Nat.le_of_lt (small1000 h)
theorem dpAll_len {K : PySem.W.Frag} {H : Hp} : ∀ {xs : List V} {ds : List PyData}, DpAll K H xs ds → xs.length = ds.length
  | _, _, .nil => rfl
  | _, _, .cons _ h2 => congrArg Nat.succ (dpAll_len h2)
theorem dpAll_two {K : PySem.W.Frag} {H : Hp} {xs : List V} {ds : List PyData} (h : DpAll K H xs ds) (l : ds.length = 2) : ∃ v1 v2 x y, xs = [v1, v2] ∧ ds = [x, y] ∧ Dp K H v1 x ∧ Dp K H v2 y := by
  match ds, h, l with
  | [x, y], .cons (v := v1) g1 (.cons (v := v2) g2 .nil), _ => exact ⟨v1, v2, x, y, rfl, rfl, g1, g2⟩
theorem dTup_of {K : PySem.W.Frag} {H : Hp} {v : V} {d : PyData} (h : Dp K H v d) (t : dTup d = true) : ∃ a xs ds, v = .ref a ∧ d = .tuple ds ∧ SqT K H a xs ∧ DpAll K H xs ds := by
  cases h with
  | tup h1 h2 => exact ⟨_, _, _, rfl, rfl, h1, h2⟩
  | _ => cases t
theorem dInt_of {K : PySem.W.Frag} {H : Hp} {v : V} {i : Int} (h : Dp K H v (.int i)) : v = .int i := by
  cases h
  rfl
/-- all items, as a conjunction -/
def allP {α : Type} (P : α → Prop) : List α → Prop
  | [] => True
  | x :: xs => P x ∧ allP P xs
theorem allP_get {α : Type} {P : α → Prop} : ∀ {xs : List α} {i : Nat} {x : α}, allP P xs → xs[i]? = some x → P x
  | [], _, _, _, h => by simp at h
  | y :: r, 0, x, a, h => by
    simp at h
    subst h
    exact a.1
  | y :: r, i + 1, x, a, h => allP_get (i := i) a.2 (by simpa using h)
theorem frD_int (p : Int) : frD (Rat.divInt p 1) = .tuple [.int p, .int 1] := by
  unfold frD
  rw [← num_pos (p := p) (q := 1) (by decide), ← den_pos (p := p) (q := 1) (by decide)]
  have e : Nat.gcd p.natAbs (1 : Int).natAbs = 1 := Nat.gcd_one_right _
  rw [e]
  simp
theorem fr_int {K : PySem.W.Frag} {H : Hp} {v : V} {p : Int} (h : Dp K H v (.tuple [.int p, .int 1])) : Fr K H v (Rat.divInt p 1) := by
  unfold Fr
  rw [frD_int]
  exact h
/-- the law's end, for defs that may raise (the wish of the caller: nothing is let out) -/
theorem endOfLaw {l : PySem.W.OpenLaw} {n k : Nat} {q : Program} {loose : List Str} {XP : (Str → Option Value) → Heap → Prop} {YP : World → Heap → Prop} {d : DefRec} {x : Str}
    (most : l.most = some n) (small : n ≤ sizeLine) (plain : d.params.defaults = []) (room : Room k callerA)
    (all : ∀ (w : World) (mg : Str → Option Value) (fa : Addr) (h : Heap), YP w h → h.Ns mainGlobals mg → mg d.name = some (.ref fa) → ∃ (K : PySem.W.Frag) (fd : FuncData) (sp : Sp), K.In h ∧
      (∀ (s : Shared) (u : Value), BindsTo s fd ⟨[u], []⟩ [(x, u)]) ∧ (∀ (H : Hp) (a : Addr) (ns : List Int), ns.length ≤ n → Only H → SqL K H a (ns.map V.int) → sp [.ref a] H (fun v _ => v = .bl true) E0) ∧
      ∀ base : Heap, K.In base → base.Ns mainGlobals mg → FnOk l.prog w K mg base (L2.CX l.prog w) k fa fd [x] sp) :
    PySem.W.WalkO q loose XP YP l.row.toRowW d [] (fun f vs => PySem.call f vs) := by
  refine Att.attach_call most plain fun w sA sB mg mb fa o pm cd doc a vs ns G Y h1 h2 h3 hm ha hi len hg => ?_
  obtain ⟨K, fd, sp, kin, bnd, want, ok⟩ := all w mg fa _ Y G.T.g hm
  refine law_call kin G.T.g G.T.b G.T.builtins G.T.nolimit hg ha hi (Nat.le_trans len small) room ok bnd (fun H o S => want H a ns len o S) fun H e s' => noExc
theorem shaped_fr (r : Rat) : SeqAt.shaped (frD r) = true := rfl
theorem eqv_fr (r s : Rat) : PyData.eqv (frD r) (frD s) = decide (r = s) := by
  have e : PyData.eqv (frD r) (frD s) = ((r.num == s.num) && (((r.den : Int) == (s.den : Int)) && true)) := rfl
  rw [e, Bool.and_true, Bool.eq_iff_iff, decide_eq_true_iff, Bool.and_eq_true, beq_iff_eq, beq_iff_eq]
  exact ⟨fun h => Rat.ext h.1 (by omega), fun h => by rw [h]; exact ⟨rfl, rfl⟩⟩
section
variable {K : PySem.W.Frag} {H : Hp} {Q : VK} {x y : V} {r s : Rat}
theorem rdEqFr (h1 : Fr K H x r) (h2 : Fr K H y s) (q : Q (.bl (decide (r = s))) H) : rEqA K x y H Q := .inr ⟨_, _, h1, h2, shaped_fr r, shaped_fr s, by rw [eqv_fr]; exact q⟩
theorem rdNeFr (h1 : Fr K H x r) (h2 : Fr K H y s) (q : Q (.bl (!decide (r = s))) H) : rNeA K x y H Q := .inr ⟨_, _, h1, h2, shaped_fr r, shaped_fr s, by rw [eqv_fr]; exact q⟩
end
theorem line2 : 2 ≤ sizeLine := by decide
theorem line1 : 1 ≤ sizeLine := by decide
theorem line3 : 3 ≤ sizeLine := by decide
theorem line4 : 4 ≤ sizeLine := by decide
/-- an if whose test is a Bool -/
theorem ifB {b : Bool} {A B : Prop} (h1 : b = true → A) (h2 : b = false → B) : if b = true then A else B := by
  cases b with
  | true => exact h1 rfl
  | false => exact iteF (h2 rfl)
theorem ifBF {b : Bool} {A B : Prop} (h : b = false) (q : B) : if b = true then A else B := by
  rw [h]
  exact iteF q
theorem ifNe {c : Prop} [Decidable c] {A B : Prop} (h : c) (q : B) : if (!decide c) = true then A else B := ifBF (by rw [decide_eq_true h]; rfl) q
theorem ifYes {c : Prop} [Decidable c] {A B : Prop} (h : c) (q : A) : if decide c = true then A else B := by
  rw [decide_eq_true h]
  exact iteT q
theorem ifNo {c : Prop} [Decidable c] {A B : Prop} (h : ¬c) (q : B) : if decide c = true then A else B := by
  rw [decide_eq_false h]
  exact iteF q
theorem ifP {c : Prop} [Decidable c] {A B : Prop} (h : c) (q : A) : if c then A else B := by
  rw [if_pos h]
  exact q
theorem ifN {c : Prop} [Decidable c] {A B : Prop} (h : ¬c) (q : B) : if c then A else B := by
  rw [if_neg h]
  exact q
theorem ifBT {b : Bool} {A B : Prop} (h : b = true) (q : A) : if b = true then A else B := by
  rw [h]
  exact iteT q
theorem ifD {c : Prop} [Decidable c] {A B : Prop} (h1 : c → A) (h2 : ¬c → B) : if decide c = true then A else B := by
  by_cases h : c
  · rw [decide_eq_true h]
    exact h1 h
  · rw [decide_eq_false h]
    exact iteF (h2 h)
end Ub

namespace Ub
open PySem PySem.Spec PyProof.Rows L2 UbM
/-! ### the law's deck: a list [cells, place, rest, seed] -/
/-- all stands but what is at d -/
def But (d : Addr) (H H' : Hp) : Prop := ∀ b o, b ≠ d → H b = some o → H' b = some o
/-- the deck at d, its cells at s -/
def DeckS (H : Hp) (d s : Addr) : Prop := ∃ (ns : List Int) (i r m : Int), H d = some (.lst [.ref s, .int i, .int r, .int m]) ∧ H s = some (.lst (ns.map V.int)) ∧ s ≠ d ∧ 0 ≤ i ∧ ns.length ≤ 63
/-- what a draw leaves: all but the deck's own list; the deck keeps its cells -/
structure SameX (d : Addr) (H H' : Hp) : Prop where
  but : But d H H'
  cells : ∀ s, DeckS H d s → DeckS H' d s
theorem SameX.refl {d : Addr} (H : Hp) : SameX d H H := ⟨fun _ _ _ h => h, fun _ h => h⟩
theorem SameX.trans {d : Addr} {H H1 H2 : Hp} (a : SameX d H H1) (b : SameX d H1 H2) : SameX d H H2 := ⟨fun c o n h => b.but c o n (a.but c o n h), fun s h => b.cells s (a.cells s h)⟩
theorem Same.x {d : Addr} {H H' : Hp} (a : Same H H') : SameX d H H' := ⟨fun b o _ h => a b o h, fun s ⟨ns, i, r, m, h1, h2, h3⟩ => ⟨ns, i, r, m, a _ _ h1, a _ _ h2, h3⟩⟩
theorem but_upd {d : Addr} {H : Hp} {o : HO} : But d H (upd H d o) := fun b x n h => by
  rw [upd_ne n]
  exact h
theorem sameX_deck {d s : Addr} {H : Hp} {i r m : Int} {j t k : Int} (h : H d = some (.lst [.ref s, .int j, .int t, .int k])) (hi : 0 ≤ i) : SameX d H (upd H d (.lst [.ref s, .int i, .int r, .int m])) :=
  ⟨but_upd, fun s' ⟨ns, i', r', m', h1, h2, h3, _, h5⟩ => by
    rw [h] at h1
    cases h1
    exact ⟨ns, i, r, m, upd_same, by rw [upd_ne h3]; exact h2, h3, hi, h5⟩⟩
structure Deck (H : Hp) (d : Addr) : Prop where
  ex : ∃ (s : Addr) (ns : List Int) (i r m : Int), H d = some (.lst [.ref s, .int i, .int r, .int m]) ∧ H s = some (.lst (ns.map V.int)) ∧ s ≠ d ∧ 0 ≤ i ∧ ns.length ≤ 63
theorem Deck.mono {H H' : Hp} {d : Addr} (D : Deck H d) (e : Same H H') : Deck H' d := by
  obtain ⟨s, ns, i, r, m, h1, h2, h3, h4, h5⟩ := D.ex
  exact ⟨s, ns, i, r, m, e _ _ h1, e _ _ h2, h3, h4, h5⟩
/-- no list in it -/
def noL : PyData → Bool
  | .none | .bool _ | .int _ | .str _ => true
  | .list _ | .dict _ => false
  | .tuple ds => decide (ds.length ≤ 1000) && noLs ds
where noLs : List PyData → Bool
  | [] => true
  | d :: ds => noL d && noLs ds
theorem tseqX {K : PySem.W.Frag} {H H' : Hp} {d a : Addr} {xs : List V} (e : But d H H') (hd : ∃ ys, H d = some (.lst ys)) (h : SqT K H a xs) : SqT K H' a xs := by
  obtain ⟨ys, hd⟩ := hd
  rcases h with (h | ⟨o, h⟩) | h
  · exact .inl (.inl (e _ _ (ne_of h hd (by intro z; cases z)) h))
  · exact .inl (.inr ⟨o, e _ _ (ne_of h hd (by intro z; cases z)) h⟩)
  · exact .inr h
mutual
theorem Dp.monoX {K : PySem.W.Frag} {H H' : Hp} {d : Addr} (e : But d H H') (hd : ∃ ys, H d = some (.lst ys)) : ∀ (dt : PyData) (v : V), noL dt = true → Dp K H v dt → Dp K H' v dt
  | .none, _, _, h => by cases h; exact .non
  | .bool b, _, _, h => by cases h; exact .bl b
  | .int i, _, _, h => by cases h; exact .int i
  | .str x, _, _, h => by cases h; exact .str x
  | .list ds, _, n, _ => by
    unfold noL at n
    cases n
  | .tuple ds, _, n, h => by
    cases h with
    | tup hs ha => exact .tup (tseqX e hd hs) (Dp.monoXAll e hd ds _ (by unfold noL at n; exact (Bool.and_eq_true_iff.mp n).2) ha)
  | .dict _, _, _, h => by cases h
theorem Dp.monoXAll {K : PySem.W.Frag} {H H' : Hp} {d : Addr} (e : But d H H') (hd : ∃ ys, H d = some (.lst ys)) : ∀ (ds : List PyData) (vs : List V), noL.noLs ds = true → DpAll K H vs ds → DpAll K H' vs ds
  | [], _, _, h => by cases h; exact .nil
  | dt :: ds, _, n, h => by
    unfold noL.noLs at n
    obtain ⟨n1, n2⟩ := Bool.and_eq_true_iff.mp n
    cases h with
    | cons h1 h2 => exact .cons (Dp.monoX e hd dt _ n1 h1) (Dp.monoXAll e hd ds _ n2 h2)
end
theorem Deck.lst {H : Hp} {d : Addr} (D : Deck H d) : ∃ ys, H d = some (.lst ys) := by
  obtain ⟨s, ns, i, r, m, h1, _⟩ := D.ex
  exact ⟨_, h1⟩
theorem Fr.monoX {K : PySem.W.Frag} {H H' : Hp} {d : Addr} {v : V} {r : Rat} (h : Fr K H v r) (e : SameX d H H') (D : Deck H d) : Fr K H' v r := Dp.monoX e.but D.lst _ _ rfl h
theorem Deck.cells {H : Hp} {d : Addr} (D : Deck H d) : ∃ s, DeckS H d s := by
  obtain ⟨s, ns, i, r, m, h⟩ := D.ex
  exact ⟨s, ns, i, r, m, h⟩
theorem DeckS.deck {H : Hp} {d s : Addr} (h : DeckS H d s) : Deck H d := by
  obtain ⟨ns, i, r, m, h⟩ := h
  exact ⟨s, ns, i, r, m, h⟩
/-- a list that was laid later than the deck is changed: the deck stands -/
theorem DeckS.upd {H H' : Hp} {d s a : Addr} {o : HO} (h0 : DeckS H d s) (h : DeckS H' d s) (ha : H a = none) : DeckS (upd H' a o) d s := by
  obtain ⟨_, _, _, _, g1, g2, _⟩ := h0
  obtain ⟨ns, i, r, m, h1, h2, h3⟩ := h
  exact ⟨ns, i, r, m, by rw [upd_ne (ne_of_none g1 ha)]; exact h1, by rw [upd_ne (ne_of_none g2 ha)]; exact h2, h3⟩
theorem SameX.upd {H H' : Hp} {d a : Addr} {o : HO} (h : SameX d H H') (ha : H a = none) : SameX d H (upd H' a o) := ⟨fun b x n e => by
  rw [upd_ne (ne_of_none e ha)]
  exact h.but _ _ n e, fun s hs => hs.upd (h.cells s hs) ha⟩
section
variable {K : PySem.W.Frag} {H : Hp} {Q : VK}
theorem rdSetL {p : Addr} {xs : List V} {k : Int} {j : Nat} {v : V} {Q : Hp → Prop} (h : H p = some (.lst xs)) (e : ixN xs.length k = some j) (q : Q (upd H p (.lst (xs.set j v)))) : rSetL (.ref p) (.int k) v H Q := ⟨p, xs, k, j, rfl, rfl, h, e, q⟩
theorem rdSetU {p : Addr} {xs : List V} {k : Int} {j : Nat} {v : V} {Q : Hp → Prop} (e : ixN xs.length k = some j) (q : Q (upd H p (.lst (xs.set j v)))) : rSetL (.ref p) (.int k) v (upd H p (.lst xs)) Q := ⟨p, xs, k, j, rfl, rfl, upd_same, e, by rw [upd_upd]; exact q⟩
end
theorem lt_pow {a b : Nat} (h : a ≤ b) : (2 : Nat) ^ a ≤ 2 ^ b := Nat.pow_le_pow_right (by decide) h
end Ub

namespace Ub
open PySem PySem.Spec PyProof.Rows L2 UbM
/-! ### lists of fractions -/
def sumR (rs : List Rat) : Rat := rs.foldl (· + ·) 0
theorem sumR_take {rs : List Rat} {i : Nat} {r : Rat} (h : rs[i]? = some r) : sumR (rs.take (i + 1)) = sumR (rs.take i) + r := by
  unfold sumR
  obtain ⟨hi, e⟩ := List.getElem?_eq_some_iff.mp h
  rw [List.take_succ_eq_append_getElem hi, List.foldl_append, e]
  rfl
theorem bd_zero : Bd 1 (0 : Rat) := ⟨by decide, by decide⟩
theorem bd_sum {n : Nat} : ∀ (rs : List Rat) (m : Nat) (r : Rat), Bd m r → (∀ x ∈ rs, Bd n x) → Bd (m + rs.length * (n + 1)) (rs.foldl (· + ·) r)
  | [], m, r, h, _ => by simpa using h
  | x :: rs, m, r, h, hx => by
    have h1 := bd_sum rs (m + n + 1) (r + x) (bd_add h (hx x (List.mem_cons_self ..))) fun y hy => hx y (List.mem_cons_of_mem _ hy)
    refine h1.mono ?_
    rw [List.length_cons, Nat.succ_mul]
    omega
theorem bd_sumR {n : Nat} {rs : List Rat} (h : ∀ x ∈ rs, Bd n x) : Bd (1 + rs.length * (n + 1)) (sumR rs) := bd_sum rs 1 0 bd_zero h
def dotR (rs ss : List Rat) : Rat := sumR (List.zipWith (· * ·) rs ss)
theorem zip_at {rs ss : List Rat} {i : Nat} {r s : Rat} (h1 : rs[i]? = some r) (h2 : ss[i]? = some s) : (List.zipWith (· * ·) rs ss)[i]? = some (r * s) := by
  rw [List.getElem?_zipWith, h1, h2]
theorem bd_zip {n : Nat} {rs ss : List Rat} (h1 : ∀ x ∈ rs, Bd n x) (h2 : ∀ x ∈ ss, Bd n x) : ∀ x ∈ List.zipWith (· * ·) rs ss, Bd (n + n) x := by
  intro x hx
  obtain ⟨i, hi, e⟩ := List.getElem_of_mem hx
  rw [List.getElem_zipWith] at e
  rw [← e]
  exact bd_mul (h1 _ (List.getElem_mem _)) (h2 _ (List.getElem_mem _))
theorem take_bd {n : Nat} {rs : List Rat} (h : ∀ x ∈ rs, Bd n x) (i : Nat) : ∀ x ∈ rs.take i, Bd n x := fun x hx => h x (List.mem_of_mem_take hx)
/-- the place of the first fraction that no later one is beaten by: w = -1 the least, w = 1 the greatest -/
def pick (w : Int) (rs : List Rat) : Nat → Option Nat
  | 0 => none
  | i + 1 => match pick w rs i with
    | none => some i
    | some j => if cmpR (rs.getD i 0) (rs.getD j 0) = w then some i else some j
theorem pick_lt {w : Int} {rs : List Rat} : ∀ {i j : Nat}, pick w rs i = some j → j < i
  | 0, j, h => by cases h
  | i + 1, j, h => by
    unfold pick at h
    split at h
    · cases h
      omega
    · rename_i j0 e
      have := pick_lt e
      split at h
      · cases h
        omega
      · cases h
        omega
def optV : Option Nat → V
  | none => .non
  | some k => .int (k : Int)
def optD : Option Nat → PyData
  | none => .none
  | some k => .int (k : Int)
theorem dp_opt {K : PySem.W.Frag} {H : Hp} (o : Option Nat) : Dp K H (optV o) (optD o) := by
  cases o with
  | none => exact .non
  | some k => exact .int _
theorem frs_get {K : PySem.W.Frag} {H : Hp} {xs : List V} : ∀ {rs : List Rat} {xs : List V} {i : Nat} {r : Rat}, DpAll K H xs (rs.map frD) → rs[i]? = some r → ∃ v, xs[i]? = some v ∧ Fr K H v r
  | [], _, _, _, _, h => by simp at h
  | r0 :: rs, _, 0, r, .cons h1 _, h => by
    simp at h
    subst h
    exact ⟨_, rfl, h1⟩
  | r0 :: rs, _, i + 1, r, .cons _ h2, h => by
    obtain ⟨v, e, q⟩ := frs_get (xs := []) (i := i) (r := r) h2 (by simpa using h)
    exact ⟨v, by simpa using e, q⟩
theorem frs_at {K : PySem.W.Frag} {H : Hp} : ∀ {rs : List Rat} {xs : List V} {i : Nat} {v : V}, DpAll K H xs (rs.map frD) → xs[i]? = some v → ∃ r, rs[i]? = some r ∧ Fr K H v r
  | [], _, _, _, h, e => by
    cases h
    simp at e
  | r0 :: rs, _, 0, v, .cons h1 _, h => by
    simp at h
    subst h
    exact ⟨_, rfl, h1⟩
  | r0 :: rs, _, i + 1, v, .cons _ h2, h => by
    obtain ⟨r, e, q⟩ := frs_at (i := i) (v := v) h2 (by simpa using h)
    exact ⟨r, by simpa using e, q⟩
/-- v is a list of the fractions rs -/
def Frs (K : PySem.W.Frag) (H : Hp) (v : V) (rs : List Rat) : Prop := Dp K H v (.list (rs.map frD))
theorem Frs.mono {K : PySem.W.Frag} {H H' : Hp} {v : V} {rs : List Rat} (e : Same H H') (h : Frs K H v rs) : Frs K H' v rs := Dp.mono e _ _ h
theorem Frs.get {K : PySem.W.Frag} {H : Hp} {v : V} {rs : List Rat} (h : Frs K H v rs) : ∃ a xs, v = .ref a ∧ SqL K H a xs ∧ DpAll K H xs (rs.map frD) := by
  unfold Frs at h
  cases h with
  | lst h1 h2 => exact ⟨_, _, rfl, h1, h2⟩
theorem frs_len {K : PySem.W.Frag} {H : Hp} {xs : List V} {rs : List Rat} (h : DpAll K H xs (rs.map frD)) : xs.length = rs.length := by
  have := dpAll_len h
  rw [List.length_map] at this
  exact this
theorem canLay_frs : ∀ rs : List Rat, PyData.canLayAll0 (rs.map frD) = true
  | [] => rfl
  | r :: rs => by
    show (PyData.canLay0 (frD r) && PyData.canLayAll0 (rs.map frD)) = true
    rw [canLay_frs rs]
    rfl
theorem depth_frs : ∀ rs : List Rat, PyData.depthAll (rs.map frD) ≤ 1
  | [] => Nat.zero_le _
  | r :: rs => by
    show max (PyData.depth (frD r)) (PyData.depthAll (rs.map frD)) ≤ 1
    have h1 := depth_frs rs
    have h2 : PyData.depth (frD r) = 1 := rfl
    omega
theorem shaped_frs (rs : List Rat) : SeqAt.shaped (.list (rs.map frD)) = true := by
  show (PyData.canLayAll0 (rs.map frD) && decide (PyData.depthAll (rs.map frD) + 1 ≤ 64)) = true
  rw [canLay_frs, decide_eq_true (by have := depth_frs rs; omega)]
  rfl
theorem noL_frs : ∀ rs : List Rat, noL.noLs (rs.map frD) = true
  | [] => rfl
  | r :: rs => by
    show (noL (frD r) && noL.noLs (rs.map frD)) = true
    rw [noL_frs rs]
    rfl
/-- a tracked list of fractions, apart from the deck -/
structure Own (K : PySem.W.Frag) (H : Hp) (d a : Addr) (rs : List Rat) : Prop where
  ex : ∃ xs, H a = some (.lst xs) ∧ a ≠ d ∧ DpAll K H xs (rs.map frD)
theorem Own.frs {K : PySem.W.Frag} {H : Hp} {d a : Addr} {rs : List Rat} (h : Own K H d a rs) : Frs K H (.ref a) rs := by
  obtain ⟨xs, h1, _, h2⟩ := h.ex
  exact .lst (.inl (.inl h1)) h2
theorem Own.monoX {K : PySem.W.Frag} {H H' : Hp} {d a : Addr} {rs : List Rat} (h : Own K H d a rs) (e : SameX d H H') (D : Deck H d) : Own K H' d a rs := by
  obtain ⟨xs, h1, h2, h3⟩ := h.ex
  exact ⟨xs, e.but _ _ h2 h1, h2, Dp.monoXAll e.but D.lst _ _ (noL_frs rs) h3⟩
theorem Own.mono {K : PySem.W.Frag} {H H' : Hp} {d a : Addr} {rs : List Rat} (h : Own K H d a rs) (e : Same H H') : Own K H' d a rs := by
  obtain ⟨xs, h1, h2, h3⟩ := h.ex
  exact ⟨xs, e _ _ h1, h2, Dp.monoAll e _ _ h3⟩
theorem tseq_upd {K : PySem.W.Frag} {H : Hp} {p a : Addr} {xs ys zs : List V} (h : SqT K H a xs) (hp : H p = some (.lst ys)) : SqT K (upd H p (.lst zs)) a xs := by
  rcases h with (h | ⟨o, h⟩) | h
  · exact .inl (.inl (by rw [upd_ne (ne_of h hp (by intro z; cases z))]; exact h))
  · exact .inl (.inr ⟨o, by rw [upd_ne (ne_of h hp (by intro z; cases z))]; exact h⟩)
  · exact .inr h
theorem Own.push {K : PySem.W.Frag} {H : Hp} {d a : Addr} {rs : List Rat} {v : V} {r : Rat} {xs : List V} (h1 : H a = some (.lst xs)) (h2 : a ≠ d) (h3 : DpAll K H xs (rs.map frD)) (hv : Fr K H v r) : Own K (upd H a (.lst (xs ++ [v]))) d a (rs ++ [r]) := by
  refine ⟨_, upd_same, h2, ?_⟩
  have e : But a H (upd H a (.lst (xs ++ [v]))) := but_upd
  have g := Dp.monoXAll e ⟨_, h1⟩ _ _ (noL_frs rs) h3
  have gv := Dp.monoX e ⟨_, h1⟩ (frD r) v rfl hv
  rw [List.map_append]
  exact app g gv
where
  app {K : PySem.W.Frag} {H : Hp} : ∀ {xs : List V} {ds : List PyData} {v : V} {d : PyData}, DpAll K H xs ds → Dp K H v d → DpAll K H (xs ++ [v]) (ds ++ [d])
    | _, _, _, _, .nil, h => .cons h .nil
    | _, _, _, _, .cons h1 h2, h => .cons h1 (app h2 h)
theorem dpAll_snoc {K : PySem.W.Frag} {H : Hp} {xs : List V} {ds : List PyData} {v : V} {d : PyData} (h : DpAll K H xs ds) (h2 : Dp K H v d) : DpAll K H (xs ++ [v]) (ds ++ [d]) := Own.push.app h h2
/-! ### loops over two lists, over a list with its places -/
theorem forZip {K : PySem.W.Frag} {a b : Addr} {xs ys : List V} {g : TG} {tb : TS} {nx : L2.St → Hp → Prop} {rt : VK} {σ : L2.St} {H : Hp} (Pv : Nat → L2.St → Hp → Prop) (h0 : Pv 0 σ H) (hl : ∀ i σ H, Pv i σ H → SqL K H a xs ∧ SqL K H b ys)
    (hs : ∀ i x y σ H T, xs[i]? = some x → ys[i]? = some y → Pv i σ H → H T = none → g (.ref T) σ (upd H T (.tup [x, y])) fun σ2 H2 => tb { nx := Pv (i + 1), rt := rt, ct := Pv (i + 1), bk := nx } σ2 H2) (hd : ∀ σ H, Pv (min xs.length ys.length) σ H → nx σ H) :
    ∃ W : Nat → Nat → L2.St → Hp → Prop, (∃ m, W 0 m σ H) ∧ ∀ i m σ H, W i m σ H →
      ((Itz K a b).stop i H ∧ nx σ H) ∨ ((Itz K a b).go i H ∧ ∃ N : L2.St → Hp → Prop, (∀ σ' H', N σ' H' → ∃ m', m' < m ∧ W (i + 1) m' σ' H') ∧ ∀ x H', (Itz K a b).yld i H x H' → g x σ H' fun σ2 H2 => tb { nx := N, rt := rt, ct := N, bk := nx } σ2 H2) := by
  refine ⟨fun i m σ H => m = min xs.length ys.length - i ∧ i ≤ min xs.length ys.length ∧ Pv i σ H, ⟨_, rfl, Nat.zero_le _, h0⟩, ?_⟩
  rintro i m σ H ⟨rfl, hi, p⟩
  obtain ⟨q1, q2⟩ := hl i σ H p
  by_cases hlt : i < min xs.length ys.length
  · have l1 : i < xs.length := by omega
    have l2 : i < ys.length := by omega
    refine .inr ⟨⟨xs, ys, xs[i], ys[i], q1, q2, List.getElem?_eq_getElem l1, List.getElem?_eq_getElem l2⟩, Pv (i + 1), fun σ' H' p' => ⟨_, ?_, rfl, hlt, p'⟩, fun x H' yl => ?_⟩
    · omega
    · obtain ⟨T, x1, y1, rfl, nT, rfl, f1, f2⟩ := yl
      exact hs i x1 y1 σ H T (f1 _ q1) (f2 _ q2) p nT
  · have e : i = min xs.length ys.length := by omega
    refine .inl ⟨⟨xs, ys, q1, q2, by omega⟩, hd σ H (e ▸ p)⟩
theorem forEnum {K : PySem.W.Frag} {a : Addr} {xs : List V} {g : TG} {tb : TS} {nx : L2.St → Hp → Prop} {rt : VK} {σ : L2.St} {H : Hp} (Pv : Nat → L2.St → Hp → Prop) (h0 : Pv 0 σ H) (hl : ∀ i σ H, Pv i σ H → SqL K H a xs)
    (hs : ∀ i x σ H T, xs[i]? = some x → Pv i σ H → H T = none → g (.ref T) σ (upd H T (.tup [.int (i : Nat), x])) fun σ2 H2 => tb { nx := Pv (i + 1), rt := rt, ct := Pv (i + 1), bk := nx } σ2 H2) (hd : ∀ σ H, Pv xs.length σ H → nx σ H) :
    ∃ W : Nat → Nat → L2.St → Hp → Prop, (∃ m, W 0 m σ H) ∧ ∀ i m σ H, W i m σ H →
      ((Ite K a).stop i H ∧ nx σ H) ∨ ((Ite K a).go i H ∧ ∃ N : L2.St → Hp → Prop, (∀ σ' H', N σ' H' → ∃ m', m' < m ∧ W (i + 1) m' σ' H') ∧ ∀ x H', (Ite K a).yld i H x H' → g x σ H' fun σ2 H2 => tb { nx := N, rt := rt, ct := N, bk := nx } σ2 H2) := by
  refine ⟨fun i m σ H => m = xs.length - i ∧ i ≤ xs.length ∧ Pv i σ H, ⟨_, rfl, Nat.zero_le _, h0⟩, ?_⟩
  rintro i m σ H ⟨rfl, hi, p⟩
  have q1 := hl i σ H p
  by_cases hlt : i < xs.length
  · refine .inr ⟨⟨xs, xs[i], q1, List.getElem?_eq_getElem hlt⟩, Pv (i + 1), fun σ' H' p' => ⟨_, ?_, rfl, hlt, p'⟩, fun x H' yl => ?_⟩
    · omega
    · obtain ⟨T, x1, rfl, nT, rfl, f1⟩ := yl
      exact hs i x1 σ H T (f1 _ q1) p nT
  · have e : i = xs.length := by omega
    refine .inl ⟨⟨xs, q1, by omega⟩, hd σ H (e ▸ p)⟩
end Ub

/-! any, all of a generator expression whose element may call defs: its own frame, its own context. -/
namespace UbG
open PySem PySem.Spec PyProof.Rows L2
/-- the expression's own scope: its names (with their places in N) are local or captured -/
structure GexOk (N : List Str) (sc scope : Scope) (own : List (Str × Nat)) : Prop where
  kind : scope.kind = .function
  co : scope.isCoroutine = false
  nocell : ∀ y ∈ scope.names, y.2 ≠ .cell
  dot : scope.names.lookup (".0" : Str) = some NameKind.local
  uniq : ∀ y ∈ scope.names, scope.names.lookup y.1 = some y.2
  ix : ∀ p ∈ own, N[p.2]? = some p.1
  free : ∀ y ∈ scope.names, y.2 = .free → sc.names.lookup y.1 = some .cell ∨ sc.names.lookup y.1 = some .free
  own : ∀ y ∈ scope.names, y.2 = .local → y.1 ∈ own.map (·.1) ∨ y.1 ∉ N
/-- the context of its frame -/
abbrev gex (X : Cx) (A : Around) (s : Shared) (H : Hp) (genv : Env) (fp : List Addr) (pn : List (Addr × Obj)) : Cx :=
  { X with A := A, s_0 := s, H_0 := H, env := genv, outer := X.stack, stack := genv :: X.stack, ex := fp, fn := fun _ => false, calm := true, pn := pn, xe := fun _ _ => False }
section
variable {X : Cx} {pins : List (Addr × Obj)} {σ : L2.St} {H : Hp} {s : Shared}
theorem Inv.same {s' : Shared} (I : Inv X pins σ H s) (hh : s'.heap = s.heap) (ho : s'.os = s.os) (hb : AllBare s'.gens) : Inv X pins σ H s' :=
  I.call' (ch := []) ho (by rw [hh]; exact Un.kept fun _ _ e => e) (by rw [hh]; exact I.hok) hb fun b z => absurd z (by simp)
theorem Inv.more {s' : Shared} (I : Inv X pins σ H s) (hh : ∀ b o, s.heap.get? b = some o → s'.heap.get? b = some o) (ho : s'.os = s.os) (hb : AllBare s'.gens) : Inv X pins σ H s' :=
  I.call' (ch := []) ho (Un.kept hh) (I.hok.kept hh) hb fun b z => absurd z (by simp)
theorem Inv.nofr (I : Inv X pins σ H s) {b : Addr} (hb : s.heap.objs.size ≤ b) : b ∉ frs X.stack := fun z => by
  rcases List.mem_cons.mp (I.stkSub _ z) with e | e
  · have h1 := I.lt
    rw [← e] at h1
    exact Nat.lt_irrefl _ (Nat.lt_of_lt_of_le h1 hb)
  · exact I.nofs hb e
theorem gex_start {scope : Scope} {own : List (Str × Nat)} {fp : List Addr} {A : Around} {genv : Env} {code : Value} {s5 : Shared} {m : Str → Option Value} {pn : List (Addr × Obj)} (I : Inv X pins σ H s) (ok : GexOk X.N X.env.scope scope own) (hN : X.N.Nodup)
    (hfp : ∀ b ∈ fp, FpOk X pins H b ∧ b < s.heap.objs.size) (hA : A.handled = none) (hfr : A.frames = some (genv :: X.stack)) (hg : genv = genEnv scope (cloFrom X.env.cells scope.names []) s.heap.objs.size code builtinsNs X.env)
    (os : s5.os = s.os) (bare : AllBare s5.gens) (kp : ∀ b o, s.heap.get? b = some o → s5.heap.get? b = some o) (ns : s5.heap.Ns s.heap.objs.size m)
    (hpn : ∀ p ∈ pn, s5.heap.get? p.1 = some p.2 ∧ s.heap.objs.size < p.1 ∧ ∀ v, p.2.data ≠ .cell v) : Inv (gex X A s H genv fp pn) [] (wipe σ (own.map (·.2))) H s5 := by
  have hfree : ∀ y ∈ scope.names, y.2 = .free → ∃ c, X.env.cells.lookup y.1 = some c := fun y hy e => by
    rcases ok.free y hy e with k | k
    · exact I.ok.has _ (.inl k)
    · exact I.ok.has _ (.inr k)
  have hL : genv.locals = s.heap.objs.size := by rw [hg]; rfl
  have hcl : genv.cells = cloFrom X.env.cells scope.names [] := by rw [hg]; rfl
  have hsc : genv.scope = scope := by rw [hg]; rfl
  have cm : ∀ {y c}, genv.cells.lookup y = some c → scope.names.lookup y = some .free ∧ X.env.cells.lookup y = some c ∧ c < s.heap.objs.size := fun {y c} e => by
    rw [hcl] at e
    rcases cloFrom_mem (PySem.mem_of_lookup e) with hm | ⟨h1, rfl⟩
    · cases hm
    · obtain ⟨c, hc⟩ := hfree _ h1 rfl
      rw [hc]
      obtain ⟨w, z⟩ := I.cell _ _ hc
      exact ⟨ok.uniq _ h1, rfl, z.lt⟩
  have look : ∀ {y}, scope.names.lookup y = some .free → ∃ c, genv.cells.lookup y = some c ∧ X.env.cells.lookup y = some c := fun {y} hl => by
    have hy : (y, NameKind.free) ∈ scope.names := PySem.mem_of_lookup hl
    obtain ⟨c', e'⟩ := mem_lookup (cloFrom_has (cells := X.env.cells) (acc := []) hy)
    rw [← hcl] at e'
    exact ⟨c', e', (cm e').2.1⟩
  have okG : (gex X A s H genv fp pn).Ok := by
    refine ⟨I.ok.mod, by show genv.scope.kind = _; rw [hsc]; exact ok.kind, by show genv.globals = _; rw [hg]; exact I.ok.glob, by show genv.builtins = _; rw [hg]; rfl, by show s.heap.objs.size ≤ genv.locals; rw [hL]; exact Nat.le_refl _,
      fun y z c e1 e2 => I.ok.inj y z c (cm e1).2.1 (cm e2).2.1, fun y hy => ?_, fun y c z e => ?_, fun _ => hA, hfr, .inr ⟨rfl, by show genv.frame = some genv.locals; rw [hg]; rfl⟩, fun b hb => ⟨?_, fun y c e z => (hfp b hb).1.2.2.2.2.1 y c (cm e).2.1 z⟩, I.bs, Nat.le_trans I.ok.bsz I.sz, fun b o e hb => ?_, fun b hb z => ?_, I.stack, I.stkFree⟩
    · show ∃ c, genv.cells.lookup y = some c
      rcases hy with hy | hy
      · have hy : genv.scope.names.lookup y = some .cell := hy
        rw [hsc] at hy
        exact absurd rfl (ok.nocell _ (PySem.mem_of_lookup hy))
      · have hy : genv.scope.names.lookup y = some .free := hy
        rw [hsc] at hy
        obtain ⟨c, h1, _⟩ := look hy
        exact ⟨c, h1⟩
    · cases z
    · show b ≠ genv.locals
      rw [hL]; exact Nat.ne_of_lt (hfp b hb).2
    · rcases (hfp b hb).1.2.2.2.1 with z | z
      · exact I.ok.noex b o e z
      · exact absurd (Nat.lt_of_lt_of_le (Heap.lt_size e) (Nat.le_trans I.ok.bsz z)) (Nat.lt_irrefl _)
    · rcases List.mem_cons.mp (I.stkSub b z) with z | z
      · exact (hfp b hb).1.2.1 z
      · exact (hfp b hb).1.2.2.1 z
  refine ⟨okG, os, bare, Un.kept kp, ⟨m, by show Heap.Ns _ genv.locals _; rw [hL]; exact ns, fun i y av e1 e2 e3 => ?_⟩, fun y c e => ?_, ?_, fun y c e => I.freeC y c (cm e).2.1, fun p hp => ?_, I.hok.kept kp, by rw [wipe_length]; exact I.len⟩
  · obtain ⟨e2, hne⟩ := wipe_some e2
    have hfr : scope.names.lookup y = some .free := by
      have e3 : Vis genv.scope y := e3
      rw [hsc] at e3
      rcases e3 with e3 | e3 | e3
      · rcases ok.own _ (PySem.mem_of_lookup e3) rfl with e' | e'
        · obtain ⟨p, hp, hpy⟩ := List.mem_map.mp e'
          have e3 := ok.ix p hp
          have : p.1 = y := hpy
          rw [this] at e3
          exact absurd (List.mem_map.mpr ⟨p, hp, nodup_ix hN e3 e1⟩) hne
        · exact absurd (List.mem_of_getElem? e1) e'
      · exact absurd rfl (ok.nocell _ (PySem.mem_of_lookup e3))
      · exact e3
    obtain ⟨m, hn, hl⟩ := I.loc
    have hvis : Vis X.env.scope y := (ok.free _ (PySem.mem_of_lookup hfr) rfl).elim (fun k => .inr (.inl k)) (fun k => .inr (.inr k))
    obtain ⟨w, r, q⟩ := hl i y av e1 e2 hvis
    refine ⟨w, r, .inr ⟨.inr (by show genv.scope.names.lookup y = _; rw [hsc]; exact hfr), ?_⟩⟩
    obtain ⟨c, h1, h2⟩ := look hfr
    rcases q with ⟨k, _⟩ | ⟨_, c', e', z⟩
    · have k : X.env.scope.names.lookup y = some .local := k
      rcases ok.free _ (PySem.mem_of_lookup hfr) rfl with k' | k' <;> rw [show X.env.scope.names.lookup y = _ from k'] at k <;> cases k
    · rw [h2] at e'; cases e'
      exact ⟨c, h1, z.keeps kp⟩
  · obtain ⟨w, z⟩ := I.cell y c (cm e).2.1
    exact ⟨w, z.keeps kp⟩
  · show H genv.locals = none
    rw [hL]; exact I.hok.fresh (Nat.le_refl _)
  · rw [List.append_nil] at hp
    obtain ⟨h1, h2, h3⟩ := hpn p hp
    refine ⟨h1, I.hok.fresh (Nat.le_of_lt h2), by show p.1 ≠ genv.locals; rw [hL]; exact Nat.ne_of_gt h2, Inv.nofr I (Nat.le_of_lt h2), h3⟩
end
/-- the end of its run -/
def GR (G : Cx) (fp : List Addr) (Qd : Hp → Prop) : GenEnd := fun n s₀ r s₁ => ((r = .ok (.ret .none) ∨ r = .ok .next) ∧ ∃ σ' H', Inv G [] σ' H' s₁ ∧ (∀ b ∈ fp, H' b = none) ∧ Qd H') ∨ ∃ e, r = .error e ∧ False
/-- a truth value is handed out; on stopv nobody asks further -/
def GY (G : Cx) (fp : List Addr) (stopv : Bool) (Qs : Hp → Prop) : Protocol := fun n s₀ v s kap =>
  ∃ b σ' H', v = .bool b ∧ Inv G [] σ' H' s ∧ (∀ b ∈ fp, H' b = none) ∧ (b = stopv → Qs H') ∧ (b ≠ stopv → ∀ s', s'.heap = s.heap → s'.os = s.os → AllBare s'.gens → kap (.send .none) s')
/-- what a turn is to give -/
def Turns (J : It) (g : TG) (te : TE) (vs : List Nat) (σw : L2.St) (stopv : Bool) (Qs Qd : Hp → Prop) (W : Nat → Nat → Hp → Prop) : Prop := ∀ i m H, W i m H →
  (J.stop i H ∧ Qd H) ∨ (J.go i H ∧ ∃ Nx : Hp → Prop, (∀ H', Nx H' → ∃ m', m' < m ∧ W (i + 1) m' H') ∧ ∀ x H', J.yld i H x H' → g x σw H' fun σ2 H2 => wipe σ2 vs = σw ∧ te σ2 H2 fun y H3 => ∃ b, y = .bl b ∧ (b = stopv → Qs H3) ∧ (b ≠ stopv → Nx H3))
theorem seg_gex {G : Cx} {Aw : Around} {tg iter elt : Expr} {scope : Scope} {pos : Pos} {J : It} {fp : List Addr} {it : Addr} {tn : Nat → Heap → Prop} {g : TG} {te : TE} {vs : List Nat} {σw : L2.St} {stopv : Bool} {Qs Qd : Hp → Prop} {W : Nat → Nat → Hp → Prop}
    (T : Turn G.prog G.w G.K tg J fp it tn) (hex : G.ex = fp) (hc : G.calm = true) (hxe : G.xe = fun _ _ => False) (hpn : ∀ b ∈ fp, ∀ p ∈ G.pn, p.1 ≠ b)
    (hA : Aw.over (.compLoop (.GeneratorExp elt [⟨tg, iter, [], 0⟩] scope pos) 0 (.ref it) .none G.env) [] = G.A) (hco : G.env.scope.isCoroutine = false)
    (pg : PG G tg g) (pe : PE G elt te) (turn : Turns J g te vs σw stopv Qs Qd W) :
    ∀ (n i m : Nat) (H : Hp) (s₀ s : Shared), m < n → W i m H → Inv G [] σw H s → tn i s.heap → (∀ b ∈ fp, H b = none) →
      Seg (model G.prog G.w) Aw (GR G fp Qd) (GY G fp stopv Qs) n s₀ (.compLoop (.GeneratorExp elt [⟨tg, iter, [], 0⟩] scope pos) 0 (.ref it) .none G.env)
        ((model G.prog G.w).den (.compLoop (.GeneratorExp elt [⟨tg, iter, [], 0⟩] scope pos) 0 (.ref it) .none G.env)) [] s := by
  have stat : ∀ {σ' : L2.St} {H' : Hp} {s' : Shared}, Inv G [] σ' H' s' → (∀ b ∈ fp, H' b = none) → ∀ b ∈ fp, FpOk G [] H' b := fun {σ' H' s'} I' hn b hb =>
    ⟨hn b hb, (I'.ok.exf b (by rw [hex]; exact hb)).1, I'.ok.exfs b (by rw [hex]; exact hb), .inl (by rw [hex]; exact hb), fun x c e => (I'.ok.exf b (by rw [hex]; exact hb)).2 x c e, fun p hp => by rw [List.append_nil] at hp; exact hpn b hb p hp⟩
  intro n
  induction n with
  | zero => intro i m H s₀ s hm; exact absurd hm (Nat.not_lt_zero _)
  | succ n ih =>
    intro i m H s₀ s hm w0 I st hn
    show Seg _ Aw _ _ _ s₀ _ ((compTurn (.GeneratorExp elt [⟨tg, iter, [], 0⟩] scope pos) 0 (.ref it) .none G.env).onRaise (leaving G.env)) [] s
    rw [compTurn_gen, Sem.onRaise_eq_wrap]
    refine seg_bind_wrap (wpAny_standAt ?_)
    rcases turn i m H w0 with ⟨stop, qd⟩ | ⟨go, Nx, hNx, step⟩
    · refine seg_bind_wrap ?_
      rw [hA]
      refine wpAny_mono (T.done G rfl rfl rfl hc i [] s σw H (fun _ _ => False) I (stat I hn) st stop) (fun r s6 ⟨hr, I6⟩ => ?_) fun _ _ z => z.elim
      subst hr
      exact seg_end (.ok .next) (.inl ⟨.inr rfl, σw, H, I6, hn, qd⟩)
    · refine seg_bind_wrap ?_
      rw [hA]
      refine wpAny_mono (T.item G rfl rfl rfl hc i [] s σw H (fun _ _ => False) I (stat I hn) st go) (fun r s6 ⟨u, hr, h6⟩ => ?_) fun _ _ z => z.elim
      subst hr
      refine seg_bind_wrap ?_
      rw [hA]
      refine wpAny_mono h6 (fun _ s7 ⟨x, H7, I7, r7, y7, st7, n7⟩ => ?_) fun _ _ z => z.elim
      have I7' := I7.pinned (stat I7 n7) (T.obj _ _ st7)
      refine seg_bind_wrap ?_
      rw [hA]
      refine wpAny_mono (pg.run _ s7 _ H7 x u _ I7' r7 (step x H7 y7)) (fun _ s8 ⟨σ8, H8, I8, hw8, q8⟩ => ?_) fun _ _ z => by rw [hxe] at z; exact z.elim
      refine seg_bind_wrap ?_
      simp only [List.forIn_nil]
      refine wpAny_pure ?_
      simp only [if_true]
      have hy : ∀ v, yieldOut G.env v = yieldValue v := fun v => by simp only [yieldOut, hco, Bool.false_eq_true, if_false]
      simp only [hy]
      rw [Sem.bind_eq_wrap', Sem.bind_eq_wrap', Sem.wrap_wrap, Sem.wrap_wrap]
      refine seg_wrap ?_
      rw [hA]
      refine wpAny_mono (pe.run _ s8 σ8 H8 _ I8 q8) (fun y s9 ⟨yv, H9, I9, r9, b, hb, hs, hnx⟩ => ?_) fun _ _ z => by rw [hxe] at z; exact z.elim
      subst hb
      have ey : y = Value.bool b := r9
      subst ey
      have pin' : ∀ b ∈ fp, ∀ o, s7.heap.get? b = some o → s9.heap.get? b = some o ∧ H9 b = none := fun b hb o e =>
        let z := I9.pin (b, o) (List.mem_append_right _ (List.mem_append_right _ (mem_pinsAt hb e)))
        ⟨z.1, z.2.1⟩
      have hl : σw.length = σ8.length := by rw [← hw8, wipe_length]
      have I10 : Inv G [] σw H9 s9 := (I9.unpinned (pins := [])).weak hl fun j v e => by
        rw [← hw8] at e
        exact (wipe_some e).1
      have n10 : ∀ b ∈ fp, H9 b = none := fun b hb => by
        obtain ⟨o, e, _⟩ := T.obj _ _ st7 b hb
        exact (pin' b hb o e).2
      have st10 : tn (i + 1) s9.heap := T.keep _ _ _ st7 fun b hb o e => (pin' b hb o e).1
      refine seg_at (seg_yield rfl rfl rfl ⟨b, σw, H9, rfl, I10, n10, hs, fun nb s' hh ho hbare => ?_⟩)
      obtain ⟨m', hm', w'⟩ := hNx H9 (hnx nb)
      refine seg_again rfl (ih (i + 1) m' H9 s' s' (by omega) w' (Inv.same I10 hh ho hbare) (by rw [hh]; exact st10) n10)
theorem seg_gex0 {G : Cx} {Aw : Around} {tg iter elt : Expr} {scope : Scope} {pos : Pos} {J : It} {fp : List Addr} {it : Addr} {tn : Nat → Heap → Prop} {n : Nat} {s₀ s : Shared} {R : GenEnd} {Y : Protocol}
    (T : Turn G.prog G.w G.K tg J fp it tn) (st : tn 0 s.heap)
    (loop : Seg (model G.prog G.w) Aw R Y n s₀ (.compLoop (.GeneratorExp elt [⟨tg, iter, [], 0⟩] scope pos) 0 (.ref it) .none G.env)
        ((model G.prog G.w).den (.compLoop (.GeneratorExp elt [⟨tg, iter, [], 0⟩] scope pos) 0 (.ref it) .none G.env)) [] s) :
    Seg (model G.prog G.w) Aw R Y n s₀ (.compStart (.GeneratorExp elt [⟨tg, iter, [], 0⟩] scope pos) 0 (.ref it) .none G.env)
        ((model G.prog G.w).den (.compStart (.GeneratorExp elt [⟨tg, iter, [], 0⟩] scope pos) 0 (.ref it) .none G.env)) [] s := by
  show Seg _ Aw _ _ _ s₀ _ ((compStart (.GeneratorExp elt [⟨tg, iter, [], 0⟩] scope pos) 0 (.ref it) .none G.env).onRaise (leaving G.env)) [] s
  unfold compStart
  rw [Sem.onRaise_eq_wrap]
  show Seg _ Aw _ _ _ s₀ _ ((ask >>= _).wrap _ _ _ _) [] s
  refine seg_bind_wrap (wpAny_askSetting ?_)
  split
  · exact seg_again rfl loop
  · first
      | exact seg_bind_wrap (wpAny_rule (seg_bind_wrap (wpAny_standAt (seg_bind_wrap (T.self _ 0 s _ _ st (seg_again rfl loop))))))
      | (refine seg_bind_wrap (wpAny_rule ?_); show Seg _ Aw _ _ _ s₀ _ ((standAt iter.pos >>= _).wrap _ _ _ _) [] s; exact seg_bind_wrap (wpAny_standAt (seg_bind_wrap (T.self _ 0 s _ _ st (seg_again rfl loop)))))
/-- the generator, not begun or asleep, at most n turns left -/
def GAt (G : Cx) (A : Around) (fp : List Addr) (stopv : Bool) (Qs Qd : Hp → Prop) (a : Addr) (g : Nat) (n : Nat) (s : Shared) : Prop :=
  s.heap.IsGen a g ∧ s.heap.NoLimit ∧ AllBare s.gens ∧ ∃ gs, s.gens[g]? = some gs ∧ ∀ s'', s''.heap = s.heap → s''.os = s.os → AllBare s''.gens → gs.Goes (model G.prog G.w) A (GR G fp Qd) (GY G fp stopv Qs) n (.send .none) s''
section
variable {G : Cx} {A : Around} {fp : List Addr} {Qs Qd : Hp → Prop} {a : Addr} {g : Nat} {R : Result → Shared → Prop}
theorem all_loop (hh : A.handled = none) (hd : A.depth < recursionLimit) (hgen : ∀ σ' H' s', Inv G [] σ' H' s' → s'.heap.IsGen a g)
    (hend : ∀ s' σ' H', Inv G [] σ' H' s' → (∀ b ∈ fp, H' b = none) → Qd H' → R (.ok (.ret (.bool true))) s')
    (hstop : ∀ s' σ' H', Inv G [] σ' H' s' → (∀ b ∈ fp, H' b = none) → Qs H' → R (.ok (.ret (.bool false))) s') :
    ∀ (n : Nat) (s : Shared), GAt G A.in1.in1 fp false Qs Qd a g n s → codeAny (model G.prog G.w) A (.builtin "all.loop" ⟨[.ref a], []⟩) R s := by
  have goes : ∀ {gs : GenState} {B : Around} {n : Nat} {r : Resume} {s : Shared}, gs.Goes (model G.prog G.w) B (GR G fp Qd) (GY G fp false Qs) n r s →
      gs.Goes (model G.prog G.w) B (fun n s₀ r s1 => ((r = .ok (.ret .none) ∨ r = .ok .next) ∧ (∃ σ' H', Inv G [] σ' H' s1 ∧ (∀ b ∈ fp, H' b = none) ∧ Qd H')) ∨ ∃ e, r = .error e ∧ (fun (_ : Value) (_ : Shared) => False) e s1) (GY G fp false Qs) n r s := fun h => h
  intro n
  induction n with
  | zero =>
    rintro s ⟨hg, hl, hb, gs, hgs, hgo⟩
    refine codeAny_builtin F.entry_all_loop ?_
    rw [Around.under_plainId F.plain_all_loop _]
    show wpAny _ A.in1 (pyNext (.ref a) >>= _) _ _ s
    refine wpAny_bind (next_genG (A := A.in1) hh hl hd hg hgs (goes (hgo _ rfl rfl (allBare_setGen hb rfl))) (fun v s₁ gs' hbare hv => ?_) (fun s₁ hp h' hk => ?_) fun e s₁ he => he.elim)
    · obtain ⟨b, σ', H', rfl, I', n', hs, hk⟩ := hv
      refine wpAny_bind (wpAny_holding (wpAny_truthy_bool ?_))
      refine wpAny_bind (wpAny_letGo ?_)
      cases b with
      | true => exact (hk (by decide) _ rfl rfl I'.bare).elim
      | false =>
        simp only [Bool.false_eq_true, if_false]
        exact wpAny_bind (wpAny_rule (wpAny_pure (hstop _ σ' H' (Inv.same I' rfl rfl (allBare_setGen I'.bare hbare)) n' (hs rfl))))
    · obtain ⟨σ', H', I', n', hq⟩ := hp
      refine wpAny_bind (wpAny_rule (wpAny_pure ?_))
      exact hend _ σ' H' (Inv.more I' hk rfl (allBare_setGen I'.bare rfl)) n' hq
  | succ n ih =>
    rintro s ⟨hg, hl, hb, gs, hgs, hgo⟩
    have hgl : g < s.gens.size := (Array.getElem?_eq_some_iff.mp hgs).1
    refine codeAny_builtin F.entry_all_loop ?_
    rw [Around.under_plainId F.plain_all_loop _]
    show wpAny _ A.in1 (pyNext (.ref a) >>= _) _ _ s
    refine wpAny_bind (GenW.wpAny_gsz (n := g + 1) hgl (next_genG (A := A.in1) hh hl hd hg hgs (goes (hgo _ rfl rfl (allBare_setGen hb rfl))) (fun v s₁ gs' hbare hv => ?_) (fun s₁ hp h' hk => ?_) fun e s₁ he => he.elim))
    · intro hsz
      obtain ⟨b, σ', H', rfl, I', n', hs, hk⟩ := hv
      refine wpAny_bind (wpAny_holding (wpAny_truthy_bool ?_))
      refine wpAny_bind (wpAny_letGo ?_)
      cases b with
      | true =>
        simp only [if_true]
        have hsz1 : g < s₁.gens.size := by
          have q : (s₁.setGen g gs').gens.size = s₁.gens.size := GenW.setGen_size _ _ _
          have hsz' : g + 1 ≤ (s₁.setGen g gs').gens.size := hsz
          omega
        refine wpAny_pure ⟨plainId_quiet F.plain_all_loop _, ih (s₁.setGen g gs') ⟨hgen σ' H' s₁ I', I'.nolimit, allBare_setGen I'.bare hbare, gs', setGen_at hsz1, fun s'' h1 h2 h3 => ?_⟩⟩
        exact hk (by decide) s'' h1 h2 h3
      | false =>
        simp only [Bool.false_eq_true, if_false]
        exact wpAny_bind (wpAny_rule (wpAny_pure (hstop _ σ' H' (Inv.same I' rfl rfl (allBare_setGen I'.bare hbare)) n' (hs rfl))))
    · intro hsz
      obtain ⟨σ', H', I', n', hq⟩ := hp
      refine wpAny_bind (wpAny_rule (wpAny_pure ?_))
      exact hend _ σ' H' (Inv.more I' hk rfl (allBare_setGen I'.bare rfl)) n' hq
theorem any_loop (hh : A.handled = none) (hd : A.depth < recursionLimit) (hgen : ∀ σ' H' s', Inv G [] σ' H' s' → s'.heap.IsGen a g)
    (hend : ∀ s' σ' H', Inv G [] σ' H' s' → (∀ b ∈ fp, H' b = none) → Qd H' → R (.ok (.ret (.bool false))) s')
    (hstop : ∀ s' σ' H', Inv G [] σ' H' s' → (∀ b ∈ fp, H' b = none) → Qs H' → R (.ok (.ret (.bool true))) s') :
    ∀ (n : Nat) (s : Shared), GAt G A.in1.in1 fp true Qs Qd a g n s → codeAny (model G.prog G.w) A (.builtin "any.loop" ⟨[.ref a], []⟩) R s := by
  have goes : ∀ {gs : GenState} {B : Around} {n : Nat} {r : Resume} {s : Shared}, gs.Goes (model G.prog G.w) B (GR G fp Qd) (GY G fp true Qs) n r s →
      gs.Goes (model G.prog G.w) B (fun n s₀ r s1 => ((r = .ok (.ret .none) ∨ r = .ok .next) ∧ (∃ σ' H', Inv G [] σ' H' s1 ∧ (∀ b ∈ fp, H' b = none) ∧ Qd H')) ∨ ∃ e, r = .error e ∧ (fun (_ : Value) (_ : Shared) => False) e s1) (GY G fp true Qs) n r s := fun h => h
  intro n
  induction n with
  | zero =>
    rintro s ⟨hg, hl, hb, gs, hgs, hgo⟩
    refine codeAny_builtin F.entry_any_loop ?_
    rw [Around.under_plainId F.plain_any_loop _]
    show wpAny _ A.in1 (pyNext (.ref a) >>= _) _ _ s
    refine wpAny_bind (next_genG (A := A.in1) hh hl hd hg hgs (goes (hgo _ rfl rfl (allBare_setGen hb rfl))) (fun v s₁ gs' hbare hv => ?_) (fun s₁ hp h' hk => ?_) fun e s₁ he => he.elim)
    · obtain ⟨b, σ', H', rfl, I', n', hs, hk⟩ := hv
      refine wpAny_bind (wpAny_holding (wpAny_truthy_bool ?_))
      refine wpAny_bind (wpAny_letGo ?_)
      cases b with
      | false => exact (hk (by decide) _ rfl rfl I'.bare).elim
      | true =>
        simp only [if_true]
        exact wpAny_bind (wpAny_rule (wpAny_pure (hstop _ σ' H' (Inv.same I' rfl rfl (allBare_setGen I'.bare hbare)) n' (hs rfl))))
    · obtain ⟨σ', H', I', n', hq⟩ := hp
      refine wpAny_bind (wpAny_rule (wpAny_pure ?_))
      exact hend _ σ' H' (Inv.more I' hk rfl (allBare_setGen I'.bare rfl)) n' hq
  | succ n ih =>
    rintro s ⟨hg, hl, hb, gs, hgs, hgo⟩
    have hgl : g < s.gens.size := (Array.getElem?_eq_some_iff.mp hgs).1
    refine codeAny_builtin F.entry_any_loop ?_
    rw [Around.under_plainId F.plain_any_loop _]
    show wpAny _ A.in1 (pyNext (.ref a) >>= _) _ _ s
    refine wpAny_bind (GenW.wpAny_gsz (n := g + 1) hgl (next_genG (A := A.in1) hh hl hd hg hgs (goes (hgo _ rfl rfl (allBare_setGen hb rfl))) (fun v s₁ gs' hbare hv => ?_) (fun s₁ hp h' hk => ?_) fun e s₁ he => he.elim))
    · intro hsz
      obtain ⟨b, σ', H', rfl, I', n', hs, hk⟩ := hv
      refine wpAny_bind (wpAny_holding (wpAny_truthy_bool ?_))
      refine wpAny_bind (wpAny_letGo ?_)
      cases b with
      | false =>
        simp only [Bool.false_eq_true, if_false]
        have hsz1 : g < s₁.gens.size := by
          have q : (s₁.setGen g gs').gens.size = s₁.gens.size := GenW.setGen_size _ _ _
          have hsz' : g + 1 ≤ (s₁.setGen g gs').gens.size := hsz
          omega
        refine wpAny_pure ⟨plainId_quiet F.plain_any_loop _, ih (s₁.setGen g gs') ⟨hgen σ' H' s₁ I', I'.nolimit, allBare_setGen I'.bare hbare, gs', setGen_at hsz1, fun s'' h1 h2 h3 => ?_⟩⟩
        exact hk (by decide) s'' h1 h2 h3
      | true =>
        simp only [if_true]
        exact wpAny_bind (wpAny_rule (wpAny_pure (hstop _ σ' H' (Inv.same I' rfl rfl (allBare_setGen I'.bare hbare)) n' (hs rfl))))
    · intro hsz
      obtain ⟨σ', H', I', n', hq⟩ := hp
      refine wpAny_bind (wpAny_rule (wpAny_pure ?_))
      exact hend _ σ' H' (Inv.more I' hk rfl (allBare_setGen I'.bare rfl)) n' hq
theorem call_all_gen {G : Cx} {A : Around} {fp : List Addr} {Qs Qd : Hp → Prop} {a : Addr} {g n : Nat} {s : Shared} {Q E : Value → Shared → Prop} (hh : A.handled = none) (hd : A.depth < recursionLimit) (hgen : ∀ σ' H' s', Inv G [] σ' H' s' → s'.heap.IsGen a g)
    (hG : GAt G A.in1.in1 fp false Qs Qd a g n s) (hend : ∀ s' σ' H', Inv G [] σ' H' s' → (∀ b ∈ fp, H' b = none) → Qd H' → Q (.bool true) s')
    (hstop : ∀ s' σ' H', Inv G [] σ' H' s' → (∀ b ∈ fp, H' b = none) → Qs H' → Q (.bool false) s') : wpAny (model G.prog G.w) A (call (.builtin "all") [.ref a]) Q E s := by
  refine call_function_tree F.kind_all F.plain_all F.entry_all (F.args_all1 _) ?_
  unfold Builtin.«all»
  refine wpAny_bind (m := oneArg "all" _) (wpAny_pure ?_)
  refine wpAny_bind (wpAny_pyIter_gen hG.1 ?_)
  exact wpAny_pure ⟨plainId_quiet F.plain_all_loop _, all_loop hh hd hgen hend hstop n s hG⟩
theorem call_any_gen {G : Cx} {A : Around} {fp : List Addr} {Qs Qd : Hp → Prop} {a : Addr} {g n : Nat} {s : Shared} {Q E : Value → Shared → Prop} (hh : A.handled = none) (hd : A.depth < recursionLimit) (hgen : ∀ σ' H' s', Inv G [] σ' H' s' → s'.heap.IsGen a g)
    (hG : GAt G A.in1.in1 fp true Qs Qd a g n s) (hend : ∀ s' σ' H', Inv G [] σ' H' s' → (∀ b ∈ fp, H' b = none) → Qd H' → Q (.bool false) s')
    (hstop : ∀ s' σ' H', Inv G [] σ' H' s' → (∀ b ∈ fp, H' b = none) → Qs H' → Q (.bool true) s') : wpAny (model G.prog G.w) A (call (.builtin "any") [.ref a]) Q E s := by
  refine call_function_tree F.kind_any F.plain_any F.entry_any (F.args_any1 _) ?_
  unfold Builtin.«any»
  refine wpAny_bind (m := oneArg "any" _) (wpAny_pure ?_)
  refine wpAny_bind (wpAny_pyIter_gen hG.1 ?_)
  exact wpAny_pure ⟨plainId_quiet F.plain_any_loop _, any_loop hh hd hgen hend hstop n s hG⟩
end
section
variable {X : Cx} {pins : List (Addr × Obj)} {σ : L2.St} {H : Hp} {s : Shared}
/-- the generator is made -/
theorem gex_made {c P : Addr} {tg elt iter : Expr} {gpos : Pos} {scope : Scope} {own : List (Str × Nat)} {k : Nat} {g : TG} {te : TE} {wi : TI} {stopv : Bool} {Qs Qd : Hp → Prop}
    (hr : Room (k + 1) X.A) (hN : X.N.Nodup) (TB : GxR.TabB X.base X.mg c P) (hcode : X.env.code = .ref c) (ok : GexOk X.N X.env.scope scope own) (hi : PI X tg iter wi)
    (hpe : ∀ (A : Around) (s : Shared) (H : Hp) (C : Addr) (code : Value) (fp : List Addr) (pn : List (Addr × Obj)), Room k A → let G := gex X A s H (genEnv scope (cloFrom X.env.cells scope.names []) C code builtinsNs X.env) fp pn
      PG G tg g ∧ PE G elt te)
    (hs : ∀ v, genFold iter X.env v = pure v) (I : Inv X pins σ H s)
    (h : wi σ H fun J H1 => GxR.TabG H1 P ∧ ∀ H2, GxR.Tabbed P H1 H2 → ∃ W : Nat → Nat → Hp → Prop, (∃ m, W 0 m H2) ∧ Turns J g te (own.map (·.2)) (wipe σ (own.map (·.2))) stopv Qs Qd W) :
    wpAny (model X.prog X.w) X.A (eval (.GeneratorExp elt [⟨tg, iter, [], 0⟩] scope gpos) X.env) (fun v s5 => ∃ (A' : Around) (sG : Shared) (HG : Hp) (genv : Env) (fp : List Addr) (pn : List (Addr × Obj)) (a : Addr) (gn n : Nat),
      v = .ref a ∧ GAt (gex X A' sG HG genv fp pn) X.A.in1.in1 fp stopv Qs Qd a gn n s5 ∧ (∀ σ' H' s', Inv (gex X A' sG HG genv fp pn) [] σ' H' s' → s'.heap.IsGen a gn) ∧
      (∀ σ' H' s', Inv (gex X A' sG HG genv fp pn) [] σ' H' s' → (∀ b ∈ fp, H' b = none) → Inv X pins σ H' s')) X.xe s := by
  have hfree : ∀ y ∈ scope.names, y.2 = .free → ∃ c, X.env.cells.lookup y.1 = some c := fun y hy e => by
    rcases ok.free y hy e with k | k
    · exact I.ok.has _ (.inl k)
    · exact I.ok.has _ (.inr k)
  refine wpAny_GeneratorExp_make ok.co (closure_ok hfree) ok.nocell ok.dot ok.kind (by have := hr.dp; omega) ?_ hs
  refine thn (hi.run pins s σ H _ I h) fun xv s1 hx => thn hx fun itv s2 h2 => ?_
  obtain ⟨it, fp, tn, J, H1, rfl, I2, T, st2, f2, ⟨ps, hP, ht⟩, q⟩ := h2
  have hPs : s2.heap.get? P = some { cls := .none, data := .fields ps } := I2.hok P _ hP
  have cd : PySem.W.CodeHd s2.heap c P := TB.code.keeps I2.bk
  have lim2 : s2.heap.NoLimit := I2.nolimit
  have cont : ∀ (code : Value) (h3 : Heap) (tk : Nat) (ps' : Array Value), Heap.ExtBut P s2.heap h3 → s2.heap.objs.size ≤ h3.objs.size → h3.get? P = some { cls := .none, data := .fields ps' } → (∃ more, ps' = ps ++ more) → TriplesOk ps'.toList →
      wpAny (model X.prog X.w) X.A (builtinsFor X.env.globals X.env.builtins) (fun bi s₄ =>
        ∀ h', h'.Ns s₄.heap.objs.size (fun y => if y = ".0" then some (.ref it) else none) → Heap.SameBut s₄.heap.objs.size (s₄.heap.push { cls := .type "frame", data := .dict #[] }) h' →
          (fun v s5 => ∃ (A' : Around) (sG : Shared) (HG : Hp) (genv : Env) (fp : List Addr) (pn : List (Addr × Obj)) (a : Addr) (gn n : Nat),
            v = .ref a ∧ GAt (gex X A' sG HG genv fp pn) X.A.in1.in1 fp stopv Qs Qd a gn n s5 ∧ (∀ σ' H' s', Inv (gex X A' sG HG genv fp pn) [] σ' H' s' → s'.heap.IsGen a gn) ∧
            (∀ σ' H' s', Inv (gex X A' sG HG genv fp pn) [] σ' H' s' → (∀ b ∈ fp, H' b = none) → Inv X pins σ H' s')) (Value.ref h'.objs.size) { s₄ with
            gens := s₄.gens.push (.fresh (.compStart (.GeneratorExp elt [⟨tg, iter, [], 0⟩] scope gpos) 0 (.ref it) .none (genEnv scope (cloFrom X.env.cells scope.names []) s₄.heap.objs.size code bi X.env))),
            toks := s₄.toks + 1 + 1 + 1,
            heap := h'.push { cls := .type "generator", data := .fields #[.int s₄.gens.size 0, .str "<genexpr>" (s₄.toks + 1), .str (X.env.qual ++ "<genexpr>") (s₄.toks + 1 + 1)] } }) X.xe { s2 with heap := h3, toks := tk } := by
    intro code h3 tk ps' hx hsz hP3 ⟨more, hmore⟩ ht3
    subst hmore
    obtain ⟨bm, ob, e1, e2, e3, e4, e5, e6, e7, e8⟩ := TB.bm
    have keep3 : ∀ b u, b ≠ P → s2.heap.get? b = some u → h3.get? b = some u := fun b u hb e => hx b u hb e
    refine wpAny_builtinsFor (m := X.mg) (by rw [I2.ok.glob]; exact (I2.mod.glob.keeps I2.bk).extBut hx TB.gP) e1 e2 (keep3 _ _ e4 (I2.bk _ _ e5)) e6 e7 e8 ?_
    intro h' hn' hs'
    have I3 : Inv X pins σ (upd H1 P (.tbl (ps ++ more))) { s2 with heap := h3, toks := tk } := GxR.inv_tab (g' := s2.gens) (d' := s2.drawn) I2 hP keep3 hP3 I2.bare
    have hT2 : GxR.Tabbed P H1 (upd H1 P (.tbl (ps ++ more))) := ⟨⟨ps ++ more, upd_same, ht3⟩, fun b hb => upd_ne hb⟩
    obtain ⟨W, ⟨m0, w0⟩, turn⟩ := q _ hT2
    have hsz' : h'.objs.size = h3.objs.size + 1 := by rw [hs'.1, Heap.size_push]
    have keep' : ∀ b o, h3.get? b = some o → h'.get? b = some o := fun b o e => hs'.extBut b o (Nat.ne_of_lt (Heap.lt_size e)) (Heap.get?_push_of_some _ e)
    have nP : ∀ b ∈ fp, b ≠ P := fun b hb z => by
      have := (f2 b hb).1
      rw [z, hP] at this
      cases this
    have sz : ∀ b ∈ fp, b < h3.objs.size := fun b hb => by
      obtain ⟨o, e, _⟩ := T.obj _ _ st2 b hb
      exact Heap.lt_size (keep3 b o (nP b hb) e)
    have f3 : ∀ b ∈ fp, FpOk X pins (upd H1 P (.tbl (ps ++ more))) b ∧ b < ({ s2 with heap := h3, toks := tk } : Shared).heap.objs.size := fun b hb =>
      ⟨⟨by rw [upd_ne (nP b hb)]; exact (f2 b hb).1, (f2 b hb).2⟩, sz b hb⟩
    generalize hgo : ({ cls := .type "generator", data := .fields #[.int s2.gens.size 0, .str "<genexpr>" (tk + 1), .str (X.env.qual ++ "<genexpr>") (tk + 1 + 1)] } : Obj) = go
    have hgen : ∀ h : Heap, h.get? h'.objs.size = some go → h.IsGen h'.objs.size s2.gens.size := fun h e => ⟨go, _, _, e, by rw [← hgo], by rw [← hgo], by rw [← hgo]⟩
    have hpush : (h'.push go).get? h'.objs.size = some go := by
      rw [← hgo]
      exact Heap.get?_push_size _ rfl
    have hgd : ∀ v, go.data ≠ .cell v := fun v z => by rw [← hgo] at z; cases z
    have keep5 : ∀ b o, h3.get? b = some o → (h'.push go).get? b = some o := fun b o e => Heap.get?_push_of_some _ (keep' b o e)
    have st5 : tn 0 (h'.push go) := T.keep _ _ _ st2 fun b hb o e => keep5 b o (keep3 b o (nP b hb) e)
    obtain ⟨genv, hge⟩ : ∃ genv, genv = genEnv scope (cloFrom X.env.cells scope.names []) h3.objs.size code builtinsNs X.env := ⟨_, rfl⟩
    obtain ⟨A', hA'⟩ : ∃ A', A' = X.A.in1.in1.over (.compLoop (.GeneratorExp elt [⟨tg, iter, [], 0⟩] scope gpos) 0 (.ref it) .none genv) [] := ⟨_, rfl⟩
    have roomA : Room k A' := by
      rw [hA']
      refine ⟨hr.hd, ?_, ?_⟩
      · have := hr.dp
        show X.A.depth + 1 + 3 * k + 5 < _
        omega
      · have := hr.un
        show X.A.units + 1 + 1 + 3 + 16 * k + 200 < _
        omega
    have frA : A'.frames = some (genv :: X.stack) := by
      rw [hA']
      show pushEnvs [genv] X.A.frames = _
      rw [I.ok.frames]
      rfl
    obtain ⟨pg, pe⟩ := hpe A' { s2 with heap := h3, toks := tk } (upd H1 P (.tbl (ps ++ more))) h3.objs.size code fp [(h'.objs.size, go)] roomA
    rw [← hge] at pg pe
    have lim5 : (h'.push go).NoLimit := I3.nolimit.keeps keep5
    refine ⟨A', { s2 with heap := h3, toks := tk }, upd H1 P (.tbl (ps ++ more)), genv, fp, [(h'.objs.size, go)], h'.objs.size, s2.gens.size, m0 + 1, rfl, ?_, fun σ' H' s' I' => hgen _ (I'.pin (h'.objs.size, go) (List.mem_append_left _ (List.mem_singleton.mpr rfl))).1, fun σ' H' s' I' n' => ?_⟩
    · refine ⟨hgen _ hpush, lim5, AllBare.push I2.bare rfl, _, Array.getElem?_push_size .., fun s'' hh ho hb => ⟨rfl, ?_⟩⟩
      show Seg _ _ _ _ _ _ (.compStart (.GeneratorExp elt [⟨tg, iter, [], 0⟩] scope gpos) 0 (.ref it) .none (genEnv scope (cloFrom X.env.cells scope.names []) h3.objs.size code builtinsNs X.env)) _ _ _
      rw [← hge]
      have IG : Inv (gex X A' { s2 with heap := h3, toks := tk } (upd H1 P (.tbl (ps ++ more))) genv fp [(h'.objs.size, go)]) [] (wipe σ (own.map (·.2))) (upd H1 P (.tbl (ps ++ more))) s'' := by
        refine gex_start (m := fun y => if y = ".0" then some (.ref it) else none) I3 ok hN f3 (by rw [hA']; exact hr.hd) frA hge ho hb (by rw [hh]; exact keep5) (by rw [hh]; exact hn'.push _) fun p hp => ?_
        rw [List.mem_singleton.mp hp, hh]
        refine ⟨hpush, ?_, hgd⟩
        show h3.objs.size < h'.objs.size
        omega
      refine seg_gex0 (G := gex X A' { s2 with heap := h3, toks := tk } (upd H1 P (.tbl (ps ++ more))) genv fp [(h'.objs.size, go)]) T (by rw [hh]; exact st5) ?_
      refine seg_gex (G := gex X A' { s2 with heap := h3, toks := tk } (upd H1 P (.tbl (ps ++ more))) genv fp [(h'.objs.size, go)]) T rfl rfl rfl (fun b hb p hp => ?_) hA'.symm (by show genv.scope.isCoroutine = false; rw [hge]; exact ok.co) pg pe turn (m0 + 1) 0 m0 _ _ _ (Nat.lt_succ_self _) w0 IG (by rw [hh]; exact st5) fun b hb => (f3 b hb).1.1
      rw [List.mem_singleton.mp hp]
      show h'.objs.size ≠ b
      exact Nat.ne_of_gt (by rw [hsz']; exact Nat.lt_succ_of_lt (sz b hb))
    · exact I3.call' (ch := fp) I'.os I'.base I'.hok I'.bare fun b hb => ⟨(f3 b hb).1.2.2.2.1, (f3 b hb).1.2.1, (f3 b hb).1.2.2.2.2.1, (f3 b hb).1.2.2.2.2.2⟩
  refine ⟨lim2, ?_⟩
  cases hf : codeAmong gpos ps.toList with
  | none =>
    refine wpAny_genexprCodeX hcode (cd.code hPs ht) (cd.tab hPs) hf fun c' h' tk hx hge hlt hco' _ htab' _ => ?_
    obtain ⟨o1, vs, f1, tf, fl, tg, inF, tx, tt, op, _, _, _, _, _, _, _, _, _, htr, _⟩ := hco'
    exact cont _ h' tk _ hx (Nat.le_trans hge (Nat.le_of_lt hlt)) htab'.2 ⟨_, rfl⟩ htr
  | some cv =>
    refine wpAny_genexprCode_hit hcode (cd.code hPs ht) hf ?_
    exact cont cv s2.heap s2.toks ps (Heap.ExtBut.refl _ _) (Nat.le_refl _) hPs ⟨#[], by simp⟩ ht
/-- all(test for tg in iter), any(..): behind it the def's table may have grown -/
def tAllG (P : Addr) (wi : TI) (g : TG) (te : TE) (vs : List Nat) : TE := fun σ H Q => wi σ H fun J H1 => GxR.TabG H1 P ∧ ∀ H2, GxR.Tabbed P H1 H2 → ∃ W : Nat → Nat → Hp → Prop, (∃ m, W 0 m H2) ∧ Turns J g te vs (wipe σ vs) false (fun H' => Q (.bl false) H') (fun H' => Q (.bl true) H') W
def tAnyG (P : Addr) (wi : TI) (g : TG) (te : TE) (vs : List Nat) : TE := fun σ H Q => wi σ H fun J H1 => GxR.TabG H1 P ∧ ∀ H2, GxR.Tabbed P H1 H2 → ∃ W : Nat → Nat → Hp → Prop, (∃ m, W 0 m H2) ∧ Turns J g te vs (wipe σ vs) true (fun H' => Q (.bl true) H') (fun H' => Q (.bl false) H') W
section
variable {c P : Addr} {tg elt iter : Expr} {p pos gpos : Pos} {scope : Scope} {own : List (Str × Nat)} {k : Nat} {g : TG} {te : TE} {wi : TI}
theorem pe_allG (hr : Room (k + 1) X.A) (hN : X.N.Nodup) (hg : Gl X "all") (hm : X.mg "all" = none) (hb : bootBuiltins "all" = some (.builtin "all")) (TB : GxR.TabB X.base X.mg c P) (hcode : X.env.code = .ref c) (ok : GexOk X.N X.env.scope scope own) (hi : PI X tg iter wi)
    (hpe : ∀ (A : Around) (s : Shared) (H : Hp) (C : Addr) (code : Value) (fp : List Addr) (pn : List (Addr × Obj)), Room k A → let G := gex X A s H (genEnv scope (cloFrom X.env.cells scope.names []) C code builtinsNs X.env) fp pn
      PG G tg g ∧ PE G elt te)
    (hs : ∀ v, genFold iter X.env v = pure v)
    (he : starEach [.GeneratorExp elt [⟨tg, iter, [], 0⟩] scope gpos] X.env = (false, eval (.GeneratorExp elt [⟨tg, iter, [], 0⟩] scope gpos) X.env) :: starEach [] X.env := by rfl) :
    PE X (.Call (.Name "all" p) [.GeneratorExp elt [⟨tg, iter, [], 0⟩] scope gpos] [] pos) (tAllG P wi g te (own.map (·.2))) := by
  refine ⟨fun pins s σ H Q I h => ?_⟩
  refine wpAny_Call_Name_kw (ld_blt I hg hm hb ?_)
  refine PyProof.Rows.callWith_builtin1 ?_ he (by rfl)
  rw [he]
  show wpAny _ _ (spliced ((false, eval (.GeneratorExp elt [⟨tg, iter, [], 0⟩] scope gpos) X.env) :: backTo pos (starEach [] X.env))) _ _ s
  refine Calls.spliced_cons (thn (gex_made (stopv := false) hr hN TB hcode ok hi hpe hs I h) fun v s5 ⟨A', sG, HG, genv, fp, pn, a, gn, n, hv, hG, hgen, back⟩ => ?_)
  subst hv
  refine Calls.spliced_nil ?_
  exact call_all_gen (G := gex X A' sG HG genv fp pn) hr.hd (by have := hr.dp; omega) hgen hG (fun s' σ' H' I' n' q => ⟨.bl true, H', back σ' H' s' I' n', rfl, q⟩) fun s' σ' H' I' n' q => ⟨.bl false, H', back σ' H' s' I' n', rfl, q⟩
theorem pe_anyG (hr : Room (k + 1) X.A) (hN : X.N.Nodup) (hg : Gl X "any") (hm : X.mg "any" = none) (hb : bootBuiltins "any" = some (.builtin "any")) (TB : GxR.TabB X.base X.mg c P) (hcode : X.env.code = .ref c) (ok : GexOk X.N X.env.scope scope own) (hi : PI X tg iter wi)
    (hpe : ∀ (A : Around) (s : Shared) (H : Hp) (C : Addr) (code : Value) (fp : List Addr) (pn : List (Addr × Obj)), Room k A → let G := gex X A s H (genEnv scope (cloFrom X.env.cells scope.names []) C code builtinsNs X.env) fp pn
      PG G tg g ∧ PE G elt te)
    (hs : ∀ v, genFold iter X.env v = pure v)
    (he : starEach [.GeneratorExp elt [⟨tg, iter, [], 0⟩] scope gpos] X.env = (false, eval (.GeneratorExp elt [⟨tg, iter, [], 0⟩] scope gpos) X.env) :: starEach [] X.env := by rfl) :
    PE X (.Call (.Name "any" p) [.GeneratorExp elt [⟨tg, iter, [], 0⟩] scope gpos] [] pos) (tAnyG P wi g te (own.map (·.2))) := by
  refine ⟨fun pins s σ H Q I h => ?_⟩
  refine wpAny_Call_Name_kw (ld_blt I hg hm hb ?_)
  refine PyProof.Rows.callWith_builtin1 ?_ he (by rfl)
  rw [he]
  show wpAny _ _ (spliced ((false, eval (.GeneratorExp elt [⟨tg, iter, [], 0⟩] scope gpos) X.env) :: backTo pos (starEach [] X.env))) _ _ s
  refine Calls.spliced_cons (thn (gex_made (stopv := true) hr hN TB hcode ok hi hpe hs I h) fun v s5 ⟨A', sG, HG, genv, fp, pn, a, gn, n, hv, hG, hgen, back⟩ => ?_)
  subst hv
  refine Calls.spliced_nil ?_
  exact call_any_gen (G := gex X A' sG HG genv fp pn) hr.hd (by have := hr.dp; omega) hgen hG (fun s' σ' H' I' n' q => ⟨.bl false, H', back σ' H' s' I' n', rfl, q⟩) fun s' σ' H' I' n' q => ⟨.bl true, H', back σ' H' s' I' n', rfl, q⟩
end
end
/-! ### heaps: the defs' tables may grow -/
structure SameT (H H' : Hp) : Prop where
  but : ∀ b o, H b = some o → (∀ ps, o ≠ .tbl ps) → H' b = some o
  tab : ∀ P, GxR.TabG H P → GxR.TabG H' P
theorem SameT.refl (H : Hp) : SameT H H := ⟨fun _ _ h _ => h, fun _ h => h⟩
theorem SameT.trans {H H1 H2 : Hp} (a : SameT H H1) (b : SameT H1 H2) : SameT H H2 := ⟨fun c o h n => b.but c o (a.but c o h n) n, fun P h => b.tab P (a.tab P h)⟩
theorem TabG.mono {H H' : Hp} {P : Addr} (e : Same H H') (h : GxR.TabG H P) : GxR.TabG H' P := by
  obtain ⟨ps, h1, h2⟩ := h
  exact ⟨ps, e _ _ h1, h2⟩
theorem sameT {H H' : Hp} (e : Same H H') : SameT H H' := ⟨fun b o h _ => e b o h, fun _ h => TabG.mono e h⟩
theorem tabbedT {H H' : Hp} {P : Addr} (hP : GxR.TabG H P) (t : GxR.Tabbed P H H') : SameT H H' := by
  obtain ⟨ps, h1, h2⟩ := hP
  refine ⟨fun b o h n => ?_, fun Q h => ?_⟩
  · rw [t.2 b fun z => by rw [z, h1] at h; cases h; exact n ps rfl]
    exact h
  · by_cases hQ : Q = P
    · rw [hQ]
      exact t.1
    · obtain ⟨qs, g1, g2⟩ := h
      exact ⟨qs, by rw [t.2 Q hQ]; exact g1, g2⟩
section
variable {K : PySem.W.Frag} {H H' : Hp}
theorem SameT.seq {a : Addr} {xs : List V} (e : SameT H H') (h : SqL K H a xs) : SqL K H' a xs := by
  rcases h with (h | ⟨o, h⟩) | h
  · exact .inl (.inl (e.but _ _ h fun _ z => by cases z))
  · exact .inl (.inr ⟨o, e.but _ _ h fun _ z => by cases z⟩)
  · exact .inr h
theorem SameT.tseq {a : Addr} {xs : List V} (e : SameT H H') (h : SqT K H a xs) : SqT K H' a xs := by
  rcases h with (h | ⟨o, h⟩) | h
  · exact .inl (.inl (e.but _ _ h fun _ z => by cases z))
  · exact .inl (.inr ⟨o, e.but _ _ h fun _ z => by cases z⟩)
  · exact .inr h
mutual
theorem Dp.monoT (e : SameT H H') : ∀ (d : PyData) (v : V), Dp K H v d → Dp K H' v d
  | .none, _, h => by cases h; exact .non
  | .bool b, _, h => by cases h; exact .bl b
  | .int i, _, h => by cases h; exact .int i
  | .str x, _, h => by cases h; exact .str x
  | .list ds, _, h => by
    cases h with
    | lst hs ha => exact .lst (SameT.seq e hs) (Dp.monoTAll e ds _ ha)
  | .tuple ds, _, h => by
    cases h with
    | tup hs ha => exact .tup (SameT.tseq e hs) (Dp.monoTAll e ds _ ha)
  | .dict _, _, h => by cases h
theorem Dp.monoTAll (e : SameT H H') : ∀ (ds : List PyData) (vs : List V), DpAll K H vs ds → DpAll K H' vs ds
  | [], _, h => by cases h; exact .nil
  | d :: ds, _, h => by
    cases h with
    | cons h1 h2 => exact .cons (Dp.monoT e d _ h1) (Dp.monoTAll e ds _ h2)
end
theorem Fr.monoT {v : V} {r : Rat} (e : SameT H H') (h : Ub.Fr K H v r) : Ub.Fr K H' v r := Dp.monoT e _ _ h
theorem Frs.monoT {v : V} {rs : List Rat} (e : SameT H H') (h : Ub.Frs K H v rs) : Ub.Frs K H' v rs := Dp.monoT e _ _ h
end
/-! ### turns over a list, a range, two lists -/
section
variable {K : PySem.W.Frag} {g : TG} {te : TE} {vs : List Nat} {σw : L2.St} {stopv : Bool} {Qs Qd : Hp → Prop} {H2 : Hp}
theorem turnsL {a : Addr} {xs : List V} (Pv : Nat → Hp → Prop) (h0 : Pv 0 H2) (hl : ∀ i H, i ≤ xs.length → Pv i H → SqL K H a xs)
    (hs : ∀ i x H, xs[i]? = some x → Pv i H → g x σw H fun σ2 H2 => wipe σ2 vs = σw ∧ te σ2 H2 fun y H3 => ∃ b, y = .bl b ∧ (b = stopv → Qs H3) ∧ (b ≠ stopv → Pv (i + 1) H3)) (hd : ∀ H, Pv xs.length H → Qd H) :
    ∃ W : Nat → Nat → Hp → Prop, (∃ m, W 0 m H2) ∧ Turns (Itl K a) g te vs σw stopv Qs Qd W := by
  refine ⟨fun i m H => m = xs.length - i ∧ i ≤ xs.length ∧ Pv i H, ⟨xs.length, by simp, Nat.zero_le _, h0⟩, ?_⟩
  rintro i m H ⟨rfl, hi, p⟩
  have q := hl i H hi p
  by_cases hlt : i < xs.length
  · refine .inr ⟨⟨xs, xs[i], q, by simp [hlt]⟩, Pv (i + 1), fun H' p' => ⟨xs.length - (i + 1), by omega, rfl, hlt, p'⟩, fun x H' y => ?_⟩
    obtain ⟨e, y⟩ := y
    subst e
    exact hs i x _ (y xs q) p
  · have e : i = xs.length := by omega
    subst e
    exact .inl ⟨⟨xs, q, Nat.le_refl _⟩, hd H p⟩
theorem turnsZ {a c : Addr} {xs ys : List V} (Pv : Nat → Hp → Prop) (h0 : Pv 0 H2) (hl : ∀ i H, Pv i H → SqL K H a xs ∧ SqL K H c ys)
    (hs : ∀ i x y T H, xs[i]? = some x → ys[i]? = some y → H T = none → Pv i H → g (.ref T) σw (upd H T (.tup [x, y])) fun σ2 H2 => wipe σ2 vs = σw ∧ te σ2 H2 fun y H3 => ∃ b, y = .bl b ∧ (b = stopv → Qs H3) ∧ (b ≠ stopv → Pv (i + 1) H3)) (hd : ∀ H, Pv (min xs.length ys.length) H → Qd H) :
    ∃ W : Nat → Nat → Hp → Prop, (∃ m, W 0 m H2) ∧ Turns (Itz K a c) g te vs σw stopv Qs Qd W := by
  refine ⟨fun i m H => m = min xs.length ys.length - i ∧ i ≤ min xs.length ys.length ∧ Pv i H, ⟨min xs.length ys.length, by simp, Nat.zero_le _, h0⟩, ?_⟩
  rintro i m H ⟨rfl, hi, p⟩
  obtain ⟨q1, q2⟩ := hl i H p
  by_cases hlt : i < min xs.length ys.length
  · have h1 : i < xs.length := by omega
    have h2 : i < ys.length := by omega
    refine .inr ⟨⟨xs, ys, xs[i], ys[i], q1, q2, by simp [h1], by simp [h2]⟩, Pv (i + 1), fun H' p' => ⟨min xs.length ys.length - (i + 1), by omega, rfl, by omega, p'⟩, fun v H' y => ?_⟩
    obtain ⟨T, x, y, rfl, nT, rfl, hx, hy⟩ := y
    exact hs i x y T H (hx xs q1) (hy ys q2) nT p
  · have e : i = min xs.length ys.length := by omega
    subst e
    exact .inl ⟨⟨xs, ys, q1, q2, by omega⟩, hd H p⟩
end
/-! ### defs with a table, the law's end -/
def dT (x : String) : He.Defn := (Str.ofString x, none)
section
variable {P : Program} {w : World} {K : PySem.W.Frag} {mg : Str → Option Value} {base : Heap} {x qual : Str} {params : Arguments} {body : List Stmt} {scope : Scope} {dvs : List V} {kws : List (Str × V)} {f : Addr} {fd : FuncData}
theorem FunD.okT {CX : CXT} {N ps : List Str} {k : Nat} {sp : Sp} {p : He.Defn} (F : FunD K x qual params body scope dvs kws f fd) (hf : f = He.fAd K p) (S : FnScope N ps scope) (len : ∀ vs H Q E, sp vs H Q E → vs.length = ps.length)
    (hbody : ∀ (A : Around) (outer : List Env) (s : Shared) (H : Hp) (vs : List V) (Q : VK) (E : XK), Room k (A.deeper (envOfC qual scope s.heap.objs.size f (.ref (He.cT K p).1))) → sp vs H Q E →
      ∃ t, PSs (cxOf CX P w K mg base N qual scope f (.ref (He.cT K p).1) A outer s H E) body t ∧ t { nx := fun _ H' => Q .non H', rt := Q } (start N vs) H) : FnOk P w K mg base CX (k + 1) f fd ps sp := by
  obtain ⟨oc, od, dV, kV, doc, pm, an, cdv, ct, osl, rfl, lk, hcd, _, _⟩ := F.ex
  obtain ⟨c, hc⟩ := He.codeIn_ref hcd
  subst hc
  have e : (He.cT K p).1 = c := He.codeOf_eq (by rw [← hf]; exact lk) rfl
  refine fn_of lk hcd S len fun A outer s H vs Q E hr hsp => ?_
  have h := hbody A outer s H vs Q E (by rw [e]; exact hr) hsp
  rw [e] at h
  exact h
end
theorem endOfLawT {l : PySem.W.OpenLaw} {n k : Nat} {q : Program} {loose : List Str} {XP : (Str → Option Value) → Heap → Prop} {YP : World → Heap → Prop} {d : DefRec} {x : Str}
    (most : l.most = some n) (small : n ≤ sizeLine) (plain : d.params.defaults = []) (room : Room k callerA) (tf : List He.Defn)
    (all : ∀ (w : World) (mg : Str → Option Value) (fa : Addr) (h : Heap), YP w h → h.Ns mainGlobals mg → mg d.name = some (.ref fa) → ∃ (K : PySem.W.Frag) (fd : FuncData) (sp : Sp), K.In h ∧
      (∀ p ∈ tf, PySem.W.codeHdIn K (He.cT K p).1 (He.cT K p).2 = true) ∧ (∀ p ∈ tf, K.lookup (He.cT K p).2 = none) ∧ (∀ p ∈ tf, h.get? (He.cT K p).2 = some { cls := .none, data := .fields #[] }) ∧
      (∀ (s : Shared) (u : Value), BindsTo s fd ⟨[u], []⟩ [(x, u)]) ∧ (∀ (H : Hp) (a : Addr) (ns : List Int), ns.length ≤ n → (∀ z ∈ ns, Builtin.Int.intBits z ≤ 1048576) → (∀ p ∈ tf, GxR.TabG H (He.cT K p).2) → SqL K H a (ns.map V.int) → sp [.ref a] H (fun v _ => v = .bl true) E0) ∧
      ∀ base : Heap, K.In base → base.Ns mainGlobals mg → (∀ p ∈ tf, GxR.TabB base mg (He.cT K p).1 (He.cT K p).2) → FnOk l.prog w K mg base (L2.CX l.prog w) k fa fd [x] sp) :
    PySem.W.WalkO q loose XP YP l.row.toRowW d [] (fun f vs => PySem.call f vs) := by
  refine LamX.walk_ofTsE (CX := fun w => L2.CX l.prog w) (x := x) most small plain room (fun w mg fa h Y hn hm => ?_) fun w H s e s' z => Ub.noExc z
  obtain ⟨K, fd, sp, kin, hd, out, emp, bnd, want, ok⟩ := all w mg fa h Y hn hm
  refine ⟨K, kin, fd, tf.map (He.cT K), sp, fun p hp => ?_, fun p hp => ?_, fun p hp => ?_, bnd, fun H a ns hl hb hT hS => want H a ns hl hb (fun p hp => ?_) hS, fun base k2 g2 tb => ok base k2 g2 fun p hp => ?_⟩
  · obtain ⟨q, hq, rfl⟩ := List.mem_map.mp hp
    exact emp q hq
  · obtain ⟨q, hq, rfl⟩ := List.mem_map.mp hp
    exact out q hq
  · obtain ⟨q, hq, rfl⟩ := List.mem_map.mp hp
    exact PySem.W.codeHd_of_K kin (hd q hq)
  · exact ⟨#[], hT _ (List.mem_map.mpr ⟨p, hp, rfl⟩), True.intro⟩
  · obtain ⟨a, b, c⟩ := tb _ (List.mem_map.mpr ⟨p, hp, rfl⟩)
    exact ⟨a, b, c⟩
def gexC (N : List Str) (sc scope : Scope) (own : List (Str × Nat)) : Bool :=
  decide (scope.kind = .function) && (decide (scope.isCoroutine = false) && (scope.names.all (fun y => decide (y.2 ≠ .cell)) && (decide (scope.names.lookup (".0" : Str) = some NameKind.local) && (scope.names.all (fun y => decide (scope.names.lookup y.1 = some y.2)) &&
    (own.all (fun p => decide (N[p.2]? = some p.1)) && (scope.names.all (fun y => decide (y.2 = .free → (sc.names.lookup y.1 = some .cell ∨ sc.names.lookup y.1 = some .free))) && scope.names.all (fun y => decide (y.2 = .local → (y.1 ∈ own.map (·.1) ∨ y.1 ∉ N)))))))))
theorem gexOk_by {N : List Str} {sc scope : Scope} {own : List (Str × Nat)} (h : gexC N sc scope own = true) : GexOk N sc scope own := by
  unfold gexC at h
  simp only [Bool.and_eq_true, List.all_eq_true, decide_eq_true_eq] at h
  obtain ⟨h1, h2, h3, h4, h5, h6, h7, h8⟩ := h
  exact ⟨h1, h2, h3, h4, h5, h6, h7, h8⟩
theorem bb_all : bootBuiltins "all" = some (.builtin "all") := by kernel_rfl
theorem bb_any : bootBuiltins "any" = some (.builtin "any") := by kernel_rfl
/-! ### list(reversed(x)), x a list -/
section
open RT
variable {prog : Program} {w : World} {A : Around} {E : Value → Shared → Prop} {s : Shared}
theorem call_list_revI {it l : Addr} {items : Array Value} {Q : Value → Shared → Prop} (hh : A.handled = none) (hit : s.heap.IsRevIter it l ((items.size : Int) - 1)) (hl : s.heap.IsList l items) (hne : l ≠ it) (hn : items.size ≤ sizeLine)
    (hQ : ∀ (h' : Heap) (tk : Nat) (acc : Array Value) (c' : Nat), (∀ b o, b ≠ it → s.heap.get? b = some o → h'.get? b = some o) → h'.get? s.heap.objs.size = some (lstObj acc c') → ItemsOf (fun i v => items[items.size - 1 - i]? = some v) acc items.size → Q (.ref s.heap.objs.size) { s with heap := h', toks := tk }) :
    wpAny (model prog w) A (call (.type "list") [.ref it]) Q E s := by
  have W := (Walks.listRev (prog := prog) (w := w) (A := A.in1.in1) hh it l hne items).toS
  obtain ⟨oi, hoi, _⟩ := id hit
  obtain ⟨ol, hol, _⟩ := id hl
  have hSi : s.heap.objs.size ≠ it := Nat.ne_of_gt (Heap.lt_size hoi)
  have hSl : s.heap.objs.size ≠ l := Nat.ne_of_gt (Heap.lt_size hol)
  have hSf : s.heap.objs.size ∉ [it, l] := by simp only [List.mem_cons, List.not_mem_nil, or_false, not_or]; exact ⟨hSi, hSl⟩
  refine callType_codes (Q₁ := fun obj s₁ => obj = .ref s.heap.objs.size ∧ s₁ = { s with heap := s.heap.push { cls := .type "list", data := .seq #[] } }) F.called_list (F.typeCall_list_1 _) F.entry_list_init
    (code_list_new _ ⟨rfl, rfl⟩) fun obj s₁ h₁ => ?_
  obtain ⟨rfl, rfl⟩ := h₁
  have hS : (s.heap.push { cls := .type "list", data := .seq #[] }).get? s.heap.objs.size = some { cls := .type "list", data := .seq #[] } := Heap.get?_push_size _ rfl
  refine ⟨⟨_, hS, rfl⟩, F.args_list_init_2 _ _, ?_⟩
  show wpAny _ A.in1.in1 (do let old ← Builtin.List.listItems (.ref s.heap.objs.size); Builtin.List.listUpdate (.ref s.heap.objs.size) (fun _ => #[]); letGo old.toList.reverse; Builtin.List.listExtendWith (.ref s.heap.objs.size) (.ref it) .none) _ _ _
  refine wpAny_bind ?_
  unfold Builtin.List.listItems
  refine wpAny_bind (wpAny_seqItems hS rfl (wpAny_pure ?_))
  show wpAny _ A.in1.in1 (updateSeq s.heap.objs.size (fun _ => #[]) >>= fun _ => letGo (#[] : Array Value).toList.reverse >>= fun _ => Builtin.List.listExtendWith (.ref s.heap.objs.size) (.ref it) .none) _ _ _
  refine wpAny_bind (wpAny_updateSeq hS rfl ?_)
  have hS2 := Heap.get?_update_self (Obj.mapSeq (fun _ => (#[] : Array Value))) hS rfl
  refine wpAny_bind (wpAny_letGo ?_)
  have kp : ∀ b o, s.heap.get? b = some o → ((s.heap.push { cls := .type "list", data := .seq #[] }).update s.heap.objs.size (Obj.mapSeq (fun _ => (#[] : Array Value)))).get? b = some o := fun b o e =>
    (Heap.get?_update_other _ _ (Ne.symm (Nat.ne_of_lt (Heap.lt_size e)))).trans (Heap.get?_push_of_some _ e)
  generalize ((s.heap.push { cls := .type "list", data := .seq #[] }).update s.heap.objs.size (Obj.mapSeq (fun _ => (#[] : Array Value)))) = h2 at hS2 kp ⊢
  have hit1 : h2.IsRevIter it l ((items.size : Int) - 1) := hit.at fun o e => kp it o e
  have hl1 : h2.IsList l items := hl.at fun o e => kp l o e
  have hT : ({ s with heap := h2 } : Shared).TypeIs (.ref it) "list_reverseiterator" := Heap.IsRevIter.typeIs (s := { s with heap := h2 }) hit1
  have h1 : Builtin.List.listSameRef (.ref s.heap.objs.size) (.ref it) = false := by simp [Builtin.List.listSameRef, hSi]
  unfold Builtin.List.listExtendWith
  refine wpAny_bind (wpAny_typeOf hT ?_)
  rw [if_neg (by rw [h1]; decide)]
  refine wpAny_bind (wpAny_pyIter_revIter (s := { s with heap := h2 }) hit1 ?_)
  refine wpAny_bind (wpAny_holding ?_)
  unfold Builtin.List.listLengthHint
  refine wpAny_bind (wpAny_specialOf hT nolen_lri ?_)
  show wpAny _ A.in1.in1 (specialOf (Value.ref it) (Str.ofString "__length_hint__") >>= _) _ _ _
  refine wpAny_bind (wpAny_specialOf hT hint_lri ?_)
  generalize hid : ("list_reverseiterator.__length_hint__" : String) = id0
  wp_delta
  rw [show splitId id0 = some ("list_reverseiterator", "__length_hint__") from by subst hid; decide +kernel]
  subst hid
  refine wpAny_bind (wpAny_isInstance (b := true) hT (by rw [isSubtype_type]; kernel_rfl) ?_)
  refine wpAny_pure ?_
  rw [if_neg (by decide)]
  have e0 : ((items.size : Nat) : Int) - 1 - ((0 : Nat) : Int) = (items.size : Int) - 1 := by omega
  refine wpAny_pure ⟨plainId_quiet F.plain_extend_loop _, codeAny_extend_loopS W hn _ hSf _ items.size 0 _ _ _ rfl (Nat.zero_le _) ⟨Nat.zero_le _, by rw [e0]; exact hit1, hl1⟩ hS2 (ItemsOf.nil _) fun s' acc' c' hm hS' hacc => ?_⟩
  rw [Moved.eq_with hm]
  refine ⟨rfl, hQ s'.heap s'.toks acc' c' (fun b o hb e => hm.heap b o (fun hmem => ?_) (kp b o e)) hS' hacc⟩
  rcases List.mem_cons.mp hmem with e' | hmem
  · exact absurd (Heap.lt_size e) (by rw [e']; exact Nat.lt_irrefl _)
  · exact hb (List.mem_singleton.mp hmem)
end
def tListRev (K : PySem.W.Frag) (te : TE) : TE := fun σ H Q => te σ H fun v H1 => ∃ (a : Addr) (xs : List V), v = .ref a ∧ SqL K H1 a xs ∧ ∀ q, H1 q = none → Q (.ref q) (upd H1 q (.lst xs.reverse))
theorem pe_listRev {X : Cx} {e : Expr} {te : TE} {p p2 pos pos2 : Pos} (hc : X.calm = true) (hg : Gl X "list") (hm : X.mg "list" = none) (hb : bootBuiltins "list" = some (.type "list")) (hg2 : Gl X "reversed") (hm2 : X.mg "reversed" = none) (he : PE X e te)
    (hs : starEach [e] X.env = (false, eval e X.env) :: starEach [] X.env := by rfl)
    (hs2 : starEach [.Call (.Name "reversed" p2) [e] [] pos2] X.env = (false, eval (.Call (.Name "reversed" p2) [e] [] pos2) X.env) :: starEach [] X.env := by rfl) :
    PE X (.Call (.Name "list" p) [.Call (.Name "reversed" p2) [e] [] pos2] [] pos) (tListRev X.K te) := by
  refine ⟨fun pins s σ H Q I h => ?_⟩
  refine Call_ (ld_blt I hg hm hb (PyProof.Rows.callWith_type1 (args_cons (Call_ (ld_blt I hg2 hm2 PyProof.Rows.boot_reversed (PyProof.Rows.callWith_type1 (args_cons (thn (he.run pins s σ H _ I h) fun u s1 ⟨v, H1, I1, r1, q1⟩ => args_nil ?_) hs) hs rfl))) hs2) hs2 rfl))
  obtain ⟨a, xs, ev, hq, q⟩ := q1
  subst ev
  obtain rfl : u = Value.ref a := r1
  obtain ⟨its, rv, p', hz⟩ := I1.list hq
  refine call_reversed_list p'.isList (args_nil ?_)
  have k0 : ∀ b o, s1.heap.get? b = some o → (s1.heap.push (revObj a ((its.toArray.size : Int) - 1))).get? b = some o := fun b o e => Heap.get?_push_of_some _ e
  have I2 : L2.Inv X pins σ H1 { s1 with heap := s1.heap.push (revObj a ((its.toArray.size : Int) - 1)) } := I1.kept (t' := s1.toks) k0
  obtain ⟨f0, f1, f2, f3, f4, f5⟩ := I1.fpOk (H' := H1) (b := s1.heap.objs.size) (Nat.le_refl _) (I1.hok.fresh (Nat.le_refl _))
  have hl := p'.isList
  obtain ⟨ol, hol, _⟩ := id hl
  have hne : a ≠ s1.heap.objs.size := Nat.ne_of_lt (Heap.lt_size hol)
  have hn : its.toArray.size ≤ sizeLine := by rw [List.size_toArray, ← rv.length]; exact hz
  refine call_list_revI (s := { s1 with heap := s1.heap.push (revObj a ((its.toArray.size : Int) - 1)) }) (I1.ok.hd hc) ⟨_, Heap.get?_push_size _ rfl, rfl, rfl⟩ (hl.push _) hne hn fun h' tk acc c' hk hS hi => ?_
  have I3 : L2.Inv X pins σ H1 { s1 with heap := h', toks := tk } := I2.turned (t' := tk) (fun b o hb e => hk b o hb e) f0 f1 f3 f4 f5
  have nS : H1 (s1.heap.push (revObj a ((its.toArray.size : Int) - 1))).objs.size = none := I2.hok.fresh (Nat.le_refl _)
  refine ⟨.ref (s1.heap.push (revObj a ((its.toArray.size : Int) - 1))).objs.size, upd H1 _ (.lst xs.reverse), Inv.drained (sc := { s1 with heap := s1.heap.push (revObj a ((its.toArray.size : Int) - 1)) }) (ex := [s1.heap.objs.size]) I2 (Nat.le_refl _) (by rw [List.length_reverse]; exact hz) hS (RT.vals_rev rv hi) ?_ rfl I1.bare ?_ I3.hok nS, rfl, q _ nS⟩
  · intro b hb
    rw [List.mem_singleton.mp hb]
    exact ⟨f3, f1, f4, f5⟩
  · refine ⟨fun b o e n hb hx => hk b o (fun z => hx (List.mem_singleton.mpr z)) e, fun b o e n hb hx => ⟨o.slots, hk b o (fun z => hx (List.mem_singleton.mpr z)) e⟩, fun b o e n hx => n, fun b o e hx => ⟨o, hk b o (fun z => hx (List.mem_singleton.mpr z)) e⟩, fun _ _ z => z, fun _ _ _ z => z, fun b ps z => ⟨#[], by rw [z]; simp⟩⟩
/-- isinstance of an exception that has one of two classes -/
def rIsEx2 (K : PySem.W.Frag) (D1 D2 a : Addr) (cls : Value) (d : Option Addr) : List V → Hp → VK → Prop := fun xs H Q => Ub.rIsEx K D1 a cls d xs H Q ∨ Ub.rIsEx K D2 a cls d xs H Q
theorem call_isEx2 {X : Cx} {a D1 D2 : Addr} {oe : Obj} {pn : List (Addr × Obj)} {cls : Value} {d : Option Addr} (C1 : ExcC X.K D1) (C2 : ExcC X.K D2) (hz : Zc cls d oe) (hf : ∃ vs, oe.data = .fields vs) : CallR (X.suite a ((a, oe) :: pn)) (.builtin "isinstance") (rIsEx2 X.K D1 D2 a cls d) := by
  intro pins s σ H xs us Q I r h
  exact h.elim (Ub.call_isEx C1 hz hf pins s σ H xs us Q I r) (Ub.call_isEx C2 hz hf pins s σ H xs us Q I r)
/-- what is never reached needs no rule -/
def tNo : TS := fun _ _ _ => False
def tNoE : TE := fun _ _ _ => False
theorem ps_no {X : Cx} {st : Stmt} : PS X st tNo := ⟨fun _ _ _ _ _ _ h => h.elim⟩
theorem pe_no {X : Cx} {e : Expr} : PE X e tNoE := ⟨fun _ _ _ _ _ _ h => h.elim⟩
end UbG

namespace UbK
open PySem PySem.Spec PyProof.Rows L2 Ub UbM 
def topS (i : Nat) : Stmt := PySem.Challenge.pw_unbent_k29_draws_by_tickets.main.body.getD i (.Pass ⟨0, 0, 0, 0⟩)
def topM (i j : Nat) : Stmt := match topS i with
  | .ClassDef _ _ _ body _ _ _ _ _ _ _ => body.getD j (.Pass ⟨0, 0, 0, 0⟩)
  | _ => .Pass ⟨0, 0, 0, 0⟩
abbrev s_make : Stmt := topS 7
abbrev N_make : List Str := ["p", "q", "common"]
theorem sc_make : FnScope N_make ["p", "q"] (defScope s_make) := ⟨rfl, rfl, rfl, by decide +kernel, rfl, by decide +kernel, by decide +kernel⟩
abbrev s_add : Stmt := topS 8
abbrev N_add : List Str := ["a", "b"]
theorem sc_add : FnScope N_add ["a", "b"] (defScope s_add) := ⟨rfl, rfl, rfl, by decide +kernel, rfl, by decide +kernel, by decide +kernel⟩
abbrev s_sign : Stmt := topS 9
abbrev N_sign : List Str := ["a"]
theorem sc_sign : FnScope N_sign ["a"] (defScope s_sign) := ⟨rfl, rfl, rfl, by decide +kernel, rfl, by decide +kernel, by decide +kernel⟩
abbrev s_compare : Stmt := topS 10
abbrev N_compare : List Str := ["a", "b"]
theorem sc_compare : FnScope N_compare ["a", "b"] (defScope s_compare) := ⟨rfl, rfl, rfl, by decide +kernel, rfl, by decide +kernel, by decide +kernel⟩
abbrev s_total : Stmt := topS 11
abbrev N_total : List Str := ["values", "found", "item"]
theorem sc_total : FnScope N_total ["values"] (defScope s_total) := ⟨rfl, rfl, rfl, by decide +kernel, rfl, by decide +kernel, by decide +kernel⟩
abbrev s_is_ticket : Stmt := topS 13
abbrev N_is_ticket : List Str := ["number"]
theorem sc_is_ticket : FnScope N_is_ticket ["number"] (defScope s_is_ticket) := ⟨rfl, rfl, rfl, by decide +kernel, rfl, by decide +kernel, by decide +kernel⟩
abbrev s_drawn : Stmt := topS 14
abbrev N_drawn : List Str := ["lot", "ticket", "outcome", "reached", "chance"]
theorem sc_drawn : FnScope N_drawn ["lot", "ticket"] (defScope s_drawn) := ⟨rfl, rfl, rfl, by decide +kernel, rfl, by decide +kernel, by decide +kernel⟩
abbrev s__law_take : Stmt := topS 17
abbrev N__law_take : List Str := ["draws", "bound"]
theorem sc__law_take : FnScope N__law_take ["draws", "bound"] (defScope s__law_take) := ⟨rfl, rfl, rfl, by decide +kernel, rfl, by decide +kernel, by decide +kernel⟩
abbrev s__law_make : Stmt := topS 18
abbrev N__law_make : List Str := ["p", "q", "a", "b", "k", "rest"]
theorem sc__law_make : FnScope N__law_make ["p", "q"] (defScope s__law_make) := ⟨rfl, rfl, rfl, by decide +kernel, rfl, by decide +kernel, by decide +kernel⟩
abbrev s__law_draws : Stmt := topS 16
abbrev N__law_draws : List Str := ["script", "draws", "cell", "number", "first", "k", "seed"]
theorem sc__law_draws : FnScope N__law_draws ["script"] (defScope s__law_draws) := ⟨rfl, rfl, rfl, by decide +kernel, rfl, by decide +kernel, by decide +kernel⟩
abbrev s__law_same : Stmt := topS 19
abbrev N__law_same : List Str := ["value", "due", "k"]
theorem sc__law_same : FnScope N__law_same ["value", "due"] (defScope s__law_same) := ⟨rfl, rfl, rfl, by decide +kernel, rfl, by decide +kernel, by decide +kernel⟩
abbrev s__law_refusal : Stmt := topS 20
abbrev N__law_refusal : List Str := ["lot", "ticket", "e"]
theorem sc__law_refusal : FnScope N__law_refusal ["lot", "ticket"] (defScope s__law_refusal) := ⟨rfl, rfl, rfl, by decide +kernel, rfl, by decide +kernel, by decide +kernel⟩
abbrev s_law : Stmt := topS 21
abbrev N_law : List Str := ["script", "draws", "k", "shares", "n", "lot", "passed", "counts", "due", "reached", "j", "ticket", "wrong", "bad", "row", "share"]
theorem sc_law : FnScope N_law ["script"] (defScope s_law) := ⟨rfl, rfl, rfl, by decide +kernel, rfl, by decide +kernel, by decide +kernel⟩
/-! ### words of my own for readings -/
local macro_rules | `(tactic| walk_at "un") => `(tactic| try dsimp only [L2.start, tVar, tC, tOp, tUn, tTest, tB, tAnd, tOr, tNot, tAndV, tOrV, tNotV, tIf, tNext, tSeq, tBreak, tCont, tDrop, tRet, tRetN, tIfS, tNever, gName, gNil, gCons, gSub, tAsg, tPar, tSl, tPart, tNoPart, tNil, tCons, tCall, tCallS, tCB, tBM, tBM0, tChain, tTupN, tLstN, gTup, Cx.nox, Cx.wish, cxOf, List.map, List.replicate, List.length, List.cons_append, List.nil_append, List.set, List.getElem?_cons_zero, List.getElem?_cons_succ, Nat.reduceAdd, Nat.reduceSub, N_make, N_add, N_sign, N_compare, N_total, N_is_ticket, N_drawn, N__law_take, N__law_make, N__law_draws, N__law_same, N__law_refusal, N_law])
local macro_rules | `(tactic| walk_at "dp") => `(tactic| first | assumption | exact .int _ | exact .bl _ | exact .str _ | exact .non | exact Ub.Dp.mono (by assumption) _ _ (by walk_at "dp"))
local macro_rules | `(tactic| walk_at "fr") => `(tactic| first | assumption | exact Ub.Fr.mono (by assumption) (by walk_at "fr"))
local macro_rules | `(tactic| walk_at "dps") => `(tactic| first | exact .nil | (refine' .cons ?j1 ?j2; (case j1 => walk_at "dp"); (case j2 => walk_at "dps")))
local macro_rules | `(tactic| walk_at "st") => `(tactic| first
  | (with_reducible refine ⟨_, rfl, ?_⟩)
  | (with_reducible refine rdAdd ?_)
  | (with_reducible refine rdSub ?_)
  | (with_reducible refine rdNeg ?_)
  | (with_reducible refine rdEqI ?_)
  | (with_reducible refine rdNeI ?_)
  | (with_reducible refine rdLt ?_)
  | (with_reducible refine rdGt ?_)
  | (with_reducible refine rdLe ?_)
  | (with_reducible refine rdGe ?_)
  | (with_reducible refine rdInt ?_)
  | (with_reducible refine rdIntB ?_)
  | (with_reducible refine rdAbs ?_)
  | (with_reducible refine rdGcd ?_)
  | (with_reducible refine rdEqB ?_)
  | (with_reducible refine rdEqS ?_)
  | (with_reducible refine rdNeS ?_)
  | ((with_reducible refine' ixFr0 ?k1 ?_); (case k1 => walk_at "fr"))
  | ((with_reducible refine' ixFr1 ?k1 ?_); (case k1 => walk_at "fr"))
  | ((with_reducible refine' ixP0 ?k1 ?_); (case k1 => walk_at "dp"))
  | ((with_reducible refine' ixP1 ?k1 ?_); (case k1 => walk_at "dp"))
  | ((with_reducible refine' rdIsN ?k1 ?_); (case k1 => walk_at "dp"))
  | ((with_reducible refine' rdNotN ?k1 ?_); (case k1 => walk_at "dp"))
  | ((with_reducible refine' isiInt ?k1 ?_); (case k1 => walk_at "dp"))
  | ((with_reducible refine' isiBool ?k1 ?_); (case k1 => walk_at "dp"))
  | ((with_reducible refine' isiStr ?k1 ?_); (case k1 => walk_at "dp"))
  | ((with_reducible refine' isiTup ?k1 ?_); (case k1 => walk_at "dp"))
  | ((with_reducible refine' isiLst ?k1 ?_); (case k1 => walk_at "dp"))
  | ((with_reducible refine' rdIxL ?k1 ?k2 ?_); (case k1 => first | assumption | exact .inl (.inl (by assumption)) | exact .inl (.inl upd_same)); (case k2 => exact rfl))
  | ((with_reducible refine' rdMul ?k1 ?_); (case k1 => first | exact .inl (.inr ⟨by decide, by decide⟩) | exact .inl (.inl ⟨by decide, by decide⟩) | exact mulW (by assumption) (by assumption) (by omega)))
  | ((with_reducible refine' rdLenL ?k1 ?_); (case k1 => first | assumption | exact .inl (.inl (by assumption))))
  | ((with_reducible refine' rdLenT ?k1 ?_); (case k1 => first | assumption | exact .inl (.inl (by assumption))))
  | (with_reducible refine rdMin2 ?_)
  | ((with_reducible refine' rdTupD (K := ‹PySem.W.Frag›) ?k1 ?k2 (fun _ _ _ _ => ?_)); (case k1 => walk_at "dps"); (case k2 => exact small_line (Nat.le_of_ble_eq_true rfl)))
  | (with_reducible refine ⟨_, by rfl, ?_⟩))
local macro_rules | `(tactic| walk_at "go") => `(tactic| repeat walk_at "st")
local macro_rules | `(tactic| walk_at "for") => `(tactic| try dsimp only [tFor, iRng1, iRng2, iList, iTup, tCons, tC, tNil, tVar, tOp, tCB, tUn, List.getElem?_cons_zero, List.getElem?_cons_succ])
local macro_rules | `(tactic| walk_at "ew") => `(tactic| (simp only [dInt, dBool, dStr, dTup, dLst, dNon, Bool.not_true, Bool.not_false, reduceIte, Bool.false_eq_true, Bool.true_eq_false, decide_true, decide_false, Bool.not_not, if_true, if_false, decide_eq_true_eq, true_and, and_true]))
local macro_rules | `(tactic| walk_at "ev") => `(tactic| try walk_at "ew")
local macro_rules | `(tactic| walk_at "gv") => `(tactic| repeat first | walk_at "st" | walk_at "ew")
local macro_rules | `(tactic| walk_at "it") => `(tactic| try dsimp only [iRng1, iRng2, iList, iTup, iZip, iEnum])
/-- what stands at the module's names -/
structure Tx (K : PySem.W.Frag) (mg : Str → Option Value) : Prop where
  n_ValueError : mg "ValueError" = none
  n_abs : mg "abs" = none
  n_any : mg "any" = none
  n_bool : mg "bool" = none
  n_int : mg "int" = none
  n_isinstance : mg "isinstance" = none
  n_len : mg "len" = none
  n_list : mg "list" = none
  n_range : mg "range" = none
  n_reversed : mg "reversed" = none
  n_str : mg "str" = none
  n_sum : mg "sum" = none
  n_tuple : mg "tuple" = none
  g_gcd : mg "gcd" = some (.builtin "math.gcd")
  e_ZeroDenominator : ExcK K mg "ZeroDenominator"
  e_InvalidLot : ExcK K mg "InvalidLot"
  e_InvalidTicket : ExcK K mg "InvalidTicket"
  e_UnbentError : ExcK K mg "UnbentError"
  m_InvalidLot_UnbentError : PySem.W.exmOne K (.ref (He.ga K "InvalidLot")) (.ref (He.ga K "UnbentError")) = some true
  m_InvalidTicket_UnbentError : PySem.W.exmOne K (.ref (He.ga K "InvalidTicket")) (.ref (He.ga K "UnbentError")) = some true
  i_InvalidLot : ExcC K (He.ga K "InvalidLot")
  i_InvalidTicket : ExcC K (He.ga K "InvalidTicket")
  k_InvalidLot_InvalidLot : PySem.W.kitOne K (.ref (He.ga K "InvalidLot")) (.ref (He.ga K "InvalidLot")) = some true
  k_InvalidLot_InvalidTicket : PySem.W.kitOne K (.ref (He.ga K "InvalidLot")) (.ref (He.ga K "InvalidTicket")) = some false
  k_InvalidTicket_InvalidLot : PySem.W.kitOne K (.ref (He.ga K "InvalidTicket")) (.ref (He.ga K "InvalidLot")) = some false
  k_InvalidTicket_InvalidTicket : PySem.W.kitOne K (.ref (He.ga K "InvalidTicket")) (.ref (He.ga K "InvalidTicket")) = some true
  k_InvalidTicket_ValueError : PySem.W.kitOne K (.ref (He.ga K "InvalidTicket")) (.type "ValueError") = some true
section
variable {P : Program} {w : World} {K : PySem.W.Frag} {mg : Str → Option Value} {base : Heap}
/-! ### make -/
/-- make(p, q): the fraction p / q; for q = 0 the error (E) -/
def sp_make (K : PySem.W.Frag) : Sp := fun vs H Q E => ∃ (p q : Int) (n : Nat), vs = [.int p, .int q] ∧ q.natAbs < 2 ^ n ∧ n < 9000 ∧ (q = 0 → E (.ref (He.ga K "ZeroDenominator")) none H) ∧ (q ≠ 0 → ∀ H' v, Same H H' → Fr K H' v (Rat.divInt p q) → Q v H')
theorem gcd_le_r {p q : Int} (h : q ≠ 0) : ((Nat.gcd p.natAbs q.natAbs : Nat) : Int).natAbs ≤ q.natAbs := Nat.le_of_dvd (by omega) (Nat.gcd_dvd_right ..)
theorem ok_make {f : Addr} {fd : FuncData} (T : Tx K mg) (F : FunD K "make" "make" (defArgs s_make) (defBody s_make) (defScope s_make) [V.int 1] [] f fd) : FnOk P w K mg base (L2.CX P w) 1 f fd ["p", "q"] (sp_make K) := by
  refine F.ok sc_make (fun vs H Q E h => ?_) (fun cdv A outer s H vs Q E hr h => ?_)
  · obtain ⟨_, _, _, rfl, _⟩ := h
    rfl
  · obtain ⟨p, q, n, rfl, hn, hn9, k0, k1⟩ := h
    refine ⟨_, (pss_cons (ps_if (pt_cmpR (op_eqA hr.units) (pv 1) pe_int (nomark _)) (pss_one (ps_raise0 rfl T.e_ZeroDenominator (takes_of rfl rfl rfl rfl) (by rfl))) pss_nil) (pss_cons (ps_set (i := 2) sc_make.nd rfl (Or.inl rfl) (pe_callBfun cr_gcd (by rfl) T.g_gcd (pa_cons (pv 0) (pa_cons (pv 1) pa_nil)))) (pss_cons (ps_if (pt_cmpR op_lt (pv 1) pe_int (nomark _)) (pss_one (ps_set (i := 2) sc_make.nd rfl (Or.inl rfl) (pe_un un_neg (pv 2)))) pss_nil) (pss_one (ps_ret (pe_tupN (pa_cons (pe_op op_fdivX (pv 0) (pv 2)) (pa_cons (pe_op op_fdivX (pv 1) (pv 2)) pa_nil)))))))), ?_⟩
    walk_at "un"
    walk_at "go"
    refine ifD (fun e => k0 e) (fun e => ?_)
    have hg := gcd_pos (p := p) e
    have hl := gcd_le_r (p := p) e
    have hb : ((Nat.gcd p.natAbs q.natAbs : Nat) : Int).natAbs < 2 ^ n := Nat.lt_of_le_of_lt hl hn
    walk_at "go"
    refine ifD (fun c => ?_) (fun c => ?_)
    · have hb2 : (-((Nat.gcd p.natAbs q.natAbs : Nat) : Int)).natAbs < 2 ^ n := by
        rw [Int.natAbs_neg]
        exact hb
      walk_at "go"
      refine rdDiv (divX (by omega) hb2 hn9) ?_
      walk_at "go"
      refine rdDiv (divX (by omega) hb2 hn9) ⟨line2, fun a na => ?_⟩
      exact k1 e _ _ (sameNew na) (frNew (num_neg c) (den_neg c))
    · have c2 : 0 < q := by omega
      walk_at "go"
      refine rdDivP (by omega) hb hn9 ?_
      walk_at "go"
      refine rdDivP (by omega) hb hn9 ⟨line2, fun a na => ?_⟩
      exact k1 e _ _ (sameNew na) (frNew (num_pos c2) (den_pos c2))
/-! ### add -/
def sp_add (K : PySem.W.Frag) : Sp := fun vs H Q _ => ∃ (v u : V) (r s : Rat) (m n : Nat), vs = [v, u] ∧ Fr K H v r ∧ Fr K H u s ∧ Bd m r ∧ Bd n s ∧ m + n < 8999 ∧ ∀ H' x, Same H H' → Fr K H' x (r + s) → Q x H'
theorem ok_add {f : Addr} {fd : FuncData} (T : Tx K mg) (F : FunD K "add" "add" (defArgs s_add) (defBody s_add) (defScope s_add) [] [] f fd) (C_make : Cal P w K mg base "make" 1 ["p", "q"] [] (sp_make K)) : FnOk P w K mg base (L2.CX P w) 2 f fd ["a", "b"] (sp_add K) := by
  refine F.ok sc_add (fun vs H Q E h => ?_) (fun cdv A outer st H vs Q E hr h => ?_)
  · obtain ⟨_, _, _, _, _, _, rfl, _⟩ := h
    rfl
  · obtain ⟨v, u, r, s, m, n, rfl, hv, hu, ⟨h1, h2'⟩, ⟨h3, h4'⟩, hmn, q⟩ := h
    have h2 : (r.den : Int).natAbs < 2 ^ m := h2'
    have h4 : (s.den : Int).natAbs < 2 ^ n := h4'
    refine ⟨_, PSs.nox (pss_one (ps_ret (pe_callC C_make hr (by decide) (by rfl) (pa_cons (pe_op op_add (pe_op op_mulG (pe_ix ix_seq (pv 0) pe_int (fun _ _ => rfl)) (pe_ix ix_seq (pv 1) pe_int (fun _ _ => rfl))) (pe_op op_mulG (pe_ix ix_seq (pv 1) pe_int (fun _ _ => rfl)) (pe_ix ix_seq (pv 0) pe_int (fun _ _ => rfl)))) (pa_cons (pe_op op_mulG (pe_ix ix_seq (pv 0) pe_int (fun _ _ => rfl)) (pe_ix ix_seq (pv 1) pe_int (fun _ _ => rfl))) pa_nil))))), ?_⟩
    walk_at "un"
    walk_at "go"
    refine ⟨_, _, m + n, rfl, mul_lt h2 h4, by omega, fun e => absurd e (Int.mul_ne_zero (den_ne r) (den_ne s)), fun _ H' x sm hx => ?_⟩
    rw [add_as] at hx
    exact q _ _ sm hx
/-! ### sign -/
def sp_sign (K : PySem.W.Frag) : Sp := fun vs H Q _ => ∃ (v : V) (p q : Int), vs = [v] ∧ Dp K H v (.tuple [.int p, .int q]) ∧ Q (.int (Int.sign p)) H
theorem rd_sign {K : PySem.W.Frag} {H : Hp} {Q : VK} {E : XK} {v : V} {p z : Int} (h : Dp K H v (.tuple [.int p, .int z])) (q : Q (.int (Int.sign p)) H) : sp_sign K [v] H Q E := ⟨v, p, z, rfl, h, q⟩
theorem ok_sign {f : Addr} {fd : FuncData} (T : Tx K mg) (F : FunD K "sign" "sign" (defArgs s_sign) (defBody s_sign) (defScope s_sign) [] [] f fd) : FnOk P w K mg base (L2.CX P w) 1 f fd ["a"] (sp_sign K) := by
  refine F.ok sc_sign (fun vs H Q E h => ?_) (fun cdv A outer st H vs Q E hr h => ?_)
  · obtain ⟨_, _, _, rfl, _⟩ := h
    rfl
  · obtain ⟨v, p, z, rfl, ha, q⟩ := h
    refine ⟨_, PSs.nox (pss_cons (ps_if (pt_cmpR op_gt (pe_ix ix_seq (pv 0) pe_int (fun _ _ => rfl)) pe_int (nomark _)) (pss_one (ps_ret pe_int)) pss_nil) (pss_one (ps_ret (pe_ifExp (pt_cmpR op_lt (pe_ix ix_seq (pv 0) pe_int (fun _ _ => rfl)) pe_int (nomark _)) (pe_un un_neg pe_int) pe_int)))), ?_⟩
    walk_at "un"
    walk_at "go"
    refine ifD (fun c => ?_) (fun c => ?_)
    · rw [Int.sign_eq_one_of_pos c] at q
      exact q
    · walk_at "go"
      refine ifD (fun c2 => ?_) (fun c2 => ?_)
      · rw [Int.sign_eq_neg_one_of_neg c2] at q
        walk_at "go"
        exact q
      · have : p = 0 := by omega
        subst this
        exact q
/-! ### compare -/
def sp_compare (K : PySem.W.Frag) : Sp := fun vs H Q _ => ∃ (v u : V) (r s : Rat) (m n : Nat), vs = [v, u] ∧ Fr K H v r ∧ Fr K H u s ∧ Bd m r ∧ Bd n s ∧ m + n < 8999 ∧ ∀ H', Same H H' → Q (.int (cmpR r s)) H'
theorem rd_compare {K : PySem.W.Frag} {H : Hp} {Q : VK} {E : XK} {v u : V} {r s : Rat} {m n : Nat} (hv : Fr K H v r) (hu : Fr K H u s) (bm : Bd m r) (bn : Bd n s) (hmn : m + n < 8999) (q : ∀ H', Same H H' → Q (.int (cmpR r s)) H') : sp_compare K [v, u] H Q E := ⟨v, u, r, s, m, n, rfl, hv, hu, bm, bn, hmn, q⟩
theorem ok_compare {f : Addr} {fd : FuncData} (T : Tx K mg) (F : FunD K "compare" "compare" (defArgs s_compare) (defBody s_compare) (defScope s_compare) [] [] f fd) (C_sign : Cal P w K mg base "sign" 1 ["a"] [] (sp_sign K)) : FnOk P w K mg base (L2.CX P w) 2 f fd ["a", "b"] (sp_compare K) := by
  refine F.ok sc_compare (fun vs H Q E h => ?_) (fun cdv A outer st H vs Q E hr h => ?_)
  · obtain ⟨_, _, _, _, _, _, rfl, _⟩ := h
    rfl
  · obtain ⟨v, u, r, s, m, n, rfl, hv, hu, ⟨h1, h2'⟩, ⟨h3, h4'⟩, hmn, q⟩ := h
    have h2 : (r.den : Int).natAbs < 2 ^ m := h2'
    have h4 : (s.den : Int).natAbs < 2 ^ n := h4'
    refine ⟨_, PSs.nox (pss_one (ps_ret (pe_callC C_sign hr (by decide) (by rfl) (pa_cons (pe_tupN (pa_cons (pe_op op_sub (pe_op op_mulG (pe_ix ix_seq (pv 0) pe_int (fun _ _ => rfl)) (pe_ix ix_seq (pv 1) pe_int (fun _ _ => rfl))) (pe_op op_mulG (pe_ix ix_seq (pv 1) pe_int (fun _ _ => rfl)) (pe_ix ix_seq (pv 0) pe_int (fun _ _ => rfl)))) (pa_cons (pe_op op_mulG (pe_ix ix_seq (pv 0) pe_int (fun _ _ => rfl)) (pe_ix ix_seq (pv 1) pe_int (fun _ _ => rfl))) pa_nil))) pa_nil)))), ?_⟩
    walk_at "un"
    walk_at "go"
    rename_i H1 t1 s1 g1
    exact rd_sign g1 (q _ s1)
/-! ### total -/
def sp_total (K : PySem.W.Frag) : Sp := fun vs H Q _ => ∃ (v : V) (rs : List Rat) (n : Nat), vs = [v] ∧ Frs K H v rs ∧ (∀ r ∈ rs, Bd n r) ∧ 1 + rs.length * (n + 1) + n < 8998 ∧ ∀ H' u, Same H H' → Fr K H' u (sumR rs) → Q u H'
theorem ok_total {f : Addr} {fd : FuncData} (T : Tx K mg) (F : FunD K "total" "total" (defArgs s_total) (defBody s_total) (defScope s_total) [] [] f fd) (C_add : Cal P w K mg base "add" 2 ["a", "b"] [] (sp_add K)) : FnOk P w K mg base (L2.CX P w) 3 f fd ["values"] (sp_total K) := by
  refine F.ok sc_total (fun vs H Q E h => ?_) (fun cdv A outer st H vs Q E hr h => ?_)
  · obtain ⟨_, _, _, rfl, _⟩ := h
    rfl
  · obtain ⟨v, rs, n, rfl, hv, hb, hn, q⟩ := h
    obtain ⟨a, xs, rfl, hS, hD⟩ := hv.get
    have hl := frs_len hD
    refine ⟨_, PSs.nox (pss_cons (ps_set (i := 1) sc_total.nd rfl (Or.inl rfl) (pe_tupN (pa_cons pe_int (pa_cons pe_int pa_nil)))) (pss_cons (ps_for PassesOwn.never rfl (pi_list (pv 0)) (pg_name (i := 2) sc_total.nd rfl (Or.inl rfl)) (pss_one (ps_set (i := 1) sc_total.nd rfl (Or.inl rfl) (pe_callC C_add hr (by decide) (by rfl) (pa_cons (pv 1) (pa_cons (pv 2) pa_nil)))))) (pss_one (ps_ret (pv 1))))), ?_⟩
    walk_at "un"
    walk_at "go"
    rename_i H1 f1 s1 g1
    walk_at "for"
    refine ⟨_, rfl, a, rfl, ⟨xs, s1.seq hS⟩, ?_⟩
    refine forList (xs := xs) (fun i σ' H' => ∃ f o, σ' = [some (.ref a), some f, o] ∧ Same H H' ∧ Fr K H' f (sumR (rs.take i))) ⟨f1, _, rfl, s1, g1⟩ (fun i σ' H' _ ⟨_, _, _, e, _⟩ => e.seq hS) ?_ ?_
    · rintro i x σ' H' hi ⟨f, o, rfl, s2, hf⟩
      obtain ⟨r, hr, hx⟩ := frs_at hD hi
      have hi' : i < rs.length := (List.getElem?_eq_some_iff.mp hr).1
      have hbr : Bd n r := hb r (List.mem_of_getElem? hr)
      have hbs := bd_sumR (take_bd hb i)
      rw [List.length_take, Nat.min_eq_left (by omega)] at hbs
      have hmul : i * (n + 1) ≤ rs.length * (n + 1) := Nat.mul_le_mul_right _ (by omega)
      walk_at "un"
      walk_at "go"
      refine ⟨f, x, _, r, _, n, rfl, hf, hx.mono s2, hbs, hbr, by omega, fun H3 u s3 hu => ?_⟩
      rw [← sumR_take hr] at hu
      exact ⟨u, _, rfl, s2.trans s3, hu⟩
    · rintro σ' H' ⟨f, o, rfl, s2, hf⟩
      rw [List.take_of_length_le (by omega)] at hf
      exact ⟨_, rfl, q _ _ s2 hf⟩
/-! ### is_ticket -/
/-- is_ticket: at least 0 and less than 1 -/
theorem sgn_lt {r : Rat} : Int.sign r.num < 0 ↔ r < 0 := by
  rw [← cmpR_zero]
  rcases cmpR_cases r 0 with ⟨h, e⟩ | ⟨h, e⟩ | ⟨h, e⟩ <;> rw [e]
  · exact ⟨fun _ => h, fun _ => by decide⟩
  · exact ⟨fun z => absurd z (by decide), fun z => absurd z (by rw [h]; exact Rat.lt_irrefl)⟩
  · exact ⟨fun z => absurd z (by decide), fun z => absurd z (Rat.not_lt.mpr (Rat.le_of_lt h))⟩
theorem cmp_ge {r s : Rat} : 0 ≤ cmpR r s ↔ s ≤ r := by
  rcases cmpR_cases r s with ⟨h, e⟩ | ⟨h, e⟩ | ⟨h, e⟩ <;> rw [e]
  · exact ⟨fun z => absurd z (by decide), fun z => absurd h (Rat.not_lt.mpr z)⟩
  · exact ⟨fun _ => by rw [h]; exact Rat.le_refl, fun _ => by decide⟩
  · exact ⟨fun _ => Rat.le_of_lt h, fun _ => by decide⟩
def sp_is_ticket (K : PySem.W.Frag) : Sp := fun vs H Q _ => ∃ (u : V) (t : Rat) (n : Nat), vs = [u] ∧ Fr K H u t ∧ Bd n t ∧ n + 3 < 8990 ∧ ∀ H', UbG.SameT H H' → Q (.bl (decide (0 ≤ t ∧ t < 1))) H'
theorem ok_is_ticket {f : Addr} {fd : FuncData} (T : Tx K mg) (F : FunD K "is_ticket" "is_ticket" (defArgs s_is_ticket) (defBody s_is_ticket) (defScope s_is_ticket) [] [] f fd) (C_compare : Cal P w K mg base "compare" 2 ["a", "b"] [] (sp_compare K)) (C_sign : Cal P w K mg base "sign" 1 ["a"] [] (sp_sign K)) : FnOk P w K mg base (L2.CX P w) 3 f fd ["number"] (sp_is_ticket K) := by
  refine F.ok sc_is_ticket (fun vs H Q E h => ?_) (fun cdv A outer s H vs Q E hr h => ?_)
  · obtain ⟨_, _, _, rfl, _⟩ := h
    rfl
  · obtain ⟨u, t, n, rfl, hu, hbt, hn, q⟩ := h
    refine ⟨_, PSs.nox (pss_one (ps_ret (pe_and (pe_cmpR op_ge (pe_callC C_sign hr (by decide) (by rfl) (pa_cons (pv 0) pa_nil)) pe_int (nomark _)) (pe_one (pe_cmpR op_lt (pe_callC C_compare hr (by decide) (by rfl) (pa_cons (pv 0) (pa_cons (pe_tupN (pa_cons pe_int (pa_cons pe_int pa_nil))) pa_nil))) pe_int (nomark _)))))), ?_⟩
    walk_at "un"
    walk_at "go"
    refine rd_sign hu ?_
    walk_at "go"
    refine ifD (fun h1 => ?_) (fun h1 => ?_)
    · have h0 : 0 ≤ t := Rat.not_lt.mp fun z => absurd (sgn_lt.mpr z) (by omega)
      walk_at "gv"
      rename_i H5 o5 s5 h5
      have h5' : Fr K H5 o5 1 := h5
      have s05 : UbG.SameT H H5 := UbG.sameT s5
      refine rd_compare (UbG.Fr.monoT s05 hu) h5' hbt (n := 1) ⟨by decide, by decide⟩ (by omega) fun H6 s6 => ?_
      walk_at "go"
      have e : decide (cmpR t 1 < 0) = decide (0 ≤ t ∧ t < 1) := by
        refine decide_eq_decide.mpr ⟨fun z => ⟨h0, Rat.not_le.mp fun y => absurd (cmp_ge.mpr y) (by omega)⟩, fun z => Int.not_le.mp fun y => absurd (cmp_ge.mp y) (Rat.not_le.mpr z.2)⟩
      rw [e]
      exact q _ (s05.trans (UbG.sameT s6))
    · have h0 : t < 0 := sgn_lt.mp (by omega)
      have e : false = decide (0 ≤ t ∧ t < 1) := (decide_eq_false fun z => absurd h0 (Rat.not_lt.mpr z.1)).symm
      rw [e]
      exact q _ (UbG.SameT.refl _)
/-! ### drawn -/
/-- drawn: the first outcome whose chances up to it are above the ticket -/
def badLot (ls : List Rat) : Prop := (∃ r ∈ ls, r < 0) ∨ sumR ls ≠ 1
abbrev pDrawn (K : PySem.W.Frag) : Addr := (He.cT K (("drawn", none) : He.Defn)).2
def sp_drawn (K : PySem.W.Frag) : Sp := fun vs H Q E => ∃ (v u : V) (ls : List Rat) (t : Rat) (n : Nat), vs = [v, u] ∧ Frs K H v ls ∧ Fr K H u t ∧ (∀ r ∈ ls, Bd n r) ∧ Bd n t ∧ 1 + ls.length * (n + 1) + n + 4 < 8990 ∧ GxR.TabG H (pDrawn K) ∧
  (badLot ls → ∀ H', UbG.SameT H H' → E (.ref (He.ga K "InvalidLot")) none H') ∧ (¬badLot ls → (t < 0 ∨ 1 ≤ t) → ∀ H', UbG.SameT H H' → E (.ref (He.ga K "InvalidTicket")) none H') ∧
  (¬badLot ls → 0 ≤ t → t < 1 → ∀ H' (o : Nat), UbG.SameT H H' → o < ls.length → t < sumR (ls.take (o + 1)) → (∀ j, 0 < j → j ≤ o → sumR (ls.take j) ≤ t) → Q (.int o) H')
theorem cmp_le {r s : Rat} : cmpR r s ≤ 0 ↔ r ≤ s := by
  rcases cmpR_cases r s with ⟨h, e⟩ | ⟨h, e⟩ | ⟨h, e⟩ <;> rw [e]
  · exact ⟨fun _ => Rat.le_of_lt h, fun _ => by decide⟩
  · exact ⟨fun _ => by rw [h]; exact Rat.le_refl, fun _ => by decide⟩
  · exact ⟨fun z => absurd z (by decide), fun z => absurd h (Rat.not_lt.mpr z)⟩
theorem ok_drawn {f : Addr} {fd : FuncData} (T : Tx K mg) (F : FunD K "drawn" "drawn" (defArgs s_drawn) (defBody s_drawn) (defScope s_drawn) [] [] f fd) (hf : f = He.fAd K (("drawn", none) : He.Defn)) (TB : GxR.TabB base mg (He.cT K (("drawn", none) : He.Defn)).1 (He.cT K (("drawn", none) : He.Defn)).2) (C_add : Cal P w K mg base "add" 2 ["a", "b"] [] (sp_add K)) (C_compare : Cal P w K mg base "compare" 2 ["a", "b"] [] (sp_compare K)) (C_is_ticket : Cal P w K mg base "is_ticket" 3 ["number"] [] (sp_is_ticket K)) (C_sign : Cal P w K mg base "sign" 1 ["a"] [] (sp_sign K)) (C_total : Cal P w K mg base "total" 3 ["values"] [] (sp_total K)) : FnOk P w K mg base (L2.CX P w) 4 f fd ["lot", "ticket"] (sp_drawn K) := by
  refine UbG.FunD.okT F hf sc_drawn (fun vs H Q E h => ?_) (fun A outer st H vs Q E hr h => ?_)
  · obtain ⟨_, _, _, _, _, rfl, _⟩ := h
    rfl
  · obtain ⟨v, u, ls, t, n, rfl, hv, hu, hb, hbt, hn, hT, kL, kT, q⟩ := h
    obtain ⟨a, xs, rfl, hS, hD⟩ := hv.get
    have hl := frs_len hD
    refine ⟨_, (pss_cons (ps_if ((pw_or (pt_val (UbG.pe_anyG (c := (He.cT K (("drawn", none) : He.Defn)).1) (P := (He.cT K (("drawn", none) : He.Defn)).2) (k := 2) (own := [("chance", 4)]) (g := gName 4) hr sc_drawn.nd (by rfl) T.n_any UbG.bb_any TB rfl (UbG.gexOk_by (N := N_drawn) (sc := defScope s_drawn) (by decide +kernel)) (pi_list (pv 0)) (fun _ _ _ _ _ _ _ hrG => ⟨(pg_name (i := 4) sc_drawn.nd rfl (by first | exact Or.inl rfl | exact Or.inr rfl)), (pe_cmpR op_lt (pe_callC C_sign hrG (by decide) (by rfl) (pa_cons (pv 4) pa_nil)) pe_int (nomark _))⟩) (fun _ => rfl))) (pw_or1 (pt_cmpR (op_neA hr.units) (pe_callC C_total hr (by decide) (by rfl) (pa_cons (pv 0) pa_nil)) (pe_tupN (pa_cons pe_int (pa_cons pe_int pa_nil))) (nomark _))))).pt (pss_one (ps_raise0 rfl T.e_InvalidLot (takes_of rfl rfl rfl rfl) (by rfl))) pss_nil) (pss_cons (ps_if (pt_not (pt_val (pe_callC C_is_ticket hr (by decide) (by rfl) (pa_cons (pv 1) pa_nil)))) (pss_one (ps_raise0 rfl T.e_InvalidTicket (takes_of rfl rfl rfl rfl) (by rfl))) pss_nil) (pss_cons (ps_set (i := 2) sc_drawn.nd rfl (Or.inl rfl) pe_int) (pss_cons (ps_set (i := 3) sc_drawn.nd rfl (Or.inl rfl) (pe_ix ix_seq (pv 0) pe_int (fun _ _ => rfl))) (pss_cons (ps_while PassesOwn.leaving (pt_cmpR op_le (pe_callC C_compare hr (by decide) (by rfl) (pa_cons (pv 3) (pa_cons (pv 1) pa_nil))) pe_int (nomark _)) (pss_cons (ps_aug (i := 2) sc_drawn.nd rfl (Or.inl rfl) pe_int ip_add) (pss_one (ps_set (i := 3) sc_drawn.nd rfl (Or.inl rfl) (pe_callC C_add hr (by decide) (by rfl) (pa_cons (pv 3) (pa_cons (pe_ix ix_seq (pv 0) (pv 2) (fun _ _ => rfl)) pa_nil))))))) (pss_one (ps_ret (pv 2)))))))), ?_⟩
    walk_at "un"
    dsimp only [UbG.tAnyG, iList, tVar]
    walk_at "un"
    refine ⟨_, rfl, a, rfl, ⟨xs, hS⟩, hT, fun H1 tb => ?_⟩
    have s1 := UbG.tabbedT hT tb
    refine UbG.turnsL (xs := xs) (fun i H' => UbG.SameT H H' ∧ ∀ j r, j < i → ls[j]? = some r → ¬ r < 0) ⟨s1, fun _ _ h => absurd h (Nat.not_lt_zero _)⟩ (fun i H' _ p => p.1.seq hS) ?_ ?_
    · rintro i x H' hi ⟨s2, hN⟩
      obtain ⟨r, hr, hx⟩ := frs_at hD hi
      walk_at "un"
      refine ⟨rfl, ?_⟩
      walk_at "un"
      walk_at "go"
      refine rd_sign (UbG.Dp.monoT s2 _ _ hx) ?_
      walk_at "go"
      refine ⟨fun hb => ?_, fun hb => ⟨s2, fun j r' hj hr' => ?_⟩⟩
      · have hneg : r < 0 := by
          rw [decide_eq_true_eq] at hb
          exact sgn_lt.mp hb
        walk_at "gv"
        exact kL (.inl ⟨r, List.mem_of_getElem? hr, hneg⟩) _ s2
      · by_cases hji : j = i
        · subst hji
          rw [hr] at hr'
          cases hr'
          intro z
          refine hb ?_
          rw [decide_eq_true_eq]
          exact sgn_lt.mpr z
        · exact hN j r' (by omega) hr'
    · rintro H' ⟨s2, hN⟩
      have hv2 : Frs K H' (.ref a) ls := UbG.Dp.monoT s2 _ _ hv
      have hu2 : Fr K H' u t := UbG.Dp.monoT s2 _ _ hu
      have pos : ∀ r ∈ ls, ¬ r < 0 := fun r hr => by
        obtain ⟨j, hj, e⟩ := List.getElem_of_mem hr
        exact hN j r (by omega) (by rw [List.getElem?_eq_getElem hj, e])
      walk_at "gv"
      refine ⟨.ref a, ls, n, rfl, hv2, hb, by omega, fun H3 x3 s3 h3 => ?_⟩
      walk_at "go"
      rename_i H4 o4 s4 h4
      have h4' : Fr K H4 o4 1 := h4
      refine rdNeFr (h3.mono s4) h4' ?_
      have s04 : UbG.SameT H H4 := (s2.trans (UbG.sameT s3)).trans (UbG.sameT s4)
      walk_at "go"
      by_cases hsum : sumR ls = 1
      · have good : ¬badLot ls := fun z => z.elim (fun ⟨r, h1, h2⟩ => pos r h1 h2) fun z => z hsum
        refine ifNe hsum ?_
        walk_at "go"
        refine ⟨u, t, n, rfl, UbG.Dp.monoT s04 _ _ hu, hbt, by omega, fun H6 s6 => ?_⟩
        have s06 : UbG.SameT H H6 := s04.trans s6
        walk_at "go"
        by_cases hin : 0 ≤ t ∧ t < 1
        · refine ifNe hin ?_
          obtain ⟨hge, ht1⟩ := hin
          have hv6 : Frs K H6 (.ref a) ls := UbG.Dp.monoT s06 _ _ hv
          have pos0 : 0 < ls.length := by
            rcases Nat.eq_zero_or_pos ls.length with z | z
            · have e : ls = [] := List.eq_nil_of_length_eq_zero z
              rw [e] at hsum
              exact absurd hsum (by decide)
            · exact z
          have at0 : ∀ (o : Nat), o < ls.length → ∃ x r, xs[o]? = some x ∧ ls[o]? = some r ∧ Fr K H x r := fun o ho => by
            have hx : xs[o]? = some xs[o] := List.getElem?_eq_getElem (by omega)
            obtain ⟨r, e, hr⟩ := frs_at hD hx
            exact ⟨_, r, hx, e, hr⟩
          obtain ⟨x0, r0, e0, e0', hx0⟩ := at0 0 pos0
          refine ⟨_, rfl, rdIxL (s06.seq hS) (atI_nat e0) ?_⟩
          have sum1 : sumR (ls.take 1) = r0 := by
            rw [sumR_take (i := 0) e0']
            show sumR [] + r0 = r0
            exact Rat.zero_add r0
          refine ⟨fun m σ' H' => ∃ (o : Nat) (x : V), σ' = [some (.ref a), some u, some (.int (o : Int)), some x, none] ∧ m = ls.length - o ∧ o < ls.length ∧ UbG.SameT H H' ∧ Fr K H' x (sumR (ls.take (o + 1))) ∧ ∀ j, 0 < j → j ≤ o → sumR (ls.take j) ≤ t,
            ⟨ls.length, 0, x0, rfl, rfl, pos0, s06, by rw [sum1]; exact UbG.Fr.monoT s06 hx0, fun j h1 h2 => absurd h1 (by omega)⟩, ?_⟩
          rintro m σ' H' ⟨o, x, rfl, rfl, ho, s7, hx, hle⟩
          have hbs := bd_sumR (take_bd hb (o + 1))
          rw [List.length_take, Nat.min_eq_left (by omega)] at hbs
          have hmul : (o + 1) * (n + 1) ≤ ls.length * (n + 1) := Nat.mul_le_mul_right _ (by omega)
          dsimp only [tTest]
          walk_at "un"
          walk_at "go"
          refine rd_compare hx (UbG.Fr.monoT s7 hu) hbs hbt (by omega) fun H8 s8 => ?_
          have s08 : UbG.SameT H H8 := s7.trans (UbG.sameT s8)
          walk_at "go"
          refine ifD (fun c => ?_) (fun c => ?_)
          · have hc : sumR (ls.take (o + 1)) ≤ t := cmp_le.mp c
            have ho1 : o + 1 < ls.length := by
              rcases Nat.lt_or_ge (o + 1) ls.length with z | z
              · exact z
              · rw [List.take_of_length_le z, hsum] at hc
                exact absurd ht1 (Rat.not_lt.mpr hc)
            obtain ⟨x1, r1, e1, e1', hx1⟩ := at0 (o + 1) ho1
            refine ⟨fun σ2 H2 => ∃ (x : V), σ2 = [some (.ref a), some u, some (.int ((o + 1 : Nat) : Int)), some x, none] ∧ UbG.SameT H H2 ∧ Fr K H2 x (sumR (ls.take (o + 1 + 1))), ?_, ?_⟩
            · rintro σ2 H2 ⟨x2, rfl, s9, hx2⟩
              refine ⟨ls.length - (o + 1), by omega, o + 1, x2, rfl, rfl, ho1, s9, hx2, fun j h1 h2 => ?_⟩
              by_cases hj : j = o + 1
              · rw [hj]
                exact hc
              · exact hle j h1 (by omega)
            · dsimp only [tAug, ipI]
              walk_at "un"
              walk_at "go"
              refine ⟨_, _, rfl, rfl, ?_⟩
              walk_at "un"
              walk_at "go"
              refine rdIxL (i := (o : Int) + 1) (s08.seq hS) (atI_nat (j := o + 1) e1) ?_
              refine ⟨x, x1, _, r1, _, n, rfl, UbG.Fr.monoT (UbG.sameT s8) hx, UbG.Fr.monoT s08 hx1, hbs, hb r1 (List.mem_of_getElem? e1'), by omega, fun H9 x2 s9 hx2 => ?_⟩
              refine ⟨x2, rfl, s08.trans (UbG.sameT s9), ?_⟩
              rw [sumR_take e1']
              exact hx2
          · walk_at "go"
            exact q good hge ht1 _ o s08 ho (Rat.not_le.mp fun z => c (cmp_le.mpr z)) hle
        · refine ifBT (by rw [decide_eq_false hin]; rfl) ?_
          refine kT good ?_ _ s06
          by_cases z : t < 0
          · exact .inl z
          · exact .inr (Rat.not_lt.mp fun y => hin ⟨Rat.not_lt.mp z, y⟩)
      · refine ifBT (by rw [decide_eq_false hsum]; rfl) ?_
        exact kL (.inr hsum) _ s04
/-! ### _law_take -/
/-- a list of whole numbers stands at d -/
def IntsL (H : Hp) (d : Addr) : Prop := ∃ ns : List Int, H d = some (.lst (ns.map V.int))
/-- all stands but the numbers at d; tables may grow -/
structure SameY (d : Addr) (H H' : Hp) : Prop where
  but : ∀ b o, b ≠ d → H b = some o → (∀ ps, o ≠ .tbl ps) → H' b = some o
  tab : ∀ P, GxR.TabG H P → GxR.TabG H' P
  il : IntsL H d → IntsL H' d
theorem SameY.refl {d : Addr} (H : Hp) : SameY d H H := ⟨fun _ _ _ h _ => h, fun _ h => h, fun h => h⟩
theorem SameY.trans {d : Addr} {H H1 H2 : Hp} (a : SameY d H H1) (b : SameY d H1 H2) : SameY d H H2 := ⟨fun c o m h n => b.but c o m (a.but c o m h n) n, fun P h => b.tab P (a.tab P h), fun h => b.il (a.il h)⟩
theorem sameTY {d : Addr} {H H' : Hp} (e : UbG.SameT H H') : SameY d H H' := ⟨fun b o _ h n => e.but b o h n, e.tab, fun ⟨ns, h⟩ => ⟨ns, e.but _ _ h fun _ z => by cases z⟩⟩
theorem sameY_upd {d : Addr} {H : Hp} (h : IntsL H d) (ns : List Int) : SameY d H (upd H d (.lst (ns.map V.int))) := by
  obtain ⟨ms, h⟩ := h
  refine ⟨fun b o n e _ => by rw [upd_ne n]; exact e, fun P ⟨ps, e, t⟩ => ⟨ps, ?_, t⟩, fun _ => ⟨ns, upd_same⟩⟩
  rw [upd_ne fun z => by rw [z, h] at e; cases e]
  exact e
/-- the next number: any below the bound -/
def sp__law_take : Sp := fun vs H Q _ => ∃ (d : Addr) (m : Int), vs = [.ref d, .int m] ∧ IntsL H d ∧ 0 < m ∧ ∀ H' x, SameY d H H' → 0 ≤ x → x < m → Q (.int x) H'
theorem ok__law_take {f : Addr} {fd : FuncData} (T : Tx K mg) (F : FunD K "_law_take" "_law_take" (defArgs s__law_take) (defBody s__law_take) (defScope s__law_take) [] [] f fd) : FnOk P w K mg base (L2.CX P w) 1 f fd ["draws", "bound"] sp__law_take := by
  refine F.ok sc__law_take (fun vs H Q E h => ?_) (fun cdv A outer st H vs Q E hr h => ?_)
  · obtain ⟨_, _, rfl, _⟩ := h
    rfl
  · obtain ⟨d, m, rfl, hI, hm, q⟩ := h
    obtain ⟨ns, hd⟩ := id hI
    refine ⟨_, PSs.nox (pss_cons (ps_if (pt_cmpR (op_eqA hr.units) (pe_callB cl_len (by rfl) T.n_len bb_len (pa_cons (pv 0) pa_nil)) pe_int (nomark _)) (pss_one (ps_ret pe_int)) pss_nil) (pss_one (ps_ret (pe_op op_mod (pe_callTy cl_int (by rfl) T.n_int bb_int (pa_cons (pe_bm0 PySem.F.plainAttrs_list PySem.F.slot_list_pop PySem.F.type_list_pop mt_pop (pv 0)) pa_nil)) (pv 1))))), ?_⟩
    walk_at "un"
    walk_at "go"
    refine ifD (fun c => ?_) (fun c => ?_)
    · walk_at "go"
      exact q _ _ (SameY.refl _) (by decide) hm
    · rw [List.length_map] at c
      have hne : ns ≠ [] := fun z => c (by rw [z]; rfl)
      have hl : 0 < ns.length := List.length_pos_iff.mpr hne
      walk_at "go"
      refine ⟨.inl ⟨rfl, _, .inl (.inl hd)⟩, d, ns.map V.int, .int ns[ns.length - 1], rfl, rfl, hd, by rw [List.length_map, List.getElem?_map, List.getElem?_eq_getElem (by omega)]; rfl, ?_⟩
      walk_at "go"
      refine rdMod hm ?_
      rw [← List.map_dropLast]
      exact q _ _ (sameY_upd hI _) (Int.emod_nonneg _ (by omega)) (Int.emod_lt_of_pos _ hm)
/-! ### _law_make -/
/-- the law's own fraction p / q, q above 0 -/
def sp__law_make (K : PySem.W.Frag) : Sp := fun vs H Q E => ∃ (p q : Int) (n : Nat), vs = [.int p, .int q] ∧ q.natAbs < 2 ^ n ∧ n < 2400 ∧ 0 < q ∧ ∀ H' v, Same H H' → Fr K H' v (Rat.divInt p q) → Q v H'
theorem ok__law_make {f : Addr} {fd : FuncData} (T : Tx K mg) (F : FunD K "_law_make" "_law_make" (defArgs s__law_make) (defBody s__law_make) (defScope s__law_make) [] [] f fd) : FnOk P w K mg base (L2.CX P w) 1 f fd ["p", "q"] (sp__law_make K) := by
  refine F.ok sc__law_make (fun vs H Q E h => ?_) (fun cdv A outer s H vs Q E hr h => ?_)
  · obtain ⟨_, _, _, rfl, _⟩ := h
    rfl
  · obtain ⟨p, q, n, rfl, hn, hn9, c2, k1⟩ := h
    have e : q ≠ 0 := by omega
    have hg := gcd_pos (p := p) e
    have hl : ((Nat.gcd p.natAbs q.natAbs : Nat) : Int).natAbs ≤ q.natAbs := Nat.le_of_dvd (by omega) (Nat.gcd_dvd_right ..)
    have hb : ((Nat.gcd p.natAbs q.natAbs : Nat) : Int).natAbs < 2 ^ n := Nat.lt_of_le_of_lt hl hn
    refine ⟨_, PSs.nox (pss_cons (ps_set (i := 2) sc__law_make.nd rfl (Or.inl rfl) (pe_callB cl_abs (by rfl) T.n_abs bb_abs (pa_cons (pv 0) pa_nil))) (pss_cons (ps_set (i := 3) sc__law_make.nd rfl (Or.inl rfl) (pv 1)) (pss_cons (ps_for PassesOwn.never rfl (pi_range1 (by rfl) T.n_range (pa_cons pe_int pa_nil)) (pg_name (i := 4) sc__law_make.nd rfl (Or.inl rfl)) (pss_cons (ps_if (pt_cmpR (op_eqA hr.units) (pv 3) pe_int (nomark _)) (pss_one ps_break) pss_nil) (pss_cons (ps_set (i := 5) sc__law_make.nd rfl (Or.inl rfl) (pe_op op_mod (pe_callTy cl_int (by rfl) T.n_int bb_int (pa_cons (pv 2) pa_nil)) (pv 3))) (pss_cons (ps_set (i := 2) sc__law_make.nd rfl (Or.inl rfl) (pv 3)) (pss_one (ps_set (i := 3) sc__law_make.nd rfl (Or.inl rfl) (pv 5))))))) (pss_one (ps_ret (pe_tupN (pa_cons (pe_op op_fdivX (pv 0) (pv 2)) (pa_cons (pe_op op_fdivX (pv 1) (pv 2)) pa_nil)))))))), ?_⟩
    walk_at "un"
    walk_at "go"
    walk_at "for"
    refine ⟨_, rfl, by decide, by decide, ?_⟩
    refine forRange (n := 5000) (fun i σ' H' => ∃ (x y : Nat) (o1 o2 : Option V), σ' = [some (.int p), some (.int q), some (.int (x : Int)), some (.int (y : Int)), o1, o2] ∧ Nat.gcd x y = Nat.gcd p.natAbs q.natAbs ∧ Enough (5000 - i) x y ∧ H' = H) ⟨p.natAbs, q.natAbs, none, none, ?_, rfl, enough_of hn (by omega), rfl⟩ ?_ ?_
    · rw [show ((q.natAbs : Nat) : Int) = q from Int.natAbs_of_nonneg (by omega)]
    · rintro i σ' H' hi ⟨x, y, o1, o2, rfl, hgx, hen, rfl⟩
      walk_at "un"
      walk_at "go"
      refine ifD (fun c => ?_) (fun c => ?_)
      · have : y = 0 := by omega
        subst this
        rw [Nat.gcd_zero_right] at hgx
        subst hgx
        walk_at "go"
        refine rdDivP (by omega) hb (by omega) ?_
        walk_at "go"
        refine rdDivP (by omega) hb (by omega) ⟨line2, fun a na => ?_⟩
        exact k1 _ _ (sameNew na) (frNew (num_pos c2) (den_pos c2))
      · walk_at "go"
        refine rdMod (by omega) ?_
        walk_at "go"
        refine ⟨y, x % y, _, _, by rw [Int.natCast_emod], ?_, ?_, rfl⟩
        · rw [← hgx, Nat.gcd_comm x y, Nat.gcd_rec y x, Nat.gcd_comm]
        · have h1 := hen.step (by omega)
          rw [show 5000 - i - 1 = 5000 - (i + 1) by omega] at h1
          exact h1
    · rintro σ' H' ⟨x, y, o1, o2, rfl, hgx, hen, rfl⟩
      have := hen.pos
      omega
/-! ### _law_draws -/
/-- the draws: some whole numbers, in a new list -/
def sp__law_draws (K : PySem.W.Frag) : Sp := fun vs H Q _ => ∃ (a : Addr) (ns : List Int), vs = [.ref a] ∧ SqL K H a (ns.map V.int) ∧ ns.length ≤ 63 ∧ ∀ H' d, Same H H' → H d = none → IntsL H' d → Q (.ref d) H'
theorem small1000' {n : Nat} (h : n ≤ 5000) : n < sizeLine := Nat.lt_of_le_of_lt h (by decide)
theorem sameLate {H H' : Hp} {d : Addr} {o : HO} (e : Same H H') (nd : H d = none) : Same H (upd H' d o) := fun b x h => by
  rw [upd_ne (ne_of_none h nd)]
  exact e b x h
theorem rdAppI {H : Hp} {Q : VK} {d : Addr} {ms : List Int} {x : Int} (h : H d = some (.lst (ms.map V.int))) (hz : ms.length < sizeLine) (q : Q .non (upd H d (.lst ((ms ++ [x]).map V.int)))) : rAppend (.ref d) [.int x] H Q :=
  ⟨d, _, _, rfl, rfl, h, by rw [List.length_map]; exact hz, by rw [List.map_append] at q; exact q⟩
theorem updupd {H : Hp} {d : Addr} {o o' : HO} : upd (upd H d o) d o' = upd H d o' := by
  funext b
  by_cases h : b = d
  · rw [h, upd_same, upd_same]
  · rw [upd_ne h, upd_ne h, upd_ne h]
theorem ok__law_draws {f : Addr} {fd : FuncData} (T : Tx K mg) (F : FunD K "_law_draws" "_law_draws" (defArgs s__law_draws) (defBody s__law_draws) (defScope s__law_draws) [] [] f fd) : FnOk P w K mg base (L2.CX P w) 1 f fd ["script"] (sp__law_draws K) := by
  refine F.ok sc__law_draws (fun vs H Q E h => ?_) (fun cdv A outer st H vs Q E hr h => ?_)
  · obtain ⟨_, _, rfl, _⟩ := h
    rfl
  · obtain ⟨a, ns, rfl, hS, hl, q⟩ := h
    refine ⟨_, PSs.nox (pss_cons (ps_set (i := 1) sc__law_draws.nd rfl (Or.inl rfl) (pe_lstN pa_nil)) (pss_cons (ps_for PassesOwn.never rfl (pi_list (pv 0)) (pg_name (i := 2) sc__law_draws.nd rfl (Or.inl rfl)) (pss_cons (ps_set (i := 3) sc__law_draws.nd rfl (Or.inl rfl) (pe_callB cl_abs (by rfl) T.n_abs bb_abs (pa_cons (pv 2) pa_nil))) (pss_consJ (ps_if (pt_cmpR op_lt (pv 3) (pe_op op_pow pe_int pe_int) (nomark _)) (pss_cons (ps_set (i := 4) sc__law_draws.nd rfl (Or.inl rfl) (pe_op op_mod (pe_callTy cl_int (by rfl) T.n_int bb_int (pa_cons (pe_op op_add (pe_op op_mulG (pv 3) pe_int) pe_int) pa_nil)) pe_int)) (pss_cons (ps_expr (pe_bm PySem.F.plainAttrs_list PySem.F.slot_list_append PySem.F.type_list_append mt_append (pv 1) (pa_cons (pe_op op_mod (pe_callTy cl_int (by rfl) T.n_int bb_int (pa_cons (pe_op op_add (pe_op op_mulG (pv 4) pe_int) (pv 3)) pa_nil)) pe_int) pa_nil))) (pss_cons (ps_expr (pe_bm PySem.F.plainAttrs_list PySem.F.slot_list_append PySem.F.type_list_append mt_append (pv 1) (pa_cons (pe_op op_mod (pe_callTy cl_int (by rfl) T.n_int bb_int (pa_cons (pe_op op_add (pv 4) (pe_op op_fdivX (pv 3) pe_int)) pa_nil)) pe_int) pa_nil))) (pss_one (ps_set (i := 3) sc__law_draws.nd rfl (Or.inl rfl) pe_int))))) pss_nil) (pss_one (ps_for PassesOwn.never rfl (pi_range1 (by rfl) T.n_range (pa_cons pe_int pa_nil)) (pg_name (i := 5) sc__law_draws.nd rfl (Or.inl rfl)) (pss_one (ps_if (pt_cmpR op_gt (pv 3) pe_int (nomark _)) (pss_cons (ps_expr (pe_bm PySem.F.plainAttrs_list PySem.F.slot_list_append PySem.F.type_list_append mt_append (pv 1) (pa_cons (pe_op op_mod (pe_callTy cl_int (by rfl) T.n_int bb_int (pa_cons (pv 3) pa_nil)) pe_int) pa_nil))) (pss_one (ps_set (i := 3) sc__law_draws.nd rfl (Or.inl rfl) (pe_op op_fdivX (pv 3) pe_int)))) pss_nil))))))) (pss_cons (ps_set (i := 6) sc__law_draws.nd rfl (Or.inl rfl) pe_int) (pss_consJ (ps_if (pt_cmpR op_gt (pe_callB cl_len (by rfl) T.n_len bb_len (pa_cons (pv 0) pa_nil)) pe_int (nomark _)) (pss_one (ps_set (i := 6) sc__law_draws.nd rfl (Or.inl rfl) (pe_op op_add pe_int (pe_callB cl_abs (by rfl) T.n_abs bb_abs (pa_cons (pe_ix ix_seq (pv 0) pe_int (fun _ _ => rfl)) pa_nil))))) pss_nil) (pss_cons (ps_for PassesOwn.never rfl (pi_range1 (by rfl) T.n_range (pa_cons pe_int pa_nil)) (pg_name (i := 5) sc__law_draws.nd rfl (Or.inl rfl)) (pss_cons (ps_set (i := 6) sc__law_draws.nd rfl (Or.inl rfl) (pe_op op_mod (pe_callTy cl_int (by rfl) T.n_int bb_int (pa_cons (pe_op op_add (pe_op op_mulG (pv 6) pe_int) pe_int) pa_nil)) pe_int)) (pss_one (ps_expr (pe_bm PySem.F.plainAttrs_list PySem.F.slot_list_append PySem.F.type_list_append mt_append (pv 1) (pa_cons (pe_op op_fdivX (pv 6) pe_int) pa_nil)))))) (pss_one (ps_ret (UbG.pe_listRev rfl (by rfl) T.n_list bb_list (by rfl) T.n_reversed (pv 1))))))))), ?_⟩
    walk_at "un"
    walk_at "go"
    refine rdLstH (Nat.zero_le _) fun H1 d s1 nd hd => ?_
    walk_at "go"
    walk_at "for"
    refine ⟨_, rfl, a, rfl, ⟨ns.map V.int, s1.seq hS⟩, ?_⟩
    refine forList (xs := ns.map V.int) (fun i σ' H' => ∃ o1 o2 o3 o4, σ' = [some (.ref a), some (.ref d), o1, o2, o3, o4, none] ∧ Same H H' ∧ ∃ ms : List Int, H' d = some (.lst (ms.map V.int)) ∧ ms.length ≤ 62 * i) ⟨_, _, _, _, rfl, s1, [], hd, Nat.zero_le _⟩ (fun i σ' H' _ ⟨_, _, _, _, _, e, _⟩ => e.seq hS) ?_ ?_
    · rintro i x σ' H2 hi ⟨o1, o2, o3, o4, rfl, s2, ms, hms, hlm⟩
      have hi' : i < ns.length := by
        have := (List.getElem?_eq_some_iff.mp hi).1
        rw [List.length_map] at this
        exact this
      obtain ⟨z, hz⟩ : ∃ z, x = .int z := by
        rw [List.getElem?_map, List.getElem?_eq_getElem hi'] at hi
        cases hi
        exact ⟨_, rfl⟩
      subst hz
      walk_at "un"
      walk_at "go"
      refine seqJ (fun σ' H' => ∃ (m : Nat) (o3 : Option V), σ' = [some (.ref a), some (.ref d), some (.int z), some (.int (m : Int)), o3, o4, none] ∧ Same H H' ∧ ∃ ms : List Int, H' d = some (.lst (ms.map V.int)) ∧ ms.length ≤ 62 * i + 2) (fun U hU => ?_) ?_
      · walk_at "un"
        walk_at "go"
        refine rdPow ⟨by decide, by decide, by decide⟩ ?_
        walk_at "go"
        generalize (10 : Int) ^ Int.toNat 18 = B
        refine ifD (fun c => ?_) (fun c => ?_)
        · walk_at "go"
          refine rdMod (by decide) ?_
          walk_at "go"
          refine ⟨.inl ⟨rfl, _, .inl (.inl hms)⟩, ?_⟩
          walk_at "go"
          refine rdMod (by decide) ?_
          walk_at "go"
          refine rdAppI hms (small1000' (by omega)) ?_
          walk_at "go"
          refine ⟨.inl ⟨rfl, _, .inl (.inl upd_same)⟩, ?_⟩
          walk_at "go"
          refine rdDivP (b := 10) (by decide) (by decide) (by decide) ?_
          walk_at "go"
          refine rdMod (by decide) ?_
          refine rdAppI upd_same (small1000' (by rw [List.length_append]; show ms.length + 1 ≤ _; omega)) ?_
          refine hU _ _ ⟨0, some (.int ((((z.natAbs : Nat) : Int) * 48271 + 11) % 2147483647)), rfl, ?_, _, upd_same, ?_⟩
          · exact sameLate (sameLate s2 nd) nd
          · rw [List.length_append, List.length_append]
            show ms.length + 1 + 1 ≤ _
            omega
        · refine hU _ _ ⟨z.natAbs, o3, rfl, s2, ms, hms, by omega⟩
      · rintro σ' H3 ⟨m, o3', rfl, s3, ms3, hms3, hlm3⟩
        walk_at "un"
        walk_at "for"
        refine ⟨_, rfl, by decide, by decide, ?_⟩
        refine forRange (n := 60) (fun j σ' H' => ∃ (m : Nat) (o4 : Option V), σ' = [some (.ref a), some (.ref d), some (.int z), some (.int (m : Int)), o3', o4, none] ∧ Same H H' ∧ ∃ ms : List Int, H' d = some (.lst (ms.map V.int)) ∧ ms.length ≤ 62 * i + 2 + j) ⟨m, o4, rfl, s3, ms3, hms3, hlm3⟩ ?_ ?_
        · rintro j σ' H4 hj ⟨m4, o5, rfl, s4, ms4, hms4, hlm4⟩
          walk_at "un"
          walk_at "go"
          refine ifD (fun c => ?_) (fun c => ?_)
          · walk_at "go"
            refine ⟨.inl ⟨rfl, _, .inl (.inl hms4)⟩, ?_⟩
            walk_at "go"
            refine rdMod (by decide) ?_
            refine rdAppI hms4 (small1000' (by omega)) ?_
            walk_at "go"
            refine rdDivP (b := 10) (by decide) (by decide) (by decide) ?_
            refine ⟨m4 / 997, _, by rw [Int.natCast_ediv]; rfl, sameLate s4 nd, _, upd_same, ?_⟩
            rw [List.length_append]
            show ms4.length + 1 ≤ _
            omega
          · exact ⟨m4, _, rfl, s4, ms4, hms4, by omega⟩
        · rintro σ' H4 ⟨m4, o5, rfl, s4, ms4, hms4, hlm4⟩
          exact ⟨_, _, _, _, rfl, s4, ms4, hms4, by omega⟩
    · rintro σ' H2 ⟨o1, o2, o3, o4, rfl, s2, ms, hms, hlm⟩
      rw [List.length_map] at hlm
      walk_at "un"
      walk_at "go"
      refine seqJ (fun σ' H' => ∃ (z : Int), σ' = [some (.ref a), some (.ref d), o1, o2, o3, o4, some (.int z)] ∧ H' = H2) (fun U hU => ?_) ?_
      · walk_at "un"
        walk_at "go"
        refine rdLenL (s2.seq hS) ?_
        walk_at "go"
        refine ifD (fun c => ?_) (fun c => hU _ _ ⟨1, rfl, rfl⟩)
        rw [List.length_map] at c
        walk_at "go"
        refine rdIxL (s2.seq hS) (at_of (j := 0) rfl (by rw [List.getElem?_map, List.getElem?_eq_getElem (by omega)]; rfl)) ?_
        walk_at "go"
        exact hU _ _ ⟨_, rfl, rfl⟩
      · rintro σ' H3 ⟨z, rfl, rfl⟩
        walk_at "un"
        walk_at "for"
        refine ⟨_, rfl, by decide, by decide, ?_⟩
        refine forRange (n := 60) (fun j σ' H' => ∃ (z : Int) (o4 : Option V), σ' = [some (.ref a), some (.ref d), o1, o2, o3, o4, some (.int z)] ∧ Same H H' ∧ ∃ ms : List Int, H' d = some (.lst (ms.map V.int)) ∧ ms.length ≤ 62 * ns.length + j) ⟨z, o4, rfl, s2, ms, hms, hlm⟩ ?_ ?_
        · rintro j σ' H4 hj ⟨z4, o5, rfl, s4, ms4, hms4, hlm4⟩
          walk_at "un"
          walk_at "go"
          refine rdMod (by decide) ?_
          walk_at "go"
          refine ⟨.inl ⟨rfl, _, .inl (.inl hms4)⟩, ?_⟩
          walk_at "go"
          refine rdDivP (b := 10) (by decide) (by decide) (by decide) ?_
          refine rdAppI hms4 (small1000' (by omega)) ?_
          refine ⟨_, _, rfl, sameLate s4 nd, _, upd_same, ?_⟩
          rw [List.length_append]
          show ms4.length + 1 ≤ _
          omega
        · rintro σ' H4 ⟨z4, o5, rfl, s4, ms4, hms4, hlm4⟩
          walk_at "un"
          dsimp only [UbG.tListRev, tVar]
          walk_at "go"
          refine ⟨d, _, rfl, .inl (.inl hms4), fun e ne => ?_⟩
          refine q _ _ (fun b o h => sameNew ne b o (s4 b o h)) ?_ ⟨ms4.reverse, by rw [upd_same, List.map_reverse]⟩
          cases g : H e with
          | none => rfl
          | some o => exact absurd (s4 _ _ g) (by rw [ne]; exact fun z => nomatch z)
/-! ### _law_same -/
theorem rdNeBs {K : PySem.W.Frag} {H : Hp} {Q : VK} {b : Bool} (q : Q (.bl false) H) : rNeA K (.bl b) (.bl b) H Q := .inl ⟨rfl, by
  have e : decide (V.bl b = V.bl b) = true := decide_eq_true rfl
  rw [e]
  exact q⟩
/-- whole numbers, tuples and lists of such -/
def okD : PyData → Bool
  | .int _ => true
  | .tuple ds => decide (ds.length ≤ 1000) && okDs ds
  | .list ds => decide (ds.length ≤ 1000) && okDs ds
  | _ => false
where okDs : List PyData → Bool
  | [] => true
  | d :: ds => okD d && okDs ds
def sp__law_same (K : PySem.W.Frag) (k : Nat) : Sp := fun vs H Q _ => ∃ (v u : V) (d : PyData), vs = [v, u] ∧ Dp K H v d ∧ Dp K H u d ∧ d.depth < k ∧ okD d = true ∧ Q (.bl true) H
theorem dpAll_get {K : PySem.W.Frag} {H : Hp} : ∀ {xs : List V} {ds : List PyData} {i : Nat} {d : PyData}, DpAll K H xs ds → ds[i]? = some d → ∃ v, xs[i]? = some v ∧ Dp K H v d
  | _, _, _, _, .nil, h => by simp at h
  | _, _, 0, _, .cons h1 _, h => by
    simp at h
    subst h
    exact ⟨_, rfl, h1⟩
  | _, _, i + 1, d, .cons _ h2, h => by
    obtain ⟨v, e, q⟩ := dpAll_get (i := i) (d := d) h2 (by simpa using h)
    exact ⟨v, by simpa using e, q⟩
theorem depth_get : ∀ {ds : List PyData} {i : Nat} {d : PyData}, ds[i]? = some d → d.depth ≤ PyData.depthAll ds
  | [], _, _, h => by simp at h
  | x :: r, 0, d, h => by
    simp at h
    subst h
    exact Nat.le_max_left ..
  | x :: r, i + 1, d, h => Nat.le_trans (depth_get (i := i) (d := d) (by simpa using h)) (Nat.le_max_right ..)
theorem okD_get : ∀ {ds : List PyData} {i : Nat} {d : PyData}, okD.okDs ds = true → ds[i]? = some d → okD d = true
  | [], _, _, _, h => by simp at h
  | x :: r, 0, d, n, h => by
    simp at h
    subst h
    unfold okD.okDs at n
    exact (Bool.and_eq_true_iff.mp n).1
  | x :: r, i + 1, d, n, h => by
    unfold okD.okDs at n
    exact okD_get (i := i) (d := d) (Bool.and_eq_true_iff.mp n).2 (by simpa using h)
local macro_rules | `(tactic| walk_at "sv") => `(tactic| repeat first | walk_at "st" | (with_reducible refine rdNeBs ?_) | walk_at "ew")
theorem ok__law_same {f : Addr} {fd : FuncData} (T : Tx K mg) (F : FunD K "_law_same" "_law_same" (defArgs s__law_same) (defBody s__law_same) (defScope s__law_same) [] [] f fd) (m_self : mg "_law_same" = some (.ref f)) : ∀ k : Nat, FnOk P w K mg base (L2.CX P w) k f fd ["value", "due"] (sp__law_same K k)
  | 0 => ⟨fun vs H Q E h => by obtain ⟨_, _, _, _, _, _, h, _⟩ := h; omega, fun _ _ _ _ _ _ _ _ _ _ _ _ _ h => by obtain ⟨_, _, _, _, _, _, h, _⟩ := h; omega⟩
  | k + 1 => by
    have C__law_same : Cal P w K mg base "_law_same" k ["value", "due"] [] (sp__law_same K k) := ⟨_, _, [], ok__law_same T F m_self k, m_self, F.kp, .nil, F.bindsN fun _ _ _ _ _ _ us hl => match us, hl with | [_, _], _ => rfl⟩
    refine F.ok sc__law_same (fun vs H Q E h => ?_) (fun cdv A outer s H vs Q E hr h => ?_)
    · obtain ⟨v, u, d, rfl, _⟩ := h
      rfl
    · obtain ⟨v, u, d, rfl, hv, hu, hk, hn, q⟩ := h
      refine ⟨_, PSs.nox (pss_cons (ps_if ((pw_or (pt_val (pe_callB call_isi (by rfl) T.n_isinstance bb_isinstance (pa_cons (pv 1) (pa_cons (pe_bltn (v := .ty "tuple") (by rfl) T.n_tuple bb_tuple rfl) pa_nil)))) (pw_or1 (pt_val (pe_callB call_isi (by rfl) T.n_isinstance bb_isinstance (pa_cons (pv 1) (pa_cons (pe_bltn (v := .ty "list") (by rfl) T.n_list bb_list rfl) pa_nil))))))).pt (pss_cons (ps_if ((pw_or (pt_cmpR (op_neA hr.units) (pe_callB call_isi (by rfl) T.n_isinstance bb_isinstance (pa_cons (pv 1) (pa_cons (pe_bltn (v := .ty "tuple") (by rfl) T.n_tuple bb_tuple rfl) pa_nil))) (pe_callB call_isi (by rfl) T.n_isinstance bb_isinstance (pa_cons (pv 0) (pa_cons (pe_bltn (v := .ty "tuple") (by rfl) T.n_tuple bb_tuple rfl) pa_nil))) (nomark _)) (pw_or1 (pt_cmpR (op_neA hr.units) (pe_callB call_isi (by rfl) T.n_isinstance bb_isinstance (pa_cons (pv 1) (pa_cons (pe_bltn (v := .ty "list") (by rfl) T.n_list bb_list rfl) pa_nil))) (pe_callB call_isi (by rfl) T.n_isinstance bb_isinstance (pa_cons (pv 0) (pa_cons (pe_bltn (v := .ty "list") (by rfl) T.n_list bb_list rfl) pa_nil))) (nomark _))))).pt (pss_one (ps_ret pe_bl)) pss_nil) (pss_cons (ps_if (pt_cmpR (op_neA hr.units) (pe_callB cl_len (by rfl) T.n_len bb_len (pa_cons (pv 0) pa_nil)) (pe_callB cl_len (by rfl) T.n_len bb_len (pa_cons (pv 1) pa_nil)) (nomark _)) (pss_one (ps_ret pe_bl)) pss_nil) (pss_cons (ps_for PassesOwn.never rfl (pi_range1 (by rfl) T.n_range (pa_cons (pe_callB cl_len (by rfl) T.n_len bb_len (pa_cons (pv 1) pa_nil)) pa_nil)) (pg_name (i := 2) sc__law_same.nd rfl (Or.inl rfl)) (pss_one (ps_if (pt_not (pt_val (pe_callC C__law_same hr (Nat.le_refl _) (by rfl) (pa_cons (pe_ix ix_seq (pv 0) (pv 2) (fun _ _ => rfl)) (pa_cons (pe_ix ix_seq (pv 1) (pv 2) (fun _ _ => rfl)) pa_nil))))) (pss_one (ps_ret pe_bl)) pss_nil))) (pss_one (ps_ret pe_bl))))) pss_nil) (pss_cons (ps_if (pt_cmpR (op_neA hr.units) (pe_callB call_isi (by rfl) T.n_isinstance bb_isinstance (pa_cons (pv 1) (pa_cons (pe_bltn (v := .ty "bool") (by rfl) T.n_bool bb_bool rfl) pa_nil))) (pe_callB call_isi (by rfl) T.n_isinstance bb_isinstance (pa_cons (pv 0) (pa_cons (pe_bltn (v := .ty "bool") (by rfl) T.n_bool bb_bool rfl) pa_nil))) (nomark _)) (pss_one (ps_ret pe_bl)) pss_nil) (pss_cons (ps_if ((pw_or (pt_cmpR (op_neA hr.units) (pe_callB call_isi (by rfl) T.n_isinstance bb_isinstance (pa_cons (pv 1) (pa_cons (pe_bltn (v := .ty "int") (by rfl) T.n_int bb_int rfl) pa_nil))) (pe_callB call_isi (by rfl) T.n_isinstance bb_isinstance (pa_cons (pv 0) (pa_cons (pe_bltn (v := .ty "int") (by rfl) T.n_int bb_int rfl) pa_nil))) (nomark _)) (pw_or1 (pt_cmpR (op_neA hr.units) (pe_callB call_isi (by rfl) T.n_isinstance bb_isinstance (pa_cons (pv 1) (pa_cons (pe_bltn (v := .ty "str") (by rfl) T.n_str bb_str rfl) pa_nil))) (pe_callB call_isi (by rfl) T.n_isinstance bb_isinstance (pa_cons (pv 0) (pa_cons (pe_bltn (v := .ty "str") (by rfl) T.n_str bb_str rfl) pa_nil))) (nomark _))))).pt (pss_one (ps_ret pe_bl)) pss_nil) (pss_one (ps_ret (pe_cmpR (op_eqA hr.units) (pv 0) (pv 1) (nomark _))))))), ?_⟩
      walk_at "un"
      cases hv with
      | non => cases hn
      | bl b => cases hn
      | str x => cases hn
      | int i =>
        cases hu
        have h0 : Dp K H (.int i) (.int i) := .int i
        walk_at "sv"
        exact q
      | lst h1 h2 =>
        cases hu with
        | lst h3 h4 =>
        rename_i a1 xs ds a2 ys
        have h0 : Dp K H (.ref a1) (.list ds) := .lst h1 h2
        have h0' : Dp K H (.ref a2) (.list ds) := .lst h3 h4
        have l1 := dpAll_len h2
        have l2 := dpAll_len h4
        walk_at "sv"
        rw [l1, l2]
        walk_at "ev"
        unfold okD at hn
        obtain ⟨hn1, hn2⟩ := Bool.and_eq_true_iff.mp hn
        have hn1 := of_decide_eq_true hn1
        walk_at "for"
        walk_at "go"
        refine ⟨by omega, by omega, ?_⟩
        rw [l2]
        refine forRange (n := ds.length) (fun i σ' H' => ∃ o, σ' = [some (.ref a1), some (.ref a2), o] ∧ H' = H) ⟨none, rfl, rfl⟩ ?_ ?_
        · rintro i σ' H' hi ⟨o, rfl, rfl⟩
          obtain ⟨v1, e1, q1⟩ := dpAll_get h2 (List.getElem?_eq_getElem hi)
          obtain ⟨v2, e2, q2⟩ := dpAll_get h4 (List.getElem?_eq_getElem hi)
          have dd := depth_get (List.getElem?_eq_getElem hi)
          have hk' : PyData.depthAll ds + 1 < k + 1 := hk
          walk_at "un"
          walk_at "go"
          refine rdIxL h1 (at_of (j := i) (by omega) e1) ?_
          walk_at "go"
          refine rdIxL h3 (at_of (j := i) (by omega) e2) ?_
          refine ⟨v1, v2, _, rfl, q1, q2, by omega, okD_get hn2 (List.getElem?_eq_getElem hi), ?_⟩
          walk_at "gv"
          exact ⟨_, rfl⟩
        · rintro σ' H' ⟨o, rfl, rfl⟩
          exact q
      | tup h1 h2 =>
        cases hu with
        | tup h3 h4 =>
        rename_i a1 xs ds a2 ys
        have h0 : Dp K H (.ref a1) (.tuple ds) := .tup h1 h2
        have h0' : Dp K H (.ref a2) (.tuple ds) := .tup h3 h4
        have l1 := dpAll_len h2
        have l2 := dpAll_len h4
        walk_at "sv"
        rw [l1, l2]
        walk_at "ev"
        unfold okD at hn
        obtain ⟨hn1, hn2⟩ := Bool.and_eq_true_iff.mp hn
        have hn1 := of_decide_eq_true hn1
        walk_at "for"
        walk_at "go"
        refine ⟨by omega, by omega, ?_⟩
        rw [l2]
        refine forRange (n := ds.length) (fun i σ' H' => ∃ o, σ' = [some (.ref a1), some (.ref a2), o] ∧ H' = H) ⟨none, rfl, rfl⟩ ?_ ?_
        · rintro i σ' H' hi ⟨o, rfl, rfl⟩
          obtain ⟨v1, e1, q1⟩ := dpAll_get h2 (List.getElem?_eq_getElem hi)
          obtain ⟨v2, e2, q2⟩ := dpAll_get h4 (List.getElem?_eq_getElem hi)
          have dd := depth_get (List.getElem?_eq_getElem hi)
          have hk' : PyData.depthAll ds + 1 < k + 1 := hk
          walk_at "un"
          walk_at "go"
          refine rdIxT h1 (at_of (j := i) (by omega) e1) ?_
          walk_at "go"
          refine rdIxT h3 (at_of (j := i) (by omega) e2) ?_
          refine ⟨v1, v2, _, rfl, q1, q2, by omega, okD_get hn2 (List.getElem?_eq_getElem hi), ?_⟩
          walk_at "gv"
          exact ⟨_, rfl⟩
        · rintro σ' H' ⟨o, rfl, rfl⟩
          exact q
/-! ### _law_refusal -/
def sp__law_refusal (K : PySem.W.Frag) : Sp := fun vs H Q _ => ∃ (v u : V) (ls : List Rat) (t : Rat) (n : Nat), vs = [v, u] ∧ Frs K H v ls ∧ Fr K H u t ∧ (∀ r ∈ ls, Bd n r) ∧ Bd n t ∧ 1 + ls.length * (n + 1) + n + 4 < 8990 ∧ GxR.TabG H (pDrawn K) ∧
  (badLot ls → ∀ H', UbG.SameT H H' → Q (.str "lot") H') ∧ (¬badLot ls → (t < 0 ∨ 1 ≤ t) → ∀ H', UbG.SameT H H' → Q (.str "ticket") H') ∧ (¬badLot ls → 0 ≤ t → t < 1 → ∀ H', UbG.SameT H H' → Q (.str "") H')
theorem ok__law_refusal {f : Addr} {fd : FuncData} (T : Tx K mg) (F : FunD K "_law_refusal" "_law_refusal" (defArgs s__law_refusal) (defBody s__law_refusal) (defScope s__law_refusal) [] [] f fd) (C_drawn : Cal P w K mg base "drawn" 4 ["lot", "ticket"] [] (sp_drawn K)) : FnOk P w K mg base (L2.CX P w) 5 f fd ["lot", "ticket"] (sp__law_refusal K) := by
  refine F.ok sc__law_refusal (fun vs H Q E h => ?_) (fun cdv A outer s H vs Q E hr h => ?_)
  · obtain ⟨_, _, _, _, _, rfl, _⟩ := h
    rfl
  · obtain ⟨v, u, ls, t, n, rfl, hv, hu, hb, hbt, hn, hT, q1, q2, q3⟩ := h
    refine ⟨_, PSs.nox (pss_cons (ps_try_as (i := 2) rfl rfl sc__law_refusal.nd rfl rfl ⟨rfl, by decide, .inl T.e_UnbentError.gC⟩ takes0 (fun W pn xe tk _ => (pss_one (ps_expr (by exact (pe_callCS C_drawn hr (by decide) (by rfl) tk (by exact (pa_cons (pv 0) (pa_cons (pv 1) pa_nil)))))))) (fun a oe cls d pn hz hf => (pss_cons (ps_if ((pw_and (pt_val (by exact (pe_callB (UbG.call_isEx2 T.i_InvalidLot T.i_InvalidTicket hz hf) (by rfl) T.n_isinstance bb_isinstance (by exact (pa_cons (pv 2) (pa_cons (pe_glob (v := .ref (He.ga K "InvalidLot")) (by rfl) T.e_InvalidLot.gC rfl) pa_nil)))))) (pw_and1 (pt_not (pt_val (by exact (pe_callB (UbG.call_isEx2 T.i_InvalidLot T.i_InvalidTicket hz hf) (by rfl) T.n_isinstance bb_isinstance (by exact (pa_cons (pv 2) (pa_cons (pe_glob (v := .ref (He.ga K "InvalidTicket")) (by rfl) T.e_InvalidTicket.gC rfl) pa_nil)))))))))).pt (pss_one (ps_ret pe_str)) pss_nil) (pss_one (ps_if ((pw_and (pt_val (by exact (pe_callB (UbG.call_isEx2 T.i_InvalidLot T.i_InvalidTicket hz hf) (by rfl) T.n_isinstance bb_isinstance (by exact (pa_cons (pv 2) (pa_cons (pe_glob (v := .ref (He.ga K "InvalidTicket")) (by rfl) T.e_InvalidTicket.gC rfl) pa_nil)))))) (pw_and1 (pt_val (by exact (pe_callB (UbG.call_isEx2 T.i_InvalidLot T.i_InvalidTicket hz hf) (by rfl) T.n_isinstance bb_isinstance (by exact (pa_cons (pv 2) (pa_cons (pe_bltn (v := .ty "ValueError") (by rfl) T.n_ValueError bb_ValueError rfl) pa_nil))))))))).pt (pss_one (ps_ret pe_str)) pss_nil))))) (pss_one (ps_ret pe_str))), ?_⟩
    walk_at "un"
    walk_at "go"
    refine ⟨v, u, ls, t, n, rfl, hv, hu, hb, hbt, hn, hT, fun hbad H1 s1 => ?_, fun hg ht H1 s1 => ?_, fun hg h0 h1 H1 o s1 _ _ _ => ?_⟩
    · refine ⟨true, T.m_InvalidLot_UnbentError, fun _ a na => ?_, fun q => nomatch q⟩
      walk_at "un"
      walk_at "go"
      refine .inl (rdIsEx (fun u r => r) T.k_InvalidLot_InvalidLot ?_)
      walk_at "gv"
      refine .inl (rdIsEx (fun u r => r) T.k_InvalidLot_InvalidTicket ?_)
      walk_at "gv"
      exact q1 hbad _ s1
    · refine ⟨true, T.m_InvalidTicket_UnbentError, fun _ a na => ?_, fun q => nomatch q⟩
      walk_at "un"
      walk_at "go"
      refine .inr (rdIsEx (fun u r => r) T.k_InvalidTicket_InvalidLot ?_)
      walk_at "gv"
      refine .inr (rdIsEx (fun u r => r) T.k_InvalidTicket_InvalidTicket ?_)
      walk_at "gv"
      refine .inr (rdIsEx (fun u r => r) T.k_InvalidTicket_ValueError ?_)
      walk_at "gv"
      exact q2 hg ht _ s1
    · walk_at "un"
      walk_at "go"
      exact q3 hg h0 h1 _ s1
/-! ### law -/
theorem rlt1 {a b c : Rat} (h1 : a ≤ b) (h2 : b < c) : a < c := Rat.not_le.mp fun z => absurd h2 (Rat.not_lt.mpr (Rat.le_trans z h1))
theorem rlt2 {a b c : Rat} (h1 : a < b) (h2 : b ≤ c) : a < c := Rat.not_le.mp fun z => absurd h1 (Rat.not_lt.mpr (Rat.le_trans h2 z))
theorem div_lt {a b c d : Int} (hb : 0 < b) (hd : 0 < d) : Rat.divInt a b < Rat.divInt c d ↔ a * d < c * b := by
  have h1 : Rat.divInt a b = Rat.divInt (a * d) (b * d) := (Rat.divInt_mul_right (by omega)).symm
  have h2 : Rat.divInt c d = Rat.divInt (c * b) (b * d) := by
    rw [Int.mul_comm b d]
    exact (Rat.divInt_mul_right (by omega)).symm
  have hp : 0 < b * d := Int.mul_pos hb hd
  rw [h1, h2, Rat.divInt_eq_div, Rat.divInt_eq_div, Rat.div_def, Rat.div_def, Rat.mul_lt_mul_right (Rat.inv_pos.mpr (Rat.intCast_lt_intCast.mpr hp)), Rat.intCast_lt_intCast]
theorem div_le {a b c d : Int} (hb : 0 < b) (hd : 0 < d) : Rat.divInt a b ≤ Rat.divInt c d ↔ a * d ≤ c * b := by
  rw [← Rat.not_lt, div_lt hd hb]
  omega
theorem div_add {a s n : Int} : Rat.divInt a n + Rat.divInt s n = Rat.divInt (a + s) n := by
  rw [Rat.divInt_eq_div, Rat.divInt_eq_div, Rat.divInt_eq_div, Rat.div_def, Rat.div_def, Rat.div_def, ← Rat.add_mul, Rat.intCast_add]
/-- the fractions of the shares -/
def lotR (ns : List Int) (n : Int) : List Rat := ns.map fun s => Rat.divInt s n
theorem foldl_lot {n : Int} : ∀ (ns : List Int) (a : Int), (lotR ns n).foldl (· + ·) (Rat.divInt a n) = Rat.divInt (a + ns.sum) n
  | [], a => by simp [lotR]
  | s :: ns, a => by
    show (lotR ns n).foldl (· + ·) (Rat.divInt a n + Rat.divInt s n) = _
    rw [div_add, foldl_lot ns (a + s), List.sum_cons, Int.add_assoc]
theorem sum_lot {ns : List Int} {n : Int} : sumR (lotR ns n) = Rat.divInt ns.sum n := by
  have h := foldl_lot (n := n) ns 0
  rw [Rat.zero_divInt, Int.zero_add] at h
  exact h
theorem take_lot {ns : List Int} {n : Int} {j : Nat} : (lotR ns n).take j = lotR (ns.take j) n := by
  unfold lotR
  rw [List.map_take]
theorem sum_nonneg : ∀ {ns : List Int}, (∀ x ∈ ns, 0 ≤ x) → 0 ≤ ns.sum
  | [], _ => by simp
  | x :: ns, h => by
    rw [List.sum_cons]
    have := sum_nonneg (ns := ns) fun y hy => h y (List.mem_cons_of_mem _ hy)
    have := h x (List.mem_cons_self ..)
    omega
theorem sum_take_mono {ns : List Int} (h : ∀ x ∈ ns, 0 ≤ x) {i : Nat} {x : Int} (e : ns[i]? = some x) : (ns.take (i + 1)).sum = (ns.take i).sum + x := by
  obtain ⟨hi, e⟩ := List.getElem?_eq_some_iff.mp e
  rw [List.take_succ_eq_append_getElem hi, List.sum_append, e]
  simp
theorem take_le {ns : List Int} (h : ∀ x ∈ ns, 0 ≤ x) : ∀ (d i : Nat), (ns.take i).sum ≤ (ns.take (i + d)).sum
  | 0, i => Int.le_refl _
  | d + 1, i => by
    have := take_le h d i
    rcases Nat.lt_or_ge (i + d) ns.length with z | z
    · rw [← Nat.add_assoc, sum_take_mono h (List.getElem?_eq_getElem z)]
      have := h _ (List.getElem_mem z)
      omega
    · have e : ns.take (i + (d + 1)) = ns.take (i + d) := by
        rw [List.take_of_length_le (by omega), List.take_of_length_le z]
      rw [e]
      exact this
theorem ixN_nat' {n j : Nat} (hj : j < n) : ixN n (j : Int) = some j := by
  unfold ixN
  rw [if_pos (by omega), if_pos (by omega)]
  simp
theorem dpPush {K : PySem.W.Frag} {H : Hp} {a : Addr} {xs : List V} {v : V} {rs : List Rat} {r : Rat} (h : H a = some (.lst xs)) (hA : DpAll K H xs (rs.map frD)) (hv : Fr K H v r) : DpAll K (upd H a (.lst (xs ++ [v]))) (xs ++ [v]) ((rs ++ [r]).map frD) := by
  have g := Own.push (d := Nat.succ a) h (Nat.ne_of_lt (Nat.lt_succ_self a)) hA hv
  obtain ⟨zs, g1, _, g2⟩ := g.ex
  rw [upd_same] at g1
  cases g1
  exact g2
theorem le_sum : ∀ {l : List Int} {x : Int}, (∀ y ∈ l, 0 ≤ y) → x ∈ l → x ≤ l.sum
  | y :: l, x, h, hx => by
    rw [List.sum_cons]
    have h1 := h y (List.mem_cons_self ..)
    have h2 : ∀ z ∈ l, 0 ≤ z := fun z hz => h z (List.mem_cons_of_mem _ hz)
    have h3 := sum_nonneg h2
    rcases List.mem_cons.mp hx with e | e
    · omega
    · have := le_sum h2 e
      omega
theorem sum_le8 : ∀ {l : List Int}, (∀ y ∈ l, y ≤ 8) → l.sum ≤ 8 * l.length
  | [], _ => by simp
  | y :: l, h => by
    rw [List.sum_cons, List.length_cons]
    have h1 := h y (List.mem_cons_self ..)
    have h2 := sum_le8 (l := l) fun z hz => h z (List.mem_cons_of_mem _ hz)
    omega
theorem shares_set {ms : List Int} {j : Nat} {v : Int} (hj : j < ms.length) (hb : ∀ x ∈ ms, 0 ≤ x ∧ x ≤ 8) (h1 : 1 ≤ v) (h4 : v ≤ 4) (hl : ms.length ≤ 6) :
    (∀ x ∈ ms.set j v, 0 ≤ x ∧ x ≤ 8) ∧ 0 < (ms.set j v).sum ∧ (ms.set j v).sum ≤ 48 := by
  have h : ∀ x ∈ ms.set j v, 0 ≤ x ∧ x ≤ 8 := fun x hx => by
    rcases List.mem_or_eq_of_mem_set hx with e | e
    · exact hb x e
    · omega
  have hv : v ∈ ms.set j v := List.mem_iff_getElem?.mpr ⟨j, List.getElem?_set_self hj⟩
  have s1 := le_sum (fun y hy => (h y hy).1) hv
  have s2 := sum_le8 fun y hy => (h y hy).2
  rw [List.length_set] at s2
  exact ⟨h, by omega, by omega⟩
/-- the turns of a list comprehension, its parts kept -/
def LC (J : It) (g : TG) (tt : TT) (te : TE) (vs : List Nat) (σ : L2.St) (H1 : Hp) (D : Addr) (Qd : Hp → Prop) : Prop := ∃ W : Nat → Nat → Hp → Prop, (∃ m, W 0 m (upd H1 D (.lst []))) ∧ ∀ i m H, W i m H →
  (J.stop i H ∧ Qd H) ∨ (J.go i H ∧ ∃ Nx : Hp → Prop, (∀ H', Nx H' → ∃ m', m' < m ∧ W (i + 1) m' H') ∧ ∀ x H', J.yld i H x H' → g x (wipe σ vs) H' fun σ2 H2 => wipe σ2 vs = wipe σ vs ∧ tt σ2 H2 fun b H3 =>
    if b = true then te σ2 H3 fun y H4 => ∃ acc, H4 D = some (.lst acc) ∧ acc.length < sizeLine ∧ Nx (upd H4 D (.lst (acc ++ [y]))) else Nx H3)
theorem lcOf {wi : TI} {g : TG} {tt : TT} {te : TE} {vs : List Nat} {σ : L2.St} {H : Hp} {Q : VK} (h : wi σ H fun J H1 => ∀ D, H1 D = none → LC J g tt te vs σ H1 D (Q (.ref D))) : tLc wi g tt te vs σ H Q := h
def FL (J : It) (g : TG) (tb : TS) (D : Ends) (σ : L2.St) (H1 : Hp) : Prop := ∃ W : Nat → Nat → L2.St → Hp → Prop, (∃ m, W 0 m σ H1) ∧ ∀ i m σ H, W i m σ H →
  (J.stop i H ∧ D.nx σ H) ∨ (J.go i H ∧ ∃ N : L2.St → Hp → Prop, (∀ σ' H', N σ' H' → ∃ m', m' < m ∧ W (i + 1) m' σ' H') ∧ ∀ x H', J.yld i H x H' → g x σ H' fun σ2 H2 => tb { D with nx := N, ct := N, bk := D.nx } σ2 H2)
theorem forOf {wi : TI} {g : TG} {tb : TS} {D : Ends} {σ : L2.St} {H : Hp} (h : wi σ H fun J H1 => FL J g tb D σ H1) : tFor wi g tb D σ H := h
theorem FL.range {lo : Int} {n : Nat} {g : TG} {tb : TS} {D : Ends} {σ : L2.St} {H : Hp} (Pv : Nat → L2.St → Hp → Prop) (h0 : Pv 0 σ H)
    (hs : ∀ i σ H, i < n → Pv i σ H → g (.int (lo + i)) σ H fun σ2 H2 => tb { D with nx := Pv (i + 1), ct := Pv (i + 1), bk := D.nx } σ2 H2) (hd : ∀ σ H, Pv n σ H → D.nx σ H) : FL (Itr lo n) g tb D σ H := for_range Pv h0 hs hd
theorem FL.list {K : PySem.W.Frag} {a : Addr} {xs : List V} {g : TG} {tb : TS} {D : Ends} {σ : L2.St} {H : Hp} (Pv : Nat → L2.St → Hp → Prop) (h0 : Pv 0 σ H) (hl : ∀ i σ H, i ≤ xs.length → Pv i σ H → SqL K H a xs)
    (hs : ∀ i x σ H, xs[i]? = some x → Pv i σ H → g x σ H fun σ2 H2 => tb { D with nx := Pv (i + 1), ct := Pv (i + 1), bk := D.nx } σ2 H2) (hd : ∀ σ H, Pv xs.length σ H → D.nx σ H) : FL (Itl K a) g tb D σ H := for_list Pv h0 hl hs hd
local macro_rules | `(tactic| walk_at "it") => `(tactic| try dsimp only [iRng1, iRng2, iList, iTup])
theorem LC.range {lo : Int} {n : Nat} {g : TG} {tt : TT} {te : TE} {vs : List Nat} {σ : L2.St} {H1 : Hp} {D : Addr} {Qd : Hp → Prop} (Pv : Nat → Hp → Prop) (h0 : Pv 0 (upd H1 D (.lst [])))
    (hs : ∀ i H, i < n → Pv i H → g (.int (lo + i)) (wipe σ vs) H fun σ2 H2 => wipe σ2 vs = wipe σ vs ∧ tt σ2 H2 fun b H3 =>
      if b = true then te σ2 H3 fun y H4 => ∃ acc, H4 D = some (.lst acc) ∧ acc.length < sizeLine ∧ Pv (i + 1) (upd H4 D (.lst (acc ++ [y]))) else Pv (i + 1) H3) (hd : ∀ H, Pv n H → Qd H) : LC (Itr lo n) g tt te vs σ H1 D Qd := lc_range Pv h0 hs hd
theorem LC.list {K : PySem.W.Frag} {a : Addr} {xs : List V} {g : TG} {tt : TT} {te : TE} {vs : List Nat} {σ : L2.St} {H1 : Hp} {D : Addr} {Qd : Hp → Prop} (Pv : Nat → Hp → Prop) (h0 : Pv 0 (upd H1 D (.lst []))) (hl : ∀ i H, i ≤ xs.length → Pv i H → SqL K H a xs)
    (hs : ∀ i x H, xs[i]? = some x → Pv i H → g x (wipe σ vs) H fun σ2 H2 => wipe σ2 vs = wipe σ vs ∧ tt σ2 H2 fun b H3 =>
      if b = true then te σ2 H3 fun y H4 => ∃ acc, H4 D = some (.lst acc) ∧ acc.length < sizeLine ∧ Pv (i + 1) (upd H4 D (.lst (acc ++ [y]))) else Pv (i + 1) H3) (hd : ∀ H, Pv xs.length H → Qd H) : LC (Itl K a) g tt te vs σ H1 D Qd := lc_list Pv h0 hl hs hd
theorem SameY.late {d D : Addr} {H H' : Hp} {o : HO} (h : SameY d H H') (nD : H D = none) (hI : IntsL H d) : SameY d H (upd H' D o) := by
  have hne : d ≠ D := fun z => by
    obtain ⟨ns, e⟩ := hI
    rw [z, nD] at e
    cases e
  refine ⟨fun b x n e t => by rw [upd_ne (ne_of_none e nD)]; exact h.but b x n e t, fun P g => ?_, fun _ => ?_⟩
  · obtain ⟨ps, e, _⟩ := id g
    obtain ⟨qs, e2, t2⟩ := h.tab P g
    exact ⟨qs, by rw [upd_ne (ne_of_none e nD)]; exact e2, t2⟩
  · obtain ⟨ns, e⟩ := h.il hI
    exact ⟨ns, by rw [upd_ne hne]; exact e⟩
theorem ownT {K : PySem.W.Frag} {H H' : Hp} {C a : Addr} {rs : List Rat} (h : Own K H C a rs) (e : UbG.SameT H H') : Own K H' C a rs := by
  obtain ⟨xs, h1, h2, h3⟩ := h.ex
  exact ⟨xs, e.but _ _ h1 (fun _ z => by cases z), h2, UbG.Dp.monoTAll e _ _ h3⟩
theorem ownB {K : PySem.W.Frag} {H H' : Hp} {C a : Addr} {rs : List Rat} (h : Own K H C a rs) (e : But C H H') (hd : ∃ ys, H C = some (.lst ys)) : Own K H' C a rs := by
  obtain ⟨xs, h1, h2, h3⟩ := h.ex
  exact ⟨xs, e _ _ h2 h1, h2, Dp.monoXAll e hd _ _ (noL_frs rs) h3⟩
/-- what the law's lists hold -/
structure Fx (K : PySem.W.Frag) (ss : List Int) (ls : List Rat) (d D L c C : Addr) (H : Hp) (cs : List Int) : Prop where
  i : IntsL H d
  t : GxR.TabG H (pDrawn K)
  sh : H D = some (.lst (ss.map V.int))
  lo : Own K H C L ls
  pa : Own K H C c ls
  ct : H C = some (.lst (cs.map V.int))
theorem Fx.mono {K : PySem.W.Frag} {ss : List Int} {ls : List Rat} {d D L c C : Addr} {H H' : Hp} {cs : List Int} (h : Fx K ss ls d D L c C H cs) (e : UbG.SameT H H') : Fx K ss ls d D L c C H' cs :=
  ⟨(sameTY e).il h.i, e.tab _ h.t, e.but _ _ h.sh (fun _ z => by cases z), ownT h.lo e, ownT h.pa e, e.but _ _ h.ct (fun _ z => by cases z)⟩
theorem Fx.set {K : PySem.W.Frag} {ss : List Int} {ls : List Rat} {d D L c C : Addr} {H : Hp} {cs cs' : List Int} (h : Fx K ss ls d D L c C H cs) (h1 : d ≠ C) (h2 : D ≠ C) : Fx K ss ls d D L c C (upd H C (.lst (cs'.map V.int))) cs' := by
  obtain ⟨ns, hd⟩ := h.i
  obtain ⟨ps, hp, tp⟩ := h.t
  refine ⟨⟨ns, by rw [upd_ne h1]; exact hd⟩, ⟨ps, ?_, tp⟩, by rw [upd_ne h2]; exact h.sh, ownB h.lo but_upd ⟨_, h.ct⟩, ownB h.pa but_upd ⟨_, h.ct⟩, upd_same⟩
  rw [upd_ne fun z => by rw [z, h.ct] at hp; cases hp]
  exact hp
/-- the first place whose sum is above i, among the first j -/
def DueAt (ss : List Int) (i : Nat) (j : Nat) (o : Option Nat) : Prop := (o = none ∧ ∀ m, m < j → (ss.take (m + 1)).sum ≤ i) ∨ ∃ m, o = some m ∧ m < j ∧ (i : Int) < (ss.take (m + 1)).sum ∧ ∀ r, r < m → (ss.take (r + 1)).sum ≤ i
/-- how often j was drawn in i rounds -/
def cntAt (ss : List Int) (i j : Nat) : Int := max 0 (min ((i : Int) - (ss.take j).sum) (ss.getD j 0))
theorem canLay_ints : ∀ ns : List Int, PyData.canLayAll0 (ns.map PyData.int) = true
  | [] => rfl
  | n :: ns => by
    show (PyData.canLay0 (.int n) && PyData.canLayAll0 (ns.map PyData.int)) = true
    rw [canLay_ints ns]
    rfl
theorem depth_ints : ∀ ns : List Int, PyData.depthAll (ns.map PyData.int) ≤ 1
  | [] => Nat.zero_le _
  | n :: ns => by
    show max (PyData.depth (.int n)) (PyData.depthAll (ns.map PyData.int)) ≤ 1
    have h1 := depth_ints ns
    have h2 : PyData.depth (.int n) = 0 := rfl
    omega
theorem shaped_ints (ns : List Int) : PySem.SeqAt.shaped (.list (ns.map PyData.int)) = true := by
  show (PyData.canLayAll0 (ns.map PyData.int) && decide (PyData.depthAll (ns.map PyData.int) + 1 ≤ 64)) = true
  rw [canLay_ints, decide_eq_true (by have := depth_ints ns; omega)]
  rfl
theorem dp_ints {K : PySem.W.Frag} {H : Hp} : ∀ ns : List Int, DpAll K H (ns.map V.int) (ns.map PyData.int)
  | [] => .nil
  | n :: ns => .cons (.int n) (dp_ints ns)
theorem okD_frs : ∀ rs : List Rat, okD.okDs (rs.map frD) = true
  | [] => rfl
  | r :: rs => by
    show (okD (frD r) && okD.okDs (rs.map frD)) = true
    rw [okD_frs rs]
    rfl
theorem tseqY {K : PySem.W.Frag} {H H' : Hp} {d a : Addr} {xs : List V} (e : SameY d H H') (hd : IntsL H d) (h : SqT K H a xs) : SqT K H' a xs := by
  obtain ⟨ys, hd⟩ := hd
  rcases h with (h | ⟨o, h⟩) | h
  · exact .inl (.inl (e.but _ _ (ne_of h hd (by intro z; cases z)) h (fun _ z => by cases z)))
  · exact .inl (.inr ⟨o, e.but _ _ (ne_of h hd (by intro z; cases z)) h (fun _ z => by cases z)⟩)
  · exact .inr h
mutual
theorem monoY {K : PySem.W.Frag} {H H' : Hp} {d : Addr} (e : SameY d H H') (hd : IntsL H d) : ∀ (dt : PyData) (v : V), noL dt = true → Dp K H v dt → Dp K H' v dt
  | .none, _, _, h => by cases h; exact .non
  | .bool b, _, _, h => by cases h; exact .bl b
  | .int i, _, _, h => by cases h; exact .int i
  | .str x, _, _, h => by cases h; exact .str x
  | .list ds, _, n, _ => by
    unfold noL at n
    cases n
  | .tuple ds, _, n, h => by
    cases h with
    | tup hs ha => exact .tup (tseqY e hd hs) (monoYAll e hd ds _ (by unfold noL at n; exact (Bool.and_eq_true_iff.mp n).2) ha)
  | .dict _, _, _, h => by cases h
theorem monoYAll {K : PySem.W.Frag} {H H' : Hp} {d : Addr} (e : SameY d H H') (hd : IntsL H d) : ∀ (ds : List PyData) (vs : List V), noL.noLs ds = true → DpAll K H vs ds → DpAll K H' vs ds
  | [], _, _, h => by cases h; exact .nil
  | dt :: ds, _, n, h => by
    unfold noL.noLs at n
    obtain ⟨n1, n2⟩ := Bool.and_eq_true_iff.mp n
    cases h with
    | cons h1 h2 => exact .cons (monoY e hd dt _ n1 h1) (monoYAll e hd ds _ n2 h2)
end
theorem frY {K : PySem.W.Frag} {H H' : Hp} {d : Addr} {v : V} {r : Rat} (h : Fr K H v r) (e : SameY d H H') (hd : IntsL H d) : Fr K H' v r := monoY e hd _ _ rfl h
theorem ownY {K : PySem.W.Frag} {H H' : Hp} {d a : Addr} {rs : List Rat} (h : Own K H d a rs) (e : SameY d H H') (hd : IntsL H d) : Own K H' d a rs := by
  obtain ⟨xs, h1, h2, h3⟩ := h.ex
  exact ⟨xs, e.but _ _ h2 h1 (fun _ z => by cases z), h2, monoYAll e hd _ _ (noL_frs rs) h3⟩
theorem ints_ne {H : Hp} {d a : Addr} (h : IntsL H d) (n : H a = none) : a ≠ d := fun z => by
  obtain ⟨ns, e⟩ := h
  rw [← z, n] at e
  cases e
theorem rdLstOwn {K : PySem.W.Frag} {H : Hp} {Q : VK} {d : Addr} {xs : List V} {rs : List Rat} (hI : IntsL H d) (hA : DpAll K H xs (rs.map frD)) (hz : xs.length ≤ sizeLine) (q : ∀ H' a, Same H H' → Own K H' d a rs → Q (.ref a) H') : rLst xs H Q :=
  ⟨hz, fun p np => q _ _ (sameNew np) ⟨xs, upd_same, ints_ne hI np, Dp.monoAll (sameNew np) _ _ hA⟩⟩
theorem dpApp {K : PySem.W.Frag} {H : Hp} : ∀ {xs zs : List V} {ds es : List PyData}, DpAll K H xs ds → DpAll K H zs es → DpAll K H (xs ++ zs) (ds ++ es)
  | _, _, _, _, .nil, h => h
  | _, _, _, _, .cons h1 h2, h => .cons h1 (dpApp h2 h)
theorem rdCatOwn {K : PySem.W.Frag} {H : Hp} {Q : VK} {d a b : Addr} {rs rs2 : List Rat} (hI : IntsL H d) (h1 : Own K H d a rs) (h2 : Own K H d b rs2) (hz : rs.length + rs2.length ≤ 1000) (q : ∀ H' p, Same H H' → Own K H' d p (rs ++ rs2) → Q (.ref p) H') : rCat (.ref a) (.ref b) H Q := by
  obtain ⟨xs, e1, _, g1⟩ := h1.ex
  obtain ⟨zs, e2, _, g2⟩ := h2.ex
  have l1 := frs_len g1
  have l2 := frs_len g2
  refine ⟨a, b, xs, zs, rfl, rfl, e1, e2, small_line (by omega), fun p np => q _ _ (sameNew np) ⟨_, upd_same, ints_ne hI np, Dp.monoAll (sameNew np) _ _ ?_⟩⟩
  rw [List.map_append]
  exact dpApp g1 g2
theorem fr_neg1 {K : PySem.W.Frag} {H : Hp} {v : V} {N : Int} (h0 : 0 < N) (h : Dp K H v (.tuple [.int (-1), .int N])) : Fr K H v (Rat.divInt (-1) N) := by
  have e : frD (Rat.divInt (-1) N) = .tuple [.int (-1), .int N] := by
    unfold frD
    rw [← num_pos (p := -1) h0, ← den_pos (p := -1) h0]
    have g : Nat.gcd (-1 : Int).natAbs N.natAbs = 1 := Nat.gcd_one_left _
    rw [g]
    simp
  unfold Ub.Fr
  rw [e]
  exact h
theorem sumR_app (rs : List Rat) (r : Rat) : sumR (rs ++ [r]) = sumR rs + r := by
  unfold sumR
  rw [List.foldl_append]
  rfl
theorem bad2 {ss : List Int} {N : Int} (hN : ss.sum = N) (h0 : 0 < N) : badLot (lotR ss N ++ [Rat.divInt 1 N]) := .inr fun z => by
  rw [sumR_app, sum_lot, hN, div_add] at z
  have h : (1 : Rat) < Rat.divInt (N + 1) N := by
    rw [← Rat.divInt_self' (n := N) (by omega), div_lt h0 h0]
    exact Int.mul_lt_mul_of_pos_right (by omega) h0
  rw [z] at h
  exact Rat.lt_irrefl h
theorem bad5 : badLot [Rat.divInt 1 2] := .inr fun z => by
  have e : sumR [Rat.divInt 1 2] = Rat.divInt 1 2 := by
    have h := sumR_app [] (Rat.divInt 1 2)
    rw [show sumR [] = (0 : Rat) from rfl, Rat.zero_add] at h
    exact h
  rw [e] at z
  have h : Rat.divInt 1 2 < Rat.divInt 1 1 := (div_lt (by decide) (by decide)).mpr (by decide)
  rw [z, Rat.divInt_self' (by decide)] at h
  exact Rat.lt_irrefl h
theorem bad4 {ss : List Int} {N : Int} (h0 : 0 < N) : badLot (lotR ss N ++ [Rat.divInt (-1) N, Rat.divInt 1 N]) := .inl ⟨Rat.divInt (-1) N, by simp, by
  rw [← Rat.zero_divInt 1, div_lt h0 (by decide)]
  omega⟩
theorem cnt_end {ss cs : List Int} {N : Int} (h : ∀ x ∈ ss, 0 ≤ x) (hN : ss.sum = N) (h0 : 0 < N) (hl : cs.length = ss.length) (hc : ∀ j, j < ss.length → cs[j]? = some (cntAt ss N.toNat j)) : cs = ss := by
  apply List.ext_getElem?
  intro j
  by_cases hj : j < ss.length
  · rw [hc j hj, List.getElem?_eq_getElem hj]
    have ej := sum_take_mono h (List.getElem?_eq_getElem hj)
    have gj : ss.getD j 0 = ss[j] := by rw [List.getD_eq_getElem?_getD, List.getElem?_eq_getElem hj]; rfl
    have pj := h _ (List.getElem_mem hj)
    have t := take_le h (ss.length - (j + 1)) (j + 1)
    rw [show j + 1 + (ss.length - (j + 1)) = ss.length by omega, List.take_of_length_le (Nat.le_refl _), hN] at t
    unfold cntAt
    rw [gj]
    congr 1
    omega
  · rw [List.getElem?_eq_none (by omega), List.getElem?_eq_none (by omega)]
theorem cnt_step {ss : List Int} (h : ∀ x ∈ ss, 0 ≤ x) {i j0 : Nat} (hj0 : j0 < ss.length) (hgt : (i : Int) < (ss.take (j0 + 1)).sum) (hle : ∀ r, r < j0 → (ss.take (r + 1)).sum ≤ i) {j : Nat} (hj : j < ss.length) :
    cntAt ss (i + 1) j = if j = j0 then cntAt ss i j0 + 1 else cntAt ss i j := by
  have e0 := sum_take_mono h (List.getElem?_eq_getElem hj0)
  have ej := sum_take_mono h (List.getElem?_eq_getElem hj)
  have gj : ss.getD j 0 = ss[j] := by rw [List.getD_eq_getElem?_getD, List.getElem?_eq_getElem hj]; rfl
  have gj0 : ss.getD j0 0 = ss[j0] := by rw [List.getD_eq_getElem?_getD, List.getElem?_eq_getElem hj0]; rfl
  have pj := h _ (List.getElem_mem hj)
  have s0 : (ss.take j0).sum ≤ i := by
    cases j0 with
    | zero => simp
    | succ r => exact hle r (Nat.lt_succ_self _)
  have push : ((i + 1 : Nat) : Int) = (i : Int) + 1 := by omega
  unfold cntAt
  by_cases e : j = j0
  · subst e
    rw [if_pos rfl, gj0, push]
    omega
  · rw [if_neg e, gj, push]
    rcases Nat.lt_or_gt_of_ne e with z | z
    · have := hle j z
      omega
    · have t := take_le h (j - (j0 + 1)) (j0 + 1)
      rw [show j0 + 1 + (j - (j0 + 1)) = j by omega] at t
      omega
theorem lot_good {ss : List Int} {N : Int} (h : ∀ x ∈ ss, 0 ≤ x) (hN : ss.sum = N) (h0 : 0 < N) : ¬badLot (lotR ss N) := by
  rintro (⟨r, hr, hneg⟩ | hs)
  · obtain ⟨x, hx, rfl⟩ := List.mem_map.mp hr
    exact absurd hneg (Rat.not_lt.mpr (Rat.divInt_nonneg (h x hx) (by omega)))
  · rw [sum_lot, hN, Rat.divInt_self' (by omega)] at hs
    exact hs rfl
theorem lot_bd {ss : List Int} {N : Int} (h : ∀ x ∈ ss, 0 ≤ x ∧ x ≤ 8) (h0 : 0 < N) (h48 : N ≤ 48) : ∀ r ∈ lotR ss N, Bd 17 r := fun r hr => by
  obtain ⟨x, hx, rfl⟩ := List.mem_map.mp hr
  have := h x hx
  exact bd_divInt (by omega) (by omega) (by omega)
theorem lot_len {ss : List Int} {N : Int} : (lotR ss N).length = ss.length := by
  unfold lotR
  rw [List.length_map]
/-- the drawn outcome is the due one -/
theorem drawn_due {ss : List Int} {N : Int} (h0 : 0 < N) {i o j0 : Nat} {t : Rat} (hlo : Rat.divInt i N ≤ t) (hhi : t < Rat.divInt ((i : Int) + 1) N) (hlt : t < sumR ((lotR ss N).take (o + 1))) (hle : ∀ j, 0 < j → j ≤ o → sumR ((lotR ss N).take j) ≤ t)
    (hgt : (i : Int) < (ss.take (j0 + 1)).sum) (hle0 : ∀ r, r < j0 → (ss.take (r + 1)).sum ≤ i) : o = j0 := by
  rw [take_lot, sum_lot] at hlt
  have h1 : (i : Int) < (ss.take (o + 1)).sum := by
    have h := (div_lt h0 h0).mp (rlt1 hlo hlt)
    exact Int.lt_of_mul_lt_mul_right h (by omega)
  rcases Nat.lt_trichotomy o j0 with z | z | z
  · have := hle0 o z
    omega
  · exact z
  · have h2 := hle (j0 + 1) (by omega) (by omega)
    rw [take_lot, sum_lot] at h2
    have h3 := (div_lt h0 h0).mp (rlt1 h2 hhi)
    have h4 := Int.lt_of_mul_lt_mul_right h3 (by omega)
    omega
def sp_law (K : PySem.W.Frag) : Sp := fun vs H Q _ => ∃ (a : Addr) (ns : List Int), vs = [.ref a] ∧ SqL K H a (ns.map V.int) ∧ ns.length ≤ 63 ∧ (∀ z ∈ ns, Builtin.Int.intBits z ≤ 1048576) ∧ (∀ p ∈ ([("drawn", none)] : List He.Defn), GxR.TabG H (He.cT K p).2) ∧ ∀ H', Q (.bl true) H'
theorem ok_law {f : Addr} {fd : FuncData} (T : Tx K mg) (F : FunD K "law" "law" (defArgs s_law) (defBody s_law) (defScope s_law) [] [] f fd) (C__law_draws : Cal P w K mg base "_law_draws" 1 ["script"] [] (sp__law_draws K)) (C__law_make : Cal P w K mg base "_law_make" 1 ["p", "q"] [] (sp__law_make K)) (C__law_refusal : Cal P w K mg base "_law_refusal" 5 ["lot", "ticket"] [] (sp__law_refusal K)) (C__law_same : Cal P w K mg base "_law_same" 3 ["value", "due"] [] (sp__law_same K 3)) (C__law_take : Cal P w K mg base "_law_take" 1 ["draws", "bound"] [] (sp__law_take)) (C_drawn : Cal P w K mg base "drawn" 4 ["lot", "ticket"] [] (sp_drawn K)) : FnOk P w K mg base (L2.CX P w) 6 f fd ["script"] (sp_law K) := by
  refine F.ok sc_law (fun vs H Q E h => ?_) (fun cdv A outer st H vs Q E hr h => ?_)
  · obtain ⟨_, _, rfl, _⟩ := h
    rfl
  · obtain ⟨ad, cs, rfl, hS, hl, _, hT, q⟩ := h
    have hT := hT _ (List.mem_singleton.mpr rfl)
    refine ⟨_, PSs.nox (pss_cons (ps_set (i := 1) sc_law.nd rfl (Or.inr rfl) (pe_callC C__law_draws hr (by decide) (by rfl) (pa_cons (pv 0) pa_nil))) (pss_cons (ps_setLc (i := 3) (own := [("k", 2)]) (g := gName 2) (tt := tYes) rfl sc_law.nd rfl rfl (sw_true rfl rfl rfl rfl) (pi_range1 (by rfl) T.n_range (pa_cons (pe_op op_add pe_int (pe_callC C__law_take hr (by decide) (by rfl) (pa_cons (pv 1) (pa_cons pe_int pa_nil)))) pa_nil)) (blkOk_by (N := N_law) (sc := defScope s_law) (by decide +kernel)) (fun _ _ _ _ _ => (pg_name (i := 2) sc_law.nd rfl (by first | exact Or.inl rfl | exact Or.inr rfl))) (fun _ _ _ _ _ => pts_nil) (fun _ _ _ _ _ => (pe_op op_mulG (pe_callC C__law_take hr (by decide) (by rfl) (pa_cons (pv 1) (pa_cons pe_int pa_nil))) (pe_callC C__law_take hr (by decide) (by rfl) (pa_cons (pv 1) (pa_cons pe_int pa_nil)))))) (pss_cons (ps_asg (pe_op op_add pe_int (pe_callC C__law_take hr (by decide) (by rfl) (pa_cons (pv 1) (pa_cons pe_int pa_nil)))) (pg_sub (pv 3) (pe_callC C__law_take hr (by decide) (by rfl) (pa_cons (pv 1) (pa_cons (pe_callB cl_len (by rfl) T.n_len bb_len (pa_cons (pv 3) pa_nil)) pa_nil))) set_list)) (pss_cons (ps_set (i := 4) sc_law.nd rfl (Or.inr rfl) (pe_callB (cr_sum rfl) (by rfl) T.n_sum bb_sum (pa_cons (pv 3) pa_nil))) (pss_cons (ps_setLc (i := 5) (own := [("share", 15)]) (g := gName 15) (tt := tYes) rfl sc_law.nd rfl rfl (sw_true rfl rfl rfl rfl) (pi_list (pv 3)) (blkOk_by (N := N_law) (sc := defScope s_law) (by decide +kernel)) (fun _ _ _ _ _ => (pg_name (i := 15) sc_law.nd rfl (by first | exact Or.inl rfl | exact Or.inr rfl))) (fun _ _ _ _ _ => pts_nil) (fun _ _ _ _ _ => (pe_callC C__law_make hr (by decide) (by rfl) (pa_cons (pv 15) (pa_cons (pv 4) pa_nil))))) (pss_cons (ps_set (i := 6) sc_law.nd rfl (Or.inl rfl) (pe_callTy cl_list (by rfl) T.n_list bb_list (pa_cons (pv 5) pa_nil))) (pss_cons (ps_setLc (i := 7) (own := [("share", 15)]) (g := gName 15) (tt := tYes) rfl sc_law.nd rfl rfl (sw_true rfl rfl rfl rfl) (pi_list (pv 3)) (blkOk_by (N := N_law) (sc := defScope s_law) (by decide +kernel)) (fun _ _ _ _ _ => (pg_name (i := 15) sc_law.nd rfl (by first | exact Or.inl rfl | exact Or.inr rfl))) (fun _ _ _ _ _ => pts_nil) (fun _ _ _ _ _ => pe_int)) (pss_cons (ps_for PassesOwn.never rfl (pi_range1 (by rfl) T.n_range (pa_cons (pv 4) pa_nil)) (pg_name (i := 2) sc_law.nd rfl (Or.inl rfl)) (pss_cons (ps_set (i := 8) sc_law.nd rfl (Or.inl rfl) pe_non) (pss_cons (ps_set (i := 9) sc_law.nd rfl (Or.inl rfl) pe_int) (pss_cons (ps_for PassesOwn.never rfl (pi_range1 (by rfl) T.n_range (pa_cons (pe_callB cl_len (by rfl) T.n_len bb_len (pa_cons (pv 3) pa_nil)) pa_nil)) (pg_name (i := 10) sc_law.nd rfl (Or.inl rfl)) (pss_cons (ps_set (i := 9) sc_law.nd rfl (Or.inl rfl) (pe_op op_add (pv 9) (pe_ix ix_seq (pv 3) (pv 10) (fun _ _ => rfl)))) (pss_one (ps_if ((pw_and (pt_cmpR op_isNo (pv 8) pe_non (nomark _)) (pw_and1 (pt_cmpR op_gt (pv 9) (pv 2) (nomark _))))).pt (pss_one (ps_set (i := 8) sc_law.nd rfl (Or.inl rfl) (pv 10))) pss_nil)))) (pss_cons (ps_for PassesOwn.never rfl (pi_list (pe_lstN (pa_cons (pe_callC C__law_make hr (by decide) (by rfl) (pa_cons (pv 2) (pa_cons (pv 4) pa_nil))) (pa_cons (pe_callC C__law_make hr (by decide) (by rfl) (pa_cons (pe_op op_add (pe_op op_mulG pe_int (pv 2)) pe_int) (pa_cons (pe_op op_mulG pe_int (pv 4)) pa_nil))) (pa_cons (pe_callC C__law_make hr (by decide) (by rfl) (pa_cons (pe_op op_add (pe_op op_mulG pe_int (pv 2)) pe_int) (pa_cons (pe_op op_mulG pe_int (pv 4)) pa_nil))) pa_nil))))) (pg_name (i := 11) sc_law.nd rfl (Or.inl rfl)) (pss_one (ps_if (pt_not (pt_val (pe_callC C__law_same hr (by decide) (by rfl) (pa_cons (pe_callC C_drawn hr (by decide) (by rfl) (pa_cons (pv 6) (pa_cons (pv 11) pa_nil))) (pa_cons (pv 8) pa_nil))))) (pss_one (ps_ret pe_bl)) pss_nil))) (pss_one (ps_asg (pe_op op_add (pe_ix ix_seq (pv 7) (pv 8) (fun _ _ => rfl)) pe_int) (pg_sub (pv 7) (pv 8) set_list)))))))) (pss_cons (ps_if ((pw_or (pt_cmpR (op_neA hr.units) (pv 7) (pv 3) (nomark _)) (pw_or1 (pt_not (pt_val (pe_callC C__law_same hr (by decide) (by rfl) (pa_cons (pv 6) (pa_cons (pv 5) pa_nil)))))))).pt (pss_one (ps_ret pe_bl)) pss_nil) (pss_cons (ps_set (i := 12) sc_law.nd rfl (Or.inl rfl) (pe_lstN (pa_cons (pe_tupN (pa_cons (pe_un un_neg pe_int) (pa_cons pe_int pa_nil))) (pa_cons (pe_tupN (pa_cons pe_int (pa_cons pe_int pa_nil))) (pa_cons (pe_callC C__law_make hr (by decide) (by rfl) (pa_cons (pe_op op_add (pe_op op_add (pv 4) pe_int) (pe_callC C__law_take hr (by decide) (by rfl) (pa_cons (pv 1) (pa_cons pe_int pa_nil)))) (pa_cons (pv 4) pa_nil))) pa_nil))))) (pss_cons (ps_for PassesOwn.never rfl (pi_list (pv 12)) (pg_name (i := 11) sc_law.nd rfl (Or.inl rfl)) (pss_one (ps_if (pt_cmpR (op_neA hr.units) (pe_callC C__law_refusal hr (by decide) (by rfl) (pa_cons (pv 5) (pa_cons (pv 11) pa_nil))) pe_str (nomark _)) (pss_one (ps_ret pe_bl)) pss_nil))) (pss_cons (ps_set (i := 13) sc_law.nd rfl (Or.inl rfl) (pe_lstN (pa_cons (pe_lstN pa_nil) (pa_cons (pe_op op_cat (pv 5) (pe_lstN (pa_cons (pe_callC C__law_make hr (by decide) (by rfl) (pa_cons pe_int (pa_cons (pv 4) pa_nil))) pa_nil))) (pa_cons (pe_lstN (pa_cons (pe_tupN (pa_cons pe_int (pa_cons pe_int pa_nil))) (pa_cons (pe_tupN (pa_cons (pe_un un_neg pe_int) (pa_cons pe_int pa_nil))) pa_nil))) (pa_cons (pe_op op_cat (pv 5) (pe_lstN (pa_cons (pe_tupN (pa_cons (pe_un un_neg pe_int) (pa_cons (pv 4) pa_nil))) (pa_cons (pe_callC C__law_make hr (by decide) (by rfl) (pa_cons pe_int (pa_cons (pv 4) pa_nil))) pa_nil)))) (pa_cons (pe_lstN (pa_cons (pe_tupN (pa_cons pe_int (pa_cons pe_int pa_nil))) pa_nil)) pa_nil))))))) (pss_cons (ps_for PassesOwn.never rfl (pi_list (pv 13)) (pg_name (i := 14) sc_law.nd rfl (Or.inl rfl)) (pss_one (ps_if ((pw_or (pt_cmpR (op_neA hr.units) (pe_callC C__law_refusal hr (by decide) (by rfl) (pa_cons (pv 14) (pa_cons (pe_ix ix_seq (pv 12) (pe_callC C__law_take hr (by decide) (by rfl) (pa_cons (pv 1) (pa_cons pe_int pa_nil))) (fun _ _ => rfl)) pa_nil))) pe_str (nomark _)) (pw_or1 (pt_cmpR (op_neA hr.units) (pe_callC C__law_refusal hr (by decide) (by rfl) (pa_cons (pv 14) (pa_cons (pe_tupN (pa_cons pe_int (pa_cons pe_int pa_nil))) pa_nil))) pe_str (nomark _))))).pt (pss_one (ps_ret pe_bl)) pss_nil))) (pss_one (ps_ret (pe_cmpR (op_eqA hr.units) (pe_callC C__law_refusal hr (by decide) (by rfl) (pa_cons (pv 5) (pa_cons (pe_tupN (pa_cons pe_int (pa_cons pe_int pa_nil))) pa_nil))) pe_str (nomark _))))))))))))))))), ?_⟩
    walk_at "un"
    walk_at "go"
    refine ⟨ad, cs, rfl, hS, hl, fun H1 d s1 nd hI => ?_⟩
    have hT1 := UbG.TabG.mono s1 hT
    clear s1 hT hS hl nd
    walk_at "go"
    refine lcOf ?_
    walk_at "it"
    walk_at "un"
    walk_at "go"
    refine ⟨d, 6, rfl, hI, by decide, fun H2 z6 y2 z60 z66 => ?_⟩
    have hI2 := y2.il hI
    have hT2 := y2.tab _ hT1
    walk_at "go"
    refine ⟨by omega, by omega, fun D nD => ?_⟩
    have hdD : D ≠ d := fun z => by
      obtain ⟨ns, e⟩ := hI2
      rw [← z, nD] at e
      cases e
    have nt : ∀ (xs : List V) (ps : Array Value), HO.lst xs ≠ .tbl ps := fun _ _ z => by cases z
    refine LC.range (n := (1 + z6).toNat) (fun i H' => SameY d H2 H' ∧ ∃ ms : List Int, H' D = some (.lst (ms.map V.int)) ∧ ms.length = i ∧ ∀ x ∈ ms, 0 ≤ x ∧ x ≤ 8) ⟨sameTY (UbG.sameT (sameNew nD)), [], upd_same, rfl, fun x h => absurd h (by simp)⟩ ?_ ?_
    · rintro i H3 hi ⟨y3, ms, hms, hlm, hb⟩
      dsimp only [wipe, tYes]
      walk_at "un"
      refine ⟨rfl, iteT ?_⟩
      walk_at "go"
      refine ⟨d, 5, rfl, y3.il hI2, by decide, fun H4 x y4 x0 x5 => ?_⟩
      walk_at "go"
      refine ⟨d, 3, rfl, (y3.trans y4).il hI2, by decide, fun H5 y y5 y0 y3' => ?_⟩
      refine rdMul (mulW (a := 4) (b := 4) (by omega) (by omega) (by decide)) ?_
      have hms5 : H5 D = some (.lst (ms.map V.int)) := y5.but _ _ hdD (y4.but _ _ hdD hms (nt _)) (nt _)
      refine ⟨_, hms5, by rw [List.length_map]; exact small1000' (by omega), (((y3.trans y4).trans y5).late nD hI2), ms ++ [x * y], by rw [upd_same, List.map_append]; rfl, by rw [List.length_append, hlm]; rfl, fun z hz => ?_⟩
      rcases List.mem_append.mp hz with hz | hz
      · exact hb z hz
      · rw [List.mem_singleton.mp hz]
        have h1 := Int.mul_nonneg x0 y0
        have h2 : x * y ≤ 4 * 2 := Int.mul_le_mul (by omega) (by omega) y0 (by decide)
        omega
    · rintro H3 ⟨y3, ms, hms, hlm, hb⟩
      walk_at "go"
      refine ⟨d, 4, rfl, y3.il hI2, by decide, fun H4 x4 y4 x40 x44 => ?_⟩
      have hms4 := y4.but _ _ hdD hms (nt _)
      walk_at "go"
      rw [List.length_map]
      refine ⟨d, _, rfl, (y3.trans y4).il hI2, by omega, fun H5 x5 y5 x50 x55 => ?_⟩
      have hms5 := y5.but _ _ hdD hms4 (nt _)
      refine rdSetL (j := x5.toNat) hms5 (by rw [show x5 = ((x5.toNat : Nat) : Int) by omega]; exact ixN_nat' (by rw [List.length_map]; omega)) ?_
      obtain ⟨hb2, hs0, hs48⟩ := shares_set (j := x5.toNat) (v := 1 + x4) (by omega) hb (by omega) (by omega) (by omega)
      have hle : (ms.set x5.toNat (1 + x4)).length = ms.length := List.length_set ..
      have hle6 : ms.length ≤ 6 := by omega
      have hle1 : 0 < ms.length := by omega
      have eset : (ms.map V.int).set x5.toNat (.int (1 + x4)) = (ms.set x5.toNat (1 + x4)).map V.int := (List.map_set ..).symm
      rw [eset]
      have y6 : SameY d H2 (upd H5 D (.lst ((ms.set x5.toNat (1 + x4)).map V.int))) := ((y3.trans y4).trans y5).late nD hI2
      have hI6 := y6.il hI2
      have hT6 := y6.tab _ hT2
      have hD6 : (upd H5 D (.lst ((ms.set x5.toNat (1 + x4)).map V.int))) D = _ := upd_same
      rw [← hle] at hle6 hle1
      generalize upd H5 D (.lst ((ms.set x5.toNat (1 + x4)).map V.int)) = H6 at hI6 hT6 hD6 ⊢
      generalize ms.set x5.toNat (1 + x4) = ss at hb2 hs0 hs48 hle6 hle1 hD6 ⊢
      clear eset hle y6 hms5 y5 hms4 y4 hms y3 hb hlm hI2 hT2 y2 hI hT1 nD
      walk_at "go"
      refine ⟨D, ss, rfl, .inl (.inl hD6), ?_⟩
      generalize hN : ss.sum = N at hs0 hs48 ⊢
      refine lcOf ?_
      walk_at "it"
      walk_at "un"
      walk_at "go"
      refine ⟨⟨_, .inl (.inl hD6)⟩, fun L nL => ?_⟩
      have hLd : L ≠ d := fun z => by
        obtain ⟨ns, e⟩ := hI6
        rw [← z, nL] at e
        cases e
      refine LC.list (xs := ss.map V.int) (fun i H' => Same H6 H' ∧ ∃ acc, H' L = some (.lst acc) ∧ DpAll K H' acc ((lotR (ss.take i) N).map frD) ∧ acc.length = i) ⟨sameNew nL, [], upd_same, .nil, rfl⟩ (fun i H' _ p => .inl (.inl (p.1 _ _ hD6))) ?_ ?_
      · rintro i x H7 hi ⟨s7, acc, hacc, hA, hla⟩
        obtain ⟨sv, hsv, hx⟩ : ∃ sv, ss[i]? = some sv ∧ x = .int sv := by
          rw [List.getElem?_map] at hi
          cases e : ss[i]? with
          | none => rw [e] at hi; cases hi
          | some sv => rw [e] at hi; cases hi; exact ⟨sv, rfl, rfl⟩
        subst hx
        have hi6 : i < ss.length := (List.getElem?_eq_some_iff.mp hsv).1
        dsimp only [wipe, tYes]
        walk_at "un"
        refine ⟨rfl, iteT ?_⟩
        walk_at "go"
        refine ⟨sv, N, 9, rfl, by omega, by decide, hs0, fun H8 v s8 hv => ?_⟩
        refine ⟨acc, s8 _ _ hacc, small1000' (by omega), sameLate (fun b o h => s8 b o (s7 b o h)) nL, acc ++ [v], upd_same, ?_, by simp [hla]⟩
        have e : lotR (ss.take (i + 1)) N = lotR (ss.take i) N ++ [Rat.divInt sv N] := by
          unfold lotR
          rw [List.take_add_one, hsv, List.map_append]
          rfl
        rw [e]
        exact dpPush (s8 _ _ hacc) (Dp.monoAll s8 _ _ hA) hv
      · rintro H7 ⟨s7, acc, hacc, hA, hla⟩
        rw [List.length_map] at hla
        rw [List.length_map, List.take_of_length_le (Nat.le_refl _)] at hA
        have hD7 := s7 _ _ hD6
        walk_at "go"
        refine rdListL (.inl (.inl hacc)) fun c nc => ?_
        have s8 : Same H7 (upd H7 c (.lst acc)) := sameNew nc
        have hc8 : (upd H7 c (.lst acc)) c = some (.lst acc) := upd_same
        have hL8 := s8 _ _ hacc
        have hA8 := Dp.monoAll s8 _ _ hA
        have hD8 := s8 _ _ hD7
        have hI8 : IntsL (upd H7 c (.lst acc)) d := (sameTY (UbG.sameT (fun b o h => s8 b o (s7 b o h)))).il hI6
        have hT8 := UbG.TabG.mono s8 (UbG.TabG.mono s7 hT6)
        generalize upd H7 c (.lst acc) = H8 at hc8 hL8 hA8 hD8 hI8 hT8 ⊢
        clear s8 nc hD7 hA hacc s7 hD6 nL hT6 hI6
        refine lcOf ?_
        walk_at "it"
        walk_at "un"
        walk_at "go"
        refine ⟨⟨_, .inl (.inl hD8)⟩, fun C nC => ?_⟩
        refine LC.list (xs := ss.map V.int) (fun i H' => Same H8 H' ∧ H' C = some (.lst ((List.replicate i (0 : Int)).map V.int))) ⟨sameNew nC, upd_same⟩ (fun i H' _ p => .inl (.inl (p.1 _ _ hD8))) ?_ ?_
        · rintro i x H9 hi ⟨s9, hC⟩
          have hi6 : i < ss.length := by
            have := (List.getElem?_eq_some_iff.mp hi).1
            rw [List.length_map] at this
            exact this
          dsimp only [wipe, tYes]
          walk_at "un"
          refine ⟨rfl, iteT ?_⟩
          refine ⟨_, hC, small1000' (by rw [List.length_map, List.length_replicate]; omega), sameLate s9 nC, ?_⟩
          have e : (List.replicate (i + 1) (0 : Int)).map V.int = (List.replicate i (0 : Int)).map V.int ++ [V.int 0] := by
            rw [List.replicate_succ', List.map_append]
            rfl
          exact upd_same.trans (congrArg (fun l => some (HO.lst l)) e.symm)
        · rintro H9 ⟨s9, hC9⟩
          rw [List.length_map] at hC9
          walk_at "go"
          refine forOf ?_
          walk_at "it"
          walk_at "un"
          walk_at "go"
          refine ⟨by omega, by omega, ?_⟩
          have hCd : d ≠ C := fun z => by
            obtain ⟨ns, e⟩ := hI8
            rw [z, nC] at e
            cases e
          have hCD : D ≠ C := fun z => by
            rw [z, nC] at hD8
            cases hD8
          have hCL : L ≠ C := fun z => by
            rw [z, nC] at hL8
            cases hL8
          have hCc : c ≠ C := fun z => by
            rw [z, nC] at hc8
            cases hc8
          have fx : Fx K ss (lotR ss N) d D L c C H9 (List.replicate ss.length 0) :=
            ⟨(sameTY (UbG.sameT s9)).il hI8, UbG.TabG.mono s9 hT8, s9 _ _ hD8, ⟨_, s9 _ _ hL8, hCL, Dp.monoAll s9 _ _ hA8⟩, ⟨_, s9 _ _ hc8, hCc, Dp.monoAll s9 _ _ hA8⟩, hC9⟩
          clear s9 hC9 hI8 hT8 hD8 hL8 hc8 hA8 nC hla
          refine FL.range (n := N.toNat) (fun i σ' H' => ∃ o2 o8 o9 o10 o11, σ' = [some (.ref ad), some (.ref d), o2, some (.ref D), some (.int N), some (.ref L), some (.ref c), some (.ref C), o8, o9, o10, o11, none, none, none, none] ∧
            ∃ cs, Fx K ss (lotR ss N) d D L c C H' cs ∧ cs.length = ss.length ∧ ∀ j, j < ss.length → cs[j]? = some (cntAt ss i j)) ⟨_, _, _, _, _, rfl, _, fx, List.length_replicate, fun j hj => ?_⟩ ?_ ?_
          · rw [List.getElem?_replicate, if_pos hj]
            have := take_le (fun x hx => (hb2 x hx).1) j 0
            simp only [List.take_zero, List.sum_nil, Nat.zero_add] at this
            unfold cntAt
            congr 1
            omega
          · rintro i σ' H10 hi ⟨o2, o8, o9, o10, o11, rfl, cs', fx, hcl, hct⟩
            walk_at "un"
            walk_at "go"
            refine forOf ?_
            walk_at "it"
            walk_at "un"
            walk_at "go"
            refine rdLenL (.inl (.inl fx.sh)) ?_
            rw [List.length_map]
            refine ⟨_, rfl, by omega, by omega, ?_⟩
            rw [Int.toNat_natCast]
            have kk : (0 : Int) + (i : Int) = (i : Int) := by omega
            refine FL.range (n := ss.length) (fun j σ' H' => ∃ (o : Option Nat) (o10 : Option V), σ' = [some (.ref ad), some (.ref d), some (.int ((0 : Int) + (i : Int))), some (.ref D), some (.int N), some (.ref L), some (.ref c), some (.ref C), some (optV o), some (.int (ss.take j).sum), o10, o11, none, none, none, none] ∧ H' = H10 ∧ DueAt ss i j o)
              ⟨none, o10, rfl, rfl, .inl ⟨rfl, fun m hm => absurd hm (Nat.not_lt_zero _)⟩⟩ ?_ ?_
            · rintro j σ' H' hj ⟨o, o10', rfl, rfl, hdue⟩
              walk_at "un"
              walk_at "go"
              refine rdIxL (.inl (.inl fx.sh)) (at_of (j := j) (by omega) (by rw [List.getElem?_map, List.getElem?_eq_getElem hj]; rfl)) ?_
              walk_at "go"
              rw [← sum_take_mono (fun x hx => (hb2 x hx).1) (List.getElem?_eq_getElem hj)]
              rcases hdue with ⟨rfl, hnone⟩ | ⟨m, rfl, hm1, hm2, hm3⟩
              · have h0 : Dp K H' (optV none) .none := .non
                walk_at "gv"
                split <;> rename_i cc
                · walk_at "go"
                  exact ⟨some j, some (.int (0 + (j : Int))), by rw [show (0 : Int) + (j : Int) = (j : Int) by omega]; rfl, .inr ⟨j, rfl, Nat.lt_succ_self _, by omega, hnone⟩⟩
                · exact ⟨none, _, rfl, .inl ⟨rfl, fun m hm => by
                    by_cases z : m = j
                    · rw [z]
                      omega
                    · exact hnone m (by omega)⟩⟩
              · have h0 : Dp K H' (optV (some m)) (.int (m : Int)) := .int _
                walk_at "gv"
                exact ⟨some m, _, rfl, .inr ⟨m, rfl, by omega, hm2, hm3⟩⟩
            · rintro σ' H' ⟨o, o10', rfl, rfl, hdue⟩
              obtain ⟨j0, rfl, hj0, hgt, hle0⟩ : ∃ m, o = some m ∧ m < ss.length ∧ (i : Int) < (ss.take (m + 1)).sum ∧ ∀ r, r < m → (ss.take (r + 1)).sum ≤ i := by
                rcases hdue with ⟨_, hn⟩ | ⟨m, e, h1, h2, h3⟩
                · have := hn (ss.length - 1) (by omega)
                  rw [Nat.sub_add_cancel hle1, List.take_of_length_le (Nat.le_refl _), hN] at this
                  omega
                · exact ⟨m, e, h1, h2, h3⟩
              clear hdue
              walk_at "un"
              walk_at "go"
              refine forOf ?_
              walk_at "it"
              walk_at "un"
              walk_at "go"
              refine ⟨_, N, 17, rfl, by omega, by decide, hs0, fun H11 v1 s11 hv1 => ?_⟩
              walk_at "go"
              refine ⟨_, _, 17, rfl, by omega, by decide, by omega, fun H12 v2 s12 hv2 => ?_⟩
              walk_at "go"
              refine ⟨_, _, 17, rfl, by omega, by decide, by omega, fun H13 v3 s13 hv3 => ?_⟩
              refine rdLstH line3 fun H14 Tl s14 nTl hTl => ?_
              refine ⟨Tl, rfl, ⟨_, .inl (.inl hTl)⟩, ?_⟩
              have hv3 := hv3.mono s14
              have hv2 := (hv2.mono s13).mono s14
              have hv1 := ((hv1.mono s12).mono s13).mono s14
              have s014 : Same H' H14 := fun b o h => s14 b o (s13 b o (s12 b o (s11 b o h)))
              have fx14 := fx.mono (UbG.sameT s014)
              have good := lot_good (fun x hx => (hb2 x hx).1) hN hs0
              have tk : ∀ (m : Nat) (x : V), [v1, v2, v3][m]? = some x → ∃ t, Fr K H14 x t ∧ Rat.divInt i N ≤ t ∧ t < Rat.divInt ((i : Int) + 1) N ∧ Bd 17 t := fun m x hm => by
                have p2 : 0 < 2 * N := by omega
                have p3 : 0 < 1000 * N := by omega
                match m, hm with
                | 0, hm =>
                  cases hm
                  refine ⟨_, hv1, ?_, ?_, bd_divInt (by omega) (by omega) (by omega)⟩
                  · rw [kk]; exact Rat.le_refl
                  · rw [kk, div_lt hs0 hs0]
                    exact Int.mul_lt_mul_of_pos_right (by omega) hs0
                | 1, hm =>
                  cases hm
                  refine ⟨_, hv2, ?_, ?_, bd_divInt (by omega) (by omega) (by omega)⟩
                  · rw [kk, div_le hs0 p2, show (i : Int) * (2 * N) = (2 * i) * N by rw [Int.mul_left_comm, Int.mul_assoc]]
                    exact Int.mul_le_mul_of_nonneg_right (by omega) (by omega)
                  · rw [kk, div_lt p2 hs0, show ((i : Int) + 1) * (2 * N) = (2 * ((i : Int) + 1)) * N by rw [Int.mul_left_comm, Int.mul_assoc]]
                    exact Int.mul_lt_mul_of_pos_right (by omega) hs0
                | 2, hm =>
                  cases hm
                  refine ⟨_, hv3, ?_, ?_, bd_divInt (by omega) (by omega) (by omega)⟩
                  · rw [kk, div_le hs0 p3, show (i : Int) * (1000 * N) = (1000 * i) * N by rw [Int.mul_left_comm, Int.mul_assoc]]
                    exact Int.mul_le_mul_of_nonneg_right (by omega) (by omega)
                  · rw [kk, div_lt p3 hs0, show ((i : Int) + 1) * (1000 * N) = (1000 * ((i : Int) + 1)) * N by rw [Int.mul_left_comm, Int.mul_assoc]]
                    exact Int.mul_lt_mul_of_pos_right (by omega) hs0
                | m + 3, hm => simp at hm
              refine FL.list (xs := [v1, v2, v3]) (fun m σ' H15 => ∃ o11', σ' = [some (.ref ad), some (.ref d), some (.int ((0 : Int) + (i : Int))), some (.ref D), some (.int N), some (.ref L), some (.ref c), some (.ref C), some (optV (some j0)), some (.int (ss.take ss.length).sum), o10', o11', none, none, none, none] ∧ UbG.SameT H14 H15)
                ⟨_, rfl, UbG.SameT.refl _⟩ (fun m σ' H15 _ ⟨_, _, e⟩ => e.seq (.inl (.inl hTl))) ?_ ?_
              · rintro m x σ' H15 hm ⟨o11', rfl, s15⟩
                obtain ⟨t, ht, hlo, hhi, hbt⟩ := tk m x hm
                have fx15 := fx14.mono s15
                walk_at "un"
                walk_at "go"
                refine ⟨.ref c, x, lotR ss N, t, 17, rfl, fx15.pa.frs, UbG.Fr.monoT s15 ht, lot_bd hb2 hs0 hs48, hbt, by rw [lot_len]; omega, fx15.t, fun z => absurd z good, fun _ z => ?_, fun _ h0 h1 H16 o s16 ho hlt hle => ?_⟩
                · refine absurd z ?_
                  rintro (z | z)
                  · exact absurd z (Rat.not_lt.mpr (Rat.le_trans (Rat.divInt_nonneg (by omega) (by omega)) hlo))
                  · refine absurd (rlt1 z hhi) (Rat.not_lt.mpr ?_)
                    rw [← Rat.divInt_self' (n := N) (by omega), div_le hs0 hs0]
                    exact Int.mul_le_mul_of_nonneg_right (by omega) (by omega)
                · have e := drawn_due hs0 hlo hhi hlt hle hgt hle0
                  subst e
                  walk_at "go"
                  refine ⟨_, _, .int (o : Int), rfl, .int _, .int _, (by decide : (0 : Nat) < 3), rfl, ?_⟩
                  walk_at "gv"
                  exact s15.trans s16
              · rintro σ' H15 ⟨o11', rfl, s15⟩
                have fx15 := fx14.mono s15
                clear hv1 hv2 hv3 tk hTl
                walk_at "un"
                walk_at "go"
                have ej := hct j0 hj0
                refine rdIxL (.inl (.inl fx15.ct)) (at_of (j := j0) rfl (by rw [List.getElem?_map, ej]; rfl)) ?_
                walk_at "go"
                refine rdSetL (j := j0) fx15.ct (ixN_nat' (by rw [List.length_map, hcl]; exact hj0)) ?_
                rw [show (cs'.map V.int).set j0 (.int (cntAt ss i j0 + 1)) = (cs'.set j0 (cntAt ss i j0 + 1)).map V.int from (List.map_set ..).symm]
                refine ⟨_, _, _, _, _, rfl, _, fx15.set hCd hCD, by rw [List.length_set]; exact hcl, fun j hj => ?_⟩
                rw [cnt_step (fun x hx => (hb2 x hx).1) hj0 hgt hle0 hj, List.getElem?_set]
                by_cases e : j0 = j
                · subst e
                  rw [if_pos rfl, if_pos rfl, if_pos (by omega)]
                · rw [if_neg e, if_neg (fun z => e z.symm)]
                  exact hct j hj
          · rintro σ' H10 ⟨o2, o8, o9, o10, o11, rfl, cs', fx, hcl, hct⟩
            have e := cnt_end (fun x hx => (hb2 x hx).1) hN hs0 hcl hct
            subst e
            clear hct hcl
            have hfr : DpAll K H10 (cs'.map V.int) (cs'.map PyData.int) := dp_ints cs'
            walk_at "un"
            walk_at "go"
            refine .inr ⟨_, _, .lst (.inl (.inl fx.ct)) hfr, .lst (.inl (.inl fx.sh)) hfr, shaped_ints _, shaped_ints _, ?_⟩
            rw [PySem.SeqAt.eqv_refl _ (show PyData.canLay0 (.list (cs'.map PyData.int)) = true from canLay_ints cs')]
            walk_at "gv"
            refine ⟨.ref c, .ref L, .list ((lotR cs' N).map frD), rfl, fx.pa.frs, fx.lo.frs, ?_, ?_, ?_⟩
            · have := depth_frs (lotR cs' N)
              show PyData.depthAll _ + 1 < 3
              omega
            · show (decide (((lotR cs' N).map frD).length ≤ 1000) && okD.okDs _) = true
              rw [okD_frs, decide_eq_true (by rw [List.length_map, lot_len]; omega)]
              rfl
            walk_at "gv"
            rename_i H11 w1 s11 h1 H12 w2 s12 h2
            have h1 : Fr K H11 w1 (Rat.divInt (-1) 2) := h1
            have h2 : Fr K H12 w2 (Rat.divInt 1 1) := h2
            have y12 : SameY d H10 H12 := sameTY ((UbG.sameT s11).trans (UbG.sameT s12))
            refine ⟨d, 9, rfl, y12.il fx.i, by decide, fun H13 x9 y13 x90 x99 => ?_⟩
            walk_at "go"
            refine ⟨_, N, 17, rfl, by omega, by decide, hs0, fun H14 w3 s14 h3 => ?_⟩
            refine rdLstH line3 fun H15 Wl s15 nW hW => ?_
            have y15 : SameY d H13 H15 := sameTY ((UbG.sameT s14).trans (UbG.sameT s15))
            have lo0 : Own K H10 d L (lotR cs' N) := by
              obtain ⟨xs, e1, _, e3⟩ := fx.lo.ex
              exact ⟨xs, e1, hLd, e3⟩
            have yy := (y12.trans y13).trans y15
            have i12 := y12.il fx.i
            have i15 := yy.il fx.i
            have t15 := yy.tab _ fx.t
            have lo15 := ownY lo0 yy fx.i
            have w1' : Fr K H15 w1 _ := frY (h1.mono s12) (y13.trans y15) i12
            have w2' : Fr K H15 w2 _ := frY h2 (y13.trans y15) i12
            have w3' : Fr K H15 w3 _ := h3.mono s15
            have hWd : Wl ≠ d := fun z => by
              obtain ⟨ns, e⟩ := (sameTY (UbG.sameT s14)).il (y13.il i12)
              rw [← z, nW] at e
              cases e
            have good := lot_good (fun x hx => (hb2 x hx).1) hN hs0
            have tkW : ∀ (m : Nat) (x : V), [w1, w2, w3][m]? = some x → ∃ t, Fr K H15 x t ∧ (t < 0 ∨ 1 ≤ t) ∧ Bd 17 t := fun m x hm => by
              match m, hm with
              | 0, hm =>
                cases hm
                exact ⟨_, w1', .inl (by decide), bd_divInt (by decide) (by decide) (by decide)⟩
              | 1, hm =>
                cases hm
                exact ⟨_, w2', .inr (by decide), bd_divInt (by decide) (by decide) (by decide)⟩
              | 2, hm =>
                cases hm
                refine ⟨_, w3', .inr ?_, bd_divInt (by omega) (by omega) (by omega)⟩
                rw [← Rat.divInt_self' (n := N) (by omega), div_le hs0 hs0]
                exact Int.mul_le_mul_of_nonneg_right (by omega) (by omega)
              | m + 3, hm => simp at hm
            clear w1' w2' w3' h1 h2 h3 lo0 yy i12 y12 y13 y15 s11 s12 s14 s15 nW fx
            refine forOf ?_
            walk_at "it"
            walk_at "un"
            walk_at "go"
            refine ⟨⟨_, .inl (.inl hW)⟩, ?_⟩
            refine FL.list (xs := [w1, w2, w3]) (fun m σ' H' => ∃ o11', σ' = [some (.ref ad), some (.ref d), o2, some (.ref D), some (.int N), some (.ref L), some (.ref c), some (.ref C), o8, o9, o10, o11', some (.ref Wl), none, none, none] ∧ UbG.SameT H15 H')
              ⟨_, rfl, UbG.SameT.refl _⟩ (fun m σ' H' _ ⟨_, _, e⟩ => e.seq (.inl (.inl hW))) ?_ ?_
            · rintro m x σ' H16 hm ⟨o11', rfl, s16⟩
              obtain ⟨t, ht, hbad, hbt⟩ := tkW m x hm
              walk_at "un"
              walk_at "go"
              refine ⟨.ref L, x, lotR cs' N, t, 17, rfl, UbG.Frs.monoT s16 lo15.frs, UbG.Fr.monoT s16 ht, lot_bd hb2 hs0 hs48, hbt, by rw [lot_len]; omega, s16.tab _ t15, fun z => absurd z good, fun _ _ H17 s17 => ?_, fun _ h0 h1 => absurd hbad ?_⟩
              · walk_at "gv"
                exact s16.trans s17
              · rintro (z | z)
                · exact absurd z (Rat.not_lt.mpr h0)
                · exact absurd h1 (Rat.not_lt.mpr z)
            · rintro σ' H16 ⟨o11', rfl, s16⟩
              have i16 := (sameTY s16).il i15
              have t16 := s16.tab _ t15
              have lo16 := ownY lo15 (sameTY s16) i15
              have hW16 := s16.but _ _ hW (nt _)
              have tkW : ∀ (m : Nat) (x : V), [w1, w2, w3][m]? = some x → ∃ t, Fr K H16 x t ∧ (t < 0 ∨ 1 ≤ t) ∧ Bd 17 t := fun m x hm => by
                obtain ⟨t, h1, h2⟩ := tkW m x hm
                exact ⟨t, UbG.Fr.monoT s16 h1, h2⟩
              clear i15 t15 lo15 hW s16
              walk_at "un"
              walk_at "go"
              refine rdLstOwn (K := K) (rs := []) i16 .nil (Nat.zero_le _) fun H17 r1 s17 o1 => ?_
              have i17 := (sameTY (UbG.sameT s17)).il i16
              walk_at "go"
              refine ⟨_, N, 17, rfl, by omega, by decide, hs0, fun H18 v1 s18 f1 => ?_⟩
              have i18 := (sameTY (UbG.sameT s18)).il i17
              refine rdLstOwn (K := K) (rs := [Rat.divInt 1 N]) i18 (.cons f1 .nil) line1 fun H19 b1 s19 ob1 => ?_
              have i19 := (sameTY (UbG.sameT s19)).il i18
              refine rdCatOwn i19 (((lo16.mono s17).mono s18).mono s19) ob1 (by rw [lot_len]; show _ + 1 ≤ _; omega) fun H20 r2 s20 o2' => ?_
              have i20 := (sameTY (UbG.sameT s20)).il i19
              walk_at "go"
              rename_i H21 a3 s21 h3 H22 a4 s22 h4
              have i22 := (sameTY (UbG.sameT (s21.trans s22))).il i20
              have h3 : Fr K H22 a3 (Rat.divInt 3 2) := Dp.mono s22 _ _ h3
              have h4 : Fr K H22 a4 (Rat.divInt (-1) 2) := h4
              refine rdLstOwn (K := K) (rs := [Rat.divInt 3 2, Rat.divInt (-1) 2]) i22 (.cons h3 (.cons h4 .nil)) line2 fun H23 r3 s23 o3 => ?_
              have i23 := (sameTY (UbG.sameT s23)).il i22
              walk_at "go"
              rename_i H24 a5 s24 h5
              have h5 := fr_neg1 hs0 h5
              refine ⟨_, N, 17, rfl, by omega, by decide, hs0, fun H25 v2 s25 f2 => ?_⟩
              have i25 := (sameTY (UbG.sameT (s24.trans s25))).il i23
              refine rdLstOwn (K := K) (rs := [Rat.divInt (-1) N, Rat.divInt 1 N]) i25 (.cons (h5.mono s25) (.cons f2 .nil)) line2 fun H26 b2 s26 ob2 => ?_
              have i26 := (sameTY (UbG.sameT s26)).il i25
              have s1626 : Same H16 H26 := ((((((((s17.trans s18).trans s19).trans s20).trans s21).trans s22).trans s23).trans s24).trans s25).trans s26
              refine rdCatOwn i26 (lo16.mono s1626) ob2 (by rw [lot_len]; show _ + 2 ≤ _; omega) fun H27 r4 s27 o4 => ?_
              have i27 := (sameTY (UbG.sameT s27)).il i26
              walk_at "go"
              rename_i H28 a6 s28 h6
              have i28 := (sameTY (UbG.sameT s28)).il i27
              have h6 : Fr K H28 a6 (Rat.divInt 1 2) := h6
              refine rdLstOwn (K := K) (rs := [Rat.divInt 1 2]) i28 (.cons h6 .nil) line1 fun H29 r5 s29 o5 => ?_
              refine rdLstH (Nat.le_of_ble_eq_true rfl) fun H30 B s30 nB hB => ?_
              have yR : SameY d H16 H30 := sameTY (UbG.sameT ((((s1626.trans s27).trans s28).trans s29).trans s30))
              have i30 := yR.il i16
              have t30 := yR.tab _ t16
              have lo30 := ownY lo16 yR i16
              have hW30 := yR.but _ _ hWd hW16 (nt _)
              have hBd : B ≠ d := fun z => by
                obtain ⟨ns, e⟩ := (sameTY (UbG.sameT (s28.trans s29))).il i27
                rw [← z, nB] at e
                cases e
              have tkW : ∀ (m : Nat) (x : V), [w1, w2, w3][m]? = some x → ∃ t, Fr K H30 x t ∧ Bd 17 t := fun m x hm => by
                obtain ⟨t, h1, _, h2⟩ := tkW m x hm
                exact ⟨t, frY h1 yR i16, h2⟩
              have b1N : Bd 17 (Rat.divInt 1 N) := bd_divInt (by omega) (by omega) (by omega)
              have bN1 : Bd 17 (Rat.divInt (-1) N) := bd_divInt (by omega) (by omega) (by omega)
              have bls := lot_bd hb2 hs0 hs48
              have ll : (lotR cs' N).length ≤ 6 := by rw [lot_len]; exact hle6
              have rows : ∀ (m : Nat) (x : V), [V.ref r1, .ref r2, .ref r3, .ref r4, .ref r5][m]? = some x → ∃ a rs, x = .ref a ∧ Own K H30 d a rs ∧ badLot rs ∧ (∀ r ∈ rs, Bd 17 r) ∧ rs.length ≤ 8 := fun m x hm => by
                match m, hm with
                | 0, hm =>
                  cases hm
                  exact ⟨_, _, rfl, (((((((((((((o1.mono s18).mono s19).mono s20).mono s21).mono s22).mono s23).mono s24).mono s25).mono s26).mono s27).mono s28).mono s29).mono s30), .inr (by decide), fun r h => absurd h (by simp), Nat.zero_le _⟩
                | 1, hm =>
                  cases hm
                  refine ⟨_, _, rfl, ((((((((((o2'.mono s21).mono s22).mono s23).mono s24).mono s25).mono s26).mono s27).mono s28).mono s29).mono s30), bad2 hN hs0, fun r h => ?_, by rw [List.length_append]; show _ + 1 ≤ _; omega⟩
                  rcases List.mem_append.mp h with h | h
                  · exact bls r h
                  · rw [List.mem_singleton.mp h]
                    exact b1N
                | 2, hm =>
                  cases hm
                  refine ⟨_, _, rfl, (((((((o3.mono s24).mono s25).mono s26).mono s27).mono s28).mono s29).mono s30), .inl ⟨_, List.mem_cons_of_mem _ (List.mem_cons_self ..), by decide⟩, fun r h => ?_, by show 2 ≤ 8; decide⟩
                  rcases List.mem_cons.mp h with h | h
                  · rw [h]
                    exact bd_divInt (by decide) (by decide) (by decide)
                  · rw [List.mem_singleton.mp h]
                    exact bd_divInt (by decide) (by decide) (by decide)
                | 3, hm =>
                  cases hm
                  refine ⟨_, _, rfl, (((o4.mono s28).mono s29).mono s30), bad4 hs0, fun r h => ?_, by rw [List.length_append]; show _ + 2 ≤ _; omega⟩
                  rcases List.mem_append.mp h with h | h
                  · exact bls r h
                  · rcases List.mem_cons.mp h with h | h
                    · rw [h]
                      exact bN1
                    · rw [List.mem_singleton.mp h]
                      exact b1N
                | 4, hm =>
                  cases hm
                  refine ⟨_, _, rfl, o5.mono s30, bad5, fun r h => ?_, by show 1 ≤ 8; decide⟩
                  rw [List.mem_singleton.mp h]
                  exact bd_divInt (by decide) (by decide) (by decide)
                | m + 5, hm => simp at hm
              clear o1 o2' o3 o4 o5 h3 h4 h5 h6 f1 f2 ob1 ob2 s17 s18 s19 s20 s21 s22 s23 s24 s25 s26 s27 s28 s29 s30 i17 i18 i19 i20 i22 i23 i25 i26 i27 i28 yR lo16 hW16 s1626 i16 t16 b1N bN1 bls
              refine forOf ?_
              walk_at "it"
              walk_at "un"
              walk_at "go"
              refine ⟨⟨_, .inl (.inl hB)⟩, ?_⟩
              refine FL.list (xs := [.ref r1, .ref r2, .ref r3, .ref r4, .ref r5]) (fun m σ' H' => ∃ o14, σ' = [some (.ref ad), some (.ref d), o2, some (.ref D), some (.int N), some (.ref L), some (.ref c), some (.ref C), o8, o9, o10, o11', some (.ref Wl), some (.ref B), o14, none] ∧ SameY d H30 H')
                ⟨_, rfl, SameY.refl _⟩ (fun m σ' H' _ ⟨_, _, e⟩ => .inl (.inl (e.but _ _ hBd hB (nt _)))) ?_ ?_
              · rintro m x σ' H31 hm ⟨o14, rfl, y31⟩
                obtain ⟨ra, rs, rfl, ow, hbad, hbr, hlr⟩ := rows m x hm
                walk_at "un"
                walk_at "go"
                refine ⟨d, 3, rfl, y31.il i30, by decide, fun H32 x3 y32 x30 x33 => ?_⟩
                have y032 := y31.trans y32
                have hx3 : x3.toNat < [w1, w2, w3].length := by show x3.toNat < 3; omega
                refine rdIxL (.inl (.inl (y032.but _ _ hWd hW30 (nt _)))) (at_of (j := x3.toNat) (by omega) (List.getElem?_eq_getElem hx3)) ?_
                obtain ⟨t, ht, hbt⟩ := tkW x3.toNat _ (List.getElem?_eq_getElem hx3)
                refine ⟨.ref ra, _, rs, t, 17, rfl, (ownY ow y032 i30).frs, frY ht y032 i30, hbr, hbt, by omega, y032.tab _ t30, fun _ H33 s33 => ?_, fun z => absurd hbad z, fun z => absurd hbad z⟩
                walk_at "gv"
                rename_i H34 z0 s34 h0
                have h0 : Fr K H34 z0 0 := h0
                have y034 := y032.trans (sameTY (s33.trans (UbG.sameT s34)))
                refine ⟨.ref ra, z0, rs, 0, 17, rfl, (ownY ow y034 i30).frs, h0, hbr, ⟨by decide, by decide⟩, by omega, y034.tab _ t30, fun _ H35 s35 => ?_, fun z => absurd hbad z, fun z => absurd hbad z⟩
                walk_at "gv"
                exact y034.trans (sameTY s35)
              · rintro σ' H31 ⟨o14, rfl, y31⟩
                walk_at "un"
                walk_at "go"
                rename_i H32 z0 s32 h0
                have h0 : Fr K H32 z0 0 := h0
                have y32 := y31.trans (sameTY (UbG.sameT s32))
                refine ⟨.ref L, z0, lotR cs' N, 0, 17, rfl, (ownY lo30 y32 i30).frs, h0, lot_bd hb2 hs0 hs48, ⟨by decide, by decide⟩, by omega, y32.tab _ t30, fun z => absurd z good, fun _ z => absurd z (by decide), fun _ _ _ H33 s33 => ?_⟩
                walk_at "gv"
                exact q _
end
/-! ### the head: what the top holds, by names -/
def d_make : He.DefD := ⟨("make", none), "make", "make", defArgs s_make, defBody s_make, defScope s_make, [.int 1], []⟩
def d_add : He.DefD := ⟨("add", none), "add", "add", defArgs s_add, defBody s_add, defScope s_add, [], []⟩
def d_sign : He.DefD := ⟨("sign", none), "sign", "sign", defArgs s_sign, defBody s_sign, defScope s_sign, [], []⟩
def d_compare : He.DefD := ⟨("compare", none), "compare", "compare", defArgs s_compare, defBody s_compare, defScope s_compare, [], []⟩
def d_total : He.DefD := ⟨("total", none), "total", "total", defArgs s_total, defBody s_total, defScope s_total, [], []⟩
def d_is_ticket : He.DefD := ⟨("is_ticket", none), "is_ticket", "is_ticket", defArgs s_is_ticket, defBody s_is_ticket, defScope s_is_ticket, [], []⟩
def d_drawn : He.DefD := ⟨("drawn", none), "drawn", "drawn", defArgs s_drawn, defBody s_drawn, defScope s_drawn, [], []⟩
def d__law_take : He.DefD := ⟨("_law_take", none), "_law_take", "_law_take", defArgs s__law_take, defBody s__law_take, defScope s__law_take, [], []⟩
def d__law_make : He.DefD := ⟨("_law_make", none), "_law_make", "_law_make", defArgs s__law_make, defBody s__law_make, defScope s__law_make, [], []⟩
def d__law_draws : He.DefD := ⟨("_law_draws", none), "_law_draws", "_law_draws", defArgs s__law_draws, defBody s__law_draws, defScope s__law_draws, [], []⟩
def d__law_same : He.DefD := ⟨("_law_same", none), "_law_same", "_law_same", defArgs s__law_same, defBody s__law_same, defScope s__law_same, [], []⟩
def d__law_refusal : He.DefD := ⟨("_law_refusal", none), "_law_refusal", "_law_refusal", defArgs s__law_refusal, defBody s__law_refusal, defScope s__law_refusal, [], []⟩
def d_law : He.DefD := ⟨("law", none), "law", "law", defArgs s_law, defBody s_law, defScope s_law, [], []⟩
def fn : List He.DefD := [d_make, d_add, d_sign, d_compare, d_total, d_is_ticket, d_drawn, d__law_take, d__law_make, d__law_draws, d__law_same, d__law_refusal, d_law]
def fa : List He.Fa := ([.glo "make", .glo "add", .glo "sign", .glo "compare", .glo "total", .glo "is_ticket", .glo "drawn", .glo "_law_take", .glo "_law_make", .glo "_law_draws", .glo "_law_same", .glo "_law_refusal", .glo "law", .free "ValueError", .free "abs", .free "any", .free "bool", .free "int", .free "isinstance", .free "len", .free "list", .free "range", .free "reversed", .free "str", .free "sum", .free "tuple", .glo "ZeroDenominator", .exc "ZeroDenominator", .glo "InvalidLot", .exc "InvalidLot"] : List He.Fa) ++ ([.glo "InvalidTicket", .exc "InvalidTicket", .glo "UnbentError", .exc "UnbentError", .exm "InvalidLot" "UnbentError" true, .exm "InvalidTicket" "UnbentError" true] : List He.Fa)
def ex (K : PySem.W.Frag) : Bool := (He.eqO (PySem.W.nsIn K mainGlobals "gcd") (some (some (.builtin "math.gcd"))) && (excCB K (He.ga K "InvalidLot") && (excCB K (He.ga K "InvalidTicket") && (decide (PySem.W.kitOne K (.ref (He.ga K "InvalidLot")) (.ref (He.ga K "InvalidLot")) = some true) && (decide (PySem.W.kitOne K (.ref (He.ga K "InvalidLot")) (.ref (He.ga K "InvalidTicket")) = some false) && (decide (PySem.W.kitOne K (.ref (He.ga K "InvalidTicket")) (.ref (He.ga K "InvalidLot")) = some false) && (decide (PySem.W.kitOne K (.ref (He.ga K "InvalidTicket")) (.ref (He.ga K "InvalidTicket")) = some true) && (decide (PySem.W.kitOne K (.ref (He.ga K "InvalidTicket")) (.type "ValueError") = some true) && true))))))))
def tf : List He.Defn := [("drawn", none)]
abbrev R : PySem.W.OpenRow := PySem.W.OpenLaw.row PySem.Challenge.rw_unbent_k29_draws_by_tickets
abbrev loose : List Str := (["gcd", "UnbentError", "ZeroDenominator", "InvalidLot", "InvalidTicket", "make", "add", "sign", "compare", "total", "is_ticket", "drawn", "_law_draws", "_law_take", "_law_make", "_law_same", "_law_refusal"] : List Str)
abbrev hk : PySem.W.Hook := He.hookX 5 fa fn [] tf ex
def ob (s : PySem.W.SharedT) : He.AlX := He.obsX 5 fa fn [] tf ex (HandSHeadRun.getT s)
theorem ob_eq (s : PySem.W.SharedT) : ob s = hk.obs s.abs := He.obsX_eq (HandSHeadRun.getT_eq s)
theorem run (w : World) : HandSHeadRun.RunEqI R (PySem.W.view R.prog [0, 21]) hk ob 4000 loose w := by
  unfold HandSHeadRun.RunEqI
  kernel_rfl
theorem facts {w : World} {K : PySem.W.Frag} {h : Heap} {mg : Str → Option Value} {f : Addr} (X : K.In h) (G : h.Ns mainGlobals mg) (hfa : mg ("law" : Str) = some (.ref f)) (c : He.SaysX fa fn [] tf ex w h K) (P : Program) :
    ∃ fd : FuncData, (∀ (s : Shared) (v : Value), BindsTo s fd ⟨[v], []⟩ [("script", v)]) ∧ ∀ base : Heap, K.In base → base.Ns mainGlobals mg → (∀ p ∈ tf, GxR.TabB base mg (He.cT K p).1 (He.cT K p).2) → FnOk P w K mg base (L2.CX P w) 6 f fd ["script"] (sp_law K) := by
  have cd := c.t.d
  have cm := c.more
  unfold ex at cm
  obtain ⟨cm0, cm⟩ := He.ba cm
  obtain ⟨cm1, cm⟩ := He.ba cm
  obtain ⟨cm2, cm⟩ := He.ba cm
  obtain ⟨cm3, cm⟩ := He.ba cm
  obtain ⟨cm4, cm⟩ := He.ba cm
  obtain ⟨cm5, cm⟩ := He.ba cm
  obtain ⟨cm6, cm⟩ := He.ba cm
  obtain ⟨cm7, cm⟩ := He.ba cm
  have T : Tx K mg := { n_ValueError := He.free_ok X G (cd.fact 13 rfl), n_abs := He.free_ok X G (cd.fact 14 rfl), n_any := He.free_ok X G (cd.fact 15 rfl), n_bool := He.free_ok X G (cd.fact 16 rfl), n_int := He.free_ok X G (cd.fact 17 rfl), n_isinstance := He.free_ok X G (cd.fact 18 rfl), n_len := He.free_ok X G (cd.fact 19 rfl), n_list := He.free_ok X G (cd.fact 20 rfl), n_range := He.free_ok X G (cd.fact 21 rfl), n_reversed := He.free_ok X G (cd.fact 22 rfl), n_str := He.free_ok X G (cd.fact 23 rfl), n_sum := He.free_ok X G (cd.fact 24 rfl), n_tuple := He.free_ok X G (cd.fact 25 rfl), g_gcd := PySem.W.mg_of X G (He.eqO_ok cm0), e_ZeroDenominator := ⟨He.glo_ok X G (cd.fact 26 rfl), (He.exc_ok (cd.fact 27 rfl)).1, (He.exc_ok (cd.fact 27 rfl)).2.1, (He.exc_ok (cd.fact 27 rfl)).2.2.1, (He.exc_ok (cd.fact 27 rfl)).2.2.2⟩, e_InvalidLot := ⟨He.glo_ok X G (cd.fact 28 rfl), (He.exc_ok (cd.fact 29 rfl)).1, (He.exc_ok (cd.fact 29 rfl)).2.1, (He.exc_ok (cd.fact 29 rfl)).2.2.1, (He.exc_ok (cd.fact 29 rfl)).2.2.2⟩, e_InvalidTicket := ⟨He.glo_ok X G (cd.fact 30 rfl), (He.exc_ok (cd.fact 31 rfl)).1, (He.exc_ok (cd.fact 31 rfl)).2.1, (He.exc_ok (cd.fact 31 rfl)).2.2.1, (He.exc_ok (cd.fact 31 rfl)).2.2.2⟩, e_UnbentError := ⟨He.glo_ok X G (cd.fact 32 rfl), (He.exc_ok (cd.fact 33 rfl)).1, (He.exc_ok (cd.fact 33 rfl)).2.1, (He.exc_ok (cd.fact 33 rfl)).2.2.1, (He.exc_ok (cd.fact 33 rfl)).2.2.2⟩, m_InvalidLot_UnbentError := He.exm_ok (cd.fact 34 rfl), m_InvalidTicket_UnbentError := He.exm_ok (cd.fact 35 rfl), i_InvalidLot := excCB_ok cm1, i_InvalidTicket := excCB_ok cm2, k_InvalidLot_InvalidLot := of_decide_eq_true cm3, k_InvalidLot_InvalidTicket := of_decide_eq_true cm4, k_InvalidTicket_InvalidLot := of_decide_eq_true cm5, k_InvalidTicket_InvalidTicket := of_decide_eq_true cm6, k_InvalidTicket_ValueError := of_decide_eq_true cm7 }
  obtain ⟨fd_make, F_make⟩ := cd.def_ 0 (d := d_make) rfl
  have m_make := He.glo_ok X G (cd.fact 0 (f := .glo "make") rfl)
  obtain ⟨fd_add, F_add⟩ := cd.def_ 1 (d := d_add) rfl
  have m_add := He.glo_ok X G (cd.fact 1 (f := .glo "add") rfl)
  obtain ⟨fd_sign, F_sign⟩ := cd.def_ 2 (d := d_sign) rfl
  have m_sign := He.glo_ok X G (cd.fact 2 (f := .glo "sign") rfl)
  obtain ⟨fd_compare, F_compare⟩ := cd.def_ 3 (d := d_compare) rfl
  have m_compare := He.glo_ok X G (cd.fact 3 (f := .glo "compare") rfl)
  obtain ⟨fd_total, F_total⟩ := cd.def_ 4 (d := d_total) rfl
  have m_total := He.glo_ok X G (cd.fact 4 (f := .glo "total") rfl)
  obtain ⟨fd_is_ticket, F_is_ticket⟩ := cd.def_ 5 (d := d_is_ticket) rfl
  have m_is_ticket := He.glo_ok X G (cd.fact 5 (f := .glo "is_ticket") rfl)
  obtain ⟨fd_drawn, F_drawn⟩ := cd.def_ 6 (d := d_drawn) rfl
  have m_drawn := He.glo_ok X G (cd.fact 6 (f := .glo "drawn") rfl)
  obtain ⟨fd__law_take, F__law_take⟩ := cd.def_ 7 (d := d__law_take) rfl
  have m__law_take := He.glo_ok X G (cd.fact 7 (f := .glo "_law_take") rfl)
  obtain ⟨fd__law_make, F__law_make⟩ := cd.def_ 8 (d := d__law_make) rfl
  have m__law_make := He.glo_ok X G (cd.fact 8 (f := .glo "_law_make") rfl)
  obtain ⟨fd__law_draws, F__law_draws⟩ := cd.def_ 9 (d := d__law_draws) rfl
  have m__law_draws := He.glo_ok X G (cd.fact 9 (f := .glo "_law_draws") rfl)
  obtain ⟨fd__law_same, F__law_same⟩ := cd.def_ 10 (d := d__law_same) rfl
  have m__law_same := He.glo_ok X G (cd.fact 10 (f := .glo "_law_same") rfl)
  obtain ⟨fd__law_refusal, F__law_refusal⟩ := cd.def_ 11 (d := d__law_refusal) rfl
  have m__law_refusal := He.glo_ok X G (cd.fact 11 (f := .glo "_law_refusal") rfl)
  obtain ⟨fd_law, F_law⟩ := cd.def_ 12 (d := d_law) rfl
  have m_law := He.glo_ok X G (cd.fact 12 (f := .glo "law") rfl)
  have e := hfa.symm.trans m_law
  cases e
  have bl := FunD.bindsA (ps := ["script"]) F_law fun _ _ _ _ _ _ us hl => match us, hl with | [_], _ => rfl
  refine ⟨fd_law, fun s v => bl s [v] rfl, fun base _ _ TBs => ?_⟩
  have G_make : FnOk P w K mg base (L2.CX P w) 1 (He.ga K "make") fd_make ["p", "q"] (sp_make K) := ok_make T F_make 
  have C_make : Cal P w K mg base "make" 1 ["p", "q"] [] (sp_make K) := by
    have F1 : FunD K "make" "make" (defArgs s_make) (defBody s_make) (defScope s_make) [V.int 1] [] (He.ga K "make") fd_make := F_make
    obtain ⟨ds, hd, hb⟩ := F1.binds1 (ps := ["p", "q"]) 2 1 (by simp) rfl (fun T kV doc pm an cdv ct us its hu hi => by
      match us, hu, its, hi with
      | [_, _], _, [_], _ =>
        refine ⟨_, rfl, ?_⟩
        rfl)
    exact ⟨_, _, ds, G_make, m_make, F_make.kp, hd, hb⟩
  have G_add : FnOk P w K mg base (L2.CX P w) 2 (He.ga K "add") fd_add ["a", "b"] (sp_add K) := ok_add T F_add C_make
  have C_add : Cal P w K mg base "add" 2 ["a", "b"] [] (sp_add K) := ⟨_, _, [], G_add, m_add, F_add.kp, .nil, F_add.bindsN fun _ _ _ _ _ _ us hl => match us, hl with | [_, _], _ => rfl⟩
  have G_sign : FnOk P w K mg base (L2.CX P w) 1 (He.ga K "sign") fd_sign ["a"] (sp_sign K) := ok_sign T F_sign 
  have C_sign : Cal P w K mg base "sign" 1 ["a"] [] (sp_sign K) := ⟨_, _, [], G_sign, m_sign, F_sign.kp, .nil, F_sign.bindsN fun _ _ _ _ _ _ us hl => match us, hl with | [_], _ => rfl⟩
  have G_compare : FnOk P w K mg base (L2.CX P w) 2 (He.ga K "compare") fd_compare ["a", "b"] (sp_compare K) := ok_compare T F_compare C_sign
  have C_compare : Cal P w K mg base "compare" 2 ["a", "b"] [] (sp_compare K) := ⟨_, _, [], G_compare, m_compare, F_compare.kp, .nil, F_compare.bindsN fun _ _ _ _ _ _ us hl => match us, hl with | [_, _], _ => rfl⟩
  have G_total : FnOk P w K mg base (L2.CX P w) 3 (He.ga K "total") fd_total ["values"] (sp_total K) := ok_total T F_total C_add
  have C_total : Cal P w K mg base "total" 3 ["values"] [] (sp_total K) := ⟨_, _, [], G_total, m_total, F_total.kp, .nil, F_total.bindsN fun _ _ _ _ _ _ us hl => match us, hl with | [_], _ => rfl⟩
  have G_is_ticket : FnOk P w K mg base (L2.CX P w) 3 (He.ga K "is_ticket") fd_is_ticket ["number"] (sp_is_ticket K) := ok_is_ticket T F_is_ticket C_compare C_sign
  have C_is_ticket : Cal P w K mg base "is_ticket" 3 ["number"] [] (sp_is_ticket K) := ⟨_, _, [], G_is_ticket, m_is_ticket, F_is_ticket.kp, .nil, F_is_ticket.bindsN fun _ _ _ _ _ _ us hl => match us, hl with | [_], _ => rfl⟩
  have G_drawn : FnOk P w K mg base (L2.CX P w) 4 (He.ga K "drawn") fd_drawn ["lot", "ticket"] (sp_drawn K) := ok_drawn T F_drawn rfl (TBs (("drawn", none) : He.Defn) (by unfold tf; simp)) C_add C_compare C_is_ticket C_sign C_total
  have C_drawn : Cal P w K mg base "drawn" 4 ["lot", "ticket"] [] (sp_drawn K) := ⟨_, _, [], G_drawn, m_drawn, F_drawn.kp, .nil, F_drawn.bindsN fun _ _ _ _ _ _ us hl => match us, hl with | [_, _], _ => rfl⟩
  have G__law_take : FnOk P w K mg base (L2.CX P w) 1 (He.ga K "_law_take") fd__law_take ["draws", "bound"] (sp__law_take) := ok__law_take T F__law_take 
  have C__law_take : Cal P w K mg base "_law_take" 1 ["draws", "bound"] [] (sp__law_take) := ⟨_, _, [], G__law_take, m__law_take, F__law_take.kp, .nil, F__law_take.bindsN fun _ _ _ _ _ _ us hl => match us, hl with | [_, _], _ => rfl⟩
  have G__law_make : FnOk P w K mg base (L2.CX P w) 1 (He.ga K "_law_make") fd__law_make ["p", "q"] (sp__law_make K) := ok__law_make T F__law_make 
  have C__law_make : Cal P w K mg base "_law_make" 1 ["p", "q"] [] (sp__law_make K) := ⟨_, _, [], G__law_make, m__law_make, F__law_make.kp, .nil, F__law_make.bindsN fun _ _ _ _ _ _ us hl => match us, hl with | [_, _], _ => rfl⟩
  have G__law_draws : FnOk P w K mg base (L2.CX P w) 1 (He.ga K "_law_draws") fd__law_draws ["script"] (sp__law_draws K) := ok__law_draws T F__law_draws 
  have C__law_draws : Cal P w K mg base "_law_draws" 1 ["script"] [] (sp__law_draws K) := ⟨_, _, [], G__law_draws, m__law_draws, F__law_draws.kp, .nil, F__law_draws.bindsN fun _ _ _ _ _ _ us hl => match us, hl with | [_], _ => rfl⟩
  have G__law_same : FnOk P w K mg base (L2.CX P w) 3 (He.ga K "_law_same") fd__law_same ["value", "due"] (sp__law_same K 3) := ok__law_same T F__law_same m__law_same 3
  have C__law_same : Cal P w K mg base "_law_same" 3 ["value", "due"] [] (sp__law_same K 3) := ⟨_, _, [], G__law_same, m__law_same, F__law_same.kp, .nil, F__law_same.bindsN fun _ _ _ _ _ _ us hl => match us, hl with | [_, _], _ => rfl⟩
  have G__law_refusal : FnOk P w K mg base (L2.CX P w) 5 (He.ga K "_law_refusal") fd__law_refusal ["lot", "ticket"] (sp__law_refusal K) := ok__law_refusal T F__law_refusal C_drawn
  have C__law_refusal : Cal P w K mg base "_law_refusal" 5 ["lot", "ticket"] [] (sp__law_refusal K) := ⟨_, _, [], G__law_refusal, m__law_refusal, F__law_refusal.kp, .nil, F__law_refusal.bindsN fun _ _ _ _ _ _ us hl => match us, hl with | [_, _], _ => rfl⟩
  exact ok_law T F_law C__law_draws C__law_make C__law_refusal C__law_same C__law_take C_drawn
end UbK
open PySem PySem.W PySem.Calls PyProof.Rows
set_option maxHeartbeats 0 in
theorem PySem.Challenge.cw_unbent_k29_draws_by_tickets_holds : PySem.Challenge.rw_unbent_k29_draws_by_tickets.Holds := by
  w_on; o_law
  refine HandSHeadRun.head_imp (r := OpenLaw.row PySem.Challenge.rw_unbent_k29_draws_by_tickets) (q := view (OpenLaw.row PySem.Challenge.rw_unbent_k29_draws_by_tickets).prog [0, 21]) (H := UbK.hk) (ob := UbK.ob) (M := 4000) (loose := UbK.loose) (d := HandSHeadRun.topDef (OpenLaw.row PySem.Challenge.rw_unbent_k29_draws_by_tickets).prog 21) (kwd := []) UbK.ob_eq UbK.run
    (by kernel_rfl) (by kernel_rfl) (by kernel_rfl) (by rfl) (by first | assumption | decide +kernel) (by decide +kernel) ⟨rfl, rfl, rfl, rfl, rfl, by decide +kernel⟩ ?hw ?hc
  case hw => w_witness2
  case hc =>
    refine UbG.endOfLawT (l := PySem.Challenge.rw_unbent_k29_draws_by_tickets) (n := 63) (k := 6) (x := "script") rfl (by decide) (by kernel_rfl) ⟨rfl, by decide, by decide⟩ UbK.tf ?F
    intro w mg fa h Y G hmg0
    obtain ⟨K, KX, c⟩ := Y
    have hmg : mg ("law" : PySem.Str) = some (.ref fa) := by
      have e : (HandSHeadRun.topDef (OpenLaw.row PySem.Challenge.rw_unbent_k29_draws_by_tickets).prog 21).name = ("law" : PySem.Str) := by kernel_rfl
      rw [← e]
      exact hmg0
    obtain ⟨fd, hb, hF⟩ := UbK.facts KX G hmg c (PySem.Challenge.rw_unbent_k29_draws_by_tickets).prog
    exact ⟨K, fd, UbK.sp_law K, KX, c.hd, c.out, c.empty, hb, fun H a ns hl hz hT hS => ⟨a, ns, rfl, hS, hl, hz, hT, fun _ => rfl⟩, hF⟩
