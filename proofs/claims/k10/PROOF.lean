import PyProof.Rows.All
import Wide.All
import OpenK.AllK
import Wide.FinOn
import HandS.ForMost
import HandS.ForExc
import HandS.Wide
import HandS.Gcd
import HandS.IsInst
import HandS.Defaults
import HandS.ExcIs
import HandS.Flow
import HandS.Small
import HandS.HeadHook4
import HandS.HeadEnd
import HandS.AnyAll
import HandS.GenList
import HandS.NestedK
import HandS.HeadWalk
import HandS.Rev
import HandS.Conv
import PyProof.StrLaws
import HandS.ExcInit
import HandS.FStr
import HandS.MakeKwOnly
import HandS.ExcField
import HandS.CallSlots
import HandS.MakeKw
import KE.KExcSuper
import HandS.Nested
import PySem.PyData
import HandS.TupLe
import KE.KMathGC
import HandS.Head0
import HandS.Head1
import HandS.Head2
import HandS.HeadHook1
import HandS.HeadHook2
import HandS.HeadHook3
import HandS.Head3
import PySem.Challenge.RW_unbent_k10_certificates_are_judged
set_option Elab.async false
set_option linter.all false
set_option maxRecDepth 100000
set_option maxHeartbeats 4000000
/-! Plain mathematics: Euclid by a bounded number of turns, fractions as Rat. -/
namespace UbM
/-- m turns of Euclid are enough for a, b -/
def Enough (m a b : Nat) : Prop := ∃ e, (b < 2 ^ e ∧ 2 * e + 1 ≤ m) ∨ (b < a ∧ a < 2 ^ (e + 1) ∧ 2 * e + 2 ≤ m)
theorem Enough.pos {m a b : Nat} (h : Enough m a b) : 0 < m := by
  obtain ⟨e, h | h⟩ := h <;> omega
theorem half_mod {a b : Nat} (hb : 0 < b) (h : b < a) : 2 * (a % b) < a := by
  have h1 := Nat.mod_lt a hb
  have h2 := Nat.div_add_mod a b
  have h3 : 1 ≤ a / b := (Nat.le_div_iff_mul_le hb).mpr (by omega)
  have h4 : b * 1 ≤ b * (a / b) := Nat.mul_le_mul_left b h3
  omega
theorem Enough.step {m a b : Nat} (hb : 0 < b) (h : Enough m a b) : Enough (m - 1) b (a % b) := by
  obtain ⟨e, ⟨h1, h2⟩ | ⟨h1, h2, h3⟩⟩ := h
  · cases e with
    | zero =>
      have : b < 1 := h1
      omega
    | succ e =>
      refine ⟨e, .inr ⟨Nat.mod_lt _ hb, h1, by omega⟩⟩
  · refine ⟨e, .inl ⟨?_, by omega⟩⟩
    have h4 := half_mod hb h1
    have h5 : 2 ^ (e + 1) = 2 ^ e * 2 := Nat.pow_succ ..
    omega
theorem enough_of {m a b e : Nat} (h : b < 2 ^ e) (hm : 2 * e + 1 ≤ m) : Enough m a b := ⟨e, .inl ⟨h, hm⟩⟩
/-! ### fractions -/
theorem int_gcd (p q : Int) : q.gcd p = Nat.gcd p.natAbs q.natAbs := by
  unfold Int.gcd
  exact Nat.gcd_comm ..
theorem num_pos {p q : Int} (h : 0 < q) : p / ((Nat.gcd p.natAbs q.natAbs : Nat) : Int) = (Rat.divInt p q).num := by
  rw [Rat.num_divInt, int_gcd, Int.sign_eq_one_of_pos h, Int.one_mul]
theorem den_pos {p q : Int} (h : 0 < q) : q / ((Nat.gcd p.natAbs q.natAbs : Nat) : Int) = ((Rat.divInt p q).den : Int) := by
  rw [Rat.den_divInt, if_neg (by omega), int_gcd]
  have e : (q.natAbs : Int) = q := by omega
  rw [Int.natCast_ediv, e]
theorem gcd_pos {p q : Int} (h : q ≠ 0) : 0 < Nat.gcd p.natAbs q.natAbs := Nat.gcd_pos_of_pos_right _ (by omega)
theorem fdiv_neg_dvd {a b : Int} (h : b ∣ a) : a.fdiv (-b) = -(a / b) := by
  obtain ⟨c, rfl⟩ := h
  by_cases hb : b = 0
  · subst hb
    simp
  · rw [Int.mul_ediv_cancel_left _ hb]
    have e : b * c = -b * -c := by rw [Int.neg_mul_neg]
    rw [e, Int.mul_fdiv_cancel_left _ (by omega)]
theorem dvd_l (p q : Int) : ((Nat.gcd p.natAbs q.natAbs : Nat) : Int) ∣ p := Int.ofNat_dvd_left.mpr (Nat.gcd_dvd_left ..)
theorem dvd_r (p q : Int) : ((Nat.gcd p.natAbs q.natAbs : Nat) : Int) ∣ q := Int.ofNat_dvd_left.mpr (Nat.gcd_dvd_right ..)
theorem num_neg {p q : Int} (h : q < 0) : p.fdiv (-((Nat.gcd p.natAbs q.natAbs : Nat) : Int)) = (Rat.divInt p q).num := by
  rw [fdiv_neg_dvd (dvd_l p q), Rat.num_divInt, int_gcd, Int.sign_eq_neg_one_of_neg h, Int.neg_one_mul, Int.neg_ediv_of_dvd (dvd_l p q)]
theorem den_neg {p q : Int} (h : q < 0) : q.fdiv (-((Nat.gcd p.natAbs q.natAbs : Nat) : Int)) = ((Rat.divInt p q).den : Int) := by
  rw [fdiv_neg_dvd (dvd_r p q), Rat.den_divInt, if_neg (by omega), int_gcd]
  have e : (q.natAbs : Int) = -q := by omega
  rw [Int.natCast_ediv, e, Int.neg_ediv_of_dvd (dvd_r p q)]
/-! ### sizes -/
def Bd (n : Nat) (r : Rat) : Prop := r.num.natAbs < 2 ^ n ∧ r.den < 2 ^ n
theorem bd_divInt {p q : Int} {n : Nat} (hq : q ≠ 0) (h1 : p.natAbs < 2 ^ n) (h2 : q.natAbs < 2 ^ n) : Bd n (Rat.divInt p q) := by
  constructor
  · by_cases h : 0 < q
    · rw [← num_pos h, Int.natAbs_ediv_of_dvd (dvd_l p q)]
      exact Nat.lt_of_le_of_lt (Nat.div_le_self ..) h1
    · rw [← num_neg (show q < 0 by omega), fdiv_neg_dvd (dvd_l p q), Int.natAbs_neg, Int.natAbs_ediv_of_dvd (dvd_l p q)]
      exact Nat.lt_of_le_of_lt (Nat.div_le_self ..) h1
  · rw [Rat.den_divInt, if_neg hq]
    exact Nat.lt_of_le_of_lt (Nat.div_le_self ..) h2
theorem Bd.mono {n m : Nat} {r : Rat} (h : Bd n r) (k : n ≤ m) : Bd m r := ⟨Nat.lt_of_lt_of_le h.1 (Nat.pow_le_pow_right (by decide) k), Nat.lt_of_lt_of_le h.2 (Nat.pow_le_pow_right (by decide) k)⟩
theorem mul_lt {i j : Int} {a b : Nat} (ha : i.natAbs < 2 ^ a) (hb : j.natAbs < 2 ^ b) : (i * j).natAbs < 2 ^ (a + b) := by
  rw [Int.natAbs_mul, Nat.pow_add]
  exact Nat.mul_lt_mul'' ha hb
theorem add_lt {i j : Int} {a b : Nat} (ha : i.natAbs < 2 ^ a) (hb : j.natAbs < 2 ^ b) : (i + j).natAbs < 2 ^ (max a b + 1) := by
  have h1 : (2 : Nat) ^ a ≤ 2 ^ (max a b) := Nat.pow_le_pow_right (by decide) (by omega)
  have h2 : (2 : Nat) ^ b ≤ 2 ^ (max a b) := Nat.pow_le_pow_right (by decide) (by omega)
  have h3 : (2 : Nat) ^ (max a b + 1) = 2 ^ (max a b) * 2 := Nat.pow_succ ..
  omega
theorem sub_lt {i j : Int} {a b : Nat} (ha : i.natAbs < 2 ^ a) (hb : j.natAbs < 2 ^ b) : (i - j).natAbs < 2 ^ (max a b + 1) := by
  have h1 : (2 : Nat) ^ a ≤ 2 ^ (max a b) := Nat.pow_le_pow_right (by decide) (by omega)
  have h2 : (2 : Nat) ^ b ≤ 2 ^ (max a b) := Nat.pow_le_pow_right (by decide) (by omega)
  have h3 : (2 : Nat) ^ (max a b + 1) = 2 ^ (max a b) * 2 := Nat.pow_succ ..
  omega
theorem den_ne (r : Rat) : (r.den : Int) ≠ 0 := by
  have := r.den_nz
  omega
theorem den_p (r : Rat) : (0 : Int) < r.den := by
  have := r.den_nz
  omega
theorem den_lt {r : Rat} {n : Nat} (h : Bd n r) : (r.den : Int).natAbs < 2 ^ n := h.2
theorem add_as (r s : Rat) : Rat.divInt (r.num * s.den + s.num * r.den) (r.den * s.den) = r + s := by
  rw [Rat.add_def', ← Rat.divInt_ofNat, Int.natCast_mul]
theorem sub_as (r s : Rat) : Rat.divInt (r.num * s.den - s.num * r.den) (r.den * s.den) = r - s := by
  rw [Rat.sub_def', ← Rat.divInt_ofNat, Int.natCast_mul]
theorem mul_as (r s : Rat) : Rat.divInt (r.num * s.num) (r.den * s.den) = r * s := by
  rw [Rat.mul_def', ← Rat.divInt_ofNat, Int.natCast_mul]
theorem div_as (r s : Rat) : Rat.divInt (r.num * s.den) (r.den * s.num) = r / s := by
  rw [Rat.div_def, Rat.inv_def]
  conv => rhs; rw [← Rat.num_divInt_den r]
  rw [Rat.divInt_mul_divInt]
theorem bd_add {r s : Rat} {a b : Nat} (hr : Bd a r) (hs : Bd b s) : Bd (a + b + 1) (r + s) := by
  rw [← add_as]
  refine bd_divInt (Int.mul_ne_zero (den_ne r) (den_ne s)) ?_ ?_
  · have := add_lt (mul_lt hr.1 (den_lt hs)) (mul_lt hs.1 (den_lt hr))
    rw [show max (a + b) (b + a) + 1 = a + b + 1 by omega] at this
    exact this
  · exact Nat.lt_of_lt_of_le (mul_lt (den_lt hr) (den_lt hs)) (Nat.pow_le_pow_right (by decide) (by omega))
theorem bd_sub {r s : Rat} {a b : Nat} (hr : Bd a r) (hs : Bd b s) : Bd (a + b + 1) (r - s) := by
  rw [← sub_as]
  refine bd_divInt (Int.mul_ne_zero (den_ne r) (den_ne s)) ?_ ?_
  · have := sub_lt (mul_lt hr.1 (den_lt hs)) (mul_lt hs.1 (den_lt hr))
    rw [show max (a + b) (b + a) + 1 = a + b + 1 by omega] at this
    exact this
  · exact Nat.lt_of_lt_of_le (mul_lt (den_lt hr) (den_lt hs)) (Nat.pow_le_pow_right (by decide) (by omega))
theorem bd_mul {r s : Rat} {a b : Nat} (hr : Bd a r) (hs : Bd b s) : Bd (a + b) (r * s) := by
  rw [← mul_as]
  exact bd_divInt (Int.mul_ne_zero (den_ne r) (den_ne s)) (mul_lt hr.1 hs.1) (mul_lt (den_lt hr) (den_lt hs))
theorem bd_neg {r : Rat} {a : Nat} (hr : Bd a r) : Bd a (-r) := ⟨by rw [Rat.neg_num, Int.natAbs_neg]; exact hr.1, hr.2⟩
theorem bd_div {r s : Rat} {a b : Nat} (hz : s ≠ 0) (hr : Bd a r) (hs : Bd b s) : Bd (a + b) (r / s) := by
  rw [← div_as]
  exact bd_divInt (Int.mul_ne_zero (den_ne r) fun h => hz (Rat.num_eq_zero.mp h)) (mul_lt hr.1 (den_lt hs)) (mul_lt (den_lt hr) hs.1)
/-! ### the order -/
/-- -1, 0, 1 as r is below, equal to, above s -/
def cmpR (r s : Rat) : Int := Int.sign (r.num * s.den - s.num * r.den)
theorem cmpR_lt {r s : Rat} (h : r < s) : cmpR r s = -1 := by
  have := (Rat.lt_iff r s).mp h
  exact Int.sign_eq_neg_one_of_neg (by omega)
theorem cmpR_gt {r s : Rat} (h : s < r) : cmpR r s = 1 := by
  have := (Rat.lt_iff s r).mp h
  exact Int.sign_eq_one_of_pos (by omega)
theorem cmpR_self (r : Rat) : cmpR r r = 0 := by
  unfold cmpR
  rw [Int.sub_self]
  rfl
theorem cmpR_cases (r s : Rat) : (r < s ∧ cmpR r s = -1) ∨ (r = s ∧ cmpR r s = 0) ∨ (s < r ∧ cmpR r s = 1) := by
  by_cases h : r = s
  · subst h
    exact .inr (.inl ⟨rfl, cmpR_self r⟩)
  · by_cases h2 : r < s
    · exact .inl ⟨h2, cmpR_lt h2⟩
    · have h3 : s < r := Rat.lt_of_le_of_ne (Rat.not_lt.mp h2) fun e => h e.symm
      exact .inr (.inr ⟨h3, cmpR_gt h3⟩)
theorem cmpR_swap (r s : Rat) : cmpR s r = -cmpR r s := by
  rcases cmpR_cases r s with ⟨h, e⟩ | ⟨h, e⟩ | ⟨h, e⟩
  · rw [e, cmpR_gt h]
    rfl
  · rw [e, h, cmpR_self]
    rfl
  · rw [e, cmpR_lt h]
theorem cmpR_add (r s t : Rat) : cmpR (r + t) (s + t) = cmpR r s := by
  rcases cmpR_cases r s with ⟨h, e⟩ | ⟨h, e⟩ | ⟨h, e⟩
  · rw [e, cmpR_lt (Rat.add_lt_add_right.mpr h)]
  · rw [e, h, cmpR_self]
  · rw [e, cmpR_gt (Rat.add_lt_add_right.mpr h)]
theorem cmpR_mul {r s t : Rat} (ht : 0 < t) : cmpR (r * t) (s * t) = cmpR r s := by
  rcases cmpR_cases r s with ⟨h, e⟩ | ⟨h, e⟩ | ⟨h, e⟩
  · rw [e, cmpR_lt ((Rat.mul_lt_mul_right ht).mpr h)]
  · rw [e, h, cmpR_self]
  · rw [e, cmpR_gt ((Rat.mul_lt_mul_right ht).mpr h)]
theorem neg_pos {t : Rat} (h : t < 0) : 0 < -t := by
  have := Rat.neg_lt_neg h
  rw [Rat.neg_zero] at this
  exact this
theorem cmpR_mul_neg {r s t : Rat} (ht : t < 0) : cmpR (r * t) (s * t) = -cmpR r s := by
  have h1 := cmpR_mul (r := r) (s := s) (neg_pos ht)
  rw [Rat.mul_neg, Rat.mul_neg] at h1
  rw [← h1, ← cmpR_swap]
  unfold cmpR
  rw [Rat.neg_num, Rat.neg_num, Rat.neg_den, Rat.neg_den, Int.neg_mul, Int.neg_mul]
  congr 1
  omega
theorem sign_as (d : Int) : (if decide (0 < d) = true then (1 : Int) else 0) - (if decide (d < 0) = true then (1 : Int) else 0) = Int.sign d := by
  rcases Int.lt_trichotomy d 0 with h | h | h
  · rw [decide_eq_true h, decide_eq_false (show ¬0 < d by omega), Int.sign_eq_neg_one_of_neg h]
    rfl
  · subst h
    rfl
  · rw [decide_eq_true h, decide_eq_false (show ¬d < 0 by omega), Int.sign_eq_one_of_pos h]
    rfl
theorem cmpR_zero (r : Rat) : cmpR r 0 = Int.sign r.num := by
  unfold cmpR
  rw [Rat.zero_num, Rat.zero_den]
  congr 1
  omega
theorem num_pos_iff {r : Rat} : 0 < r.num ↔ 0 < r := by
  have h := Rat.lt_iff 0 r
  rw [Rat.zero_num, Rat.zero_den] at h
  rw [h]
  omega
theorem num_neg_iff {r : Rat} : r.num < 0 ↔ r < 0 := by
  have h := Rat.lt_iff r 0
  rw [Rat.zero_num, Rat.zero_den] at h
  rw [h]
  omega
end UbM

namespace Ub
open PySem PySem.Spec PyProof.Rows L2 UbM
/-! ### heaps -/
theorem sameNew {H : Hp} {p : Addr} {o : HO} (h : H p = none) : Same H (upd H p o) := fun b x e => by
  rw [upd_ne (ne_of_none e h)]
  exact e
theorem Same.tseq {K : PySem.W.Frag} {H H' : Hp} {a : Addr} {xs : List V} (e : Same H H') (h : SqT K H a xs) : SqT K H' a xs := by
  rcases h with (h | ⟨o, h⟩) | h
  · exact .inl (.inl (e _ _ h))
  · exact .inl (.inr ⟨o, e _ _ h⟩)
  · exact .inr h
mutual
theorem Dp.mono {K : PySem.W.Frag} {H H' : Hp} (e : Same H H') : ∀ (d : PyData) (v : V), Dp K H v d → Dp K H' v d
  | .none, _, h => by cases h; exact .non
  | .bool b, _, h => by cases h; exact .bl b
  | .int i, _, h => by cases h; exact .int i
  | .str x, _, h => by cases h; exact .str x
  | .list ds, _, h => by
    cases h with
    | lst hs ha => exact .lst (Same.seq e hs) (Dp.monoAll e ds _ ha)
  | .tuple ds, _, h => by
    cases h with
    | tup hs ha => exact .tup (Same.tseq e hs) (Dp.monoAll e ds _ ha)
  | .dict _, _, h => by cases h
theorem Dp.monoAll {K : PySem.W.Frag} {H H' : Hp} (e : Same H H') : ∀ (ds : List PyData) (vs : List V), DpAll K H vs ds → DpAll K H' vs ds
  | [], _, h => by cases h; exact .nil
  | d :: ds, _, h => by
    cases h with
    | cons h1 h2 => exact .cons (Dp.mono e d _ h1) (Dp.monoAll e ds _ h2)
end
/-- a fraction as data -/
def frD (r : Rat) : PyData := .tuple [.int r.num, .int (r.den : Int)]
/-- v is the fraction r -/
def Fr (K : PySem.W.Frag) (H : Hp) (v : V) (r : Rat) : Prop := Dp K H v (frD r)
theorem Fr.mono {K : PySem.W.Frag} {H H' : Hp} {v : V} {r : Rat} (e : Same H H') (h : Fr K H v r) : Fr K H' v r := Dp.mono e _ _ h
theorem Fr.get {K : PySem.W.Frag} {H : Hp} {v : V} {r : Rat} (h : Fr K H v r) : ∃ a, v = .ref a ∧ SqT K H a [.int r.num, .int (r.den : Int)] := by
  unfold Fr frD at h
  cases h with
  | tup hs ha =>
    cases ha with
    | cons h1 h2 =>
      cases h2 with
      | cons h2 h3 =>
        cases h3
        cases h1
        cases h2
        exact ⟨_, rfl, hs⟩
theorem fr_of {K : PySem.W.Frag} {H : Hp} {a : Addr} {r : Rat} {p q : Int} (h : SqT K H a [.int p, .int q]) (hp : p = r.num) (hq : q = (r.den : Int)) : Fr K H (.ref a) r := by
  subst hp hq
  exact .tup h (.cons (.int _) (.cons (.int _) .nil))
theorem frNew {K : PySem.W.Frag} {H : Hp} {a : Addr} {r : Rat} {p q : Int} (hp : p = r.num) (hq : q = (r.den : Int)) : Fr K (upd H a (.tup [.int p, .int q])) (.ref a) r := fr_of (.inl (.inl upd_same)) hp hq
/-! ### operators on ints of any size that these laws meet -/
def CDivX (_ j : Int) : Prop := j ≠ 0 ∧ j.natAbs.log2 < 9000
theorem cdivX {i j : Int} {b : Nat} (h : j ≠ 0) (hb : j.natAbs < 2 ^ b) (h0 : 0 < b) (h9 : b ≤ 9000) : CDivX i j := ⟨h, Nat.lt_of_lt_of_le (PySem.Flt.log2_lt_of h0 hb) h9⟩
section
variable {X : Cx}
theorem op_fdivX : OpR X (binaryOp .FloorDiv) (rI CDivX fun i j => .int (i.fdiv j)) := opI fun i j _ _ _ _ _ hc q => floordiv_int hc.1 q (.inl (PyProof.noPylong_of_log2 hc.2))
end
/-- * of two ints: one below 2 ^ 64, or together below a million bits -/
def CMulG (i j : Int) : Prop := CMul i j ∨ CMulW i j
section
variable {X : Cx}
theorem op_mulG : OpR X (binaryOp .Mult) (rI CMulG fun i j => .int (i * j)) := opI fun _ _ _ _ _ _ _ hc q => mul_int q (by
  rcases hc with hc | hc
  · exact hc.ok
  · exact hc.ok)
end
theorem fdiv_pos {i j : Int} (h : 0 < j) : i.fdiv j = i / j := Int.fdiv_eq_ediv_of_nonneg i (by omega)
/-! ### calls of the program's own defs -/
/-- at the name x stands a def that keeps the promise sp, by at most level k; dvs: the defaults that fill up -/
structure Cal (P : Program) (w : World) (K : PySem.W.Frag) (mg : Str → Option Value) (base : Heap) (x : Str) (k : Nat) (ps : List Str) (dvs : List V) (sp : Sp) : Prop where
  ex : ∃ (f : Addr) (fd : FuncData) (ds : List Value), FnOk P w K mg base (L2.CX P w) k f fd ps sp ∧ mg x = some (.ref f) ∧ PySem.W.keepIn K (.ref f) = true ∧ Vals dvs ds ∧ Binds K fd ps ds
section
variable {X : Cx} {x : Str} {k j : Nat} {ps : List Str} {dvs : List V} {sp : Sp} {p pos : Pos} {e : Expr} {es : List Expr} {t : TA}
theorem pe_callC (C : Cal X.prog X.w X.K X.mg X.base x k ps dvs sp) (hr : Room j X.A) (hj : k ≤ j) (hg : Gl X x) (ha : PA X (e :: es) t) (hdb : (x == ("__debug__" : Str)) = false := by decide)
    (he : starEach (e :: es) X.env = (false, eval e X.env) :: starEach es X.env := by rfl) (hpl : (backTo pos (starEach es X.env)).any (·.1) = false := by rfl) :
    PE X (.Call (.Name x p) (e :: es) [] pos) (tCall sp dvs E0 t) := by
  obtain ⟨f, fd, ds, F, hm, hk, hd, hb⟩ := C.ex
  exact pe_call F (hr.mono hj) hg hm hk hb hd passL ha hdb he hpl
theorem pe_callC0 (C : Cal X.prog X.w X.K X.mg X.base x k ps dvs sp) (hr : Room j X.A) (hj : k ≤ j) (hg : Gl X x) (hdb : (x == ("__debug__" : Str)) = false := by decide) : PE X (.Call (.Name x p) [] [] pos) (tCall sp dvs E0 tNil) := by
  obtain ⟨f, fd, ds, F, hm, hk, hd, hb⟩ := C.ex
  exact pe_call0 F (hr.mono hj) hg hm hk hb hd passL hdb
/-- in a def that may raise: what the callee raises leaves it -/
theorem pe_callCX {E : XK} (C : Cal X.prog X.w X.K X.mg X.base x k ps dvs sp) (hr : Room j X.A) (hj : k ≤ j) (hg : Gl X x) (tk : Takes X (fun cls d _ H => E cls d H)) (ha : PA X (e :: es) t) (hdb : (x == ("__debug__" : Str)) = false := by decide)
    (he : starEach (e :: es) X.env = (false, eval e X.env) :: starEach es X.env := by rfl) (hpl : (backTo pos (starEach es X.env)).any (·.1) = false := by rfl) :
    PE X (.Call (.Name x p) (e :: es) [] pos) (tCall sp dvs E t) := by
  obtain ⟨f, fd, ds, F, hm, hk, hd, hb⟩ := C.ex
  exact pe_call F (hr.mono hj) hg hm hk hb hd (passes_call tk fun _ _ _ _ h => h) ha hdb he hpl
/-- in a try: what it raises goes to the clause -/
theorem pe_callCS {W : WX} (C : Cal X.prog X.w X.K X.mg X.base x k ps [] sp) (hr : Room j X.A) (hj : k ≤ j) (hg : Gl X x) (tk : Takes X W) (ha : PA X (e :: es) t) (hdb : (x == ("__debug__" : Str)) = false := by decide)
    (he : starEach (e :: es) X.env = (false, eval e X.env) :: starEach es X.env := by rfl) (hpl : (backTo pos (starEach es X.env)).any (·.1) = false := by rfl) :
    PE X (.Call (.Name x p) (e :: es) [] pos) (tCallS sp (WE W) t) := by
  obtain ⟨f, fd, ds, F, hm, hk, hd, hb⟩ := C.ex
  cases hd
  exact pe_callS F (hr.mono hj) hg hm hk hb (fun σ => passAt tk σ) ha hdb he hpl
end
theorem Cal.mono {P : Program} {w : World} {K : PySem.W.Frag} {mg : Str → Option Value} {base : Heap} {x : Str} {k : Nat} {ps : List Str} {dvs : List V} {sp sp' : Sp} (C : Cal P w K mg base x k ps dvs sp)
    (h : ∀ vs H Q E, sp' vs H Q E → sp vs H Q E) : Cal P w K mg base x k ps dvs sp' := by
  obtain ⟨f, fd, ds, F, r⟩ := C.ex
  exact ⟨f, fd, ds, F.imp h, r⟩
/-! ### own exceptions -/
section
variable {X : Cx} {C : Addr} {bmB : List Value} {B newId initId : String}
/-- X(), X an own exception class without own __init__ -/
theorem pmk_own0 {x : Str} {p pos : Pos} (F : ExcBaseFacts B newId initId bmB) (q : PySem.W.excIn X.K C bmB newId = true) (gC : X.mg x = some (.ref C)) (kC : PySem.W.keepIn X.K (.ref C) = true) (r : Raises X (.ref C)) (hg : Gl X x)
    (hdb : (x == ("__debug__" : Str)) = false := by decide) : PMk X (.Call (.Name x p) [] [] pos) (fun _ H Q => Q (.ref C) none H) := by
  intro pins s σ H Q I h
  refine wpAny_Call_Name_kw (ld_glob I hg gC ?_ hdb)
  refine PySem.W.callWith_K0 I.kIn kC ?_
  show wpAny _ _ (call (.ref C) []) _ _ _
  obtain ⟨bm, N, nm, qn, bs, hdct, sn, sub, ab, col, dd, k0, k1, k2, k3, k5, mN, hC, hN, hni, T⟩ := exc_obj I.kIn q
  refine wpAny_call_exc_subT F T hC hN hni (fun h' e hm => ?_) (Nat.zero_le _)
  exact mk_of I hm r h (I.hok.gone hm.new)
end
/-- what the top says of an own exception class without own __init__ -/
structure ExcK (K : PySem.W.Frag) (mg : Str → Option Value) (x : Str) : Prop where
  gC : mg x = some (.ref (He.ga K x))
  xC : PySem.W.excIn K (He.ga K x) He.veBase "ValueError.__new__" = true
  kC : PySem.W.keepIn K (.ref (He.ga K x)) = true
  bC : PySem.W.subIn K (.ref (He.ga K x)) (.type "BaseException") = some true
  tC : PySem.W.typeIn K (.ref (He.ga K x)) = some (.type "type")
section
variable {X : Cx} {x : Str} {p pos pos2 : Pos} {W : WX}
theorem ps_raise0 (hc : X.calm = true) (T : ExcK X.K X.mg x) (tk : Takes X W) (hg : Gl X x) (hdb : (x == ("__debug__" : Str)) = false := by decide) :
    PS X (.Raise (some (.Call (.Name x p) [] [] pos)) none pos2) (fun _ σ H => W (.ref (He.ga X.K x)) none σ H) := ps_raise hc tk (pmk_own0 PySem.F.excBase_ValueError T.xC T.gC T.kC (raises_own T.bC T.tC) hg hdb)
end
/-- what isinstance asks of an exception's class, as a test of K -/
def excCB (K : PySem.W.Frag) (D : Addr) : Bool :=
  He.eqO (PySem.W.findIn K (.ref D) "__getattribute__") (some (some (.builtin "BaseException.__getattribute__"))) && (He.eqO (PySem.W.findIn K (.ref D) "__getattr__") (some none) && (decide (PySem.W.subIn K (.ref D) (.type "BaseException") = some true) && (PySem.W.hasDictIn K D && (He.eqO (PySem.W.findIn K (.ref D) "__class__") (some (some (.builtin "object.__class__"))) &&
  (decide (PySem.W.specialIn K (.builtin "object.__class__") "__get__" = some (some (.builtin "getset_descriptor.__get__"))) && (decide (PySem.W.takesIn K (.builtin "object.__class__") = some true) && decide (PySem.W.mroIn K D (.type "object") = some true)))))))
theorem excCB_ok {K : PySem.W.Frag} {D : Addr} (h : excCB K D = true) : ExcC K D := by
  unfold excCB at h
  obtain ⟨h1, h⟩ := He.ba h
  obtain ⟨h2, h⟩ := He.ba h
  obtain ⟨h3, h⟩ := He.ba h
  obtain ⟨h4, h⟩ := He.ba h
  obtain ⟨h5, h⟩ := He.ba h
  obtain ⟨h6, h⟩ := He.ba h
  obtain ⟨h7, h8⟩ := He.ba h
  exact ⟨He.eqO_ok h1, He.eqO_ok h2, of_decide_eq_true h3, h4, He.eqO_ok h5, of_decide_eq_true h6, of_decide_eq_true h7, of_decide_eq_true h8⟩
/-- isinstance(e, c), e the caught exception, of the class at D -/
def rIsEx (K : PySem.W.Frag) (D a : Addr) (cls : Value) (d : Option Addr) : List V → Hp → VK → Prop := fun xs H Q => cls = .ref D ∧ d = none ∧ rIsE K D a xs H Q
theorem call_isEx {X : Cx} {a D : Addr} {oe : Obj} {pn : List (Addr × Obj)} {cls : Value} {d : Option Addr} (C : ExcC X.K D) (hz : Zc cls d oe) (hf : ∃ vs, oe.data = .fields vs) : CallR (X.suite a ((a, oe) :: pn)) (.builtin "isinstance") (rIsEx X.K D a cls d) := by
  intro pins s σ H xs us Q I r h
  obtain ⟨e1, e2, h⟩ := h
  subst e1 e2
  exact call_isE C hz hf pins s σ H xs us Q I r h
theorem rdIsEx {K : PySem.W.Frag} {D a : Addr} {H : Hp} {Q : VK} {c : V} {cv : Value} {b : Bool} (hc : ∀ u, RelV c u → u = cv) (k : PySem.W.kitOne K (.ref D) cv = some b) (q : Q (.bl b) H) : rIsEx K D a (.ref D) none [.ref a, c] H Q := ⟨rfl, rfl, c, cv, b, rfl, hc, k, q⟩
/-! ### words for readings -/
theorem bb_int : bootBuiltins "int" = some (.type "int") := by decide +kernel
theorem bb_abs : bootBuiltins "abs" = some (.builtin "abs") := by decide +kernel
theorem bb_list : bootBuiltins "list" = some (.type "list") := by decide +kernel
theorem bb_len : bootBuiltins "len" = some (.builtin "len") := by decide +kernel
theorem bb_isinstance : bootBuiltins "isinstance" = some (.builtin "isinstance") := by decide +kernel
theorem bb_tuple : bootBuiltins "tuple" = some (.type "tuple") := by decide +kernel
theorem bb_bool : bootBuiltins "bool" = some (.type "bool") := by decide +kernel
theorem bb_str : bootBuiltins "str" = some (.type "str") := by decide +kernel
theorem bb_ValueError : bootBuiltins "ValueError" = some (.type "ValueError") := by decide +kernel
theorem bb_min : bootBuiltins "min" = some (.builtin "min") := by decide +kernel
theorem bb_max : bootBuiltins "max" = some (.builtin "max") := by decide +kernel
theorem bb_sum : bootBuiltins "sum" = some (.builtin "sum") := by decide +kernel
theorem bb_any : bootBuiltins "any" = some (.builtin "any") := by decide +kernel
theorem bb_all : bootBuiltins "all" = some (.builtin "all") := by decide +kernel
theorem bb_sorted : bootBuiltins "sorted" = some (.builtin "sorted") := by decide +kernel
theorem bb_repr : bootBuiltins "repr" = some (.builtin "repr") := by decide +kernel
/-- isinstance of data -/
def tyD : PyData → String
  | .none => "NoneType"
  | .bool _ => "bool"
  | .int _ => "int"
  | .str _ => "str"
  | .list _ => "list"
  | .tuple _ => "tuple"
  | .dict _ => "dict"
theorem tyx {K : PySem.W.Frag} {H : Hp} {v : V} {d : PyData} (h : Dp K H v d) : TyX K H v (.type (tyD d)) := by
  cases h with
  | non => exact .base .non
  | bl b => exact .base (.bl b)
  | int i => exact .base (.int i)
  | str x => exact .base (.str x)
  | lst hs _ =>
    rcases hs with (hs | ⟨o, hs⟩) | ⟨o, its, n, hl, hc, _⟩
    · exact .base (.lst hs)
    · exact .base (.frz hs)
    · exact .kList hl hc
  | tup hs _ =>
    rcases hs with (hs | ⟨o, hs⟩) | ⟨o, its, n, hl, hc, _⟩
    · exact .base (.tup hs)
    · exact .fTuple hs
    · exact .kTuple hl hc
/-- isinstance(x, T): the answer by the data's type -/
theorem isiD {K : PySem.W.Frag} {H : Hp} {v : V} {d : PyData} {T : String} {b : Bool} {Q : VK} (h : Dp K H v d) (k : kitB (tyD d) T = some b) (q : Q (.bl b) H) : rIsi K [v, .ty T] H Q := ⟨v, .ty T, .type (tyD d), .type T, b, rfl, .ty T, tyx h, kit_ty k, q⟩
/-! ### readings, step by step: each name says which construct has come -/
theorem log2_le {x a : Nat} (h : x < 2 ^ a) : x.log2 ≤ a := by
  by_cases ha : a = 0
  · subst ha
    have : x = 0 := by omega
    subst this
    exact Nat.le_of_eq (by decide)
  · exact Nat.le_of_lt (PySem.Flt.log2_lt_of (by omega) h)
theorem mulW {i j : Int} {a b : Nat} (ha : i.natAbs < 2 ^ a) (hb : j.natAbs < 2 ^ b) (h : a + b ≤ 900000) : CMulG i j := .inr <| by
  have h1 := log2_le ha
  have h2 := log2_le hb
  unfold CMulW
  omega
theorem divX {i j : Int} {b : Nat} (h : j ≠ 0) (hb : j.natAbs < 2 ^ b) (h9 : b < 9000) : CDivX i j := ⟨h, Nat.lt_of_le_of_lt (log2_le hb) h9⟩
/-! named readings of built-in calls -/
def rInt1 : List V → Hp → VK → Prop := fun xs H Q => (∃ i, xs = [.int i] ∧ Q (.int i) H) ∨ ∃ k, xs = [.bl k] ∧ Q (.int (if k then 1 else 0)) H
def rStrI : List V → Hp → VK → Prop := fun xs H Q => ∃ i, xs = [.int i] ∧ i.natAbs.log2 < 1920 ∧ Q (.str (toString i)) H
def rMin2 : List V → Hp → VK → Prop := fun xs H Q => ∃ i j, xs = [.int i, .int j] ∧ Q (.int (if j < i then j else i)) H
def rAbs1 : List V → Hp → VK → Prop := fun xs H Q => ∃ i, xs = [.int i] ∧ Q (.int (if i < 0 then -i else i)) H
def rLenS (K : PySem.W.Frag) : List V → Hp → VK → Prop := fun xs H Q => ∃ p ys, xs = [.ref p] ∧ (SqL K H p ys ∨ SqT K H p ys) ∧ Q (.int ys.length) H
def rListOf (K : PySem.W.Frag) : List V → Hp → VK → Prop := fun xs H Q => ∃ p ys, xs = [.ref p] ∧ (SqL K H p ys ∨ SqT K H p ys) ∧ ∀ l, H l = none → Q (.ref l) (upd H l (.lst ys))
section
variable {X : Cx}
theorem cl_int : CallR X (.type "int") rInt1 := call_int1
theorem cl_str : CallR X (.type "str") rStrI := call_str_int
theorem cl_min2 (hc : X.calm = true) : CallR X (.builtin "min") rMin2 := call_min2 hc
theorem cl_abs : CallR X (.builtin "abs") rAbs1 := call_abs
theorem cl_len : CallR X (.builtin "len") (rLenS X.K) := call_len_seq
theorem cl_list : CallR X (.type "list") (rListOf X.K) := call_list_of
end
def rIsN1 : R2 := fun x y H Q => y = .non ∧ Q (.bl (decide (x = .non))) H
def rNotN1 : R2 := fun x y H Q => y = .non ∧ Q (.bl (!decide (x = .non))) H
section
variable {X : Cx}
theorem op_isNo : OpR X (compareOp .Is) rIsN1 := op_isN
theorem op_notNo : OpR X (compareOp .IsNot) rNotN1 := op_notN
end
/-- == and !=: of scalars, or of data -/
def rEqA (K : PySem.W.Frag) : R2 := fun x y H Q => rEq x y H Q ∨ rEqD K x y H Q
def rNeA (K : PySem.W.Frag) : R2 := fun x y H Q => rNe x y H Q ∨ rNeD K x y H Q
section
variable {X : Cx}
theorem op_eqA (hu : X.A.units + 64 < cLine) : OpR X (compareOp .Eq) (rEqA X.K) := fun pins s σ H x y v u Q I rx ry h => h.elim (op_eq pins s σ H x y v u Q I rx ry) (op_eqD hu pins s σ H x y v u Q I rx ry)
theorem op_neA (hu : X.A.units + 64 < cLine) : OpR X (compareOp .NotEq) (rNeA X.K) := fun pins s σ H x y v u Q I rx ry h => h.elim (op_ne pins s σ H x y v u Q I rx ry) (op_neD hu pins s σ H x y v u Q I rx ry)
end
/-! the same rules with the written part named (in a comprehension's element) -/
section
variable {X : Cx} {K : PySem.W.Frag}
theorem ix_seqK (h : X.K = K) : IxR X (rIx K) := by
  subst h
  exact ix_seq
theorem cl_lenK (h : X.K = K) : CallR X (.builtin "len") (rLenS K) := by
  subst h
  exact cl_len
theorem cl_listK (h : X.K = K) : CallR X (.type "list") (rListOf K) := by
  subst h
  exact cl_list
theorem op_eqAK (h : X.K = K) (hu : X.A.units + 64 < cLine) : OpR X (compareOp .Eq) (rEqA K) := by
  subst h
  exact op_eqA hu
theorem op_neAK (h : X.K = K) (hu : X.A.units + 64 < cLine) : OpR X (compareOp .NotEq) (rNeA K) := by
  subst h
  exact op_neA hu
theorem call_isiKK (h : X.K = K) : CallR X (.builtin "isinstance") (rIsi K) := by
  subst h
  exact call_isi
end
/-! a sequence whose first part meets again: what holds behind it is said once -/
def tSeqJ (t u : TS) : TS := fun D σ H => ∀ U : L2.St → Hp → Prop, (∀ σ' H', u D σ' H' → U σ' H') → t { D with nx := U } σ H
theorem pss_consJ {X : Cx} {st : Stmt} {rest : List Stmt} {t u : TS} (h1 : PS X st t) (h2 : PSs X rest u) : PSs X (st :: rest) (tSeqJ t u) := ⟨fun pins s σ H D I h => (pss_cons h1 h2).run pins s σ H D I (h _ fun _ _ x => x)⟩
theorem seqJ {t u : TS} {D : Ends} {σ : L2.St} {H : Hp} (R : L2.St → Hp → Prop) (h1 : ∀ U : L2.St → Hp → Prop, (∀ σ' H', R σ' H' → U σ' H') → t { D with nx := U } σ H) (h2 : ∀ σ' H', R σ' H' → u D σ' H') : tSeqJ t u D σ H := fun U hU => h1 U fun σ' H' r => hU _ _ (h2 σ' H' r)
section
variable {K : PySem.W.Frag} {H : Hp} {Q : VK} {σ : L2.St}
theorem rdV {i : Nat} {v : V} (h : σ[i]? = some (some v)) (q : Q v H) : tVar i σ H Q := ⟨v, h, q⟩
theorem rdAdd {i j : Int} (q : Q (.int (i + j)) H) : rI0 (fun i j => .int (i + j)) (.int i) (.int j) H Q := ⟨i, j, rfl, rfl, q⟩
theorem rdSub {i j : Int} (q : Q (.int (i - j)) H) : rI0 (fun i j => .int (i - j)) (.int i) (.int j) H Q := ⟨i, j, rfl, rfl, q⟩
theorem rdMul {i j : Int} (c : CMulG i j) (q : Q (.int (i * j)) H) : rI CMulG (fun i j => .int (i * j)) (.int i) (.int j) H Q := ⟨i, j, rfl, rfl, c, q⟩
theorem rdDiv {i j : Int} (c : CDivX i j) (q : Q (.int (i.fdiv j)) H) : rI CDivX (fun i j => .int (i.fdiv j)) (.int i) (.int j) H Q := ⟨i, j, rfl, rfl, c, q⟩
theorem rdDivP {i j : Int} {b : Nat} (h : 0 < j) (hb : j.natAbs < 2 ^ b) (h9 : b < 9000) (q : Q (.int (i / j)) H) : rI CDivX (fun i j => .int (i.fdiv j)) (.int i) (.int j) H Q := ⟨i, j, rfl, rfl, divX (by omega) hb h9, by show Q (.int (i.fdiv j)) H; rw [fdiv_pos h]; exact q⟩
theorem rdMod {i j : Int} (c : 0 < j) (q : Q (.int (i % j)) H) : rI (fun _ j => 0 < j) (fun i j => .int (i % j)) (.int i) (.int j) H Q := ⟨i, j, rfl, rfl, c, q⟩
theorem rdNeg {i : Int} (q : Q (.int (-i)) H) : rU (fun i => .int (-i)) (.int i) H Q := ⟨i, rfl, q⟩
theorem rdEqI {i j : Int} (q : Q (.bl (decide (i = j))) H) : rEqA K (.int i) (.int j) H Q := .inl <| ⟨rfl, by
  have e : decide (V.int i = V.int j) = decide (i = j) := by
    rw [dec_int]
    exact Bool.beq_eq_decide_eq ..
  rw [e]
  exact q⟩
theorem rdNeI {i j : Int} (q : Q (.bl (!decide (i = j))) H) : rNeA K (.int i) (.int j) H Q := .inl <| ⟨rfl, by
  have e : decide (V.int i = V.int j) = decide (i = j) := by
    rw [dec_int]
    exact Bool.beq_eq_decide_eq ..
  rw [e]
  exact q⟩
theorem rdLt {i j : Int} (q : Q (.bl (decide (i < j))) H) : rI0 (fun i j => .bl (decide (i < j))) (.int i) (.int j) H Q := ⟨i, j, rfl, rfl, q⟩
theorem rdGt {i j : Int} (q : Q (.bl (decide (j < i))) H) : rI0 (fun i j => .bl (decide (j < i))) (.int i) (.int j) H Q := ⟨i, j, rfl, rfl, q⟩
theorem rdLe {i j : Int} (q : Q (.bl (decide (i ≤ j))) H) : rI0 (fun i j => .bl (decide (i ≤ j))) (.int i) (.int j) H Q := ⟨i, j, rfl, rfl, q⟩
theorem rdGe {i j : Int} (q : Q (.bl (decide (j ≤ i))) H) : rI0 (fun i j => .bl (decide (j ≤ i))) (.int i) (.int j) H Q := ⟨i, j, rfl, rfl, q⟩
theorem rdPow {i j : Int} (c : CPow i j) (q : Q (.int (i ^ j.toNat)) H) : rI CPow (fun i j => .int (i ^ j.toNat)) (.int i) (.int j) H Q := ⟨i, j, rfl, rfl, c, q⟩
theorem rdInt {i : Int} (q : Q (.int i) H) : rInt1 [.int i] H Q := .inl ⟨i, rfl, q⟩
theorem rdMin2 {m n : Nat} (q : Q (.int ((min m n : Nat) : Int)) H) : rMin2 [.int (m : Int), .int (n : Int)] H Q := ⟨_, _, rfl, by
  have e : (if (n : Int) < m then (n : Int) else m) = ((min m n : Nat) : Int) := by split <;> omega
  rw [e]
  exact q⟩
theorem rdStrI {i : Int} {n : Nat} (h : i.natAbs < 2 ^ n) (hn : n < 1920) (q : Q (.str (toString i)) H) : rStrI [.int i] H Q := ⟨i, rfl, Nat.lt_of_le_of_lt (log2_le h) hn, q⟩
theorem rdIntB {b : Bool} (q : Q (.int (if b then 1 else 0)) H) : rInt1 [.bl b] H Q := .inr ⟨b, rfl, q⟩
theorem rdAbs {i : Int} (q : Q (.int (i.natAbs : Int)) H) : rAbs1 [.int i] H Q := ⟨i, rfl, by
  have e : (if i < 0 then -i else i) = (i.natAbs : Int) := by split <;> omega
  rw [e]
  exact q⟩
theorem rdLenT {a : Addr} {xs : List V} (h : SqT K H a xs) (q : Q (.int (xs.length : Int)) H) : rLenS K [.ref a] H Q := ⟨a, xs, rfl, .inr h, q⟩
theorem rdLenL {a : Addr} {xs : List V} (h : SqL K H a xs) (q : Q (.int (xs.length : Int)) H) : rLenS K [.ref a] H Q := ⟨a, xs, rfl, .inl h, q⟩
theorem rdListL {a : Addr} {xs : List V} (h : SqL K H a xs) (q : ∀ l, H l = none → Q (.ref l) (upd H l (.lst xs))) : rListOf K [.ref a] H Q := ⟨a, xs, rfl, .inl h, q⟩
theorem rdListT {a : Addr} {xs : List V} (h : SqT K H a xs) (q : ∀ l, H l = none → Q (.ref l) (upd H l (.lst xs))) : rListOf K [.ref a] H Q := ⟨a, xs, rfl, .inr h, q⟩
theorem rdIxT {a : Addr} {xs : List V} {i : Int} {v : V} (h : SqT K H a xs) (e : atI xs i = some v) (q : Q v H) : rIx K (.ref a) (.int i) H Q := .inr (.inl ⟨a, xs, i, v, rfl, rfl, h, e, q⟩)
theorem rdIxL {a : Addr} {xs : List V} {i : Int} {v : V} (h : SqL K H a xs) (e : atI xs i = some v) (q : Q v H) : rIx K (.ref a) (.int i) H Q := .inl ⟨a, xs, i, v, rfl, rfl, h, e, q⟩
theorem ixFr0 {x : V} {r : Rat} (h : Fr K H x r) (q : Q (.int r.num) H) : rIx K x (.int 0) H Q := by
  obtain ⟨a, rfl, hs⟩ := h.get
  exact rdIxT hs rfl q
theorem ixFr1 {x : V} {r : Rat} (h : Fr K H x r) (q : Q (.int (r.den : Int)) H) : rIx K x (.int 1) H Q := by
  obtain ⟨a, rfl, hs⟩ := h.get
  exact rdIxT hs rfl q
theorem dpPair {x : V} {p q : Int} (h : Dp K H x (.tuple [.int p, .int q])) : ∃ a, x = .ref a ∧ SqT K H a [.int p, .int q] := by
  cases h with
  | tup hs ha =>
    cases ha with
    | cons h1 h2 =>
      cases h2 with
      | cons h2 h3 =>
        cases h3
        cases h1
        cases h2
        exact ⟨_, rfl, hs⟩
theorem ixP0 {x : V} {p z : Int} (h : Dp K H x (.tuple [.int p, .int z])) (q : Q (.int p) H) : rIx K x (.int 0) H Q := by
  obtain ⟨a, rfl, hs⟩ := dpPair h
  exact rdIxT hs rfl q
theorem ixP1 {x : V} {p z : Int} (h : Dp K H x (.tuple [.int p, .int z])) (q : Q (.int z) H) : rIx K x (.int 1) H Q := by
  obtain ⟨a, rfl, hs⟩ := dpPair h
  exact rdIxT hs rfl q
theorem rdGcd {a b : Int} (q : Q (.int ((Nat.gcd a.natAbs b.natAbs : Nat) : Int)) H) : rGcd [.int a, .int b] H Q := ⟨a, b, rfl, q⟩
end
/-! loops, the ends by parts -/
theorem forRange {lo : Int} {n : Nat} {g : TG} {tb : TS} {nx : L2.St → Hp → Prop} {rt : VK} {σ : L2.St} {H : Hp} (Pv : Nat → L2.St → Hp → Prop) (h0 : Pv 0 σ H)
    (hs : ∀ i σ H, i < n → Pv i σ H → g (.int (lo + i)) σ H fun σ2 H2 => tb { nx := Pv (i + 1), rt := rt, ct := Pv (i + 1), bk := nx } σ2 H2) (hd : ∀ σ H, Pv n σ H → nx σ H) :
    ∃ W : Nat → Nat → L2.St → Hp → Prop, (∃ m, W 0 m σ H) ∧ ∀ i m σ H, W i m σ H →
      ((Itr lo n).stop i H ∧ nx σ H) ∨ ((Itr lo n).go i H ∧ ∃ N : L2.St → Hp → Prop, (∀ σ' H', N σ' H' → ∃ m', m' < m ∧ W (i + 1) m' σ' H') ∧ ∀ x H', (Itr lo n).yld i H x H' → g x σ H' fun σ2 H2 => tb { nx := N, rt := rt, ct := N, bk := nx } σ2 H2) :=
  for_range (D := { nx := nx, rt := rt }) Pv h0 hs hd
theorem forList {K : PySem.W.Frag} {a : Addr} {xs : List V} {g : TG} {tb : TS} {nx : L2.St → Hp → Prop} {rt : VK} {σ : L2.St} {H : Hp} (Pv : Nat → L2.St → Hp → Prop) (h0 : Pv 0 σ H) (hl : ∀ i σ H, i ≤ xs.length → Pv i σ H → SqL K H a xs)
    (hs : ∀ i x σ H, xs[i]? = some x → Pv i σ H → g x σ H fun σ2 H2 => tb { nx := Pv (i + 1), rt := rt, ct := Pv (i + 1), bk := nx } σ2 H2) (hd : ∀ σ H, Pv xs.length σ H → nx σ H) :
    ∃ W : Nat → Nat → L2.St → Hp → Prop, (∃ m, W 0 m σ H) ∧ ∀ i m σ H, W i m σ H →
      ((Itl K a).stop i H ∧ nx σ H) ∨ ((Itl K a).go i H ∧ ∃ N : L2.St → Hp → Prop, (∀ σ' H', N σ' H' → ∃ m', m' < m ∧ W (i + 1) m' σ' H') ∧ ∀ x H', (Itl K a).yld i H x H' → g x σ H' fun σ2 H2 => tb { nx := N, rt := rt, ct := N, bk := nx } σ2 H2) :=
  for_list (D := { nx := nx, rt := rt }) Pv h0 hl hs hd
theorem noExc {P : Program} {w : World} {H : Hp} {s : Shared} {e : Value} {s' : Shared} (z : L2.CX P w [] H s (fun _ _ _ => False) e s') : False := by
  obtain ⟨_, _, _, _, _, _, _, _, _, _, _, _, z⟩ := z
  exact z.elim
/-! ### isinstance of data, by the type -/
def dInt : PyData → Bool
  | .int _ => true
  | .bool _ => true
  | _ => false
def dBool : PyData → Bool
  | .bool _ => true
  | _ => false
def dStr : PyData → Bool
  | .str _ => true
  | _ => false
def dTup : PyData → Bool
  | .tuple _ => true
  | _ => false
def dLst : PyData → Bool
  | .list _ => true
  | _ => false
section
variable {K : PySem.W.Frag} {H : Hp} {Q : VK} {v : V} {d : PyData}
theorem isiInt (h : Dp K H v d) (q : Q (.bl (dInt d)) H) : rIsi K [v, .ty "int"] H Q := isiD h (by
  cases h with
  | non => exact (by decide +kernel : kitB "NoneType" "int" = some false)
  | bl b => exact (by decide +kernel : kitB "bool" "int" = some true)
  | int i => exact (by decide +kernel : kitB "int" "int" = some true)
  | str x => exact (by decide +kernel : kitB "str" "int" = some false)
  | lst h1 h2 => exact (by decide +kernel : kitB "list" "int" = some false)
  | tup h1 h2 => exact (by decide +kernel : kitB "tuple" "int" = some false)) q
theorem isiBool (h : Dp K H v d) (q : Q (.bl (dBool d)) H) : rIsi K [v, .ty "bool"] H Q := isiD h (by
  cases h with
  | non => exact (by decide +kernel : kitB "NoneType" "bool" = some false)
  | bl b => exact (by decide +kernel : kitB "bool" "bool" = some true)
  | int i => exact (by decide +kernel : kitB "int" "bool" = some false)
  | str x => exact (by decide +kernel : kitB "str" "bool" = some false)
  | lst h1 h2 => exact (by decide +kernel : kitB "list" "bool" = some false)
  | tup h1 h2 => exact (by decide +kernel : kitB "tuple" "bool" = some false)) q
theorem isiStr (h : Dp K H v d) (q : Q (.bl (dStr d)) H) : rIsi K [v, .ty "str"] H Q := isiD h (by
  cases h with
  | non => exact (by decide +kernel : kitB "NoneType" "str" = some false)
  | bl b => exact (by decide +kernel : kitB "bool" "str" = some false)
  | int i => exact (by decide +kernel : kitB "int" "str" = some false)
  | str x => exact (by decide +kernel : kitB "str" "str" = some true)
  | lst h1 h2 => exact (by decide +kernel : kitB "list" "str" = some false)
  | tup h1 h2 => exact (by decide +kernel : kitB "tuple" "str" = some false)) q
theorem isiTup (h : Dp K H v d) (q : Q (.bl (dTup d)) H) : rIsi K [v, .ty "tuple"] H Q := isiD h (by
  cases h with
  | non => exact (by decide +kernel : kitB "NoneType" "tuple" = some false)
  | bl b => exact (by decide +kernel : kitB "bool" "tuple" = some false)
  | int i => exact (by decide +kernel : kitB "int" "tuple" = some false)
  | str x => exact (by decide +kernel : kitB "str" "tuple" = some false)
  | lst h1 h2 => exact (by decide +kernel : kitB "list" "tuple" = some false)
  | tup h1 h2 => exact (by decide +kernel : kitB "tuple" "tuple" = some true)) q
theorem isiLst (h : Dp K H v d) (q : Q (.bl (dLst d)) H) : rIsi K [v, .ty "list"] H Q := isiD h (by
  cases h with
  | non => exact (by decide +kernel : kitB "NoneType" "list" = some false)
  | bl b => exact (by decide +kernel : kitB "bool" "list" = some false)
  | int i => exact (by decide +kernel : kitB "int" "list" = some false)
  | str x => exact (by decide +kernel : kitB "str" "list" = some false)
  | lst h1 h2 => exact (by decide +kernel : kitB "list" "list" = some true)
  | tup h1 h2 => exact (by decide +kernel : kitB "tuple" "list" = some false)) q
end
def dNon : PyData → Bool
  | .none => true
  | _ => false
section
variable {K : PySem.W.Frag} {H : Hp} {Q : VK} {v : V} {d : PyData}
theorem dNon_eq (h : Dp K H v d) : decide (v = .non) = dNon d := by cases h <;> rfl
theorem rdIsN (h : Dp K H v d) (q : Q (.bl (dNon d)) H) : rIsN1 v .non H Q := ⟨rfl, by rw [dNon_eq h]; exact q⟩
theorem rdNotN (h : Dp K H v d) (q : Q (.bl (!dNon d)) H) : rNotN1 v .non H Q := ⟨rfl, by rw [dNon_eq h]; exact q⟩
theorem rdEqB {i j : Bool} (q : Q (.bl (decide (i = j))) H) : rEqA K (.bl i) (.bl j) H Q := .inl <| ⟨rfl, by
  have e : decide (V.bl i = V.bl j) = decide (i = j) := by
    rw [dec_bl]
    exact Bool.beq_eq_decide_eq ..
  rw [e]
  exact q⟩
theorem rdEqS {i j : Str} (q : Q (.bl (decide (i = j))) H) : rEqA K (.str i) (.str j) H Q := .inl <| ⟨rfl, by
  have e : decide (V.str i = V.str j) = decide (i = j) := by
    rw [dec_str]
    exact Bool.beq_eq_decide_eq ..
  rw [e]
  exact q⟩
theorem rdNeS {i j : Str} (q : Q (.bl (!decide (i = j))) H) : rNeA K (.str i) (.str j) H Q := .inl <| ⟨rfl, by
  have e : decide (V.str i = V.str j) = decide (i = j) := by
    rw [dec_str]
    exact Bool.beq_eq_decide_eq ..
  rw [e]
  exact q⟩
end
/-- a display's reading, by name -/
def rTup : List V → Hp → VK → Prop := fun xs H Q => xs.length ≤ sizeLine ∧ ∀ p, H p = none → Q (.ref p) (upd H p (.tup xs))
def rLst : List V → Hp → VK → Prop := fun xs H Q => xs.length ≤ sizeLine ∧ ∀ p, H p = none → Q (.ref p) (upd H p (.lst xs))
def tTupN (t : TA) : TE := fun σ H Q => t σ H fun xs H1 => rTup xs H1 Q
def tLstN (t : TA) : TE := fun σ H Q => t σ H fun xs H1 => rLst xs H1 Q
/-! displays of data: what is laid is new -/
section
variable {K : PySem.W.Frag} {H : Hp} {Q : VK}
theorem rdTupD {xs : List V} {ds : List PyData} (h : DpAll K H xs ds) (hz : xs.length ≤ sizeLine) (q : ∀ H' v, Same H H' → Dp K H' v (.tuple ds) → Q v H') : rTup xs H Q :=
  ⟨hz, fun p np => q _ _ (sameNew np) (.tup (.inl (.inl upd_same)) (Dp.monoAll (sameNew np) _ _ h))⟩
theorem rdLstD {xs : List V} {ds : List PyData} (h : DpAll K H xs ds) (hz : xs.length ≤ sizeLine) (q : ∀ H' v, Same H H' → Dp K H' v (.list ds) → Q v H') : rLst xs H Q :=
  ⟨hz, fun p np => q _ _ (sameNew np) (.lst (.inl (.inl upd_same)) (Dp.monoAll (sameNew np) _ _ h))⟩
/-- a display, its list tracked -/
theorem rdLstH {xs : List V} (hz : xs.length ≤ sizeLine) (q : ∀ H' p, Same H H' → H p = none → H' p = some (.lst xs) → Q (.ref p) H') : rLst xs H Q :=
  ⟨hz, fun p np => q _ _ (sameNew np) np upd_same⟩
end
section
variable {X : Cx} {es : List Expr} {t : TA} {pos : Pos}
theorem pe_tupN {x1} (h : PA X es t) : PE X (.Tuple es x1 pos) (tTupN t) := pe_tup h
theorem pe_lstN (h : PA X es t) : PE X (.List es pos) (tLstN t) := pe_lst h
end
theorem small_line {n : Nat} (h : n ≤ 1000) : n ≤ sizeLine := Nat.le_of_lt (small1000 h)
theorem dpAll_len {K : PySem.W.Frag} {H : Hp} : ∀ {xs : List V} {ds : List PyData}, DpAll K H xs ds → xs.length = ds.length
  | _, _, .nil => rfl
  | _, _, .cons _ h2 => congrArg Nat.succ (dpAll_len h2)
theorem dpAll_two {K : PySem.W.Frag} {H : Hp} {xs : List V} {ds : List PyData} (h : DpAll K H xs ds) (l : ds.length = 2) : ∃ v1 v2 x y, xs = [v1, v2] ∧ ds = [x, y] ∧ Dp K H v1 x ∧ Dp K H v2 y := by
  match ds, h, l with
  | [x, y], .cons (v := v1) g1 (.cons (v := v2) g2 .nil), _ => exact ⟨v1, v2, x, y, rfl, rfl, g1, g2⟩
theorem dTup_of {K : PySem.W.Frag} {H : Hp} {v : V} {d : PyData} (h : Dp K H v d) (t : dTup d = true) : ∃ a xs ds, v = .ref a ∧ d = .tuple ds ∧ SqT K H a xs ∧ DpAll K H xs ds := by
  cases h with
  | tup h1 h2 => exact ⟨_, _, _, rfl, rfl, h1, h2⟩
  | _ => cases t
theorem dInt_of {K : PySem.W.Frag} {H : Hp} {v : V} {i : Int} (h : Dp K H v (.int i)) : v = .int i := by
  cases h
  rfl
/-- all items, as a conjunction -/
def allP {α : Type} (P : α → Prop) : List α → Prop
  | [] => True
  | x :: xs => P x ∧ allP P xs
theorem allP_get {α : Type} {P : α → Prop} : ∀ {xs : List α} {i : Nat} {x : α}, allP P xs → xs[i]? = some x → P x
  | [], _, _, _, h => by simp at h
  | y :: r, 0, x, a, h => by
    simp at h
    subst h
    exact a.1
  | y :: r, i + 1, x, a, h => allP_get (i := i) a.2 (by simpa using h)
theorem frD_int (p : Int) : frD (Rat.divInt p 1) = .tuple [.int p, .int 1] := by
  unfold frD
  rw [← num_pos (p := p) (q := 1) (by decide), ← den_pos (p := p) (q := 1) (by decide)]
  have e : Nat.gcd p.natAbs (1 : Int).natAbs = 1 := Nat.gcd_one_right _
  rw [e]
  simp
theorem fr_int {K : PySem.W.Frag} {H : Hp} {v : V} {p : Int} (h : Dp K H v (.tuple [.int p, .int 1])) : Fr K H v (Rat.divInt p 1) := by
  unfold Fr
  rw [frD_int]
  exact h
/-- the law's end, for defs that may raise (the wish of the caller: nothing is let out) -/
theorem endOfLaw {l : PySem.W.OpenLaw} {n k : Nat} {q : Program} {loose : List Str} {XP : (Str → Option Value) → Heap → Prop} {YP : World → Heap → Prop} {d : DefRec} {x : Str}
    (most : l.most = some n) (small : n ≤ sizeLine) (plain : d.params.defaults = []) (room : Room k callerA)
    (all : ∀ (w : World) (mg : Str → Option Value) (fa : Addr) (h : Heap), YP w h → h.Ns mainGlobals mg → mg d.name = some (.ref fa) → ∃ (K : PySem.W.Frag) (fd : FuncData) (sp : Sp), K.In h ∧
      (∀ (s : Shared) (u : Value), BindsTo s fd ⟨[u], []⟩ [(x, u)]) ∧ (∀ (H : Hp) (a : Addr) (ns : List Int), ns.length ≤ n → Only H → SqL K H a (ns.map V.int) → sp [.ref a] H (fun v _ => v = .bl true) E0) ∧
      ∀ base : Heap, K.In base → base.Ns mainGlobals mg → FnOk l.prog w K mg base (L2.CX l.prog w) k fa fd [x] sp) :
    PySem.W.WalkO q loose XP YP l.row.toRowW d [] (fun f vs => PySem.call f vs) := by
  refine Att.attach_call most plain fun w sA sB mg mb fa o pm cd doc a vs ns G Y h1 h2 h3 hm ha hi len hg => ?_
  obtain ⟨K, fd, sp, kin, bnd, want, ok⟩ := all w mg fa _ Y G.T.g hm
  refine law_call kin G.T.g G.T.b G.T.builtins G.T.nolimit hg ha hi (Nat.le_trans len small) room ok bnd (fun H o S => want H a ns len o S) fun H e s' => noExc
theorem shaped_fr (r : Rat) : SeqAt.shaped (frD r) = true := rfl
theorem eqv_fr (r s : Rat) : PyData.eqv (frD r) (frD s) = decide (r = s) := by
  have e : PyData.eqv (frD r) (frD s) = ((r.num == s.num) && (((r.den : Int) == (s.den : Int)) && true)) := rfl
  rw [e, Bool.and_true, Bool.eq_iff_iff, decide_eq_true_iff, Bool.and_eq_true, beq_iff_eq, beq_iff_eq]
  exact ⟨fun h => Rat.ext h.1 (by omega), fun h => by rw [h]; exact ⟨rfl, rfl⟩⟩
section
variable {K : PySem.W.Frag} {H : Hp} {Q : VK} {x y : V} {r s : Rat}
theorem rdEqFr (h1 : Fr K H x r) (h2 : Fr K H y s) (q : Q (.bl (decide (r = s))) H) : rEqA K x y H Q := .inr ⟨_, _, h1, h2, shaped_fr r, shaped_fr s, by rw [eqv_fr]; exact q⟩
theorem rdNeFr (h1 : Fr K H x r) (h2 : Fr K H y s) (q : Q (.bl (!decide (r = s))) H) : rNeA K x y H Q := .inr ⟨_, _, h1, h2, shaped_fr r, shaped_fr s, by rw [eqv_fr]; exact q⟩
end
theorem line2 : 2 ≤ sizeLine := by decide
theorem line1 : 1 ≤ sizeLine := by decide
theorem line3 : 3 ≤ sizeLine := by decide
theorem line4 : 4 ≤ sizeLine := by decide
/-- an if whose test is a Bool -/
theorem ifB {b : Bool} {A B : Prop} (h1 : b = true → A) (h2 : b = false → B) : if b = true then A else B := by
  cases b with
  | true => exact h1 rfl
  | false => exact iteF (h2 rfl)
theorem ifBF {b : Bool} {A B : Prop} (h : b = false) (q : B) : if b = true then A else B := by
  rw [h]
  exact iteF q
theorem ifNe {c : Prop} [Decidable c] {A B : Prop} (h : c) (q : B) : if (!decide c) = true then A else B := ifBF (by rw [decide_eq_true h]; rfl) q
theorem ifYes {c : Prop} [Decidable c] {A B : Prop} (h : c) (q : A) : if decide c = true then A else B := by
  rw [decide_eq_true h]
  exact iteT q
theorem ifNo {c : Prop} [Decidable c] {A B : Prop} (h : ¬c) (q : B) : if decide c = true then A else B := by
  rw [decide_eq_false h]
  exact iteF q
theorem ifP {c : Prop} [Decidable c] {A B : Prop} (h : c) (q : A) : if c then A else B := by
  rw [if_pos h]
  exact q
theorem ifN {c : Prop} [Decidable c] {A B : Prop} (h : ¬c) (q : B) : if c then A else B := by
  rw [if_neg h]
  exact q
theorem ifBT {b : Bool} {A B : Prop} (h : b = true) (q : A) : if b = true then A else B := by
  rw [h]
  exact iteT q
theorem ifD {c : Prop} [Decidable c] {A B : Prop} (h1 : c → A) (h2 : ¬c → B) : if decide c = true then A else B := by
  by_cases h : c
  · rw [decide_eq_true h]
    exact h1 h
  · rw [decide_eq_false h]
    exact iteF (h2 h)
end Ub

namespace Ub
open PySem PySem.Spec PyProof.Rows L2 UbM
/-! ### the law's deck: a list [cells, place, rest, seed] -/
/-- all stands but what is at d -/
def But (d : Addr) (H H' : Hp) : Prop := ∀ b o, b ≠ d → H b = some o → H' b = some o
/-- the deck at d, its cells at s -/
def DeckS (H : Hp) (d s : Addr) : Prop := ∃ (ns : List Int) (i r m : Int), H d = some (.lst [.ref s, .int i, .int r, .int m]) ∧ H s = some (.lst (ns.map V.int)) ∧ s ≠ d ∧ 0 ≤ i ∧ ns.length ≤ 63
/-- what a draw leaves: all but the deck's own list; the deck keeps its cells -/
structure SameX (d : Addr) (H H' : Hp) : Prop where
  but : But d H H'
  cells : ∀ s, DeckS H d s → DeckS H' d s
theorem SameX.refl {d : Addr} (H : Hp) : SameX d H H := ⟨fun _ _ _ h => h, fun _ h => h⟩
theorem SameX.trans {d : Addr} {H H1 H2 : Hp} (a : SameX d H H1) (b : SameX d H1 H2) : SameX d H H2 := ⟨fun c o n h => b.but c o n (a.but c o n h), fun s h => b.cells s (a.cells s h)⟩
theorem Same.x {d : Addr} {H H' : Hp} (a : Same H H') : SameX d H H' := ⟨fun b o _ h => a b o h, fun s ⟨ns, i, r, m, h1, h2, h3⟩ => ⟨ns, i, r, m, a _ _ h1, a _ _ h2, h3⟩⟩
theorem but_upd {d : Addr} {H : Hp} {o : HO} : But d H (upd H d o) := fun b x n h => by
  rw [upd_ne n]
  exact h
theorem sameX_deck {d s : Addr} {H : Hp} {i r m : Int} {j t k : Int} (h : H d = some (.lst [.ref s, .int j, .int t, .int k])) (hi : 0 ≤ i) : SameX d H (upd H d (.lst [.ref s, .int i, .int r, .int m])) :=
  ⟨but_upd, fun s' ⟨ns, i', r', m', h1, h2, h3, _, h5⟩ => by
    rw [h] at h1
    cases h1
    exact ⟨ns, i, r, m, upd_same, by rw [upd_ne h3]; exact h2, h3, hi, h5⟩⟩
structure Deck (H : Hp) (d : Addr) : Prop where
  ex : ∃ (s : Addr) (ns : List Int) (i r m : Int), H d = some (.lst [.ref s, .int i, .int r, .int m]) ∧ H s = some (.lst (ns.map V.int)) ∧ s ≠ d ∧ 0 ≤ i ∧ ns.length ≤ 63
theorem Deck.mono {H H' : Hp} {d : Addr} (D : Deck H d) (e : Same H H') : Deck H' d := by
  obtain ⟨s, ns, i, r, m, h1, h2, h3, h4, h5⟩ := D.ex
  exact ⟨s, ns, i, r, m, e _ _ h1, e _ _ h2, h3, h4, h5⟩
/-- no list in it -/
def noL : PyData → Bool
  | .none | .bool _ | .int _ | .str _ => true
  | .list _ | .dict _ => false
  | .tuple ds => decide (ds.length ≤ 1000) && noLs ds
where noLs : List PyData → Bool
  | [] => true
  | d :: ds => noL d && noLs ds
theorem tseqX {K : PySem.W.Frag} {H H' : Hp} {d a : Addr} {xs : List V} (e : But d H H') (hd : ∃ ys, H d = some (.lst ys)) (h : SqT K H a xs) : SqT K H' a xs := by
  obtain ⟨ys, hd⟩ := hd
  rcases h with (h | ⟨o, h⟩) | h
  · exact .inl (.inl (e _ _ (ne_of h hd (by intro z; cases z)) h))
  · exact .inl (.inr ⟨o, e _ _ (ne_of h hd (by intro z; cases z)) h⟩)
  · exact .inr h
mutual
theorem Dp.monoX {K : PySem.W.Frag} {H H' : Hp} {d : Addr} (e : But d H H') (hd : ∃ ys, H d = some (.lst ys)) : ∀ (dt : PyData) (v : V), noL dt = true → Dp K H v dt → Dp K H' v dt
  | .none, _, _, h => by cases h; exact .non
  | .bool b, _, _, h => by cases h; exact .bl b
  | .int i, _, _, h => by cases h; exact .int i
  | .str x, _, _, h => by cases h; exact .str x
  | .list ds, _, n, _ => by
    unfold noL at n
    cases n
  | .tuple ds, _, n, h => by
    cases h with
    | tup hs ha => exact .tup (tseqX e hd hs) (Dp.monoXAll e hd ds _ (by unfold noL at n; exact (Bool.and_eq_true_iff.mp n).2) ha)
  | .dict _, _, _, h => by cases h
theorem Dp.monoXAll {K : PySem.W.Frag} {H H' : Hp} {d : Addr} (e : But d H H') (hd : ∃ ys, H d = some (.lst ys)) : ∀ (ds : List PyData) (vs : List V), noL.noLs ds = true → DpAll K H vs ds → DpAll K H' vs ds
  | [], _, _, h => by cases h; exact .nil
  | dt :: ds, _, n, h => by
    unfold noL.noLs at n
    obtain ⟨n1, n2⟩ := Bool.and_eq_true_iff.mp n
    cases h with
    | cons h1 h2 => exact .cons (Dp.monoX e hd dt _ n1 h1) (Dp.monoXAll e hd ds _ n2 h2)
end
theorem Deck.lst {H : Hp} {d : Addr} (D : Deck H d) : ∃ ys, H d = some (.lst ys) := by
  obtain ⟨s, ns, i, r, m, h1, _⟩ := D.ex
  exact ⟨_, h1⟩
theorem Fr.monoX {K : PySem.W.Frag} {H H' : Hp} {d : Addr} {v : V} {r : Rat} (h : Fr K H v r) (e : SameX d H H') (D : Deck H d) : Fr K H' v r := Dp.monoX e.but D.lst _ _ rfl h
theorem Deck.cells {H : Hp} {d : Addr} (D : Deck H d) : ∃ s, DeckS H d s := by
  obtain ⟨s, ns, i, r, m, h⟩ := D.ex
  exact ⟨s, ns, i, r, m, h⟩
theorem DeckS.deck {H : Hp} {d s : Addr} (h : DeckS H d s) : Deck H d := by
  obtain ⟨ns, i, r, m, h⟩ := h
  exact ⟨s, ns, i, r, m, h⟩
/-- a list that was laid later than the deck is changed: the deck stands -/
theorem DeckS.upd {H H' : Hp} {d s a : Addr} {o : HO} (h0 : DeckS H d s) (h : DeckS H' d s) (ha : H a = none) : DeckS (upd H' a o) d s := by
  obtain ⟨_, _, _, _, g1, g2, _⟩ := h0
  obtain ⟨ns, i, r, m, h1, h2, h3⟩ := h
  exact ⟨ns, i, r, m, by rw [upd_ne (ne_of_none g1 ha)]; exact h1, by rw [upd_ne (ne_of_none g2 ha)]; exact h2, h3⟩
theorem SameX.upd {H H' : Hp} {d a : Addr} {o : HO} (h : SameX d H H') (ha : H a = none) : SameX d H (upd H' a o) := ⟨fun b x n e => by
  rw [upd_ne (ne_of_none e ha)]
  exact h.but _ _ n e, fun s hs => hs.upd (h.cells s hs) ha⟩
section
variable {K : PySem.W.Frag} {H : Hp} {Q : VK}
theorem rdSetL {p : Addr} {xs : List V} {k : Int} {j : Nat} {v : V} {Q : Hp → Prop} (h : H p = some (.lst xs)) (e : ixN xs.length k = some j) (q : Q (upd H p (.lst (xs.set j v)))) : rSetL (.ref p) (.int k) v H Q := ⟨p, xs, k, j, rfl, rfl, h, e, q⟩
theorem rdSetU {p : Addr} {xs : List V} {k : Int} {j : Nat} {v : V} {Q : Hp → Prop} (e : ixN xs.length k = some j) (q : Q (upd H p (.lst (xs.set j v)))) : rSetL (.ref p) (.int k) v (upd H p (.lst xs)) Q := ⟨p, xs, k, j, rfl, rfl, upd_same, e, by rw [upd_upd]; exact q⟩
end
theorem lt_pow {a b : Nat} (h : a ≤ b) : (2 : Nat) ^ a ≤ 2 ^ b := Nat.pow_le_pow_right (by decide) h
end Ub

namespace Ub
open PySem PySem.Spec PyProof.Rows L2 UbM
/-! ### lists of fractions -/
def sumR (rs : List Rat) : Rat := rs.foldl (· + ·) 0
theorem sumR_take {rs : List Rat} {i : Nat} {r : Rat} (h : rs[i]? = some r) : sumR (rs.take (i + 1)) = sumR (rs.take i) + r := by
  unfold sumR
  obtain ⟨hi, e⟩ := List.getElem?_eq_some_iff.mp h
  rw [List.take_succ_eq_append_getElem hi, List.foldl_append, e]
  rfl
theorem bd_zero : Bd 1 (0 : Rat) := ⟨by decide, by decide⟩
theorem bd_sum {n : Nat} : ∀ (rs : List Rat) (m : Nat) (r : Rat), Bd m r → (∀ x ∈ rs, Bd n x) → Bd (m + rs.length * (n + 1)) (rs.foldl (· + ·) r)
  | [], m, r, h, _ => by simpa using h
  | x :: rs, m, r, h, hx => by
    have h1 := bd_sum rs (m + n + 1) (r + x) (bd_add h (hx x (List.mem_cons_self ..))) fun y hy => hx y (List.mem_cons_of_mem _ hy)
    refine h1.mono ?_
    rw [List.length_cons, Nat.succ_mul]
    omega
theorem bd_sumR {n : Nat} {rs : List Rat} (h : ∀ x ∈ rs, Bd n x) : Bd (1 + rs.length * (n + 1)) (sumR rs) := bd_sum rs 1 0 bd_zero h
def dotR (rs ss : List Rat) : Rat := sumR (List.zipWith (· * ·) rs ss)
theorem zip_at {rs ss : List Rat} {i : Nat} {r s : Rat} (h1 : rs[i]? = some r) (h2 : ss[i]? = some s) : (List.zipWith (· * ·) rs ss)[i]? = some (r * s) := by
  rw [List.getElem?_zipWith, h1, h2]
theorem bd_zip {n : Nat} {rs ss : List Rat} (h1 : ∀ x ∈ rs, Bd n x) (h2 : ∀ x ∈ ss, Bd n x) : ∀ x ∈ List.zipWith (· * ·) rs ss, Bd (n + n) x := by
  intro x hx
  obtain ⟨i, hi, e⟩ := List.getElem_of_mem hx
  rw [List.getElem_zipWith] at e
  rw [← e]
  exact bd_mul (h1 _ (List.getElem_mem _)) (h2 _ (List.getElem_mem _))
theorem take_bd {n : Nat} {rs : List Rat} (h : ∀ x ∈ rs, Bd n x) (i : Nat) : ∀ x ∈ rs.take i, Bd n x := fun x hx => h x (List.mem_of_mem_take hx)
/-- the place of the first fraction that no later one is beaten by: w = -1 the least, w = 1 the greatest -/
def pick (w : Int) (rs : List Rat) : Nat → Option Nat
  | 0 => none
  | i + 1 => match pick w rs i with
    | none => some i
    | some j => if cmpR (rs.getD i 0) (rs.getD j 0) = w then some i else some j
theorem pick_lt {w : Int} {rs : List Rat} : ∀ {i j : Nat}, pick w rs i = some j → j < i
  | 0, j, h => by cases h
  | i + 1, j, h => by
    unfold pick at h
    split at h
    · cases h
      omega
    · rename_i j0 e
      have := pick_lt e
      split at h
      · cases h
        omega
      · cases h
        omega
def optV : Option Nat → V
  | none => .non
  | some k => .int (k : Int)
def optD : Option Nat → PyData
  | none => .none
  | some k => .int (k : Int)
theorem dp_opt {K : PySem.W.Frag} {H : Hp} (o : Option Nat) : Dp K H (optV o) (optD o) := by
  cases o with
  | none => exact .non
  | some k => exact .int _
theorem frs_get {K : PySem.W.Frag} {H : Hp} {xs : List V} : ∀ {rs : List Rat} {xs : List V} {i : Nat} {r : Rat}, DpAll K H xs (rs.map frD) → rs[i]? = some r → ∃ v, xs[i]? = some v ∧ Fr K H v r
  | [], _, _, _, _, h => by simp at h
  | r0 :: rs, _, 0, r, .cons h1 _, h => by
    simp at h
    subst h
    exact ⟨_, rfl, h1⟩
  | r0 :: rs, _, i + 1, r, .cons _ h2, h => by
    obtain ⟨v, e, q⟩ := frs_get (xs := []) (i := i) (r := r) h2 (by simpa using h)
    exact ⟨v, by simpa using e, q⟩
theorem frs_at {K : PySem.W.Frag} {H : Hp} : ∀ {rs : List Rat} {xs : List V} {i : Nat} {v : V}, DpAll K H xs (rs.map frD) → xs[i]? = some v → ∃ r, rs[i]? = some r ∧ Fr K H v r
  | [], _, _, _, h, e => by
    cases h
    simp at e
  | r0 :: rs, _, 0, v, .cons h1 _, h => by
    simp at h
    subst h
    exact ⟨_, rfl, h1⟩
  | r0 :: rs, _, i + 1, v, .cons _ h2, h => by
    obtain ⟨r, e, q⟩ := frs_at (i := i) (v := v) h2 (by simpa using h)
    exact ⟨r, by simpa using e, q⟩
/-- v is a list of the fractions rs -/
def Frs (K : PySem.W.Frag) (H : Hp) (v : V) (rs : List Rat) : Prop := Dp K H v (.list (rs.map frD))
theorem Frs.mono {K : PySem.W.Frag} {H H' : Hp} {v : V} {rs : List Rat} (e : Same H H') (h : Frs K H v rs) : Frs K H' v rs := Dp.mono e _ _ h
theorem Frs.get {K : PySem.W.Frag} {H : Hp} {v : V} {rs : List Rat} (h : Frs K H v rs) : ∃ a xs, v = .ref a ∧ SqL K H a xs ∧ DpAll K H xs (rs.map frD) := by
  unfold Frs at h
  cases h with
  | lst h1 h2 => exact ⟨_, _, rfl, h1, h2⟩
theorem frs_len {K : PySem.W.Frag} {H : Hp} {xs : List V} {rs : List Rat} (h : DpAll K H xs (rs.map frD)) : xs.length = rs.length := by
  have := dpAll_len h
  rw [List.length_map] at this
  exact this
theorem canLay_frs : ∀ rs : List Rat, PyData.canLayAll0 (rs.map frD) = true
  | [] => rfl
  | r :: rs => by
    show (PyData.canLay0 (frD r) && PyData.canLayAll0 (rs.map frD)) = true
    rw [canLay_frs rs]
    rfl
theorem depth_frs : ∀ rs : List Rat, PyData.depthAll (rs.map frD) ≤ 1
  | [] => Nat.zero_le _
  | r :: rs => by
    show max (PyData.depth (frD r)) (PyData.depthAll (rs.map frD)) ≤ 1
    have h1 := depth_frs rs
    have h2 : PyData.depth (frD r) = 1 := rfl
    omega
theorem shaped_frs (rs : List Rat) : SeqAt.shaped (.list (rs.map frD)) = true := by
  show (PyData.canLayAll0 (rs.map frD) && decide (PyData.depthAll (rs.map frD) + 1 ≤ 64)) = true
  rw [canLay_frs, decide_eq_true (by have := depth_frs rs; omega)]
  rfl
theorem noL_frs : ∀ rs : List Rat, noL.noLs (rs.map frD) = true
  | [] => rfl
  | r :: rs => by
    show (noL (frD r) && noL.noLs (rs.map frD)) = true
    rw [noL_frs rs]
    rfl
/-- a tracked list of fractions, apart from the deck -/
structure Own (K : PySem.W.Frag) (H : Hp) (d a : Addr) (rs : List Rat) : Prop where
  ex : ∃ xs, H a = some (.lst xs) ∧ a ≠ d ∧ DpAll K H xs (rs.map frD)
theorem Own.frs {K : PySem.W.Frag} {H : Hp} {d a : Addr} {rs : List Rat} (h : Own K H d a rs) : Frs K H (.ref a) rs := by
  obtain ⟨xs, h1, _, h2⟩ := h.ex
  exact .lst (.inl (.inl h1)) h2
theorem Own.monoX {K : PySem.W.Frag} {H H' : Hp} {d a : Addr} {rs : List Rat} (h : Own K H d a rs) (e : SameX d H H') (D : Deck H d) : Own K H' d a rs := by
  obtain ⟨xs, h1, h2, h3⟩ := h.ex
  exact ⟨xs, e.but _ _ h2 h1, h2, Dp.monoXAll e.but D.lst _ _ (noL_frs rs) h3⟩
theorem Own.mono {K : PySem.W.Frag} {H H' : Hp} {d a : Addr} {rs : List Rat} (h : Own K H d a rs) (e : Same H H') : Own K H' d a rs := by
  obtain ⟨xs, h1, h2, h3⟩ := h.ex
  exact ⟨xs, e _ _ h1, h2, Dp.monoAll e _ _ h3⟩
theorem tseq_upd {K : PySem.W.Frag} {H : Hp} {p a : Addr} {xs ys zs : List V} (h : SqT K H a xs) (hp : H p = some (.lst ys)) : SqT K (upd H p (.lst zs)) a xs := by
  rcases h with (h | ⟨o, h⟩) | h
  · exact .inl (.inl (by rw [upd_ne (ne_of h hp (by intro z; cases z))]; exact h))
  · exact .inl (.inr ⟨o, by rw [upd_ne (ne_of h hp (by intro z; cases z))]; exact h⟩)
  · exact .inr h
theorem Own.push {K : PySem.W.Frag} {H : Hp} {d a : Addr} {rs : List Rat} {v : V} {r : Rat} {xs : List V} (h1 : H a = some (.lst xs)) (h2 : a ≠ d) (h3 : DpAll K H xs (rs.map frD)) (hv : Fr K H v r) : Own K (upd H a (.lst (xs ++ [v]))) d a (rs ++ [r]) := by
  refine ⟨_, upd_same, h2, ?_⟩
  have e : But a H (upd H a (.lst (xs ++ [v]))) := but_upd
  have g := Dp.monoXAll e ⟨_, h1⟩ _ _ (noL_frs rs) h3
  have gv := Dp.monoX e ⟨_, h1⟩ (frD r) v rfl hv
  rw [List.map_append]
  exact app g gv
where
  app {K : PySem.W.Frag} {H : Hp} : ∀ {xs : List V} {ds : List PyData} {v : V} {d : PyData}, DpAll K H xs ds → Dp K H v d → DpAll K H (xs ++ [v]) (ds ++ [d])
    | _, _, _, _, .nil, h => .cons h .nil
    | _, _, _, _, .cons h1 h2, h => .cons h1 (app h2 h)
theorem dpAll_snoc {K : PySem.W.Frag} {H : Hp} {xs : List V} {ds : List PyData} {v : V} {d : PyData} (h : DpAll K H xs ds) (h2 : Dp K H v d) : DpAll K H (xs ++ [v]) (ds ++ [d]) := Own.push.app h h2
/-! ### loops over two lists, over a list with its places -/
theorem forZip {K : PySem.W.Frag} {a b : Addr} {xs ys : List V} {g : TG} {tb : TS} {nx : L2.St → Hp → Prop} {rt : VK} {σ : L2.St} {H : Hp} (Pv : Nat → L2.St → Hp → Prop) (h0 : Pv 0 σ H) (hl : ∀ i σ H, Pv i σ H → SqL K H a xs ∧ SqL K H b ys)
    (hs : ∀ i x y σ H T, xs[i]? = some x → ys[i]? = some y → Pv i σ H → H T = none → g (.ref T) σ (upd H T (.tup [x, y])) fun σ2 H2 => tb { nx := Pv (i + 1), rt := rt, ct := Pv (i + 1), bk := nx } σ2 H2) (hd : ∀ σ H, Pv (min xs.length ys.length) σ H → nx σ H) :
    ∃ W : Nat → Nat → L2.St → Hp → Prop, (∃ m, W 0 m σ H) ∧ ∀ i m σ H, W i m σ H →
      ((Itz K a b).stop i H ∧ nx σ H) ∨ ((Itz K a b).go i H ∧ ∃ N : L2.St → Hp → Prop, (∀ σ' H', N σ' H' → ∃ m', m' < m ∧ W (i + 1) m' σ' H') ∧ ∀ x H', (Itz K a b).yld i H x H' → g x σ H' fun σ2 H2 => tb { nx := N, rt := rt, ct := N, bk := nx } σ2 H2) := by
  refine ⟨fun i m σ H => m = min xs.length ys.length - i ∧ i ≤ min xs.length ys.length ∧ Pv i σ H, ⟨_, rfl, Nat.zero_le _, h0⟩, ?_⟩
  rintro i m σ H ⟨rfl, hi, p⟩
  obtain ⟨q1, q2⟩ := hl i σ H p
  by_cases hlt : i < min xs.length ys.length
  · have l1 : i < xs.length := by omega
    have l2 : i < ys.length := by omega
    refine .inr ⟨⟨xs, ys, xs[i], ys[i], q1, q2, List.getElem?_eq_getElem l1, List.getElem?_eq_getElem l2⟩, Pv (i + 1), fun σ' H' p' => ⟨_, ?_, rfl, hlt, p'⟩, fun x H' yl => ?_⟩
    · omega
    · obtain ⟨T, x1, y1, rfl, nT, rfl, f1, f2⟩ := yl
      exact hs i x1 y1 σ H T (f1 _ q1) (f2 _ q2) p nT
  · have e : i = min xs.length ys.length := by omega
    refine .inl ⟨⟨xs, ys, q1, q2, by omega⟩, hd σ H (e ▸ p)⟩
theorem forEnum {K : PySem.W.Frag} {a : Addr} {xs : List V} {g : TG} {tb : TS} {nx : L2.St → Hp → Prop} {rt : VK} {σ : L2.St} {H : Hp} (Pv : Nat → L2.St → Hp → Prop) (h0 : Pv 0 σ H) (hl : ∀ i σ H, Pv i σ H → SqL K H a xs)
    (hs : ∀ i x σ H T, xs[i]? = some x → Pv i σ H → H T = none → g (.ref T) σ (upd H T (.tup [.int (i : Nat), x])) fun σ2 H2 => tb { nx := Pv (i + 1), rt := rt, ct := Pv (i + 1), bk := nx } σ2 H2) (hd : ∀ σ H, Pv xs.length σ H → nx σ H) :
    ∃ W : Nat → Nat → L2.St → Hp → Prop, (∃ m, W 0 m σ H) ∧ ∀ i m σ H, W i m σ H →
      ((Ite K a).stop i H ∧ nx σ H) ∨ ((Ite K a).go i H ∧ ∃ N : L2.St → Hp → Prop, (∀ σ' H', N σ' H' → ∃ m', m' < m ∧ W (i + 1) m' σ' H') ∧ ∀ x H', (Ite K a).yld i H x H' → g x σ H' fun σ2 H2 => tb { nx := N, rt := rt, ct := N, bk := nx } σ2 H2) := by
  refine ⟨fun i m σ H => m = xs.length - i ∧ i ≤ xs.length ∧ Pv i σ H, ⟨_, rfl, Nat.zero_le _, h0⟩, ?_⟩
  rintro i m σ H ⟨rfl, hi, p⟩
  have q1 := hl i σ H p
  by_cases hlt : i < xs.length
  · refine .inr ⟨⟨xs, xs[i], q1, List.getElem?_eq_getElem hlt⟩, Pv (i + 1), fun σ' H' p' => ⟨_, ?_, rfl, hlt, p'⟩, fun x H' yl => ?_⟩
    · omega
    · obtain ⟨T, x1, rfl, nT, rfl, f1⟩ := yl
      exact hs i x1 σ H T (f1 _ q1) p nT
  · have e : i = xs.length := by omega
    refine .inl ⟨⟨xs, q1, by omega⟩, hd σ H (e ▸ p)⟩
end Ub

/-! any, all of a generator expression whose element may call defs: its own frame, its own context. -/
namespace UbG
open PySem PySem.Spec PyProof.Rows L2
/-- the expression's own scope: its names (with their places in N) are local or captured -/
structure GexOk (N : List Str) (sc scope : Scope) (own : List (Str × Nat)) : Prop where
  kind : scope.kind = .function
  co : scope.isCoroutine = false
  nocell : ∀ y ∈ scope.names, y.2 ≠ .cell
  dot : scope.names.lookup (".0" : Str) = some NameKind.local
  uniq : ∀ y ∈ scope.names, scope.names.lookup y.1 = some y.2
  ix : ∀ p ∈ own, N[p.2]? = some p.1
  free : ∀ y ∈ scope.names, y.2 = .free → sc.names.lookup y.1 = some .cell ∨ sc.names.lookup y.1 = some .free
  own : ∀ y ∈ scope.names, y.2 = .local → y.1 ∈ own.map (·.1) ∨ y.1 ∉ N
/-- the context of its frame -/
abbrev gex (X : Cx) (A : Around) (s : Shared) (H : Hp) (genv : Env) (fp : List Addr) (pn : List (Addr × Obj)) : Cx :=
  { X with A := A, s_0 := s, H_0 := H, env := genv, outer := X.stack, stack := genv :: X.stack, ex := fp, fn := fun _ => false, calm := true, pn := pn, xe := fun _ _ => False }
section
variable {X : Cx} {pins : List (Addr × Obj)} {σ : L2.St} {H : Hp} {s : Shared}
theorem Inv.same {s' : Shared} (I : Inv X pins σ H s) (hh : s'.heap = s.heap) (ho : s'.os = s.os) (hb : AllBare s'.gens) : Inv X pins σ H s' :=
  I.call' (ch := []) ho (by rw [hh]; exact Un.kept fun _ _ e => e) (by rw [hh]; exact I.hok) hb fun b z => absurd z (by simp)
theorem Inv.more {s' : Shared} (I : Inv X pins σ H s) (hh : ∀ b o, s.heap.get? b = some o → s'.heap.get? b = some o) (ho : s'.os = s.os) (hb : AllBare s'.gens) : Inv X pins σ H s' :=
  I.call' (ch := []) ho (Un.kept hh) (I.hok.kept hh) hb fun b z => absurd z (by simp)
theorem Inv.nofr (I : Inv X pins σ H s) {b : Addr} (hb : s.heap.objs.size ≤ b) : b ∉ frs X.stack := fun z => by
  rcases List.mem_cons.mp (I.stkSub _ z) with e | e
  · have h1 := I.lt
    rw [← e] at h1
    exact Nat.lt_irrefl _ (Nat.lt_of_lt_of_le h1 hb)
  · exact I.nofs hb e
theorem gex_start {scope : Scope} {own : List (Str × Nat)} {fp : List Addr} {A : Around} {genv : Env} {code : Value} {s5 : Shared} {m : Str → Option Value} {pn : List (Addr × Obj)} (I : Inv X pins σ H s) (ok : GexOk X.N X.env.scope scope own) (hN : X.N.Nodup)
    (hfp : ∀ b ∈ fp, FpOk X pins H b ∧ b < s.heap.objs.size) (hA : A.handled = none) (hfr : A.frames = some (genv :: X.stack)) (hg : genv = genEnv scope (cloFrom X.env.cells scope.names []) s.heap.objs.size code builtinsNs X.env)
    (os : s5.os = s.os) (bare : AllBare s5.gens) (kp : ∀ b o, s.heap.get? b = some o → s5.heap.get? b = some o) (ns : s5.heap.Ns s.heap.objs.size m)
    (hpn : ∀ p ∈ pn, s5.heap.get? p.1 = some p.2 ∧ s.heap.objs.size < p.1 ∧ ∀ v, p.2.data ≠ .cell v) : Inv (gex X A s H genv fp pn) [] (wipe σ (own.map (·.2))) H s5 := by
  have hfree : ∀ y ∈ scope.names, y.2 = .free → ∃ c, X.env.cells.lookup y.1 = some c := fun y hy e => by
    rcases ok.free y hy e with k | k
    · exact I.ok.has _ (.inl k)
    · exact I.ok.has _ (.inr k)
  have hL : genv.locals = s.heap.objs.size := by rw [hg]; rfl
  have hcl : genv.cells = cloFrom X.env.cells scope.names [] := by rw [hg]; rfl
  have hsc : genv.scope = scope := by rw [hg]; rfl
  have cm : ∀ {y c}, genv.cells.lookup y = some c → scope.names.lookup y = some .free ∧ X.env.cells.lookup y = some c ∧ c < s.heap.objs.size := fun {y c} e => by
    rw [hcl] at e
    rcases cloFrom_mem (PySem.mem_of_lookup e) with hm | ⟨h1, rfl⟩
    · cases hm
    · obtain ⟨c, hc⟩ := hfree _ h1 rfl
      rw [hc]
      obtain ⟨w, z⟩ := I.cell _ _ hc
      exact ⟨ok.uniq _ h1, rfl, z.lt⟩
  have look : ∀ {y}, scope.names.lookup y = some .free → ∃ c, genv.cells.lookup y = some c ∧ X.env.cells.lookup y = some c := fun {y} hl => by
    have hy : (y, NameKind.free) ∈ scope.names := PySem.mem_of_lookup hl
    obtain ⟨c', e'⟩ := mem_lookup (cloFrom_has (cells := X.env.cells) (acc := []) hy)
    rw [← hcl] at e'
    exact ⟨c', e', (cm e').2.1⟩
  have okG : (gex X A s H genv fp pn).Ok := by
    refine ⟨I.ok.mod, by show genv.scope.kind = _; rw [hsc]; exact ok.kind, by show genv.globals = _; rw [hg]; exact I.ok.glob, by show genv.builtins = _; rw [hg]; rfl, by show s.heap.objs.size ≤ genv.locals; rw [hL]; exact Nat.le_refl _,
      fun y z c e1 e2 => I.ok.inj y z c (cm e1).2.1 (cm e2).2.1, fun y hy => ?_, fun y c z e => ?_, fun _ => hA, hfr, .inr ⟨rfl, by show genv.frame = some genv.locals; rw [hg]; rfl⟩, fun b hb => ⟨?_, fun y c e z => (hfp b hb).1.2.2.2.2.1 y c (cm e).2.1 z⟩, I.bs, Nat.le_trans I.ok.bsz I.sz, fun b o e hb => ?_, fun b hb z => ?_, I.stack, I.stkFree⟩
    · show ∃ c, genv.cells.lookup y = some c
      rcases hy with hy | hy
      · have hy : genv.scope.names.lookup y = some .cell := hy
        rw [hsc] at hy
        exact absurd rfl (ok.nocell _ (PySem.mem_of_lookup hy))
      · have hy : genv.scope.names.lookup y = some .free := hy
        rw [hsc] at hy
        obtain ⟨c, h1, _⟩ := look hy
        exact ⟨c, h1⟩
    · cases z
    · show b ≠ genv.locals
      rw [hL]; exact Nat.ne_of_lt (hfp b hb).2
    · rcases (hfp b hb).1.2.2.2.1 with z | z
      · exact I.ok.noex b o e z
      · exact absurd (Nat.lt_of_lt_of_le (Heap.lt_size e) (Nat.le_trans I.ok.bsz z)) (Nat.lt_irrefl _)
    · rcases List.mem_cons.mp (I.stkSub b z) with z | z
      · exact (hfp b hb).1.2.1 z
      · exact (hfp b hb).1.2.2.1 z
  refine ⟨okG, os, bare, Un.kept kp, ⟨m, by show Heap.Ns _ genv.locals _; rw [hL]; exact ns, fun i y av e1 e2 e3 => ?_⟩, fun y c e => ?_, ?_, fun y c e => I.freeC y c (cm e).2.1, fun p hp => ?_, I.hok.kept kp, by rw [wipe_length]; exact I.len⟩
  · obtain ⟨e2, hne⟩ := wipe_some e2
    have hfr : scope.names.lookup y = some .free := by
      have e3 : Vis genv.scope y := e3
      rw [hsc] at e3
      rcases e3 with e3 | e3 | e3
      · rcases ok.own _ (PySem.mem_of_lookup e3) rfl with e' | e'
        · obtain ⟨p, hp, hpy⟩ := List.mem_map.mp e'
          have e3 := ok.ix p hp
          have : p.1 = y := hpy
          rw [this] at e3
          exact absurd (List.mem_map.mpr ⟨p, hp, nodup_ix hN e3 e1⟩) hne
        · exact absurd (List.mem_of_getElem? e1) e'
      · exact absurd rfl (ok.nocell _ (PySem.mem_of_lookup e3))
      · exact e3
    obtain ⟨m, hn, hl⟩ := I.loc
    have hvis : Vis X.env.scope y := (ok.free _ (PySem.mem_of_lookup hfr) rfl).elim (fun k => .inr (.inl k)) (fun k => .inr (.inr k))
    obtain ⟨w, r, q⟩ := hl i y av e1 e2 hvis
    refine ⟨w, r, .inr ⟨.inr (by show genv.scope.names.lookup y = _; rw [hsc]; exact hfr), ?_⟩⟩
    obtain ⟨c, h1, h2⟩ := look hfr
    rcases q with ⟨k, _⟩ | ⟨_, c', e', z⟩
    · have k : X.env.scope.names.lookup y = some .local := k
      rcases ok.free _ (PySem.mem_of_lookup hfr) rfl with k' | k' <;> rw [show X.env.scope.names.lookup y = _ from k'] at k <;> cases k
    · rw [h2] at e'; cases e'
      exact ⟨c, h1, z.keeps kp⟩
  · obtain ⟨w, z⟩ := I.cell y c (cm e).2.1
    exact ⟨w, z.keeps kp⟩
  · show H genv.locals = none
    rw [hL]; exact I.hok.fresh (Nat.le_refl _)
  · rw [List.append_nil] at hp
    obtain ⟨h1, h2, h3⟩ := hpn p hp
    refine ⟨h1, I.hok.fresh (Nat.le_of_lt h2), by show p.1 ≠ genv.locals; rw [hL]; exact Nat.ne_of_gt h2, Inv.nofr I (Nat.le_of_lt h2), h3⟩
end
/-- the end of its run -/
def GR (G : Cx) (fp : List Addr) (Qd : Hp → Prop) : GenEnd := fun n s₀ r s₁ => ((r = .ok (.ret .none) ∨ r = .ok .next) ∧ ∃ σ' H', Inv G [] σ' H' s₁ ∧ (∀ b ∈ fp, H' b = none) ∧ Qd H') ∨ ∃ e, r = .error e ∧ False
/-- a truth value is handed out; on stopv nobody asks further -/
def GY (G : Cx) (fp : List Addr) (stopv : Bool) (Qs : Hp → Prop) : Protocol := fun n s₀ v s kap =>
  ∃ b σ' H', v = .bool b ∧ Inv G [] σ' H' s ∧ (∀ b ∈ fp, H' b = none) ∧ (b = stopv → Qs H') ∧ (b ≠ stopv → ∀ s', s'.heap = s.heap → s'.os = s.os → AllBare s'.gens → kap (.send .none) s')
/-- what a turn is to give -/
def Turns (J : It) (g : TG) (te : TE) (vs : List Nat) (σw : L2.St) (stopv : Bool) (Qs Qd : Hp → Prop) (W : Nat → Nat → Hp → Prop) : Prop := ∀ i m H, W i m H →
  (J.stop i H ∧ Qd H) ∨ (J.go i H ∧ ∃ Nx : Hp → Prop, (∀ H', Nx H' → ∃ m', m' < m ∧ W (i + 1) m' H') ∧ ∀ x H', J.yld i H x H' → g x σw H' fun σ2 H2 => wipe σ2 vs = σw ∧ te σ2 H2 fun y H3 => ∃ b, y = .bl b ∧ (b = stopv → Qs H3) ∧ (b ≠ stopv → Nx H3))
theorem seg_gex {G : Cx} {Aw : Around} {tg iter elt : Expr} {scope : Scope} {pos : Pos} {J : It} {fp : List Addr} {it : Addr} {tn : Nat → Heap → Prop} {g : TG} {te : TE} {vs : List Nat} {σw : L2.St} {stopv : Bool} {Qs Qd : Hp → Prop} {W : Nat → Nat → Hp → Prop}
    (T : Turn G.prog G.w G.K tg J fp it tn) (hex : G.ex = fp) (hc : G.calm = true) (hxe : G.xe = fun _ _ => False) (hpn : ∀ b ∈ fp, ∀ p ∈ G.pn, p.1 ≠ b)
    (hA : Aw.over (.compLoop (.GeneratorExp elt [⟨tg, iter, [], 0⟩] scope pos) 0 (.ref it) .none G.env) [] = G.A) (hco : G.env.scope.isCoroutine = false)
    (pg : PG G tg g) (pe : PE G elt te) (turn : Turns J g te vs σw stopv Qs Qd W) :
    ∀ (n i m : Nat) (H : Hp) (s₀ s : Shared), m < n → W i m H → Inv G [] σw H s → tn i s.heap → (∀ b ∈ fp, H b = none) →
      Seg (model G.prog G.w) Aw (GR G fp Qd) (GY G fp stopv Qs) n s₀ (.compLoop (.GeneratorExp elt [⟨tg, iter, [], 0⟩] scope pos) 0 (.ref it) .none G.env)
        ((model G.prog G.w).den (.compLoop (.GeneratorExp elt [⟨tg, iter, [], 0⟩] scope pos) 0 (.ref it) .none G.env)) [] s := by
  have stat : ∀ {σ' : L2.St} {H' : Hp} {s' : Shared}, Inv G [] σ' H' s' → (∀ b ∈ fp, H' b = none) → ∀ b ∈ fp, FpOk G [] H' b := fun {σ' H' s'} I' hn b hb =>
    ⟨hn b hb, (I'.ok.exf b (by rw [hex]; exact hb)).1, I'.ok.exfs b (by rw [hex]; exact hb), .inl (by rw [hex]; exact hb), fun x c e => (I'.ok.exf b (by rw [hex]; exact hb)).2 x c e, fun p hp => by rw [List.append_nil] at hp; exact hpn b hb p hp⟩
  intro n
  induction n with
  | zero => intro i m H s₀ s hm; exact absurd hm (Nat.not_lt_zero _)
  | succ n ih =>
    intro i m H s₀ s hm w0 I st hn
    show Seg _ Aw _ _ _ s₀ _ ((compTurn (.GeneratorExp elt [⟨tg, iter, [], 0⟩] scope pos) 0 (.ref it) .none G.env).onRaise (leaving G.env)) [] s
    rw [compTurn_gen, Sem.onRaise_eq_wrap]
    refine seg_bind_wrap (wpAny_standAt ?_)
    rcases turn i m H w0 with ⟨stop, qd⟩ | ⟨go, Nx, hNx, step⟩
    · refine seg_bind_wrap ?_
      rw [hA]
      refine wpAny_mono (T.done G rfl rfl rfl hc i [] s σw H (fun _ _ => False) I (stat I hn) st stop) (fun r s6 ⟨hr, I6⟩ => ?_) fun _ _ z => z.elim
      subst hr
      exact seg_end (.ok .next) (.inl ⟨.inr rfl, σw, H, I6, hn, qd⟩)
    · refine seg_bind_wrap ?_
      rw [hA]
      refine wpAny_mono (T.item G rfl rfl rfl hc i [] s σw H (fun _ _ => False) I (stat I hn) st go) (fun r s6 ⟨u, hr, h6⟩ => ?_) fun _ _ z => z.elim
      subst hr
      refine seg_bind_wrap ?_
      rw [hA]
      refine wpAny_mono h6 (fun _ s7 ⟨x, H7, I7, r7, y7, st7, n7⟩ => ?_) fun _ _ z => z.elim
      have I7' := I7.pinned (stat I7 n7) (T.obj _ _ st7)
      refine seg_bind_wrap ?_
      rw [hA]
      refine wpAny_mono (pg.run _ s7 _ H7 x u _ I7' r7 (step x H7 y7)) (fun _ s8 ⟨σ8, H8, I8, hw8, q8⟩ => ?_) fun _ _ z => by rw [hxe] at z; exact z.elim
      refine seg_bind_wrap ?_
      simp only [List.forIn_nil]
      refine wpAny_pure ?_
      simp only [if_true]
      have hy : ∀ v, yieldOut G.env v = yieldValue v := fun v => by simp only [yieldOut, hco, Bool.false_eq_true, if_false]
      simp only [hy]
      rw [Sem.bind_eq_wrap', Sem.bind_eq_wrap', Sem.wrap_wrap, Sem.wrap_wrap]
      refine seg_wrap ?_
      rw [hA]
      refine wpAny_mono (pe.run _ s8 σ8 H8 _ I8 q8) (fun y s9 ⟨yv, H9, I9, r9, b, hb, hs, hnx⟩ => ?_) fun _ _ z => by rw [hxe] at z; exact z.elim
      subst hb
      have ey : y = Value.bool b := r9
      subst ey
      have pin' : ∀ b ∈ fp, ∀ o, s7.heap.get? b = some o → s9.heap.get? b = some o ∧ H9 b = none := fun b hb o e =>
        let z := I9.pin (b, o) (List.mem_append_right _ (List.mem_append_right _ (mem_pinsAt hb e)))
        ⟨z.1, z.2.1⟩
      have hl : σw.length = σ8.length := by rw [← hw8, wipe_length]
      have I10 : Inv G [] σw H9 s9 := (I9.unpinned (pins := [])).weak hl fun j v e => by
        rw [← hw8] at e
        exact (wipe_some e).1
      have n10 : ∀ b ∈ fp, H9 b = none := fun b hb => by
        obtain ⟨o, e, _⟩ := T.obj _ _ st7 b hb
        exact (pin' b hb o e).2
      have st10 : tn (i + 1) s9.heap := T.keep _ _ _ st7 fun b hb o e => (pin' b hb o e).1
      refine seg_at (seg_yield rfl rfl rfl ⟨b, σw, H9, rfl, I10, n10, hs, fun nb s' hh ho hbare => ?_⟩)
      obtain ⟨m', hm', w'⟩ := hNx H9 (hnx nb)
      refine seg_again rfl (ih (i + 1) m' H9 s' s' (by omega) w' (Inv.same I10 hh ho hbare) (by rw [hh]; exact st10) n10)
theorem seg_gex0 {G : Cx} {Aw : Around} {tg iter elt : Expr} {scope : Scope} {pos : Pos} {J : It} {fp : List Addr} {it : Addr} {tn : Nat → Heap → Prop} {n : Nat} {s₀ s : Shared} {R : GenEnd} {Y : Protocol}
    (T : Turn G.prog G.w G.K tg J fp it tn) (st : tn 0 s.heap)
    (loop : Seg (model G.prog G.w) Aw R Y n s₀ (.compLoop (.GeneratorExp elt [⟨tg, iter, [], 0⟩] scope pos) 0 (.ref it) .none G.env)
        ((model G.prog G.w).den (.compLoop (.GeneratorExp elt [⟨tg, iter, [], 0⟩] scope pos) 0 (.ref it) .none G.env)) [] s) :
    Seg (model G.prog G.w) Aw R Y n s₀ (.compStart (.GeneratorExp elt [⟨tg, iter, [], 0⟩] scope pos) 0 (.ref it) .none G.env)
        ((model G.prog G.w).den (.compStart (.GeneratorExp elt [⟨tg, iter, [], 0⟩] scope pos) 0 (.ref it) .none G.env)) [] s := by
  show Seg _ Aw _ _ _ s₀ _ ((compStart (.GeneratorExp elt [⟨tg, iter, [], 0⟩] scope pos) 0 (.ref it) .none G.env).onRaise (leaving G.env)) [] s
  unfold compStart
  rw [Sem.onRaise_eq_wrap]
  show Seg _ Aw _ _ _ s₀ _ ((ask >>= _).wrap _ _ _ _) [] s
  refine seg_bind_wrap (wpAny_askSetting ?_)
  split
  · exact seg_again rfl loop
  · first
      | exact seg_bind_wrap (wpAny_rule (seg_bind_wrap (wpAny_standAt (seg_bind_wrap (T.self _ 0 s _ _ st (seg_again rfl loop))))))
      | (refine seg_bind_wrap (wpAny_rule ?_); show Seg _ Aw _ _ _ s₀ _ ((standAt iter.pos >>= _).wrap _ _ _ _) [] s; exact seg_bind_wrap (wpAny_standAt (seg_bind_wrap (T.self _ 0 s _ _ st (seg_again rfl loop)))))
/-- the generator, not begun or asleep, at most n turns left -/
def GAt (G : Cx) (A : Around) (fp : List Addr) (stopv : Bool) (Qs Qd : Hp → Prop) (a : Addr) (g : Nat) (n : Nat) (s : Shared) : Prop :=
  s.heap.IsGen a g ∧ s.heap.NoLimit ∧ AllBare s.gens ∧ ∃ gs, s.gens[g]? = some gs ∧ ∀ s'', s''.heap = s.heap → s''.os = s.os → AllBare s''.gens → gs.Goes (model G.prog G.w) A (GR G fp Qd) (GY G fp stopv Qs) n (.send .none) s''
section
variable {G : Cx} {A : Around} {fp : List Addr} {Qs Qd : Hp → Prop} {a : Addr} {g : Nat} {R : Result → Shared → Prop}
theorem all_loop (hh : A.handled = none) (hd : A.depth < recursionLimit) (hgen : ∀ σ' H' s', Inv G [] σ' H' s' → s'.heap.IsGen a g)
    (hend : ∀ s' σ' H', Inv G [] σ' H' s' → (∀ b ∈ fp, H' b = none) → Qd H' → R (.ok (.ret (.bool true))) s')
    (hstop : ∀ s' σ' H', Inv G [] σ' H' s' → (∀ b ∈ fp, H' b = none) → Qs H' → R (.ok (.ret (.bool false))) s') :
    ∀ (n : Nat) (s : Shared), GAt G A.in1.in1 fp false Qs Qd a g n s → codeAny (model G.prog G.w) A (.builtin "all.loop" ⟨[.ref a], []⟩) R s := by
  have goes : ∀ {gs : GenState} {B : Around} {n : Nat} {r : Resume} {s : Shared}, gs.Goes (model G.prog G.w) B (GR G fp Qd) (GY G fp false Qs) n r s →
      gs.Goes (model G.prog G.w) B (fun n s₀ r s1 => ((r = .ok (.ret .none) ∨ r = .ok .next) ∧ (∃ σ' H', Inv G [] σ' H' s1 ∧ (∀ b ∈ fp, H' b = none) ∧ Qd H')) ∨ ∃ e, r = .error e ∧ (fun (_ : Value) (_ : Shared) => False) e s1) (GY G fp false Qs) n r s := fun h => h
  intro n
  induction n with
  | zero =>
    rintro s ⟨hg, hl, hb, gs, hgs, hgo⟩
    refine codeAny_builtin F.entry_all_loop ?_
    rw [Around.under_plainId F.plain_all_loop _]
    show wpAny _ A.in1 (pyNext (.ref a) >>= _) _ _ s
    refine wpAny_bind (next_genG (A := A.in1) hh hl hd hg hgs (goes (hgo _ rfl rfl (allBare_setGen hb rfl))) (fun v s₁ gs' hbare hv => ?_) (fun s₁ hp h' hk => ?_) fun e s₁ he => he.elim)
    · obtain ⟨b, σ', H', rfl, I', n', hs, hk⟩ := hv
      refine wpAny_bind (wpAny_holding (wpAny_truthy_bool ?_))
      refine wpAny_bind (wpAny_letGo ?_)
      cases b with
      | true => exact (hk (by decide) _ rfl rfl I'.bare).elim
      | false =>
        simp only [Bool.false_eq_true, if_false]
        exact wpAny_bind (wpAny_rule (wpAny_pure (hstop _ σ' H' (Inv.same I' rfl rfl (allBare_setGen I'.bare hbare)) n' (hs rfl))))
    · obtain ⟨σ', H', I', n', hq⟩ := hp
      refine wpAny_bind (wpAny_rule (wpAny_pure ?_))
      exact hend _ σ' H' (Inv.more I' hk rfl (allBare_setGen I'.bare rfl)) n' hq
  | succ n ih =>
    rintro s ⟨hg, hl, hb, gs, hgs, hgo⟩
    have hgl : g < s.gens.size := (Array.getElem?_eq_some_iff.mp hgs).1
    refine codeAny_builtin F.entry_all_loop ?_
    rw [Around.under_plainId F.plain_all_loop _]
    show wpAny _ A.in1 (pyNext (.ref a) >>= _) _ _ s
    refine wpAny_bind (GenW.wpAny_gsz (n := g + 1) hgl (next_genG (A := A.in1) hh hl hd hg hgs (goes (hgo _ rfl rfl (allBare_setGen hb rfl))) (fun v s₁ gs' hbare hv => ?_) (fun s₁ hp h' hk => ?_) fun e s₁ he => he.elim))
    · intro hsz
      obtain ⟨b, σ', H', rfl, I', n', hs, hk⟩ := hv
      refine wpAny_bind (wpAny_holding (wpAny_truthy_bool ?_))
      refine wpAny_bind (wpAny_letGo ?_)
      cases b with
      | true =>
        simp only [if_true]
        have hsz1 : g < s₁.gens.size := by
          have q : (s₁.setGen g gs').gens.size = s₁.gens.size := GenW.setGen_size _ _ _
          have hsz' : g + 1 ≤ (s₁.setGen g gs').gens.size := hsz
          omega
        refine wpAny_pure ⟨plainId_quiet F.plain_all_loop _, ih (s₁.setGen g gs') ⟨hgen σ' H' s₁ I', I'.nolimit, allBare_setGen I'.bare hbare, gs', setGen_at hsz1, fun s'' h1 h2 h3 => ?_⟩⟩
        exact hk (by decide) s'' h1 h2 h3
      | false =>
        simp only [Bool.false_eq_true, if_false]
        exact wpAny_bind (wpAny_rule (wpAny_pure (hstop _ σ' H' (Inv.same I' rfl rfl (allBare_setGen I'.bare hbare)) n' (hs rfl))))
    · intro hsz
      obtain ⟨σ', H', I', n', hq⟩ := hp
      refine wpAny_bind (wpAny_rule (wpAny_pure ?_))
      exact hend _ σ' H' (Inv.more I' hk rfl (allBare_setGen I'.bare rfl)) n' hq
theorem any_loop (hh : A.handled = none) (hd : A.depth < recursionLimit) (hgen : ∀ σ' H' s', Inv G [] σ' H' s' → s'.heap.IsGen a g)
    (hend : ∀ s' σ' H', Inv G [] σ' H' s' → (∀ b ∈ fp, H' b = none) → Qd H' → R (.ok (.ret (.bool false))) s')
    (hstop : ∀ s' σ' H', Inv G [] σ' H' s' → (∀ b ∈ fp, H' b = none) → Qs H' → R (.ok (.ret (.bool true))) s') :
    ∀ (n : Nat) (s : Shared), GAt G A.in1.in1 fp true Qs Qd a g n s → codeAny (model G.prog G.w) A (.builtin "any.loop" ⟨[.ref a], []⟩) R s := by
  have goes : ∀ {gs : GenState} {B : Around} {n : Nat} {r : Resume} {s : Shared}, gs.Goes (model G.prog G.w) B (GR G fp Qd) (GY G fp true Qs) n r s →
      gs.Goes (model G.prog G.w) B (fun n s₀ r s1 => ((r = .ok (.ret .none) ∨ r = .ok .next) ∧ (∃ σ' H', Inv G [] σ' H' s1 ∧ (∀ b ∈ fp, H' b = none) ∧ Qd H')) ∨ ∃ e, r = .error e ∧ (fun (_ : Value) (_ : Shared) => False) e s1) (GY G fp true Qs) n r s := fun h => h
  intro n
  induction n with
  | zero =>
    rintro s ⟨hg, hl, hb, gs, hgs, hgo⟩
    refine codeAny_builtin F.entry_any_loop ?_
    rw [Around.under_plainId F.plain_any_loop _]
    show wpAny _ A.in1 (pyNext (.ref a) >>= _) _ _ s
    refine wpAny_bind (next_genG (A := A.in1) hh hl hd hg hgs (goes (hgo _ rfl rfl (allBare_setGen hb rfl))) (fun v s₁ gs' hbare hv => ?_) (fun s₁ hp h' hk => ?_) fun e s₁ he => he.elim)
    · obtain ⟨b, σ', H', rfl, I', n', hs, hk⟩ := hv
      refine wpAny_bind (wpAny_holding (wpAny_truthy_bool ?_))
      refine wpAny_bind (wpAny_letGo ?_)
      cases b with
      | false => exact (hk (by decide) _ rfl rfl I'.bare).elim
      | true =>
        simp only [if_true]
        exact wpAny_bind (wpAny_rule (wpAny_pure (hstop _ σ' H' (Inv.same I' rfl rfl (allBare_setGen I'.bare hbare)) n' (hs rfl))))
    · obtain ⟨σ', H', I', n', hq⟩ := hp
      refine wpAny_bind (wpAny_rule (wpAny_pure ?_))
      exact hend _ σ' H' (Inv.more I' hk rfl (allBare_setGen I'.bare rfl)) n' hq
  | succ n ih =>
    rintro s ⟨hg, hl, hb, gs, hgs, hgo⟩
    have hgl : g < s.gens.size := (Array.getElem?_eq_some_iff.mp hgs).1
    refine codeAny_builtin F.entry_any_loop ?_
    rw [Around.under_plainId F.plain_any_loop _]
    show wpAny _ A.in1 (pyNext (.ref a) >>= _) _ _ s
    refine wpAny_bind (GenW.wpAny_gsz (n := g + 1) hgl (next_genG (A := A.in1) hh hl hd hg hgs (goes (hgo _ rfl rfl (allBare_setGen hb rfl))) (fun v s₁ gs' hbare hv => ?_) (fun s₁ hp h' hk => ?_) fun e s₁ he => he.elim))
    · intro hsz
      obtain ⟨b, σ', H', rfl, I', n', hs, hk⟩ := hv
      refine wpAny_bind (wpAny_holding (wpAny_truthy_bool ?_))
      refine wpAny_bind (wpAny_letGo ?_)
      cases b with
      | false =>
        simp only [Bool.false_eq_true, if_false]
        have hsz1 : g < s₁.gens.size := by
          have q : (s₁.setGen g gs').gens.size = s₁.gens.size := GenW.setGen_size _ _ _
          have hsz' : g + 1 ≤ (s₁.setGen g gs').gens.size := hsz
          omega
        refine wpAny_pure ⟨plainId_quiet F.plain_any_loop _, ih (s₁.setGen g gs') ⟨hgen σ' H' s₁ I', I'.nolimit, allBare_setGen I'.bare hbare, gs', setGen_at hsz1, fun s'' h1 h2 h3 => ?_⟩⟩
        exact hk (by decide) s'' h1 h2 h3
      | true =>
        simp only [if_true]
        exact wpAny_bind (wpAny_rule (wpAny_pure (hstop _ σ' H' (Inv.same I' rfl rfl (allBare_setGen I'.bare hbare)) n' (hs rfl))))
    · intro hsz
      obtain ⟨σ', H', I', n', hq⟩ := hp
      refine wpAny_bind (wpAny_rule (wpAny_pure ?_))
      exact hend _ σ' H' (Inv.more I' hk rfl (allBare_setGen I'.bare rfl)) n' hq
theorem call_all_gen {G : Cx} {A : Around} {fp : List Addr} {Qs Qd : Hp → Prop} {a : Addr} {g n : Nat} {s : Shared} {Q E : Value → Shared → Prop} (hh : A.handled = none) (hd : A.depth < recursionLimit) (hgen : ∀ σ' H' s', Inv G [] σ' H' s' → s'.heap.IsGen a g)
    (hG : GAt G A.in1.in1 fp false Qs Qd a g n s) (hend : ∀ s' σ' H', Inv G [] σ' H' s' → (∀ b ∈ fp, H' b = none) → Qd H' → Q (.bool true) s')
    (hstop : ∀ s' σ' H', Inv G [] σ' H' s' → (∀ b ∈ fp, H' b = none) → Qs H' → Q (.bool false) s') : wpAny (model G.prog G.w) A (call (.builtin "all") [.ref a]) Q E s := by
  refine call_function_tree F.kind_all F.plain_all F.entry_all (F.args_all1 _) ?_
  unfold Builtin.«all»
  refine wpAny_bind (m := oneArg "all" _) (wpAny_pure ?_)
  refine wpAny_bind (wpAny_pyIter_gen hG.1 ?_)
  exact wpAny_pure ⟨plainId_quiet F.plain_all_loop _, all_loop hh hd hgen hend hstop n s hG⟩
theorem call_any_gen {G : Cx} {A : Around} {fp : List Addr} {Qs Qd : Hp → Prop} {a : Addr} {g n : Nat} {s : Shared} {Q E : Value → Shared → Prop} (hh : A.handled = none) (hd : A.depth < recursionLimit) (hgen : ∀ σ' H' s', Inv G [] σ' H' s' → s'.heap.IsGen a g)
    (hG : GAt G A.in1.in1 fp true Qs Qd a g n s) (hend : ∀ s' σ' H', Inv G [] σ' H' s' → (∀ b ∈ fp, H' b = none) → Qd H' → Q (.bool false) s')
    (hstop : ∀ s' σ' H', Inv G [] σ' H' s' → (∀ b ∈ fp, H' b = none) → Qs H' → Q (.bool true) s') : wpAny (model G.prog G.w) A (call (.builtin "any") [.ref a]) Q E s := by
  refine call_function_tree F.kind_any F.plain_any F.entry_any (F.args_any1 _) ?_
  unfold Builtin.«any»
  refine wpAny_bind (m := oneArg "any" _) (wpAny_pure ?_)
  refine wpAny_bind (wpAny_pyIter_gen hG.1 ?_)
  exact wpAny_pure ⟨plainId_quiet F.plain_any_loop _, any_loop hh hd hgen hend hstop n s hG⟩
end
section
variable {X : Cx} {pins : List (Addr × Obj)} {σ : L2.St} {H : Hp} {s : Shared}
/-- the generator is made -/
theorem gex_made {c P : Addr} {tg elt iter : Expr} {gpos : Pos} {scope : Scope} {own : List (Str × Nat)} {k : Nat} {g : TG} {te : TE} {wi : TI} {stopv : Bool} {Qs Qd : Hp → Prop}
    (hr : Room (k + 1) X.A) (hN : X.N.Nodup) (TB : GxR.TabB X.base X.mg c P) (hcode : X.env.code = .ref c) (ok : GexOk X.N X.env.scope scope own) (hi : PI X tg iter wi)
    (hpe : ∀ (A : Around) (s : Shared) (H : Hp) (C : Addr) (code : Value) (fp : List Addr) (pn : List (Addr × Obj)), Room k A → let G := gex X A s H (genEnv scope (cloFrom X.env.cells scope.names []) C code builtinsNs X.env) fp pn
      PG G tg g ∧ PE G elt te)
    (hs : ∀ v, genFold iter X.env v = pure v) (I : Inv X pins σ H s)
    (h : wi σ H fun J H1 => GxR.TabG H1 P ∧ ∀ H2, GxR.Tabbed P H1 H2 → ∃ W : Nat → Nat → Hp → Prop, (∃ m, W 0 m H2) ∧ Turns J g te (own.map (·.2)) (wipe σ (own.map (·.2))) stopv Qs Qd W) :
    wpAny (model X.prog X.w) X.A (eval (.GeneratorExp elt [⟨tg, iter, [], 0⟩] scope gpos) X.env) (fun v s5 => ∃ (A' : Around) (sG : Shared) (HG : Hp) (genv : Env) (fp : List Addr) (pn : List (Addr × Obj)) (a : Addr) (gn n : Nat),
      v = .ref a ∧ GAt (gex X A' sG HG genv fp pn) X.A.in1.in1 fp stopv Qs Qd a gn n s5 ∧ (∀ σ' H' s', Inv (gex X A' sG HG genv fp pn) [] σ' H' s' → s'.heap.IsGen a gn) ∧
      (∀ σ' H' s', Inv (gex X A' sG HG genv fp pn) [] σ' H' s' → (∀ b ∈ fp, H' b = none) → Inv X pins σ H' s')) X.xe s := by
  have hfree : ∀ y ∈ scope.names, y.2 = .free → ∃ c, X.env.cells.lookup y.1 = some c := fun y hy e => by
    rcases ok.free y hy e with k | k
    · exact I.ok.has _ (.inl k)
    · exact I.ok.has _ (.inr k)
  refine wpAny_GeneratorExp_make ok.co (closure_ok hfree) ok.nocell ok.dot ok.kind (by have := hr.dp; omega) ?_ hs
  refine thn (hi.run pins s σ H _ I h) fun xv s1 hx => thn hx fun itv s2 h2 => ?_
  obtain ⟨it, fp, tn, J, H1, rfl, I2, T, st2, f2, ⟨ps, hP, ht⟩, q⟩ := h2
  have hPs : s2.heap.get? P = some { cls := .none, data := .fields ps } := I2.hok P _ hP
  have cd : PySem.W.CodeHd s2.heap c P := TB.code.keeps I2.bk
  have lim2 : s2.heap.NoLimit := I2.nolimit
  have cont : ∀ (code : Value) (h3 : Heap) (tk : Nat) (ps' : Array Value), Heap.ExtBut P s2.heap h3 → s2.heap.objs.size ≤ h3.objs.size → h3.get? P = some { cls := .none, data := .fields ps' } → (∃ more, ps' = ps ++ more) → TriplesOk ps'.toList →
      wpAny (model X.prog X.w) X.A (builtinsFor X.env.globals X.env.builtins) (fun bi s₄ =>
        ∀ h', h'.Ns s₄.heap.objs.size (fun y => if y = ".0" then some (.ref it) else none) → Heap.SameBut s₄.heap.objs.size (s₄.heap.push { cls := .type "frame", data := .dict #[] }) h' →
          (fun v s5 => ∃ (A' : Around) (sG : Shared) (HG : Hp) (genv : Env) (fp : List Addr) (pn : List (Addr × Obj)) (a : Addr) (gn n : Nat),
            v = .ref a ∧ GAt (gex X A' sG HG genv fp pn) X.A.in1.in1 fp stopv Qs Qd a gn n s5 ∧ (∀ σ' H' s', Inv (gex X A' sG HG genv fp pn) [] σ' H' s' → s'.heap.IsGen a gn) ∧
            (∀ σ' H' s', Inv (gex X A' sG HG genv fp pn) [] σ' H' s' → (∀ b ∈ fp, H' b = none) → Inv X pins σ H' s')) (Value.ref h'.objs.size) { s₄ with
            gens := s₄.gens.push (.fresh (.compStart (.GeneratorExp elt [⟨tg, iter, [], 0⟩] scope gpos) 0 (.ref it) .none (genEnv scope (cloFrom X.env.cells scope.names []) s₄.heap.objs.size code bi X.env))),
            toks := s₄.toks + 1 + 1 + 1,
            heap := h'.push { cls := .type "generator", data := .fields #[.int s₄.gens.size 0, .str "<genexpr>" (s₄.toks + 1), .str (X.env.qual ++ "<genexpr>") (s₄.toks + 1 + 1)] } }) X.xe { s2 with heap := h3, toks := tk } := by
    intro code h3 tk ps' hx hsz hP3 ⟨more, hmore⟩ ht3
    subst hmore
    obtain ⟨bm, ob, e1, e2, e3, e4, e5, e6, e7, e8⟩ := TB.bm
    have keep3 : ∀ b u, b ≠ P → s2.heap.get? b = some u → h3.get? b = some u := fun b u hb e => hx b u hb e
    refine wpAny_builtinsFor (m := X.mg) (by rw [I2.ok.glob]; exact (I2.mod.glob.keeps I2.bk).extBut hx TB.gP) e1 e2 (keep3 _ _ e4 (I2.bk _ _ e5)) e6 e7 e8 ?_
    intro h' hn' hs'
    have I3 : Inv X pins σ (upd H1 P (.tbl (ps ++ more))) { s2 with heap := h3, toks := tk } := GxR.inv_tab (g' := s2.gens) (d' := s2.drawn) I2 hP keep3 hP3 I2.bare
    have hT2 : GxR.Tabbed P H1 (upd H1 P (.tbl (ps ++ more))) := ⟨⟨ps ++ more, upd_same, ht3⟩, fun b hb => upd_ne hb⟩
    obtain ⟨W, ⟨m0, w0⟩, turn⟩ := q _ hT2
    have hsz' : h'.objs.size = h3.objs.size + 1 := by rw [hs'.1, Heap.size_push]
    have keep' : ∀ b o, h3.get? b = some o → h'.get? b = some o := fun b o e => hs'.extBut b o (Nat.ne_of_lt (Heap.lt_size e)) (Heap.get?_push_of_some _ e)
    have nP : ∀ b ∈ fp, b ≠ P := fun b hb z => by
      have := (f2 b hb).1
      rw [z, hP] at this
      cases this
    have sz : ∀ b ∈ fp, b < h3.objs.size := fun b hb => by
      obtain ⟨o, e, _⟩ := T.obj _ _ st2 b hb
      exact Heap.lt_size (keep3 b o (nP b hb) e)
    have f3 : ∀ b ∈ fp, FpOk X pins (upd H1 P (.tbl (ps ++ more))) b ∧ b < ({ s2 with heap := h3, toks := tk } : Shared).heap.objs.size := fun b hb =>
      ⟨⟨by rw [upd_ne (nP b hb)]; exact (f2 b hb).1, (f2 b hb).2⟩, sz b hb⟩
    generalize hgo : ({ cls := .type "generator", data := .fields #[.int s2.gens.size 0, .str "<genexpr>" (tk + 1), .str (X.env.qual ++ "<genexpr>") (tk + 1 + 1)] } : Obj) = go
    have hgen : ∀ h : Heap, h.get? h'.objs.size = some go → h.IsGen h'.objs.size s2.gens.size := fun h e => ⟨go, _, _, e, by rw [← hgo], by rw [← hgo], by rw [← hgo]⟩
    have hpush : (h'.push go).get? h'.objs.size = some go := by
      rw [← hgo]
      exact Heap.get?_push_size _ rfl
    have hgd : ∀ v, go.data ≠ .cell v := fun v z => by rw [← hgo] at z; cases z
    have keep5 : ∀ b o, h3.get? b = some o → (h'.push go).get? b = some o := fun b o e => Heap.get?_push_of_some _ (keep' b o e)
    have st5 : tn 0 (h'.push go) := T.keep _ _ _ st2 fun b hb o e => keep5 b o (keep3 b o (nP b hb) e)
    obtain ⟨genv, hge⟩ : ∃ genv, genv = genEnv scope (cloFrom X.env.cells scope.names []) h3.objs.size code builtinsNs X.env := ⟨_, rfl⟩
    obtain ⟨A', hA'⟩ : ∃ A', A' = X.A.in1.in1.over (.compLoop (.GeneratorExp elt [⟨tg, iter, [], 0⟩] scope gpos) 0 (.ref it) .none genv) [] := ⟨_, rfl⟩
    have roomA : Room k A' := by
      rw [hA']
      refine ⟨hr.hd, ?_, ?_⟩
      · have := hr.dp
        show X.A.depth + 1 + 3 * k + 5 < _
        omega
      · have := hr.un
        show X.A.units + 1 + 1 + 3 + 16 * k + 200 < _
        omega
    have frA : A'.frames = some (genv :: X.stack) := by
      rw [hA']
      show pushEnvs [genv] X.A.frames = _
      rw [I.ok.frames]
      rfl
    obtain ⟨pg, pe⟩ := hpe A' { s2 with heap := h3, toks := tk } (upd H1 P (.tbl (ps ++ more))) h3.objs.size code fp [(h'.objs.size, go)] roomA
    rw [← hge] at pg pe
    have lim5 : (h'.push go).NoLimit := I3.nolimit.keeps keep5
    refine ⟨A', { s2 with heap := h3, toks := tk }, upd H1 P (.tbl (ps ++ more)), genv, fp, [(h'.objs.size, go)], h'.objs.size, s2.gens.size, m0 + 1, rfl, ?_, fun σ' H' s' I' => hgen _ (I'.pin (h'.objs.size, go) (List.mem_append_left _ (List.mem_singleton.mpr rfl))).1, fun σ' H' s' I' n' => ?_⟩
    · refine ⟨hgen _ hpush, lim5, AllBare.push I2.bare rfl, _, Array.getElem?_push_size .., fun s'' hh ho hb => ⟨rfl, ?_⟩⟩
      show Seg _ _ _ _ _ _ (.compStart (.GeneratorExp elt [⟨tg, iter, [], 0⟩] scope gpos) 0 (.ref it) .none (genEnv scope (cloFrom X.env.cells scope.names []) h3.objs.size code builtinsNs X.env)) _ _ _
      rw [← hge]
      have IG : Inv (gex X A' { s2 with heap := h3, toks := tk } (upd H1 P (.tbl (ps ++ more))) genv fp [(h'.objs.size, go)]) [] (wipe σ (own.map (·.2))) (upd H1 P (.tbl (ps ++ more))) s'' := by
        refine gex_start (m := fun y => if y = ".0" then some (.ref it) else none) I3 ok hN f3 (by rw [hA']; exact hr.hd) frA hge ho hb (by rw [hh]; exact keep5) (by rw [hh]; exact hn'.push _) fun p hp => ?_
        rw [List.mem_singleton.mp hp, hh]
        refine ⟨hpush, ?_, hgd⟩
        show h3.objs.size < h'.objs.size
        omega
      refine seg_gex0 (G := gex X A' { s2 with heap := h3, toks := tk } (upd H1 P (.tbl (ps ++ more))) genv fp [(h'.objs.size, go)]) T (by rw [hh]; exact st5) ?_
      refine seg_gex (G := gex X A' { s2 with heap := h3, toks := tk } (upd H1 P (.tbl (ps ++ more))) genv fp [(h'.objs.size, go)]) T rfl rfl rfl (fun b hb p hp => ?_) hA'.symm (by show genv.scope.isCoroutine = false; rw [hge]; exact ok.co) pg pe turn (m0 + 1) 0 m0 _ _ _ (Nat.lt_succ_self _) w0 IG (by rw [hh]; exact st5) fun b hb => (f3 b hb).1.1
      rw [List.mem_singleton.mp hp]
      show h'.objs.size ≠ b
      exact Nat.ne_of_gt (by rw [hsz']; exact Nat.lt_succ_of_lt (sz b hb))
    · exact I3.call' (ch := fp) I'.os I'.base I'.hok I'.bare fun b hb => ⟨(f3 b hb).1.2.2.2.1, (f3 b hb).1.2.1, (f3 b hb).1.2.2.2.2.1, (f3 b hb).1.2.2.2.2.2⟩
  refine ⟨lim2, ?_⟩
  cases hf : codeAmong gpos ps.toList with
  | none =>
    refine wpAny_genexprCodeX hcode (cd.code hPs ht) (cd.tab hPs) hf fun c' h' tk hx hge hlt hco' _ htab' _ => ?_
    obtain ⟨o1, vs, f1, tf, fl, tg, inF, tx, tt, op, _, _, _, _, _, _, _, _, _, htr, _⟩ := hco'
    exact cont _ h' tk _ hx (Nat.le_trans hge (Nat.le_of_lt hlt)) htab'.2 ⟨_, rfl⟩ htr
  | some cv =>
    refine wpAny_genexprCode_hit hcode (cd.code hPs ht) hf ?_
    exact cont cv s2.heap s2.toks ps (Heap.ExtBut.refl _ _) (Nat.le_refl _) hPs ⟨#[], by simp⟩ ht
/-- all(test for tg in iter), any(..): behind it the def's table may have grown -/
def tAllG (P : Addr) (wi : TI) (g : TG) (te : TE) (vs : List Nat) : TE := fun σ H Q => wi σ H fun J H1 => GxR.TabG H1 P ∧ ∀ H2, GxR.Tabbed P H1 H2 → ∃ W : Nat → Nat → Hp → Prop, (∃ m, W 0 m H2) ∧ Turns J g te vs (wipe σ vs) false (fun H' => Q (.bl false) H') (fun H' => Q (.bl true) H') W
def tAnyG (P : Addr) (wi : TI) (g : TG) (te : TE) (vs : List Nat) : TE := fun σ H Q => wi σ H fun J H1 => GxR.TabG H1 P ∧ ∀ H2, GxR.Tabbed P H1 H2 → ∃ W : Nat → Nat → Hp → Prop, (∃ m, W 0 m H2) ∧ Turns J g te vs (wipe σ vs) true (fun H' => Q (.bl true) H') (fun H' => Q (.bl false) H') W
section
variable {c P : Addr} {tg elt iter : Expr} {p pos gpos : Pos} {scope : Scope} {own : List (Str × Nat)} {k : Nat} {g : TG} {te : TE} {wi : TI}
theorem pe_allG (hr : Room (k + 1) X.A) (hN : X.N.Nodup) (hg : Gl X "all") (hm : X.mg "all" = none) (hb : bootBuiltins "all" = some (.builtin "all")) (TB : GxR.TabB X.base X.mg c P) (hcode : X.env.code = .ref c) (ok : GexOk X.N X.env.scope scope own) (hi : PI X tg iter wi)
    (hpe : ∀ (A : Around) (s : Shared) (H : Hp) (C : Addr) (code : Value) (fp : List Addr) (pn : List (Addr × Obj)), Room k A → let G := gex X A s H (genEnv scope (cloFrom X.env.cells scope.names []) C code builtinsNs X.env) fp pn
      PG G tg g ∧ PE G elt te)
    (hs : ∀ v, genFold iter X.env v = pure v)
    (he : starEach [.GeneratorExp elt [⟨tg, iter, [], 0⟩] scope gpos] X.env = (false, eval (.GeneratorExp elt [⟨tg, iter, [], 0⟩] scope gpos) X.env) :: starEach [] X.env := by rfl) :
    PE X (.Call (.Name "all" p) [.GeneratorExp elt [⟨tg, iter, [], 0⟩] scope gpos] [] pos) (tAllG P wi g te (own.map (·.2))) := by
  refine ⟨fun pins s σ H Q I h => ?_⟩
  refine wpAny_Call_Name_kw (ld_blt I hg hm hb ?_)
  refine PyProof.Rows.callWith_builtin1 ?_ he (by rfl)
  rw [he]
  show wpAny _ _ (spliced ((false, eval (.GeneratorExp elt [⟨tg, iter, [], 0⟩] scope gpos) X.env) :: backTo pos (starEach [] X.env))) _ _ s
  refine Calls.spliced_cons (thn (gex_made (stopv := false) hr hN TB hcode ok hi hpe hs I h) fun v s5 ⟨A', sG, HG, genv, fp, pn, a, gn, n, hv, hG, hgen, back⟩ => ?_)
  subst hv
  refine Calls.spliced_nil ?_
  exact call_all_gen (G := gex X A' sG HG genv fp pn) hr.hd (by have := hr.dp; omega) hgen hG (fun s' σ' H' I' n' q => ⟨.bl true, H', back σ' H' s' I' n', rfl, q⟩) fun s' σ' H' I' n' q => ⟨.bl false, H', back σ' H' s' I' n', rfl, q⟩
theorem pe_anyG (hr : Room (k + 1) X.A) (hN : X.N.Nodup) (hg : Gl X "any") (hm : X.mg "any" = none) (hb : bootBuiltins "any" = some (.builtin "any")) (TB : GxR.TabB X.base X.mg c P) (hcode : X.env.code = .ref c) (ok : GexOk X.N X.env.scope scope own) (hi : PI X tg iter wi)
    (hpe : ∀ (A : Around) (s : Shared) (H : Hp) (C : Addr) (code : Value) (fp : List Addr) (pn : List (Addr × Obj)), Room k A → let G := gex X A s H (genEnv scope (cloFrom X.env.cells scope.names []) C code builtinsNs X.env) fp pn
      PG G tg g ∧ PE G elt te)
    (hs : ∀ v, genFold iter X.env v = pure v)
    (he : starEach [.GeneratorExp elt [⟨tg, iter, [], 0⟩] scope gpos] X.env = (false, eval (.GeneratorExp elt [⟨tg, iter, [], 0⟩] scope gpos) X.env) :: starEach [] X.env := by rfl) :
    PE X (.Call (.Name "any" p) [.GeneratorExp elt [⟨tg, iter, [], 0⟩] scope gpos] [] pos) (tAnyG P wi g te (own.map (·.2))) := by
  refine ⟨fun pins s σ H Q I h => ?_⟩
  refine wpAny_Call_Name_kw (ld_blt I hg hm hb ?_)
  refine PyProof.Rows.callWith_builtin1 ?_ he (by rfl)
  rw [he]
  show wpAny _ _ (spliced ((false, eval (.GeneratorExp elt [⟨tg, iter, [], 0⟩] scope gpos) X.env) :: backTo pos (starEach [] X.env))) _ _ s
  refine Calls.spliced_cons (thn (gex_made (stopv := true) hr hN TB hcode ok hi hpe hs I h) fun v s5 ⟨A', sG, HG, genv, fp, pn, a, gn, n, hv, hG, hgen, back⟩ => ?_)
  subst hv
  refine Calls.spliced_nil ?_
  exact call_any_gen (G := gex X A' sG HG genv fp pn) hr.hd (by have := hr.dp; omega) hgen hG (fun s' σ' H' I' n' q => ⟨.bl false, H', back σ' H' s' I' n', rfl, q⟩) fun s' σ' H' I' n' q => ⟨.bl true, H', back σ' H' s' I' n', rfl, q⟩
end
end
/-! ### heaps: the defs' tables may grow -/
structure SameT (H H' : Hp) : Prop where
  but : ∀ b o, H b = some o → (∀ ps, o ≠ .tbl ps) → H' b = some o
  tab : ∀ P, GxR.TabG H P → GxR.TabG H' P
theorem SameT.refl (H : Hp) : SameT H H := ⟨fun _ _ h _ => h, fun _ h => h⟩
theorem SameT.trans {H H1 H2 : Hp} (a : SameT H H1) (b : SameT H1 H2) : SameT H H2 := ⟨fun c o h n => b.but c o (a.but c o h n) n, fun P h => b.tab P (a.tab P h)⟩
theorem TabG.mono {H H' : Hp} {P : Addr} (e : Same H H') (h : GxR.TabG H P) : GxR.TabG H' P := by
  obtain ⟨ps, h1, h2⟩ := h
  exact ⟨ps, e _ _ h1, h2⟩
theorem sameT {H H' : Hp} (e : Same H H') : SameT H H' := ⟨fun b o h _ => e b o h, fun _ h => TabG.mono e h⟩
theorem tabbedT {H H' : Hp} {P : Addr} (hP : GxR.TabG H P) (t : GxR.Tabbed P H H') : SameT H H' := by
  obtain ⟨ps, h1, h2⟩ := hP
  refine ⟨fun b o h n => ?_, fun Q h => ?_⟩
  · rw [t.2 b fun z => by rw [z, h1] at h; cases h; exact n ps rfl]
    exact h
  · by_cases hQ : Q = P
    · rw [hQ]
      exact t.1
    · obtain ⟨qs, g1, g2⟩ := h
      exact ⟨qs, by rw [t.2 Q hQ]; exact g1, g2⟩
section
variable {K : PySem.W.Frag} {H H' : Hp}
theorem SameT.seq {a : Addr} {xs : List V} (e : SameT H H') (h : SqL K H a xs) : SqL K H' a xs := by
  rcases h with (h | ⟨o, h⟩) | h
  · exact .inl (.inl (e.but _ _ h fun _ z => by cases z))
  · exact .inl (.inr ⟨o, e.but _ _ h fun _ z => by cases z⟩)
  · exact .inr h
theorem SameT.tseq {a : Addr} {xs : List V} (e : SameT H H') (h : SqT K H a xs) : SqT K H' a xs := by
  rcases h with (h | ⟨o, h⟩) | h
  · exact .inl (.inl (e.but _ _ h fun _ z => by cases z))
  · exact .inl (.inr ⟨o, e.but _ _ h fun _ z => by cases z⟩)
  · exact .inr h
mutual
theorem Dp.monoT (e : SameT H H') : ∀ (d : PyData) (v : V), Dp K H v d → Dp K H' v d
  | .none, _, h => by cases h; exact .non
  | .bool b, _, h => by cases h; exact .bl b
  | .int i, _, h => by cases h; exact .int i
  | .str x, _, h => by cases h; exact .str x
  | .list ds, _, h => by
    cases h with
    | lst hs ha => exact .lst (SameT.seq e hs) (Dp.monoTAll e ds _ ha)
  | .tuple ds, _, h => by
    cases h with
    | tup hs ha => exact .tup (SameT.tseq e hs) (Dp.monoTAll e ds _ ha)
  | .dict _, _, h => by cases h
theorem Dp.monoTAll (e : SameT H H') : ∀ (ds : List PyData) (vs : List V), DpAll K H vs ds → DpAll K H' vs ds
  | [], _, h => by cases h; exact .nil
  | d :: ds, _, h => by
    cases h with
    | cons h1 h2 => exact .cons (Dp.monoT e d _ h1) (Dp.monoTAll e ds _ h2)
end
theorem Fr.monoT {v : V} {r : Rat} (e : SameT H H') (h : Ub.Fr K H v r) : Ub.Fr K H' v r := Dp.monoT e _ _ h
theorem Frs.monoT {v : V} {rs : List Rat} (e : SameT H H') (h : Ub.Frs K H v rs) : Ub.Frs K H' v rs := Dp.monoT e _ _ h
end
/-! ### turns over a list, a range, two lists -/
section
variable {K : PySem.W.Frag} {g : TG} {te : TE} {vs : List Nat} {σw : L2.St} {stopv : Bool} {Qs Qd : Hp → Prop} {H2 : Hp}
theorem turnsL {a : Addr} {xs : List V} (Pv : Nat → Hp → Prop) (h0 : Pv 0 H2) (hl : ∀ i H, i ≤ xs.length → Pv i H → SqL K H a xs)
    (hs : ∀ i x H, xs[i]? = some x → Pv i H → g x σw H fun σ2 H2 => wipe σ2 vs = σw ∧ te σ2 H2 fun y H3 => ∃ b, y = .bl b ∧ (b = stopv → Qs H3) ∧ (b ≠ stopv → Pv (i + 1) H3)) (hd : ∀ H, Pv xs.length H → Qd H) :
    ∃ W : Nat → Nat → Hp → Prop, (∃ m, W 0 m H2) ∧ Turns (Itl K a) g te vs σw stopv Qs Qd W := by
  refine ⟨fun i m H => m = xs.length - i ∧ i ≤ xs.length ∧ Pv i H, ⟨xs.length, by simp, Nat.zero_le _, h0⟩, ?_⟩
  rintro i m H ⟨rfl, hi, p⟩
  have q := hl i H hi p
  by_cases hlt : i < xs.length
  · refine .inr ⟨⟨xs, xs[i], q, by simp [hlt]⟩, Pv (i + 1), fun H' p' => ⟨xs.length - (i + 1), by omega, rfl, hlt, p'⟩, fun x H' y => ?_⟩
    obtain ⟨e, y⟩ := y
    subst e
    exact hs i x _ (y xs q) p
  · have e : i = xs.length := by omega
    subst e
    exact .inl ⟨⟨xs, q, Nat.le_refl _⟩, hd H p⟩
theorem turnsZ {a c : Addr} {xs ys : List V} (Pv : Nat → Hp → Prop) (h0 : Pv 0 H2) (hl : ∀ i H, Pv i H → SqL K H a xs ∧ SqL K H c ys)
    (hs : ∀ i x y T H, xs[i]? = some x → ys[i]? = some y → H T = none → Pv i H → g (.ref T) σw (upd H T (.tup [x, y])) fun σ2 H2 => wipe σ2 vs = σw ∧ te σ2 H2 fun y H3 => ∃ b, y = .bl b ∧ (b = stopv → Qs H3) ∧ (b ≠ stopv → Pv (i + 1) H3)) (hd : ∀ H, Pv (min xs.length ys.length) H → Qd H) :
    ∃ W : Nat → Nat → Hp → Prop, (∃ m, W 0 m H2) ∧ Turns (Itz K a c) g te vs σw stopv Qs Qd W := by
  refine ⟨fun i m H => m = min xs.length ys.length - i ∧ i ≤ min xs.length ys.length ∧ Pv i H, ⟨min xs.length ys.length, by simp, Nat.zero_le _, h0⟩, ?_⟩
  rintro i m H ⟨rfl, hi, p⟩
  obtain ⟨q1, q2⟩ := hl i H p
  by_cases hlt : i < min xs.length ys.length
  · have h1 : i < xs.length := by omega
    have h2 : i < ys.length := by omega
    refine .inr ⟨⟨xs, ys, xs[i], ys[i], q1, q2, by simp [h1], by simp [h2]⟩, Pv (i + 1), fun H' p' => ⟨min xs.length ys.length - (i + 1), by omega, rfl, by omega, p'⟩, fun v H' y => ?_⟩
    obtain ⟨T, x, y, rfl, nT, rfl, hx, hy⟩ := y
    exact hs i x y T H (hx xs q1) (hy ys q2) nT p
  · have e : i = min xs.length ys.length := by omega
    subst e
    exact .inl ⟨⟨xs, ys, q1, q2, by omega⟩, hd H p⟩
end
/-! ### defs with a table, the law's end -/
def dT (x : String) : He.Defn := (Str.ofString x, none)
section
variable {P : Program} {w : World} {K : PySem.W.Frag} {mg : Str → Option Value} {base : Heap} {x qual : Str} {params : Arguments} {body : List Stmt} {scope : Scope} {dvs : List V} {kws : List (Str × V)} {f : Addr} {fd : FuncData}
theorem FunD.okT {CX : CXT} {N ps : List Str} {k : Nat} {sp : Sp} {p : He.Defn} (F : FunD K x qual params body scope dvs kws f fd) (hf : f = He.fAd K p) (S : FnScope N ps scope) (len : ∀ vs H Q E, sp vs H Q E → vs.length = ps.length)
    (hbody : ∀ (A : Around) (outer : List Env) (s : Shared) (H : Hp) (vs : List V) (Q : VK) (E : XK), Room k (A.deeper (envOfC qual scope s.heap.objs.size f (.ref (He.cT K p).1))) → sp vs H Q E →
      ∃ t, PSs (cxOf CX P w K mg base N qual scope f (.ref (He.cT K p).1) A outer s H E) body t ∧ t { nx := fun _ H' => Q .non H', rt := Q } (start N vs) H) : FnOk P w K mg base CX (k + 1) f fd ps sp := by
  obtain ⟨oc, od, dV, kV, doc, pm, an, cdv, ct, osl, rfl, lk, hcd, _, _⟩ := F.ex
  obtain ⟨c, hc⟩ := He.codeIn_ref hcd
  subst hc
  have e : (He.cT K p).1 = c := He.codeOf_eq (by rw [← hf]; exact lk) rfl
  refine fn_of lk hcd S len fun A outer s H vs Q E hr hsp => ?_
  have h := hbody A outer s H vs Q E (by rw [e]; exact hr) hsp
  rw [e] at h
  exact h
end
theorem endOfLawT {l : PySem.W.OpenLaw} {n k : Nat} {q : Program} {loose : List Str} {XP : (Str → Option Value) → Heap → Prop} {YP : World → Heap → Prop} {d : DefRec} {x : Str}
    (most : l.most = some n) (small : n ≤ sizeLine) (plain : d.params.defaults = []) (room : Room k callerA) (tf : List He.Defn)
    (all : ∀ (w : World) (mg : Str → Option Value) (fa : Addr) (h : Heap), YP w h → h.Ns mainGlobals mg → mg d.name = some (.ref fa) → ∃ (K : PySem.W.Frag) (fd : FuncData) (sp : Sp), K.In h ∧
      (∀ p ∈ tf, PySem.W.codeHdIn K (He.cT K p).1 (He.cT K p).2 = true) ∧ (∀ p ∈ tf, K.lookup (He.cT K p).2 = none) ∧ (∀ p ∈ tf, h.get? (He.cT K p).2 = some { cls := .none, data := .fields #[] }) ∧
      (∀ (s : Shared) (u : Value), BindsTo s fd ⟨[u], []⟩ [(x, u)]) ∧ (∀ (H : Hp) (a : Addr) (ns : List Int), ns.length ≤ n → (∀ z ∈ ns, Builtin.Int.intBits z ≤ 1048576) → (∀ p ∈ tf, GxR.TabG H (He.cT K p).2) → SqL K H a (ns.map V.int) → sp [.ref a] H (fun v _ => v = .bl true) E0) ∧
      ∀ base : Heap, K.In base → base.Ns mainGlobals mg → (∀ p ∈ tf, GxR.TabB base mg (He.cT K p).1 (He.cT K p).2) → FnOk l.prog w K mg base (L2.CX l.prog w) k fa fd [x] sp) :
    PySem.W.WalkO q loose XP YP l.row.toRowW d [] (fun f vs => PySem.call f vs) := by
  refine LamX.walk_ofTsE (CX := fun w => L2.CX l.prog w) (x := x) most small plain room (fun w mg fa h Y hn hm => ?_) fun w H s e s' z => Ub.noExc z
  obtain ⟨K, fd, sp, kin, hd, out, emp, bnd, want, ok⟩ := all w mg fa h Y hn hm
  refine ⟨K, kin, fd, tf.map (He.cT K), sp, fun p hp => ?_, fun p hp => ?_, fun p hp => ?_, bnd, fun H a ns hl hb hT hS => want H a ns hl hb (fun p hp => ?_) hS, fun base k2 g2 tb => ok base k2 g2 fun p hp => ?_⟩
  · obtain ⟨q, hq, rfl⟩ := List.mem_map.mp hp
    exact emp q hq
  · obtain ⟨q, hq, rfl⟩ := List.mem_map.mp hp
    exact out q hq
  · obtain ⟨q, hq, rfl⟩ := List.mem_map.mp hp
    exact PySem.W.codeHd_of_K kin (hd q hq)
  · exact ⟨#[], hT _ (List.mem_map.mpr ⟨p, hp, rfl⟩), True.intro⟩
  · obtain ⟨a, b, c⟩ := tb _ (List.mem_map.mpr ⟨p, hp, rfl⟩)
    exact ⟨a, b, c⟩
def gexC (N : List Str) (sc scope : Scope) (own : List (Str × Nat)) : Bool :=
  decide (scope.kind = .function) && (decide (scope.isCoroutine = false) && (scope.names.all (fun y => decide (y.2 ≠ .cell)) && (decide (scope.names.lookup (".0" : Str) = some NameKind.local) && (scope.names.all (fun y => decide (scope.names.lookup y.1 = some y.2)) &&
    (own.all (fun p => decide (N[p.2]? = some p.1)) && (scope.names.all (fun y => decide (y.2 = .free → (sc.names.lookup y.1 = some .cell ∨ sc.names.lookup y.1 = some .free))) && scope.names.all (fun y => decide (y.2 = .local → (y.1 ∈ own.map (·.1) ∨ y.1 ∉ N)))))))))
theorem gexOk_by {N : List Str} {sc scope : Scope} {own : List (Str × Nat)} (h : gexC N sc scope own = true) : GexOk N sc scope own := by
  unfold gexC at h
  simp only [Bool.and_eq_true, List.all_eq_true, decide_eq_true_eq] at h
  obtain ⟨h1, h2, h3, h4, h5, h6, h7, h8⟩ := h
  exact ⟨h1, h2, h3, h4, h5, h6, h7, h8⟩
theorem bb_all : bootBuiltins "all" = some (.builtin "all") := by kernel_rfl
theorem bb_any : bootBuiltins "any" = some (.builtin "any") := by kernel_rfl
/-! ### list(reversed(x)), x a list -/
section
open RT
variable {prog : Program} {w : World} {A : Around} {E : Value → Shared → Prop} {s : Shared}
theorem call_list_revI {it l : Addr} {items : Array Value} {Q : Value → Shared → Prop} (hh : A.handled = none) (hit : s.heap.IsRevIter it l ((items.size : Int) - 1)) (hl : s.heap.IsList l items) (hne : l ≠ it) (hn : items.size ≤ sizeLine)
    (hQ : ∀ (h' : Heap) (tk : Nat) (acc : Array Value) (c' : Nat), (∀ b o, b ≠ it → s.heap.get? b = some o → h'.get? b = some o) → h'.get? s.heap.objs.size = some (lstObj acc c') → ItemsOf (fun i v => items[items.size - 1 - i]? = some v) acc items.size → Q (.ref s.heap.objs.size) { s with heap := h', toks := tk }) :
    wpAny (model prog w) A (call (.type "list") [.ref it]) Q E s := by
  have W := (Walks.listRev (prog := prog) (w := w) (A := A.in1.in1) hh it l hne items).toS
  obtain ⟨oi, hoi, _⟩ := id hit
  obtain ⟨ol, hol, _⟩ := id hl
  have hSi : s.heap.objs.size ≠ it := Nat.ne_of_gt (Heap.lt_size hoi)
  have hSl : s.heap.objs.size ≠ l := Nat.ne_of_gt (Heap.lt_size hol)
  have hSf : s.heap.objs.size ∉ [it, l] := by simp only [List.mem_cons, List.not_mem_nil, or_false, not_or]; exact ⟨hSi, hSl⟩
  refine callType_codes (Q₁ := fun obj s₁ => obj = .ref s.heap.objs.size ∧ s₁ = { s with heap := s.heap.push { cls := .type "list", data := .seq #[] } }) F.called_list (F.typeCall_list_1 _) F.entry_list_init
    (code_list_new _ ⟨rfl, rfl⟩) fun obj s₁ h₁ => ?_
  obtain ⟨rfl, rfl⟩ := h₁
  have hS : (s.heap.push { cls := .type "list", data := .seq #[] }).get? s.heap.objs.size = some { cls := .type "list", data := .seq #[] } := Heap.get?_push_size _ rfl
  refine ⟨⟨_, hS, rfl⟩, F.args_list_init_2 _ _, ?_⟩
  show wpAny _ A.in1.in1 (do let old ← Builtin.List.listItems (.ref s.heap.objs.size); Builtin.List.listUpdate (.ref s.heap.objs.size) (fun _ => #[]); letGo old.toList.reverse; Builtin.List.listExtendWith (.ref s.heap.objs.size) (.ref it) .none) _ _ _
  refine wpAny_bind ?_
  unfold Builtin.List.listItems
  refine wpAny_bind (wpAny_seqItems hS rfl (wpAny_pure ?_))
  show wpAny _ A.in1.in1 (updateSeq s.heap.objs.size (fun _ => #[]) >>= fun _ => letGo (#[] : Array Value).toList.reverse >>= fun _ => Builtin.List.listExtendWith (.ref s.heap.objs.size) (.ref it) .none) _ _ _
  refine wpAny_bind (wpAny_updateSeq hS rfl ?_)
  have hS2 := Heap.get?_update_self (Obj.mapSeq (fun _ => (#[] : Array Value))) hS rfl
  refine wpAny_bind (wpAny_letGo ?_)
  have kp : ∀ b o, s.heap.get? b = some o → ((s.heap.push { cls := .type "list", data := .seq #[] }).update s.heap.objs.size (Obj.mapSeq (fun _ => (#[] : Array Value)))).get? b = some o := fun b o e =>
    (Heap.get?_update_other _ _ (Ne.symm (Nat.ne_of_lt (Heap.lt_size e)))).trans (Heap.get?_push_of_some _ e)
  generalize ((s.heap.push { cls := .type "list", data := .seq #[] }).update s.heap.objs.size (Obj.mapSeq (fun _ => (#[] : Array Value)))) = h2 at hS2 kp ⊢
  have hit1 : h2.IsRevIter it l ((items.size : Int) - 1) := hit.at fun o e => kp it o e
  have hl1 : h2.IsList l items := hl.at fun o e => kp l o e
  have hT : ({ s with heap := h2 } : Shared).TypeIs (.ref it) "list_reverseiterator" := Heap.IsRevIter.typeIs (s := { s with heap := h2 }) hit1
  have h1 : Builtin.List.listSameRef (.ref s.heap.objs.size) (.ref it) = false := by simp [Builtin.List.listSameRef, hSi]
  unfold Builtin.List.listExtendWith
  refine wpAny_bind (wpAny_typeOf hT ?_)
  rw [if_neg (by rw [h1]; decide)]
  refine wpAny_bind (wpAny_pyIter_revIter (s := { s with heap := h2 }) hit1 ?_)
  refine wpAny_bind (wpAny_holding ?_)
  unfold Builtin.List.listLengthHint
  refine wpAny_bind (wpAny_specialOf hT nolen_lri ?_)
  show wpAny _ A.in1.in1 (specialOf (Value.ref it) (Str.ofString "__length_hint__") >>= _) _ _ _
  refine wpAny_bind (wpAny_specialOf hT hint_lri ?_)
  generalize hid : ("list_reverseiterator.__length_hint__" : String) = id0
  wp_delta
  rw [show splitId id0 = some ("list_reverseiterator", "__length_hint__") from by subst hid; decide +kernel]
  subst hid
  refine wpAny_bind (wpAny_isInstance (b := true) hT (by rw [isSubtype_type]; kernel_rfl) ?_)
  refine wpAny_pure ?_
  rw [if_neg (by decide)]
  have e0 : ((items.size : Nat) : Int) - 1 - ((0 : Nat) : Int) = (items.size : Int) - 1 := by omega
  refine wpAny_pure ⟨plainId_quiet F.plain_extend_loop _, codeAny_extend_loopS W hn _ hSf _ items.size 0 _ _ _ rfl (Nat.zero_le _) ⟨Nat.zero_le _, by rw [e0]; exact hit1, hl1⟩ hS2 (ItemsOf.nil _) fun s' acc' c' hm hS' hacc => ?_⟩
  rw [Moved.eq_with hm]
  refine ⟨rfl, hQ s'.heap s'.toks acc' c' (fun b o hb e => hm.heap b o (fun hmem => ?_) (kp b o e)) hS' hacc⟩
  rcases List.mem_cons.mp hmem with e' | hmem
  · exact absurd (Heap.lt_size e) (by rw [e']; exact Nat.lt_irrefl _)
  · exact hb (List.mem_singleton.mp hmem)
end
def tListRev (K : PySem.W.Frag) (te : TE) : TE := fun σ H Q => te σ H fun v H1 => ∃ (a : Addr) (xs : List V), v = .ref a ∧ SqL K H1 a xs ∧ ∀ q, H1 q = none → Q (.ref q) (upd H1 q (.lst xs.reverse))
theorem pe_listRev {X : Cx} {e : Expr} {te : TE} {p p2 pos pos2 : Pos} (hc : X.calm = true) (hg : Gl X "list") (hm : X.mg "list" = none) (hb : bootBuiltins "list" = some (.type "list")) (hg2 : Gl X "reversed") (hm2 : X.mg "reversed" = none) (he : PE X e te)
    (hs : starEach [e] X.env = (false, eval e X.env) :: starEach [] X.env := by rfl)
    (hs2 : starEach [.Call (.Name "reversed" p2) [e] [] pos2] X.env = (false, eval (.Call (.Name "reversed" p2) [e] [] pos2) X.env) :: starEach [] X.env := by rfl) :
    PE X (.Call (.Name "list" p) [.Call (.Name "reversed" p2) [e] [] pos2] [] pos) (tListRev X.K te) := by
  refine ⟨fun pins s σ H Q I h => ?_⟩
  refine Call_ (ld_blt I hg hm hb (PyProof.Rows.callWith_type1 (args_cons (Call_ (ld_blt I hg2 hm2 PyProof.Rows.boot_reversed (PyProof.Rows.callWith_type1 (args_cons (thn (he.run pins s σ H _ I h) fun u s1 ⟨v, H1, I1, r1, q1⟩ => args_nil ?_) hs) hs rfl))) hs2) hs2 rfl))
  obtain ⟨a, xs, ev, hq, q⟩ := q1
  subst ev
  obtain rfl : u = Value.ref a := r1
  obtain ⟨its, rv, p', hz⟩ := I1.list hq
  refine call_reversed_list p'.isList (args_nil ?_)
  have k0 : ∀ b o, s1.heap.get? b = some o → (s1.heap.push (revObj a ((its.toArray.size : Int) - 1))).get? b = some o := fun b o e => Heap.get?_push_of_some _ e
  have I2 : L2.Inv X pins σ H1 { s1 with heap := s1.heap.push (revObj a ((its.toArray.size : Int) - 1)) } := I1.kept (t' := s1.toks) k0
  obtain ⟨f0, f1, f2, f3, f4, f5⟩ := I1.fpOk (H' := H1) (b := s1.heap.objs.size) (Nat.le_refl _) (I1.hok.fresh (Nat.le_refl _))
  have hl := p'.isList
  obtain ⟨ol, hol, _⟩ := id hl
  have hne : a ≠ s1.heap.objs.size := Nat.ne_of_lt (Heap.lt_size hol)
  have hn : its.toArray.size ≤ sizeLine := by rw [List.size_toArray, ← rv.length]; exact hz
  refine call_list_revI (s := { s1 with heap := s1.heap.push (revObj a ((its.toArray.size : Int) - 1)) }) (I1.ok.hd hc) ⟨_, Heap.get?_push_size _ rfl, rfl, rfl⟩ (hl.push _) hne hn fun h' tk acc c' hk hS hi => ?_
  have I3 : L2.Inv X pins σ H1 { s1 with heap := h', toks := tk } := I2.turned (t' := tk) (fun b o hb e => hk b o hb e) f0 f1 f3 f4 f5
  have nS : H1 (s1.heap.push (revObj a ((its.toArray.size : Int) - 1))).objs.size = none := I2.hok.fresh (Nat.le_refl _)
  refine ⟨.ref (s1.heap.push (revObj a ((its.toArray.size : Int) - 1))).objs.size, upd H1 _ (.lst xs.reverse), Inv.drained (sc := { s1 with heap := s1.heap.push (revObj a ((its.toArray.size : Int) - 1)) }) (ex := [s1.heap.objs.size]) I2 (Nat.le_refl _) (by rw [List.length_reverse]; exact hz) hS (RT.vals_rev rv hi) ?_ rfl I1.bare ?_ I3.hok nS, rfl, q _ nS⟩
  · intro b hb
    rw [List.mem_singleton.mp hb]
    exact ⟨f3, f1, f4, f5⟩
  · refine ⟨fun b o e n hb hx => hk b o (fun z => hx (List.mem_singleton.mpr z)) e, fun b o e n hb hx => ⟨o.slots, hk b o (fun z => hx (List.mem_singleton.mpr z)) e⟩, fun b o e n hx => n, fun b o e hx => ⟨o, hk b o (fun z => hx (List.mem_singleton.mpr z)) e⟩, fun _ _ z => z, fun _ _ _ z => z, fun b ps z => ⟨#[], by rw [z]; simp⟩⟩
/-- isinstance of an exception that has one of two classes -/
def rIsEx2 (K : PySem.W.Frag) (D1 D2 a : Addr) (cls : Value) (d : Option Addr) : List V → Hp → VK → Prop := fun xs H Q => Ub.rIsEx K D1 a cls d xs H Q ∨ Ub.rIsEx K D2 a cls d xs H Q
theorem call_isEx2 {X : Cx} {a D1 D2 : Addr} {oe : Obj} {pn : List (Addr × Obj)} {cls : Value} {d : Option Addr} (C1 : ExcC X.K D1) (C2 : ExcC X.K D2) (hz : Zc cls d oe) (hf : ∃ vs, oe.data = .fields vs) : CallR (X.suite a ((a, oe) :: pn)) (.builtin "isinstance") (rIsEx2 X.K D1 D2 a cls d) := by
  intro pins s σ H xs us Q I r h
  exact h.elim (Ub.call_isEx C1 hz hf pins s σ H xs us Q I r) (Ub.call_isEx C2 hz hf pins s σ H xs us Q I r)
/-- what is never reached needs no rule -/
def tNo : TS := fun _ _ _ => False
def tNoE : TE := fun _ _ _ => False
theorem ps_no {X : Cx} {st : Stmt} : PS X st tNo := ⟨fun _ _ _ _ _ _ h => h.elim⟩
theorem pe_no {X : Cx} {e : Expr} : PE X e tNoE := ⟨fun _ _ _ _ _ _ h => h.elim⟩
end UbG

namespace UbR
open PySem PySem.Spec PyProof.Rows L2 UbM Ub
/-! ### lists that change: all other data stand apart from them -/
/-- the heap without the cells in S -/
def wo (S : List Addr) (H : Hp) : Hp := fun b => if b ∈ S then none else H b
theorem wo_in {S : List Addr} {H : Hp} {b : Addr} {o : HO} (h : wo S H b = some o) : b ∉ S ∧ H b = some o := by
  unfold wo at h
  by_cases hb : b ∈ S
  · rw [if_pos hb] at h
    cases h
  · rw [if_neg hb] at h
    exact ⟨hb, h⟩
theorem wo_out {S : List Addr} {H : Hp} {b : Addr} (hb : b ∉ S) : wo S H b = H b := by
  unfold wo
  rw [if_neg hb]
theorem wo_same {S : List Addr} {H : Hp} : Same (wo S H) H := fun b o h => (wo_in h).2
theorem wo_upd {S : List Addr} {H : Hp} {a : Addr} {o : HO} (ha : a ∈ S) : wo S (upd H a o) = wo S H := by
  funext b
  unfold wo
  by_cases hb : b ∈ S
  · rw [if_pos hb, if_pos hb]
  · rw [if_neg hb, if_neg hb, upd_ne (show b ≠ a from fun z => hb (by rw [z]; exact ha))]
theorem wo_sub {S S' : List Addr} {H : Hp} (h : ∀ s ∈ S, s ∈ S') : Same (wo S' H) (wo S H) := fun b o e => by
  obtain ⟨h1, h2⟩ := wo_in e
  rw [wo_out fun z => h1 (h b z)]
  exact h2
/-- all stands but the lists in S; tables may grow -/
structure SameS (S : List Addr) (H H' : Hp) : Prop where
  but : ∀ b o, b ∉ S → H b = some o → (∀ ps, o ≠ .tbl ps) → H' b = some o
  tab : ∀ P, GxR.TabG H P → GxR.TabG H' P
  ls : ∀ s, s ∈ S → (∃ xs, H s = some (.lst xs)) → ∃ xs, H' s = some (.lst xs)
/-- the cells in S are lists -/
def Ls (S : List Addr) (H : Hp) : Prop := ∀ s, s ∈ S → ∃ xs, H s = some (.lst xs)
theorem SameS.refl {S : List Addr} (H : Hp) : SameS S H H := ⟨fun _ _ _ h _ => h, fun _ h => h, fun _ _ h => h⟩
theorem SameS.trans {S : List Addr} {H H1 H2 : Hp} (a : SameS S H H1) (b : SameS S H1 H2) : SameS S H H2 :=
  ⟨fun c o n h t => b.but c o n (a.but c o n h t) t, fun P h => b.tab P (a.tab P h), fun s hs h => b.ls s hs (a.ls s hs h)⟩
theorem sameTS {S : List Addr} {H H' : Hp} (e : UbG.SameT H H') : SameS S H H' := ⟨fun b o _ h t => e.but b o h t, e.tab, fun s _ ⟨xs, h⟩ => ⟨xs, e.but _ _ h fun _ z => by cases z⟩⟩
theorem sameS {S : List Addr} {H H' : Hp} (e : Same H H') : SameS S H H' := sameTS (UbG.sameT e)
theorem SameS.sub {S S' : List Addr} {H H' : Hp} (e : SameS S H H') (h : ∀ s ∈ S, s ∈ S') : SameS S' H H' :=
  ⟨fun b o n g t => e.but b o (fun z => n (h b z)) g t, e.tab, fun s _ ⟨xs, g⟩ => by
    by_cases hs : s ∈ S
    · exact e.ls s hs ⟨xs, g⟩
    · exact ⟨xs, e.but _ _ hs g fun _ z => by cases z⟩⟩
theorem sameS_upd {S : List Addr} {H : Hp} {a : Addr} {xs : List V} (ha : a ∈ S) (h : ∀ ps, H a ≠ some (.tbl ps)) : SameS S H (upd H a (.lst xs)) := by
  refine ⟨fun b o n e _ => ?_, fun P ⟨ps, e, t⟩ => ⟨ps, ?_, t⟩, fun s _ ⟨ys, e⟩ => ?_⟩
  · rw [upd_ne (show b ≠ a from fun z => n (by rw [z]; exact ha))]
    exact e
  · rw [upd_ne (show P ≠ a from fun z => h ps (by rw [← z]; exact e))]
    exact e
  · by_cases hs : s = a
    · rw [hs]
      exact ⟨xs, upd_same⟩
    · exact ⟨ys, by rw [upd_ne hs]; exact e⟩
theorem notTbl {H : Hp} {a : Addr} {xs : List V} (h : H a = some (.lst xs)) : ∀ ps, H a ≠ some (.tbl ps) := fun ps z => by
  rw [h] at z
  cases z
theorem notTbl0 {H : Hp} {a : Addr} (h : H a = none) : ∀ ps, H a ≠ some (.tbl ps) := fun ps z => by
  rw [h] at z
  cases z
theorem SameS.wT {S : List Addr} {H H' : Hp} (e : SameS S H H') : UbG.SameT (wo S H) (wo S H') := by
  refine ⟨fun b o h t => ?_, fun P ⟨ps, h, t⟩ => ?_⟩
  · obtain ⟨h1, h2⟩ := wo_in h
    rw [wo_out h1]
    exact e.but b o h1 h2 t
  · obtain ⟨h1, h2⟩ := wo_in h
    obtain ⟨qs, g, t2⟩ := e.tab P ⟨ps, h2, t⟩
    exact ⟨qs, by rw [wo_out h1]; exact g, t2⟩
theorem SameS.lsS {S : List Addr} {H H' : Hp} (e : SameS S H H') (h : Ls S H) : Ls S H' := fun s hs => e.ls s hs (h s hs)
theorem SameS.get {S : List Addr} {H H' : Hp} {a : Addr} {xs : List V} (e : SameS S H H') (h : H a = some (.lst xs)) (ha : a ∉ S) : H' a = some (.lst xs) := e.but _ _ ha h fun _ z => by cases z
theorem SameS.seqL {K : PySem.W.Frag} {S : List Addr} {H H' : Hp} {a : Addr} {xs : List V} (e : SameS S H H') (h : SqL K (wo S H) a xs) : SqL K (wo S H') a xs := UbG.SameT.seq e.wT h
section
variable {K : PySem.W.Frag} {S S' : List Addr} {H H' : Hp} {v : V} {d : PyData}
theorem Kp.mono (e : SameS S H H') (h : Dp K (wo S H) v d) : Dp K (wo S H') v d := UbG.Dp.monoT e.wT _ _ h
theorem Kp.monoAll {vs : List V} {ds : List PyData} (e : SameS S H H') (h : DpAll K (wo S H) vs ds) : DpAll K (wo S H') vs ds := UbG.Dp.monoTAll e.wT _ _ h
theorem Kp.dp (h : Dp K (wo S H) v d) : Dp K H v d := Dp.mono wo_same _ _ h
theorem Kp.dpAll {vs : List V} {ds : List PyData} (h : DpAll K (wo S H) vs ds) : DpAll K H vs ds := Dp.monoAll wo_same _ _ h
theorem Kp.sub (i : ∀ s ∈ S, s ∈ S') (h : Dp K (wo S' H) v d) : Dp K (wo S H) v d := Dp.mono (wo_sub i) _ _ h
theorem Kp.subAll {vs : List V} {ds : List PyData} (i : ∀ s ∈ S, s ∈ S') (h : DpAll K (wo S' H) vs ds) : DpAll K (wo S H) vs ds := Dp.monoAll (wo_sub i) _ _ h
theorem wo_tseq {a : Addr} {xs : List V} (l : Ls S H) (h : SqT K H a xs) : SqT K (wo S H) a xs := by
  have go : ∀ o, H a = some o → (∀ ys, o ≠ .lst ys) → wo S H a = some o := fun o e n => by
    rw [wo_out fun z => ?_]
    · exact e
    · obtain ⟨ys, g⟩ := l _ z
      rw [g] at e
      cases e
      exact n ys rfl
  rcases h with (h | ⟨o, h⟩) | h
  · exact .inl (.inl (go _ h fun _ z => by cases z))
  · exact .inl (.inr ⟨o, go _ h fun _ z => by cases z⟩)
  · exact .inr h
mutual
theorem Kp.ofNoL (l : Ls S H) : ∀ (d : PyData) (v : V), noL d = true → Dp K H v d → Dp K (wo S H) v d
  | .none, _, _, h => by cases h; exact .non
  | .bool b, _, _, h => by cases h; exact .bl b
  | .int i, _, _, h => by cases h; exact .int i
  | .str x, _, _, h => by cases h; exact .str x
  | .list ds, _, n, _ => by
    unfold noL at n
    cases n
  | .tuple ds, _, n, h => by
    cases h with
    | tup hs ha => exact .tup (wo_tseq l hs) (Kp.ofNoLAll l ds _ (by unfold noL at n; exact (Bool.and_eq_true_iff.mp n).2) ha)
  | .dict _, _, _, h => by cases h
theorem Kp.ofNoLAll (l : Ls S H) : ∀ (ds : List PyData) (vs : List V), noL.noLs ds = true → DpAll K H vs ds → DpAll K (wo S H) vs ds
  | [], _, _, h => by cases h; exact .nil
  | dt :: ds, _, n, h => by
    unfold noL.noLs at n
    obtain ⟨n1, n2⟩ := Bool.and_eq_true_iff.mp n
    cases h with
    | cons h1 h2 => exact .cons (Kp.ofNoL l dt _ n1 h1) (Kp.ofNoLAll l ds _ n2 h2)
end
theorem Kp.fr {r : Rat} (l : Ls S H) (h : Fr K H v r) : Fr K (wo S H) v r := Kp.ofNoL l _ _ rfl h
/-- what is new is in no cell -/
theorem Ls.new {p : Addr} (l : Ls S H) (np : H p = none) : p ∉ S := fun z => by
  obtain ⟨xs, h⟩ := l p z
  rw [np] at h
  cases h
theorem wo_new {p : Addr} {o : HO} (hp : p ∉ S) : wo S (upd H p o) = upd (wo S H) p o := by
  funext b
  by_cases hb : b = p
  · rw [hb, wo_out hp, upd_same, upd_same]
  · rw [upd_ne hb]
    unfold wo
    by_cases hs : b ∈ S
    · rw [if_pos hs, if_pos hs]
    · rw [if_neg hs, if_neg hs, upd_ne hb]
theorem wo_none {p : Addr} (np : H p = none) : wo S H p = none := by
  cases e : wo S H p with
  | none => rfl
  | some o =>
    rw [(wo_in e).2] at np
    cases np
/-- a new list, a new tuple of data that stand apart -/
theorem Kp.newL {p : Addr} {xs : List V} {ds : List PyData} (l : Ls S H) (np : H p = none) (h : DpAll K (wo S H) xs ds) : Dp K (wo S (upd H p (.lst xs))) (.ref p) (.list ds) := by
  rw [wo_new (l.new np)]
  exact .lst (.inl (.inl upd_same)) (Dp.monoAll (sameNew (wo_none np)) _ _ h)
theorem Kp.newT {p : Addr} {xs : List V} {ds : List PyData} (l : Ls S H) (np : H p = none) (h : DpAll K (wo S H) xs ds) : Dp K (wo S (upd H p (.tup xs))) (.ref p) (.tuple ds) := by
  rw [wo_new (l.new np)]
  exact .tup (.inl (.inl upd_same)) (Dp.monoAll (sameNew (wo_none np)) _ _ h)
/-- a cell whose items stand apart from it, at its end: data -/
theorem Kp.done {a : Addr} {xs : List V} {ds : List PyData} (h : H a = some (.lst xs)) (ha : a ∉ S) (hD : DpAll K (wo (a :: S) H) xs ds) : Dp K (wo S H) (.ref a) (.list ds) :=
  .lst (.inl (.inl (by rw [wo_out ha]; exact h))) (Kp.subAll (fun s hs => List.mem_cons_of_mem _ hs) hD)
theorem Kp.lst {a : Addr} {ds : List PyData} (h : Dp K (wo S H) (.ref a) (.list ds)) : ∃ xs, SqL K (wo S H) a xs ∧ DpAll K (wo S H) xs ds := by
  cases h with
  | lst h1 h2 => exact ⟨_, h1, h2⟩
theorem wo_seqH {a : Addr} {xs : List V} (h : SqL K (wo S H) a xs) : SqL K H a xs := Same.seq wo_same h
theorem Kp.setAll {vs : List V} {ds : List PyData} {v : V} {d : PyData} : ∀ {vs : List V} {ds : List PyData} (i : Nat), DpAll K H vs ds → Dp K H v d → DpAll K H (vs.set i v) (ds.set i d)
  | _, _, _, .nil, _ => .nil
  | _, _, 0, .cons _ h2, h => .cons h h2
  | _, _, i + 1, .cons h1 h2, h => .cons h1 (Kp.setAll (vs := []) (ds := []) i h2 h)
end
/-! ### the law's row of numbers -/
/-- a list of whole numbers stands at d -/
def Ints (H : Hp) (d : Addr) : Prop := ∃ ns : List Int, H d = some (.lst (ns.map V.int))
theorem Ints.monoT {H H' : Hp} {d : Addr} (e : UbG.SameT H H') (h : Ints H d) : Ints H' d := by
  obtain ⟨ns, h⟩ := h
  exact ⟨ns, e.but _ _ h fun _ z => by cases z⟩
theorem Ints.mono {H H' : Hp} {d : Addr} (e : Same H H') (h : Ints H d) : Ints H' d := h.monoT (UbG.sameT e)
theorem Ints.monoS {S : List Addr} {H H' : Hp} {d : Addr} (e : SameS S H H') (hd : d ∉ S) (h : Ints H d) : Ints H' d := by
  obtain ⟨ns, h⟩ := h
  exact ⟨ns, e.get h hd⟩
theorem Ints.stay {H : Hp} {d a : Addr} {o : HO} (h : Ints H d) (n : d ≠ a) : Ints (upd H a o) d := by
  obtain ⟨ns, h⟩ := h
  exact ⟨ns, by rw [upd_ne n]; exact h⟩
theorem Ints.ls {H : Hp} {d : Addr} (h : Ints H d) : Ls [d] H := fun s hs => by
  obtain ⟨ns, h⟩ := h
  rw [List.mem_singleton.mp hs]
  exact ⟨_, h⟩
theorem Ints.ne {H : Hp} {d a : Addr} (h : Ints H d) (na : H a = none) : d ≠ a := fun z => by
  obtain ⟨ns, h⟩ := h
  rw [z, na] at h
  cases h
theorem rdApp {H : Hp} {Q : VK} {d : Addr} {xs : List V} {x : V} (h : H d = some (.lst xs)) (hz : xs.length ≤ 5000) (q : Q .non (upd H d (.lst (xs ++ [x])))) : rAppend (.ref d) [x] H Q :=
  ⟨d, _, _, rfl, rfl, h, Nat.lt_of_le_of_lt hz (by decide), q⟩
/-- small fractions -/
def Sm (a b : Nat) (r : Rat) : Prop := r.num.natAbs ≤ a ∧ r.den ≤ b
theorem Sm.bd {a b n : Nat} {r : Rat} (h : Sm a b r) (ha : a < 2 ^ n) (hb : b < 2 ^ n) : Bd n r := ⟨Nat.lt_of_le_of_lt h.1 ha, Nat.lt_of_le_of_lt h.2 hb⟩
theorem Sm.mono {a b a' b' : Nat} {r : Rat} (h : Sm a b r) (ha : a ≤ a') (hb : b ≤ b') : Sm a' b' r := ⟨Nat.le_trans h.1 ha, Nat.le_trans h.2 hb⟩
theorem sm_divInt {p q : Int} {a b : Nat} (hq : 0 < q) (h1 : p.natAbs ≤ a) (h2 : q.natAbs ≤ b) : Sm a b (Rat.divInt p q) := by
  have e1 := num_pos (p := p) hq
  have e2 := den_pos (p := p) hq
  refine ⟨?_, ?_⟩
  · rw [← e1, Int.natAbs_ediv_of_dvd (dvd_l p q)]
    exact Nat.le_trans (Nat.div_le_self ..) h1
  · have : ((Rat.divInt p q).den : Int).natAbs ≤ b := by
      rw [← e2, Int.natAbs_ediv_of_dvd (dvd_r p q)]
      exact Nat.le_trans (Nat.div_le_self ..) h2
    exact this
theorem mapInt_at {ns : List Int} {i : Nat} {x : V} (h : (ns.map V.int)[i]? = some x) : ∃ z, x = .int z ∧ ns[i]? = some z := by
  rw [List.getElem?_map] at h
  cases e : ns[i]? with
  | none =>
    rw [e] at h
    cases h
  | some z =>
    rw [e] at h
    cases h
    exact ⟨z, rfl, rfl⟩
/-! ### real lists (of this run) of data -/
def LL (K : PySem.W.Frag) (H : Hp) (a : Addr) (ds : List PyData) : Prop := ∃ xs, H a = some (.lst xs) ∧ DpAll K H xs ds
section
variable {K : PySem.W.Frag} {S S' : List Addr} {H H' : Hp} {a : Addr} {ds : List PyData}
theorem LL.dp (h : LL K H a ds) : Dp K H (.ref a) (.list ds) := by
  obtain ⟨xs, h1, h2⟩ := h
  exact .lst (.inl (.inl h1)) h2
theorem LL.monoT (e : UbG.SameT H H') (h : LL K H a ds) : LL K H' a ds := by
  obtain ⟨xs, h1, h2⟩ := h
  exact ⟨xs, e.but _ _ h1 (fun _ z => by cases z), UbG.Dp.monoTAll e _ _ h2⟩
theorem LL.mono (e : Same H H') (h : LL K H a ds) : LL K H' a ds := h.monoT (UbG.sameT e)
theorem LL.monoS (e : SameS S H H') (h : LL K (wo S H) a ds) : LL K (wo S H') a ds := h.monoT e.wT
theorem LL.out (h : LL K (wo S H) a ds) : LL K H a ds := h.mono wo_same
theorem LL.sub (i : ∀ s ∈ S, s ∈ S') (h : LL K (wo S' H) a ds) : LL K (wo S H) a ds := h.mono (wo_sub i)
theorem LL.notIn (h : LL K (wo S H) a ds) : a ∉ S := by
  obtain ⟨xs, h1, h2⟩ := h
  exact (wo_in h1).1
theorem LL.at {i : Nat} {d : PyData} (h : LL K H a ds) (e : ds[i]? = some d) : ∃ xs v, H a = some (.lst xs) ∧ xs[i]? = some v ∧ Dp K H v d := by
  obtain ⟨xs, h1, h2⟩ := h
  obtain ⟨v, h3, h4⟩ := go h2 e
  exact ⟨xs, v, h1, h3, h4⟩
where
  go {K : PySem.W.Frag} {H : Hp} : ∀ {xs : List V} {ds : List PyData} {i : Nat} {d : PyData}, DpAll K H xs ds → ds[i]? = some d → ∃ v, xs[i]? = some v ∧ Dp K H v d
    | _, _, _, _, .nil, h => by simp at h
    | _, _, 0, _, .cons h1 _, h => by
      simp at h
      subst h
      exact ⟨_, rfl, h1⟩
    | _, _, i + 1, d, .cons _ h2, h => by
      obtain ⟨v, e, q⟩ := LL.at.go (i := i) (d := d) h2 (by simpa using h)
      exact ⟨v, by simpa using e, q⟩
theorem LL.newS {p : Addr} {xs : List V} (l : Ls S H) (np : H p = none) (h : DpAll K (wo S H) xs ds) : LL K (wo S (upd H p (.lst xs))) p ds := by
  rw [wo_new (l.new np)]
  exact ⟨xs, upd_same, Dp.monoAll (sameNew (wo_none np)) _ _ h⟩
theorem LL.done {xs : List V} (h : H a = some (.lst xs)) (ha : a ∉ S) (hD : DpAll K (wo (a :: S) H) xs ds) : LL K (wo S H) a ds :=
  ⟨xs, by rw [wo_out ha]; exact h, Kp.subAll (fun s hs => List.mem_cons_of_mem _ hs) hD⟩
end
/-! ### cells: lists that grow or change, their items apart from all cells in S -/
def Cel (K : PySem.W.Frag) (S : List Addr) (H : Hp) (a : Addr) (ds : List PyData) : Prop := ∃ xs, H a = some (.lst xs) ∧ DpAll K (wo S H) xs ds
theorem SameS.late {S : List Addr} {H H' : Hp} {D : Addr} {o : HO} (e : SameS S H H') (nD : H D = none) : SameS S H (upd H' D o) :=
  ⟨fun b x n h t => by rw [upd_ne (ne_of_none h nD)]; exact e.but b x n h t, fun P g => by
    obtain ⟨ps, h, _⟩ := id g
    obtain ⟨qs, h2, t2⟩ := e.tab P g
    exact ⟨qs, by rw [upd_ne (ne_of_none h nD)]; exact h2, t2⟩, fun s hs ⟨xs, h⟩ => by
    obtain ⟨ys, g⟩ := e.ls s hs ⟨xs, h⟩
    exact ⟨ys, by rw [upd_ne (ne_of_none h nD)]; exact g⟩⟩
theorem SameT.late {H H' : Hp} {D : Addr} {o : HO} (e : UbG.SameT H H') (nD : H D = none) : UbG.SameT H (upd H' D o) :=
  ⟨fun b x h t => by rw [upd_ne (ne_of_none h nD)]; exact e.but b x h t, fun P g => by
    obtain ⟨ps, h, _⟩ := id g
    obtain ⟨qs, h2, t2⟩ := e.tab P g
    exact ⟨qs, by rw [upd_ne (ne_of_none h nD)]; exact h2, t2⟩⟩
section
variable {K : PySem.W.Frag} {S S' : List Addr} {H H' : Hp} {a b : Addr} {ds es : List PyData} {o : HO}
theorem Cel.new {p : Addr} : Cel K S (upd H p (.lst [])) p [] := ⟨[], upd_same, .nil⟩
theorem Cel.monoS (e : SameS S' H H') (i : ∀ s ∈ S', s ∈ S) (ha : a ∉ S') (h : Cel K S H a ds) : Cel K S H' a ds := by
  obtain ⟨xs, h1, h2⟩ := h
  exact ⟨xs, e.get h1 ha, Kp.monoAll (e.sub i) h2⟩
theorem Cel.monoT (e : UbG.SameT H H') (h : Cel K S H a ds) : Cel K S H' a ds := h.monoS (S' := []) (sameTS e) (fun _ z => absurd z (List.not_mem_nil)) (List.not_mem_nil)
theorem Cel.mono (e : Same H H') (h : Cel K S H a ds) : Cel K S H' a ds := h.monoT (UbG.sameT e)
theorem Cel.ls (h : Cel K S H a ds) : ∃ xs, H a = some (.lst xs) := by
  obtain ⟨xs, h1, _⟩ := h
  exact ⟨xs, h1⟩
theorem Cel.turn {y : V} {d : PyData} (h : Cel K S H a ds) (ha : a ∈ S) (hz : ds.length ≤ 5000) (hy : Dp K (wo S H) y d) : ∃ acc, H a = some (.lst acc) ∧ acc.length < sizeLine ∧ Cel K S (upd H a (.lst (acc ++ [y]))) a (ds ++ [d]) := by
  obtain ⟨xs, h1, h2⟩ := h
  exact ⟨xs, h1, Nat.lt_of_le_of_lt (by rw [dpAll_len h2]; exact hz) (by decide), _, upd_same, by rw [wo_upd ha]; exact dpAll_snoc h2 hy⟩
theorem Cel.app {y : V} {d : PyData} {Q : VK} (h : Cel K S H a ds) (ha : a ∈ S) (hz : ds.length ≤ 5000) (hy : Dp K (wo S H) y d) (q : ∀ acc, H a = some (.lst acc) → Cel K S (upd H a (.lst (acc ++ [y]))) a (ds ++ [d]) → Q .non (upd H a (.lst (acc ++ [y])))) : rAppend (.ref a) [y] H Q := by
  obtain ⟨xs, h1, h2⟩ := h
  exact rdApp h1 (by rw [dpAll_len h2]; exact hz) (q _ h1 ⟨_, upd_same, by rw [wo_upd ha]; exact dpAll_snoc h2 hy⟩)
theorem Cel.done (h : Cel K S H a ds) (i : ∀ s ∈ S', s ∈ S) (ha : a ∉ S') : LL K (wo S' H) a ds := by
  obtain ⟨xs, h1, h2⟩ := h
  exact ⟨xs, by rw [wo_out ha]; exact h1, Kp.subAll i h2⟩
theorem Cel.stay (h : Cel K S H b es) (ha : a ∈ S) (n : b ≠ a) : Cel K S (upd H a o) b es := by
  obtain ⟨xs, h1, h2⟩ := h
  exact ⟨xs, by rw [upd_ne n]; exact h1, by rw [wo_upd ha]; exact h2⟩
theorem LL.stay (h : LL K (wo S H) b es) (ha : a ∈ S) : LL K (wo S (upd H a o)) b es := by
  rw [wo_upd ha]
  exact h
theorem Kp.stay {v : V} {d : PyData} (h : Dp K (wo S H) v d) (ha : a ∈ S) : Dp K (wo S (upd H a o)) v d := by
  rw [wo_upd ha]
  exact h
end
section
variable {K : PySem.W.Frag} {S S' : List Addr} {H H' : Hp} {a b : Addr} {ds es : List PyData} {o : HO}
theorem ixN_of {n j : Nat} (hj : j < n) : ixN n (j : Int) = some j := by
  unfold ixN
  rw [if_pos (by omega), if_pos (by omega)]
  simp
theorem Cel.setAt {v : V} {d : PyData} {k : Nat} {z : Int} {Q : Hp → Prop} (h : Cel K S H a ds) (ha : a ∈ S) (hz : z = (k : Int)) (hk : k < ds.length) (hv : Dp K (wo S H) v d) (q : ∀ xs, H a = some (.lst xs) → Cel K S (upd H a (.lst (xs.set k v))) a (ds.set k d) → Q (upd H a (.lst (xs.set k v)))) : rSetL (.ref a) (.int z) v H Q := by
  obtain ⟨xs, h1, h2⟩ := h
  subst hz
  exact rdSetL h1 (ixN_of (by rw [dpAll_len h2]; exact hk)) (q xs h1 ⟨_, upd_same, by rw [wo_upd ha]; exact Kp.setAll (vs := []) (ds := []) k h2 hv⟩)
theorem Cel.ix {d : PyData} {k : Nat} {z : Int} {Q : VK} (h : Cel K S H a ds) (hz : z = (k : Int)) (e : ds[k]? = some d) (q : ∀ v, Dp K (wo S H) v d → Q v H) : rIx K (.ref a) (.int z) H Q := by
  obtain ⟨xs, h1, h2⟩ := h
  obtain ⟨v, h3, h4⟩ := LL.at.go h2 e
  exact rdIxL (.inl (.inl h1)) (at_of hz h3) (q v h4)
theorem LL.ix {d : PyData} {k : Nat} {z : Int} {Q : VK} (h : LL K (wo S H) a ds) (hz : z = (k : Int)) (e : ds[k]? = some d) (q : ∀ v, Dp K (wo S H) v d → Q v H) : rIx K (.ref a) (.int z) H Q := by
  obtain ⟨xs, v, h1, h3, h4⟩ := h.at e
  exact rdIxL (.inl (.inl (wo_in h1).2)) (at_of hz h3) (q v h4)
/-- a new list of fractions stands apart from all older cells -/
theorem frsApart {rs : List Rat} {xs : List V} (l : Ls S H') (h : H' a = some (.lst xs)) (ha : a ∉ S) (hD : DpAll K H' xs (rs.map frD)) : LL K (wo S H') a (rs.map frD) :=
  ⟨xs, by rw [wo_out ha]; exact h, Kp.ofNoLAll l _ _ (noL_frs rs) hD⟩
end
/-- whole numbers from 0 on, as values -/
def natV (t : Nat) : V := .int (t : Int)
theorem natV_at {ts : List Nat} {i : Nat} {x : V} (h : (ts.map natV)[i]? = some x) : ∃ t, x = .int (t : Nat) ∧ ts[i]? = some t := by
  rw [List.getElem?_map] at h
  cases e : ts[i]? with
  | none =>
    rw [e] at h
    cases h
  | some z =>
    rw [e] at h
    cases h
    exact ⟨z, rfl, rfl⟩
theorem natV_get {ts : List Nat} {i t : Nat} (h : ts[i]? = some t) : (ts.map natV)[i]? = some (.int (t : Nat)) := by
  rw [List.getElem?_map, h]
  rfl
/-- of m + 1 numbers below m two are the same -/
theorem pigeon : ∀ (m : Nat) (g : Nat → Nat), (∀ i, i ≤ m → g i < m) → ∃ i j, i < j ∧ j ≤ m ∧ g i = g j
  | 0, g, h => absurd (h 0 (Nat.le_refl _)) (Nat.not_lt_zero _)
  | m + 1, g, h => by
    by_cases he : ∃ i, i ≤ m ∧ g i = g (m + 1)
    · obtain ⟨i, hi, e⟩ := he
      exact ⟨i, m + 1, by omega, Nat.le_refl _, e⟩
    · have hne : ∀ i, i ≤ m → g i ≠ g (m + 1) := fun i hi e => he ⟨i, hi, e⟩
      have hv := h (m + 1) (Nat.le_refl _)
      obtain ⟨i, j, hij, hj, e⟩ := pigeon m (fun i => if g i < g (m + 1) then g i else g i - 1) (fun i hi => by
        have h1 := h i (by omega)
        have h2 := hne i hi
        show (if g i < g (m + 1) then g i else g i - 1) < m
        split <;> omega)
      refine ⟨i, j, hij, by omega, ?_⟩
      have h1 := hne i (by omega)
      have h2 := hne j hj
      have e' : (if g i < g (m + 1) then g i else g i - 1) = (if g j < g (m + 1) then g j else g j - 1) := e
      split at e' <;> split at e' <;> omega
/-- fractions over one denominator -/
def Sz (D N : Nat) (r : Rat) : Prop := ∃ k : Int, r = Rat.divInt k D ∧ k.natAbs ≤ N
theorem div_plus {a s n : Int} : Rat.divInt a n + Rat.divInt s n = Rat.divInt (a + s) n := by
  rw [Rat.divInt_eq_div, Rat.divInt_eq_div, Rat.divInt_eq_div, Rat.div_def, Rat.div_def, Rat.div_def, ← Rat.add_mul, Rat.intCast_add]
theorem Sz.add {D N M : Nat} {r s : Rat} (h1 : Sz D N r) (h2 : Sz D M s) : Sz D (N + M) (r + s) := by
  obtain ⟨a, rfl, ha⟩ := h1
  obtain ⟨b, rfl, hb⟩ := h2
  exact ⟨a + b, div_plus, by omega⟩
theorem div_neg (a n : Int) : -Rat.divInt a n = Rat.divInt (-a) n := by
  rw [Rat.divInt_eq_div, Rat.divInt_eq_div, Rat.div_def, Rat.div_def, Rat.intCast_neg, Rat.neg_mul]
theorem Sz.neg {D N : Nat} {r : Rat} (h : Sz D N r) : Sz D N (-r) := by
  obtain ⟨a, rfl, ha⟩ := h
  exact ⟨-a, div_neg a D, by omega⟩
theorem Sz.sub {D N M : Nat} {r s : Rat} (h1 : Sz D N r) (h2 : Sz D M s) : Sz D (N + M) (r - s) := by
  rw [Rat.sub_eq_add_neg]
  exact h1.add h2.neg
theorem Sz.mono {D N M : Nat} {r : Rat} (h : Sz D N r) (l : N ≤ M) : Sz D M r := by
  obtain ⟨a, e, ha⟩ := h
  exact ⟨a, e, by omega⟩
theorem Sz.mul {D E N M : Nat} {r s : Rat} (h1 : Sz D N r) (h2 : Sz E M s) : Sz (D * E) (N * M) (r * s) := by
  obtain ⟨a, rfl, ha⟩ := h1
  obtain ⟨b, rfl, hb⟩ := h2
  refine ⟨a * b, ?_, ?_⟩
  · rw [Rat.divInt_mul_divInt]
    push_cast
    rfl
  · rw [Int.natAbs_mul]
    exact Nat.mul_le_mul ha hb
theorem Sz.zero {D N : Nat} : Sz D N 0 := ⟨0, by rw [Rat.zero_divInt], Nat.zero_le _⟩
theorem Sz.sum {D N : Nat} : ∀ (rs : List Rat) (M : Nat) (r : Rat), Sz D M r → (∀ x ∈ rs, Sz D N x) → Sz D (M + rs.length * N) (rs.foldl (· + ·) r)
  | [], M, r, h, _ => by simpa using h
  | x :: rs, M, r, h, hx => by
    have h1 := Sz.sum rs (M + N) (r + x) (h.add (hx x (List.mem_cons_self ..))) fun y hy => hx y (List.mem_cons_of_mem _ hy)
    refine h1.mono ?_
    rw [List.length_cons, Nat.succ_mul]
    omega
theorem Sz.bd {D N n : Nat} {r : Rat} (h : Sz D N r) (h0 : 0 < D) (h1 : D < 2 ^ n) (h2 : N < 2 ^ n) : Bd n r := by
  obtain ⟨a, rfl, ha⟩ := h
  exact bd_divInt (by omega) (by omega) (by omega)
theorem Sz.of {D a b : Nat} {r : Rat} (h : Sm a b r) (hd : r.den ∣ D) (h0 : 0 < D) : Sz D (a * D) r := by
  obtain ⟨c, hc⟩ := hd
  refine ⟨r.num * (c : Int), ?_, ?_⟩
  · have hc0 : (c : Int) ≠ 0 := by
      intro z
      have : c = 0 := by omega
      subst this
      omega
    rw [hc]
    push_cast
    rw [Rat.divInt_mul_right hc0, Rat.num_divInt_den]
  · rw [Int.natAbs_mul]
    have h1 : (c : Int).natAbs ≤ D := by
      have : c ≤ r.den * c := Nat.le_mul_of_pos_left _ r.den_pos
      omega
    exact Nat.mul_le_mul h.1 h1
/-! ### what is new -/
def Nw (H : Hp) (a : Addr) : Prop := ∀ o, H a = some o → ∃ ps, o = .tbl ps
theorem Nw.of {H : Hp} {a : Addr} (h : H a = none) : Nw H a := fun o e => by
  rw [h] at e
  cases e
theorem Nw.back {H H1 : Hp} {a : Addr} (e : UbG.SameT H H1) (h : Nw H1 a) : Nw H a := fun o g => by
  by_cases ht : ∃ ps, o = .tbl ps
  · exact ht
  · exact h o (e.but _ _ g fun ps z => ht ⟨ps, z⟩)
theorem Nw.backS {S : List Addr} {H H1 : Hp} {a : Addr} (e : SameS S H H1) (l : Ls S H) (h : Nw H1 a) : Nw H a := fun o g => by
  by_cases ht : ∃ ps, o = .tbl ps
  · exact ht
  · by_cases hs : a ∈ S
    · obtain ⟨xs, hx⟩ := e.ls a hs (l a hs)
      obtain ⟨ps, z⟩ := h _ hx
      cases z
    · exact h o (e.but _ _ hs g fun ps z => ht ⟨ps, z⟩)
theorem Nw.ne {H : Hp} {a b : Addr} {xs : List V} (h : Nw H a) (hb : H b = some (.lst xs)) : b ≠ a := fun z => by
  obtain ⟨ps, e⟩ := h _ (z ▸ hb)
  cases e
theorem Nw.notIn {S : List Addr} {H : Hp} {a : Addr} (h : Nw H a) (l : Ls S H) : a ∉ S := fun z => by
  obtain ⟨xs, e⟩ := l a z
  exact h.ne e rfl
theorem late_nw {S : List Addr} {H H' : Hp} {p : Addr} {xs : List V} (e : SameS S H H') (n : Nw H p) (h : ∀ ps, H' p ≠ some (.tbl ps)) (l : Ls S H) : SameS S H (upd H' p (.lst xs)) :=
  ⟨fun b o m g t => by
    have hb : b ≠ p := fun z => by
      obtain ⟨ps, q⟩ := n o (z ▸ g)
      exact t ps q
    rw [upd_ne hb]
    exact e.but b o m g t, fun P g => by
    obtain ⟨qs, g1, t1⟩ := e.tab P g
    exact ⟨qs, by rw [upd_ne (show P ≠ p from fun z => h qs (z ▸ g1))]; exact g1, t1⟩, fun s hs hl => by
    obtain ⟨ys, g⟩ := e.ls s hs hl
    exact ⟨ys, by rw [upd_ne (show s ≠ p from fun z => (n.notIn l) (z ▸ hs))]; exact g⟩⟩
theorem wo_nones {S : List Addr} {H : Hp} (h : ∀ s ∈ S, H s = none) : wo S H = H := by
  funext b
  unfold wo
  by_cases hb : b ∈ S
  · rw [if_pos hb, h b hb]
  · rw [if_neg hb]
theorem SameS.toT {S : List Addr} {H H4 H' : Hp} (e : SameS S H4 H') (s : UbG.SameT H H4) (h : ∀ x ∈ S, Nw H x) : UbG.SameT H H' :=
  ⟨fun b o g t => e.but _ _ (fun z => by
    obtain ⟨ps, q⟩ := h b z o g
    exact t ps q) (s.but _ _ g t) t, fun P g => e.tab P (s.tab P g)⟩
theorem wo_cons {S : List Addr} {H : Hp} {a : Addr} (h : H a = none) : wo (a :: S) H = wo S H := by
  funext b
  unfold wo
  by_cases hb : b ∈ S
  · rw [if_pos hb, if_pos (List.mem_cons_of_mem _ hb)]
  · rw [if_neg hb]
    by_cases e : b = a
    · rw [if_pos (by rw [e]; exact List.mem_cons_self ..), e, h]
    · rw [if_neg (fun z => (List.mem_cons.mp z).elim e hb)]
theorem dpAll_rep {K : PySem.W.Frag} {H : Hp} {v : V} {d : PyData} (h : Dp K H v d) : ∀ n, DpAll K H (List.replicate n v) (List.replicate n d)
  | 0 => .nil
  | n + 1 => .cons h (dpAll_rep h n)
theorem rgV_nat (n : Nat) : rgV 0 (n : Int) = (List.range n).map natV := by
  unfold rgV natV
  simp
theorem rng_at {n i : Nat} {x : V} (h : ((List.range n).map natV)[i]? = some x) : x = .int (i : Nat) ∧ i < n := by
  obtain ⟨t, rfl, e⟩ := natV_at h
  have hi := (List.getElem?_eq_some_iff.mp e).1
  rw [List.length_range] at hi
  rw [List.getElem?_range hi] at e
  cases e
  exact ⟨rfl, hi⟩
theorem rng_len (n : Nat) : ((List.range n).map natV).length = n := by rw [List.length_map, List.length_range]
/-! ### truth of lists, slices -/
theorem truNot {K : PySem.W.Frag} {H : Hp} {p : Addr} {xs : List V} {A B : Prop} (h : SqL K H p xs) (h1 : xs = [] → A) (h2 : xs ≠ [] → B) : ∃ k, TruV K (.ref p) H k ∧ if (!k) = true then A else B := by
  cases xs with
  | nil => exact ⟨false, .inl ⟨_, h, rfl⟩, iteT (h1 rfl)⟩
  | cons x xs => exact ⟨true, .inl ⟨_, h, rfl⟩, iteF (h2 (by simp))⟩
theorem truIf {K : PySem.W.Frag} {H : Hp} {p : Addr} {xs : List V} {A B : Prop} (h : SqL K H p xs) (h1 : xs = [] → B) (h2 : xs ≠ [] → A) : ∃ k, TruV K (.ref p) H k ∧ if k = true then A else B := by
  cases xs with
  | nil => exact ⟨false, .inl ⟨_, h, rfl⟩, iteF (h1 rfl)⟩
  | cons x xs => exact ⟨true, .inl ⟨_, h, rfl⟩, iteT (h2 (by simp))⟩
theorem cut_all {xs : List V} {n : Nat} (h : xs.length ≤ n) : cutV xs none (some (n : Int)) = xs := by
  have e0 : HT.sIx xs.length 0 none = 0 := rfl
  have e1 : HT.sIx xs.length xs.length (some (n : Int)) = xs.length := by
    rw [HT.sIx_nat]
    omega
  unfold cutV
  rw [e0, e1]
  simp
theorem rdSlL {K : PySem.W.Frag} {H : Hp} {Q : VK} {a : Addr} {xs ys : List V} {lo hi : Option Int} (h : SqL K H a xs) (e : cutV xs lo hi = ys) (q : ∀ p, H p = none → Q (.ref p) (upd H p (.lst ys))) : rSlL K (.ref a) lo hi H Q :=
  ⟨a, xs, rfl, h, fun p np => by rw [e]; exact q p np⟩
theorem cut_last {xs : List V} : cutV xs none (some (-1)) = xs.dropLast := by
  have e0 : HT.sIx xs.length 0 none = 0 := rfl
  have e1 : HT.sIx xs.length xs.length (some (-1)) = xs.length - 1 := by
    show (if (-1 : Int) < 0 then ((-1 : Int) + (xs.length : Int)).toNat else min (-1 : Int).toNat xs.length) = xs.length - 1
    rw [if_pos (by decide)]
    omega
  unfold cutV
  rw [e0, e1, List.drop_zero, Nat.sub_zero, List.dropLast_eq_take]
theorem dpAll_take {K : PySem.W.Frag} {H : Hp} : ∀ {xs : List V} {ds : List PyData} (i : Nat), DpAll K H xs ds → DpAll K H (xs.take i) (ds.take i)
  | _, _, 0, _ => .nil
  | _, _, i + 1, .nil => .nil
  | _, _, i + 1, .cons h1 h2 => .cons h1 (dpAll_take i h2)
theorem dpAll_drop {K : PySem.W.Frag} {H : Hp} : ∀ {xs : List V} {ds : List PyData} (i : Nat), DpAll K H xs ds → DpAll K H (xs.drop i) (ds.drop i)
  | _, _, 0, h => h
  | _, _, i + 1, .nil => .nil
  | _, _, i + 1, .cons _ h2 => dpAll_drop i h2
theorem pi_listK {X : Cx} {K : PySem.W.Frag} {tg e : Expr} {te : TE} (h : X.K = K) (he : PE X e te) : PI X tg e (iList K te) := by
  subst h
  exact pi_list he
/-! ### comprehensions and loops, their parts kept -/
def LC (J : It) (g : TG) (tt : TT) (te : TE) (vs : List Nat) (σ : L2.St) (H1 : Hp) (D : Addr) (Qd : Hp → Prop) : Prop := ∃ W : Nat → Nat → Hp → Prop, (∃ m, W 0 m (upd H1 D (.lst []))) ∧ ∀ i m H, W i m H →
  (J.stop i H ∧ Qd H) ∨ (J.go i H ∧ ∃ Nx : Hp → Prop, (∀ H', Nx H' → ∃ m', m' < m ∧ W (i + 1) m' H') ∧ ∀ x H', J.yld i H x H' → g x (wipe σ vs) H' fun σ2 H2 => wipe σ2 vs = wipe σ vs ∧ tt σ2 H2 fun b H3 =>
    if b = true then te σ2 H3 fun y H4 => ∃ acc, H4 D = some (.lst acc) ∧ acc.length < sizeLine ∧ Nx (upd H4 D (.lst (acc ++ [y]))) else Nx H3)
theorem lcOf {wi : TI} {g : TG} {tt : TT} {te : TE} {vs : List Nat} {σ : L2.St} {H : Hp} {Q : VK} (h : wi σ H fun J H1 => ∀ D, H1 D = none → LC J g tt te vs σ H1 D (Q (.ref D))) : tLc wi g tt te vs σ H Q := h
def FL (J : It) (g : TG) (tb : TS) (D : Ends) (σ : L2.St) (H1 : Hp) : Prop := ∃ W : Nat → Nat → L2.St → Hp → Prop, (∃ m, W 0 m σ H1) ∧ ∀ i m σ H, W i m σ H →
  (J.stop i H ∧ D.nx σ H) ∨ (J.go i H ∧ ∃ N : L2.St → Hp → Prop, (∀ σ' H', N σ' H' → ∃ m', m' < m ∧ W (i + 1) m' σ' H') ∧ ∀ x H', J.yld i H x H' → g x σ H' fun σ2 H2 => tb { D with nx := N, ct := N, bk := D.nx } σ2 H2)
theorem forOf {wi : TI} {g : TG} {tb : TS} {D : Ends} {σ : L2.St} {H : Hp} (h : wi σ H fun J H1 => FL J g tb D σ H1) : tFor wi g tb D σ H := h
theorem FL.range {lo : Int} {n : Nat} {g : TG} {tb : TS} {D : Ends} {σ : L2.St} {H : Hp} (Pv : Nat → L2.St → Hp → Prop) (h0 : Pv 0 σ H)
    (hs : ∀ i σ H, i < n → Pv i σ H → g (.int (lo + i)) σ H fun σ2 H2 => tb { D with nx := Pv (i + 1), ct := Pv (i + 1), bk := D.nx } σ2 H2) (hd : ∀ σ H, Pv n σ H → D.nx σ H) : FL (Itr lo n) g tb D σ H := for_range Pv h0 hs hd
theorem FL.list {K : PySem.W.Frag} {a : Addr} {xs : List V} {g : TG} {tb : TS} {D : Ends} {σ : L2.St} {H : Hp} (Pv : Nat → L2.St → Hp → Prop) (h0 : Pv 0 σ H) (hl : ∀ i σ H, i ≤ xs.length → Pv i σ H → SqL K H a xs)
    (hs : ∀ i x σ H, xs[i]? = some x → Pv i σ H → g x σ H fun σ2 H2 => tb { D with nx := Pv (i + 1), ct := Pv (i + 1), bk := D.nx } σ2 H2) (hd : ∀ σ H, Pv xs.length σ H → D.nx σ H) : FL (Itl K a) g tb D σ H := for_list Pv h0 hl hs hd
theorem FL.enum {K : PySem.W.Frag} {a : Addr} {xs : List V} {g : TG} {tb : TS} {D : Ends} {σ : L2.St} {H : Hp} (Pv : Nat → L2.St → Hp → Prop) (h0 : Pv 0 σ H) (hl : ∀ i σ H, Pv i σ H → SqL K H a xs)
    (hs : ∀ i x σ H T, xs[i]? = some x → Pv i σ H → H T = none → g (.ref T) σ (upd H T (.tup [.int (i : Nat), x])) fun σ2 H2 => tb { D with nx := Pv (i + 1), ct := Pv (i + 1), bk := D.nx } σ2 H2) (hd : ∀ σ H, Pv xs.length σ H → D.nx σ H) : FL (Ite K a) g tb D σ H := forEnum Pv h0 hl hs hd
theorem FL.zip {K : PySem.W.Frag} {a b : Addr} {xs ys : List V} {g : TG} {tb : TS} {D : Ends} {σ : L2.St} {H : Hp} (Pv : Nat → L2.St → Hp → Prop) (h0 : Pv 0 σ H) (hl : ∀ i σ H, Pv i σ H → SqL K H a xs ∧ SqL K H b ys)
    (hs : ∀ i x y σ H T, xs[i]? = some x → ys[i]? = some y → Pv i σ H → H T = none → g (.ref T) σ (upd H T (.tup [x, y])) fun σ2 H2 => tb { D with nx := Pv (i + 1), ct := Pv (i + 1), bk := D.nx } σ2 H2) (hd : ∀ σ H, Pv (min xs.length ys.length) σ H → D.nx σ H) : FL (Itz K a b) g tb D σ H := forZip Pv h0 hl hs hd
theorem LC.range {lo : Int} {n : Nat} {g : TG} {tt : TT} {te : TE} {vs : List Nat} {σ : L2.St} {H1 : Hp} {D : Addr} {Qd : Hp → Prop} (Pv : Nat → Hp → Prop) (h0 : Pv 0 (upd H1 D (.lst [])))
    (hs : ∀ i H, i < n → Pv i H → g (.int (lo + i)) (wipe σ vs) H fun σ2 H2 => wipe σ2 vs = wipe σ vs ∧ tt σ2 H2 fun b H3 =>
      if b = true then te σ2 H3 fun y H4 => ∃ acc, H4 D = some (.lst acc) ∧ acc.length < sizeLine ∧ Pv (i + 1) (upd H4 D (.lst (acc ++ [y]))) else Pv (i + 1) H3) (hd : ∀ H, Pv n H → Qd H) : LC (Itr lo n) g tt te vs σ H1 D Qd := lc_range Pv h0 hs hd
theorem LC.list {K : PySem.W.Frag} {a : Addr} {xs : List V} {g : TG} {tt : TT} {te : TE} {vs : List Nat} {σ : L2.St} {H1 : Hp} {D : Addr} {Qd : Hp → Prop} (Pv : Nat → Hp → Prop) (h0 : Pv 0 (upd H1 D (.lst []))) (hl : ∀ i H, i ≤ xs.length → Pv i H → SqL K H a xs)
    (hs : ∀ i x H, xs[i]? = some x → Pv i H → g x (wipe σ vs) H fun σ2 H2 => wipe σ2 vs = wipe σ vs ∧ tt σ2 H2 fun b H3 =>
      if b = true then te σ2 H3 fun y H4 => ∃ acc, H4 D = some (.lst acc) ∧ acc.length < sizeLine ∧ Pv (i + 1) (upd H4 D (.lst (acc ++ [y]))) else Pv (i + 1) H3) (hd : ∀ H, Pv xs.length H → Qd H) : LC (Itl K a) g tt te vs σ H1 D Qd := lc_list Pv h0 hl hs hd
theorem LC.zip {K : PySem.W.Frag} {a b : Addr} {xs ys : List V} {g : TG} {tt : TT} {te : TE} {vs : List Nat} {σ : L2.St} {H1 : Hp} {D : Addr} {Qd : Hp → Prop} (Pv : Nat → Hp → Prop) (h0 : Pv 0 (upd H1 D (.lst []))) (hl : ∀ i H, Pv i H → SqL K H a xs ∧ SqL K H b ys)
    (hs : ∀ i x y T H, xs[i]? = some x → ys[i]? = some y → H T = none → Pv i H → g (.ref T) (wipe σ vs) (upd H T (.tup [x, y])) fun σ2 H2 => wipe σ2 vs = wipe σ vs ∧ tt σ2 H2 fun b H3 =>
      if b = true then te σ2 H3 fun y H4 => ∃ acc, H4 D = some (.lst acc) ∧ acc.length < sizeLine ∧ Pv (i + 1) (upd H4 D (.lst (acc ++ [y]))) else Pv (i + 1) H3) (hd : ∀ H, Pv (min xs.length ys.length) H → Qd H) : LC (Itz K a b) g tt te vs σ H1 D Qd := by
  refine ⟨fun i m H => m = min xs.length ys.length - i ∧ i ≤ min xs.length ys.length ∧ Pv i H, ⟨_, rfl, Nat.zero_le _, h0⟩, ?_⟩
  rintro i m H ⟨rfl, hi, p⟩
  obtain ⟨q1, q2⟩ := hl i H p
  by_cases hlt : i < min xs.length ys.length
  · have l1 : i < xs.length := by omega
    have l2 : i < ys.length := by omega
    refine .inr ⟨⟨xs, ys, xs[i], ys[i], q1, q2, List.getElem?_eq_getElem l1, List.getElem?_eq_getElem l2⟩, Pv (i + 1), fun H' p' => ⟨_, ?_, rfl, hlt, p'⟩, fun x H' yl => ?_⟩
    · omega
    · obtain ⟨T, x1, y1, rfl, nT, rfl, f1, f2⟩ := yl
      exact hs i x1 y1 T H (f1 _ q1) (f2 _ q2) nT p
  · have e : i = min xs.length ys.length := by omega
    refine .inl ⟨⟨xs, ys, q1, q2, by omega⟩, hd H (e ▸ p)⟩
end UbR

/-! Menus: lists of lists of fractions, gains, honest payments. -/
namespace UbR
open PySem PySem.Spec PyProof.Rows L2 UbM Ub
def rowD (r : List Rat) : PyData := .list (r.map frD)
def mD (W : List (List Rat)) : List PyData := W.map rowD
theorem mD_len (W : List (List Rat)) : (mD W).length = W.length := List.length_map ..
theorem mD_at {W : List (List Rat)} {i : Nat} {r : List Rat} (h : W[i]? = some r) : (mD W)[i]? = some (rowD r) := by
  unfold mD
  rw [List.getElem?_map, h]
  rfl
/-- W and L fit together: kinds, o outcomes -/
structure Men (W L : List (List Rat)) (o : Nat) : Prop where
  len : L.length = W.length
  pos : 1 ≤ W.length
  most : W.length ≤ 4
  op : 1 ≤ o
  om : o ≤ 3
  w : ∀ r ∈ W, r.length = o
  l : ∀ r ∈ L, r.length = o
  wb : ∀ r ∈ W, ∀ x ∈ r, Sm 100 30 x
  lb : ∀ r ∈ L, ∀ x ∈ r, Sm 3 3 x
theorem LL.len {K : PySem.W.Frag} {H : Hp} {a : Addr} {xs : List V} {ds : List PyData} (h : DpAll K H xs ds) : xs.length = ds.length := dpAll_len h
theorem rowAt {K : PySem.W.Frag} {H : Hp} {xs : List V} {W : List (List Rat)} {i : Nat} (h : DpAll K H xs (mD W)) (hi : i < W.length) : ∃ v, xs[i]? = some v ∧ Frs K H v W[i] := by
  obtain ⟨v, h1, h2⟩ := LL.at.go (i := i) h (mD_at (List.getElem?_eq_getElem hi))
  exact ⟨v, h1, h2⟩
/-- the gain of kind k from the lot of kind j -/
def gainR (W L : List (List Rat)) (k j : Nat) : Rat := dotR (W.getD k []) (L.getD j []) - dotR (W.getD k []) (L.getD k [])
theorem getD_at {W : List (List Rat)} {i : Nat} (h : i < W.length) : W.getD i [] = W[i] := by
  rw [List.getD_eq_getElem?_getD, List.getElem?_eq_getElem h]
  rfl
theorem Men.wB {W L : List (List Rat)} {o : Nat} (M : Men W L o) {i : Nat} (h : i < W.length) : ∀ r ∈ W[i], Bd 7 r := fun r hr => (M.wb _ (List.getElem_mem h) r hr).bd (by decide) (by decide)
theorem Men.lB {W L : List (List Rat)} {o : Nat} (M : Men W L o) {i : Nat} (h : i < L.length) : ∀ r ∈ L[i], Bd 7 r := fun r hr => (M.lb _ (List.getElem_mem h) r hr).bd (by decide) (by decide)
theorem bd_dot {W L : List (List Rat)} {o k j : Nat} (M : Men W L o) (hk : k < W.length) (hj : j < L.length) : Bd 60 (dotR W[k] L[j]) := by
  have h := bd_sumR (bd_zip (M.wB hk) (M.lB hj))
  refine h.mono ?_
  have h1 := M.w _ (List.getElem_mem hk)
  have h2 := M.om
  have h3 : (List.zipWith (· * ·) W[k] L[j]).length ≤ 3 := by
    rw [List.length_zipWith]
    omega
  have := Nat.mul_le_mul_right (7 + 7 + 1) h3
  omega
/-- the gain of a cycle -/
def cycR (W L : List (List Rat)) (cs : List Nat) : Rat := sumR (List.zipWith (gainR W L) cs (cs.drop 1 ++ cs.take 1))
theorem cut_from {xs : List V} {n : Nat} : cutV xs (some (n : Int)) none = xs.drop n := by
  have e0 : HT.sIx xs.length 0 (some (n : Int)) = min n xs.length := HT.sIx_nat ..
  have e1 : HT.sIx xs.length xs.length none = xs.length := rfl
  unfold cutV
  rw [e0, e1]
  by_cases h : n ≤ xs.length
  · rw [Nat.min_eq_left h, List.take_of_length_le (by rw [List.length_drop]; exact Nat.le_refl _)]
  · rw [Nat.min_eq_right (by omega), List.drop_of_length_le (Nat.le_refl _), List.drop_of_length_le (by omega)]
    simp
theorem cut_to {xs : List V} {n : Nat} : cutV xs none (some (n : Int)) = xs.take n := by
  have e0 : HT.sIx xs.length 0 none = 0 := rfl
  have e1 : HT.sIx xs.length xs.length (some (n : Int)) = min n xs.length := HT.sIx_nat ..
  unfold cutV
  rw [e0, e1, List.drop_zero, Nat.sub_zero]
  by_cases h : n ≤ xs.length
  · rw [Nat.min_eq_left h]
  · rw [Nat.min_eq_right (by omega), List.take_of_length_le (Nat.le_refl _), List.take_of_length_le (by omega)]
/-- honest payments -/
def HonP (W L : List (List Rat)) (ps : List Rat) : Prop := ps.length = W.length ∧ ps.getD 0 1 = 0 ∧ ∀ k, k < W.length → ∀ j, j < W.length → gainR W L k j ≤ ps.getD j 0 - ps.getD k 0
theorem bd_gain {W L : List (List Rat)} {o k j : Nat} (M : Men W L o) (hk : k < W.length) (hj : j < W.length) : Bd 121 (gainR W L k j) := by
  have m2 := M.len
  unfold gainR
  rw [getD_at hk, getD_at (show j < L.length by omega), getD_at (show k < L.length by omega)]
  exact bd_sub (bd_dot M hk (by omega)) (bd_dot M hk (by omega))
theorem getR_at {ps : List Rat} {i : Nat} {d : Rat} (h : i < ps.length) : ps.getD i d = ps[i] := by
  rw [List.getD_eq_getElem?_getD, List.getElem?_eq_getElem h]
  rfl
theorem frAt {K : PySem.W.Frag} {H : Hp} {xs : List V} {ps : List Rat} {i : Nat} (h : DpAll K H xs (ps.map frD)) (hi : i < ps.length) : ∃ v, xs[i]? = some v ∧ Fr K H v ps[i] := frs_get (xs := []) h (List.getElem?_eq_getElem hi)
theorem cmp_gt {r s : Rat} : 0 < cmpR r s ↔ s < r := by
  rcases cmpR_cases r s with ⟨h, e⟩ | ⟨h, e⟩ | ⟨h, e⟩ <;> rw [e]
  · exact ⟨fun z => absurd z (by decide), fun z => absurd (Rat.le_of_lt h) (Rat.not_le.mpr z)⟩
  · exact ⟨fun z => absurd z (by decide), fun z => absurd z (by rw [h]; exact Rat.lt_irrefl)⟩
  · exact ⟨fun _ => h, fun _ => by decide⟩
theorem frsLen (rs : List Rat) : (rs.map frD).length = rs.length := List.length_map ..
theorem frsAt {rs : List Rat} {i : Nat} {r : Rat} (h : rs[i]? = some r) : (rs.map frD)[i]? = some (frD r) := by
  rw [List.getElem?_map, h]
  rfl
theorem mem_set {α : Type} {l : List α} {i : Nat} {x y : α} {P : α → Prop} (h : ∀ z ∈ l, P z) (hx : P x) (hy : y ∈ l.set i x) : P y := by
  rcases List.mem_or_eq_of_mem_set hy with e | e
  · exact h _ e
  · rw [e]
    exact hx
/-- one denominator for all gains of a menu, and a bound of their numerators -/
abbrev d30 : Nat := 2329089562800
theorem dvd30 : ∀ d : Nat, d ≤ 30 → 0 < d → d ∣ d30 := by decide
theorem dvd6 : ∀ d : Nat, d ≤ 3 → 0 < d → d ∣ 6 := by decide
abbrev dG : Nat := d30 * 6
abbrev nG : Nat := 6 * ((100 * d30) * (3 * 6))
theorem sz_dot {W L : List (List Rat)} {o k j : Nat} (M : Men W L o) (hk : k < W.length) (hj : j < L.length) : Sz dG (3 * ((100 * d30) * (3 * 6))) (dotR W[k] L[j]) := by
  have h3 : (List.zipWith (· * ·) W[k] L[j]).length ≤ 3 := by
    rw [List.length_zipWith]
    have h1 := M.w _ (List.getElem_mem hk)
    have h2 := M.om
    omega
  have h := Sz.sum (D := dG) (N := (100 * d30) * (3 * 6)) (List.zipWith (· * ·) W[k] L[j]) 0 0 Sz.zero fun x hx => by
    obtain ⟨i, hi, e⟩ := List.getElem_of_mem hx
    rw [List.getElem_zipWith] at e
    rw [← e]
    have a1 := M.wb _ (List.getElem_mem hk) _ (List.getElem_mem (l := W[k]) (n := i) (by rw [List.length_zipWith] at hi; omega))
    have a2 := M.lb _ (List.getElem_mem hj) _ (List.getElem_mem (l := L[j]) (n := i) (by rw [List.length_zipWith] at hi; omega))
    exact (Sz.of a1 (dvd30 _ a1.2 (Rat.den_pos _)) (by decide)).mul (Sz.of a2 (dvd6 _ a2.2 (Rat.den_pos _)) (by decide))
  refine Sz.mono h ?_
  have := Nat.mul_le_mul_right ((100 * d30) * (3 * 6)) h3
  omega
theorem sz_gain {W L : List (List Rat)} {o k j : Nat} (M : Men W L o) (hk : k < W.length) (hj : j < W.length) : Sz dG nG (gainR W L k j) := by
  have m2 := M.len
  unfold gainR
  rw [getD_at hk, getD_at (show j < L.length by omega), getD_at (show k < L.length by omega)]
  exact ((sz_dot M hk (by omega)).sub (sz_dot M hk (by omega))).mono (by decide)
/-- all gains of a menu -/
def gains (W L : List (List Rat)) : List (List Rat) := (List.range W.length).map fun k => (List.range W.length).map fun j => gainR W L k j
def bG : Nat := nG + 4 * (4 * 4 * nG)
theorem mem_gains {W L : List (List Rat)} {row : List Rat} (h : row ∈ gains W L) : ∃ k, k < W.length ∧ row = (List.range W.length).map fun j => gainR W L k j := by
  obtain ⟨k, hk, e⟩ := List.mem_map.mp h
  exact ⟨k, List.mem_range.mp hk, e.symm⟩
theorem range_at {n i : Nat} (h : i < n) : (List.range n)[i]? = some i := by
  rw [List.getElem?_range h]
theorem take_range {α : Type} (f : Nat → α) {n i : Nat} (h : i < n) : ((List.range n).map f).take (i + 1) = ((List.range n).map f).take i ++ [f i] := by
  rw [List.take_add_one, List.getElem?_map, range_at h]
  rfl
theorem sub1 {a d : Addr} : ∀ s ∈ [d], s ∈ [a, d] := fun s hs => List.mem_cons_of_mem _ hs
theorem ls2 {H : Hp} {a d : Addr} (h1 : ∃ xs, H a = some (.lst xs)) (h2 : Ints H d) : Ls [a, d] H := fun s hs => by
  rcases List.mem_cons.mp hs with e | e
  · rw [e]
    exact h1
  · rw [List.mem_singleton.mp e]
    exact h2.ls d (List.mem_singleton.mpr rfl)
theorem ne1 {H : Hp} {a d : Addr} (h : Ints H d) (n : Nw H a) : a ∉ [d] := fun z => by
  obtain ⟨ns, e⟩ := h
  exact n.ne e (List.mem_singleton.mp z).symm
/-- the payments as they grow at p -/
structure DrI (K : PySem.W.Frag) (H : Hp) (d : Addr) (H' : Hp) (p : Addr) (rs : List Rat) : Prop where
  s : SameS [d] H H'
  i : Ints H' d
  n : Nw H p
  c : Cel K [p, d] H' p (rs.map frD)
  b : ∀ r ∈ rs, Sm 100 30 r
theorem DrI.ls {K : PySem.W.Frag} {H H' : Hp} {d p : Addr} {rs : List Rat} (h : DrI K H d H' p rs) : Ls [p, d] H' := fun s hs => by
  rcases List.mem_cons.mp hs with e | e
  · rw [e]
    exact h.c.ls
  · rw [e |> List.mem_singleton.mp]
    exact h.i.ls d (List.mem_singleton.mpr rfl)
theorem DrI.ne {K : PySem.W.Frag} {H H' : Hp} {d p : Addr} {rs : List Rat} (h : DrI K H d H' p rs) (h0 : Ints H d) : d ≠ p := by
  obtain ⟨ns, e⟩ := h0
  exact h.n.ne e
theorem DrI.mono {K : PySem.W.Frag} {H H' H2 : Hp} {d p : Addr} {rs : List Rat} (h : DrI K H d H' p rs) (h0 : Ints H d) (e : SameS [d] H' H2) (i : Ints H2 d) : DrI K H d H2 p rs :=
  ⟨h.s.trans e, i, h.n, h.c.monoS e (fun s hs => List.mem_cons_of_mem _ hs) (fun z => h.ne h0 (List.mem_singleton.mp z).symm), h.b⟩
theorem DrI.push {K : PySem.W.Frag} {H H' : Hp} {d p : Addr} {rs : List Rat} {v : V} {r : Rat} {Q : VK} (h : DrI K H d H' p rs) (h0 : Ints H d) (hz : rs.length ≤ 5000) (hv : Fr K H' v r) (hb : Sm 100 30 r) (q : ∀ H2, DrI K H d H2 p (rs ++ [r]) → Q .non H2) : rAppend (.ref p) [v] H' Q := by
  obtain ⟨ys, hy⟩ := h.c.ls
  refine h.c.app (d := frD r) (List.mem_cons_self ..) (by rw [frsLen]; exact hz) (Kp.fr h.ls hv) fun acc ha hC => q _ ⟨late_nw h.s h.n (notTbl hy) h0.ls, h.i.stay (h.ne h0), h.n, ?_, fun x hx => ?_⟩
  · rw [List.map_append]
    exact hC
  · rcases List.mem_append.mp hx with e | e
    · exact h.b x e
    · rw [List.mem_singleton.mp e]
      exact hb
end UbR

namespace UbC
open PySem PySem.Spec PyProof.Rows L2 Ub UbM
/-! ### own exceptions with their own __init__ -/
/-- the base of own errors: B.__init__ is ValueError's -/
def baseB (K : PySem.W.Frag) (B : Addr) : Bool :=
  decide (PySem.W.specialIn K (.ref B) "__getattribute__" = some (some (.builtin "type.__getattribute__"))) && (PySem.W.readsIn K B (.type "type") && (match PySem.W.findCls K (.ref B) (.type "type") "__init__" with
    | some (.val (.builtin n)) => decide (n = "ValueError.__init__")
    | _ => false))
structure BaseC (K : PySem.W.Frag) (B : Addr) : Prop where
  ga : PySem.W.specialIn K (.ref B) "__getattribute__" = some (some (.builtin "type.__getattribute__"))
  rd : PySem.W.readsIn K B (.type "type") = true
  fi : PySem.W.findCls K (.ref B) (.type "type") "__init__" = some (.val (.builtin "ValueError.__init__"))
theorem baseB_ok {K : PySem.W.Frag} {B : Addr} (h : baseB K B = true) : BaseC K B := by
  unfold baseB at h
  obtain ⟨h1, h⟩ := He.ba h
  obtain ⟨h2, h3⟩ := He.ba h
  refine ⟨of_decide_eq_true h1, h2, ?_⟩
  split at h3
  · rename_i n e
    have en : n = "ValueError.__init__" := of_decide_eq_true h3
    rw [e, en]
  · cases h3
section
variable {X : Cx} {e : Expr} {es : List Expr} {ta : TA} {x : Str} {p1 p2 pos : Pos} {B : Addr}
/-- B.__init__(self, ..) -/
theorem pe_binit {pl : Sem Bool} (T : BaseC X.K B) (hg : Gl X x) (hm : X.mg x = some (.ref B)) (ha : PA X (e :: es) ta) (hdb : (x == ("__debug__" : Str)) = false := by decide)
    (hc : eval (.Call (.Attribute (.Name x p1) "__init__" p2) (e :: es) [] pos) X.env = (do
      let ov ← eval (.Name x p1) X.env
      standAt p2.atName
      let (f, first) ← holding [ov] (getMethod ov "__init__" pl)
      callWith pos f first (backTo pos (starEach (e :: es) X.env)) (backToKw pos (keywordEach [] X.env))) := by rfl)
    (he : starEach (e :: es) X.env = (false, eval e X.env) :: starEach es X.env := by rfl) (hpl : (backTo pos (starEach es X.env)).any (·.1) = false := by rfl) :
    PE X (.Call (.Attribute (.Name x p1) "__init__" p2) (e :: es) [] pos) (tVeI X.K ta) := by
  refine ⟨fun pins s σ H Q I h => ?_⟩
  refine PySem.W.methodCall_KW (ld_glob I hg hm ?_ hdb) hc
  refine PySem.W.method_cls I.kIn T.ga (PySem.W.cls_value I.kIn T.rd T.fi (by decide +kernel) ?_)
  show wpAny _ _ (callWith pos (Value.builtin "ValueError.__init__") [] (backTo pos (starEach (e :: es) X.env)) []) _ _ _
  refine PyProof.Rows.callWith_method1 (thn (ha.run pos pins _ σ H _ (I.tok _) h) fun us s1 ⟨vs, H1, I1, r1, a, C, ws, ev, hl, T', ea, q⟩ => ?_) he hpl
  subst ev
  cases r1 with
  | @cons _ u0 _ ur ra rw' =>
    obtain rfl : u0 = Value.ref a := ra
    have hlen : ur.length ≤ sizeLine := by
      rw [← Paired.length rw', sizeLine_eq]
      omega
    exact oinit_ok T' I1 ea hlen fun s' J => ⟨.non, H1, J, rfl, q⟩
end
/-- the class object of an own exception -/
def oexB (K : PySem.W.Frag) (C : Addr) : Bool := (match K.lookup C with
  | some ⟨.type "type", _, .cls cd, sl⟩ => (match cd.mro, sl.toList with
    | .ref C' :: bm, [_, _, _, _, some (.builtin n), _] => decide (C' = C) && (decide (n = "ValueError.__new__") && (!cd.hasDel && (cd.hasDict && PySem.HandSPX.refsVE bm)))
    | _, _ => false)
  | _ => false) && (He.eqO (PySem.W.findIn K (.ref C) "__setattr__") (some (some (.builtin "object.__setattr__"))) && (decide (PySem.W.subIn K (.ref C) (.type "BaseException") = some true) && (decide (PySem.W.typeIn K (.ref C) = some (.type "type")) && (PySem.W.keepIn K (.ref C) &&
   (He.eqO (PySem.W.findIn K (.ref C) "__init__") (some (some (.ref (He.ma K C "__init__")))) && decide (PySem.W.typeIn K (.ref (He.ma K C "__init__")) = some (.type "function")))))))
/-- an own exception class with its own __init__ -/
structure OexI (K : PySem.W.Frag) (C : Addr) : Prop where
  oex : OexC K C
  ini : PySem.W.findIn K (.ref C) "__init__" = some (some (.ref (He.ma K C "__init__")))
  ty : PySem.W.typeIn K (.ref (He.ma K C "__init__")) = some (.type "function")
theorem oexB_ok {K : PySem.W.Frag} {C : Addr} (h : oexB K C = true) : OexI K C := by
  unfold oexB at h
  obtain ⟨q, h⟩ := He.ba h
  obtain ⟨h2, h⟩ := He.ba h
  obtain ⟨h3, h⟩ := He.ba h
  obtain ⟨h4, h⟩ := He.ba h
  obtain ⟨h5, h⟩ := He.ba h
  obtain ⟨h6, h7⟩ := He.ba h
  refine ⟨⟨?_, He.eqO_ok h2, of_decide_eq_true h3, of_decide_eq_true h4, h5⟩, He.eqO_ok h6, of_decide_eq_true h7⟩
  split at q
  · rename_i dd cd sl ho
    split at q
    · rename_i C' bm k0 k1 k2 k3 n k5 hm hs
      obtain ⟨q1, q⟩ := He.ba q
      obtain ⟨q2, q⟩ := He.ba q
      obtain ⟨q3, q⟩ := He.ba q
      obtain ⟨q4, q5⟩ := He.ba q
      have e1 := of_decide_eq_true q1
      have e2 := of_decide_eq_true q2
      subst e1 e2
      obtain ⟨nm, bs, mro, ns, qn, hd, sn, sub, ab, col, del⟩ := cd
      dsimp only at hm q3 q4
      have q3' : del = false := by
        cases del
        · rfl
        · cases q3
      subst hm q3' q4
      have hsl : sl = #[k0, k1, k2, k3, some (.builtin "ValueError.__new__"), k5] := by
        obtain ⟨l⟩ := sl
        simp only at hs
        rw [hs]
      subst hsl
      exact ⟨nm, qn, ns, bs, bm, sn, sub, ab, col, dd, k0, k1, k2, k3, k5, ho, q5⟩
    · cases q
  · cases q
/-- what such an __init__ leaves: the fields fl of the values, in the instance's dict -/
def spEI (C : Addr) (fl : List V → List (Str × V)) (ok : List V → Prop) : Sp := fun vs H Q _ => ∃ (a : Addr) (us : List V), vs = .ref a :: us ∧ ok us ∧ H a = some (exo a C none) ∧ ∀ d, H d = none → d ≠ a → Q .non (upd (upd H d (exd d (fl us))) a (exo a C (some d)))
/-- a text of at most 1000 signs -/
def okT : List V → Prop := fun us => ∃ y : Str, us = [.str y] ∧ y.length ≤ 1000
def fl1 (f : Str) : List V → List (Str × V) := fun us => us.map fun v => (f, v)
theorem okT_len {us : List V} (h : okT us) : us.length = 1 := by
  obtain ⟨y, rfl, _⟩ := h
  rfl
theorem rdMkO {C : Addr} {fl : List V → List (Str × V)} {ok : List V → Prop} {us : List V} {H1 : Hp} {Q : XK} (hl : us.length ≤ 1000) (hk : ok us) (q : ∀ d, H1 d = none → Q (.ref C) (some d) (upd H1 d (.xd (fl us)))) :
    us.length ≤ 1000 ∧ ∀ a, H1 a = none → spEI C fl ok (.ref a :: (us ++ [])) (upd H1 a (exo a C none)) (fun v H2 => v = .non ∧ ∃ (d : Addr) (fs : List (Str × V)), H2 a = some (exo a C (some d)) ∧ H2 d = some (exd d fs) ∧ H1 d = none ∧ Q (.ref C) (some d) (upd (del H2 a) d (.xd fs))) (fun _ _ _ => False) := by
  refine ⟨hl, fun a na => ⟨a, us, by rw [List.append_nil], hk, upd_same, fun d nd hda => ?_⟩⟩
  have hd : H1 d = none := by
    rw [upd_ne hda] at nd
    exact nd
  refine ⟨rfl, d, fl us, upd_same, ?_, hd, ?_⟩
  · rw [upd_ne hda, upd_same]
  have e : upd (del (upd (upd (upd H1 a (exo a C none)) d (exd d (fl us))) a (exo a C (some d))) a) d (.xd (fl us)) = upd H1 d (.xd (fl us)) := by
    funext b
    by_cases hb : b = d
    · rw [hb, upd_same, upd_same]
    · rw [upd_ne hb, upd_ne hb]
      by_cases ha : b = a
      · rw [ha, del_same, na]
      · rw [del_ne ha, upd_ne ha, upd_ne hb, upd_ne ha]
  rw [e]
  exact q d hd
theorem flen {p y : Str} (hp : p.length ≤ 1000) (hy : y.length ≤ 1000) : (Str.empty ++ p ++ y).length ≤ sizeLine := by
  have e : (Str.empty ++ p ++ y).length = p.length + y.length := by rw [Str.length_append, Str.length_append, show Str.empty.length = 0 from rfl, Nat.zero_add]
  rw [e, sizeLine_eq]
  omega
theorem flen0 {p : Str} (hp : p.length ≤ 1000) : (Str.empty ++ p).length ≤ sizeLine := by
  have e : (Str.empty ++ p).length = p.length := by rw [Str.length_append, show Str.empty.length = 0 from rfl, Nat.zero_add]
  rw [e, sizeLine_eq]
  omega
theorem cutF {xs : List V} {n : Nat} : cutV xs (some (n : Int)) none = xs.drop n := by
  have e0 : HT.sIx xs.length 0 (some (n : Int)) = min n xs.length := HT.sIx_nat ..
  have e1 : HT.sIx xs.length xs.length none = xs.length := rfl
  unfold cutV
  rw [e0, e1]
  by_cases h : n ≤ xs.length
  · rw [Nat.min_eq_left h, List.take_of_length_le (by rw [List.length_drop]; exact Nat.le_refl _)]
  · rw [Nat.min_eq_right (by omega), List.drop_of_length_le (Nat.le_refl _), List.drop_of_length_le (by omega)]
    simp
theorem cutT {xs : List V} {n : Nat} : cutV xs none (some (n : Int)) = xs.take n := by
  have e0 : HT.sIx xs.length 0 none = 0 := rfl
  have e1 : HT.sIx xs.length xs.length (some (n : Int)) = min n xs.length := HT.sIx_nat ..
  unfold cutV
  rw [e0, e1, List.drop_zero, Nat.sub_zero]
  by_cases h : n ≤ xs.length
  · rw [Nat.min_eq_left h]
  · rw [Nat.min_eq_right (by omega), List.take_of_length_le (Nat.le_refl _), List.take_of_length_le (by omega)]
theorem rdRaise {C : Addr} {f z : Str} {σ : L2.St} {H : Hp} {Q : XK} (hz : z.length ≤ 1000) (q : ∀ d H', Same H H' → Q (.ref C) (some d) H') : tMkO C (spEI C (fl1 f) okT) [] (tCons (tC (.str z)) tNil) σ H Q :=
  rdMkO (Nat.le_of_ble_eq_true rfl) ⟨z, rfl, hz⟩ fun d nd => q d _ (sameNew nd)
theorem cmpGe {r s : Rat} : 0 ≤ cmpR r s ↔ s ≤ r := by
  rcases cmpR_cases r s with ⟨h, e⟩ | ⟨h, e⟩ | ⟨h, e⟩ <;> rw [e]
  · exact ⟨fun z => absurd z (by decide), fun z => absurd h (Rat.not_lt.mpr z)⟩
  · exact ⟨fun _ => by rw [h]; exact Rat.le_refl, fun _ => by decide⟩
  · exact ⟨fun _ => Rat.le_of_lt h, fun _ => by decide⟩
theorem cmpLe {r s : Rat} : cmpR r s ≤ 0 ↔ r ≤ s := by
  rcases cmpR_cases r s with ⟨h, e⟩ | ⟨h, e⟩ | ⟨h, e⟩ <;> rw [e]
  · exact ⟨fun _ => Rat.le_of_lt h, fun _ => by decide⟩
  · exact ⟨fun _ => by rw [h]; exact Rat.le_refl, fun _ => by decide⟩
  · exact ⟨fun z => absurd z (by decide), fun z => absurd h (Rat.not_lt.mpr z)⟩
theorem cmpGt {r s : Rat} : 0 < cmpR r s ↔ s < r := by
  rcases cmpR_cases r s with ⟨h, e⟩ | ⟨h, e⟩ | ⟨h, e⟩ <;> rw [e]
  · exact ⟨fun z => absurd z (by decide), fun z => absurd (Rat.le_of_lt h) (Rat.not_le.mpr z)⟩
  · exact ⟨fun z => absurd z (by decide), fun z => absurd z (by rw [h]; exact Rat.lt_irrefl)⟩
  · exact ⟨fun _ => h, fun _ => by decide⟩
theorem cmpLt {r s : Rat} : cmpR r s < 0 ↔ r < s := by
  rw [← Int.not_le, cmpGe, Rat.not_le]
/-- at the name x stands an own exception class whose __init__ keeps sp -/
structure CalX (P : Program) (w : World) (K : PySem.W.Frag) (mg : Str → Option Value) (base : Heap) (x : Str) (k : Nat) (sp : Sp) : Prop where
  oex : OexI K (He.ga K x)
  gC : mg x = some (.ref (He.ga K x))
  ini : ∃ (fd : FuncData) (ps : List Str), FnOk P w K mg base (L2.CX P w) k (He.ma K (He.ga K x) "__init__") fd ps sp ∧ Binds K fd ps []
section
variable {X : Cx} {W : WX} {x : Str} {k j : Nat} {sp : Sp} {e : Expr} {es : List Expr} {ta : TA} {p pos pos2 : Pos}
/-- raise X(e, ..) -/
theorem ps_raiseC (hc : X.calm = true) (tk : Takes X W) (C : CalX X.prog X.w X.K X.mg X.base x k sp) (hr : Room j X.A) (hj : k + 1 ≤ j) (hg : Gl X x) (ha : PA X (e :: es) ta) (hdb : (x == ("__debug__" : Str)) = false := by decide)
    (he : starEach (e :: es) X.env = (false, eval e X.env) :: starEach es X.env := by rfl) (hpl : (backTo pos (starEach es X.env)).any (·.1) = false := by rfl) :
    PS X (.Raise (some (.Call (.Name x p) (e :: es) [] pos)) none pos2) (fun _ σ H => tMkO (He.ga X.K x) sp [] ta σ H fun cls d H' => W cls d σ H') := by
  obtain ⟨fd, ps, F, hb⟩ := C.ini
  exact ps_raise hc tk (pmk_oex C.oex.oex C.oex.ini C.oex.ty F (hr.mono hj) hb .nil (passes_call tk fun _ _ _ _ h => h.elim) hg C.gC ha hdb he hpl)
end
/-! ### instances -/
section
variable {K : PySem.W.Frag} {x qual : Str} {params : Arguments} {body : List Stmt} {scope : Scope} {kws : List (Str × V)} {f : Addr} {fd : FuncData} {ps : List Str}
/-- m(e, .., k = v, ..), no defaults at all -/
theorem FunD_kbindsN (F : FunD K x qual params body scope [] kws f fd) (n : Nat) (ks : List Str)
    (h : ∀ (kV doc pm : Value) (an : Option Addr) (cdv ct : Value) (us ws : List Value), us.length = n → ws.length = ks.length → bindArgs (PySem.W.fnOf x qual params body scope .none kV doc pm an cdv ct) ⟨us, ks.zip ws⟩ = pure (ps.zip (us ++ ws))) :
    KBn K fd ps n ks (fun us ws => us ++ ws) (fun vs zs => vs ++ zs) := by
  obtain ⟨oc, od, dV, kV, doc, pm, an, cdv, ct, osl, rfl, lk, hcd, hD, hK⟩ := F.ex
  rcases hD with ⟨_, rfl⟩ | ⟨e, _⟩
  · exact ⟨fun s us ws X l1 l2 => .of_eq (h kV doc pm an cdv ct us ws l1 l2), fun r1 r2 => r1.append r2⟩
  · exact absurd rfl e
end
/-- in a try: C(e, .., k = v, ..) -/
def tMakeNS (C : Addr) (n m : Nat) (sp : Sp) (gV : List V → List V → List V) (E : L2.St → XK) (t tk : TA) : TE := fun σ H Q => t σ H fun vs H1 => tk σ H1 fun zs H2 => vs.length = n ∧ zs.length = m ∧
  ∀ x dx, H2 x = none → H2 dx = none → dx ≠ x → sp (gV (.ref x :: vs) zs) (upd (upd H2 dx (.own x)) x (.ins C dx [])) (fun v H3 => v = .non ∧ Q (.ref x) H3) (E σ)
section
variable {X : Cx} {CX : CXT} {k n : Nat} {f C : Addr} {fd : FuncData} {ps ks : List Str} {sp : Sp} {E : L2.St → XK} {x m : Str} {p pos apos : Pos} {e o : Expr} {es : List Expr} {kws : List Keyword} {to : TE} {t tk : TA} {g : List Value → List Value → List Value} {gV : List V → List V → List V} {ds : List Value} {dvs : List V}
theorem run_makeNS {pins : List (Addr × Obj)} {σ : L2.St} {H : Hp} {s : Shared} {Q : VK} {us ws : List Value} {vs zs : List V} (M : Mk X.K C f) (F : FnOk X.prog X.w X.K X.mg X.base CX k f fd ps sp) (hr : Room (k + 1) X.A) (hb : KBn X.K fd ps (n + 1) ks g gV)
    (hx : PassesAt CX X σ (E σ)) (I : Inv X pins σ H s) (r : Vals vs us) (rz : Vals zs ws) (l1 : vs.length = n) (l2 : zs.length = ks.length)
    (h : ∀ x dx, H x = none → H dx = none → dx ≠ x → sp (gV (.ref x :: vs) zs) (upd (upd H dx (.own x)) x (.ins C dx [])) (fun v H2 => v = .non ∧ Q (.ref x) H2) (E σ)) :
    wpAny (model X.prog X.w) X.A (call (.ref C) us (ks.zip ws)) (EP X pins σ Q) X.xe s := by
  have hq := h (s.heap.objs.size + 1) s.heap.objs.size (I.hok.fresh (Nat.le_succ _)) (I.hok.fresh (Nat.le_refl _)) (Nat.ne_of_lt (Nat.lt_succ_self _))
  have I2 := Inv.made (C := C) I
  have r1 : Vals (V.ref (s.heap.objs.size + 1) :: vs) (Value.ref (s.heap.objs.size + 1) :: us) := .cons rfl r
  have r2 := hb.rel r1 rz
  have e1 : (Value.ref (s.heap.objs.size + 1) :: us).length = n + 1 := r1.length.symm.trans (congrArg Nat.succ l1)
  have e2 : ws.length = ks.length := rz.length.symm.trans l2
  refine wpAny_call (make_map (f := f) I.kIn M.makes M.init (beq_iff_eq.mp M.fn) (codeAny_mono (F.run _ X.stack _ _ ⟨Value.ref (s.heap.objs.size + 1) :: us, ks.zip ws⟩ (g (Value.ref (s.heap.objs.size + 1) :: us) ws) _ _ (E σ) (hr.make C us (ks.zip ws))
    (I2.env0.make C us (ks.zip ws)) (hb.to _ (Value.ref (s.heap.objs.size + 1) :: us) ws I2.kIn e1 e2) r2 hq) fun r s' hq' => ?_))
  cases r with
  | error e => exact hx pins _ _ e s' I2 hq'
  | ok fl =>
    cases fl with
    | ret u =>
      obtain ⟨v, H', I3, rv, ev, q3⟩ := I2.after hq'
      subst ev
      exact ⟨rv, ⟨V.ref (s.heap.objs.size + 1), H', I3, rfl, q3⟩⟩
    | next => exact False.elim hq'
    | brk => exact False.elim hq'
    | cont => exact False.elim hq'
theorem pe_makeNS (M : Mk X.K C f) (F : FnOk X.prog X.w X.K X.mg X.base CX k f fd ps sp) (hr : Room (k + 1) X.A) (hg : Gl X x) (hm : X.mg x = some (.ref C)) (hb : KBn X.K fd ps (n + 1) ks g gV) (hx : ∀ σ, PassesAt CX X σ (E σ))
    (ha : PA X (e :: es) t) (hkw : PK X kws tk) (hall : (backToKw pos (keywordEach kws X.env)).all (·.1.isSome) = true := by rfl) (hks : (backToKw pos (keywordEach kws X.env)).filterMap (·.1) = ks := by rfl)
    (hdb : (x == ("__debug__" : Str)) = false := by decide) (he : starEach (e :: es) X.env = (false, eval e X.env) :: starEach es X.env := by rfl)
    (hpl : ((backTo pos (starEach (e :: es) X.env)).any (·.1) || (backToKw pos (keywordEach kws X.env)).any (·.1.isNone)) = false := by rfl) :
    PE X (.Call (.Name x p) (e :: es) kws pos) (tMakeNS C n ks.length sp gV E t tk) := by
  refine ⟨fun pins s σ H Q I h => ?_⟩
  refine wpAny_Call_Name_kw (ld_glob I hg hm ?_ hdb)
  refine PySem.W.callWith_KW (h₀ := X.base) I.ok.mod.kin M.kp hall (thn (ha.run pos pins s σ H _ I h) fun us s1 ⟨vs, H1, I1, r, q⟩ => ?_) hpl he
  refine thn (hkw.run pos pins s1 σ H1 _ I1 q) fun ws s2 ⟨zs, H2, I2, rz, l1, l2, q2⟩ => ⟨I2.kIn, ?_⟩
  rw [hks]
  exact run_makeNS M F hr hb (hx σ) I2 r rz l1 l2 q2
/-- in a try: o.m(e, ..) -/
def tMethS (C : Addr) (m : Str) (sp : Sp) (dvs : List V) (E : L2.St → XK) (ta : TE) (t : TA) : TE := fun σ H Q => ta σ H fun x H1 => ∃ a dx fs, x = .ref a ∧ H1 a = some (.ins C dx fs) ∧ fs.lookup m = none ∧
  t σ H1 fun vs H2 => sp (x :: (vs ++ dvs)) H2 Q (E σ)
theorem pe_methS {pl : Sem Bool} (he : PE X o to) (c : Cls X.K C) (hm : Meth X.K C m f) (F : FnOk X.prog X.w X.K X.mg X.base CX k f fd ps sp) (hr : Room k X.A) (hb : Binds X.K fd ps ds) (hd : Vals dvs ds) (hx : ∀ σ, PassesAt CX X σ (E σ)) (ha : PA X (e :: es) t)
    (hst : starEach (e :: es) X.env = (false, eval e X.env) :: starEach es X.env := by rfl) (hpl : (backTo pos (starEach es X.env)).any (·.1) = false := by rfl)
    (ht : eval (.Call (.Attribute o m apos) (e :: es) [] pos) X.env = (do
      let ov ← eval o X.env
      standAt apos.atName
      let (f, first) ← holding [ov] (getMethod ov m pl)
      callWith pos f first (backTo pos (starEach (e :: es) X.env)) (backToKw pos (keywordEach [] X.env))) := by rfl) :
    PE X (.Call (.Attribute o m apos) (e :: es) [] pos) (tMethS C m sp dvs E to t) := by
  refine ⟨fun pins s σ H Q I h => ?_⟩
  refine PySem.W.methodCall_KW (pl := pl) (thn (he.run pins s σ H _ I h) fun u s1 ⟨x, H1, I1, rx, a, dx, fs, ex, ea, l, q⟩ => ?_) ht
  subst ex
  obtain rfl : u = Value.ref a := rx
  refine getmeth_ok I1 ea c hm l ?_
  refine PySem.W.callWith_K (first := [.ref a]) (h₀ := X.base) I.ok.mod.kin hm.kp (thn (ha.run pos pins s1 σ H1 _ I1 q) fun us s2 ⟨vs, H2, I2, r, q2⟩ => ⟨I2.kIn, ?_⟩) hst hpl
  exact run_fnSD (us := .ref a :: us) (vs := .ref a :: vs) F hr hb hd (hx σ) I2 (.cons rfl r) q2
end
/-- at the name x stands a class whose method m keeps sp -/
structure CalM (P : Program) (w : World) (K : PySem.W.Frag) (mg : Str → Option Value) (base : Heap) (x m : Str) (k : Nat) (ps : List Str) (dvs : List V) (sp : Sp) : Prop where
  cls : Cls K (He.ga K x)
  meth : Meth K (He.ga K x) m (He.ma K (He.ga K x) m)
  run : ∃ (fd : FuncData) (ds : List Value), FnOk P w K mg base (L2.CX P w) k (He.ma K (He.ga K x) m) fd ps sp ∧ Vals dvs ds ∧ Binds K fd ps ds
/-- at the name x stands a class whose __init__ keeps sp; n values and the keywords ks -/
structure CalI (P : Program) (w : World) (K : PySem.W.Frag) (mg : Str → Option Value) (base : Heap) (x : Str) (k n : Nat) (ks : List Str) (sp : Sp) : Prop where
  mkr : Mk K (He.ga K x) (He.ma K (He.ga K x) "__init__")
  gC : mg x = some (.ref (He.ga K x))
  run : ∃ (fd : FuncData) (ps : List Str) (g : List Value → List Value → List Value), FnOk P w K mg base (L2.CX P w) k (He.ma K (He.ga K x) "__init__") fd ps sp ∧ KBn K fd ps (n + 1) ks g (fun vs zs => vs ++ zs)
section
variable {X : Cx} {W : WX} {x m : Str} {k j n : Nat} {ks ps : List Str} {dvs : List V} {sp : Sp} {E : XK} {p pos apos : Pos} {e o : Expr} {es : List Expr} {kws : List Keyword} {to : TE} {t tk : TA}
theorem pe_newC (C : CalI X.prog X.w X.K X.mg X.base x k n ks sp) (hr : Room j X.A) (hj : k + 1 ≤ j) (hg : Gl X x) (hx : Passes (L2.CX X.prog X.w) X E) (ha : PA X (e :: es) t) (hkw : PK X kws tk)
    (hall : (backToKw pos (keywordEach kws X.env)).all (·.1.isSome) = true := by rfl) (hks : (backToKw pos (keywordEach kws X.env)).filterMap (·.1) = ks := by rfl)
    (hdb : (x == ("__debug__" : Str)) = false := by decide) (he : starEach (e :: es) X.env = (false, eval e X.env) :: starEach es X.env := by rfl)
    (hpl : ((backTo pos (starEach (e :: es) X.env)).any (·.1) || (backToKw pos (keywordEach kws X.env)).any (·.1.isNone)) = false := by rfl) :
    PE X (.Call (.Name x p) (e :: es) kws pos) (tMakeN (He.ga X.K x) n ks.length sp (fun vs zs => vs ++ zs) E t tk) := by
  obtain ⟨fd, ps, g, F, hb⟩ := C.run
  exact pe_makeN C.mkr F (hr.mono hj) hg C.gC hb hx ha hkw hall hks hdb he hpl
theorem pe_newCS {K : PySem.W.Frag} (hK : X.K = K) (C : CalI X.prog X.w X.K X.mg X.base x k n ks sp) (hr : Room j X.A) (hj : k + 1 ≤ j) (hg : Gl X x) (tk' : Takes X W) (ha : PA X (e :: es) t) (hkw : PK X kws tk)
    (hall : (backToKw pos (keywordEach kws X.env)).all (·.1.isSome) = true := by rfl) (hks : (backToKw pos (keywordEach kws X.env)).filterMap (·.1) = ks := by rfl)
    (hdb : (x == ("__debug__" : Str)) = false := by decide) (he : starEach (e :: es) X.env = (false, eval e X.env) :: starEach es X.env := by rfl)
    (hpl : ((backTo pos (starEach (e :: es) X.env)).any (·.1) || (backToKw pos (keywordEach kws X.env)).any (·.1.isNone)) = false := by rfl) :
    PE X (.Call (.Name x p) (e :: es) kws pos) (tMakeNS (He.ga K x) n ks.length sp (fun vs zs => vs ++ zs) (WE W) t tk) := by
  subst hK
  obtain ⟨fd, ps, g, F, hb⟩ := C.run
  exact pe_makeNS C.mkr F (hr.mono hj) hg C.gC hb (fun σ => passAt tk' σ) ha hkw hall hks hdb he hpl
theorem pe_methC {pl : Sem Bool} (C : CalM X.prog X.w X.K X.mg X.base x m k ps dvs sp) (hr : Room j X.A) (hj : k ≤ j) (hx : Passes (L2.CX X.prog X.w) X E) (he : PE X o to) (ha : PA X (e :: es) t)
    (hst : starEach (e :: es) X.env = (false, eval e X.env) :: starEach es X.env := by rfl) (hpl : (backTo pos (starEach es X.env)).any (·.1) = false := by rfl)
    (ht : eval (.Call (.Attribute o m apos) (e :: es) [] pos) X.env = (do
      let ov ← eval o X.env
      standAt apos.atName
      let (f, first) ← holding [ov] (getMethod ov m pl)
      callWith pos f first (backTo pos (starEach (e :: es) X.env)) (backToKw pos (keywordEach [] X.env))) := by rfl) :
    PE X (.Call (.Attribute o m apos) (e :: es) [] pos) (tMeth (He.ga X.K x) m sp dvs E to t) := by
  obtain ⟨fd, ds, F, hd, hb⟩ := C.run
  exact pe_meth he C.cls C.meth F (hr.mono hj) hb hd hx ha hst hpl ht
theorem pe_methC0 {pl : Sem Bool} (C : CalM X.prog X.w X.K X.mg X.base x m k ps dvs sp) (hr : Room j X.A) (hj : k ≤ j) (hx : Passes (L2.CX X.prog X.w) X E) (he : PE X o to)
    (ht : eval (.Call (.Attribute o m apos) [] [] pos) X.env = (do
      let ov ← eval o X.env
      standAt apos.atName
      let (f, first) ← holding [ov] (getMethod ov m pl)
      callWith pos f first (backTo pos (starEach [] X.env)) (backToKw pos (keywordEach [] X.env))) := by rfl) :
    PE X (.Call (.Attribute o m apos) [] [] pos) (tMeth (He.ga X.K x) m sp dvs E to tNil) := by
  obtain ⟨fd, ds, F, hd, hb⟩ := C.run
  exact pe_meth0 he C.cls C.meth F (hr.mono hj) hb hd hx ht
theorem pe_methCS {pl : Sem Bool} {K : PySem.W.Frag} (hK : X.K = K) (C : CalM X.prog X.w X.K X.mg X.base x m k ps dvs sp) (hr : Room j X.A) (hj : k ≤ j) (tk' : Takes X W) (he : PE X o to) (ha : PA X (e :: es) t)
    (hst : starEach (e :: es) X.env = (false, eval e X.env) :: starEach es X.env := by rfl) (hpl : (backTo pos (starEach es X.env)).any (·.1) = false := by rfl)
    (ht : eval (.Call (.Attribute o m apos) (e :: es) [] pos) X.env = (do
      let ov ← eval o X.env
      standAt apos.atName
      let (f, first) ← holding [ov] (getMethod ov m pl)
      callWith pos f first (backTo pos (starEach (e :: es) X.env)) (backToKw pos (keywordEach [] X.env))) := by rfl) :
    PE X (.Call (.Attribute o m apos) (e :: es) [] pos) (tMethS (He.ga K x) m sp dvs (WE W) to t) := by
  subst hK
  obtain ⟨fd, ds, F, hd, hb⟩ := C.run
  exact pe_methS he C.cls C.meth F (hr.mono hj) hb hd (fun σ => passAt tk' σ) ha hst hpl ht
end
end UbC

namespace UbZ
open PySem PySem.Spec PyProof.Rows L2 Ub UbM
/-! ### zip of three lists -/
abbrev Is3 (h : Heap) (T : Addr) (a b c : Value) : Prop := h.get? T = some { cls := .type "tuple", data := .seq #[a, b, c] }
theorem typeCall3 (a b c : Value) : checkTypeCall "zip" ⟨[a, b, c], []⟩ = pure () := by kernel_rfl
theorem newCall3 (a b c : Value) : checkBuiltinCall "zip.__new__" ⟨[.type "zip", a, b, c], []⟩ = pure () := by kernel_rfl
theorem initArgs4 (a b c d : Value) : argsOk "object.__init__" ⟨[a, b, c, d], []⟩ := by
  unfold argsOk
  rw [signature?_of (id := "object.__init__") (n := ['_', '_', 't', 'i', 'n', 'i', '_', '_']) (o := ['t', 'c', 'e', 'j', 'b', 'o']) (by kernel_rfl) F.owner_object]
  kernel_rfl
structure Apart (z TI TO i1 i2 i3 l1 l2 l3 : Addr) : Prop where
  TIz : TI ≠ z
  TOz : TO ≠ z
  i1z : i1 ≠ z
  i2z : i2 ≠ z
  i3z : i3 ≠ z
  TITO : TI ≠ TO
  TIi1 : TI ≠ i1
  TIi2 : TI ≠ i2
  TIi3 : TI ≠ i3
  TOi1 : TO ≠ i1
  TOi2 : TO ≠ i2
  TOi3 : TO ≠ i3
  i12 : i1 ≠ i2
  i13 : i1 ≠ i3
  i23 : i2 ≠ i3
  m1 : l1 ≠ z ∧ l1 ≠ TO ∧ l1 ≠ i1 ∧ l1 ≠ i2 ∧ l1 ≠ i3
  m2 : l2 ≠ z ∧ l2 ≠ TO ∧ l2 ≠ i1 ∧ l2 ≠ i2 ∧ l2 ≠ i3
  m3 : l3 ≠ z ∧ l3 ≠ TO ∧ l3 ≠ i1 ∧ l3 ≠ i2 ∧ l3 ≠ i3
section
variable {prog : Program} {w : World} {A : Around} {E : Value → Shared → Prop} {s : Shared}
/-- the heap where only the working objects of the zip have changed -/
def Kept (z TO i1 i2 i3 : Addr) (h h' : Heap) : Prop := ∀ c o, c ≠ z → c ≠ TO → c ≠ i1 → c ≠ i2 → c ≠ i3 → h.get? c = some o → h'.get? c = some o
theorem upd3 {T : Addr} {a b c x : Value} {k : Nat} {Q : Unit → Shared → Prop} (hT : Is3 s.heap T a b c)
    (h : ∀ h', h'.get? T = some { cls := .type "tuple", data := .seq ((#[a, b, c] : Array Value).setIfInBounds k x) } → Heap.SameBut T s.heap h' → Q () { s with heap := h' }) :
    wpAny (model prog w) A (updateSeq T (·.setIfInBounds k x)) Q E s := by
  refine wpAny_updateSeq hT rfl (h _ ?_ (Heap.SameBut.update ..))
  rw [Heap.get?_update_self _ hT rfl]
  simp [Obj.mapSeq]
variable {z TI TO i1 i2 i3 l1 l2 l3 : Addr} {k1 k2 k3 : Nat} {xs ys zs : Array Value} {x y u a b c : Value}
theorem next_item {Q : Value → Shared → Prop} (D : Apart z TI TO i1 i2 i3 l1 l2 l3)
    (hz : IsZip s.heap z TI TO .none) (hTI : Is3 s.heap TI (.ref i1) (.ref i2) (.ref i3)) (hTO : Is3 s.heap TO a b c)
    (h1 : s.heap.IsListIter i1 l1 k1) (h2 : s.heap.IsListIter i2 l2 k2) (h3 : s.heap.IsListIter i3 l3 k3) (hl1 : s.heap.IsList l1 xs) (hl2 : s.heap.IsList l2 ys) (hl3 : s.heap.IsList l3 zs) (hx : xs[k1]? = some x) (hy : ys[k2]? = some y) (hu : zs[k3]? = some u)
    (hQ : ∀ h', IsZip h' z TI TO (rawInt s.heap.objs.size) → Is3 h' TO x y u → h'.IsListIter i1 l1 (k1 + 1) → h'.IsListIter i2 l2 (k2 + 1) → h'.IsListIter i3 l3 (k3 + 1) → Is3 h' s.heap.objs.size x y u → h'.objs.size = s.heap.objs.size + 1 →
      Kept z TO i1 i2 i3 s.heap h' → Q (.ref s.heap.objs.size) { s with heap := h' }) :
    wpAny (model prog w) A (Builtin.«zip.__next__» ⟨[.ref z], []⟩) (fun fin s' => ∃ v, fin = .done (.ret v) ∧ Q v s') E s := by
  show wpAny _ _ (field (.ref z) 2 >>= _) _ _ _
  refine wpAny_bind (wpAny_field hz rfl (x := .bool false) rfl ?_)
  show wpAny _ _ (field (.ref z) 3 >>= _) _ _ _
  refine wpAny_bind (wpAny_field hz rfl (x := .ref TI) rfl ?_)
  refine wpAny_bind (wpAny_seqItems hTI rfl ?_)
  show wpAny _ _ (Builtin.SmallTypes.ownedTupleIsFree (.ref z) >>= _) _ _ _
  refine wpAny_bind ?_
  unfold Builtin.SmallTypes.ownedTupleIsFree
  refine wpAny_bind (wpAny_field hz rfl (x := .none) rfl (wpAny_pure ?_))
  simp only [if_true]
  refine wpAny_bind (wpAny_rule ?_)
  refine wpAny_bind (wpAny_field hz rfl (x := .ref TO) rfl ?_)
  refine wpAny_bind (wpAny_setField_rec hz (by simp) fun hA zA sA => ?_)
  replace zA : IsZip hA z TI TO .ellipsis := zA
  refine wpAny_bind ?_
  simp only [List.zipIdx_cons, List.zipIdx_nil, List.forIn_cons, List.forIn_nil]
  -- the first
  refine wpAny_bind (wpAny_bind (wpAny_onRaise ?_))
  show wpAny _ _ (Builtin.SmallTypes.nextOf (.ref i1) >>= _) _ _ _
  refine wpAny_bind (wpAny_nextOf_list_item (h1.extBut sA.extBut D.i1z) (hl1.extBut sA.extBut D.m1.1) hx fun hB g1 sB => wpAny_pure ?_)
  have tB : Is3 hB TO a b c := sB.extBut _ _ D.TOi1 (sA.extBut _ _ D.TOz hTO)
  have zB : IsZip hB z TI TO .ellipsis := sB.extBut _ _ D.i1z.symm zA
  have kB : Kept z TO i1 i2 i3 s.heap hB := fun d o d1 d2 d3 d4 d5 e => sB.extBut _ _ d3 (sA.extBut _ _ d1 e)
  have jB2 : hB.IsListIter i2 l2 k2 := (h2.extBut sA.extBut D.i2z).extBut sB.extBut D.i12.symm
  have jB3 : hB.IsListIter i3 l3 k3 := (h3.extBut sA.extBut D.i3z).extBut sB.extBut D.i13.symm
  have nB : hB.objs.size = s.heap.objs.size := by rw [sB.1, sA.1]
  refine wpAny_bind (wpAny_seqItems tB rfl ?_)
  refine wpAny_bind (upd3 tB fun hC tC sC => ?_)
  replace tC : Is3 hC TO x b c := tC
  refine wpAny_bind (wpAny_letGo (wpAny_pure ?_))
  -- the second
  refine wpAny_bind (wpAny_bind (wpAny_onRaise ?_))
  show wpAny _ _ (Builtin.SmallTypes.nextOf (.ref i2) >>= _) _ _ _
  have kC : Kept z TO i1 i2 i3 s.heap hC := fun d o d1 d2 d3 d4 d5 e => sC.extBut _ _ d2 (kB d o d1 d2 d3 d4 d5 e)
  have q2 : hC.IsList l2 ys := hl2.at fun o e => kC _ o D.m2.1 D.m2.2.1 D.m2.2.2.1 D.m2.2.2.2.1 D.m2.2.2.2.2 e
  refine wpAny_bind (wpAny_nextOf_list_item (jB2.extBut sC.extBut D.TOi2.symm) q2 hy fun hD g2 sD => wpAny_pure ?_)
  have tD : Is3 hD TO x b c := sD.extBut _ _ D.TOi2 tC
  have zD : IsZip hD z TI TO .ellipsis := sD.extBut _ _ D.i2z.symm (sC.extBut _ _ D.TOz.symm zB)
  have kD : Kept z TO i1 i2 i3 s.heap hD := fun d o d1 d2 d3 d4 d5 e => sD.extBut _ _ d4 (kC d o d1 d2 d3 d4 d5 e)
  have jD1 : hD.IsListIter i1 l1 (k1 + 1) := (g1.extBut sC.extBut D.TOi1.symm).extBut sD.extBut D.i12
  have jD3 : hD.IsListIter i3 l3 k3 := (jB3.extBut sC.extBut D.TOi3.symm).extBut sD.extBut D.i23.symm
  have nD : hD.objs.size = s.heap.objs.size := by rw [sD.1, sC.1, nB]
  refine wpAny_bind (wpAny_seqItems tD rfl ?_)
  refine wpAny_bind (upd3 tD fun hF tF sF => ?_)
  replace tF : Is3 hF TO x y c := tF
  refine wpAny_bind (wpAny_letGo (wpAny_pure ?_))
  -- the third
  refine wpAny_bind (wpAny_bind (wpAny_onRaise ?_))
  show wpAny _ _ (Builtin.SmallTypes.nextOf (.ref i3) >>= _) _ _ _
  have kF : Kept z TO i1 i2 i3 s.heap hF := fun d o d1 d2 d3 d4 d5 e => sF.extBut _ _ d2 (kD d o d1 d2 d3 d4 d5 e)
  have q3 : hF.IsList l3 zs := hl3.at fun o e => kF _ o D.m3.1 D.m3.2.1 D.m3.2.2.1 D.m3.2.2.2.1 D.m3.2.2.2.2 e
  refine wpAny_bind (wpAny_nextOf_list_item (jD3.extBut sF.extBut D.TOi3.symm) q3 hu fun hG g3 sG => wpAny_pure ?_)
  have tG : Is3 hG TO x y c := sG.extBut _ _ D.TOi3 tF
  have zG : IsZip hG z TI TO .ellipsis := sG.extBut _ _ D.i3z.symm (sF.extBut _ _ D.TOz.symm zD)
  have kG : Kept z TO i1 i2 i3 s.heap hG := fun d o d1 d2 d3 d4 d5 e => sG.extBut _ _ d5 (kF d o d1 d2 d3 d4 d5 e)
  have jG1 : hG.IsListIter i1 l1 (k1 + 1) := (jD1.extBut sF.extBut D.TOi1.symm).extBut sG.extBut D.i13
  have jG2 : hG.IsListIter i2 l2 (k2 + 1) := (g2.extBut sF.extBut D.TOi2.symm).extBut sG.extBut D.i23
  have nG : hG.objs.size = s.heap.objs.size := by rw [sG.1, sF.1, nD]
  refine wpAny_bind (wpAny_seqItems tG rfl ?_)
  refine wpAny_bind (upd3 tG fun hM tM sM => ?_)
  replace tM : Is3 hM TO x y u := tM
  refine wpAny_bind (wpAny_letGo (wpAny_pure (wpAny_pure ?_)))
  refine wpAny_bind (wpAny_seqItems tM rfl ?_)
  refine wpAny_bind (wpAny_newTuple ?_)
  have zM : IsZip hM z TI TO .ellipsis := sM.extBut _ _ D.TOz.symm zG
  have kM : Kept z TO i1 i2 i3 s.heap hM := fun d o d1 d2 d3 d4 d5 e => sM.extBut _ _ d2 (kG d o d1 d2 d3 d4 d5 e)
  have jM1 : hM.IsListIter i1 l1 (k1 + 1) := jG1.extBut sM.extBut D.TOi1.symm
  have jM2 : hM.IsListIter i2 l2 (k2 + 1) := jG2.extBut sM.extBut D.TOi2.symm
  have jM3 : hM.IsListIter i3 l3 (k3 + 1) := g3.extBut sM.extBut D.TOi3.symm
  have nM : hM.objs.size = s.heap.objs.size := by rw [sM.1, nG]
  have zlt : z < hM.objs.size := Heap.lt_size zM
  show wpAny _ _ (Builtin.SmallTypes.ownedTupleHandOut (.ref z) (.ref hM.objs.size) >>= _) _ _ _
  refine wpAny_bind ?_
  unfold Builtin.SmallTypes.ownedTupleHandOut
  have zN : IsZip (hM.push { cls := .type "tuple", data := .seq #[x, y, u] }) z TI TO .ellipsis := Heap.get?_push_of_some _ zM
  refine wpAny_bind (wpAny_setField_rec zN (by simp) fun hR zR sR => ?_)
  replace zR : IsZip hR z TI TO (rawInt hM.objs.size) := zR
  refine wpAny_setField_rec zR (by simp) fun hS zS sS => ?_
  replace zS : IsZip hS z TI TO (rawInt hM.objs.size) := zS
  have up : ∀ d o, d ≠ z → hM.get? d = some o → hS.get? d = some o := fun d o d1 e => sS.extBut _ _ d1 (sR.extBut _ _ d1 (Heap.get?_push_of_some _ e))
  have tS : Is3 hS hM.objs.size x y u := sS.extBut _ _ (Nat.ne_of_gt zlt) (sR.extBut _ _ (Nat.ne_of_gt zlt) (Heap.get?_push_size _ rfl))
  have nS : hS.objs.size = hM.objs.size + 1 := by rw [sS.1, sR.1, Heap.size_push]
  rw [nM] at zS tS nS
  refine wpAny_pure ⟨_, rfl, ?_⟩
  show Q (.ref hM.objs.size) _
  rw [nM]
  exact hQ hS zS (up _ _ D.TOz tM) (jM1.at fun o e => up _ o D.i1z e) (jM2.at fun o e => up _ o D.i2z e) (jM3.at fun o e => up _ o D.i3z e) tS nS fun d o d1 d2 d3 d4 d5 e => up d o d1 (kM d o d1 d2 d3 d4 d5 e)
theorem next_end {Q : Fin → Shared → Prop} (hh : A.handled = none) (D : Apart z TI TO i1 i2 i3 l1 l2 l3)
    (hz : IsZip s.heap z TI TO .none) (hTI : Is3 s.heap TI (.ref i1) (.ref i2) (.ref i3)) (hTO : Is3 s.heap TO a b c)
    (h1 : s.heap.IsListIter i1 l1 k1) (h2 : s.heap.IsListIter i2 l2 k2) (h3 : s.heap.IsListIter i3 l3 k3) (hl1 : s.heap.IsList l1 xs) (hl2 : s.heap.IsList l2 ys) (hl3 : s.heap.IsList l3 zs)
    (hend : xs[k1]? = none ∨ ys[k2]? = none ∨ zs[k3]? = none)
    (hE : ∀ h' e, Kept z TO i1 i2 i3 s.heap h' → (∃ o, h'.get? e = some o ∧ o.cls = .type "StopIteration") → E (.ref e) { s with heap := h' }) :
    wpAny (model prog w) A (Builtin.«zip.__next__» ⟨[.ref z], []⟩) Q E s := by
  show wpAny _ _ (field (.ref z) 2 >>= _) _ _ _
  refine wpAny_bind (wpAny_field hz rfl (x := .bool false) rfl ?_)
  show wpAny _ _ (field (.ref z) 3 >>= _) _ _ _
  refine wpAny_bind (wpAny_field hz rfl (x := .ref TI) rfl ?_)
  refine wpAny_bind (wpAny_seqItems hTI rfl ?_)
  show wpAny _ _ (Builtin.SmallTypes.ownedTupleIsFree (.ref z) >>= _) _ _ _
  refine wpAny_bind ?_
  unfold Builtin.SmallTypes.ownedTupleIsFree
  refine wpAny_bind (wpAny_field hz rfl (x := .none) rfl (wpAny_pure ?_))
  simp only [if_true]
  refine wpAny_bind (wpAny_rule ?_)
  refine wpAny_bind (wpAny_field hz rfl (x := .ref TO) rfl ?_)
  refine wpAny_bind (wpAny_setField_rec hz (by simp) fun hA zA sA => ?_)
  replace zA : IsZip hA z TI TO .ellipsis := zA
  refine wpAny_bind ?_
  simp only [List.zipIdx_cons, List.zipIdx_nil, List.forIn_cons, List.forIn_nil]
  have out : ∀ (h h2 : Heap) (e : Addr), IsZip h z TI TO .ellipsis → Kept z TO i1 i2 i3 s.heap h → (∃ o, h.get? e = some o ∧ o.cls = .type "StopIteration") → Heap.SameBut z h h2 → E (.ref e) { s with heap := h2 } := fun h h2 e hzz hk he hs => by
    obtain ⟨o, ho, hc⟩ := he
    have hez : e ≠ z := fun x => by
      subst x
      rw [hzz] at ho
      cases ho
      simp at hc
    exact hE h2 e (fun d o d1 d2 d3 d4 d5 x => hs.extBut _ _ d1 (hk d o d1 d2 d3 d4 d5 x)) ⟨o, hs.extBut _ _ hez ho, hc⟩
  refine wpAny_bind (wpAny_bind (wpAny_onRaise ?_))
  show wpAny _ _ (Builtin.SmallTypes.nextOf (.ref i1) >>= _) _ _ _
  cases hx : xs[k1]? with
  | none =>
    refine wpAny_bind (wpAny_nextOf_list_end hh (h1.extBut sA.extBut D.i1z) (hl1.extBut sA.extBut D.m1.1) hx fun hB e sB he => ?_)
    have zB : IsZip hB z TI TO .ellipsis := sB _ _ D.i1z.symm zA
    exact wpAny_setField_rec zB (by simp) fun hC _ sC => out hB hC e zB (fun d o d1 d2 d3 d4 d5 x => sB _ _ d3 (sA.extBut _ _ d1 x)) he sC
  | some x =>
    refine wpAny_bind (wpAny_nextOf_list_item (h1.extBut sA.extBut D.i1z) (hl1.extBut sA.extBut D.m1.1) hx fun hB g1 sB => wpAny_pure ?_)
    have tB : Is3 hB TO a b c := sB.extBut _ _ D.TOi1 (sA.extBut _ _ D.TOz hTO)
    have zB : IsZip hB z TI TO .ellipsis := sB.extBut _ _ D.i1z.symm zA
    have kB : Kept z TO i1 i2 i3 s.heap hB := fun d o d1 d2 d3 d4 d5 e => sB.extBut _ _ d3 (sA.extBut _ _ d1 e)
    have jB2 : hB.IsListIter i2 l2 k2 := (h2.extBut sA.extBut D.i2z).extBut sB.extBut D.i12.symm
    have jB3 : hB.IsListIter i3 l3 k3 := (h3.extBut sA.extBut D.i3z).extBut sB.extBut D.i13.symm
    refine wpAny_bind (wpAny_seqItems tB rfl ?_)
    refine wpAny_bind (upd3 tB fun hC tC sC => ?_)
    replace tC : Is3 hC TO x b c := tC
    refine wpAny_bind (wpAny_letGo (wpAny_pure ?_))
    refine wpAny_bind (wpAny_bind (wpAny_onRaise ?_))
    show wpAny _ _ (Builtin.SmallTypes.nextOf (.ref i2) >>= _) _ _ _
    have kC : Kept z TO i1 i2 i3 s.heap hC := fun d o d1 d2 d3 d4 d5 e => sC.extBut _ _ d2 (kB d o d1 d2 d3 d4 d5 e)
    have zC : IsZip hC z TI TO .ellipsis := sC.extBut _ _ D.TOz.symm zB
    have q2 : hC.IsList l2 ys := hl2.at fun o e => kC _ o D.m2.1 D.m2.2.1 D.m2.2.2.1 D.m2.2.2.2.1 D.m2.2.2.2.2 e
    cases hy : ys[k2]? with
    | none =>
      refine wpAny_bind (wpAny_nextOf_list_end hh (jB2.extBut sC.extBut D.TOi2.symm) q2 hy fun hD e sD he => ?_)
      have zD : IsZip hD z TI TO .ellipsis := sD _ _ D.i2z.symm zC
      exact wpAny_setField_rec zD (by simp) fun hF _ sF => out hD hF e zD (fun d o d1 d2 d3 d4 d5 x => sD _ _ d4 (kC d o d1 d2 d3 d4 d5 x)) he sF
    | some y =>
      have hu : zs[k3]? = none := by
        rcases hend with h | h | h
        · rw [hx] at h; cases h
        · rw [hy] at h; cases h
        · exact h
      refine wpAny_bind (wpAny_nextOf_list_item (jB2.extBut sC.extBut D.TOi2.symm) q2 hy fun hD g2 sD => wpAny_pure ?_)
      have tD : Is3 hD TO x b c := sD.extBut _ _ D.TOi2 tC
      have zD : IsZip hD z TI TO .ellipsis := sD.extBut _ _ D.i2z.symm zC
      have kD : Kept z TO i1 i2 i3 s.heap hD := fun d o d1 d2 d3 d4 d5 e => sD.extBut _ _ d4 (kC d o d1 d2 d3 d4 d5 e)
      have jD3 : hD.IsListIter i3 l3 k3 := (jB3.extBut sC.extBut D.TOi3.symm).extBut sD.extBut D.i23.symm
      refine wpAny_bind (wpAny_seqItems tD rfl ?_)
      refine wpAny_bind (upd3 tD fun hF tF sF => ?_)
      refine wpAny_bind (wpAny_letGo (wpAny_pure ?_))
      refine wpAny_bind (wpAny_bind (wpAny_onRaise ?_))
      show wpAny _ _ (Builtin.SmallTypes.nextOf (.ref i3) >>= _) _ _ _
      have kF : Kept z TO i1 i2 i3 s.heap hF := fun d o d1 d2 d3 d4 d5 e => sF.extBut _ _ d2 (kD d o d1 d2 d3 d4 d5 e)
      have zF : IsZip hF z TI TO .ellipsis := sF.extBut _ _ D.TOz.symm zD
      have q3 : hF.IsList l3 zs := hl3.at fun o e => kF _ o D.m3.1 D.m3.2.1 D.m3.2.2.1 D.m3.2.2.2.1 D.m3.2.2.2.2 e
      refine wpAny_bind (wpAny_nextOf_list_end hh (jD3.extBut sF.extBut D.TOi3.symm) q3 hu fun hG e sG he => ?_)
      have zG : IsZip hG z TI TO .ellipsis := sG _ _ D.i3z.symm zF
      exact wpAny_setField_rec zG (by simp) fun hM _ sM => out hG hM e zG (fun d o d1 d2 d3 d4 d5 x => sG _ _ d5 (kF d o d1 d2 d3 d4 d5 x)) he sM
theorem pyNext_item {Q : Option Value → Shared → Prop} (D : Apart z TI TO i1 i2 i3 l1 l2 l3)
    (hz : IsZip s.heap z TI TO .none) (hTI : Is3 s.heap TI (.ref i1) (.ref i2) (.ref i3)) (hTO : Is3 s.heap TO a b c)
    (h1 : s.heap.IsListIter i1 l1 k1) (h2 : s.heap.IsListIter i2 l2 k2) (h3 : s.heap.IsListIter i3 l3 k3) (hl1 : s.heap.IsList l1 xs) (hl2 : s.heap.IsList l2 ys) (hl3 : s.heap.IsList l3 zs) (hx : xs[k1]? = some x) (hy : ys[k2]? = some y) (hu : zs[k3]? = some u)
    (hQ : ∀ h', IsZip h' z TI TO (rawInt s.heap.objs.size) → Is3 h' TO x y u → h'.IsListIter i1 l1 (k1 + 1) → h'.IsListIter i2 l2 (k2 + 1) → h'.IsListIter i3 l3 (k3 + 1) → Is3 h' s.heap.objs.size x y u → h'.objs.size = s.heap.objs.size + 1 →
      Kept z TO i1 i2 i3 s.heap h' → Q (some (.ref s.heap.objs.size)) { s with heap := h' }) :
    wpAny (model prog w) A (pyNext (.ref z)) Q E s := by
  have hT : s.TypeIs (.ref z) "zip" := ⟨_, hz, rfl⟩
  unfold pyNext
  exact wpAny_bind (wpAny_attempt (wpAny_callSpecial?_slot (name := Str.ofString "__next__") hT F.slot_zip_next
    (wpAny_call_entry F.slot_zip_next hT F.entry_zip_next
      (next_item D hz hTI hTO h1 h2 h3 hl1 hl2 hl3 hx hy hu fun h' a1 a2 a3 a4 a5 a6 a7 a8 => wpAny_pure (hQ h' a1 a2 a3 a4 a5 a6 a7 a8)) (F.args_zip_next_1 _))))
theorem pyNext_end {Q : Option Value → Shared → Prop} (hh : A.handled = none) (D : Apart z TI TO i1 i2 i3 l1 l2 l3)
    (hz : IsZip s.heap z TI TO .none) (hTI : Is3 s.heap TI (.ref i1) (.ref i2) (.ref i3)) (hTO : Is3 s.heap TO a b c)
    (h1 : s.heap.IsListIter i1 l1 k1) (h2 : s.heap.IsListIter i2 l2 k2) (h3 : s.heap.IsListIter i3 l3 k3) (hl1 : s.heap.IsList l1 xs) (hl2 : s.heap.IsList l2 ys) (hl3 : s.heap.IsList l3 zs)
    (hend : xs[k1]? = none ∨ ys[k2]? = none ∨ zs[k3]? = none) (hQ : ∀ h', Kept z TO i1 i2 i3 s.heap h' → Q none { s with heap := h' }) : wpAny (model prog w) A (pyNext (.ref z)) Q E s := by
  have hT : s.TypeIs (.ref z) "zip" := ⟨_, hz, rfl⟩
  unfold pyNext
  refine wpAny_bind (wpAny_attempt (wpAny_callSpecial?_slot (name := Str.ofString "__next__") hT F.slot_zip_next
    (wpAny_call_entry F.slot_zip_next hT F.entry_zip_next (next_end hh D hz hTI hTO h1 h2 h3 hl1 hl2 hl3 hend fun h' e hk he => ?_) (F.args_zip_next_1 _))))
  obtain ⟨o, ho, hc⟩ := he
  refine wpAny_bind (wpAny_isInstance (T := "StopIteration") (b := true) ⟨o, ho, hc⟩ isSubtype_stop ?_)
  exact wpAny_pure (hQ _ hk)
end
/-! ### the call -/
abbrev it0 (l : Addr) : Obj := { cls := .type "list_iterator", data := .fields #[.ref l, .int 0 0] }
abbrev z1 (h : Heap) (l1 : Addr) : Heap := h.push (it0 l1)
abbrev z2 (h : Heap) (l1 l2 : Addr) : Heap := (z1 h l1).push (it0 l2)
abbrev z3 (h : Heap) (l1 l2 l3 : Addr) : Heap := (z2 h l1 l2).push (it0 l3)
abbrev z4 (h : Heap) (l1 l2 l3 : Addr) : Heap := (z3 h l1 l2 l3).push { cls := .type "tuple", data := .seq #[.ref h.objs.size, .ref (z1 h l1).objs.size, .ref (z2 h l1 l2).objs.size] }
abbrev z5 (h : Heap) (l1 l2 l3 : Addr) : Heap := (z4 h l1 l2 l3).push { cls := .type "tuple", data := .seq #[.none, .none, .none] }
abbrev z6 (h : Heap) (l1 l2 l3 : Addr) : Heap := (z5 h l1 l2 l3).push { cls := .type "zip", data := .fields #[.none, .bool false, .bool false, .ref (z3 h l1 l2 l3).objs.size, .ref (z4 h l1 l2 l3).objs.size] }
theorem meets3 (l1 l2 l3 : Addr) (xs ys zs : Array Value) :
    Meets (Builtin.«zip.__new__» ⟨[.type "zip", .ref l1, .ref l2, .ref l3], []⟩) (fun _ R s => s.heap.IsList l1 xs ∧ s.heap.IsList l2 ys ∧ s.heap.IsList l3 zs ∧
      R (.ok (.ret (.ref (z5 s.heap l1 l2 l3).objs.size))) { s with heap := z6 s.heap l1 l2 l3 }) :=
  .of_wp fun prog w A R s h => by
    obtain ⟨hp, g, d, tk, os⟩ := s
    obtain ⟨hl1, hl2, hl3, h⟩ := h
    have hsub := sub_zip
    have hL1 : Heap.IsList (Shared.heap ⟨hp, g, d, tk, os⟩) l1 xs := hl1
    have hL2 : Heap.IsList (Shared.heap ⟨z1 hp l1, g, d, tk, os⟩) l2 ys := Heap.IsList.push hl2 _
    have hL3 : Heap.IsList (Shared.heap ⟨z2 hp l1 l2, g, d, tk, os⟩) l3 zs := Heap.IsList.push (Heap.IsList.push hl3 _) _
    wp_walk using wpAny_pyIter_list hL1, wpAny_pyIter_list hL2, wpAny_pyIter_list hL3
    exact ⟨_, rfl, h⟩
section
variable {prog : Program} {w : World} {A : Around} {E : Value → Shared → Prop} {s : Shared}
theorem call3 {l1 l2 l3 : Addr} {xs ys zs : Array Value} {Q : Value → Shared → Prop} (hl1 : s.heap.IsList l1 xs) (hl2 : s.heap.IsList l2 ys) (hl3 : s.heap.IsList l3 zs)
    (h : ∀ h', IsZip h' (s.heap.objs.size + 5) (s.heap.objs.size + 3) (s.heap.objs.size + 4) .none → Is3 h' (s.heap.objs.size + 3) (.ref s.heap.objs.size) (.ref (s.heap.objs.size + 1)) (.ref (s.heap.objs.size + 2)) →
      Is3 h' (s.heap.objs.size + 4) .none .none .none → h'.IsListIter s.heap.objs.size l1 0 → h'.IsListIter (s.heap.objs.size + 1) l2 0 → h'.IsListIter (s.heap.objs.size + 2) l3 0 →
      (∀ c o, s.heap.get? c = some o → h'.get? c = some o) → Q (.ref (s.heap.objs.size + 5)) { s with heap := h' }) :
    wpAny (model prog w) A (call (.type "zip") [.ref l1, .ref l2, .ref l3]) Q E s := by
  refine callType_new F.called_zip (by decide) (typeCall3 _ _ _) (newCall3 _ _ _) (fun obj => initArgs4 obj _ _ _) F.entry_zip_new
    (meets3 l1 l2 l3 xs ys zs) ⟨hl1, hl2, hl3, ?_⟩
  have n1 : (z1 s.heap l1).objs.size = s.heap.objs.size + 1 := Heap.size_push ..
  have n2 : (z2 s.heap l1 l2).objs.size = s.heap.objs.size + 2 := by rw [Heap.size_push, n1]
  have n3 : (z3 s.heap l1 l2 l3).objs.size = s.heap.objs.size + 3 := by rw [Heap.size_push, n2]
  have n4 : (z4 s.heap l1 l2 l3).objs.size = s.heap.objs.size + 4 := by rw [Heap.size_push, n3]
  have n5 : (z5 s.heap l1 l2 l3).objs.size = s.heap.objs.size + 5 := by rw [Heap.size_push, n4]
  have p1 : ∀ {h : Heap} {o : Obj} {d : Addr} {v : Obj}, h.get? d = some v → (h.push o).get? d = some v := fun e => Heap.get?_push_of_some _ e
  have g6 : (z6 s.heap l1 l2 l3).get? (z5 s.heap l1 l2 l3).objs.size = some _ := Heap.get?_push_size _ rfl
  have g5 : (z6 s.heap l1 l2 l3).get? (z4 s.heap l1 l2 l3).objs.size = some _ := p1 (Heap.get?_push_size _ rfl)
  have g4 : (z6 s.heap l1 l2 l3).get? (z3 s.heap l1 l2 l3).objs.size = some _ := p1 (p1 (Heap.get?_push_size _ rfl))
  have g3 : (z6 s.heap l1 l2 l3).get? (z2 s.heap l1 l2).objs.size = some _ := p1 (p1 (p1 (Heap.get?_push_size _ rfl)))
  have g2 : (z6 s.heap l1 l2 l3).get? (z1 s.heap l1).objs.size = some _ := p1 (p1 (p1 (p1 (Heap.get?_push_size _ rfl))))
  have g1 : (z6 s.heap l1 l2 l3).get? s.heap.objs.size = some _ := p1 (p1 (p1 (p1 (p1 (Heap.get?_push_size _ rfl)))))
  show _ ∧ _
  rw [n3, n4, n5] at g6
  rw [n1, n2, n3] at g4
  rw [n4] at g5
  rw [n1] at g2
  rw [n2] at g3
  rw [n5]
  exact ⟨⟨_, g6, rfl⟩, h _ g6 g4 g5 ⟨_, g1, rfl, rfl⟩ ⟨_, g2, rfl, rfl⟩ ⟨_, g3, rfl, rfl⟩ fun c o x => p1 (p1 (p1 (p1 (p1 (p1 x)))))⟩
end
/-! ### the loop -/
def It3 (K : PySem.W.Frag) (a b c : Addr) : It :=
  ⟨fun i H => ∃ (xs ys zs : List V) (x y z : V), SqL K H a xs ∧ SqL K H b ys ∧ SqL K H c zs ∧ xs[i]? = some x ∧ ys[i]? = some y ∧ zs[i]? = some z,
    fun i H v H' => ∃ T x y z, v = .ref T ∧ H T = none ∧ H' = upd H T (.tup [x, y, z]) ∧ (∀ xs, SqL K H a xs → xs[i]? = some x) ∧ (∀ ys, SqL K H b ys → ys[i]? = some y) ∧ ∀ zs, SqL K H c zs → zs[i]? = some z,
    fun i H => ∃ xs ys zs : List V, SqL K H a xs ∧ SqL K H b ys ∧ SqL K H c zs ∧ (xs.length ≤ i ∨ ys.length ≤ i ∨ zs.length ≤ i)⟩
theorem turn3 {P : Program} {w : World} {K : PySem.W.Frag} {elts : List Expr} {kk : Nat} {tpos : Pos} {a b c z TI TO i1 i2 i3 : Addr} (D : Apart z TI TO i1 i2 i3 a b c) :
    Turn P w K (.Tuple elts kk tpos) (It3 K a b c) [z, TI, TO, i1, i2, i3] z (fun i h => IsZip h z TI TO .none ∧ Is3 h TI (.ref i1) (.ref i2) (.ref i3) ∧ (∃ x y u, Is3 h TO x y u) ∧ h.IsListIter i1 a i ∧ h.IsListIter i2 b i ∧ h.IsListIter i3 c i) where
  mem := by simp
  obj := fun i h st d hd => by
    obtain ⟨hz, hTI, ⟨x, y, u, hTO⟩, ⟨o1, e1, _, d1⟩, ⟨o2, e2, _, d2⟩, ⟨o3, e3, _, d3⟩⟩ := st
    have e' : d = z ∨ d = TI ∨ d = TO ∨ d = i1 ∨ d = i2 ∨ d = i3 := by simpa using hd
    rcases e' with q | q | q | q | q | q
    · rw [q]; exact ⟨_, hz, fun v q => nomatch q⟩
    · rw [q]; exact ⟨_, hTI, fun v q => nomatch q⟩
    · rw [q]; exact ⟨_, hTO, fun v q => nomatch q⟩
    · rw [q]; exact ⟨o1, e1, fun v q => by rw [d1] at q; cases q⟩
    · rw [q]; exact ⟨o2, e2, fun v q => by rw [d2] at q; cases q⟩
    · rw [q]; exact ⟨o3, e3, fun v q => by rw [d3] at q; cases q⟩
  keep := fun i h h' st k => by
    obtain ⟨hz, hTI, ⟨x, y, u, hTO⟩, h1, h2, h3⟩ := st
    exact ⟨k z (by simp) _ hz, k TI (by simp) _ hTI, ⟨x, y, u, k TO (by simp) _ hTO⟩, h1.at fun o q => k i1 (by simp) o q, h2.at fun o q => k i2 (by simp) o q, h3.at fun o q => k i3 (by simp) o q⟩
  item := by
    intro X hP hw hK hc i pins s σ H E I hf st hg
    subst hP hw hK
    obtain ⟨hz, hTI, ⟨x0, y0, u0, hTO⟩, h1, h2, h3⟩ := st
    obtain ⟨xs, ys, zs, x, y, u, hqx, hqy, hqz, hx, hy, hu⟩ := hg
    obtain ⟨its, rv, p, _⟩ := I.list hqx
    obtain ⟨its2, rv2, p2, _⟩ := I.list hqy
    obtain ⟨its3, rv3, p3, _⟩ := I.list hqz
    obtain ⟨v1, e1, r1⟩ := rv.get hx
    obtain ⟨v2, e2, r2⟩ := rv2.get hy
    obtain ⟨v3, e3, r3⟩ := rv3.get hu
    have hzl : z < s.heap.objs.size := Heap.lt_size hz
    refine pyNext_item D hz hTI hTO h1 h2 h3 p.isList p2.isList p3.isList (x := v1) (y := v2) (u := v3) (by simpa using e1) (by simpa using e2) (by simpa using e3) fun h' z' TO' h1' h2' h3' hT hsz hk => ?_
    refine ⟨_, rfl, wpAny_letOwnedTupleGo_zip (s := { s with heap := h' }) z' fun h'' z'' sb => ?_⟩
    have hT2 : h''.get? s.heap.objs.size = some { cls := .type "tuple", data := .seq #[v1, v2, v3] } := (sb.2 _ (Nat.ne_of_gt hzl)).trans hT
    have new : ObjOk X.prog X.w (upd H s.heap.objs.size (.tup [x, y, u])) h'' s.heap.objs.size (.tup [x, y, u]) :=
      ⟨by show 3 ≤ sizeLine; decide, [v1, v2, v3], .cons r1 (.cons r2 (.cons r3 .nil)), ⟨_, hT2, rfl, _, rfl⟩⟩
    have I1 : Inv X pins σ (upd H s.heap.objs.size (.tup [x, y, u])) { s with heap := h'' } :=
      I.turnedNew (t' := s.toks) (ch := [z, TI, TO, i1, i2, i3]) (fun d o hb q => (sb.2 d (fun q' => hb (by simp [q']))).trans (hk d o (fun q' => hb (by simp [q'])) (fun q' => hb (by simp [q'])) (fun q' => hb (by simp [q'])) (fun q' => hb (by simp [q'])) (fun q' => hb (by simp [q'])) q)) hf (Nat.le_refl _) new
    refine ⟨.ref s.heap.objs.size, _, I1, rfl, ⟨_, x, y, u, rfl, I.hok.fresh (Nat.le_refl _), rfl, fun l hl => by rw [I.list_inj hl hqx]; exact hx, fun l hl => by rw [I.list_inj hl hqy]; exact hy, fun l hl => by rw [I.list_inj hl hqz]; exact hu⟩, ⟨z'', ?_, ⟨v1, v2, v3, ?_⟩, ?_, ?_, ?_⟩, fun d hdm => ?_⟩
    · exact (sb.2 _ D.TIz).trans (hk _ _ D.TIz D.TITO D.TIi1 D.TIi2 D.TIi3 hTI)
    · exact (sb.2 _ D.TOz).trans TO'
    · exact h1'.at fun o q => (sb.2 _ D.i1z).trans q
    · exact h2'.at fun o q => (sb.2 _ D.i2z).trans q
    · exact h3'.at fun o q => (sb.2 _ D.i3z).trans q
    · have hlt : d < s.heap.objs.size := by
        have e' : d = z ∨ d = TI ∨ d = TO ∨ d = i1 ∨ d = i2 ∨ d = i3 := by simpa using hdm
        rcases e' with q | q | q | q | q | q
        · rw [q]; exact hzl
        · rw [q]; exact Heap.lt_size hTI
        · rw [q]; exact Heap.lt_size hTO
        · rw [q]; obtain ⟨_, e1, _⟩ := h1; exact Heap.lt_size e1
        · rw [q]; obtain ⟨_, e2, _⟩ := h2; exact Heap.lt_size e2
        · rw [q]; obtain ⟨_, e3, _⟩ := h3; exact Heap.lt_size e3
      rw [upd_ne (Nat.ne_of_lt hlt)]
      exact (hf d hdm).1
  done := by
    intro X hP hw hK hc i pins s σ H E I hf st hg
    subst hP hw hK
    obtain ⟨hz, hTI, ⟨x0, y0, u0, hTO⟩, h1, h2, h3⟩ := st
    obtain ⟨xs, ys, zs, hqx, hqy, hqz, hend⟩ := hg
    obtain ⟨its, rv, p, _⟩ := I.list hqx
    obtain ⟨its2, rv2, p2, _⟩ := I.list hqy
    obtain ⟨its3, rv3, p3, _⟩ := I.list hqz
    have l1 := rv.length
    have l2 := rv2.length
    have l3 := rv3.length
    have he : its.toArray[i]? = none ∨ its2.toArray[i]? = none ∨ its3.toArray[i]? = none := by
      rcases hend with q | q | q
      · exact .inl (by simp; omega)
      · exact .inr (.inl (by simp; omega))
      · exact .inr (.inr (by simp; omega))
    exact pyNext_end (I.ok.hd hc) D hz hTI hTO h1 h2 h3 p.isList p2.isList p3.isList he fun h' hk => ⟨rfl, I.turnedL (t' := s.toks) (ch := [z, TI, TO, i1, i2, i3]) (fun d o hb q =>
      hk d o (fun q' => hb (by simp [q'])) (fun q' => hb (by simp [q'])) (fun q' => hb (by simp [q'])) (fun q' => hb (by simp [q'])) (fun q' => hb (by simp [q'])) q) hf⟩
  self := fun A i s Q E st h => wpAny_pyIter_zip st.1 h
theorem ne' {a b : Nat} (h : a < b ∨ b < a) : ¬(a = b) := by omega
theorem apart3 (n a b c : Nat) (la : a < n) (lb : b < n) (lc : c < n) : Apart (n + 5 : Nat) (n + 3 : Nat) (n + 4 : Nat) (n : Nat) (n + 1 : Nat) (n + 2 : Nat) (a : Nat) (b : Nat) (c : Nat) :=
  ⟨ne' (by omega), ne' (by omega), ne' (by omega), ne' (by omega), ne' (by omega), ne' (by omega), ne' (by omega), ne' (by omega), ne' (by omega), ne' (by omega), ne' (by omega), ne' (by omega), ne' (by omega), ne' (by omega), ne' (by omega),
    ⟨ne' (by omega), ne' (by omega), ne' (by omega), ne' (by omega), ne' (by omega)⟩, ⟨ne' (by omega), ne' (by omega), ne' (by omega), ne' (by omega), ne' (by omega)⟩, ⟨ne' (by omega), ne' (by omega), ne' (by omega), ne' (by omega), ne' (by omega)⟩⟩
def iZip3 (K : PySem.W.Frag) (ta : TA) : TI := fun σ H R => ta σ H fun vs H1 => ∃ a b c xs ys zs, vs = [.ref a, .ref b, .ref c] ∧ SqL K H1 a xs ∧ SqL K H1 b ys ∧ SqL K H1 c zs ∧ R (It3 K a b c) H1
theorem pi_zip3 {X : Cx} {e e2 e3 : Expr} {ta : TA} {p pos tpos : Pos} {elts : List Expr} {kk : Nat} (hg : Gl X "zip") (hm : X.mg "zip" = none) (ha : PA X [e, e2, e3] ta)
    (hs : starEach [e, e2, e3] X.env = (false, eval e X.env) :: starEach [e2, e3] X.env := by rfl) (hpl : (backTo pos (starEach [e2, e3] X.env)).any (·.1) = false := by rfl) :
    PI X (.Tuple elts kk tpos) (.Call (.Name "zip" p) [e, e2, e3] [] pos) (iZip3 X.K ta) := by
  refine ⟨fun pins s σ H R I h => ?_⟩
  refine Call_ (ld_blt I hg hm PyProof.Rows.boot_zip (PyProof.Rows.callWith_type1 (thn (ha.run pos pins s σ H _ I h) fun us s1 ⟨vs, H1, I1, r1, q1⟩ => ?_) hs hpl))
  obtain ⟨a, b, c, xs, ys, zs, ex, hqx, hqy, hqz, q⟩ := q1
  subst ex
  cases r1 with
  | cons r rr =>
    cases rr with
    | cons r' rr =>
      cases rr with
      | cons r'' rr =>
        cases rr
        cases r
        cases r'
        cases r''
        obtain ⟨its, rv, p1, _⟩ := I1.list hqx
        obtain ⟨its2, rv2, p2, _⟩ := I1.list hqy
        obtain ⟨its3, rv3, p3, _⟩ := I1.list hqz
        have la : a < s1.heap.objs.size := p1.lt
        have lb : b < s1.heap.objs.size := p2.lt
        have lc : c < s1.heap.objs.size := p3.lt
        refine call3 p1.isList p2.isList p3.isList fun h' hz hTI hTO h1 h2 h3 hk => wpAny_pyIter_zip hz ?_
        have I2 : Inv X pins σ H1 { s1 with heap := h' } := I1.kept (t' := s1.toks) hk
        have D := apart3 s1.heap.objs.size a b c la lb lc
        refine ⟨s1.heap.objs.size + 5, [s1.heap.objs.size + 5, s1.heap.objs.size + 3, s1.heap.objs.size + 4, s1.heap.objs.size, s1.heap.objs.size + 1, s1.heap.objs.size + 2], _, _, H1, rfl, I2, turn3 D, ⟨hz, hTI, ⟨_, _, _, hTO⟩, h1, h2, h3⟩, fun d hdm => ?_, q⟩
        have hle : s1.heap.objs.size ≤ d := by
          have e' : d = s1.heap.objs.size + 5 ∨ d = s1.heap.objs.size + 3 ∨ d = s1.heap.objs.size + 4 ∨ d = s1.heap.objs.size ∨ d = s1.heap.objs.size + 1 ∨ d = s1.heap.objs.size + 2 := by simpa using hdm
          rcases e' with z | z | z | z | z | z
          · rw [z]; exact Nat.le_add_right _ _
          · rw [z]; exact Nat.le_add_right _ _
          · rw [z]; exact Nat.le_add_right _ _
          · rw [z]; exact Nat.le_refl _
          · rw [z]; exact Nat.le_add_right _ _
          · rw [z]; exact Nat.le_add_right _ _
        exact I1.fpOk hle (I1.hok.fresh hle)
theorem FLzip3 {K : PySem.W.Frag} {a b c : Addr} {xs ys zs : List V} {g : TG} {tb : TS} {D : Ends} {σ : L2.St} {H : Hp} (Pv : Nat → L2.St → Hp → Prop) (h0 : Pv 0 σ H) (hl : ∀ i σ H, Pv i σ H → SqL K H a xs ∧ SqL K H b ys ∧ SqL K H c zs)
    (hs : ∀ i x y z σ H T, xs[i]? = some x → ys[i]? = some y → zs[i]? = some z → Pv i σ H → H T = none → g (.ref T) σ (upd H T (.tup [x, y, z])) fun σ2 H2 => tb { D with nx := Pv (i + 1), ct := Pv (i + 1), bk := D.nx } σ2 H2)
    (hd : ∀ σ H, Pv (min xs.length (min ys.length zs.length)) σ H → D.nx σ H) : UbR.FL (It3 K a b c) g tb D σ H := by
  refine ⟨fun i m σ H => m = min xs.length (min ys.length zs.length) - i ∧ i ≤ min xs.length (min ys.length zs.length) ∧ Pv i σ H, ⟨_, rfl, Nat.zero_le _, h0⟩, ?_⟩
  rintro i m σ H ⟨rfl, hi, p⟩
  obtain ⟨q1, q2, q3⟩ := hl i σ H p
  by_cases hlt : i < min xs.length (min ys.length zs.length)
  · have h1 : i < xs.length := by omega
    have h2 : i < ys.length := by omega
    have h3 : i < zs.length := by omega
    refine .inr ⟨⟨xs, ys, zs, xs[i], ys[i], zs[i], q1, q2, q3, by simp [h1], by simp [h2], by simp [h3]⟩, Pv (i + 1), fun σ' H' p' => ⟨_, by omega, rfl, by omega, p'⟩, fun v H' y => ?_⟩
    obtain ⟨T, x, y, z, rfl, nT, rfl, hx, hy, hz⟩ := y
    exact hs i x y z σ H T (hx xs q1) (hy ys q2) (hz zs q3) p nT
  · have e : i = min xs.length (min ys.length zs.length) := by omega
    subst e
    exact .inl ⟨⟨xs, ys, zs, q1, q2, q3, by omega⟩, hd σ H p⟩
end UbZ

namespace UbS
open PySem PySem.Spec PyProof.Rows L2 Ub UbM NdefX
/-! ### super().__init__(..) of an own exception -/
abbrev mwV (x : Addr) : Obj := PySem.W.kxs_mw "ValueError.__init__" x
/-- what stands behind super() in the class at C -/
structure SupC (K : PySem.W.Frag) (C : Addr) : Prop where
  ho : PySem.W.nsIn K cStatics "thirdparty.any" = some none
  fi : PySem.W.ks_superIn K C C "__init__" = some (some (.builtin "ValueError.__init__"))
  sv : PySem.W.subIn K (.ref C) (.type "ValueError") = some true
  ss : PySem.W.mroIn K C (.ref C) = some true
def supB (K : PySem.W.Frag) (C : Addr) : Bool := He.eqO (PySem.W.nsIn K cStatics "thirdparty.any") (some none) && (He.eqO (PySem.W.ks_superIn K C C "__init__") (some (some (.builtin "ValueError.__init__"))) && (decide (PySem.W.subIn K (.ref C) (.type "ValueError") = some true) && decide (PySem.W.mroIn K C (.ref C) = some true)))
theorem supB_ok {K : PySem.W.Frag} {C : Addr} (h : supB K C = true) : SupC K C := by
  unfold supB at h
  obtain ⟨h1, h⟩ := He.ba h
  obtain ⟨h2, h⟩ := He.ba h
  obtain ⟨h3, h4⟩ := He.ba h
  exact ⟨He.eqO_ok h1, He.eqO_ok h2, of_decide_eq_true h3, of_decide_eq_true h4⟩
section
variable {X : Cx} {pins : List (Addr × Obj)} {σ : L2.St} {H : Hp} {s : Shared} {a C u : Addr} {E : Value → Shared → Prop}
theorem sinit_ok {us : List Value} {Q : Value → Shared → Prop} (T : OexC X.K C) (I : Inv X pins σ H s) (hu : s.heap.get? u = some (mwV a)) (e : H a = some (exo a C none)) (hl : us.length ≤ sizeLine) (h : ∀ s', Inv X pins σ H s' → Q .none s') :
    wpAny (model X.prog X.w) X.A (call (.ref u) us) Q E s := by
  obtain ⟨nm, q, N, bs, bm, sn, sub, ab, col, dd, k0, k1, k2, k3, k5, hC, hbm⟩ := T.cls
  obtain ⟨t1, ho⟩ := exo_at I.hok e
  have hCh := I.kIn _ _ hC
  obtain ⟨hp, g, d, t, os⟩ := s
  refine wpAny_call (codeAny_of_tree ?_)
  show wpAny _ X.A.in1 (callAny (.ref u) ⟨us, []⟩) _ _ _
  simp only [callAny]
  refine wpAny_bind (wpAny_load hu ?_)
  simp only [mwV, PySem.W.kxs_mw, show (Value.type "method-wrapper" == Value.type "method" || Value.type "method-wrapper" == Value.type "builtin_function_or_method" || Value.type "method-wrapper" == Value.type "method-wrapper") = true by decide, if_true]
  refine PySem.W.KFB.if_so (by decide) ?_
  refine wpAny_bind (PySem.W.check_bound_init F.excBase_ValueError.toExcCallFacts hCh ho rfl ?_)
  refine wpAny_bind (wpAny_pure (wpAny_pure ?_))
  refine ⟨plainId_quiet F.excBase_ValueError.init.plain _, codeAny_builtin F.excBase_ValueError.initEntry ?_⟩
  refine PySem.W.exc_init_tree (cls := .ref C) (t0 := t1) (dv := none) (c2 := .none) (c3 := .none) (b4 := .bool false) ho hl (fun h' k hx _ => ?_)
  have J := I.write (t' := t) (x := a) (e := a) (o := exo a C none) (by rw [e]; exact True.intro) (.inl rfl) k ⟨_, hx⟩ (exo_ok hx)
  have eu : upd H a (exo a C none) = H := by
    funext b
    by_cases hb : b = a
    · rw [hb, upd_same, e]
    · rw [upd_ne hb]
  rw [eu] at J
  exact h _ J
end
/-- a method whose text says super(), of the class at C -/
structure FunS (K : PySem.W.Frag) (C : Addr) (file : Str) (x qual : Str) (params : Arguments) (body : List Stmt) (scope : Scope) (f : Addr) (fd : FuncData) : Prop where
  ex : ∃ (oc : Value) (od : Option Addr) (doc pm : Value) (an : Option Addr) (cda cc : Addr) (ct : Value) (osl : Array (Option Value)),
    fd = PySem.W.fnX x qual params body scope [("__class__", cc)] .none .none doc pm an (.ref cda) ct ∧ K.lookup f = some ⟨oc, od, .func fd, osl⟩ ∧ PySem.W.codeIn K (.ref cda) qual = true ∧
    (∃ (c1 : Value) (d1 : Option Addr) (vs : Array Value) (s1 : Array (Option Value)) (tf : Tok), K.lookup cda = some ⟨c1, d1, .fields vs, s1⟩ ∧ vs[2]? = some (.str file tf)) ∧
    ∃ (c2 : Value) (d2 : Option Addr) (s2 : Array (Option Value)), K.lookup cc = some ⟨c2, d2, .cell (some (.ref C)), s2⟩
theorem FunS.bindsN {K : PySem.W.Frag} {C : Addr} {file x qual : Str} {params : Arguments} {body : List Stmt} {scope : Scope} {f : Addr} {fd : FuncData} {ps : List Str} (F : FunS K C file x qual params body scope f fd)
    (h : ∀ (cc : Addr) (doc pm : Value) (an : Option Addr) (cdv ct : Value) (us : List Value), us.length = ps.length → bindArgs (PySem.W.fnX x qual params body scope [("__class__", cc)] .none .none doc pm an cdv ct) ⟨us, []⟩ = pure (ps.zip us)) : Binds K fd ps [] := by
  obtain ⟨oc, od, doc, pm, an, cda, cc, ct, osl, rfl, _⟩ := F.ex
  exact .all (h cc doc pm an (.ref cda) ct)
abbrev nfS (x qual : Str) (params : Arguments) (body : List Stmt) (scope : Scope) (cc cda : Addr) : NF := ⟨x, qual, params, body, scope, [("__class__", cc)], cda⟩
abbrev supStmt (p0 p1 p2 p3 p4 : Pos) (e : Expr) : Stmt := .Expr (.Call (.Attribute (.Call (.Name "super" p0) [] [] p1) "__init__" p2) [e] [] p3) p4
section
variable {P : Program} {w : World} {K : PySem.W.Frag} {mg : Str → Option Value} {base : Heap} {CX : CXT} {N ps : List Str} {k : Nat} {sp : Sp} {C f : Addr} {fd : FuncData} {file x qual : Str} {params : Arguments} {rest : List Stmt} {scope : Scope} {e : Expr} {p0 p1 p2 p3 p4 : Pos} {self : Str}
theorem FunS.ok {pl : Sem Bool} (F : FunS K C file x qual params (supStmt p0 p1 p2 p3 p4 e :: rest) scope f fd) (B : SupC K C) (T : OexC K C) (hsup : mg "super" = none) (hfile : (P.main.file == file) = true) (htop : (P.main.scope.names.lookup ("super" : Str)).isSome = false)
    (S : NScope N ps ["__class__"] scope) (hks : scope.names.lookup ("super" : Str) = some .globalImplicit) (hN : N[0]? = some self) (hself : ps[0]? = some self) (hp : ((params.posonlyargs ++ params.args).head?).map (·.arg) = some self)
    (hi : ∀ cc cda L, interactive (envF (nfS x qual params (supStmt p0 p1 p2 p3 p4 e :: rest) scope cc cda) f L) = false)
    (hs : ∀ cc cda L, swapsWith (.Call (.Attribute (.Call (.Name "super" p0) [] [] p1) "__init__" p2) [e] [] p3) none p4.line (envF (nfS x qual params (supStmt p0 p1 p2 p3 p4 e :: rest) scope cc cda) f L) = pure false)
    (he : ∀ cc cda L, eval (.Call (.Attribute (.Call (.Name "super" p0) [] [] p1) "__init__" p2) [e] [] p3) (envF (nfS x qual params (supStmt p0 p1 p2 p3 p4 e :: rest) scope cc cda) f L) = (do
      let ov ← attributeBase (.Call (.Name "super" p0) [] [] p1) "__init__" (envF (nfS x qual params (supStmt p0 p1 p2 p3 p4 e :: rest) scope cc cda) f L) (eval (.Call (.Name "super" p0) [] [] p1) (envF (nfS x qual params (supStmt p0 p1 p2 p3 p4 e :: rest) scope cc cda) f L))
      standAt p2.atName
      let (f', first) ← holding [ov] (getMethod ov "__init__" pl)
      callWith p3 f' first (backTo p3 (starEach [e] (envF (nfS x qual params (supStmt p0 p1 p2 p3 p4 e :: rest) scope cc cda) f L))) []))
    (hst : ∀ cc cda L, starEach [e] (envF (nfS x qual params (supStmt p0 p1 p2 p3 p4 e :: rest) scope cc cda) f L) = (false, eval e (envF (nfS x qual params (supStmt p0 p1 p2 p3 p4 e :: rest) scope cc cda) f L)) :: starEach [] (envF (nfS x qual params (supStmt p0 p1 p2 p3 p4 e :: rest) scope cc cda) f L))
    (len : ∀ vs H Q E, sp vs H Q E → vs.length = ps.length)
    (hb : ∀ (cc cda : Addr) (A : Around) (outer : List Env) (s : Shared) (H : Hp) (vs : List V) (Q : VK) (E : XK), Room k (A.deeper (envF (nfS x qual params (supStmt p0 p1 p2 p3 p4 e :: rest) scope cc cda) f s.heap.objs.size)) → sp vs H Q E →
      ∃ (te : TA) (ts : TS) (a : Addr) (us : List V), vs = .ref a :: us ∧ H a = some (exo a C none) ∧ PA (ncx CX P w K mg base N (nfS x qual params (supStmt p0 p1 p2 p3 p4 e :: rest) scope cc cda) f A outer s H E) [e] te ∧
        PSs (ncx CX P w K mg base N (nfS x qual params (supStmt p0 p1 p2 p3 p4 e :: rest) scope cc cda) f A outer s H E) rest ts ∧
        te (startF N vs [some (.ref C)]) H (fun us H1 => us.length ≤ 1000 ∧ H1 a = some (exo a C none) ∧ ts { nx := fun _ H' => Q .non H', rt := Q } (startF N vs [some (.ref C)]) H1)) :
    FnOk P w K mg base CX (k + 1) f fd ps sp := by
  refine ⟨len, fun A outer s H args us vs Q E hr e0 hbd r hsp => ?_⟩
  obtain ⟨oc, od, doc, pm, an, cda, cc, ct, osl, rfl, lk, hcd, ⟨c1, d1, vz, s1, tf, lkc, hv2⟩, c2, d2, s2, lkcc⟩ := F.ex
  have hl := len _ _ _ _ hsp
  have KX : K.In s.heap := e0.mod.kin.keeps fun b o e => (e0.bs b o e).1
  have lim : s.heap.NoLimit := e0.mod.nolimit.keeps fun b o e => (e0.bs b o e).1
  refine codeAny_call_function hr.depth (KX _ _ lk) rfl S.co S.gen rfl (PySem.W.codeRec_of KX hcd) (hbd _ _ _ _ ?_)
  refine wpAny_newFunctionEnv S.nocell (fun ⟨n, _⟩ hy => S.par n (List.of_mem_zip hy).1) (fun h₁ hns hsb => ⟨lim.fresh _ hsb, ?_⟩) S.kind
  show codeAny _ _ (.func (supStmt p0 p1 p2 p3 p4 e :: rest) (envF (nfS x qual params (supStmt p0 p1 p2 p3 p4 e :: rest) scope cc cda) f s.heap.objs.size)) _ _
  refine ks_codeAny_funcAt ?_
  have kp : ∀ b o, s.heap.get? b = some o → h₁.get? b = some o := fun b o e => hsb.extBut b o (Nat.ne_of_lt (Heap.lt_size e)) (Heap.get?_push_of_some _ e)
  have bcc := e0.bs _ _ (e0.mod.kin _ _ lkcc)
  have Cl : CellsAt [("__class__", cc)] ["__class__"] [some (.ref C)] s.heap H := by
    have key : ∀ {y : Str} {c : Addr}, List.lookup y [(("__class__" : Str), cc)] = some c → y = "__class__" ∧ c = cc := fun {y c} hy => by
      have hm := PySem.mem_of_lookup hy
      rcases List.mem_cons.mp hm with z | z
      · cases z
        exact ⟨rfl, rfl⟩
      · cases z
    refine ⟨rfl, fun y c hy => ?_, fun x y c hx hy => (key hx).1.trans (key hy).1.symm, fun i y hy => ?_⟩
    · obtain ⟨_, rfl⟩ := key hy
      exact ⟨bcc.2, _, _, bcc.1, rfl⟩
    · cases i with
      | succ i => cases hy
      | zero =>
        cases hy
        refine ⟨cc, rfl, fun v hv => ?_⟩
        cases hv
        exact ⟨.ref C, rfl, _, bcc.1, rfl⟩
  obtain ⟨te, ts, a, us', rfl, ha, hte, hts, q⟩ := hb cc cda A outer s H vs Q E (hr.deeper _) hsp
  have I0 : Inv (ncx CX P w K mg base N (nfS x qual params (supStmt p0 p1 p2 p3 p4 e :: rest) scope cc cda) f A outer s H E) [] (startF N (.ref a :: us') [some (.ref C)]) H { s with heap := h₁, toks := s.toks + (ps.zip us).length } := inv_startN S hr.hd e0 hl r Cl hns kp
  obtain ⟨t1, ho⟩ := exo_at I0.hok ha
  have hkc : scope.names.lookup ("__class__" : Str) = some .free := S.frk _ (List.mem_singleton.mpr rfl)
  obtain ⟨ar, har, hself'⟩ := Option.map_eq_some_iff.mp hp
  have hka : scope.names.lookup ar.arg = some .local := by
    rw [hself']
    exact S.par _ (List.mem_of_getElem? hself)
  have K1 : K.In h₁ := I0.kIn
  obtain ⟨mb, hmb, hmb'⟩ := I0.mod.blt
  have hv : (ps.zip us).reverse.lookup ar.arg = some (.ref a) := by
    rw [hself']
    have ndP : ps.Nodup := by
      have q := S.nd.sublist (List.take_sublist (ps.length + 1) N)
      rw [show N.take (ps.length + 1) = ps ++ [("__class__" : Str)] from S.pre] at q
      exact (List.nodup_append.mp q).1
    obtain ⟨u0, hu0, ru0⟩ := r.get (i := 0) (x := .ref a) rfl
    have e1 : u0 = .ref a := ru0
    rw [e1] at hu0
    exact zip_look ndP hself hu0
  obtain ⟨nm, qq, NN, bs, bm, sn, sub, ab, col, dd, k0, k1, k2, k3, k5, hC, hbm⟩ := T.cls
  have hCh := K1 _ _ hC
  refine ks_wpAt_execs_cons (ks_wpAt_Expr_any ?_ (hi _ _ _) (hs _ _ _))
  refine ks_wpAt_MethodCall ?_ (he _ _ _)
  refine ks_wpAt_super_base hks hkc rfl rfl (K1 _ _ lk) rfl har rfl (K1 _ _ lkc) rfl hv2 hfile htop ?_
  refine PySem.W.ks_loadName_global S.kind hks (PySem.Calls.loadGlobal_builtin (I0.mod.glob.keeps I0.bk) hsup (hmb.keeps I0.bk) ((hmb' _ (by decide)).trans (by kernel_rfl : bootBuiltins "super" = some (.type "super"))) ⟨rfl, ?_⟩)
  refine wpAny_loadName_free S.kind hkc rfl ⟨_, K1 _ _ lkcc, rfl⟩ ?_
  refine wpAny_loadName_local S.kind hka hns hv ?_
  refine ks_wpAny_isType_cls hCh rfl ⟨rfl, ?_⟩
  refine ks_wpAny_call_super hCh rfl ho rfl (fun c e => by cases e) (PySem.W.looks_mroIn K1 B.ss) (fun h' hso k => ?_)
  have I1 : Inv (ncx CX P w K mg base N (nfS x qual params (supStmt p0 p1 p2 p3 p4 e :: rest) scope cc cda) f A outer s H E) [] (startF N (.ref a :: us') [some (.ref C)]) H { s with heap := h', toks := s.toks + (ps.zip us).length } := I0.kept k
  have K2 : K.In h' := I1.kIn
  cases hcl : PySem.W.clsIn K C with
  | none =>
    have z := B.fi
    unfold PySem.W.ks_superIn at z
    rw [hcl] at z
    cases z
  | some cd =>
    have hf := B.fi
    unfold PySem.W.ks_superIn at hf
    rw [hcl] at hf
    have IA : PySem.W.InstAt h' a { cls := .ref C, dict := none, data := .fields #[.ref t1, .none, .none, .none, .bool false, .none] } C none := ⟨k _ _ ho, rfl, rfl, trivial⟩
    refine PySem.W.kxs_getMethod PySem.W.kxs_ValueError hso (PySem.W.looks_opaque K2 B.ho) (l₀ := cd.mro) (fun A Q E s k q => wpAny_bind ((PySem.W.looks_clsIn K2 hcl) A _ E s k (wpAny_pure q))) rfl K2 hf (IA.type.andThen (PySem.W.looks_subIn K2 B.sv)) (PySem.W.ks_ne K2 IA hcl) rfl ?_
    have hpush : ∀ b o, h'.get? b = some o → (h'.push (mwV a)).get? b = some o := fun b o e => Heap.get?_push_of_some _ e
    have hu : (h'.push (mwV a)).get? h'.objs.size = some (mwV a) := Heap.get?_push_at rfl rfl
    have nu : h'.objs.size ≠ s.heap.objs.size := fun z => absurd I1.lt (by
      show ¬ s.heap.objs.size < h'.objs.size
      rw [z]
      exact Nat.lt_irrefl _)
    have hH : H h'.objs.size = none := I1.hok.fresh (Nat.le_refl _)
    have nfs := I1.nofs (Nat.le_refl h'.objs.size)
    have I3 : Inv (ncx CX P w K mg base N (nfS x qual params (supStmt p0 p1 p2 p3 p4 e :: rest) scope cc cda) f A outer s H E) [(h'.objs.size, mwV a)] (startF N (.ref a :: us') [some (.ref C)]) H { s with heap := h'.push (mwV a), toks := s.toks + (ps.zip us).length + 1 } :=
      { (I1.kept (t' := s.toks + (ps.zip us).length + 1) hpush) with
        pin := fun p hp => by
          have hp : p ∈ ([] : List (Addr × Obj)) ++ [(h'.objs.size, mwV a)] := hp
          rw [List.nil_append] at hp
          obtain rfl := List.mem_singleton.mp hp
          exact ⟨hu, hH, nu, nfs, fun v z => by cases z⟩ }
    have bn : base.get? h'.objs.size = none := by
      cases z : base.get? h'.objs.size with
      | none => rfl
      | some o => exact absurd (Heap.lt_size (k _ _ (kp _ _ (e0.bs _ _ z).1))) (Nat.lt_irrefl _)
    refine PySem.W.kxs_callWith1 (i := "ValueError.__init__") (x := a) (h₀ := base) (L := s.heap.objs.size) (news := [(h'.objs.size, mwV a)]) (fun p hp => by
      obtain rfl := List.mem_singleton.mp hp
      exact ⟨hu, nu, bn⟩) (List.mem_singleton.mpr rfl) (thn (hte.run p3 [(h'.objs.size, mwV a)] _ _ _ _ I3 q) fun us2 s2 ⟨ws, H1, I4, r4, hl4, ha4, q4⟩ => ?_) (hst _ _ _) rfl
    have hp4 := (I4.pin (h'.objs.size, mwV a) (by
      show _ ∈ ([] : List (Addr × Obj)) ++ [(h'.objs.size, mwV a)]
      simp)).1
    refine ⟨hp4, sinit_ok T I4 hp4 ha4 (by
      rw [← r4.length, sizeLine_eq]
      omega) fun s' J => ?_⟩
    have J2 : Inv (ncx CX P w K mg base N (nfS x qual params (supStmt p0 p1 p2 p3 p4 e :: rest) scope cc cda) f A outer s H E) [] (startF N (.ref a :: us') [some (.ref C)]) H1 s' :=
      { J with pin := fun p hp => absurd (show p ∈ ([] : List (Addr × Obj)) ++ [] from hp) (by simp) }
    refine wpAt_of_wpAny (wpAny_mono (hts.run [] s' _ H1 _ J2 q4) (fun fl s' hs => ?_) fun e s' hs => hs)
    have fin : ∀ {σ' : L2.St} {H' : Hp} {v : V} {u : Value}, Inv (ncx CX P w K mg base N (nfS x qual params (supStmt p0 p1 p2 p3 p4 e :: rest) scope cc cda) f A outer s H E) [] σ' H' s' → L2.RelV v u → Q v H' → CE outer P w H s Q u s' :=
      fun {σ' H' v u} J rv q => ⟨v, H', J.os, J.bare, J.base, J.hok, rv, q⟩
    cases fl with
    | ret u =>
      obtain ⟨v, σ', H', J, rv, q⟩ := hs
      exact fin J rv q
    | next =>
      obtain ⟨σ', H', J, q⟩ := hs
      exact fin (v := V.non) (u := Value.none) J rfl q
    | brk =>
      obtain ⟨_, _, _, q⟩ := hs
      exact False.elim q
    | cont =>
      obtain ⟨_, _, _, q⟩ := hs
      exact False.elim q
end
/-! ### the Hook: the table cStatics too, and the methods that say super() -/
abbrev FnWS : Type := Option (Str × Str × Arguments × FuncBody × Scope × Addr × List Str × Addr)
def fnWS (K : PySem.W.Frag) (d : He.DefD) : FnWS := match K.lookup (He.fAd K d.at_) with
  | some ⟨_, _, .func fd, _⟩ => some (fd.name, fd.qualname, fd.params, fd.body, fd.scope, fd.globals, fd.closure.map (·.1), fd.builtins)
  | _ => none
def valS (d : He.DefD) : FnWS := some (d.name, d.qual, d.params, .stmts d.body, d.scope, mainGlobals, ["__class__"], builtinsNs)
def fileB (K : PySem.W.Frag) (file : Str) (cd : Value) : Bool := match cd with
  | .ref c => (match K.lookup c with
    | some ⟨_, _, .fields vs, _⟩ => (match (vs[2]? : Option Value) with
      | some (.str y _) => decide (y = file)
      | _ => false)
    | _ => false)
  | _ => false
def cellB (K : PySem.W.Frag) (C : Addr) (cl : List (Str × Addr)) : Bool := match cl with
  | [(_, cc)] => (match K.lookup cc with
    | some ⟨_, _, .cell (some (.ref D)), _⟩ => decide (D = C)
    | _ => false)
  | _ => false
def supDefB (K : PySem.W.Frag) (file : Str) (d : He.DefD) : Bool := match K.lookup (He.fAd K d.at_) with
  | some ⟨_, _, .func fd, _⟩ => PySem.W.codeIn K fd.code d.qual && (decide (fd.defaults = .none) && (decide (fd.kwdefaults = .none) && (fileB K file fd.code && cellB K (He.ga K d.at_.1) fd.closure)))
  | _ => false
theorem fileB_ok {K : PySem.W.Frag} {file : Str} {cd : Value} (h : fileB K file cd = true) : ∃ cda, cd = .ref cda ∧ ∃ (c1 : Value) (d1 : Option Addr) (vs : Array Value) (s1 : Array (Option Value)) (tf : Tok), K.lookup cda = some ⟨c1, d1, .fields vs, s1⟩ ∧ vs[2]? = some (.str file tf) := by
  unfold fileB at h
  split at h
  · rename_i c
    split at h
    · rename_i vs _ ho
      split at h
      · rename_i y t hv
        have e := of_decide_eq_true h
        subst e
        exact ⟨c, rfl, _, _, vs, _, t, ho, hv⟩
      · cases h
    · cases h
  · cases h
theorem cellB_ok {K : PySem.W.Frag} {C : Addr} {cl : List (Str × Addr)} (h : cellB K C cl = true) : ∃ n cc, cl = [(n, cc)] ∧ ∃ (c2 : Value) (d2 : Option Addr) (s2 : Array (Option Value)), K.lookup cc = some ⟨c2, d2, .cell (some (.ref C)), s2⟩ := by
  unfold cellB at h
  split at h
  · rename_i n cc
    split at h
    · rename_i D _ ho
      have e := of_decide_eq_true h
      subst e
      exact ⟨n, cc, rfl, _, _, _, ho⟩
    · cases h
  · cases h
theorem funS_of {K : PySem.W.Frag} {file : Str} {d : He.DefD} (e : fnWS K d = valS d) (c : supDefB K file d = true) : ∃ fd, FunS K (He.ga K d.at_.1) file d.name d.qual d.params d.body d.scope (He.fAd K d.at_) fd := by
  unfold supDefB at c
  unfold fnWS at e
  split at c
  · rename_i oc od fd osl ho
    rw [ho] at e
    obtain ⟨c1, c⟩ := He.ba c
    obtain ⟨c2, c⟩ := He.ba c
    obtain ⟨c3, c⟩ := He.ba c
    obtain ⟨c4, c5⟩ := He.ba c
    obtain ⟨cda, e4, r4⟩ := fileB_ok c4
    obtain ⟨n, cc, e5, r5⟩ := cellB_ok c5
    refine ⟨fd, ?_⟩
    obtain ⟨nm, qn, ps, bd, sc, gl, cl, dv, kv, doc, pm, an, cd, ct, bl⟩ := fd
    dsimp only at e c1 c2 c3 e4 e5
    have e := Option.some.inj e
    have e2 := of_decide_eq_true c2
    have e3 := of_decide_eq_true c3
    subst e4 e5 e2 e3
    have e : (nm, qn, ps, bd, sc, gl, [n], bl) = (d.name, d.qual, d.params, FuncBody.stmts d.body, d.scope, mainGlobals, [("__class__" : Str)], builtinsNs) := e
    simp only [Prod.mk.injEq, List.cons.injEq, and_true] at e
    obtain ⟨z1, z2, z3, z4, z5, z6, z7, z8⟩ := e
    subst z1 z2 z3 z4 z5 z6 z7 z8
    exact ⟨_, _, _, _, _, cda, cc, _, _, rfl, ho, c1, r4, r5⟩
  · cases c
abbrev AlS : Type := He.AlX × List FnWS
def asS (g : Addr → Option Obj) (n : Nat) : List Addr := He.asD g n ++ [cStatics]
def obsK (fa : List He.Fa) (fn : List He.DefD) (tf : List He.Defn) (fs : List He.DefD) (ex : PySem.W.Frag → Bool) (g : Addr → Option Obj) (K : PySem.W.Frag) : AlS := ((He.obsT fa fn [] K, ex K && He.tabsB g tf K), fs.map fun d => fnWS K d)
def obsS (n : Nat) (fa : List He.Fa) (fn : List He.DefD) (tf : List He.Defn) (fs : List He.DefD) (ex : PySem.W.Frag → Bool) (g : Addr → Option Obj) : AlS := obsK fa fn tf fs ex g (He.frT g (asS g n))
def valSS (fn : List He.DefD) (fs : List He.DefD) (w : World) : AlS := (He.valX fn [] w, fs.map valS)
structure SaysS (fa : List He.Fa) (fn : List He.DefD) (tf : List He.Defn) (fs : List He.DefD) (ex : PySem.W.Frag → Bool) (w : World) (h : Heap) (K : PySem.W.Frag) : Prop where
  x : He.SaysX fa fn [] tf ex w h K
  s : fs.map (fun d => fnWS K d) = fs.map valS
theorem SaysS.def_ {fa : List He.Fa} {fn fs : List He.DefD} {tf : List He.Defn} {ex : PySem.W.Frag → Bool} {w : World} {h : Heap} {K : PySem.W.Frag} (c : SaysS fa fn tf fs ex w h K) (i : Nat) {d : He.DefD} (hd : fs[i]? = some d) : fnWS K d = valS d := by
  have e2 : (fs.map fun d => fnWS K d)[i]? = (fs.map valS)[i]? := by rw [c.s]
  rw [List.getElem?_map, List.getElem?_map, hd] at e2
  exact Option.some.inj e2
theorem saysS_of {n : Nat} {fa : List He.Fa} {fn fs : List He.DefD} {tf : List He.Defn} {ex : PySem.W.Frag → Bool} {w : World} {h : Heap} (e : obsS n fa fn tf fs ex h.get? = valSS fn fs w) : SaysS fa fn tf fs ex w h (He.frT h.get? (asS h.get? n)) := by
  have e0 : (He.obsT fa fn [] (He.frT h.get? (asS h.get? n)), ex (He.frT h.get? (asS h.get? n)) && He.tabsB h.get? tf (He.frT h.get? (asS h.get? n))) = He.valX fn [] w := congrArg (fun z : AlS => z.1) e
  have e3 : fs.map (fun d => fnWS (He.frT h.get? (asS h.get? n)) d) = fs.map valS := congrArg (fun z : AlS => z.2) e
  have e1 : He.obsT fa fn [] (He.frT h.get? (asS h.get? n)) = He.valT fn [] w := congrArg (fun z : He.AlX => z.1) e0
  have e2 : (ex (He.frT h.get? (asS h.get? n)) && He.tabsB h.get? tf (He.frT h.get? (asS h.get? n))) = true := congrArg (fun z : He.AlX => z.2) e0
  obtain ⟨h1, h2⟩ := He.ba e2
  have tab : ∀ p ∈ tf, PySem.W.codeHdIn (He.frT h.get? (asS h.get? n)) (He.cT (He.frT h.get? (asS h.get? n)) p).1 (He.cT (He.frT h.get? (asS h.get? n)) p).2 = true ∧ ∃ o, h.get? (He.cT (He.frT h.get? (asS h.get? n)) p).2 = some o ∧ He.emptyTab o = true := fun p hp => by
    obtain ⟨h3, h4⟩ := He.ba (List.all_eq_true.mp h2 p hp)
    refine ⟨h3, ?_⟩
    split at h4
    · rename_i o q
      exact ⟨o, q, h4⟩
    · cases h4
  refine ⟨⟨e1, h1, fun p hp => (tab p hp).1, fun p hp => ?_, fun p hp => ?_⟩, e3⟩
  · obtain ⟨_, o, q, z⟩ := tab p hp
    exact He.frT_none q z
  · obtain ⟨_, o, q, z⟩ := tab p hp
    rw [q, He.emptyTab_eq z]
def hookS (n : Nat) (fa : List He.Fa) (fn : List He.DefD) (tf : List He.Defn) (fs : List He.DefD) (ex : PySem.W.Frag → Bool) : PySem.W.Hook where
  α := AlS
  obs := fun s => obsS n fa fn tf fs ex s.heap.get?
  val := fun w => valSS fn fs w
  says := fun w h => ∃ K : PySem.W.Frag, K.In h ∧ SaysS fa fn tf fs ex w h K
  of := fun _ _ e => ⟨_, He.frT_in, saysS_of e⟩
  keeps := fun _ _ _ ⟨K, hK, c⟩ k => ⟨K, PySem.W.Frag.In.keeps hK k, ⟨⟨c.x.t, c.x.more, c.x.hd, c.x.out, fun p hp => k _ _ (c.x.empty p hp)⟩, c.s⟩⟩
theorem obsS_eq {n : Nat} {fa : List He.Fa} {fn fs : List He.DefD} {tf : List He.Defn} {ex : PySem.W.Frag → Bool} {g : Addr → Option Obj} {s : Shared} (h : ∀ a, g a = s.heap.get? a) : obsS n fa fn tf fs ex g = (hookS n fa fn tf fs ex).obs s := by
  have e : g = s.heap.get? := funext h
  rw [e] <;> rfl
end UbS

/-! x in l, where l is a list or a tuple, and the items are flat or data of a few levels -/
namespace UbIn
open PySem PySem.Spec PyProof.Rows L2 Ub
section
variable {X : Cx}
def rInA (K : PySem.W.Frag) (neg : Bool) : R2 := fun x y H Q => rIn K neg x y H Q ∨ ∃ d ds, Dp K H x d ∧ (Dp K H y (.list ds) ∨ Dp K H y (.tuple ds)) ∧ d.canLay0 = true ∧ PyData.canLayAll0 ds = true ∧ d.depth ≤ 40 ∧
  Q (.bl (if neg then !ds.any fun z => PyData.eqv z d else ds.any fun z => PyData.eqv z d)) H
theorem op_inA (hu : X.A.units + 64 < cLine) : OpR X (compareOp .In) (rInA X.K false) := by
  intro pins s σ H x y v u Q I rx ry h
  rcases h with h | ⟨d, ds, hd, he, sd, se, hz, q⟩
  · exact op_in_seq pins s σ H x y v u Q I rx ry h
  obtain ⟨as, r1⟩ := Dp.reads I d x v hd rx
  have hm : X.A.units + 1 + min (PyData.depthAll ds) d.depth < cLine := by
    have := Nat.min_le_right (PyData.depthAll ds) d.depth
    omega
  rcases he with he | he
  · obtain ⟨bs, r2⟩ := Dp.reads I (.list ds) y u he ry
    exact SeqAt.in_list_reads r2 r1 se sd hm ⟨.bl _, H, I, rfl, q⟩
  · obtain ⟨bs, r2⟩ := Dp.reads I (.tuple ds) y u he ry
    exact SeqAt.in_tuple_reads r2 r1 se sd hm ⟨.bl _, H, I, rfl, q⟩
theorem op_notInA (hu : X.A.units + 64 < cLine) : OpR X (compareOp .NotIn) (rInA X.K true) := by
  intro pins s σ H x y v u Q I rx ry h
  rcases h with h | ⟨d, ds, hd, he, sd, se, hz, q⟩
  · exact op_notIn_seq pins s σ H x y v u Q I rx ry h
  obtain ⟨as, r1⟩ := Dp.reads I d x v hd rx
  have hm : X.A.units + 1 + min (PyData.depthAll ds) d.depth < cLine := by
    have := Nat.min_le_right (PyData.depthAll ds) d.depth
    omega
  rcases he with he | he
  · obtain ⟨bs, r2⟩ := Dp.reads I (.list ds) y u he ry
    exact SeqAt.notIn_list_reads r2 r1 se sd hm ⟨.bl _, H, I, rfl, q⟩
  · obtain ⟨bs, r2⟩ := Dp.reads I (.tuple ds) y u he ry
    exact SeqAt.notIn_tuple_reads r2 r1 se sd hm ⟨.bl _, H, I, rfl, q⟩
variable {K : PySem.W.Frag}
theorem op_inAK (h : X.K = K) (hu : X.A.units + 64 < cLine) : OpR X (compareOp .In) (rInA K false) := by
  subst h
  exact op_inA hu
theorem op_notInAK (h : X.K = K) (hu : X.A.units + 64 < cLine) : OpR X (compareOp .NotIn) (rInA K true) := by
  subst h
  exact op_notInA hu
end
/-- a fraction in a list or tuple of fractions -/
theorem any_fr : ∀ (rs : List Rat) (r : Rat), ((rs.map frD).any fun z => PyData.eqv z (frD r)) = rs.any fun s => decide (s = r)
  | [], r => rfl
  | s :: rs, r => by
    show (PyData.eqv (frD s) (frD r) || (rs.map frD).any fun z => PyData.eqv z (frD r)) = (decide (s = r) || rs.any fun s => decide (s = r))
    rw [any_fr rs r, eqv_fr]
theorem rdInFr {K : PySem.W.Frag} {H : Hp} {x y : V} {r : Rat} {rs : List Rat} {neg : Bool} {Q : VK} (hx : Fr K H x r) (hy : Dp K H y (.list (rs.map frD)) ∨ Dp K H y (.tuple (rs.map frD))) (q : Q (.bl (if neg then !rs.any fun s => decide (s = r) else rs.any fun s => decide (s = r))) H) : rInA K neg x y H Q :=
  .inr ⟨frD r, rs.map frD, hx, hy, rfl, canLay_frs rs, (show (1 : Nat) ≤ 40 by decide), by rw [any_fr]; exact q⟩
end UbIn

/-! Own layer: programs as plain functions over data. No heap here. -/
namespace UbP
open PySem
inductive D where
  | non | bl (b : Bool) | int (i : Int) | str (x : Str) | lst (ds : List D) | lsf (ds : List D) | tup (ds : List D) | obj (c : Str) (fs : List (Str × D))
  deriving Inhabited
mutual
def eqv : D → D → Bool
  | .non, .non => true
  | .bl a, .bl b => a == b
  | .bl a, .int j => (if a then 1 else 0) == j
  | .int i, .bl b => i == (if b then 1 else 0)
  | .int i, .int j => i == j
  | .str x, .str y => x == y
  | .lst xs, .lst ys => eqvAll xs ys
  | .tup xs, .tup ys => eqvAll xs ys
  | _, _ => false
def eqvAll : List D → List D → Bool
  | [], [] => true
  | x :: xs, y :: ys => eqv x y && eqvAll xs ys
  | _, _ => false
end
mutual
/-- may be compared by ==: depth at most n, texts of real signs -/
def sh : D → Nat → Bool
  | .non, _ => true
  | .bl _, _ => true
  | .int _, _ => true
  | .str x, _ => x.cps.all (· < 0x110000)
  | .lst ds, n => decide (0 < n) && shAll ds (n - 1)
  | .tup ds, n => decide (0 < n) && shAll ds (n - 1)
  | .lsf _, _ => false
  | .obj _ _, _ => false
def shAll : List D → Nat → Bool
  | [], _ => true
  | d :: ds, n => sh d n && shAll ds n
end
mutual
/-- no list and no object within -/
def noL : D → Bool
  | .tup ds => noLs ds
  | .lst _ => false
  | .lsf _ => false
  | .obj _ _ => false
  | _ => true
def noLs : List D → Bool
  | [] => true
  | d :: ds => noL d && noLs ds
end
/-- what is owned: it may change -/
inductive Ct where
  | l (ds : List D) | o (c : Str) (fs : List (Str × D))
  deriving Inhabited
def Ct.toD : Ct → D
  | .l ds => .lst ds
  | .o c fs => .obj c fs
/-- an error: its class, its fields -/
structure Ex where
  cls : Str
  fs : List (Str × D)
/-- a slot: data; a thing owned here; one owned by the caller; a caught error -/
inductive Sl where
  | no | dat (d : D) | own (c : Ct) | par (c : Ct) | ex (x : Ex)
  deriving Inhabited
abbrev Env := List Sl
/-- what an expression gives: data; the owned thing in slot i; a new thing that nobody else holds -/
inductive Vw where
  | d (d : D) | o (i : Nat) | f (c : Ct)
inductive Res (α : Type) where
  | ok (a : α) (e : Env) | exc (x : Ex) (e : Env) | bad
abbrev M (α : Type) := Env → Res α
section
variable {α β : Type}
def ret (a : α) : M α := fun e => .ok a e
def bnd (m : M α) (k : α → M β) : M β := fun e => match m e with
  | .ok a e' => k a e'
  | .exc x e' => .exc x e'
  | .bad => .bad
def optM (o : Option α) : M α := fun e => match o with
  | some a => .ok a e
  | none => .bad
/-- an error becomes nothing (in a comprehension none may leave) -/
def calmM (m : M α) : M α := fun e => match m e with
  | .ok a e' => .ok a e'
  | .exc _ _ => .bad
  | .bad => .bad
end
def getO (i : Nat) (e : Env) : Option Ct := match e[i]? with
  | some (.own c) => some c
  | some (.par c) => some c
  | _ => none
def setO (i : Nat) (c : Ct) (e : Env) : Env := match e[i]? with
  | some (.own _) => e.set i (.own c)
  | some (.par _) => e.set i (.par c)
  | _ => e
/-- as data that is looked at now -/
def Vw.now (w : Vw) (e : Env) : Option D := match w with
  | .d x => some x
  | .f c => some c.toD
  | .o i => (getO i e).map Ct.toD
/-- as data that stays -/
def Vw.stay : Vw → Option D
  | .d x => some x
  | .f c => some c.toD
  | .o _ => none
/-! ### values -/
def tru : D → Option Bool
  | .non => some false
  | .bl b => some b
  | .int i => some (i != 0)
  | .str x => if x.length ≤ 1000000 then some (decide (x.length ≠ 0)) else none
  | .lst ds => some !ds.isEmpty
  | .lsf ds => some !ds.isEmpty
  | .tup ds => some !ds.isEmpty
  | .obj _ _ => none
abbrev LIM : Nat := 1000000
def log2 (i : Int) : Nat := i.natAbs.log2
def vI (i : Int) : Option Vw := some (.d (.int i))
def vB (b : Bool) : Option Vw := some (.d (.bl b))
def addD : D → D → Option Vw
  | .int a, .int b => vI (a + b)
  | .str a, .str b => if a.length + b.length ≤ LIM then some (.d (.str (a ++ b))) else none
  | .lst a, .lst b => if a.length + b.length ≤ LIM then some (.f (.l (a ++ b))) else none
  | _, _ => none
def subD : D → D → Option Vw
  | .int a, .int b => vI (a - b)
  | _, _ => none
def rep (ds : List D) : Nat → List D
  | 0 => []
  | n + 1 => ds ++ rep ds n
def smI (a : Int) : Bool := decide (a.natAbs < 2 ^ 64)
def mulD : D → D → Option Vw
  | .int a, .int b => if smI a || smI b || decide (log2 a + log2 b < 900000) then vI (a * b) else none
  | .lst ds, .int k => if k < 1000000 ∧ ds.length * k.toNat ≤ LIM ∧ -1000000 < k then some (.f (.l (rep ds k.toNat))) else none
  | _, _ => none
def fdivD : D → D → Option Vw
  | .int a, .int b => if b ≠ 0 ∧ log2 b < 9000 then vI (a.fdiv b) else none
  | _, _ => none
def modD : D → D → Option Vw
  | .int a, .int b => if b ≠ 0 then vI (a.fmod b) else none
  | _, _ => none
def powD : D → D → Option Vw
  | .int a, .int b => if 0 ≤ b ∧ b ≤ 100000 ∧ a.natAbs < 2 ^ 64 then vI (a ^ b.toNat) else none
  | _, _ => none
def negD : D → Option Vw
  | .int a => vI (-a)
  | _ => none
def lenD : D → Option Vw
  | .lst ds => vI ds.length
  | .lsf ds => vI ds.length
  | .tup ds => vI ds.length
  | .str x => if x.length ≤ LIM then vI x.length else none
  | _ => none
def absD : D → Option Vw
  | .int a => vI (if a < 0 then -a else a)
  | _ => none
def intD : D → Option Vw
  | .int a => vI a
  | .bl b => vI (if b then 1 else 0)
  | _ => none
def gcdD : D → D → Option Vw
  | .int a, .int b => vI (Nat.gcd a.natAbs b.natAbs : Nat)
  | _, _ => none
def lcmD : D → D → Option Vw
  | .int a, .int b => if log2 a < 9000 ∧ log2 b < 9000 then vI (Nat.lcm a.natAbs b.natAbs : Nat) else none
  | _, _ => none
def minD : D → D → Option Vw
  | .int a, .int b => vI (if b < a then b else a)
  | _, _ => none
def maxD : D → D → Option Vw
  | .int a, .int b => vI (if b > a then b else a)
  | _, _ => none
def listD : D → Option Vw
  | .lst ds => some (.f (.l ds))
  | .lsf ds => some (.f (.l ds))
  | .tup ds => some (.f (.l ds))
  | _ => none
def tupD : D → Option Vw
  | .lst ds => some (.d (.tup ds))
  | .tup ds => some (.d (.tup ds))
  | _ => none
def revD : D → Option Vw
  | .lst ds => some (.f (.l ds.reverse))
  | .lsf ds => some (.f (.l ds.reverse))
  | _ => none
def fldD (cs : List Str) (f : Str) : D → Option Vw
  | .obj c fs => if cs.contains c then (fs.lookup f).map .d else none
  | _ => none
/-- the built-in type's name -/
def tyD : D → Option String
  | .non => some "NoneType"
  | .bl _ => some "bool"
  | .int _ => some "int"
  | .str _ => some "str"
  | .lst _ => some "list"
  | .tup _ => some "tuple"
  | _ => none
def isT (t : String) (s : String) : Bool := s == t || (s == "bool" && t == "int")
def isiD (t : String) (d : D) : Option Vw := (tyD d).bind fun s => vB (isT t s)
def boolsOf : List D → Option (List Bool)
  | [] => some []
  | .bl b :: ds => (boolsOf ds).map (b :: ·)
  | _ => none
def intsOf : List D → Option (List Int)
  | [] => some []
  | .int b :: ds => (intsOf ds).map (b :: ·)
  | _ => none
def allD : D → Option Vw
  | .lst ds => (boolsOf ds).bind fun bs => vB (bs.all id)
  | _ => none
def anyD : D → Option Vw
  | .lst ds => (boolsOf ds).bind fun bs => vB (bs.any id)
  | _ => none
def sumD : D → Option Vw
  | .lst ds => (intsOf ds).bind fun bs => vI bs.sum
  | _ => none
def ixI (n : Nat) (i : Int) : Option Nat := if 0 ≤ i then (if i < n then some i.toNat else none) else if -(n : Int) ≤ i then some (i + n).toNat else none
def atL {α : Type} (xs : List α) (i : Int) : Option α := (ixI xs.length i).bind fun j => xs[j]?
def ixD : D → D → Option Vw
  | .lst ds, .int i => (atL ds i).map .d
  | .lsf ds, .int i => (atL ds i).map .d
  | .tup ds, .int i => (atL ds i).map .d
  | .str x, .int i => if x.length ≤ LIM then (atL x.cps.toList i).map fun c => .d (.str ⟨#[c]⟩) else none
  | _, _ => none
def sIx (n d : Nat) : Option Int → Nat
  | none => d
  | some v => if v < 0 then (v + (n : Int)).toNat else min v.toNat n
def cut {α : Type} (xs : List α) (lo hi : Option Int) : List α := (xs.drop (sIx xs.length 0 lo)).take (sIx xs.length xs.length hi - sIx xs.length 0 lo)
def slD (lo hi : Option Int) : D → Option Vw
  | .lst ds => some (.f (.l (cut ds lo hi)))
  | .lsf ds => some (.f (.l (cut ds lo hi)))
  | _ => none
/-! comparisons -/
def scal : D → Bool
  | .non => true | .bl _ => true | .int _ => true | .str _ => true | _ => false
def eqD (a b : D) : Option Bool := if (scal a && scal b) || (sh a 60 && sh b 60) then some (eqv a b) else none
def neD (a b : D) : Option Bool := (eqD a b).map (!·)
def ltL : List Nat → List Nat → Bool
  | [], [] => false
  | [], _ :: _ => true
  | _ :: _, [] => false
  | a :: as, b :: bs => if a < b then true else if b < a then false else ltL as bs
def cmpI (f : Int → Int → Bool) : D → D → Option Bool
  | .int a, .int b => some (f a b)
  | _, _ => none
def ltD : D → D → Option Bool := cmpI fun a b => decide (a < b)
def leD : D → D → Option Bool := cmpI fun a b => decide (a ≤ b)
def gtD : D → D → Option Bool := cmpI fun a b => decide (b < a)
def geD : D → D → Option Bool := cmpI fun a b => decide (b ≤ a)
def flat : D → Bool := scal
def mem (x : D) (ds : List D) : Bool := ds.any fun y => eqv y x
def inD (x : D) : D → Option Bool
  | .lst ds => if (flat x && ds.all flat) || (sh x 40 && shAll ds 59) then some (mem x ds) else none
  | .tup ds => if (flat x && ds.all flat) || (sh x 40 && shAll ds 59) then some (mem x ds) else none
  | _ => none
def ninD (x y : D) : Option Bool := (inD x y).map (!·)
def isN : D → Bool
  | .non => true
  | _ => false
def isBl (b : Bool) : D → Option Bool
  | .bl c => some (decide (c = b))
  | _ => none
def isNoD (a : D) : D → Option Bool
  | .non => some (isN a)
  | .bl b => isBl b a
  | _ => none
def notNoD (a : D) : D → Option Bool
  | .non => some !(isN a)
  | .bl b => (isBl b a).map (!·)
  | _ => none
/-! ### expressions -/
def eC (d : D) : M Vw := ret (.d d)
def eV (i : Nat) : M Vw := fun e => match e[i]? with
  | some (.dat d) => .ok (.d d) e
  | some (.own _) => .ok (.o i) e
  | some (.par _) => .ok (.o i) e
  | _ => .bad
def nowM (w : Vw) : M D := fun e => match w.now e with
  | some d => .ok d e
  | none => .bad
def stayM (w : Vw) : M D := optM w.stay
def eU (f : D → Option Vw) (a : M Vw) : M Vw := bnd a fun w => bnd (nowM w) fun d => optM (f d)
def eB (f : D → D → Option Vw) (a b : M Vw) : M Vw := bnd a fun w => bnd b fun u => bnd (nowM w) fun d => bnd (nowM u) fun c => optM (f d c)
def tB (f : D → D → Option Bool) (a b : M Vw) : M Bool := bnd a fun w => bnd b fun u => bnd (nowM w) fun d => bnd (nowM u) fun c => optM (f d c)
def cB (f : D → D → Option Bool) : D → D → Option Vw := fun a b => (f a b).map fun k => .d (.bl k)
def truM (w : Vw) : M Bool := bnd (nowM w) fun d => optM (tru d)
def tE (a : M Vw) : M Bool := bnd a truM
def tNot (t : M Bool) : M Bool := bnd t fun b => ret !b
def tAnd (t u : M Bool) : M Bool := bnd t fun b => if b then u else ret false
def tOr (t u : M Bool) : M Bool := bnd t fun b => if b then ret true else u
/-- a < b < c -/
def tCh (f g : D → D → Option Bool) (a b c : M Vw) : M Bool := bnd a fun w => bnd b fun u => bnd (nowM w) fun d => bnd (nowM u) fun v => bnd (optM (f d v)) fun k => if k then bnd c fun z => bnd (nowM u) fun v => bnd (nowM z) fun y => optM (g v y) else ret false
def Vw.dull : Vw → Vw
  | .f c => .d c.toD
  | w => w
def eAnd (a b : M Vw) : M Vw := bnd a fun w => bnd (truM w) fun k => if k then b else ret w.dull
def eOr (a b : M Vw) : M Vw := bnd a fun w => bnd (truM w) fun k => if k then ret w.dull else b
def eNot (a : M Vw) : M Vw := bnd a fun w => bnd (truM w) fun k => ret (.d (.bl !k))
def eIf (t : M Bool) (a b : M Vw) : M Vw := bnd t fun k => if k then a else b
def eArgs : List (M Vw) → M (List Vw)
  | [] => ret []
  | a :: as => bnd a fun w => bnd (eArgs as) fun ws => ret (w :: ws)
def stays : List Vw → Option (List D)
  | [] => some []
  | w :: ws => match w.stay, stays ws with
    | some d, some ds => some (d :: ds)
    | _, _ => none
def eTup (as : List (M Vw)) : M Vw := bnd (eArgs as) fun ws => bnd (optM (stays ws)) fun ds => if ds.length < LIM then ret (.d (.tup ds)) else optM none
def eLst (as : List (M Vw)) : M Vw := bnd (eArgs as) fun ws => bnd (optM (stays ws)) fun ds => if ds.length < LIM then ret (.f (.l ds)) else optM none
def intM (a : M Vw) : M (Option Int) := bnd a fun w => bnd (nowM w) fun d => match d with
  | .int i => ret (some i)
  | _ => optM none
def eSl (a : M Vw) (lo hi : M (Option Int)) : M Vw := bnd a fun w => bnd lo fun l => bnd hi fun h => bnd (nowM w) fun d => optM (slD l h d)
/-! owned things -/
def ownL (i : Nat) : M (List D) := fun e => match getO i e with
  | some (.l ds) => .ok ds e
  | _ => .bad
def putL (i : Nat) (ds : List D) : M Unit := fun e => .ok () (setO i (.l ds) e)
def viewI : Vw → Option Nat
  | .o i => some i
  | _ => none
/-- the receiver: an owned list -/
def recv (a : M Vw) : M Nat := bnd a fun w => bnd (optM (viewI w)) fun i => bnd (ownL i) fun _ => ret i
def eApp (a m : M Vw) : M Vw := bnd (recv a) fun i => bnd m fun u => bnd (stayM u) fun d => bnd (ownL i) fun ds => if ds.length < LIM then bnd (putL i (ds ++ [d])) fun _ => ret (.d .non) else optM none
def ePop (a : M Vw) : M Vw := bnd (recv a) fun i => bnd (ownL i) fun ds => bnd (optM ds.getLast?) fun d => bnd (putL i ds.dropLast) fun _ => ret (.d d)
def eRev (a : M Vw) : M Vw := bnd (recv a) fun i => bnd (ownL i) fun ds => bnd (putL i ds.reverse) fun _ => ret (.d .non)
def listOf : D → Option (List D)
  | .lst ds => some ds
  | _ => none
def eExt (a m : M Vw) : M Vw := bnd (recv a) fun i => bnd m fun u => bnd (stayM u) fun d => bnd (optM (listOf d)) fun xs => bnd (ownL i) fun ds => if ds.length + xs.length ≤ LIM then bnd (putL i (ds ++ xs)) fun _ => ret (.d .non) else optM none
/-! ### calls -/
inductive FRes where
  | ret (w : Vw) (cs : List Ct) | exc (x : Ex) (cs : List Ct) | bad
abbrev Fn := List Sl → FRes
def pars : Env → List Ct
  | [] => []
  | .par c :: e => c :: pars e
  | _ :: e => pars e
/-- the arguments: true for those that the callee may change -/
def mkArgs : List Bool → List Vw → Env → Option (List Sl)
  | [], [], _ => some []
  | m :: ms, w :: ws, e => match mkArgs ms ws e with
    | none => none
    | some r => if m then match w with
        | .o i => (getO i e).map fun c => .par c :: r
        | _ => none
      else (w.now e).map fun d => .dat d :: r
  | _, _, _ => none
def ownIx : List Bool → List Vw → List Nat
  | m :: ms, .o i :: ws => if m then i :: ownIx ms ws else ownIx ms ws
  | _ :: ms, _ :: ws => ownIx ms ws
  | _, _ => []
def lookIx : List Bool → List Vw → List Nat
  | m :: ms, .o i :: ws => if m then lookIx ms ws else i :: lookIx ms ws
  | _ :: ms, _ :: ws => lookIx ms ws
  | _, _ => []
def nodup : List Nat → Bool
  | [] => true
  | x :: xs => !xs.contains x && nodup xs
def Vw.noL : Vw → Bool
  | .d x => UbP.noL x
  | _ => false
def Ct.noL : Ct → Bool
  | .l ds => noLs ds
  | .o _ _ => false
/-- owned things may be handed on; one that is only looked at lets no list come back -/
def passOk (look : List Nat) (w : Vw) (cs : List Ct) : Bool := (viewI w).isNone && (look.isEmpty || (w.noL && cs.all Ct.noL))
def putBack : List Bool → List Vw → List Ct → Env → Option Env
  | [], [], [], e => some e
  | true :: ms, .o i :: ws, c :: cs, e => putBack ms ws cs (setO i c e)
  | false :: ms, _ :: ws, cs, e => putBack ms ws cs e
  | _, _, _, _ => none
def callB (f : Fn) (ms : List Bool) (dv : List D) (ws : List Vw) : M Vw := fun e =>
  match mkArgs ms ws e with
  | none => .bad
  | some args => if nodup (ownIx ms ws ++ lookIx ms ws) then match f (args ++ dv.map .dat) with
      | .ret w cs => if passOk (lookIx ms ws) w cs then match putBack ms ws cs e with
          | some e' => .ok w e'
          | none => .bad
        else .bad
      | .exc x cs => if (lookIx ms ws).isEmpty then match putBack ms ws cs e with
          | some e' => .exc x e'
          | none => .bad
        else .bad
      | .bad => .bad
    else .bad
def eCall (f : Fn) (ms : List Bool) (as : List (M Vw)) (dv : List D) : M Vw := bnd (eArgs as) (callB f ms dv)
/-! ### targets -/
inductive Tg where
  | nm (i : Nat) | tp (ts : List Tg)
def putN (i : Nat) (d : D) (e : Env) : Option Env := match e[i]? with
  | some .no => some (e.set i (.dat d))
  | some (.dat _) => some (e.set i (.dat d))
  | some (.own _) => some (e.set i (.dat d))
  | _ => none
mutual
def putT : Tg → D → Env → Option Env
  | .nm i, d, e => putN i d e
  | .tp ts, .tup ds, e => putTs ts ds e
  | .tp _, _, _ => none
def putTs : List Tg → List D → Env → Option Env
  | [], [], e => some e
  | t :: ts, d :: ds, e => (putT t d e).bind (putTs ts ds)
  | _, _, _ => none
end
/-! ### what loops walk -/
def walkD : D → Option (List D)
  | .lst ds => some ds
  | .lsf ds => some ds
  | .tup ds => some ds
  | _ => none
def intsL (lo : Int) (n : Nat) : List D := (List.range n).map fun k => .int (lo + (k : Nat))
def iE (a : M Vw) : M (List D) := bnd a fun w => bnd (stayM w) fun d => optM (walkD d)
def bigI (i : Int) : Bool := decide (-(2 ^ 62) ≤ i ∧ i < 2 ^ 62)
def iR1 (a : M Vw) : M (List D) := bnd a fun w => bnd (nowM w) fun d => match d with
  | .int j => if bigI j then ret (intsL 0 j.toNat) else optM none
  | _ => optM none
def iR2 (a b : M Vw) : M (List D) := bnd a fun w => bnd b fun u => bnd (nowM w) fun d => bnd (nowM u) fun c => match d, c with
  | .int i, .int j => if bigI i && bigI j then ret (intsL i (j - i).toNat) else optM none
  | _, _ => optM none
def enumF (ds : List D) : List D := (List.range ds.length).map fun k => .tup [.int (k : Nat), ds.getD k .non]
def iEn (a : M Vw) : M (List D) := bnd a fun w => bnd (stayM w) fun d => bnd (optM (listOf d)) fun ds => ret (enumF ds)
def iZ (a b : M Vw) : M (List D) := bnd a fun w => bnd b fun u => bnd (stayM w) fun d => bnd (stayM u) fun c => bnd (optM (listOf d)) fun ds => bnd (optM (listOf c)) fun cs => ret (List.zipWith (fun x y => .tup [x, y]) ds cs)
def zip3 (ds cs bs : List D) : List D := List.zipWith (fun x p => .tup [x, p.1, p.2]) ds (cs.zip bs)
def iZ3 (a b c : M Vw) : M (List D) := bnd a fun w => bnd b fun u => bnd c fun t => bnd (stayM w) fun d => bnd (stayM u) fun e => bnd (stayM t) fun f => bnd (optM (listOf d)) fun ds => bnd (optM (listOf e)) fun es => bnd (optM (listOf f)) fun fs => ret (zip3 ds es fs)
def iRv (a : M Vw) : M (List D) := bnd a fun w => bnd (stayM w) fun d => bnd (optM (listOf d)) fun ds => ret ds.reverse
/-! ### comprehensions -/
def wipeE (e : Env) : List Nat → Env
  | [] => e
  | v :: vs => (wipeE e vs).set v .no
def isDat : Sl → Bool
  | .no => true
  | .dat _ => true
  | _ => false
/-- the own names of the comprehension are no owned things outside -/
def freeAt (e : Env) (vs : List Nat) : Bool := vs.all fun v => match e[v]? with
  | some s => isDat s
  | none => false
def backE (e e' : Env) : List Nat → Env
  | [] => e'
  | v :: vs => (backE e e' vs).set v (e.getD v .no)
def lcGo (tg : Tg) (c : M Bool) (x : M Vw) (vs : List Nat) : List D → List D → M (List D)
  | [], acc => ret acc
  | d :: ds, acc => fun e => match putT tg d e with
    | none => .bad
    | some e1 => match c e1 with
      | .ok false e2 => lcGo tg c x vs ds acc (wipeE e2 vs)
      | .ok true e2 => match x e2 with
        | .ok w e3 => match w.stay with
          | some y => if acc.length < LIM then lcGo tg c x vs ds (acc ++ [y]) (wipeE e3 vs) else .bad
          | none => .bad
        | _ => .bad
      | _ => .bad
def eLc (it : M (List D)) (tg : Tg) (c : M Bool) (x : M Vw) (vs : List Nat) : M Vw := bnd it fun ds e =>
  if freeAt e vs then match lcGo tg c x vs ds [] (wipeE e vs) with
    | .ok ys e' => .ok (.f (.l ys)) (backE e e' vs)
    | _ => .bad
  else .bad
def gxGo (stopv : Bool) (tg : Tg) (x : M Vw) (vs : List Nat) : List D → M Bool
  | [] => ret !stopv
  | d :: ds => fun e => match putT tg d e with
    | none => .bad
    | some e1 => match x e1 with
      | .ok (.d (.bl b)) e3 => if b = stopv then .ok stopv (wipeE e3 vs) else gxGo stopv tg x vs ds (wipeE e3 vs)
      | _ => .bad
def eGx (stopv : Bool) (it : M (List D)) (tg : Tg) (x : M Vw) (vs : List Nat) : M Vw := bnd it fun ds e =>
  if freeAt e vs then match gxGo stopv tg x vs ds (wipeE e vs) with
    | .ok b e' => .ok (.d (.bl b)) (backE e e' vs)
    | _ => .bad
  else .bad
/-! ### statements -/
inductive Fl where
  | nx | rt (w : Vw) | bk | ct
def sNx : M Fl := ret .nx
def sBk : M Fl := ret .bk
def sCt : M Fl := ret .ct
def sSeq (a b : M Fl) : M Fl := bnd a fun f => match f with
  | .nx => b
  | f => ret f
def sIf (t : M Bool) (a b : M Fl) : M Fl := bnd t fun k => if k then a else b
def putM (tg : Tg) (d : D) : M Fl := fun e => match putT tg d e with
  | some e' => .ok .nx e'
  | none => .bad
def sSet (i : Nat) (a : M Vw) : M Fl := bnd a fun w => bnd (stayM w) fun d => putM (.nm i) d
def sAsg (tg : Tg) (a : M Vw) : M Fl := bnd a fun w => bnd (stayM w) fun d => putM tg d
def ownN (i : Nat) (c : Ct) : M Fl := fun e => match e[i]? with
  | some .no => .ok .nx (e.set i (.own c))
  | some (.dat _) => .ok .nx (e.set i (.own c))
  | some (.own _) => .ok .nx (e.set i (.own c))
  | _ => .bad
def newC : Vw → Option Ct
  | .f c => some c
  | _ => none
def sOwn (i : Nat) (a : M Vw) : M Fl := bnd a fun w => bnd (optM (newC w)) fun c => ownN i c
def frzE (i : Nat) (e : Env) : Option Env := match e[i]? with
  | some (.own c) => some (e.set i (.dat c.toD))
  | some (.dat d) => some e
  | _ => none
def frz (i : Nat) (b : M Fl) : M Fl := fun e => match frzE i e with
  | some e' => b e'
  | none => .bad
def sPar (i j : Nat) (a b : M Vw) : M Fl := bnd a fun w => bnd b fun u => bnd (stayM w) fun d => bnd (stayM u) fun c => bnd (putM (.nm i) d) fun _ => putM (.nm j) c
def sRet (a : M Vw) : M Fl := bnd a fun w e => match w with
  | .d d => .ok (.rt (.d d)) e
  | .f c => .ok (.rt (.f c)) e
  | .o i => match e[i]? with
    | some (.own c) => .ok (.rt (.f c)) (e.set i .no)
    | _ => .bad
def sRetN : M Fl := ret (.rt (.d .non))
def sEx (a : M Vw) : M Fl := bnd a fun _ => ret .nx
/-- x[i] = v -/
def sItem (o i v : M Vw) : M Fl := bnd v fun u => bnd o fun w => bnd i fun z => bnd (optM (viewI w)) fun k => bnd (stayM u) fun d => bnd (nowM z) fun n => bnd (ownL k) fun ds => match n with
  | .int m => match ixI ds.length m with
    | some j => bnd (putL k (ds.set j d)) fun _ => ret .nx
    | none => optM none
  | _ => optM none
def datM (i : Nat) : M D := fun e => match e[i]? with
  | some (.dat d) => .ok d e
  | _ => .bad
/-- x += v -/
def sAug (i : Nat) (v : M Vw) : M Fl := bnd (datM i) fun d => bnd v fun u => bnd (nowM u) fun c => bnd (optM (addD d c)) fun w => match w with
  | .d (.int z) => putM (.nm i) (.int z)
  | _ => optM none
def forL (tg : Tg) (b : M Fl) : List D → M Fl
  | [] => ret .nx
  | d :: ds => fun e => match putT tg d e with
    | none => .bad
    | some e1 => match b e1 with
      | .ok .nx e2 => forL tg b ds e2
      | .ok .ct e2 => forL tg b ds e2
      | .ok .bk e2 => .ok .nx e2
      | .ok (.rt w) e2 => .ok (.rt w) e2
      | .exc x e2 => .exc x e2
      | .bad => .bad
def sFor (it : M (List D)) (tg : Tg) (b : M Fl) : M Fl := bnd it fun ds => forL tg b ds
def whl (t : M Bool) (b : M Fl) : Nat → M Fl
  | 0 => optM none
  | n + 1 => bnd t fun k => if k then bnd b fun f => match f with
      | .nx => whl t b n
      | .ct => whl t b n
      | .bk => ret .nx
      | .rt w => ret (.rt w)
    else ret .nx
/-- raise X(..): the fields by name; ok: what the class takes -/
def sRaise (x : Str) (fs : List Str) (ok : List D → Bool) (as : List (M Vw)) : M Fl := bnd (eArgs as) fun ws => bnd (optM (stays ws)) fun ds e => if ok ds then .exc ⟨x, fs.zip ds⟩ e else .bad
def okT : List D → Bool
  | [.str y] => decide (y.length ≤ 1000)
  | _ => false
def ok1 : List D → Bool
  | [_] => true
  | _ => false
def okIT : List D → Bool
  | [.int i, .str y] => decide (i.natAbs.log2 < 1000 ∧ y.length ≤ 1000)
  | _ => false
def exFree (e : Env) : Bool := e.all fun s => match s with
  | .ex _ => false
  | _ => true
def okFl : Fl → Bool
  | .rt (.o _) => false
  | _ => true
def afterS (n : Option Nat) : Res Fl → Res Fl
  | .ok f e => match n with
    | none => if exFree e && okFl f then .ok f e else .bad
    | some i => if exFree (e.set i .no) && okFl f then .ok f (e.set i .no) else .bad
  | _ => .bad
/-- try: b except ..: suite; ok tells whether the clause takes the class -/
def sTry (b : M Fl) (ok : Str → Option Bool) (n : Option Nat) (s : M Fl) : M Fl := fun e => match b e with
  | .ok f e' => .ok f e'
  | .bad => .bad
  | .exc x e' => match ok x.cls with
    | none => .bad
    | some false => .exc x e'
    | some true => match n with
      | none => afterS none (s e')
      | some i => match e'[i]? with
        | some .no => afterS (some i) (s (e'.set i (.ex x)))
        | _ => .bad
/-- e.f of a caught error -/
def eEf (i : Nat) (f : Str) : M Vw := fun e => match e[i]? with
  | some (.ex x) => match x.fs.lookup f with
    | some d => .ok (.d d) e
    | none => .bad
  | _ => .bad
/-! ### objects -/
/-- a new object: its class, what makes it; it stands behind the frame while it is made -/
def newB (c : Str) (f : Fn) (ms : List Bool) (dv : List D) (ws : List Vw) : M Vw := fun e =>
  match callB f (true :: ms) dv (.o e.length :: ws) (e ++ [.own (.o c [])]) with
  | .ok (.d .non) e' => match e'[e.length]? with
    | some (.own k) => .ok (.f k) (e'.take e.length)
    | _ => .bad
  | .ok _ _ => .bad
  | .exc x e' => .exc x (e'.take e.length)
  | .bad => .bad
def eNew (c : Str) (f : Fn) (ms : List Bool) (as ks : List (M Vw)) (dv : List D) : M Vw := bnd (eArgs as) fun ws => bnd (eArgs ks) fun zs => newB c f ms dv (ws ++ zs)
def putFD (f : Str) (v : D) : List (Str × D) → List (Str × D)
  | [] => [(f, v)]
  | (g, x) :: r => if g = f then (g, v) :: r else (g, x) :: putFD f v r
def ownO (i : Nat) : M (Str × List (Str × D)) := fun e => match getO i e with
  | some (.o c fs) => .ok (c, fs) e
  | _ => .bad
/-- o.f = v -/
def sFld (cs : List Str) (f : Str) (o v : M Vw) : M Fl := bnd v fun u => bnd o fun w => bnd (optM (viewI w)) fun k => bnd (stayM u) fun d => bnd (ownO k) fun p => if cs.contains p.1 ∧ p.2.length < 1000 then fun e => .ok .nx (setO k (.o p.1 (putFD f d p.2)) e) else optM none
/-! ### a def -/
def run (k : Nat) (b : M Fl) : Fn := fun args => match b (args ++ List.replicate k .no) with
  | .ok .nx e => .ret (.d .non) (pars e)
  | .ok (.rt (.d d)) e => .ret (.d d) (pars e)
  | .ok (.rt (.f c)) e => .ret (.f c) (pars e)
  | .ok _ _ => .bad
  | .exc x e => .exc x (pars e)
  | .bad => .bad
end UbP

/-! Own layer: a def that runs as its plain function says. -/
namespace UbP
open PySem PySem.Spec PyProof.Rows L2 UbM Ub
abbrev Hs := Hp
/-! ### data in the heap -/
mutual
inductive Dq (K : PySem.W.Frag) (H : Hp) : V → D → Prop
  | non : Dq K H .non .non
  | bl (b : Bool) : Dq K H (.bl b) (.bl b)
  | int (i : Int) : Dq K H (.int i) (.int i)
  | str (x : Str) : Dq K H (.str x) (.str x)
  | lst {a : Addr} {xs : List V} {ds : List D} : H a = some (.lst xs) → DqAll K H xs ds → Dq K H (.ref a) (.lst ds)
  | lsf {a : Addr} {xs : List V} {ds : List D} : SqL K H a xs → DqAll K H xs ds → Dq K H (.ref a) (.lsf ds)
  | tup {a : Addr} {xs : List V} {ds : List D} : SqT K H a xs → DqAll K H xs ds → Dq K H (.ref a) (.tup ds)
  | obj {a dx : Addr} {c : Str} {vs : List (Str × V)} {fs : List (Str × D)} : H a = some (.ins (He.ga K c) dx vs) → DqF K H vs fs → Dq K H (.ref a) (.obj c fs)
inductive DqAll (K : PySem.W.Frag) (H : Hp) : List V → List D → Prop
  | nil : DqAll K H [] []
  | cons {v : V} {vs : List V} {d : D} {ds : List D} : Dq K H v d → DqAll K H vs ds → DqAll K H (v :: vs) (d :: ds)
inductive DqF (K : PySem.W.Frag) (H : Hp) : List (Str × V) → List (Str × D) → Prop
  | nil : DqF K H [] []
  | cons {x : Str} {v : V} {vs : List (Str × V)} {d : D} {ds : List (Str × D)} : Dq K H v d → DqF K H vs ds → DqF K H ((x, v) :: vs) ((x, d) :: ds)
end
mutual
theorem Dq.monoT {K : PySem.W.Frag} {H H' : Hp} (e : UbG.SameT H H') : ∀ (d : D) (v : V), Dq K H v d → Dq K H' v d
  | .non, _, h => by cases h; exact .non
  | .bl b, _, h => by cases h; exact .bl b
  | .int i, _, h => by cases h; exact .int i
  | .str x, _, h => by cases h; exact .str x
  | .lst ds, _, h => by
    cases h with
    | lst hs ha => exact .lst (e.but _ _ hs fun _ z => by cases z) (Dq.monoTAll e ds _ ha)
  | .lsf ds, _, h => by
    cases h with
    | lsf hs ha => exact .lsf (UbG.SameT.seq e hs) (Dq.monoTAll e ds _ ha)
  | .tup ds, _, h => by
    cases h with
    | tup hs ha => exact .tup (UbG.SameT.tseq e hs) (Dq.monoTAll e ds _ ha)
  | .obj c fs, _, h => by
    cases h with
    | obj hs ha => exact .obj (e.but _ _ hs fun _ z => by cases z) (Dq.monoTF e fs _ ha)
theorem Dq.monoTAll {K : PySem.W.Frag} {H H' : Hp} (e : UbG.SameT H H') : ∀ (ds : List D) (vs : List V), DqAll K H vs ds → DqAll K H' vs ds
  | [], _, h => by cases h; exact .nil
  | d :: ds, _, h => by
    cases h with
    | cons h1 h2 => exact .cons (Dq.monoT e d _ h1) (Dq.monoTAll e ds _ h2)
theorem Dq.monoTF {K : PySem.W.Frag} {H H' : Hp} (e : UbG.SameT H H') : ∀ (ds : List (Str × D)) (vs : List (Str × V)), DqF K H vs ds → DqF K H' vs ds
  | [], _, h => by cases h; exact .nil
  | (x, d) :: ds, _, h => by
    cases h with
    | cons h1 h2 => exact .cons (Dq.monoT e d _ h1) (Dq.monoTF e ds _ h2)
end
/-! ### sets of cells -/
abbrev SS := Addr → Prop
open Classical in
noncomputable def wo (S : SS) (H : Hp) : Hp := fun b => if S b then none else H b
section
variable {K : PySem.W.Frag} {S S' : SS} {H H' H1 H2 : Hp} {b a p : Addr} {o : HO}
theorem wo_in (h : wo S H b = some o) : ¬S b ∧ H b = some o := by
  unfold wo at h
  by_cases hb : S b
  · rw [if_pos hb] at h; cases h
  · rw [if_neg hb] at h; exact ⟨hb, h⟩
theorem wo_out (hb : ¬S b) : wo S H b = H b := by unfold wo; rw [if_neg hb]
theorem wo_same : Same (wo S H) H := fun b o h => (wo_in h).2
theorem wo_sub (h : ∀ s, S s → S' s) : Same (wo S' H) (wo S H) := fun b o e => by
  obtain ⟨h1, h2⟩ := wo_in e
  rw [wo_out fun z => h1 (h b z)]
  exact h2
def isC : HO → Prop
  | .lst _ => True
  | .ins _ _ _ => True
  | _ => False
def Cl (S : SS) (H : Hp) : Prop := ∀ s, S s → ∃ o, H s = some o ∧ isC o
structure SameC (S : SS) (H H' : Hp) : Prop where
  but : ∀ b o, ¬S b → H b = some o → (∀ ps, o ≠ .tbl ps) → H' b = some o
  tab : ∀ P, GxR.TabG H P → GxR.TabG H' P
  cl : ∀ s, S s → (∃ o, H s = some o ∧ isC o) → ∃ o, H' s = some o ∧ isC o
  dom : ∀ b, H' b = none → H b = none
/-- everything stands (tables may grow) -/
abbrev Kp (H H' : Hp) : Prop := SameC (fun _ => False) H H'
theorem isC_tbl (h : isC o) : ∀ ps, o ≠ .tbl ps := fun ps z => by rw [z] at h; exact h
theorem SameC.refl (H : Hp) : SameC S H H := ⟨fun _ _ _ h _ => h, fun _ h => h, fun _ _ h => h, fun _ h => h⟩
theorem SameC.trans (a : SameC S H H1) (b : SameC S H1 H2) : SameC S H H2 :=
  ⟨fun c o n h t => b.but c o n (a.but c o n h t) t, fun P h => b.tab P (a.tab P h), fun s hs h => b.cl s hs (a.cl s hs h), fun c h => a.dom c (b.dom c h)⟩
theorem sameC (e : Same H H') : SameC S H H' := ⟨fun b o _ h t => e _ _ h, fun _ h => UbG.TabG.mono e h, fun s _ ⟨o, h, c⟩ => ⟨o, e _ _ h, c⟩, fun b h => by
  cases g : H b with
  | none => rfl
  | some o => rw [e _ _ g] at h; cases h⟩
theorem kp (e : Same H H') : Kp H H' := sameC e
theorem kpTab {P : Addr} (hP : GxR.TabG H P) (t : GxR.Tabbed P H H') : Kp H H' := by
  have e := UbG.tabbedT hP t
  refine ⟨fun b o _ => e.but b o, e.tab, fun _ z => z.elim, fun b h => ?_⟩
  by_cases hb : b = P
  · obtain ⟨qs, g, _⟩ := t.1
    rw [hb, g] at h
    cases h
  · rw [← t.2 b hb]
    exact h
theorem Kp.toT (e : Kp H H') : UbG.SameT H H' := ⟨fun b o h t => e.but b o (fun z => z) h t, e.tab⟩
theorem Kp.C (e : Kp H H') : SameC S H H' := ⟨fun b o _ h t => e.but b o (fun z => z) h t, e.tab, fun s _ ⟨o, h, c⟩ => ⟨o, e.but _ _ (fun z => z) h (isC_tbl c), c⟩, e.dom⟩
theorem SameC.sub (e : SameC S H H') (h : ∀ s, S s → S' s) : SameC S' H H' :=
  ⟨fun b o n g t => e.but b o (fun z => n (h b z)) g t, e.tab, fun s _ ⟨o, g, c⟩ => by
    by_cases hs : S s
    · exact e.cl s hs ⟨o, g, c⟩
    · exact ⟨o, e.but _ _ hs g (isC_tbl c), c⟩, e.dom⟩
theorem SameC.wT (e : SameC S H H') : UbG.SameT (wo S H) (wo S H') := by
  refine ⟨fun b o h t => ?_, fun P ⟨ps, h, t⟩ => ?_⟩
  · obtain ⟨h1, h2⟩ := wo_in h
    rw [wo_out h1]
    exact e.but b o h1 h2 t
  · obtain ⟨h1, h2⟩ := wo_in h
    obtain ⟨qs, g, t2⟩ := e.tab P ⟨ps, h2, t⟩
    exact ⟨qs, by rw [wo_out h1]; exact g, t2⟩
theorem SameC.clS (e : SameC S H H') (h : Cl S H) : Cl S H' := fun s hs => e.cl s hs (h s hs)
theorem wT_of (e : Kp H H') : UbG.SameT (wo S H) (wo S H') := (Kp.C e).wT
theorem sameC_upd (ha : S a) (hc : isC o) (h : ∃ o', H a = some o' ∧ isC o') : SameC S H (upd H a o) := by
  obtain ⟨o', h, c'⟩ := h
  refine ⟨fun b x n e _ => ?_, fun P ⟨ps, e, t⟩ => ⟨ps, ?_, t⟩, fun s _ ⟨y, e, c⟩ => ?_, fun b hb => ?_⟩
  · rw [upd_ne (show b ≠ a from fun z => n (by rw [z]; exact ha))]
    exact e
  · rw [upd_ne (show P ≠ a from fun z => isC_tbl c' ps (by rw [z, h] at e; exact Option.some.inj e))]
    exact e
  · by_cases hs : s = a
    · rw [hs]; exact ⟨o, upd_same, hc⟩
    · exact ⟨y, by rw [upd_ne hs]; exact e, c⟩
  · by_cases hs : b = a
    · rw [hs, upd_same] at hb; cases hb
    · rw [upd_ne hs] at hb; exact hb
theorem wo_upd (ha : S a) : wo S (upd H a o) = wo S H := by
  funext b
  by_cases hb : S b
  · unfold wo; rw [if_pos hb, if_pos hb]
  · rw [wo_out hb, wo_out hb, upd_ne (show b ≠ a from fun z => hb (by rw [z]; exact ha))]
theorem Cl.new (l : Cl S H) (np : H p = none) : ¬S p := fun z => by
  obtain ⟨o, h, _⟩ := l p z
  rw [np] at h
  cases h
theorem wo_new (hp : ¬S p) : wo S (upd H p o) = upd (wo S H) p o := by
  funext b
  by_cases hb : b = p
  · rw [hb, wo_out hp, upd_same, upd_same]
  · rw [upd_ne hb]
    by_cases hs : S b
    · unfold wo; rw [if_pos hs, if_pos hs]
    · rw [wo_out hs, wo_out hs, upd_ne hb]
theorem wo_none (np : H p = none) : wo S H p = none := by
  cases e : wo S H p with
  | none => rfl
  | some o => rw [(wo_in e).2] at np; cases np
theorem wo_tseq {xs : List V} (l : Cl S H) (h : SqT K H a xs) : SqT K (wo S H) a xs := by
  have go : ∀ o, H a = some o → ¬isC o → wo S H a = some o := fun o e n => by
    rw [wo_out fun z => ?_]
    · exact e
    · obtain ⟨o', g, c⟩ := l _ z
      rw [g] at e
      cases e
      exact n c
  rcases h with (h | ⟨o, h⟩) | h
  · exact .inl (.inl (go _ h (fun z => z)))
  · exact .inl (.inr ⟨o, go _ h (fun z => z)⟩)
  · exact .inr h
end
section
variable {K : PySem.W.Frag} {S S' : SS} {H H' : Hp} {v : V} {d : D} {vs : List V} {ds : List D} {fs : List (Str × D)} {ws : List (Str × V)}
theorem Dq.mono (e : Same H H') (h : Dq K H v d) : Dq K H' v d := Dq.monoT (UbG.sameT e) _ _ h
theorem DqAll.mono (e : Same H H') (h : DqAll K H vs ds) : DqAll K H' vs ds := Dq.monoTAll (UbG.sameT e) _ _ h
theorem DqF.mono (e : Same H H') (h : DqF K H ws fs) : DqF K H' ws fs := Dq.monoTF (UbG.sameT e) _ _ h
theorem Dq.out (h : Dq K (wo S H) v d) : Dq K H v d := h.mono wo_same
theorem DqAll.len : ∀ {vs : List V} {ds : List D}, DqAll K H vs ds → vs.length = ds.length
  | _, _, .nil => rfl
  | _, _, .cons _ t => congrArg Nat.succ (DqAll.len t)
theorem DqAll.get : ∀ {vs : List V} {ds : List D} {i : Nat} {d : D}, DqAll K H vs ds → ds[i]? = some d → ∃ v, vs[i]? = some v ∧ Dq K H v d
  | _, _, _, _, .nil, h => by simp at h
  | _, _, 0, _, .cons h1 _, h => by
    simp at h
    subst h
    exact ⟨_, rfl, h1⟩
  | _, _, i + 1, d, .cons _ h2, h => by
    obtain ⟨v, e, q⟩ := DqAll.get (i := i) (d := d) h2 (by simpa using h)
    exact ⟨v, by simpa using e, q⟩
theorem DqAll.at : ∀ {vs : List V} {ds : List D} {i : Nat} {v : V}, DqAll K H vs ds → vs[i]? = some v → ∃ d, ds[i]? = some d ∧ Dq K H v d
  | _, _, _, _, .nil, h => by simp at h
  | _, _, 0, _, .cons h1 _, h => by
    simp at h
    subst h
    exact ⟨_, rfl, h1⟩
  | _, _, i + 1, v, .cons _ h2, h => by
    obtain ⟨d, e, q⟩ := DqAll.at (i := i) (v := v) h2 (by simpa using h)
    exact ⟨d, by simpa using e, q⟩
theorem DqAll.snoc : ∀ {vs : List V} {ds : List D} {v : V} {d : D}, DqAll K H vs ds → Dq K H v d → DqAll K H (vs ++ [v]) (ds ++ [d])
  | _, _, _, _, .nil, h => .cons h .nil
  | _, _, _, _, .cons h1 h2, h => .cons h1 (DqAll.snoc h2 h)
theorem DqAll.app : ∀ {vs ws : List V} {ds es : List D}, DqAll K H vs ds → DqAll K H ws es → DqAll K H (vs ++ ws) (ds ++ es)
  | _, _, _, _, .nil, h => h
  | _, _, _, _, .cons h1 h2, h => .cons h1 (DqAll.app h2 h)
theorem DqAll.take : ∀ {vs : List V} {ds : List D} (n : Nat), DqAll K H vs ds → DqAll K H (vs.take n) (ds.take n)
  | _, _, 0, _ => .nil
  | _, _, n + 1, .nil => .nil
  | _, _, n + 1, .cons h1 h2 => .cons h1 (DqAll.take n h2)
theorem DqAll.drop : ∀ {vs : List V} {ds : List D} (n : Nat), DqAll K H vs ds → DqAll K H (vs.drop n) (ds.drop n)
  | _, _, 0, h => h
  | _, _, n + 1, .nil => .nil
  | _, _, n + 1, .cons h1 h2 => DqAll.drop n h2
theorem DqAll.set : ∀ {vs : List V} {ds : List D} {v : V} {d : D} (i : Nat), DqAll K H vs ds → Dq K H v d → DqAll K H (vs.set i v) (ds.set i d)
  | _, _, _, _, _, .nil, _ => .nil
  | _, _, _, _, 0, .cons _ h2, h => .cons h h2
  | _, _, _, _, i + 1, .cons h1 h2, h => .cons h1 (DqAll.set i h2 h)
theorem DqAll.rev : ∀ {vs : List V} {ds : List D}, DqAll K H vs ds → DqAll K H vs.reverse ds.reverse
  | _, _, .nil => .nil
  | _, _, .cons h1 h2 => by
    rw [List.reverse_cons, List.reverse_cons]
    exact DqAll.snoc (DqAll.rev h2) h1
theorem DqAll.rep {vs : List V} {ds : List D} (h : DqAll K H vs ds) : ∀ n : Nat, DqAll K H (List.replicate n vs).flatten (UbP.rep ds n)
  | 0 => .nil
  | n + 1 => DqAll.app h (DqAll.rep h n)
theorem DqF.look : ∀ {ws : List (Str × V)} {fs : List (Str × D)} {f : Str} {d : D}, DqF K H ws fs → fs.lookup f = some d → ∃ v, ws.lookup f = some v ∧ Dq K H v d
  | _, _, _, _, .nil, h => by simp at h
  | _, _, f, d, .cons (x := x) h1 h2, h => by
    by_cases e : (f == x) = true
    · rw [List.lookup_cons, e] at h ⊢
      cases h
      exact ⟨_, rfl, h1⟩
    · have e : (f == x) = false := by simpa using e
      rw [List.lookup_cons, e] at h ⊢
      exact DqF.look h2 h
theorem DqF.names : ∀ {ws : List (Str × V)} {fs : List (Str × D)}, DqF K H ws fs → ws.map (·.1) = fs.map (·.1)
  | _, _, .nil => rfl
  | _, _, .cons _ t => by rw [List.map_cons, List.map_cons, DqF.names t]
mutual
theorem Dq.apart (l : Cl S H) : ∀ (d : D) (v : V), noL d = true → Dq K H v d → Dq K (wo S H) v d
  | .non, _, _, h => by cases h; exact .non
  | .bl b, _, _, h => by cases h; exact .bl b
  | .int i, _, _, h => by cases h; exact .int i
  | .str x, _, _, h => by cases h; exact .str x
  | .lst ds, _, n, _ => by unfold noL at n; cases n
  | .lsf ds, _, n, _ => by unfold noL at n; cases n
  | .obj _ _, _, n, _ => by unfold noL at n; cases n
  | .tup ds, _, n, h => by
    cases h with
    | tup hs ha => exact .tup (wo_tseq l hs) (Dq.apartAll l ds _ (by unfold noL at n; exact n) ha)
theorem Dq.apartAll (l : Cl S H) : ∀ (ds : List D) (vs : List V), noLs ds = true → DqAll K H vs ds → DqAll K (wo S H) vs ds
  | [], _, _, h => by cases h; exact .nil
  | d :: ds, _, n, h => by
    unfold noLs at n
    obtain ⟨n1, n2⟩ := Bool.and_eq_true_iff.mp n
    cases h with
    | cons h1 h2 => exact .cons (Dq.apart l d _ n1 h1) (Dq.apartAll l ds _ n2 h2)
end
end
/-! ### slots -/
def ExR (K : PySem.W.Frag) (H : Hp) (x : Ex) (cls : Value) (d : Option Addr) : Prop :=
  cls = .ref (He.ga K x.cls) ∧ ((x.fs = [] ∧ d = none) ∨ ∃ dx vs, d = some dx ∧ H dx = some (.xd vs) ∧ DqF K H vs x.fs)
def RelC (K : PySem.W.Frag) (S : SS) (H : Hp) (a : Addr) : Ct → Prop
  | .l ds => ∃ xs, H a = some (.lst xs) ∧ DqAll K (wo S H) xs ds
  | .o c fs => ∃ dx vs, H a = some (.ins (He.ga K c) dx vs) ∧ DqF K (wo S H) vs fs
def ownS (σ : L2.St) (env : Env) : SS := fun s => ∃ i c, getO i env = some c ∧ σ[i]? = some (some (V.ref s))
def cells (σ : L2.St) (env : Env) (O : SS) : SS := fun s => ownS σ env s ∨ O s
/-- where one stands: the written part, the tables, the caught error, what is wished of errors -/
structure Z where
  K : PySem.W.Frag
  Tb : List Addr
  xi : Option (Addr × Value × Option Addr)
  W : WX
structure RelT (z : Z) (O : SS) (H : Hp) (σ : L2.St) (env : Env) : Prop where
  len : σ.length = env.length
  dat : ∀ (i : Nat) (d : D), env[i]? = some (Sl.dat d) → ∃ v : V, σ[i]? = some (some v) ∧ Dq z.K (wo (cells σ env O) H) v d
  own : ∀ (i : Nat) (c : Ct), getO i env = some c → ∃ a : Addr, σ[i]? = some (some (V.ref a)) ∧ RelC z.K (cells σ env O) H a c
  inj : ∀ (i j : Nat) (c c' : Ct) (a : Addr), getO i env = some c → getO j env = some c' → σ[i]? = some (some (V.ref a)) → σ[j]? = some (some (V.ref a)) → i = j
  out : ∀ (i : Nat) (c : Ct) (a : Addr), getO i env = some c → σ[i]? = some (some (V.ref a)) → ¬O a
  ex : ∀ (i : Nat) (x : Ex), env[i]? = some (Sl.ex x) → ∃ (a : Addr) (cls : Value) (d : Option Addr), z.xi = some (a, cls, d) ∧ σ[i]? = some (some (V.ref a)) ∧ ExR z.K (wo (cells σ env O) H) x cls d
  cl : Cl (cells σ env O) H
  tb : ∀ P ∈ z.Tb, GxR.TabG H P
def knd : Sl → Nat
  | .own _ => 1
  | .par _ => 2
  | _ => 0
/-- the same slots are owned -/
def SameO (env env' : Env) : Prop := env.length = env'.length ∧ ∀ i : Nat, (env[i]?).map knd = (env'[i]?).map knd
theorem SameO.refl (env : Env) : SameO env env := ⟨rfl, fun _ => rfl⟩
theorem SameO.trans {a b c : Env} (x : SameO a b) (y : SameO b c) : SameO a c := ⟨x.1.trans y.1, fun i => (x.2 i).trans (y.2 i)⟩
theorem SameO.symm {a b : Env} (x : SameO a b) : SameO b a := ⟨x.1.symm, fun i => (x.2 i).symm⟩
theorem getO_knd {env : Env} {i : Nat} : (getO i env).isSome = true ↔ ∃ k, (env[i]?).map knd = some k ∧ k ≠ 0 := by
  unfold getO
  cases e : env[i]? with
  | none => simp
  | some s => cases s <;> simp [knd]
theorem SameO.getO {env env' : Env} (h : SameO env env') {i : Nat} {c : Ct} (e : getO i env = some c) : ∃ c', UbP.getO i env' = some c' := by
  have h1 : (UbP.getO i env).isSome = true := by rw [e]; rfl
  have h2 : (UbP.getO i env').isSome = true := by
    rw [getO_knd] at h1 ⊢
    rw [← h.2 i]
    exact h1
  exact Option.isSome_iff_exists.mp h2
theorem SameO.ownS {env env' : Env} (h : SameO env env') (σ : L2.St) : ownS σ env = ownS σ env' := by
  funext s
  refine propext ⟨?_, ?_⟩
  · rintro ⟨i, c, e, g⟩
    obtain ⟨c', e'⟩ := h.getO e
    exact ⟨i, c', e', g⟩
  · rintro ⟨i, c, e, g⟩
    obtain ⟨c', e'⟩ := h.symm.getO e
    exact ⟨i, c', e', g⟩
theorem SameO.cells {env env' : Env} (h : SameO env env') (σ : L2.St) (O : SS) : cells σ env O = cells σ env' O := by
  unfold UbP.cells
  rw [h.ownS σ]
/-- the value v is what w says -/
def VRel (K : PySem.W.Frag) (S : SS) (σ : L2.St) (H : Hp) (v : V) : Vw → Prop
  | .d d => Dq K (wo S H) v d
  | .o i => σ[i]? = some (some v)
  | .f c => ∃ a, v = .ref a ∧ ¬S a ∧ RelC K (fun s => S s ∨ s = a) H a c
def NewV (H : Hp) (v : V) : Vw → Prop
  | .f _ => ∀ a, v = .ref a → H a = none
  | _ => True
section
variable {K : PySem.W.Frag} {S S' : SS} {H H' : Hp} {a : Addr} {c : Ct} {z : Z} {O : SS} {σ : L2.St} {env env' : Env} {v : V} {w : Vw}
theorem RelC.mono (e : Kp H H') (h : RelC K S H a c) : RelC K S H' a c := by
  cases c with
  | l ds =>
    obtain ⟨xs, h1, h2⟩ := h
    exact ⟨xs, e.but _ _ (fun z => z) h1 (fun _ z => by cases z), Dq.monoTAll (wT_of e) _ _ h2⟩
  | o c fs =>
    obtain ⟨dx, vs, h1, h2⟩ := h
    exact ⟨dx, vs, e.but _ _ (fun z => z) h1 (fun _ z => by cases z), Dq.monoTF (wT_of e) _ _ h2⟩
/-- other cells change -/
theorem RelC.moveC (e : SameC S' H H') (na : ¬S' a) (i : ∀ s, S' s → S s) (h : RelC K S H a c) : RelC K S H' a c := by
  cases c with
  | l ds =>
    obtain ⟨xs, h1, h2⟩ := h
    exact ⟨xs, e.but _ _ na h1 (fun _ z => by cases z), Dq.monoTAll (e.sub i).wT _ _ h2⟩
  | o c fs =>
    obtain ⟨dx, vs, h1, h2⟩ := h
    exact ⟨dx, vs, e.but _ _ na h1 (fun _ z => by cases z), Dq.monoTF (e.sub i).wT _ _ h2⟩
theorem RelC.sub (i : ∀ s, S' s → S s) (h : RelC K S H a c) : RelC K S' H a c := by
  cases c with
  | l ds =>
    obtain ⟨xs, h1, h2⟩ := h
    exact ⟨xs, h1, h2.mono (wo_sub i)⟩
  | o c fs =>
    obtain ⟨dx, vs, h1, h2⟩ := h
    exact ⟨dx, vs, h1, h2.mono (wo_sub i)⟩
theorem RelC.isC (h : RelC K S H a c) : ∃ o, H a = some o ∧ UbP.isC o := by
  cases c with
  | l ds =>
    obtain ⟨xs, h1, h2⟩ := h
    exact ⟨_, h1, True.intro⟩
  | o c fs =>
    obtain ⟨dx, vs, h1, h2⟩ := h
    exact ⟨_, h1, True.intro⟩
/-- owned no more: data -/
theorem RelC.data (na : ¬S a) (i : ∀ s, S s → S' s) (h : RelC K S' H a c) : Dq K (wo S H) (.ref a) c.toD := by
  cases c with
  | l ds =>
    obtain ⟨xs, h1, h2⟩ := h
    exact .lst (by rw [wo_out na]; exact h1) (h2.mono (wo_sub i))
  | o c fs =>
    obtain ⟨dx, vs, h1, h2⟩ := h
    exact .obj (by rw [wo_out na]; exact h1) (h2.mono (wo_sub i))
theorem VRel.move (e : SameC S' H H') (i : ∀ s, S' s → S s) (h : VRel K S σ H v w) : VRel K S σ H' v w := by
  cases w with
  | d x => exact Dq.monoT (e.sub i).wT _ _ h
  | o k => exact h
  | f c =>
    obtain ⟨a, ev, na, hc⟩ := h
    exact ⟨a, ev, na, hc.moveC e (fun z => na (i _ z)) fun s hs => .inl (i s hs)⟩
theorem VRel.mono (e : Kp H H') (h : VRel K S σ H v w) : VRel K S σ H' v w := h.move (S' := fun _ => False) e fun _ z => z.elim
theorem VRel.stay {d : D} (h : VRel K S σ H v w) (e : w.stay = some d) : Dq K (wo S H) v d := by
  cases w with
  | d x => cases e; exact h
  | o k => cases e
  | f c =>
    cases e
    obtain ⟨a, rfl, na, hc⟩ := h
    exact hc.data na fun s hs => .inl hs
theorem RelT.mono (e : Kp H H') (R : RelT z O H σ env) : RelT z O H' σ env :=
  ⟨R.len, fun i d h => let ⟨v, h1, h2⟩ := R.dat i d h; ⟨v, h1, Dq.monoT (wT_of e) _ _ h2⟩, fun i c h => let ⟨a, h1, h2⟩ := R.own i c h; ⟨a, h1, h2.mono e⟩, R.inj, R.out,
    fun i x h => let ⟨a, cls, d, h1, h2, h3, h4⟩ := R.ex i x h; ⟨a, cls, d, h1, h2, h3, h4.imp id fun ⟨dx, vs, g1, g2, g3⟩ => ⟨dx, vs, g1, (wT_of e).but _ _ g2 (fun _ z => by cases z), Dq.monoTF (wT_of e) _ _ g3⟩⟩,
    (Kp.C e).clS R.cl, fun P hP => e.tab P (R.tb P hP)⟩
/-- what is looked at now -/
def DV (K : PySem.W.Frag) (S : SS) (H : Hp) (v : V) : D → Prop
  | .lst ds => ∃ a xs, v = .ref a ∧ H a = some (.lst xs) ∧ DqAll K (wo S H) xs ds
  | .obj c fs => ∃ a dx vs, v = .ref a ∧ H a = some (.ins (He.ga K c) dx vs) ∧ DqF K (wo S H) vs fs
  | d => Dq K (wo S H) v d
theorem DV.of {d : D} (h : Dq K (wo S H) v d) : DV K S H v d := by
  cases d with
  | lst ds =>
    cases h with
    | lst h1 h2 => exact ⟨_, _, rfl, (wo_in h1).2, h2⟩
  | obj c fs =>
    cases h with
    | obj h1 h2 => exact ⟨_, _, _, rfl, (wo_in h1).2, h2⟩
  | _ => exact h
theorem DV.ofC (h : RelC K S H a c) : DV K S H (.ref a) c.toD := by
  cases c with
  | l ds =>
    obtain ⟨xs, h1, h2⟩ := h
    exact ⟨_, xs, rfl, h1, h2⟩
  | o c fs =>
    obtain ⟨dx, vs, h1, h2⟩ := h
    exact ⟨_, dx, vs, rfl, h1, h2⟩
theorem DV.dq {d : D} (h : DV K S H v d) : Dq K H v d := by
  cases d with
  | lst ds =>
    obtain ⟨a, xs, rfl, h1, h2⟩ := h
    exact .lst h1 (h2.mono wo_same)
  | obj c fs =>
    obtain ⟨a, dx, vs, rfl, h1, h2⟩ := h
    exact .obj h1 (h2.mono wo_same)
  | _ => exact Dq.out h
theorem VRel.now {d : D} (R : RelT z O H σ env) (h : VRel z.K (cells σ env O) σ H v w) (e : w.now env = some d) : DV z.K (cells σ env O) H v d := by
  cases w with
  | d x => cases e; exact .of h
  | o k =>
    obtain ⟨c, hc, rfl⟩ := Option.map_eq_some_iff.mp e
    obtain ⟨a, h1, h2⟩ := R.own k c hc
    have h : σ[k]? = some (some v) := h
    rw [h1] at h
    cases h
    exact .ofC h2
  | f c =>
    cases e
    obtain ⟨a, rfl, na, hc⟩ := h
    exact .ofC (hc.sub fun s hs => .inl hs)
end
/-! ### readings -/
/-- a new thing stands apart from all that is held -/
def AwayV (z : Z) (O : SS) (σ : L2.St) (env : Env) (H : Hp) (v : V) : Vw → Prop
  | .f _ => ∀ a, v = .ref a → RelT z (fun s => O s ∨ s = a) H σ env
  | _ => True
/-- how a result stands: α the plain one, β what the machine has -/
abbrev VRt (α β : Type) := Z → SS → Env → L2.St → Hp → Hp → β → α → Prop
def vE : VRt Vw V := fun z O env σ H H' v w => VRel z.K (cells σ env O) σ H' v w ∧ NewV H v w ∧ AwayV z O σ env H' v w
def vT : VRt Bool Bool := fun _ _ _ _ _ _ b c => b = c
def vA : VRt (List Vw) (List V) := fun z O env σ _ H' vs ws => Paired (VRel z.K (cells σ env O) σ H') vs ws
def vO : VRt (Option Int) (Option Int) := fun _ _ _ _ _ _ b c => b = c
def Back {α β : Type} (R : VRt α β) : Prop := ∀ z O env S' σ H H1 H' v w, SameC S' H H1 → R z O env σ H1 H' v w → R z O env σ H H' v w
def PostG {α β : Type} (R : VRt α β) (z : Z) (O : SS) (σ : L2.St) (env : Env) (H : Hp) (Q : β → Hp → Prop) : Res α → Prop
  | .ok w env' => ∀ v H', SameC (ownS σ env) H H' → RelT z O H' σ env' → SameO env env' → R z O env' σ H H' v w → Q v H'
  | .exc x env' => ∀ cls d H', SameC (ownS σ env) H H' → RelT z O H' σ env' → SameO env env' → ExR z.K (wo (cells σ env' O) H') x cls d → z.W cls d σ H'
  | .bad => False
def tG {α β : Type} (R : VRt α β) (z : Z) (f : M α) (σ : L2.St) (H : Hp) (Q : β → Hp → Prop) : Prop := ∃ O env, RelT z O H σ env ∧ PostG R z O σ env H Q (f env)
abbrev tP (z : Z) (f : M Vw) : TE := fun σ H Q => tG vE z f σ H Q
abbrev tT (z : Z) (f : M Bool) : TT := fun σ H Q => tG vT z f σ H Q
abbrev tA (z : Z) (f : M (List Vw)) : TA := fun σ H Q => tG vA z f σ H Q
abbrev tO (z : Z) (f : M (Option Int)) : TO := fun σ H Q => tG vO z f σ H Q
section
variable {X : Cx} {e : Expr} {es : List Expr}
theorem PE_imp {t t' : TE} (h : PE X e t) (i : ∀ σ H Q, t' σ H Q → t σ H Q) : PE X e t' := ⟨fun pins s σ H Q I q => h.run pins s σ H Q I (i _ _ _ q)⟩
theorem PT_imp {t t' : TT} (h : PT X e t) (i : ∀ σ H Q, t' σ H Q → t σ H Q) : PT X e t' := ⟨fun pins s σ H Q I q => h.run pins s σ H Q I (i _ _ _ q)⟩
theorem PW_imp {t t' : TT} (h : PW X e t) (i : ∀ σ H Q, t' σ H Q → t σ H Q) : PW X e t' := ⟨fun w pins s σ H Q I q => h.run w pins s σ H Q I (i _ _ _ q)⟩
theorem PA_imp {t t' : TA} (h : PA X es t) (i : ∀ σ H Q, t' σ H Q → t σ H Q) : PA X es t' := ⟨fun p pins s σ H Q I q => h.run p pins s σ H Q I (i _ _ _ q)⟩
theorem PS_imp {st : Stmt} {t t' : TS} (h : PS X st t) (i : ∀ D σ H, t' D σ H → t D σ H) : PS X st t' := ⟨fun pins s σ H D I q => h.run pins s σ H D I (i _ _ _ q)⟩
theorem PSs_imp {st : List Stmt} {t t' : TS} (h : PSs X st t) (i : ∀ D σ H, t' D σ H → t D σ H) : PSs X st t' := ⟨fun pins s σ H D I q => h.run pins s σ H D I (i _ _ _ q)⟩
end
section
variable {z : Z} {O : SS} {σ : L2.St} {env env1 : Env} {H H1 H' : Hp} {α β γ δ : Type}
theorem NewV.back {S : SS} {v : V} {w : Vw} (e : SameC S H H1) (h : NewV H1 v w) : NewV H v w := by
  cases w with
  | f c0 => exact fun a ev => e.dom a (h a ev)
  | _ => exact True.intro
theorem bkE : Back vE := fun _ _ _ _ _ _ _ _ _ _ e h => ⟨h.1, h.2.1.back e, h.2.2⟩
theorem bkT : Back vT := fun _ _ _ _ _ _ _ _ _ _ _ h => h
theorem bkA : Back vA := fun _ _ _ _ _ _ _ _ _ _ _ h => h
theorem bkO : Back vO := fun _ _ _ _ _ _ _ _ _ _ _ h => h
theorem PostG.move {R : VRt α β} {Q : β → Hp → Prop} {r : Res α} (b : Back R) (e : SameC (ownS σ env) H H1) (so : SameO env env1) (h : PostG R z O σ env H Q r) : PostG R z O σ env1 H1 Q r := by
  cases r with
  | ok w env' =>
    intro v H' e' R' so' V
    rw [← so.ownS σ] at e'
    exact h v H' (e.trans e') R' (so.trans so') (b _ _ _ _ _ _ _ _ _ _ e V)
  | exc x env' =>
    intro cls d H' e' R' so' X
    rw [← so.ownS σ] at e'
    exact h cls d H' (e.trans e') R' (so.trans so') X
  | bad => exact h
theorem tG_mono {R1 : VRt α β} {m : M α} {Q Q' : β → Hp → Prop} (h : tG R1 z m σ H Q) (i : ∀ v H', Q v H' → Q' v H') : tG R1 z m σ H Q' := by
  obtain ⟨O, env, R, P⟩ := h
  refine ⟨O, env, R, ?_⟩
  cases e : m env with
  | ok w env1 => rw [e] at P; exact fun v H' a b c d => i _ _ (P v H' a b c d)
  | exc x env1 => rw [e] at P; exact P
  | bad => rw [e] at P; exact P
/-- one step: the first part runs, the rest is what follows -/
theorem post_bnd {R1 : VRt α β} {R2 : VRt γ δ} {m : M α} {k : α → M γ} {Q : δ → Hp → Prop} (b : Back R2) (R : RelT z O H σ env) (P : PostG R2 z O σ env H Q (bnd m k env)) :
    tG R1 z m σ H fun v H1 => ∃ env1 w, RelT z O H1 σ env1 ∧ SameC (ownS σ env) H H1 ∧ SameO env env1 ∧ R1 z O env1 σ H H1 v w ∧ PostG R2 z O σ env1 H1 Q (k w env1) := by
  refine ⟨O, env, R, ?_⟩
  unfold bnd at P
  cases e : m env with
  | ok w env1 =>
    rw [e] at P
    intro v H1 s1 R1' so V
    exact ⟨env1, w, R1', s1, so, V, PostG.move b s1 so P⟩
  | exc x env1 => rw [e] at P; exact P
  | bad => rw [e] at P; exact P
theorem tG_ret {R1 : VRt α β} {a : α} {b : β} {Q : β → Hp → Prop} (R : RelT z O H σ env) (P : PostG R1 z O σ env H Q ((ret a : M α) env)) (V : R1 z O env σ H H b a) : Q b H := P b H (SameC.refl H) R (SameO.refl env) V
theorem post_opt {R1 : VRt γ δ} {o : Option α} {k : α → M γ} {Q : δ → Hp → Prop} (P : PostG R1 z O σ env H Q (bnd (optM o) k env)) : ∃ a, o = some a ∧ PostG R1 z O σ env H Q (k a env) := by
  unfold bnd optM at P
  cases o with
  | none => exact P.elim
  | some a => exact ⟨a, rfl, P⟩
theorem post_now {R1 : VRt γ δ} {w : Vw} {k : D → M γ} {Q : δ → Hp → Prop} (P : PostG R1 z O σ env H Q (bnd (nowM w) k env)) : ∃ a, w.now env = some a ∧ PostG R1 z O σ env H Q (k a env) := by
  unfold bnd nowM at P
  cases e : w.now env with
  | none => rw [e] at P; exact P.elim
  | some a => rw [e] at P; exact ⟨a, rfl, P⟩
theorem post_stay {R1 : VRt γ δ} {w : Vw} {k : D → M γ} {Q : δ → Hp → Prop} (P : PostG R1 z O σ env H Q (bnd (stayM w) k env)) : ∃ a, w.stay = some a ∧ PostG R1 z O σ env H Q (k a env) := post_opt P
theorem post_optE {R1 : VRt α β} {o : Option α} {Q : β → Hp → Prop} (P : PostG R1 z O σ env H Q (optM o env)) : ∃ a, o = some a ∧ PostG R1 z O σ env H Q ((ret a : M α) env) := by
  unfold optM at P
  cases o with
  | none => exact P.elim
  | some a => exact ⟨a, rfl, P⟩
theorem fresh_same {S : SS} {a : Addr} (na : H a = none) (e : Kp H H') : UbG.SameT (wo S H) (wo (fun s => S s ∨ s = a) H') := by
  have out : ∀ b o, wo S H b = some o → ¬(S b ∨ b = a) := fun b o h z => by
    obtain ⟨h1, h2⟩ := wo_in h
    rcases z with z | z
    · exact h1 z
    · rw [z, na] at h2
      cases h2
  refine ⟨fun b o h t => ?_, fun P ⟨ps, h, t⟩ => ?_⟩
  · rw [wo_out (out b o h)]
    exact e.but b o (fun z => z) (wo_in h).2 t
  · obtain ⟨qs, g, t2⟩ := e.tab P ⟨ps, (wo_in h).2, t⟩
    exact ⟨qs, by rw [wo_out (out P _ h)]; exact g, t2⟩
/-- all that is held stands apart from a new thing -/
theorem RelT.fresh {a : Addr} (R : RelT z O H σ env) (na : H a = none) (e : Kp H H') (hc : ∃ o, H' a = some o ∧ isC o) : RelT z (fun s => O s ∨ s = a) H' σ env := by
  have ec : cells σ env (fun s => O s ∨ s = a) = fun s => cells σ env O s ∨ s = a := by
    funext s
    exact propext ⟨fun h => h.elim (fun h => .inl (.inl h)) fun h => h.elim (fun h => .inl (.inr h)) .inr, fun h => h.elim (fun h => h.elim .inl fun h => .inr (.inl h)) fun h => .inr (.inr h)⟩
  have wt := fresh_same (S := cells σ env O) na e
  rw [← ec] at wt
  have no : ∀ b, cells σ env O b → b ≠ a := fun b hb z => by
    obtain ⟨o, h, _⟩ := R.cl b hb
    rw [z, na] at h
    cases h
  refine ⟨R.len, fun j d h => ?_, fun j c h => ?_, R.inj, fun j c b g h hO => ?_, fun j x h => ?_, fun s hs => ?_, fun P hP => e.tab P (R.tb P hP)⟩
  · obtain ⟨v, h1, h2⟩ := R.dat j d h
    exact ⟨v, h1, Dq.monoT wt _ _ h2⟩
  · obtain ⟨b, h1, h2⟩ := R.own j c h
    refine ⟨b, h1, ?_⟩
    cases c with
    | l ds =>
      obtain ⟨xs, g1, g2⟩ := h2
      exact ⟨xs, e.but _ _ (fun z => z) g1 (fun _ z => by cases z), Dq.monoTAll wt _ _ g2⟩
    | o c fs =>
      obtain ⟨dx, vs, g1, g2⟩ := h2
      exact ⟨dx, vs, e.but _ _ (fun z => z) g1 (fun _ z => by cases z), Dq.monoTF wt _ _ g2⟩
  · rcases hO with h' | h'
    · exact R.out j c b g h h'
    · exact no b (.inl ⟨j, c, g, h⟩) h'
  · obtain ⟨a, cls, d, h1, h2, h3, h4⟩ := R.ex j x h
    exact ⟨a, cls, d, h1, h2, h3, h4.imp id fun ⟨dx, vs, g1, g2, g3⟩ => ⟨dx, vs, g1, wt.but _ _ g2 (fun _ z => by cases z), Dq.monoTF wt _ _ g3⟩⟩
  · rw [ec] at hs
    rcases hs with h | h
    · exact (Kp.C e).clS R.cl s h
    · rw [h]
      exact hc
theorem away_of {v : V} {w : Vw} (R : RelT z O H σ env) (e : Kp H H') (hV : VRel z.K (cells σ env O) σ H' v w) (N : NewV H v w) : AwayV z O σ env H' v w := by
  cases w with
  | f c =>
    intro a ea
    obtain ⟨b, eb, _, hc⟩ := hV
    rw [ea] at eb
    cases eb
    exact R.fresh (N a ea) e hc.isC
  | _ => exact True.intro
/-- the end with new things in the heap -/
theorem post_new {a : Vw} {v : V} {Q : VK} (R : RelT z O H σ env) (P : PostG vE z O σ env H Q ((ret a : M Vw) env)) (e : Same H H') (V : VRel z.K (cells σ env O) σ H' v a) (N : NewV H v a) : Q v H' :=
  P v H' (sameC e) (R.mono (kp e)) (SameO.refl env) ⟨V, N, away_of R (kp e) V N⟩
end
/-! ### operators -/
section
variable {X : Cx} {z : Z} {e a b c : Expr} {es : List Expr} {fa fb fc : M Vw} {pos p : Pos} {x : Str}
/-- the operator's reading follows from the plain function -/
def OpS (K : PySem.W.Frag) (f : D → D → Option Vw) (r : R2) : Prop := ∀ (S : SS) (σ : L2.St) (H : Hp) (Q : VK) (x y : V) (a b : D) (w : Vw), Cl S H → DV K S H x a → DV K S H y b → f a b = some w → (∀ v H', Same H H' → VRel K S σ H' v w → NewV H v w → Q v H') → r x y H Q
def UnS (K : PySem.W.Frag) (f : D → Option Vw) (r : V → Hp → VK → Prop) : Prop := ∀ (S : SS) (σ : L2.St) (H : Hp) (Q : VK) (x : V) (a : D) (w : Vw), Cl S H → DV K S H x a → f a = some w → (∀ v H', Same H H' → VRel K S σ H' v w → NewV H v w → Q v H') → r x H Q
theorem same_refl {H : Hp} : Same H H := fun _ _ h => h
theorem OpR.or {f : Value → Value → Sem Value} {r1 r2 : R2} (h1 : OpR X f r1) (h2 : OpR X f r2) : OpR X f (fun x y H Q => r1 x y H Q ∨ r2 x y H Q) := fun pins s σ H x y v u Q I rx ry h => h.elim (h1 pins s σ H x y v u Q I rx ry) (h2 pins s σ H x y v u Q I rx ry)
theorem IxR.or {r1 r2 : R2} (h1 : IxR X r1) (h2 : IxR X r2) : IxR X (fun x y H Q => r1 x y H Q ∨ r2 x y H Q) := fun a b pins s σ H x y v u Q I rx ry h => h.elim (h1 a b pins s σ H x y v u Q I rx ry) (h2 a b pins s σ H x y v u Q I rx ry)
theorem CallR.or {f : Value} {r1 r2 : List V → Hp → VK → Prop} (h1 : CallR X f r1) (h2 : CallR X f r2) : CallR X f (fun x H Q => r1 x H Q ∨ r2 x H Q) := fun pins s σ H x v Q I rx h => h.elim (h1 pins s σ H x v Q I rx) (h2 pins s σ H x v Q I rx)
theorem vmove {O : SS} {σ : L2.St} {env env1 : Env} {H H1 : Hp} {v : V} {w : Vw} (s1 : SameC (ownS σ env) H H1) (so : SameO env env1) (h : VRel z.K (cells σ env O) σ H v w) : VRel z.K (cells σ env1 O) σ H1 v w := by
  rw [← so.cells σ O]
  exact h.move s1 fun s hs => .inl hs
theorem pu_bin {f : D → D → Option Vw} {r : R2} (s : OpS z.K f r) (σ : L2.St) (H : Hp) (Q : VK) (h : tP z (eB f fa fb) σ H Q) : tOp r (tP z fa) (tP z fb) σ H Q := by
  obtain ⟨O, env, R, P⟩ := h
  refine tG_mono (post_bnd bkE R P) fun v H1 ⟨env1, w, R1, s1, so1, V, P1⟩ => ?_
  refine tG_mono (post_bnd bkE R1 P1) fun u H2 ⟨env2, w2, R2, s2, so2, V2, P2⟩ => ?_
  obtain ⟨d1, e1, P3⟩ := post_now P2
  obtain ⟨d2, e2, P4⟩ := post_now P3
  obtain ⟨r1, e3, P5⟩ := post_optE P4
  exact s _ σ H2 Q v u d1 d2 r1 R2.cl ((vmove s2 so2 V.1).now R2 e1) (V2.1.now R2 e2) e3 fun v' H' e V' N => post_new R2 P5 e V' N
theorem pu_un {f : D → Option Vw} {r : V → Hp → VK → Prop} (s : UnS z.K f r) (σ : L2.St) (H : Hp) (Q : VK) (h : tP z (eU f fa) σ H Q) : tUn r (tP z fa) σ H Q := by
  obtain ⟨O, env, R, P⟩ := h
  refine tG_mono (post_bnd bkE R P) fun v H1 ⟨env1, w, R1, s1, so1, V, P1⟩ => ?_
  obtain ⟨d1, e1, P3⟩ := post_now P1
  obtain ⟨r1, e3, P5⟩ := post_optE P3
  exact s _ σ H1 Q v d1 r1 R1.cl (V.1.now R1 e1) e3 fun v' H' e V' N => post_new R1 P5 e V' N
theorem pu_tbin {f : D → D → Option Bool} {r : R2} (s : OpS z.K (fun a b => (f a b).map fun k => .d (.bl k)) r) (σ : L2.St) (H : Hp) (Q : Bool → Hp → Prop) (h : tT z (UbP.tB f fa fb) σ H Q) : tTest (tOp r (tP z fa) (tP z fb)) σ H Q := by
  obtain ⟨O, env, R, P⟩ := h
  refine tG_mono (post_bnd bkT R P) fun v H1 ⟨env1, w, R1, s1, so1, V, P1⟩ => ?_
  refine tG_mono (post_bnd bkT R1 P1) fun u H2 ⟨env2, w2, R2, s2, so2, V2, P2⟩ => ?_
  obtain ⟨d1, e1, P3⟩ := post_now P2
  obtain ⟨d2, e2, P4⟩ := post_now P3
  obtain ⟨r1, e3, P5⟩ := post_optE P4
  refine s _ σ H2 _ v u d1 d2 (.d (.bl r1)) R2.cl ((vmove s2 so2 V.1).now R2 e1) (V2.1.now R2 e2) (by show Option.map _ (f d1 d2) = _; rw [e3]; rfl) fun v' H' e V' N => ?_
  have V' : Dq z.K _ v' (.bl r1) := V'
  cases V'
  exact ⟨r1, rfl, P5 r1 H' (sameC e) (R2.mono (kp e)) (SameO.refl _) rfl⟩
theorem pe_pv (i : Nat) (hN : X.N[i]? = some x := by rfl) (hv : Vis X.env.scope x := by first | exact Or.inl rfl | exact Or.inr (Or.inl rfl) | exact Or.inr (Or.inr rfl)) (hd : (x == ("__debug__" : Str)) = false := by decide) (hcd : (x == ("__classdict__" : Str)) = false := by decide) : PE X (.Name x pos) (tP z (eV i)) := by
  refine PE_imp (pe_var hN hv hd hcd) fun σ H Q ⟨O, env, R, P⟩ => ?_
  unfold eV at P
  have go : ∀ v w, σ[i]? = some (some v) → VRel z.K (cells σ env O) σ H v w → (∀ c, w ≠ .f c) → PostG vE z O σ env H Q (.ok w env) → tVar i σ H Q := fun v w h V n P => by
    refine ⟨v, h, P v H (SameC.refl H) R (SameO.refl env) ⟨V, ?_⟩⟩
    cases w with
    | f c => exact absurd rfl (n c)
    | _ => exact ⟨True.intro, True.intro⟩
  have view : ∀ c, getO i env = some c → PostG vE z O σ env H Q (.ok (.o i) env) → tVar i σ H Q := fun c hc P => by
    obtain ⟨a, h1, h2⟩ := R.own i c hc
    exact go (.ref a) (.o i) h1 h1 (fun _ z => nomatch z) P
  cases e : env[i]? with
  | none => rw [e] at P; exact P.elim
  | some s =>
    rw [e] at P
    cases s with
    | dat d =>
      obtain ⟨v, h1, h2⟩ := R.dat i d e
      exact go v (.d d) h1 h2 (fun _ z => nomatch z) P
    | own c => exact view c (by unfold getO; rw [e]) P
    | par c => exact view c (by unfold getO; rw [e]) P
    | no => exact P.elim
    | ex x => exact P.elim
end
end UbP

namespace UbP
open PySem PySem.Spec PyProof.Rows L2 UbM Ub
/-! ### operators on values -/
section
variable {K : PySem.W.Frag} {S : SS} {σ : L2.St} {H : Hp} {Q : VK} {x y : V} {X : Cx}
theorem dv_int {i : Int} (h : DV K S H x (.int i)) : x = .int i := by
  have h : Dq K _ x (.int i) := h
  cases h; rfl
theorem dv_bl {i : Bool} (h : DV K S H x (.bl i)) : x = .bl i := by
  have h : Dq K _ x (.bl i) := h
  cases h; rfl
theorem dv_str {i : Str} (h : DV K S H x (.str i)) : x = .str i := by
  have h : Dq K _ x (.str i) := h
  cases h; rfl
theorem dv_non (h : DV K S H x .non) : x = .non := by
  have h : Dq K _ x .non := h
  cases h; rfl
theorem dv_lst {ds : List D} (h : DV K S H x (.lst ds)) : ∃ a xs, x = .ref a ∧ H a = some (.lst xs) ∧ DqAll K (wo S H) xs ds := h
theorem dv_tup {ds : List D} (h : DV K S H x (.tup ds)) : ∃ a xs, x = .ref a ∧ SqT K H a xs ∧ DqAll K (wo S H) xs ds := by
  have h : Dq K _ x (.tup ds) := h
  cases h with
  | tup h1 h2 => exact ⟨_, _, rfl, Same.tseq wo_same h1, h2⟩
theorem dv_tupD {ds : List D} (h : DV K S H x (.tup ds)) : Dq K (wo S H) x (.tup ds) := h
theorem dv_lsf {ds : List D} (h : DV K S H x (.lsf ds)) : ∃ a xs, x = .ref a ∧ SqL K H a xs ∧ DqAll K (wo S H) xs ds := by
  have h : Dq K _ x (.lsf ds) := h
  cases h with
  | lsf h1 h2 => exact ⟨_, _, rfl, Same.seq wo_same h1, h2⟩
/-- a list of any kind -/
theorem dv_sq {ds : List D} (h : DV K S H x (.lst ds) ∨ DV K S H x (.lsf ds)) : ∃ a xs, x = .ref a ∧ SqL K H a xs ∧ DqAll K (wo S H) xs ds := by
  rcases h with h | h
  · obtain ⟨a, xs, e, h1, h2⟩ := dv_lst h
    exact ⟨a, xs, e, .inl (.inl h1), h2⟩
  · exact dv_lsf h
abbrev Kt (K : PySem.W.Frag) (S : SS) (σ : L2.St) (H : Hp) (w : Vw) (Q : VK) : Prop := ∀ v H', Same H H' → VRel K S σ H' v w → NewV H v w → Q v H'
theorem k_int {i : Int} {w : Vw} (e : vI i = some w) (k : Kt K S σ H w Q) : Q (.int i) H := by
  cases e
  exact k _ H same_refl (.int i) True.intro
theorem k_bl {i : Bool} {w : Vw} (e : vB i = some w) (k : Kt K S σ H w Q) : Q (.bl i) H := by
  cases e
  exact k _ H same_refl (.bl i) True.intro
theorem k_str {i : Str} (k : Kt K S σ H (.d (.str i)) Q) : Q (.str i) H := k _ H same_refl (.str i) True.intro
theorem k_d {d : D} {v : V} (h : Dq K (wo S H) v d) (k : Kt K S σ H (.d d) Q) : Q v H := k _ H same_refl h True.intro
theorem k_lst {xs : List V} {ds : List D} {p : Addr} (cl : Cl S H) (np : H p = none) (h : DqAll K (wo S H) xs ds) (k : Kt K S σ H (.f (.l ds)) Q) : Q (.ref p) (upd H p (.lst xs)) := by
  refine k _ _ (sameNew np) ⟨p, rfl, cl.new np, xs, upd_same, ?_⟩ fun a ea => by cases ea; exact np
  have e : wo (fun s => S s ∨ s = p) (upd H p (.lst xs)) = wo S H := by
    rw [wo_upd (.inr rfl)]
    funext b
    by_cases hb : S b
    · unfold wo; rw [if_pos (.inl hb), if_pos hb]
    · by_cases hp : b = p
      · rw [wo_out hb, hp, np]
        unfold wo
        rw [if_pos (.inr rfl)]
      · rw [wo_out hb, wo_out (fun z => z.elim hb hp)]
  rw [e]
  exact h
theorem k_tup {xs : List V} {ds : List D} {p : Addr} (cl : Cl S H) (np : H p = none) (h : DqAll K (wo S H) xs ds) (k : Kt K S σ H (.d (.tup ds)) Q) : Q (.ref p) (upd H p (.tup xs)) := by
  refine k _ _ (sameNew np) ?_ True.intro
  show Dq K (wo S _) _ _
  rw [wo_new (cl.new np)]
  exact .tup (.inl (.inl upd_same)) (h.mono (sameNew (wo_none np)))
theorem line_lim {n : Nat} (h : n ≤ LIM) : n ≤ sizeLine := by
  rw [sizeLine_eq]
  unfold LIM at h
  omega
/-! + -/
def rAddA : R2 := fun x y H Q => rI0 (fun i j => .int (i + j)) x y H Q ∨ ((∃ i j, x = .str i ∧ y = .str j ∧ i.length + j.length ≤ sizeLine ∧ Q (.str (i ++ j)) H) ∨ rCat x y H Q)
theorem op_addA : OpR X (binaryOp .Add) rAddA := OpR.or op_add (OpR.or op_add_str op_cat)
theorem os_add : OpS K addD rAddA := by
  intro S σ H Q x y a b w cl ha hb e k
  unfold addD at e
  split at e
  · cases dv_int ha
    cases dv_int hb
    exact .inl ⟨_, _, rfl, rfl, k_int e k⟩
  · cases dv_str ha
    cases dv_str hb
    split at e
    · rename_i hl
      cases e
      exact .inr (.inl ⟨_, _, rfl, rfl, line_lim hl, k_str k⟩)
    · cases e
  · obtain ⟨p, xs, rfl, h1, h2⟩ := dv_lst ha
    obtain ⟨q, ys, rfl, g1, g2⟩ := dv_lst hb
    split at e
    · rename_i hl
      cases e
      exact .inr (.inr ⟨p, q, xs, ys, rfl, rfl, h1, g1, by rw [h2.len, g2.len]; exact line_lim hl, fun r nr => k_lst cl nr (h2.app g2) k⟩)
    · cases e
  · cases e
theorem os_sub : OpS K subD (rI0 fun i j => .int (i - j)) := by
  intro S σ H Q x y a b w cl ha hb e k
  unfold subD at e
  split at e
  · cases dv_int ha
    cases dv_int hb
    exact ⟨_, _, rfl, rfl, k_int e k⟩
  · cases e
def rMulA : R2 := fun x y H Q => rI CMulG (fun i j => .int (i * j)) x y H Q ∨ rRep x y H Q
theorem op_mulA : OpR X (binaryOp .Mult) rMulA := OpR.or op_mulG op_rep
theorem os_mul : OpS K mulD rMulA := by
  intro S σ H Q x y a b w cl ha hb e k
  unfold mulD at e
  split at e
  · cases dv_int ha
    cases dv_int hb
    split at e
    · rename_i hl
      refine .inl ⟨_, _, rfl, rfl, ?_, k_int e k⟩
      unfold UbP.log2 smI at hl
      rcases Bool.or_eq_true_iff.mp hl with hl | hl
      · rcases Bool.or_eq_true_iff.mp hl with hl | hl
        · have hl := of_decide_eq_true hl
          exact .inl (.inl (by omega))
        · have hl := of_decide_eq_true hl
          exact .inl (.inr (by omega))
      · have hl := of_decide_eq_true hl
        exact .inr (by unfold CMulW; omega)
    · cases e
  · obtain ⟨p, xs, rfl, h1, h2⟩ := dv_lst ha
    cases dv_int hb
    split at e
    · rename_i hl
      cases e
      exact .inr ⟨p, _, xs, rfl, rfl, h1, by omega, by omega, by rw [h2.len]; exact line_lim hl.2.1, fun r nr => k_lst cl nr (h2.rep _) k⟩
    · cases e
  · cases e
theorem os_fdiv : OpS K fdivD (rI CDivX fun i j => .int (i.fdiv j)) := by
  intro S σ H Q x y a b w cl ha hb e k
  unfold fdivD at e
  split at e
  · cases dv_int ha
    cases dv_int hb
    split at e
    · rename_i hl
      exact ⟨_, _, rfl, rfl, hl, k_int e k⟩
    · cases e
  · cases e
theorem os_mod : OpS K modD (rI (fun _ j => j ≠ 0) fun i j => .int (i.fmod j)) := by
  intro S σ H Q x y a b w cl ha hb e k
  unfold modD at e
  split at e
  · cases dv_int ha
    cases dv_int hb
    split at e
    · rename_i hl
      exact ⟨_, _, rfl, rfl, hl, k_int e k⟩
    · cases e
  · cases e
theorem os_pow : OpS K powD (rI CPow fun i j => .int (i ^ j.toNat)) := by
  intro S σ H Q x y a b w cl ha hb e k
  unfold powD at e
  split at e
  · cases dv_int ha
    cases dv_int hb
    split at e
    · rename_i hl
      exact ⟨_, _, rfl, rfl, ⟨hl.1, by omega, hl.2.2⟩, k_int e k⟩
    · cases e
  · cases e
theorem us_neg : UnS K negD (rU fun i => .int (-i)) := by
  intro S σ H Q x a w cl ha e k
  unfold negD at e
  split at e
  · cases dv_int ha
    exact ⟨_, rfl, k_int e k⟩
  · cases e
/-! comparisons -/
theorem os_cmpI {f : Int → Int → Bool} {r : R2} (h : ∀ i j H Q, Q (.bl (f i j)) H → r (.int i) (.int j) H Q) : OpS K (fun a b => (cmpI f a b).map fun k => .d (.bl k)) r := by
  intro S σ H Q x y a b w cl ha hb e k
  unfold cmpI at e
  dsimp only at e
  split at e
  · cases dv_int ha
    cases dv_int hb
    exact h _ _ _ _ (k_bl e k)
  · cases e
theorem os_lt : OpS K (fun a b => (ltD a b).map fun k => .d (.bl k)) (rI0 fun i j => .bl (decide (i < j))) := os_cmpI fun i j H Q q => ⟨i, j, rfl, rfl, q⟩
theorem os_le : OpS K (fun a b => (leD a b).map fun k => .d (.bl k)) (rI0 fun i j => .bl (decide (i ≤ j))) := os_cmpI fun i j H Q q => ⟨i, j, rfl, rfl, q⟩
theorem os_gt : OpS K (fun a b => (gtD a b).map fun k => .d (.bl k)) (rI0 fun i j => .bl (decide (j < i))) := os_cmpI fun i j H Q q => ⟨i, j, rfl, rfl, q⟩
theorem os_ge : OpS K (fun a b => (geD a b).map fun k => .d (.bl k)) (rI0 fun i j => .bl (decide (j ≤ i))) := os_cmpI fun i j H Q q => ⟨i, j, rfl, rfl, q⟩
mutual
/-- as the library's data -/
def py : D → PyData
  | .non => .none
  | .bl b => .bool b
  | .int i => .int i
  | .str x => .str x
  | .lst ds => .list (pyAll ds)
  | .tup ds => .tuple (pyAll ds)
  | .lsf _ => .none
  | .obj _ _ => .none
def pyAll : List D → List PyData
  | [] => []
  | d :: ds => py d :: pyAll ds
end
mutual
theorem py_sh : ∀ (d : D) (n : Nat), sh d n = true → (py d).canLay0 = true ∧ (py d).depth ≤ n
  | .non, n, _ => ⟨rfl, Nat.zero_le _⟩
  | .bl b, n, _ => ⟨rfl, Nat.zero_le _⟩
  | .int i, n, _ => ⟨rfl, Nat.zero_le _⟩
  | .str x, n, h => ⟨h, Nat.zero_le _⟩
  | .lst ds, n, h => by
    unfold sh at h
    obtain ⟨h0, h1⟩ := Bool.and_eq_true_iff.mp h
    have h0 : 0 < n := of_decide_eq_true h0
    obtain ⟨g1, g2⟩ := py_shAll ds _ h1
    exact ⟨g1, by show PyData.depthAll (pyAll ds) + 1 ≤ n; omega⟩
  | .tup ds, n, h => by
    unfold sh at h
    obtain ⟨h0, h1⟩ := Bool.and_eq_true_iff.mp h
    have h0 : 0 < n := of_decide_eq_true h0
    obtain ⟨g1, g2⟩ := py_shAll ds _ h1
    exact ⟨g1, by show PyData.depthAll (pyAll ds) + 1 ≤ n; omega⟩
  | .lsf _, n, h => by unfold sh at h; cases h
  | .obj _ _, n, h => by unfold sh at h; cases h
theorem py_shAll : ∀ (ds : List D) (n : Nat), shAll ds n = true → PyData.canLayAll0 (pyAll ds) = true ∧ PyData.depthAll (pyAll ds) ≤ n
  | [], n, _ => ⟨rfl, Nat.zero_le _⟩
  | d :: ds, n, h => by
    unfold shAll at h
    obtain ⟨h0, h1⟩ := Bool.and_eq_true_iff.mp h
    obtain ⟨f1, f2⟩ := py_sh d n h0
    obtain ⟨g1, g2⟩ := py_shAll ds n h1
    refine ⟨?_, ?_⟩
    · show (PyData.canLay0 (py d) && PyData.canLayAll0 (pyAll ds)) = true
      rw [f1, g1]
      rfl
    · show max (PyData.depth (py d)) (PyData.depthAll (pyAll ds)) ≤ n
      omega
end
mutual
theorem py_eqv : ∀ (d e : D) (n m : Nat), sh d n = true → sh e m = true → PyData.eqv (py d) (py e) = eqv d e
  | .lsf _, _, n, m, h, _ => by unfold sh at h; cases h
  | .obj _ _, _, n, m, h, _ => by unfold sh at h; cases h
  | d, .lsf _, n, m, _, h => by unfold sh at h; cases h
  | d, .obj _ _, n, m, _, h => by unfold sh at h; cases h
  | .lst xs, .lst ys, n, m, h, g => by
    unfold sh at h g
    have z := py_eqvAll xs ys _ _ (Bool.and_eq_true_iff.mp h).2 (Bool.and_eq_true_iff.mp g).2
    show PyData.eqvAll (pyAll xs) (pyAll ys) = eqv (.lst xs) (.lst ys)
    rw [z]
    unfold eqv
    rfl
  | .tup xs, .tup ys, n, m, h, g => by
    unfold sh at h g
    have z := py_eqvAll xs ys _ _ (Bool.and_eq_true_iff.mp h).2 (Bool.and_eq_true_iff.mp g).2
    show PyData.eqvAll (pyAll xs) (pyAll ys) = eqv (.tup xs) (.tup ys)
    rw [z]
    unfold eqv
    rfl
  | .non, .non, _, _, _, _ => by simp [py, PyData.eqv, eqv]
  | .non, .bl _, _, _, _, _ => by simp [py, PyData.eqv, eqv]
  | .non, .int _, _, _, _, _ => by simp [py, PyData.eqv, eqv]
  | .non, .str _, _, _, _, _ => by simp [py, PyData.eqv, eqv]
  | .non, .lst _, _, _, _, _ => by simp [py, PyData.eqv, eqv]
  | .non, .tup _, _, _, _, _ => by simp [py, PyData.eqv, eqv]
  | .bl _, .non, _, _, _, _ => by simp [py, PyData.eqv, eqv]
  | .bl _, .bl _, _, _, _, _ => by simp [py, PyData.eqv, eqv]
  | .bl _, .int _, _, _, _, _ => by simp [py, PyData.eqv, eqv]
  | .bl _, .str _, _, _, _, _ => by simp [py, PyData.eqv, eqv]
  | .bl _, .lst _, _, _, _, _ => by simp [py, PyData.eqv, eqv]
  | .bl _, .tup _, _, _, _, _ => by simp [py, PyData.eqv, eqv]
  | .int _, .non, _, _, _, _ => by simp [py, PyData.eqv, eqv]
  | .int _, .bl _, _, _, _, _ => by simp [py, PyData.eqv, eqv]
  | .int _, .int _, _, _, _, _ => by simp [py, PyData.eqv, eqv]
  | .int _, .str _, _, _, _, _ => by simp [py, PyData.eqv, eqv]
  | .int _, .lst _, _, _, _, _ => by simp [py, PyData.eqv, eqv]
  | .int _, .tup _, _, _, _, _ => by simp [py, PyData.eqv, eqv]
  | .str _, .non, _, _, _, _ => by simp [py, PyData.eqv, eqv]
  | .str _, .bl _, _, _, _, _ => by simp [py, PyData.eqv, eqv]
  | .str _, .int _, _, _, _, _ => by simp [py, PyData.eqv, eqv]
  | .str _, .str _, _, _, _, _ => by simp [py, PyData.eqv, eqv]
  | .str _, .lst _, _, _, _, _ => by simp [py, PyData.eqv, eqv]
  | .str _, .tup _, _, _, _, _ => by simp [py, PyData.eqv, eqv]
  | .lst _, .non, _, _, _, _ => by simp [py, PyData.eqv, eqv]
  | .lst _, .bl _, _, _, _, _ => by simp [py, PyData.eqv, eqv]
  | .lst _, .int _, _, _, _, _ => by simp [py, PyData.eqv, eqv]
  | .lst _, .str _, _, _, _, _ => by simp [py, PyData.eqv, eqv]
  | .lst _, .tup _, _, _, _, _ => by simp [py, PyData.eqv, eqv]
  | .tup _, .non, _, _, _, _ => by simp [py, PyData.eqv, eqv]
  | .tup _, .bl _, _, _, _, _ => by simp [py, PyData.eqv, eqv]
  | .tup _, .int _, _, _, _, _ => by simp [py, PyData.eqv, eqv]
  | .tup _, .str _, _, _, _, _ => by simp [py, PyData.eqv, eqv]
  | .tup _, .lst _, _, _, _, _ => by simp [py, PyData.eqv, eqv]
theorem py_eqvAll : ∀ (xs ys : List D) (n m : Nat), shAll xs n = true → shAll ys m = true → PyData.eqvAll (pyAll xs) (pyAll ys) = eqvAll xs ys
  | [], [], _, _, _, _ => by simp [pyAll, PyData.eqvAll, eqvAll]
  | [], _ :: _, _, _, _, _ => by simp [pyAll, PyData.eqvAll, eqvAll]
  | _ :: _, [], _, _, _, _ => by simp [pyAll, PyData.eqvAll, eqvAll]
  | x :: xs, y :: ys, n, m, h, g => by
    unfold shAll at h g
    obtain ⟨h0, h1⟩ := Bool.and_eq_true_iff.mp h
    obtain ⟨g0, g1⟩ := Bool.and_eq_true_iff.mp g
    unfold pyAll PyData.eqvAll eqvAll
    rw [py_eqv x y _ _ h0 g0, py_eqvAll xs ys _ _ h1 g1]
end
mutual
theorem Dq.dp : ∀ (d : D) (v : V) (n : Nat), sh d n = true → Dq K H v d → Dp K H v (py d)
  | .non, _, _, _, h => by cases h; exact .non
  | .bl b, _, _, _, h => by cases h; exact .bl b
  | .int i, _, _, _, h => by cases h; exact .int i
  | .str x, _, _, _, h => by cases h; exact .str x
  | .lst ds, _, n, g, h => by
    unfold sh at g
    cases h with
    | lst h1 h2 => exact .lst (.inl (.inl h1)) (Dq.dpAll ds _ _ (Bool.and_eq_true_iff.mp g).2 h2)
  | .tup ds, _, n, g, h => by
    unfold sh at g
    cases h with
    | tup h1 h2 => exact .tup h1 (Dq.dpAll ds _ _ (Bool.and_eq_true_iff.mp g).2 h2)
  | .lsf _, _, _, g, _ => by unfold sh at g; cases g
  | .obj _ _, _, _, g, _ => by unfold sh at g; cases g
theorem Dq.dpAll : ∀ (ds : List D) (vs : List V) (n : Nat), shAll ds n = true → DqAll K H vs ds → DpAll K H vs (pyAll ds)
  | [], _, _, _, h => by cases h; exact .nil
  | d :: ds, _, n, g, h => by
    unfold shAll at g
    obtain ⟨g0, g1⟩ := Bool.and_eq_true_iff.mp g
    cases h with
    | cons h1 h2 => exact .cons (Dq.dp d _ _ g0 h1) (Dq.dpAll ds _ _ g1 h2)
end
theorem shaped_of {d : D} (h : sh d 60 = true) : SeqAt.shaped (py d) = true := by
  obtain ⟨h1, h2⟩ := py_sh d 60 h
  unfold SeqAt.shaped
  rw [h1, decide_eq_true (by omega)]
  rfl
theorem str_beq {a b : Str} : (a == b) = decide (a = b) := Bool.beq_eq_decide_eq a b
/-- == of any two -/
theorem rdEq {r : R2} {neg : Bool} (hd : ∀ d e, Dp K H x d → Dp K H y e → SeqAt.shaped d = true → SeqAt.shaped e = true → Q (.bl (if neg then !(PyData.eqv d e) else PyData.eqv d e)) H → r x y H Q)
    (hs : L2.scal x y = true → Q (.bl (if neg then !(decide (x = y)) else decide (x = y))) H → r x y H Q) {a b : D} {k : Bool} (ha : DV K S H x a) (hb : DV K S H y b) (e : eqD a b = some k) (q : Q (.bl (if neg then !k else k)) H) : r x y H Q := by
  unfold eqD at e
  split at e
  · rename_i hc
    have ek : eqv a b = k := Option.some.inj e
    subst ek
    by_cases hsh : (sh a 60 && sh b 60) = true
    · obtain ⟨s1, s2⟩ := Bool.and_eq_true_iff.mp hsh
      exact hd _ _ (Dq.dp a x 60 s1 ha.dq) (Dq.dp b y 60 s2 hb.dq) (shaped_of s1) (shaped_of s2) (by rw [py_eqv a b 60 60 s1 s2]; exact q)
    · have hc : (UbP.scal a && UbP.scal b) = true := by
        rcases Bool.or_eq_true_iff.mp hc with z | z
        · exact z
        · exact absurd z hsh
      obtain ⟨c1, c2⟩ := Bool.and_eq_true_iff.mp hc
      have str1 : (∃ s, a = .str s) ∨ ∃ s, b = .str s := by
        cases a <;> cases b <;> first
          | exact .inl ⟨_, rfl⟩
          | exact .inr ⟨_, rfl⟩
          | (exfalso; revert hsh; simp [sh]; done)
          | (exfalso; revert c1; simp [UbP.scal]; done)
          | (exfalso; revert c2; simp [UbP.scal]; done)
      have fin : L2.scal x y = true → decide (x = y) = eqv a b → r x y H Q := fun h1 h2 => hs h1 (by rw [h2]; exact q)
      rcases str1 with ⟨s, rfl⟩ | ⟨s, rfl⟩
      · cases dv_str ha
        cases b with
        | non => cases dv_non hb; exact fin rfl (by simp [eqv])
        | bl b => cases dv_bl hb; exact fin rfl (by simp [eqv])
        | int b => cases dv_int hb; exact fin rfl (by simp [eqv])
        | str b => cases dv_str hb; exact fin rfl (by simp [eqv, str_beq])
        | _ => revert c2; simp [UbP.scal]
      · cases dv_str hb
        cases a with
        | non => cases dv_non ha; exact fin rfl (by simp [eqv])
        | bl b => cases dv_bl ha; exact fin rfl (by simp [eqv])
        | int b => cases dv_int ha; exact fin rfl (by simp [eqv])
        | str b => cases dv_str ha; exact fin rfl (by simp [eqv, str_beq])
        | _ => revert c1; simp [UbP.scal]
  · cases e
theorem os_eq : OpS K (fun a b => (eqD a b).map fun k => .d (.bl k)) (rEqA K) := by
  intro S σ H Q x y a b w cl ha hb e k
  obtain ⟨c, e1, e2⟩ := Option.map_eq_some_iff.mp e
  subst e2
  exact rdEq (neg := false) (fun d e h1 h2 s1 s2 q => .inr ⟨d, e, h1, h2, s1, s2, q⟩) (fun h q => .inl ⟨h, q⟩) ha hb e1 (k_bl rfl k)
theorem os_ne : OpS K (fun a b => (neD a b).map fun k => .d (.bl k)) (rNeA K) := by
  intro S σ H Q x y a b w cl ha hb e k
  unfold neD at e
  obtain ⟨c, e1, e2⟩ := Option.map_eq_some_iff.mp e
  subst e2
  obtain ⟨c', e3, e4⟩ := Option.map_eq_some_iff.mp e1
  subst e4
  exact rdEq (neg := true) (fun d e h1 h2 s1 s2 q => .inr ⟨d, e, h1, h2, s1, s2, q⟩) (fun h q => .inl ⟨h, q⟩) ha hb e3 (k_bl rfl k)
def rIsA : R2 := fun x y H Q => rIsN1 x y H Q ∨ ∃ a b, x = .bl a ∧ y = .bl b ∧ Q (.bl (decide (a = b))) H
def rNotA : R2 := fun x y H Q => rNotN1 x y H Q ∨ ∃ a b, x = .bl a ∧ y = .bl b ∧ Q (.bl (!decide (a = b))) H
theorem op_isA {X : Cx} : OpR X (compareOp .Is) rIsA := fun pins s σ H x y v u Q I rx ry h => h.elim (op_isNo pins s σ H x y v u Q I rx ry) (op_is_bl pins s σ H x y v u Q I rx ry)
theorem op_notA {X : Cx} : OpR X (compareOp .IsNot) rNotA := fun pins s σ H x y v u Q I rx ry h => h.elim (op_notNo pins s σ H x y v u Q I rx ry) (op_isnot_bl pins s σ H x y v u Q I rx ry)
theorem os_isNo : OpS K (fun a b => (isNoD a b).map fun k => .d (.bl k)) rIsA := by
  intro S σ H Q x y a b w cl ha hb e k
  cases b with
  | non =>
    cases dv_non hb
    refine .inl ⟨rfl, ?_⟩
    have e0 : decide (x = .non) = isN a := by
      cases a with
      | non => cases dv_non ha; rfl
      | bl _ => cases dv_bl ha; rfl
      | int _ => cases dv_int ha; rfl
      | str _ => cases dv_str ha; rfl
      | lst _ => obtain ⟨_, _, rfl, _⟩ := dv_lst ha; rfl
      | lsf _ => obtain ⟨_, _, rfl, _⟩ := dv_lsf ha; rfl
      | tup _ => obtain ⟨_, _, rfl, _⟩ := dv_tup ha; rfl
      | obj _ _ => obtain ⟨_, _, _, rfl, _⟩ := ha; rfl
    rw [e0]
    exact k_bl e k
  | bl b =>
    cases dv_bl hb
    cases a with
    | bl c =>
      cases dv_bl ha
      exact .inr ⟨_, _, rfl, rfl, k_bl e k⟩
    | _ => cases e
  | _ => cases e
theorem os_notNo : OpS K (fun a b => (notNoD a b).map fun k => .d (.bl k)) rNotA := by
  intro S σ H Q x y a b w cl ha hb e k
  cases b with
  | non =>
    cases dv_non hb
    refine .inl ⟨rfl, ?_⟩
    have e0 : decide (x = .non) = isN a := by
      cases a with
      | non => cases dv_non ha; rfl
      | bl _ => cases dv_bl ha; rfl
      | int _ => cases dv_int ha; rfl
      | str _ => cases dv_str ha; rfl
      | lst _ => obtain ⟨_, _, rfl, _⟩ := dv_lst ha; rfl
      | lsf _ => obtain ⟨_, _, rfl, _⟩ := dv_lsf ha; rfl
      | tup _ => obtain ⟨_, _, rfl, _⟩ := dv_tup ha; rfl
      | obj _ _ => obtain ⟨_, _, _, rfl, _⟩ := ha; rfl
    rw [e0]
    exact k_bl e k
  | bl b =>
    cases dv_bl hb
    cases a with
    | bl c =>
      cases dv_bl ha
      exact .inr ⟨_, _, rfl, rfl, k_bl e k⟩
    | _ => cases e
  | _ => cases e
theorem flat_v {d : D} {v : V} (h : Dq K H v d) (f : flat d = true) : flatV v = true := by cases h <;> first | rfl | (exfalso; revert f; simp [flat, UbP.scal]; done)
theorem flat_eq {d e : D} {v u : V} (h : Dq K H v d) (g : Dq K H u e) (f1 : flat d = true) (f2 : flat e = true) : eqV v u = eqv d e := by
  cases h <;> cases g <;> first | (simp [eqV, eqv]; done) | (exfalso; revert f1; simp [flat, UbP.scal]; done) | (exfalso; revert f2; simp [flat, UbP.scal]; done)
theorem flat_all : ∀ {vs : List V} {ds : List D}, DqAll K H vs ds → ds.all flat = true → vs.all flatV = true
  | _, _, .nil, _ => rfl
  | _, _, .cons h1 h2, f => by
    rw [List.all_cons] at f ⊢
    obtain ⟨f1, f2⟩ := Bool.and_eq_true_iff.mp f
    rw [flat_v h1 f1, flat_all h2 f2]
    rfl
theorem flat_mem {d : D} {v : V} (h : Dq K H v d) (f : flat d = true) : ∀ {vs : List V} {ds : List D}, DqAll K H vs ds → ds.all flat = true → inV v vs = mem d ds
  | _, _, .nil, _ => rfl
  | _, _, .cons h1 h2, g => by
    rw [List.all_cons] at g
    obtain ⟨f1, f2⟩ := Bool.and_eq_true_iff.mp g
    have ih := flat_mem h f h2 f2
    unfold inV mem at ih ⊢
    rw [List.any_cons, List.any_cons, ih, flat_eq h1 h f1 f]
theorem py_mem {d : D} (hd : sh d 40 = true) : ∀ {ds : List D} {n : Nat}, shAll ds n = true → ((pyAll ds).any fun z => PyData.eqv z (py d)) = mem d ds
  | [], _, _ => rfl
  | e :: ds, n, h => by
    unfold shAll at h
    obtain ⟨h1, h2⟩ := Bool.and_eq_true_iff.mp h
    have ih := py_mem hd h2
    unfold mem at ih ⊢
    show (PyData.eqv (py e) (py d) || (pyAll ds).any fun z => PyData.eqv z (py d)) = _
    rw [List.any_cons, ih, py_eqv e d n 40 h1 hd]
theorem rdIn {r : Bool} {a b : D} {k : Bool} (ha : DV K S H x a) (hb : DV K S H y b) (e : inD a b = some k) (q : Q (.bl (if r then !k else k)) H) : UbIn.rInA K r x y H Q := by
  unfold inD at e
  split at e
  · rename_i ds
    split at e
    · rename_i hf
      cases e
      rcases Bool.or_eq_true_iff.mp hf with hf | hf
      · obtain ⟨p, xs, rfl, h1, h2⟩ := dv_lst hb
        obtain ⟨f1, f2⟩ := Bool.and_eq_true_iff.mp hf
        exact .inl ⟨p, xs, rfl, .inl (.inl (.inl h1)), flat_v ha.dq f1, flat_all h2 f2, by rw [flat_mem (Dq.mono same_refl (K := K) (H := H) ha.dq) f1 (h2.mono wo_same) f2]; exact q⟩
      · obtain ⟨f1, f2⟩ := Bool.and_eq_true_iff.mp hf
        have s2 : sh (.lst ds) 60 = true := by unfold sh; rw [f2]; rfl
        have d2 := Dq.dp (.lst ds) y 60 s2 hb.dq
        have c2 := (py_sh (.lst ds) 60 s2).1
        have c1 := py_sh a 40 f1
        exact .inr ⟨py a, pyAll ds, Dq.dp a x 40 f1 ha.dq, .inl d2, c1.1, c2, by have := c1.2; omega, by rw [py_mem f1 f2]; exact q⟩
    · cases e
  · rename_i ds
    split at e
    · rename_i hf
      cases e
      rcases Bool.or_eq_true_iff.mp hf with hf | hf
      · obtain ⟨p, xs, rfl, h1, h2⟩ := dv_tup hb
        obtain ⟨f1, f2⟩ := Bool.and_eq_true_iff.mp hf
        exact .inl ⟨p, xs, rfl, .inr h1, flat_v ha.dq f1, flat_all h2 f2, by rw [flat_mem ha.dq f1 (h2.mono wo_same) f2]; exact q⟩
      · obtain ⟨f1, f2⟩ := Bool.and_eq_true_iff.mp hf
        have s2 : sh (.tup ds) 60 = true := by unfold sh; rw [f2]; rfl
        have d2 := Dq.dp (.tup ds) y 60 s2 hb.dq
        have c2 := (py_sh (.tup ds) 60 s2).1
        have c1 := py_sh a 40 f1
        exact .inr ⟨py a, pyAll ds, Dq.dp a x 40 f1 ha.dq, .inr d2, c1.1, c2, by have := c1.2; omega, by rw [py_mem f1 f2]; exact q⟩
    · cases e
  · cases e
theorem os_in : OpS K (fun a b => (inD a b).map fun k => .d (.bl k)) (UbIn.rInA K false) := by
  intro S σ H Q x y a b w cl ha hb e k
  obtain ⟨c, e1, e2⟩ := Option.map_eq_some_iff.mp e
  subst e2
  exact rdIn (r := false) ha hb e1 (k_bl rfl k)
theorem os_nin : OpS K (fun a b => (ninD a b).map fun k => .d (.bl k)) (UbIn.rInA K true) := by
  intro S σ H Q x y a b w cl ha hb e k
  unfold ninD at e
  obtain ⟨c, e1, e2⟩ := Option.map_eq_some_iff.mp e
  subst e2
  obtain ⟨c', e3, e4⟩ := Option.map_eq_some_iff.mp e1
  subst e4
  exact rdIn (r := true) ha hb e3 (k_bl rfl k)
/-! index, slices -/
theorem atL_V {xs : List V} {ds : List D} {i : Int} {d : D} (h : DqAll K H xs ds) (e : atL ds i = some d) : ∃ v, atI xs i = some v ∧ Dq K H v d := by
  unfold atL at e
  unfold atI
  obtain ⟨j, e1, e2⟩ := Option.bind_eq_some_iff.mp e
  obtain ⟨v, h1, h2⟩ := h.get e2
  refine ⟨v, ?_, h2⟩
  rw [h.len]
  have e3 : ixN ds.length i = some j := e1
  rw [e3]
  exact h1
theorem os_ix : OpS K ixD (rIx K) := by
  intro S σ H Q x y a b w cl ha hb e k
  unfold ixD at e
  split at e
  · cases dv_int hb
    obtain ⟨p, xs, rfl, h1, h2⟩ := dv_lst ha
    obtain ⟨d, e1, rfl⟩ := Option.map_eq_some_iff.mp e
    obtain ⟨v, e2, h3⟩ := atL_V h2 e1
    exact .inl ⟨p, xs, _, v, rfl, rfl, .inl (.inl h1), e2, k_d h3 k⟩
  · cases dv_int hb
    obtain ⟨p, xs, rfl, h1, h2⟩ := dv_lsf ha
    obtain ⟨d, e1, rfl⟩ := Option.map_eq_some_iff.mp e
    obtain ⟨v, e2, h3⟩ := atL_V h2 e1
    exact .inl ⟨p, xs, _, v, rfl, rfl, h1, e2, k_d h3 k⟩
  · cases dv_int hb
    obtain ⟨p, xs, rfl, h1, h2⟩ := dv_tup ha
    obtain ⟨d, e1, rfl⟩ := Option.map_eq_some_iff.mp e
    obtain ⟨v, e2, h3⟩ := atL_V h2 e1
    exact .inr (.inl ⟨p, xs, _, v, rfl, rfl, h1, e2, k_d h3 k⟩)
  · cases dv_int hb
    cases dv_str ha
    split at e
    · rename_i hl
      obtain ⟨d, e1, rfl⟩ := Option.map_eq_some_iff.mp e
      exact .inr (.inr ⟨_, _, d, rfl, rfl, line_lim hl, e1, k_str k⟩)
    · cases e
  · cases e
theorem cut_V {xs : List V} {ds : List D} {lo hi : Option Int} (h : DqAll K H xs ds) : DqAll K H (cutV xs lo hi) (cut ds lo hi) := by
  unfold cutV cut
  rw [h.len]
  exact (h.drop _).take _
/-! truth -/
theorem tru_V {a : D} {k : Bool} (h : DV K S H x a) (e : tru a = some k) : TruV K x H k := by
  cases a with
  | non => cases dv_non h; cases e; exact rfl
  | bl b => cases dv_bl h; cases e; exact rfl
  | int i => cases dv_int h; cases e; exact rfl
  | str s =>
    cases dv_str h
    have e : (if s.length ≤ 1000000 then some (decide (s.length ≠ 0)) else none) = some k := e
    split at e
    · rename_i hl
      cases e
      refine ⟨line_lim hl, ?_⟩
      by_cases z : s.length = 0
      · rw [z]; rfl
      · rw [decide_eq_true (show s.length ≠ 0 from z)]
        exact (bne_iff_ne.mpr (by omega)).symm
    · cases e
  | lst ds =>
    obtain ⟨p, xs, rfl, h1, h2⟩ := dv_lst h
    cases e
    exact .inl ⟨xs, .inl (.inl h1), by cases h2 <;> rfl⟩
  | lsf ds =>
    obtain ⟨p, xs, rfl, h1, h2⟩ := dv_lsf h
    cases e
    exact .inl ⟨xs, h1, by cases h2 <;> rfl⟩
  | tup ds =>
    obtain ⟨p, xs, rfl, h1, h2⟩ := dv_tup h
    cases e
    exact .inr (.inl ⟨xs, h1, by cases h2 <;> rfl⟩)
  | obj _ _ => cases e
end
end UbP

namespace UbP
open PySem PySem.Spec PyProof.Rows L2 UbM Ub
/-! ### expressions -/
section
variable {X : Cx} {z : Z} {e a b c : Expr} {es rest : List Expr} {fa fb fc : M Vw} {ft fu : M Bool} {pos p p2 : Pos} {x : Str} {σ : L2.St} {H : Hp} {Q : VK}
theorem tc_of {v : V} {d : D} (hd : ∀ H, Dq z.K H v d) (h : tP z (eC d) σ H Q) : Q v H := by
  obtain ⟨O, env, R, P⟩ := h
  exact P v H (SameC.refl H) R (SameO.refl env) ⟨hd _, True.intro, True.intro⟩
theorem pu_int {i : Int} {j} : PE X (.Constant (.int i) j pos) (tP z (eC (.int i))) := PE_imp pe_int fun σ H Q h => tc_of (fun _ => .int i) h
theorem pu_bl {i : Bool} {j} : PE X (.Constant (.bool i) j pos) (tP z (eC (.bl i))) := PE_imp pe_bl fun σ H Q h => tc_of (fun _ => .bl i) h
theorem pu_str {i : Str} {j} : PE X (.Constant (.str i) j pos) (tP z (eC (.str i))) := PE_imp pe_str fun σ H Q h => tc_of (fun _ => .str i) h
theorem pu_non {j} : PE X (.Constant .none j pos) (tP z (eC .non)) := PE_imp pe_non fun σ H Q h => tc_of (fun _ => .non) h
theorem pu_glob {v : V} {u : Value} {d : D} (hd : ∀ H, Dq z.K H v d) (hg : Gl X x) (hm : X.mg x = some u) (r : RelV v u) (hdb : (x == ("__debug__" : Str)) = false := by decide) : PE X (.Name x pos) (tP z (eC d)) := PE_imp (pe_glob hg hm r hdb) fun σ H Q h => tc_of hd h
theorem pu_op {op : Operator} {f : D → D → Option Vw} {r : R2} (s : OpS z.K f r) (ho : OpR X (binaryOp op) r) (ha : PE X a (tP z fa)) (hb : PE X b (tP z fb)) : PE X (.BinOp a op b pos) (tP z (eB f fa fb)) := PE_imp (pe_op ho ha hb) (pu_bin s)
theorem pu_neg (ha : PE X a (tP z fa)) : PE X (.UnaryOp .USub a pos) (tP z (eU negD fa)) := PE_imp (pe_un un_neg ha) (pu_un us_neg)
theorem pu_cmp {op : CmpOp} {f : D → D → Option Bool} {r : R2} (s : OpS z.K (fun a b => (f a b).map fun k => .d (.bl k)) r) (ho : OpR X (compareOp op) r) (ha : PE X a (tP z fa)) (hb : PE X b (tP z fb)) (hm : behindInMarks op b = false) : PE X (.Compare a [op] [b] pos) (tP z (eB (cB f) fa fb)) := PE_imp (pe_cmpR ho ha hb hm) (pu_bin s)
theorem pu_tcmp {op : CmpOp} {f : D → D → Option Bool} {r : R2} (s : OpS z.K (fun a b => (f a b).map fun k => .d (.bl k)) r) (ho : OpR X (compareOp op) r) (ha : PE X a (tP z fa)) (hb : PE X b (tP z fb)) (hm : behindInMarks op b = false) : PT X (.Compare a [op] [b] pos) (tT z (UbP.tB f fa fb)) := PT_imp (pt_cmpR ho ha hb hm) (pu_tbin s)
theorem pu_ix {f : D → D → Option Vw} {r : R2} (s : OpS z.K f r) (ho : IxR X r) (ha : PE X a (tP z fa)) (hb : PE X b (tP z fb)) (hs : PlainIx b) : PE X (.Subscript a b pos) (tP z (eB f fa fb)) := PE_imp (pe_ix ho ha hb hs) (pu_bin s)
theorem post_tru {α β : Type} {R1 : VRt α β} {O : SS} {env : Env} {Q : β → Hp → Prop} {w : Vw} {k : Bool → M α} {v : V} (R : RelT z O H σ env) (V : VRel z.K (cells σ env O) σ H v w) (P : PostG R1 z O σ env H Q (bnd (truM w) k env)) : ∃ b, TruV z.K v H b ∧ PostG R1 z O σ env H Q (k b env) := by
  unfold truM bnd nowM at P
  cases e : w.now env with
  | none => rw [e] at P; exact P.elim
  | some d =>
    rw [e] at P
    cases e2 : tru d with
    | none =>
      dsimp only [optM] at P
      rw [e2] at P
      exact P.elim
    | some b =>
      dsimp only [optM] at P
      rw [e2] at P
      exact ⟨b, tru_V (V.now R e) e2, P⟩
theorem post_cont {env : Env} {O : SS} {f : M Vw} (R : RelT z O H σ env) (P : PostG vE z O σ env H Q (f env)) : tP z f σ H Q := ⟨O, env, R, P⟩
theorem dull_rel {O : SS} {env : Env} {v : V} {w : Vw} (h : VRel z.K (cells σ env O) σ H v w) : vE z O env σ H H v w.dull := by
  cases w with
  | d x => exact ⟨h, True.intro, True.intro⟩
  | o k => exact ⟨h, True.intro, True.intro⟩
  | f c => exact ⟨VRel.stay h rfl, True.intro, True.intro⟩
theorem post_dull {O : SS} {env : Env} {w : Vw} {v : V} (R : RelT z O H σ env) (hV : VRel z.K (cells σ env O) σ H v w) (P : PostG vE z O σ env H Q ((ret w.dull : M Vw) env)) : Q v H := P v H (SameC.refl H) R (SameO.refl _) (dull_rel hV)
theorem pu_and (hK : X.K = z.K) (ha : PE X a (tP z fa)) (hb : PE X (.BoolOp .And (b :: rest) pos) (tP z fb)) : PE X (.BoolOp .And (a :: b :: rest) pos) (tP z (eAnd fa fb)) := PE_imp (pe_andT ha hb) fun σ H Q ⟨O, env, R, P⟩ =>
  tG_mono (post_bnd bkE R P) fun v H1 ⟨env1, w, R1, s1, so1, V, P1⟩ => by
    obtain ⟨k, t, P2⟩ := post_tru R1 V.1 P1
    refine ⟨k, by rw [hK]; exact t, ?_⟩
    cases k with
    | true => exact post_cont R1 P2
    | false => exact post_dull R1 V.1 P2
theorem pu_or (hK : X.K = z.K) (ha : PE X a (tP z fa)) (hb : PE X (.BoolOp .Or (b :: rest) pos) (tP z fb)) : PE X (.BoolOp .Or (a :: b :: rest) pos) (tP z (eOr fa fb)) := PE_imp (pe_orT ha hb) fun σ H Q ⟨O, env, R, P⟩ =>
  tG_mono (post_bnd bkE R P) fun v H1 ⟨env1, w, R1, s1, so1, V, P1⟩ => by
    obtain ⟨k, t, P2⟩ := post_tru R1 V.1 P1
    refine ⟨k, by rw [hK]; exact t, ?_⟩
    cases k with
    | true => exact post_dull R1 V.1 P2
    | false => exact post_cont R1 P2
theorem pu_one {op} (ha : PE X a (tP z fa)) : PE X (.BoolOp op [a] pos) (tP z fa) := pe_one ha
theorem pu_not (hK : X.K = z.K) (ha : PE X a (tP z fa)) : PE X (.UnaryOp .Not a pos) (tP z (eNot fa)) := PE_imp (pe_notT ha) fun σ H Q ⟨O, env, R, P⟩ =>
  tG_mono (post_bnd bkE R P) fun v H1 ⟨env1, w, R1, s1, so1, V, P1⟩ => by
    obtain ⟨k, t, P2⟩ := post_tru R1 V.1 P1
    exact ⟨k, by rw [hK]; exact t, P2 (.bl !k) H1 (SameC.refl H1) R1 (SameO.refl _) ⟨.bl _, True.intro, True.intro⟩⟩
/-! tests -/
theorem pu_truth (hK : X.K = z.K) (ha : PE X a (tP z fa)) (he : ∀ whole, isTrue a X.env whole = (do let v ← whole; standAt a.pos; holding [v] (truthy v)) := by intro _; rfl) : PT X a (tT z (tE fa)) := PT_imp (pt_truth ha he) fun σ H Q ⟨O, env, R, P⟩ =>
  tG_mono (post_bnd bkT R P) fun v H1 ⟨env1, w, R1, s1, so1, V, P1⟩ => by
    have P1 : PostG vT z O σ env1 H1 Q (bnd (truM w) ret env1) := by
      have e : bnd (truM w) ret env1 = truM w env1 := by
        unfold bnd
        cases truM w env1 <;> rfl
      rw [e]
      exact P1
    obtain ⟨k, t, P2⟩ := post_tru R1 V.1 P1
    exact ⟨k, by rw [hK]; exact t, P2 k H1 (SameC.refl H1) R1 (SameO.refl _) rfl⟩
theorem pu_tnot (ha : PT X a (tT z ft)) : PT X (.UnaryOp .Not a pos) (tT z (UbP.tNot ft)) := PT_imp (pt_not ha) fun σ H Q ⟨O, env, R, P⟩ =>
  tG_mono (post_bnd bkT R P) fun b H1 ⟨env1, w, R1, s1, so1, V, P1⟩ => by
    cases V
    exact P1 (!b) H1 (SameC.refl H1) R1 (SameO.refl _) rfl
theorem pu_wand1 (ha : PT X a (tT z ft)) : PW X (.BoolOp .And [a] pos) (tT z ft) := pw_and1 ha
theorem pu_wor1 (ha : PT X a (tT z ft)) : PW X (.BoolOp .Or [a] pos) (tT z ft) := pw_or1 ha
theorem pu_wand (ha : PT X a (tT z ft)) (hb : PW X (.BoolOp .And (b :: rest) pos) (tT z fu)) : PW X (.BoolOp .And (a :: b :: rest) pos) (tT z (UbP.tAnd ft fu)) := PW_imp (pw_and ha hb) fun σ H Q ⟨O, env, R, P⟩ =>
  tG_mono (post_bnd bkT R P) fun b H1 ⟨env1, w, R1, s1, so1, V, P1⟩ => by
    cases V
    cases b with
    | true => exact ⟨O, env1, R1, P1⟩
    | false => exact P1 false H1 (SameC.refl H1) R1 (SameO.refl _) rfl
theorem pu_wor (ha : PT X a (tT z ft)) (hb : PW X (.BoolOp .Or (b :: rest) pos) (tT z fu)) : PW X (.BoolOp .Or (a :: b :: rest) pos) (tT z (UbP.tOr ft fu)) := PW_imp (pw_or ha hb) fun σ H Q ⟨O, env, R, P⟩ =>
  tG_mono (post_bnd bkT R P) fun b H1 ⟨env1, w, R1, s1, so1, V, P1⟩ => by
    cases V
    cases b with
    | true => exact P1 true H1 (SameC.refl H1) R1 (SameO.refl _) rfl
    | false => exact ⟨O, env1, R1, P1⟩
theorem pu_if (ht : PT X c (tT z ft)) (ha : PE X a (tP z fa)) (hb : PE X b (tP z fb)) : PE X (.IfExp c a b pos) (tP z (eIf ft fa fb)) := PE_imp (pe_ifExp ht ha hb) fun σ H Q ⟨O, env, R, P⟩ =>
  tG_mono (post_bnd bkE R P) fun b H1 ⟨env1, w, R1, s1, so1, V, P1⟩ => by
    cases V
    cases b with
    | true => exact ⟨O, env1, R1, P1⟩
    | false => exact ⟨O, env1, R1, P1⟩
/-- two comparisons in a chain -/
theorem pu_chain {op op' : CmpOp} {f g : D → D → Option Bool} {r r' : R2} (s : OpS z.K (fun a b => (f a b).map fun k => .d (.bl k)) r) (s' : OpS z.K (fun a b => (g a b).map fun k => .d (.bl k)) r') (σ : L2.St) (H : Hp) (Q : Bool → Hp → Prop) (h : tT z (tCh f g fa fb fc) σ H Q) :
    tTest (tChain r r' (tP z fa) (tP z fb) (tP z fc)) σ H Q := by
  obtain ⟨O, env, R, P⟩ := h
  refine tG_mono (post_bnd bkT R P) fun v H1 ⟨env1, w, R1, s1, so1, V, P1⟩ => ?_
  refine tG_mono (post_bnd bkT R1 P1) fun u H2 ⟨env2, w2, R2, s2, so2, V2, P2⟩ => ?_
  obtain ⟨d1, e1, P3⟩ := post_now P2
  obtain ⟨d2, e2, P4⟩ := post_now P3
  obtain ⟨k, e3, P5⟩ := post_opt P4
  refine s _ σ H2 _ v u d1 d2 (.d (.bl k)) R2.cl ((vmove s2 so2 V.1).now R2 e1) (V2.1.now R2 e2) (by show Option.map _ (f d1 d2) = _; rw [e3]; rfl) fun v' H' e V' N => ?_
  have V' : Dq z.K _ v' (.bl k) := V'
  cases V'
  refine ⟨k, rfl, ?_⟩
  have R2' := R2.mono (kp e)
  have P6 := PostG.move bkT (sameC e) (SameO.refl _) P5
  have V2' := V2.1.mono (kp e)
  cases k with
  | false => exact ⟨false, rfl, P6 false H' (SameC.refl H') R2' (SameO.refl _) rfl⟩
  | true =>
    refine tG_mono (post_bnd bkT R2' P6) fun y H3 ⟨env3, w3, R3, s3, so3, V3, P7⟩ => ?_
    obtain ⟨d3, e4, P8⟩ := post_now P7
    obtain ⟨d4, e5, P9⟩ := post_now P8
    obtain ⟨k', e6, P10⟩ := post_optE P9
    refine s' _ σ H3 _ u y d3 d4 (.d (.bl k')) R3.cl ((vmove s3 so3 V2').now R3 e4) (V3.1.now R3 e5) (by show Option.map _ (g d3 d4) = _; rw [e6]; rfl) fun v' H' e V' N => ?_
    have V' : Dq z.K _ v' (.bl k') := V'
    cases V'
    exact ⟨k', rfl, P10 k' H' (sameC e) (R3.mono (kp e)) (SameO.refl _) rfl⟩
theorem pu_tchain {op op' : CmpOp} {f g : D → D → Option Bool} {r r' : R2} (s : OpS z.K (fun a b => (f a b).map fun k => .d (.bl k)) r) (s' : OpS z.K (fun a b => (g a b).map fun k => .d (.bl k)) r') (ho : OpR X (compareOp op) r) (ho' : OpR X (compareOp op') r') (ha : PE X a (tP z fa)) (hb : PE X b (tP z fb)) (hc : PE X c (tP z fc))
    (hm : lastMarks [op, op'] [b, c] = false := by with_unfolding_all rfl) : PT X (.Compare a [op, op'] [b, c] pos) (tT z (tCh f g fa fb fc)) := PT_imp (pt_chain ho ho' ha hb hc hm) (pu_chain (op := op) (op' := op') s s')
/-! ### argument lists, displays -/
theorem pu_nil : PA X [] (tA z (eArgs [])) := PA_imp pa_nil fun σ H Q ⟨O, env, R, P⟩ => P [] H (SameC.refl H) R (SameO.refl _) .nil
theorem paired_move {env env1 : Env} {O : SS} {H1 : Hp} (s1 : SameC (ownS σ env) H H1) (so : SameO env env1) : ∀ {vs : List V} {ws : List Vw}, Paired (VRel z.K (cells σ env O) σ H) vs ws → Paired (VRel z.K (cells σ env1 O) σ H1) vs ws
  | _, _, .nil => .nil
  | _, _, .cons h t => .cons (vmove s1 so h) (paired_move s1 so t)
theorem pu_cons {fs : List (M Vw)} (ha : PE X e (tP z fa)) (hr : PA X es (tA z (eArgs fs))) (hs : starEach (e :: es) X.env = (false, eval e X.env) :: starEach es X.env := by rfl) : PA X (e :: es) (tA z (eArgs (fa :: fs))) := PA_imp (pa_cons ha hr hs) fun σ H Q ⟨O, env, R, P⟩ =>
  tG_mono (post_bnd bkA R P) fun v H1 ⟨env1, w, R1, s1, so1, V, P1⟩ =>
  tG_mono (post_bnd bkA R1 P1) fun vs H2 ⟨env2, ws, R2, s2, so2, V2, P2⟩ => P2 (v :: vs) H2 (SameC.refl H2) R2 (SameO.refl _) (.cons (vmove s2 so2 V.1) V2)
theorem stays_rel {S : SS} {K : PySem.W.Frag} : ∀ {vs : List V} {ws : List Vw} {ds : List D}, Paired (VRel K S σ H) vs ws → stays ws = some ds → DqAll K (wo S H) vs ds
  | _, _, _, .nil, e => by cases e; exact .nil
  | _, _, ds, .cons (b := w) (l₂ := ws) h t, e => by
    unfold stays at e
    cases e1 : w.stay with
    | none => rw [e1] at e; cases e
    | some d =>
      cases e2 : stays ws with
      | none => rw [e1, e2] at e; cases e
      | some ds' =>
        rw [e1, e2] at e
        cases e
        exact .cons (h.stay e1) (stays_rel t e2)
theorem lim_lt {n : Nat} (h : n < LIM) : n ≤ sizeLine := line_lim (Nat.le_of_lt h)
theorem post_if {α β : Type} {R1 : VRt α β} {O : SS} {env : Env} {Q : β → Hp → Prop} {c : Prop} [Decidable c] {m : M α} (P : PostG R1 z O σ env H Q ((if c then m else (optM none : M α)) env)) : c ∧ PostG R1 z O σ env H Q (m env) := by
  by_cases h : c
  · rw [if_pos h] at P
    exact ⟨h, P⟩
  · rw [if_neg h] at P
    exact P.elim
theorem pu_tup {fs : List (M Vw)} {x1} (h : PA X es (tA z (eArgs fs))) : PE X (.Tuple es x1 pos) (tP z (eTup fs)) := PE_imp (pe_tup h) fun σ H Q ⟨O, env, R, P⟩ =>
  tG_mono (post_bnd bkE R P) fun vs H1 ⟨env1, ws, R1, s1, so1, V, P1⟩ => by
    obtain ⟨ds, e1, P2⟩ := post_opt P1
    obtain ⟨hl, P3⟩ := post_if P2
    have hd := stays_rel V e1
    exact ⟨by rw [hd.len]; exact lim_lt hl, fun p np => k_tup R1.cl np hd fun v' H' e V' N => post_new R1 P3 e V' N⟩
theorem pu_lst {fs : List (M Vw)} (h : PA X es (tA z (eArgs fs))) : PE X (.List es pos) (tP z (eLst fs)) := PE_imp (pe_lst h) fun σ H Q ⟨O, env, R, P⟩ =>
  tG_mono (post_bnd bkE R P) fun vs H1 ⟨env1, ws, R1, s1, so1, V, P1⟩ => by
    obtain ⟨ds, e1, P2⟩ := post_opt P1
    obtain ⟨hl, P3⟩ := post_if P2
    have hd := stays_rel V e1
    exact ⟨by rw [hd.len]; exact lim_lt hl, fun p np => k_lst R1.cl np hd fun v' H' e V' N => post_new R1 P3 e V' N⟩
/-! ### slices -/
theorem pu_pn : PO X none (tO z (ret none)) := ⟨fun pins s σ H Q I h => po_none.run pins s σ H Q I (by
  obtain ⟨O, env, R, P⟩ := h
  exact P none H (SameC.refl H) R (SameO.refl _) rfl)⟩
theorem pu_ps (ha : PE X e (tP z fa)) : PO X (some e) (tO z (intM fa)) := ⟨fun pins s σ H Q I h => (po_some ha).run pins s σ H Q I (by
  obtain ⟨O, env, R, P⟩ := h
  refine tG_mono (post_bnd bkO R P) fun v H1 ⟨env1, w, R1, s1, so1, V, P1⟩ => ?_
  obtain ⟨d, e1, P2⟩ := post_now P1
  cases d with
  | int i =>
    cases dv_int (V.1.now R1 e1)
    exact ⟨i, rfl, P2 (some i) H1 (SameC.refl H1) R1 (SameO.refl _) rfl⟩
  | _ => exact P2.elim)⟩
theorem pu_slice {lo hi : Option Expr} {fl fh : M (Option Int)} (hK : X.K = z.K) (ha : PE X e (tP z fa)) (hl : PO X lo (tO z fl)) (hu : PO X hi (tO z fh)) : PE X (.Subscript e (.Slice lo hi none p2) pos) (tP z (eSl fa fl fh)) := PE_imp (pe_slice sl_list ha hl hu) fun σ H Q ⟨O, env, R, P⟩ =>
  tG_mono (post_bnd bkE R P) fun v H1 ⟨env1, w, R1, s1, so1, V, P1⟩ =>
  tG_mono (post_bnd bkE R1 P1) fun l H2 ⟨env2, l', R2, s2, so2, V2, P2⟩ =>
  tG_mono (post_bnd bkE R2 P2) fun u H3 ⟨env3, u', R3, s3, so3, V3, P3⟩ => by
    cases V2
    cases V3
    obtain ⟨d, e1, P4⟩ := post_now P3
    obtain ⟨r, e2, P5⟩ := post_optE P4
    have hd := (vmove s3 so3 (vmove s2 so2 V.1)).now R3 e1
    rw [hK]
    unfold slD at e2
    split at e2
    · obtain ⟨q, xs, rfl, h1, h2⟩ := dv_lst hd
      cases e2
      exact ⟨q, xs, rfl, .inl (.inl h1), fun r nr => k_lst R3.cl nr (cut_V h2) fun v' H' e V' N => post_new R3 P5 e V' N⟩
    · obtain ⟨q, xs, rfl, h1, h2⟩ := dv_lsf hd
      cases e2
      exact ⟨q, xs, rfl, h1, fun r nr => k_lst R3.cl nr (cut_V h2) fun v' H' e V' N => post_new R3 P5 e V' N⟩
    · cases e2
/-! ### built-in calls -/
theorem pu_B1 {id : String} {f : D → Option Vw} {r : List V → Hp → VK → Prop} (s : UnS z.K f fun x H Q => r [x] H Q) (hc : CallR X (.builtin id) r) (hg : Gl X x) (hm : X.mg x = none) (hv : bootBuiltins x = some (.builtin id)) (ha : PE X e (tP z fa)) (hn : x ≠ "__name__" := by decide) (hdb : (x == ("__debug__" : Str)) = false := by decide)
    (hs : starEach [e] X.env = (false, eval e X.env) :: starEach [] X.env := by rfl) (hpl : (backTo pos (starEach [] X.env)).any (·.1) = false := by rfl) : PE X (.Call (.Name x p) [e] [] pos) (tP z (eU f fa)) :=
  PE_imp (pe_callB hc hg hm hv (pa_cons ha pa_nil hs) hn hdb hs hpl) (pu_un s)
theorem pu_Y1 {id : String} {f : D → Option Vw} {r : List V → Hp → VK → Prop} (s : UnS z.K f fun x H Q => r [x] H Q) (hc : CallR X (.type id) r) (hg : Gl X x) (hm : X.mg x = none) (hv : bootBuiltins x = some (.type id)) (ha : PE X e (tP z fa)) (hn : x ≠ "__name__" := by decide) (hdb : (x == ("__debug__" : Str)) = false := by decide)
    (hs : starEach [e] X.env = (false, eval e X.env) :: starEach [] X.env := by rfl) (hpl : (backTo pos (starEach [] X.env)).any (·.1) = false := by rfl) : PE X (.Call (.Name x p) [e] [] pos) (tP z (eU f fa)) :=
  PE_imp (pe_callTy hc hg hm hv (pa_cons ha pa_nil hs) hn hdb hs hpl) (pu_un s)
theorem pu_B2 {id : String} {f : D → D → Option Vw} {r : List V → Hp → VK → Prop} (s : OpS z.K f fun x y H Q => r [x, y] H Q) (hc : CallR X (.builtin id) r) (hg : Gl X x) (hm : X.mg x = none) (hv : bootBuiltins x = some (.builtin id)) (ha : PE X a (tP z fa)) (hb : PE X b (tP z fb)) (hn : x ≠ "__name__" := by decide) (hdb : (x == ("__debug__" : Str)) = false := by decide)
    (hs : starEach [a, b] X.env = (false, eval a X.env) :: starEach [b] X.env := by rfl) (hs2 : starEach [b] X.env = (false, eval b X.env) :: starEach [] X.env := by rfl) (hpl : (backTo pos (starEach [b] X.env)).any (·.1) = false := by rfl) : PE X (.Call (.Name x p) [a, b] [] pos) (tP z (eB f fa fb)) :=
  PE_imp (pe_callB hc hg hm hv (pa_cons ha (pa_cons hb pa_nil hs2) hs) hn hdb hs hpl) (pu_bin s)
end
section
variable {K : PySem.W.Frag} {S : SS} {σ : L2.St} {H : Hp} {Q : VK} {x y : V} {X : Cx}
def rLenA (K : PySem.W.Frag) : List V → Hp → VK → Prop := fun xs H Q => rLenS K xs H Q ∨ (∃ s, xs = [.str s] ∧ s.length ≤ sizeLine ∧ Q (.int s.length) H)
theorem cl_lenA : CallR X (.builtin "len") (rLenA X.K) := CallR.or cl_len call_len_str
theorem us_len : UnS K lenD fun x H Q => rLenA K [x] H Q := by
  intro S σ H Q x a w cl ha e k
  unfold lenD at e
  split at e
  · obtain ⟨p, xs, rfl, h1, h2⟩ := dv_lst ha
    exact .inl ⟨p, xs, rfl, .inl (.inl (.inl h1)), by rw [h2.len]; exact k_int e k⟩
  · obtain ⟨p, xs, rfl, h1, h2⟩ := dv_lsf ha
    exact .inl ⟨p, xs, rfl, .inl h1, by rw [h2.len]; exact k_int e k⟩
  · obtain ⟨p, xs, rfl, h1, h2⟩ := dv_tup ha
    exact .inl ⟨p, xs, rfl, .inr h1, by rw [h2.len]; exact k_int e k⟩
  · cases dv_str ha
    split at e
    · rename_i hl
      exact .inr ⟨_, rfl, line_lim hl, k_int e k⟩
    · cases e
  · cases e
theorem us_abs : UnS K absD fun x H Q => rAbs1 [x] H Q := by
  intro S σ H Q x a w cl ha e k
  unfold absD at e
  split at e
  · cases dv_int ha
    exact ⟨_, rfl, k_int e k⟩
  · cases e
theorem us_int : UnS K intD fun x H Q => rInt1 [x] H Q := by
  intro S σ H Q x a w cl ha e k
  unfold intD at e
  split at e
  · cases dv_int ha
    exact .inl ⟨_, rfl, k_int e k⟩
  · cases dv_bl ha
    exact .inr ⟨_, rfl, k_int e k⟩
  · cases e
theorem us_list : UnS K listD fun x H Q => rListOf K [x] H Q := by
  intro S σ H Q x a w cl ha e k
  unfold listD at e
  split at e
  · obtain ⟨p, xs, rfl, h1, h2⟩ := dv_lst ha
    cases e
    exact ⟨p, xs, rfl, .inl (.inl (.inl h1)), fun l nl => k_lst cl nl h2 k⟩
  · obtain ⟨p, xs, rfl, h1, h2⟩ := dv_lsf ha
    cases e
    exact ⟨p, xs, rfl, .inl h1, fun l nl => k_lst cl nl h2 k⟩
  · obtain ⟨p, xs, rfl, h1, h2⟩ := dv_tup ha
    cases e
    exact ⟨p, xs, rfl, .inr h1, fun l nl => k_lst cl nl h2 k⟩
  · cases e
def rTupOf (K : PySem.W.Frag) : List V → Hp → VK → Prop := fun xs H Q => ∃ p ys, xs = [.ref p] ∧ ((SqL K H p ys ∧ ∀ l, H l = none → Q (.ref l) (upd H l (.tup ys))) ∨ (SqT K H p ys ∧ Q (.ref p) H))
theorem cl_tupA : CallR X (.type "tuple") (rTupOf X.K) := call_tuple_of
theorem us_tup : UnS K tupD fun x H Q => rTupOf K [x] H Q := by
  intro S σ H Q x a w cl ha e k
  unfold tupD at e
  split at e
  · obtain ⟨p, xs, rfl, h1, h2⟩ := dv_lst ha
    cases e
    exact ⟨p, xs, rfl, .inl ⟨.inl (.inl h1), fun l nl => k_tup cl nl h2 k⟩⟩
  · have hd := dv_tupD ha
    obtain ⟨p, xs, rfl, h1, h2⟩ := dv_tup ha
    cases e
    exact ⟨p, xs, rfl, .inr ⟨h1, k_d hd k⟩⟩
  · cases e
theorem os_gcd : OpS K gcdD fun x y H Q => ∃ i j, [x, y] = [V.int i, V.int j] ∧ Q (.int (Nat.gcd i.natAbs j.natAbs : Nat)) H := by
  intro S σ H Q x y a b w cl ha hb e k
  unfold gcdD at e
  split at e
  · cases dv_int ha
    cases dv_int hb
    exact ⟨_, _, rfl, k_int e k⟩
  · cases e
theorem os_lcm : OpS K lcmD fun x y H Q => ∃ i j, [x, y] = [V.int i, V.int j] ∧ (i.natAbs.log2 < 9000 ∧ j.natAbs.log2 < 9000) ∧ Q (.int (Nat.lcm i.natAbs j.natAbs : Nat)) H := by
  intro S σ H Q x y a b w cl ha hb e k
  unfold lcmD at e
  split at e
  · cases dv_int ha
    cases dv_int hb
    split at e
    · rename_i hl
      exact ⟨_, _, rfl, hl, k_int e k⟩
    · cases e
  · cases e
theorem os_min : OpS K minD fun x y H Q => rMin2 [x, y] H Q := by
  intro S σ H Q x y a b w cl ha hb e k
  unfold minD at e
  split at e
  · cases dv_int ha
    cases dv_int hb
    exact ⟨_, _, rfl, k_int e k⟩
  · cases e
theorem os_max : OpS K maxD fun x y H Q => ∃ i j, [x, y] = [V.int i, V.int j] ∧ Q (.int (if j > i then j else i)) H := by
  intro S σ H Q x y a b w cl ha hb e k
  unfold maxD at e
  split at e
  · cases dv_int ha
    cases dv_int hb
    exact ⟨_, _, rfl, k_int e k⟩
  · cases e
theorem bools_V : ∀ {xs : List V} {ds : List D} {bs : List Bool}, DqAll K H xs ds → boolsOf ds = some bs → xs = bs.map V.bl
  | _, [], _, h, e => by cases h; cases e; rfl
  | _, .bl b :: ds, _, .cons h t, e => by
    obtain ⟨bs', e1, rfl⟩ := Option.map_eq_some_iff.mp (show (boolsOf ds).map (b :: ·) = some _ from e)
    cases h
    rw [bools_V t e1]
    rfl
  | _, .non :: _, _, _, e => by cases e
  | _, .int _ :: _, _, _, e => by cases e
  | _, .str _ :: _, _, _, e => by cases e
  | _, .lst _ :: _, _, _, e => by cases e
  | _, .lsf _ :: _, _, _, e => by cases e
  | _, .tup _ :: _, _, _, e => by cases e
  | _, .obj _ _ :: _, _, _, e => by cases e
theorem ints_V : ∀ {xs : List V} {ds : List D} {bs : List Int}, DqAll K H xs ds → intsOf ds = some bs → xs = bs.map V.int
  | _, [], _, h, e => by cases h; cases e; rfl
  | _, .int b :: ds, _, .cons h t, e => by
    obtain ⟨bs', e1, rfl⟩ := Option.map_eq_some_iff.mp (show (intsOf ds).map (b :: ·) = some _ from e)
    cases h
    rw [ints_V t e1]
    rfl
  | _, .non :: _, _, _, e => by cases e
  | _, .bl _ :: _, _, _, e => by cases e
  | _, .str _ :: _, _, _, e => by cases e
  | _, .lst _ :: _, _, _, e => by cases e
  | _, .lsf _ :: _, _, _, e => by cases e
  | _, .tup _ :: _, _, _, e => by cases e
  | _, .obj _ _ :: _, _, _, e => by cases e
theorem us_all : UnS K allD fun x H Q => rAll K [x] H Q := by
  intro S σ H Q x a w cl ha e k
  unfold allD at e
  split at e
  · obtain ⟨p, xs, rfl, h1, h2⟩ := dv_lst ha
    obtain ⟨bs, e1, e2⟩ := Option.bind_eq_some_iff.mp e
    exact ⟨p, bs, rfl, .inl (.inl (by rw [← bools_V h2 e1]; exact h1)), k_bl e2 k⟩
  · cases e
theorem us_any : UnS K anyD fun x H Q => rAny K [x] H Q := by
  intro S σ H Q x a w cl ha e k
  unfold anyD at e
  split at e
  · obtain ⟨p, xs, rfl, h1, h2⟩ := dv_lst ha
    obtain ⟨bs, e1, e2⟩ := Option.bind_eq_some_iff.mp e
    exact ⟨p, bs, rfl, .inl (.inl (by rw [← bools_V h2 e1]; exact h1)), k_bl e2 k⟩
  · cases e
theorem us_sum : UnS K sumD fun x H Q => rSum K [x] H Q := by
  intro S σ H Q x a w cl ha e k
  unfold sumD at e
  split at e
  · obtain ⟨p, xs, rfl, h1, h2⟩ := dv_lst ha
    obtain ⟨bs, e1, e2⟩ := Option.bind_eq_some_iff.mp e
    exact ⟨p, bs, rfl, .inl (.inl (by rw [← ints_V h2 e1]; exact h1)), k_int e2 k⟩
  · cases e
theorem dq_ty {v : V} {d : D} {t : String} (h : Dq K H v d) (e : UbP.tyD d = some t) : TyX K H v (.type t) := by
  cases h with
  | non => cases e; exact .base .non
  | bl b => cases e; exact .base (.bl b)
  | int i => cases e; exact .base (.int i)
  | str x => cases e; exact .base (.str x)
  | lst hs _ => cases e; exact .base (.lst hs)
  | tup hs _ =>
    cases e
    rcases hs with (hs | ⟨o, hs⟩) | ⟨o, its, n, hl, hc, _⟩
    · exact .base (.tup hs)
    · exact .fTuple hs
    · exact .kTuple hl hc
  | lsf _ _ => cases e
  | obj _ _ => cases e
/-- isinstance(x, T) -/
theorem us_isi {t : String} (h : ∀ s ∈ ["NoneType", "bool", "int", "str", "list", "tuple"], kitB s t = some (isT t s)) : UnS K (isiD t) fun x H Q => rIsi K [x, .ty t] H Q := by
  intro S σ H Q x a w cl ha e k
  unfold isiD at e
  obtain ⟨s, e1, e2⟩ := Option.bind_eq_some_iff.mp e
  refine ⟨x, .ty t, .type s, .type t, isT t s, rfl, .ty t, dq_ty ha.dq e1, kit_ty (h s ?_), k_bl e2 k⟩
  cases a <;> cases e1 <;> simp
theorem isi_int : ∀ s ∈ ["NoneType", "bool", "int", "str", "list", "tuple"], kitB s "int" = some (isT "int" s) := by decide +kernel
theorem isi_bool : ∀ s ∈ ["NoneType", "bool", "int", "str", "list", "tuple"], kitB s "bool" = some (isT "bool" s) := by decide +kernel
theorem isi_str : ∀ s ∈ ["NoneType", "bool", "int", "str", "list", "tuple"], kitB s "str" = some (isT "str" s) := by decide +kernel
theorem isi_list : ∀ s ∈ ["NoneType", "bool", "int", "str", "list", "tuple"], kitB s "list" = some (isT "list" s) := by decide +kernel
theorem isi_tuple : ∀ s ∈ ["NoneType", "bool", "int", "str", "list", "tuple"], kitB s "tuple" = some (isT "tuple" s) := by decide +kernel
end
section
variable {X : Cx} {z : Z} {e a b c : Expr} {es rest : List Expr} {fa fb fc : M Vw} {pos p p2 : Pos} {x : Str}
theorem pu_isi {t : Str} {ts : String} (hK : X.K = z.K) (hsp : ∀ s ∈ ["NoneType", "bool", "int", "str", "list", "tuple"], kitB s ts = some (isT ts s)) (hg : Gl X "isinstance") (hm : X.mg "isinstance" = none) (hg2 : Gl X t) (hm2 : X.mg t = none) (hv2 : bootBuiltins t = some (.type ts)) (ha : PE X e (tP z fa))
    (hn : t ≠ "__name__" := by decide) (hdb : (t == ("__debug__" : Str)) = false := by decide)
    (hs : starEach [e, .Name t p2] X.env = (false, eval e X.env) :: starEach [.Name t p2] X.env := by rfl) (hs2 : starEach [.Name t p2] X.env = (false, eval (.Name t p2) X.env) :: starEach [] X.env := by rfl) (hpl : (backTo pos (starEach [.Name t p2] X.env)).any (·.1) = false := by rfl) :
    PE X (.Call (.Name "isinstance" p) [e, .Name t p2] [] pos) (tP z (eU (isiD ts) fa)) :=
  PE_imp (pe_callB call_isi hg hm bb_isinstance (pa_cons ha (pa_cons (pe_bltn (v := .ty ts) hg2 hm2 hv2 rfl hn hdb) pa_nil hs2) hs) (by decide) (by decide) hs hpl) (by rw [hK]; exact pu_un (us_isi hsp))
theorem pu_rev (hK : X.K = z.K) (hc : X.calm = true) (hg : Gl X "list") (hm : X.mg "list" = none) (hg2 : Gl X "reversed") (hm2 : X.mg "reversed" = none) (ha : PE X e (tP z fa))
    (hs : starEach [e] X.env = (false, eval e X.env) :: starEach [] X.env := by rfl)
    (hs2 : starEach [.Call (.Name "reversed" p2) [e] [] pos] X.env = (false, eval (.Call (.Name "reversed" p2) [e] [] pos) X.env) :: starEach [] X.env := by rfl) {pos2 : Pos} :
    PE X (.Call (.Name "list" p) [.Call (.Name "reversed" p2) [e] [] pos] [] pos2) (tP z (eU revD fa)) := PE_imp (UbG.pe_listRev hc hg hm bb_list hg2 hm2 ha hs hs2) (by
  rw [hK]
  refine pu_un (r := fun v H1 Q => ∃ (a : Addr) (xs : List V), v = .ref a ∧ SqL z.K H1 a xs ∧ ∀ q, H1 q = none → Q (.ref q) (upd H1 q (.lst xs.reverse))) ?_
  intro S σ H Q x a w cl ha e k
  unfold revD at e
  split at e
  · obtain ⟨p, xs, rfl, h1, h2⟩ := dv_lst ha
    cases e
    exact ⟨p, xs, rfl, .inl (.inl h1), fun l nl => k_lst cl nl h2.rev k⟩
  · obtain ⟨p, xs, rfl, h1, h2⟩ := dv_lsf ha
    cases e
    exact ⟨p, xs, rfl, h1, fun l nl => k_lst cl nl h2.rev k⟩
  · cases e)
end
end UbP

namespace UbP
open PySem PySem.Spec PyProof.Rows L2 UbM Ub
/-! ### owned things change -/
section
variable {e : Env} {i j : Nat} {c c0 : Ct} {d : D}
theorem getO_cases (h : getO i e = some c) : e[i]? = some (.own c) ∨ e[i]? = some (.par c) := by
  unfold getO at h
  split at h
  · cases h; rename_i h; exact .inl h
  · cases h; rename_i h; exact .inr h
  · cases h
theorem get_lt {s : Sl} (h : e[i]? = some s) : i < e.length := (List.getElem?_eq_some_iff.mp h).1
theorem getO_setO (h : getO i e = some c0) : getO i (setO i c e) = some c := by
  rcases getO_cases h with g | g
  · unfold setO
    rw [g]
    unfold getO
    rw [List.getElem?_set_self (get_lt g)]
  · unfold setO
    rw [g]
    unfold getO
    rw [List.getElem?_set_self (get_lt g)]
theorem setO_ne (h : j ≠ i) : (setO i c e)[j]? = e[j]? := by
  unfold setO
  split
  · exact List.getElem?_set_ne (Ne.symm h)
  · exact List.getElem?_set_ne (Ne.symm h)
  · rfl
theorem getO_ne (h : j ≠ i) : getO j (setO i c e) = getO j e := by
  unfold getO
  rw [setO_ne h]
theorem setO_len : (setO i c e).length = e.length := by
  unfold setO
  split <;> simp
theorem setO_same : SameO e (setO i c e) := by
  refine ⟨setO_len.symm, fun j => ?_⟩
  by_cases h : j = i
  · subst h
    unfold setO
    split
    · rename_i c1 g
      rw [List.getElem?_set_self (get_lt g), g]
      rfl
    · rename_i c1 g
      rw [List.getElem?_set_self (get_lt g), g]
      rfl
    · rfl
  · rw [setO_ne h]
/-- what is no owned thing stays -/
theorem setO_keep {s : Sl} (hs : knd s = 0) : (setO i c e)[j]? = some s ↔ e[j]? = some s := by
  by_cases h : j = i
  · subst h
    unfold setO
    split
    · rename_i c1 g
      rw [List.getElem?_set_self (get_lt g), g]
      constructor
      · intro z; cases z; cases hs
      · intro z; cases z; cases hs
    · rename_i c1 g
      rw [List.getElem?_set_self (get_lt g), g]
      constructor
      · intro z; cases z; cases hs
      · intro z; cases z; cases hs
    · rfl
  · rw [setO_ne h]
end
section
variable {K : PySem.W.Frag} {S : SS} {H : Hp} {z : Z} {O : SS} {σ : L2.St} {env env' : Env} {a b : Addr} {c c' : Ct} {o : HO} {i : Nat} {Q : VK}
theorem RelC.other (ha : S a) (n : b ≠ a) (h : RelC K S H b c) : RelC K S (upd H a o) b c := by
  cases c with
  | l ds =>
    obtain ⟨xs, h1, h2⟩ := h
    exact ⟨xs, by rw [upd_ne n]; exact h1, by rw [wo_upd ha]; exact h2⟩
  | o c fs =>
    obtain ⟨dx, vs, h1, h2⟩ := h
    exact ⟨dx, vs, by rw [upd_ne n]; exact h1, by rw [wo_upd ha]; exact h2⟩
theorem own_at (R : RelT z O H σ env) (g : getO i env = some c) (e : σ[i]? = some (some (V.ref a))) : RelC z.K (cells σ env O) H a c := by
  obtain ⟨a', h1, h2⟩ := R.own i c g
  rw [e] at h1
  cases h1
  exact h2
/-- an owned thing is changed -/
theorem RelT.put (R : RelT z O H σ env) (g : getO i env = some c) (e : σ[i]? = some (some (V.ref a))) (ho : isC o) (hc : RelC z.K (cells σ env O) (upd H a o) a c') :
    RelT z O (upd H a o) σ (setO i c' env) ∧ SameC (ownS σ env) H (upd H a o) ∧ SameO env (setO i c' env) := by
  have so : SameO env (setO i c' env) := setO_same
  have hS : cells σ env O a := .inl ⟨i, c, g, e⟩
  have ce := so.cells σ O
  have sC : SameC (ownS σ env) H (upd H a o) := sameC_upd ⟨i, c, g, e⟩ ho (own_at R g e).isC
  refine ⟨⟨R.len.trans so.1, fun j d h => ?_, fun j cj h => ?_, fun j k cj ck b hj hk => ?_, fun j cj b hj => ?_, fun j x h => ?_, ?_, fun P hP => sC.tab P (R.tb P hP)⟩, sC, so⟩
  · rw [← ce, wo_upd hS]
    exact R.dat j d ((setO_keep rfl).mp h)
  · rw [← ce]
    by_cases hj : j = i
    · subst hj
      rw [getO_setO g] at h
      cases h
      exact ⟨a, e, hc⟩
    · rw [getO_ne hj] at h
      obtain ⟨b, h1, h2⟩ := R.own j cj h
      exact ⟨b, h1, h2.other hS fun z => hj (R.inj j i cj c a h g (by rw [← z]; exact h1) e)⟩
  · obtain ⟨c1, g1⟩ := so.symm.getO hj
    obtain ⟨c2, g2⟩ := so.symm.getO hk
    exact R.inj j k c1 c2 b g1 g2
  · obtain ⟨c1, g1⟩ := so.symm.getO hj
    exact R.out j c1 b g1
  · rw [← ce, wo_upd hS]
    exact R.ex j x ((setO_keep rfl).mp h)
  · rw [← ce]
    exact (sC.sub fun s hs => .inl hs).clS R.cl
theorem RelT.putL {xs xs' : List V} {ds ds' : List D} (R : RelT z O H σ env) (g : getO i env = some (.l ds)) (e : σ[i]? = some (some (V.ref a))) (h : DqAll z.K (wo (cells σ env O) H) xs' ds') :
    RelT z O (upd H a (.lst xs')) σ (setO i (.l ds') env) ∧ SameC (ownS σ env) H (upd H a (.lst xs')) ∧ SameO env (setO i (.l ds') env) :=
  R.put g e True.intro ⟨xs', upd_same, by rw [wo_upd (.inl ⟨i, _, g, e⟩)]; exact h⟩
theorem post_ownL {α β : Type} {R1 : VRt α β} {k : List D → M α} {Q : β → Hp → Prop} (P : PostG R1 z O σ env H Q (bnd (ownL i) k env)) : ∃ ds, getO i env = some (.l ds) ∧ PostG R1 z O σ env H Q (k ds env) := by
  unfold bnd ownL at P
  cases h : getO i env with
  | none => rw [h] at P; exact P.elim
  | some c =>
    rw [h] at P
    cases c with
    | l ds => exact ⟨ds, rfl, P⟩
    | o _ _ => exact P.elim
theorem post_putL {α β : Type} {R1 : VRt α β} {k : Unit → M α} {ds : List D} {Q : β → Hp → Prop} (P : PostG R1 z O σ env H Q (bnd (UbP.putL i ds) k env)) : PostG R1 z O σ env H Q (k () (setO i (.l ds) env)) := P
/-- behind a change -/
theorem post_change {w : Vw} {v : V} {H' : Hp} {env' : Env} (P : PostG vE z O σ env H Q ((ret w : M Vw) env')) (R' : RelT z O H' σ env') (s : SameC (ownS σ env) H H') (so : SameO env env') (V : VRel z.K (cells σ env' O) σ H' v w) (N : NewV H v w ∧ AwayV z O σ env' H' v w) : Q v H' := P v H' s R' so ⟨V, N⟩
end
section
variable {X : Cx} {z : Z} {e a : Expr} {es : List Expr} {fa fb : M Vw} {pos p apos : Pos} {σ : L2.St} {H : Hp} {Q : VK}
theorem post_recv {α β : Type} {Rv : VRt α β} {O : SS} {env : Env} {k : Nat → M α} {Q : β → Hp → Prop} (b : Back Rv) (R : RelT z O H σ env) (P : PostG Rv z O σ env H Q (bnd (recv fa) k env)) :
    tP z fa σ H fun v H1 => ∃ env1 i ds a, RelT z O H1 σ env1 ∧ SameC (ownS σ env) H H1 ∧ SameO env env1 ∧ getO i env1 = some (.l ds) ∧ v = .ref a ∧ σ[i]? = some (some (V.ref a)) ∧ PostG Rv z O σ env1 H1 Q (k i env1) := by
  have P' : PostG Rv z O σ env H Q (bnd fa (fun w => bnd (bnd (optM (viewI w)) fun i => bnd (ownL i) fun _ => ret i) k) env) := by
    have e : bnd fa (fun w => bnd (bnd (optM (viewI w)) fun i => bnd (ownL i) fun _ => ret i) k) env = bnd (recv fa) k env := by
      unfold recv
      unfold bnd
      cases fa env <;> rfl
    rw [e]
    exact P
  refine tG_mono (post_bnd b R P') fun v H1 ⟨env1, w, R1, s1, so1, V, P1⟩ => ?_
  have P2 : PostG Rv z O σ env1 H1 Q (bnd (optM (viewI w)) (fun i => bnd (ownL i) fun _ => k i) env1) := by
    have e : bnd (optM (viewI w)) (fun i => bnd (ownL i) fun _ => k i) env1 = bnd (bnd (optM (viewI w)) fun i => bnd (ownL i) fun _ => ret i) k env1 := by
      unfold bnd optM
      cases viewI w with
      | none => rfl
      | some i =>
        dsimp only
        unfold ownL
        split <;> rfl
    rw [e]
    exact P1
  obtain ⟨i, e1, P3⟩ := post_opt P2
  obtain ⟨ds, g, P4⟩ := post_ownL P3
  cases w with
  | o k =>
    cases e1
    obtain ⟨b, h1, h2⟩ := R1.own _ _ g
    have V1 : σ[i]? = some (some v) := V.1
    rw [h1] at V1
    cases V1
    exact ⟨env1, i, ds, b, R1, s1, so1, g, rfl, h1, P4⟩
  | d x => cases e1
  | f c => cases e1
theorem ty_list {K : PySem.W.Frag} {xs : List V} {a : Addr} (h : H a = some (.lst xs)) : tyV K "list" (.ref a) H := .inl ⟨rfl, _, .inl (.inl h)⟩
theorem get_list {O : SS} {env : Env} {i : Nat} {ds : List D} {a : Addr} (R : RelT z O H σ env) (g : getO i env = some (.l ds)) (e : σ[i]? = some (some (V.ref a))) : ∃ xs, H a = some (.lst xs) ∧ DqAll z.K (wo (cells σ env O) H) xs ds := own_at R g e
theorem pu_app (ho : PE X a (tP z fa)) (ha : PE X e (tP z fb))
    (hbase : attributeBase a "append" X.env (eval a X.env) = eval a X.env := by rfl)
    (hfew : ((backTo p (starEach [e] X.env)).all (fun x => !x.1) && (backToKw p (keywordEach [] X.env)).all (fun x => x.1.isSome)
      && decide ([e].length + ([] : List Keyword).length + (if ([] : List Keyword).isEmpty then 0 else 1) < 30)) = true := by rfl)
    (hline : (apos.endLine == p.line) = true := by rfl) (hs : starEach [e] X.env = (false, eval e X.env) :: starEach [] X.env := by rfl) (hplain : (backTo p (starEach [] X.env)).any (·.1) = false := by rfl) :
    PE X (.Call (.Attribute a "append" apos) [e] [] p) (tP z (eApp fa fb)) := PE_imp (pe_bm PySem.F.plainAttrs_list PySem.F.slot_list_append PySem.F.type_list_append mt_append ho (pa_cons ha pa_nil hs) hbase hfew hline hs hplain) fun σ H Q ⟨O, env, R, P⟩ =>
  tG_mono (post_recv bkE R P) fun v H1 ⟨env1, i, ds0, b, R1, s1, so1, g, ev, hσ, P1⟩ => by
    subst ev
    obtain ⟨xs0, h0, _⟩ := get_list R1 g hσ
    refine ⟨ty_list h0, ?_⟩
    refine tG_mono (post_bnd bkE R1 P1) fun u H2 ⟨env2, w2, R2, s2, so2, V2, P2⟩ => ?_
    obtain ⟨d, e1, P3⟩ := post_stay P2
    obtain ⟨ds, g2, P4⟩ := post_ownL P3
    obtain ⟨hl, P5⟩ := post_if P4
    obtain ⟨xs, h1, h2⟩ := get_list R2 g2 hσ
    have hd := V2.1.stay e1
    obtain ⟨R3, s3, so3⟩ := R2.putL (xs := xs) g2 hσ (h2.snoc hd)
    exact ⟨b, xs, u, rfl, rfl, h1, by rw [h2.len]; exact Nat.lt_of_lt_of_le hl (by rw [sizeLine_eq]; decide), post_change P5 R3 s3 so3 (.non) ⟨True.intro, True.intro⟩⟩
theorem pu_pop (ho : PE X a (tP z fa)) (hbase : attributeBase a "pop" X.env (eval a X.env) = eval a X.env := by rfl) (hline : (apos.endLine == p.line) = true := by rfl) :
    PE X (.Call (.Attribute a "pop" apos) [] [] p) (tP z (ePop fa)) := PE_imp (pe_bm0 PySem.F.plainAttrs_list PySem.F.slot_list_pop PySem.F.type_list_pop mt_pop ho hbase hline) fun σ H Q ⟨O, env, R, P⟩ =>
  tG_mono (post_recv bkE R P) fun v H1 ⟨env1, i, ds0, b, R1, s1, so1, g, ev, hσ, P1⟩ => by
    subst ev
    obtain ⟨xs0, h0, _⟩ := get_list R1 g hσ
    refine ⟨ty_list h0, ?_⟩
    obtain ⟨ds, g2, P2⟩ := post_ownL P1
    obtain ⟨d, e1, P3⟩ := post_opt P2
    obtain ⟨xs, h1, h2⟩ := get_list R1 g2 hσ
    have el : ds[ds.length - 1]? = some d := by rw [← List.getLast?_eq_getElem?]; exact e1
    obtain ⟨u, hu, hd⟩ := h2.get el
    have hdl : DqAll z.K (wo (cells σ env1 O) H1) xs.dropLast ds.dropLast := by
      rw [List.dropLast_eq_take, List.dropLast_eq_take, h2.len]
      exact h2.take _
    obtain ⟨R3, s3, so3⟩ := R1.putL (xs := xs) g2 hσ hdl
    refine ⟨b, xs, u, rfl, rfl, h1, by rw [h2.len]; exact hu, post_change P3 R3 s3 so3 ?_ ⟨True.intro, True.intro⟩⟩
    show Dq z.K _ u d
    rw [← so3.cells σ O, wo_upd (.inl ⟨i, _, g2, hσ⟩)]
    exact hd
theorem pu_reverse (ho : PE X a (tP z fa)) (hbase : attributeBase a "reverse" X.env (eval a X.env) = eval a X.env := by rfl) (hline : (apos.endLine == p.line) = true := by rfl) :
    PE X (.Call (.Attribute a "reverse" apos) [] [] p) (tP z (eRev fa)) := PE_imp (pe_bm0 PySem.F.plainAttrs_list PySem.F.slot_list_reverse PySem.F.type_list_reverse mt_reverse ho hbase hline) fun σ H Q ⟨O, env, R, P⟩ =>
  tG_mono (post_recv bkE R P) fun v H1 ⟨env1, i, ds0, b, R1, s1, so1, g, ev, hσ, P1⟩ => by
    subst ev
    obtain ⟨xs0, h0, _⟩ := get_list R1 g hσ
    refine ⟨ty_list h0, ?_⟩
    obtain ⟨ds, g2, P2⟩ := post_ownL P1
    obtain ⟨xs, h1, h2⟩ := get_list R1 g2 hσ
    obtain ⟨R3, s3, so3⟩ := R1.putL (xs := xs) g2 hσ h2.rev
    exact ⟨b, xs, rfl, rfl, h1, post_change P2 R3 s3 so3 (.non) ⟨True.intro, True.intro⟩⟩
theorem pu_extend (ho : PE X a (tP z fa)) (ha : PE X e (tP z fb))
    (hbase : attributeBase a "extend" X.env (eval a X.env) = eval a X.env := by rfl)
    (hfew : ((backTo p (starEach [e] X.env)).all (fun x => !x.1) && (backToKw p (keywordEach [] X.env)).all (fun x => x.1.isSome)
      && decide ([e].length + ([] : List Keyword).length + (if ([] : List Keyword).isEmpty then 0 else 1) < 30)) = true := by rfl)
    (hline : (apos.endLine == p.line) = true := by rfl) (hs : starEach [e] X.env = (false, eval e X.env) :: starEach [] X.env := by rfl) (hplain : (backTo p (starEach [] X.env)).any (·.1) = false := by rfl) :
    PE X (.Call (.Attribute a "extend" apos) [e] [] p) (tP z (eExt fa fb)) := PE_imp (pe_bm PySem.F.plainAttrs_list PySem.F.slot_list_extend PySem.F.type_list_extend mt_extend ho (pa_cons ha pa_nil hs) hbase hfew hline hs hplain) fun σ H Q ⟨O, env, R, P⟩ =>
  tG_mono (post_recv bkE R P) fun v H1 ⟨env1, i, ds0, b, R1, s1, so1, g, ev, hσ, P1⟩ => by
    subst ev
    obtain ⟨xs0, h0, _⟩ := get_list R1 g hσ
    refine ⟨ty_list h0, ?_⟩
    refine tG_mono (post_bnd bkE R1 P1) fun u H2 ⟨env2, w2, R2, s2, so2, V2, P2⟩ => ?_
    obtain ⟨d, e1, P3⟩ := post_stay P2
    obtain ⟨ys, e2, P3⟩ := post_opt P3
    obtain ⟨ds, g2, P4⟩ := post_ownL P3
    obtain ⟨hl, P5⟩ := post_if P4
    obtain ⟨xs, h1, h2⟩ := get_list R2 g2 hσ
    have hd := V2.1.stay e1
    cases d with
    | lst es =>
      cases e2
      cases hd with
      | lst k1 k2 =>
        obtain ⟨R3, s3, so3⟩ := R2.putL (xs := xs) g2 hσ (h2.app k2)
        exact ⟨b, _, xs, _, rfl, rfl, h1, (wo_in k1).2, by rw [h2.len, k2.len]; exact line_lim hl, post_change P5 R3 s3 so3 (.non) ⟨True.intro, True.intro⟩⟩
    | _ => cases e2
/-! ### fields of data objects -/
structure FldC (K : PySem.W.Frag) (f : Str) (c : Str) : Prop where
  cl : Cls K (He.ga K c)
  na : NoAttr K (He.ga K c) f
theorem pu_fld {f : Str} {cs : List Str} (hK : X.K = z.K) (hc : ∀ c ∈ cs, FldC z.K f c) (ha : PE X e (tP z fa)) (hb : attributeBase e f X.env (eval e X.env) = eval e X.env) : PE X (.Attribute e f pos) (tP z (eU (fldD cs f) fa)) := PE_imp (pe_fld ha hb) (by
  rw [hK]
  refine pu_un (r := fun x H1 Q => ∃ a C dx fs v, x = .ref a ∧ H1 a = some (.ins C dx fs) ∧ Cls z.K C ∧ NoAttr z.K C f ∧ fs.lookup f = some v ∧ Q v H1) ?_
  intro S σ H Q x a w cl ha e k
  unfold fldD at e
  split at e
  · rename_i c fs
    split at e
    · rename_i hcs
      obtain ⟨d, e1, rfl⟩ := Option.map_eq_some_iff.mp e
      obtain ⟨p, dx, vs, rfl, h1, h2⟩ := ha
      obtain ⟨v, e2, h3⟩ := h2.look e1
      have hf := hc c (List.contains_iff_mem.mp hcs)
      exact ⟨p, _, dx, vs, v, rfl, h1, hf.cl, hf.na, e2, k_d h3 k⟩
    · cases e
  · cases e)
end
end UbP

namespace UbP
open PySem PySem.Spec PyProof.Rows L2 UbM Ub
/-! ### calls -/
def noW : WX := fun _ _ _ _ => False
abbrev zF (K : PySem.W.Frag) (Tb : List Addr) : Z := ⟨K, Tb, none, noW⟩
inductive PR (K : PySem.W.Frag) (S : SS) (H : Hp) : List V → List Sl → List Ct → Prop
  | nil : PR K S H [] [] []
  | par {a : Addr} {c c0 : Ct} {vs : List V} {args : List Sl} {cs : List Ct} : RelC K S H a c → PR K S H vs args cs → PR K S H (.ref a :: vs) (.par c0 :: args) (c :: cs)
  | oth {v : V} {d : D} {vs : List V} {args : List Sl} {cs : List Ct} : PR K S H vs args cs → PR K S H (v :: vs) (.dat d :: args) cs
def ArgS (s : Sl) : Prop := (∃ d, s = .dat d) ∨ ∃ c, s = .par c
/-- .. and apart from a new thing -/
def apart (v : V) : Vw → SS → SS
  | .f _, S => fun s => S s ∨ V.ref s = v
  | _, S => S
def PostF (K : PySem.W.Frag) (O : SS) (vs : List V) (args : List Sl) (H : Hp) (Q : VK) (E : XK) : FRes → Prop
  | .ret w cs => ∀ v H', SameC (ownS (vs.map some) args) H H' → PR K (apart v w (cells (vs.map some) args O)) H' vs args cs → VRel K (cells (vs.map some) args O) (vs.map some) H' v w → NewV H v w → Q v H'
  | .exc x cs => ∀ cls d H', SameC (ownS (vs.map some) args) H H' → PR K (cells (vs.map some) args O) H' vs args cs → ExR K (wo (cells (vs.map some) args O) H') x cls d → E cls d H'
  | .bad => False
/-- a def runs as f says -/
def spF (K : PySem.W.Frag) (Tb : List Addr) (f : Fn) (n : Nat) : Sp := fun vs H Q E => vs.length = n ∧ ∃ O args, RelT (zF K Tb) O H (vs.map some) args ∧ (∀ s ∈ args, ArgS s) ∧ PostF K O vs args H Q E (f args)
section
variable {z : Z} {O : SS} {σ : L2.St} {env : Env} {H : Hp}
inductive AR (z : Z) (O : SS) (σ : L2.St) (env : Env) (H : Hp) : List V → List Vw → List Bool → List Sl → List Nat → List Nat → Prop
  | nil : AR z O σ env H [] [] [] [] [] []
  | own {i : Nat} {c : Ct} {a : Addr} {vs : List V} {ws : List Vw} {ms : List Bool} {args : List Sl} {ow lk : List Nat} : getO i env = some c → σ[i]? = some (some (V.ref a)) → AR z O σ env H vs ws ms args ow lk → AR z O σ env H (.ref a :: vs) (.o i :: ws) (true :: ms) (.par c :: args) (i :: ow) lk
  | look {i : Nat} {c : Ct} {a : Addr} {vs : List V} {ws : List Vw} {ms : List Bool} {args : List Sl} {ow lk : List Nat} : getO i env = some c → σ[i]? = some (some (V.ref a)) → AR z O σ env H vs ws ms args ow lk → AR z O σ env H (.ref a :: vs) (.o i :: ws) (false :: ms) (.dat c.toD :: args) ow (i :: lk)
  | data {v : V} {w : Vw} {d : D} {vs : List V} {ws : List Vw} {ms : List Bool} {args : List Sl} {ow lk : List Nat} : (∀ i, w ≠ .o i) → Dq z.K (wo (cells σ env O) H) v d → AR z O σ env H vs ws ms args ow lk → AR z O σ env H (v :: vs) (w :: ws) (false :: ms) (.dat d :: args) ow lk
theorem mkArgs_AR (R : RelT z O H σ env) : ∀ {vs : List V} {ws : List Vw} {ms : List Bool} {args : List Sl}, Paired (VRel z.K (cells σ env O) σ H) vs ws → mkArgs ms ws env = some args → AR z O σ env H vs ws ms args (ownIx ms ws) (lookIx ms ws)
  | _, _, [], _, .nil, e => by cases e; exact .nil
  | _, _, [], _, .cons _ _, e => by cases e
  | _, _, _ :: _, _, .nil, e => by cases e
  | v :: vs, w :: ws, m :: ms, args, .cons h t, e => by
    unfold mkArgs at e
    cases e1 : mkArgs ms ws env with
    | none => rw [e1] at e; cases e
    | some r =>
      rw [e1] at e
      have ih := mkArgs_AR R t e1
      cases m with
      | true =>
        cases w with
        | o i =>
          obtain ⟨c, hc, rfl⟩ := Option.map_eq_some_iff.mp e
          obtain ⟨a, h1, h2⟩ := R.own i c hc
          have h : σ[i]? = some (some v) := h
          rw [h1] at h
          cases h
          exact .own hc h1 ih
        | d x => cases e
        | f c => cases e
      | false =>
        obtain ⟨d, hd, rfl⟩ := Option.map_eq_some_iff.mp e
        cases w with
        | o i =>
          obtain ⟨c, hc, rfl⟩ := Option.map_eq_some_iff.mp hd
          obtain ⟨a, h1, h2⟩ := R.own i c hc
          have h : σ[i]? = some (some v) := h
          rw [h1] at h
          cases h
          exact .look hc h1 ih
        | d x => cases hd; exact .data (fun i z => by cases z) h ih
        | f c => cases hd; exact .data (fun i z => by cases z) (VRel.stay h rfl) ih
section
variable {vs : List V} {ws : List Vw} {ms : List Bool} {args : List Sl} {ow lk : List Nat}
theorem AR.len : ∀ {vs : List V} {ws : List Vw} {ms : List Bool} {args : List Sl} {ow lk : List Nat}, AR z O σ env H vs ws ms args ow lk → args.length = vs.length
  | _, _, _, _, _, _, .nil => rfl
  | _, _, _, _, _, _, .own _ _ t => congrArg Nat.succ (AR.len t)
  | _, _, _, _, _, _, .look _ _ t => congrArg Nat.succ (AR.len t)
  | _, _, _, _, _, _, .data _ _ t => congrArg Nat.succ (AR.len t)
theorem AR.argS : ∀ {vs : List V} {ws : List Vw} {ms : List Bool} {args : List Sl} {ow lk : List Nat}, AR z O σ env H vs ws ms args ow lk → ∀ s ∈ args, ArgS s
  | _, _, _, _, _, _, .nil, s, h => absurd h (List.not_mem_nil)
  | _, _, _, _, _, _, .own _ _ t, s, h => (List.mem_cons.mp h).elim (fun e => .inr ⟨_, e⟩) (AR.argS t s)
  | _, _, _, _, _, _, .look _ _ t, s, h => (List.mem_cons.mp h).elim (fun e => .inl ⟨_, e⟩) (AR.argS t s)
  | _, _, _, _, _, _, .data _ _ t, s, h => (List.mem_cons.mp h).elim (fun e => .inl ⟨_, e⟩) (AR.argS t s)
theorem AR.par_at : ∀ {vs : List V} {ws : List Vw} {ms : List Bool} {args : List Sl} {ow lk : List Nat}, AR z O σ env H vs ws ms args ow lk → ∀ {j : Nat} {c : Ct}, args[j]? = some (.par c) → ∃ i a, ow[(ow.length - ow.length)]? = ow[0]? ∧ i ∈ ow ∧ getO i env = some c ∧ vs[j]? = some (.ref a) ∧ σ[i]? = some (some (V.ref a))
  | _, _, _, _, _, _, .nil, j, c, h => by simp at h
  | _, _, _, _, _, _, .own (i := i) (a := a) g e t, 0, c, h => by
    simp at h
    subst h
    exact ⟨i, a, by simp, List.mem_cons_self .., g, rfl, e⟩
  | _, _, _, _, _, _, .own g e t, j + 1, c, h => by
    obtain ⟨i, a, _, h1, h2, h3, h4⟩ := AR.par_at t (j := j) (c := c) (by simpa using h)
    exact ⟨i, a, by simp, List.mem_cons_of_mem _ h1, h2, by simpa using h3, h4⟩
  | _, _, _, _, _, _, .look g e t, 0, c, h => by simp at h
  | _, _, _, _, _, _, .look g e t, j + 1, c, h => by
    obtain ⟨i, a, _, h1, h2, h3, h4⟩ := AR.par_at t (j := j) (c := c) (by simpa using h)
    exact ⟨i, a, by simp, h1, h2, by simpa using h3, h4⟩
  | _, _, _, _, _, _, .data _ g t, 0, c, h => by simp at h
  | _, _, _, _, _, _, .data _ g t, j + 1, c, h => by
    obtain ⟨i, a, _, h1, h2, h3, h4⟩ := AR.par_at t (j := j) (c := c) (by simpa using h)
    exact ⟨i, a, by simp, h1, h2, by simpa using h3, h4⟩
theorem AR.dat_at : ∀ {vs : List V} {ws : List Vw} {ms : List Bool} {args : List Sl} {ow lk : List Nat}, AR z O σ env H vs ws ms args ow lk → ∀ {j : Nat} {d : D}, args[j]? = some (.dat d) →
    ∃ v, vs[j]? = some v ∧ (Dq z.K (wo (cells σ env O) H) v d ∨ ∃ i c a, i ∈ lk ∧ getO i env = some c ∧ d = c.toD ∧ v = .ref a ∧ σ[i]? = some (some (V.ref a)))
  | _, _, _, _, _, _, .nil, j, c, h => by simp at h
  | _, _, _, _, _, _, .own g e t, 0, c, h => by simp at h
  | _, _, _, _, _, _, .own g e t, j + 1, c, h => by
    obtain ⟨v, h1, h2⟩ := AR.dat_at t (j := j) (d := c) (by simpa using h)
    exact ⟨v, by simpa using h1, h2⟩
  | _, _, _, _, _, _, .look (i := i) (c := c0) (a := a) g e t, 0, c, h => by
    simp at h
    exact ⟨.ref a, rfl, .inr ⟨i, c0, a, List.mem_cons_self .., g, h.symm, rfl, e⟩⟩
  | _, _, _, _, _, _, .look g e t, j + 1, c, h => by
    obtain ⟨v, h1, h2⟩ := AR.dat_at t (j := j) (d := c) (by simpa using h)
    refine ⟨v, by simpa using h1, h2.imp id fun ⟨i, c, a, h3, h4⟩ => ⟨i, c, a, List.mem_cons_of_mem _ h3, h4⟩⟩
  | _, _, _, _, _, _, .data (v := v) _ g t, 0, c, h => by
    simp at h
    subst h
    exact ⟨v, rfl, .inl g⟩
  | _, _, _, _, _, _, .data _ g t, j + 1, c, h => by
    obtain ⟨v, h1, h2⟩ := AR.dat_at t (j := j) (d := c) (by simpa using h)
    exact ⟨v, by simpa using h1, h2⟩
/-- two places of one owned thing are one place -/
theorem AR.inj (R : RelT z O H σ env) : ∀ {vs : List V} {ws : List Vw} {ms : List Bool} {args : List Sl} {ow lk : List Nat}, AR z O σ env H vs ws ms args ow lk → ow.Nodup → ∀ {j k : Nat} {c c' : Ct} {a : Addr},
    args[j]? = some (.par c) → args[k]? = some (.par c') → vs[j]? = some (.ref a) → vs[k]? = some (.ref a) → j = k
  | _, _, _, _, _, _, .nil, _, j, k, c, c', a, h, _, _, _ => by simp at h
  | _, _, _, _, _, _, .own (i := i) (a := b) g e t, nd, j, k, c, c', a, h1, h2, h3, h4 => by
    obtain ⟨n1, n2⟩ := List.nodup_cons.mp nd
    have one : ∀ {k : Nat} {c' : Ct} {args : List Sl} {vs : List V} {ow lk : List Nat} {ws : List Vw} {ms : List Bool}, AR z O σ env H vs ws ms args ow lk → i ∉ ow → args[k]? = some (.par c') → vs[k]? = some (.ref b) → False := fun {k c' args vs ow lk ws ms} t n h2 h4 => by
      obtain ⟨i2, a2, _, m2, g2, v2, e2⟩ := t.par_at h2
      rw [h4] at v2
      cases v2
      have : i = i2 := R.inj i i2 _ _ b g g2 e e2
      exact n (by rw [this]; exact m2)
    cases j with
    | zero =>
      cases k with
      | zero => rfl
      | succ k =>
        simp at h3
        subst h3
        exact (one t n1 (k := k) (c' := c') (by simpa using h2) (by simpa using h4)).elim
    | succ j =>
      cases k with
      | zero =>
        simp at h4
        subst h4
        exact (one t n1 (k := j) (c' := c) (by simpa using h1) (by simpa using h3)).elim
      | succ k => exact congrArg Nat.succ (AR.inj R t n2 (j := j) (k := k) (c := c) (c' := c') (a := a) (by simpa using h1) (by simpa using h2) (by simpa using h3) (by simpa using h4))
  | _, _, _, _, _, _, .look g e t, nd, j, k, c, c', a, h1, h2, h3, h4 => by
    cases j with
    | zero => simp at h1
    | succ j =>
      cases k with
      | zero => simp at h2
      | succ k => exact congrArg Nat.succ (AR.inj R t nd (j := j) (k := k) (c := c) (c' := c') (a := a) (by simpa using h1) (by simpa using h2) (by simpa using h3) (by simpa using h4))
  | _, _, _, _, _, _, .data _ g t, nd, j, k, c, c', a, h1, h2, h3, h4 => by
    cases j with
    | zero => simp at h1
    | succ j =>
      cases k with
      | zero => simp at h2
      | succ k => exact congrArg Nat.succ (AR.inj R t nd (j := j) (k := k) (c := c) (c' := c') (a := a) (by simpa using h1) (by simpa using h2) (by simpa using h3) (by simpa using h4))
end
theorem nodup_of : ∀ {l : List Nat}, nodup l = true → l.Nodup
  | [], _ => .nil
  | x :: xs, h => by
    unfold nodup at h
    obtain ⟨h1, h2⟩ := Bool.and_eq_true_iff.mp h
    exact List.nodup_cons.mpr ⟨fun z => by simp at h1; exact h1 z, nodup_of h2⟩
/-- behind the call: the contents are put back -/
theorem putBack_at {K : PySem.W.Frag} {S : SS} {H' : Hp} {e0 : Env} : ∀ {vs : List V} {ws : List Vw} {ms : List Bool} {args : List Sl} {ow lk : List Nat} {cs : List Ct} {e e' : Env}, AR z O σ e0 H vs ws ms args ow lk → PR K S H' vs args cs → SameO e0 e → putBack ms ws cs e = some e' →
    SameO e e' ∧ (∀ (j : Nat) (s : Sl), knd s = 0 → (e'[j]? = some s ↔ e[j]? = some s)) ∧ ∀ i c, getO i e' = some c → (i ∉ ow ∧ getO i e = some c) ∨ ∃ a, σ[i]? = some (some (V.ref a)) ∧ RelC K S H' a c
  | _, _, _, _, _, _, _, e, e', .nil, .nil, so, h => by
    cases h
    exact ⟨SameO.refl _, fun j s _ => Iff.rfl, fun i c g => .inl ⟨List.not_mem_nil, g⟩⟩
  | _, _, _, _, _, _, _, e, e', .own (i := i0) g eσ t, .par (c := c0) hc p, so, h => by
    have h : putBack _ _ _ (setO i0 c0 e) = some e' := h
    obtain ⟨c1, g1⟩ := so.getO g
    obtain ⟨s1, s2, s3⟩ := putBack_at t p (so.trans setO_same) h
    refine ⟨setO_same.trans s1, fun j s hs => (s2 j s hs).trans (setO_keep hs), fun i c gi => ?_⟩
    rcases s3 i c gi with ⟨n, g2⟩ | r
    · by_cases hi : i = i0
      · subst hi
        rw [getO_setO g1] at g2
        cases g2
        exact .inr ⟨_, eσ, hc⟩
      · rw [getO_ne hi] at g2
        exact .inl ⟨fun z => (List.mem_cons.mp z).elim hi n, g2⟩
    · exact .inr r
  | _, _, _, _, _, _, cs, e, e', .look (i := i0) g eσ t, .oth p, so, h => putBack_at t p so h
  | _, _, _, _, _, _, cs, e, e', .data (w := .d x) nw g t, .oth p, so, h => putBack_at t p so h
  | _, _, _, _, _, _, cs, e, e', .data (w := .f x) nw g t, .oth p, so, h => putBack_at t p so h
  | _, _, _, _, _, _, cs, e, e', .data (w := .o x) nw g t, .oth p, so, h => absurd rfl (nw x)
theorem RelT.back {H' : Hp} {env' : Env} {O' : SS} (R : RelT z O H σ env) (wt : UbG.SameT (wo (cells σ env O) H) (wo (cells σ env O') H')) (hcl : Cl (cells σ env O') H') (htb : ∀ P, GxR.TabG H P → GxR.TabG H' P) (hout : ∀ (i : Nat) (c : Ct) (a : Addr), getO i env = some c → σ[i]? = some (some (V.ref a)) → ¬O' a)
    (so : SameO env env') (keep : ∀ (j : Nat) (s : Sl), knd s = 0 → (env'[j]? = some s ↔ env[j]? = some s))
    (own : ∀ i c, getO i env' = some c → ∃ a : Addr, σ[i]? = some (some (V.ref a)) ∧ RelC z.K (cells σ env O') H' a c) : RelT z O' H' σ env' := by
  have ce := so.cells σ O'
  refine ⟨R.len.trans so.1, fun j d h => ?_, fun j cj h => ?_, fun j k cj ck b hj hk => ?_, fun j cj b hj => ?_, fun j x h => ?_, ?_, fun P hP => htb P (R.tb P hP)⟩
  · rw [← ce]
    obtain ⟨v, h1, h2⟩ := R.dat j d ((keep j _ rfl).mp h)
    exact ⟨v, h1, Dq.monoT wt _ _ h2⟩
  · rw [← ce]
    exact own j cj h
  · obtain ⟨c1, g1⟩ := so.symm.getO hj
    obtain ⟨c2, g2⟩ := so.symm.getO hk
    exact R.inj j k c1 c2 b g1 g2
  · obtain ⟨c1, g1⟩ := so.symm.getO hj
    exact hout j c1 b g1
  · rw [← ce]
    obtain ⟨a, cls, d, h1, h2, h3, h4⟩ := R.ex j x ((keep j _ rfl).mp h)
    exact ⟨a, cls, d, h1, h2, h3, h4.imp id fun ⟨dx, vs, g1, g2, g3⟩ => ⟨dx, vs, g1, wt.but _ _ g2 (fun _ z => by cases z), Dq.monoTF wt _ _ g3⟩⟩
  · rw [← ce]
    exact hcl
theorem RelC.moveT {K : PySem.W.Frag} {S S' : SS} {H' : Hp} {a : Addr} {c : Ct} (wt : UbG.SameT (wo S H) (wo S' H')) (ha : ∀ o, H a = some o → UbP.isC o → H' a = some o) (h : RelC K S H a c) : RelC K S' H' a c := by
  cases c with
  | l ds =>
    obtain ⟨xs, h1, h2⟩ := h
    exact ⟨xs, ha _ h1 True.intro, Dq.monoTAll wt _ _ h2⟩
  | o c fs =>
    obtain ⟨dx, vs, h1, h2⟩ := h
    exact ⟨dx, vs, ha _ h1 True.intro, Dq.monoTF wt _ _ h2⟩
theorem wT_ext {S pS Ex : SS} {H' : Hp} (s : SameC pS H H') (hp : ∀ a, pS a → S a) (hx : ∀ a, Ex a → H a = none) : UbG.SameT (wo S H) (wo (fun a => S a ∨ Ex a) H') := by
  have out : ∀ b o, wo S H b = some o → ¬(S b ∨ Ex b) := fun b o h z => by
    obtain ⟨h1, h2⟩ := wo_in h
    rcases z with z | z
    · exact h1 z
    · rw [hx b z] at h2
      cases h2
  refine ⟨fun b o h t => ?_, fun P ⟨ps, h, t⟩ => ?_⟩
  · obtain ⟨h1, h2⟩ := wo_in h
    rw [wo_out (out b o h)]
    exact s.but b o (fun z => h1 (hp b z)) h2 t
  · obtain ⟨qs, g, t2⟩ := s.tab P ⟨ps, (wo_in h).2, t⟩
    exact ⟨qs, by rw [wo_out (out P _ h)]; exact g, t2⟩
theorem cells_or {Ex : SS} : cells σ env (fun s => O s ∨ Ex s) = fun s => cells σ env O s ∨ Ex s := by
  funext s
  exact propext ⟨fun h => h.elim (fun h => .inl (.inl h)) fun h => h.elim (fun h => .inl (.inr h)) .inr, fun h => h.elim (fun h => h.elim .inl fun h => .inr (.inl h)) fun h => .inr (.inr h)⟩
theorem or_no {S : SS} : (fun s => S s ∨ False) = S := by
  funext s
  exact propext ⟨fun h => h.elim id False.elim, .inl⟩
theorem vals_at {vs dvs : List V} {j : Nat} : ((vs ++ dvs).map some)[j]? = ((vs ++ dvs)[j]?).map some := List.getElem?_map ..
theorem PR.front {K : PySem.W.Frag} {S : SS} {dvs : List V} {dv : List D} : ∀ {vs : List V} {args : List Sl} {cs : List Ct}, args.length = vs.length → PR K S H (vs ++ dvs) (args ++ dv.map .dat) cs → PR K S H vs args cs
  | [], [], cs, _, h => by
    have nopar : ∀ {vs : List V} {ds : List D} {cs : List Ct}, PR K S H vs (ds.map .dat) cs → cs = [] := fun {vs ds} => by
      induction ds generalizing vs with
      | nil => intro cs h; cases h; rfl
      | cons d ds ih =>
        intro cs h
        cases h with
        | oth h => exact ih h
    rw [nopar (show PR K S H dvs (dv.map .dat) cs from h)]
    exact .nil
  | v :: vs, s :: args, cs, e, h => by
    cases h with
    | par h1 h2 => exact .par h1 (PR.front (Nat.succ.inj e) h2)
    | oth h2 => exact .oth (PR.front (Nat.succ.inj e) h2)
  | [], _ :: _, _, e, _ => by cases e
  | _ :: _, [], _, e, _ => by cases e
theorem call_core {f : Fn} {ms : List Bool} {dv : List D} {dvs : List V} {vs : List V} {ws : List Vw} {n : Nat} {Q : VK} (hdv : ∀ S H, DqAll z.K (wo S H) dvs dv) (hn : vs.length + dvs.length = n) (R : RelT z O H σ env) (VV : Paired (VRel z.K (cells σ env O) σ H) vs ws)
    (P : PostG vE z O σ env H Q (callB f ms dv ws env)) : spF z.K z.Tb f n (vs ++ dvs) H Q (WE z.W σ) := by
  unfold callB at P
  cases em : mkArgs ms ws env with
  | none => rw [em] at P; exact P.elim
  | some args =>
    rw [em] at P
    dsimp only at P
    split at P
    · rename_i hnd
      have A := mkArgs_AR R VV em
      have nd := List.nodup_append.mp (nodup_of hnd)
      generalize hσ : (vs ++ dvs).map some = σc
      generalize harg : args ++ dv.map .dat = argc at P
      have hlen := A.len
      have hl2 := (hdv (fun _ => False) H).len
      -- the owned arguments
      have parC : ∀ j c, getO j argc = some c → args[j]? = some (.par c) := fun j c h => by
        rw [← harg] at h
        rcases getO_cases h with g | g
        · rcases Nat.lt_or_ge j args.length with l | l
          · rw [List.getElem?_append_left l] at g
            rcases A.argS _ (List.mem_of_getElem? g) with ⟨d, z⟩ | ⟨d, z⟩ <;> cases z
          · rw [List.getElem?_append_right l, List.getElem?_map] at g
            obtain ⟨_, _, z⟩ := Option.map_eq_some_iff.mp g
            cases z
        · rcases Nat.lt_or_ge j args.length with l | l
          · rw [List.getElem?_append_left l] at g
            exact g
          · rw [List.getElem?_append_right l, List.getElem?_map] at g
            obtain ⟨_, _, z⟩ := Option.map_eq_some_iff.mp g
            cases z
      have atv : ∀ j v, j < args.length → (σc[j]? = some (some v) ↔ vs[j]? = some v) := fun j v l => by
        rw [← hσ, vals_at, List.getElem?_append_left (by omega)]
        constructor
        · intro h
          obtain ⟨x, h1, h2⟩ := Option.map_eq_some_iff.mp h
          cases h2
          exact h1
        · intro h
          rw [h]
          rfl
      have ownP : ∀ s, ownS σc argc s → ∃ i ∈ ownIx ms ws, ∃ c, getO i env = some c ∧ σ[i]? = some (some (V.ref s)) := fun s ⟨j, c, h1, h2⟩ => by
        have g := parC j c h1
        obtain ⟨i, a, _, m, h3, h4, h5⟩ := A.par_at g
        have h6 := (atv j _ (get_lt g)).mp h2
        rw [h4] at h6
        cases h6
        exact ⟨i, m, c, h3, h5⟩
      generalize hO : (fun s => cells σ env O s ∧ ¬ownS σc argc s ∧ ¬∃ i ∈ lookIx ms ws, σ[i]? = some (some (V.ref s))) = Oc
      have sub : ∀ s, cells σc argc Oc s → cells σ env O s := fun s hs => by
        rcases hs with h | h
        · obtain ⟨i, _, c, h1, h2⟩ := ownP s h
          exact .inl ⟨i, c, h1, h2⟩
        · rw [← hO] at h
          exact h.1
      have sameCells : lookIx ms ws = [] → cells σc argc Oc = cells σ env O := fun e => by
        funext s
        refine propext ⟨sub s, fun h => ?_⟩
        by_cases ho : ownS σc argc s
        · exact .inl ho
        · refine .inr ?_
          rw [← hO]
          exact ⟨h, ho, fun ⟨i, m, _⟩ => by rw [e] at m; exact absurd m List.not_mem_nil⟩
      have Rc : RelT (zF z.K z.Tb) Oc H σc argc := by
        refine ⟨by rw [← hσ, ← harg]; simp [hlen, hl2], fun j d h => ?_, fun j c h => ?_, fun j k c c' a h1 h2 h3 h4 => ?_, fun j c a h1 h2 ho => ?_, fun j x h => ?_, fun s hs => R.cl s (sub s hs), R.tb⟩
        · rw [← harg] at h
          rcases Nat.lt_or_ge j args.length with l | l
          · rw [List.getElem?_append_left l] at h
            obtain ⟨v, h1, h2⟩ := A.dat_at h
            refine ⟨v, (atv j v l).mpr h1, ?_⟩
            rcases h2 with h2 | ⟨i, c, a, m, g, rfl, rfl, e⟩
            · exact h2.mono (wo_sub sub)
            · refine (own_at R g e).data (fun hs => ?_) sub
              rcases hs with h | h
              · obtain ⟨i2, m2, c2, g2, e2⟩ := ownP a h
                have : i = i2 := R.inj i i2 _ _ a g g2 e e2
                subst this
                exact nd.2.2 i m2 i m rfl
              · rw [← hO] at h
                exact h.2.2 ⟨i, m, e⟩
          · rw [List.getElem?_append_right l, List.getElem?_map] at h
            obtain ⟨d', h1, h2⟩ := Option.map_eq_some_iff.mp h
            cases h2
            obtain ⟨v, h3, h4⟩ := (hdv (cells σc argc Oc) H).get h1
            refine ⟨v, ?_, h4⟩
            rw [← hσ, vals_at, List.getElem?_append_right (by omega), ← hlen, h3]
            rfl
        · have g := parC j c h
          obtain ⟨i, a, _, m, h3, h4, h5⟩ := A.par_at g
          exact ⟨a, (atv j _ (get_lt g)).mpr h4, (own_at R h3 h5).sub sub⟩
        · have g1 := parC j c h1
          have g2 := parC k c' h2
          exact A.inj R nd.1 g1 g2 ((atv j _ (get_lt g1)).mp h3) ((atv k _ (get_lt g2)).mp h4)
        · rw [← hO] at ho
          exact ho.2.1 ⟨j, c, h1, h2⟩
        · rw [← harg] at h
          rcases Nat.lt_or_ge j args.length with l | l
          · rw [List.getElem?_append_left l] at h
            rcases A.argS _ (List.mem_of_getElem? h) with ⟨d, z⟩ | ⟨d, z⟩ <;> cases z
          · rw [List.getElem?_append_right l, List.getElem?_map] at h
            obtain ⟨_, _, z⟩ := Option.map_eq_some_iff.mp h
            cases z
      have argS : ∀ s ∈ argc, ArgS s := fun s hs => by
        rw [← harg] at hs
        rcases List.mem_append.mp hs with h | h
        · exact A.argS s h
        · obtain ⟨d, _, e⟩ := List.mem_map.mp h
          exact .inl ⟨d, e.symm⟩
      refine ⟨by rw [List.length_append]; exact hn, Oc, argc, by rw [hσ]; exact Rc, argS, ?_⟩
      -- what stands behind the call
      have afterX : ∀ {cs : List Ct} {env' : Env} {H' : Hp} (Ex : SS), SameC (ownS σc argc) H H' → (∀ a, Ex a → H a = none ∧ ∃ o, H' a = some o ∧ isC o) → PR z.K (fun s => cells σc argc Oc s ∨ Ex s) H' (vs ++ dvs) argc cs → (lookIx ms ws = [] ∨ cs.all Ct.noL = true) → putBack ms ws cs env = some env' →
          RelT z (fun s => O s ∨ Ex s) H' σ env' ∧ SameO env env' ∧ SameC (ownS σ env) H H' := fun {cs env' H'} Ex s hX pr hlk hb => by
        have hs : ∀ a, ownS σc argc a → ownS σ env a := fun a h => by
          obtain ⟨i, _, c, h1, h2⟩ := ownP a h
          exact ⟨i, c, h1, h2⟩
        have s' := s.sub hs
        have ce : cells σ env (fun s => O s ∨ Ex s) = fun s => cells σ env O s ∨ Ex s := cells_or
        have cl' : Cl (cells σ env (fun s => O s ∨ Ex s)) H' := by
          rw [ce]
          exact fun a ha => ha.elim (fun h => (s'.sub fun a h => .inl h).clS R.cl a h) fun h => (hX a h).2
        have wt : UbG.SameT (wo (cells σ env O) H) (wo (cells σ env (fun s => O s ∨ Ex s)) H') := by
          rw [ce]
          exact wT_ext s (fun a h => .inl (hs a h)) fun a h => (hX a h).1
        have pr : PR z.K (fun s => cells σc argc Oc s ∨ Ex s) H' vs args cs := PR.front (dvs := dvs) (dv := dv) hlen (by rw [harg]; exact pr)
        have up : ∀ {vs : List V} {args : List Sl} {cs : List Ct}, (lookIx ms ws = [] ∨ cs.all Ct.noL = true) → PR z.K (fun s => cells σc argc Oc s ∨ Ex s) H' vs args cs → PR z.K (cells σ env (fun s => O s ∨ Ex s)) H' vs args cs := fun {vs args cs} hlk pr => by
          induction pr with
          | nil => exact .nil
          | @par a c c0 _ _ _ h _ ih =>
            refine .par ?_ (ih (hlk.imp id fun h => by rw [List.all_cons] at h; exact (Bool.and_eq_true_iff.mp h).2))
            rcases hlk with e | e
            · rw [ce, ← sameCells e]
              exact h
            · rw [List.all_cons] at e
              have e := (Bool.and_eq_true_iff.mp e).1
              cases c with
              | l ds =>
                obtain ⟨xs, h1, h2⟩ := h
                exact ⟨xs, h1, Dq.apartAll cl' ds xs e (h2.mono wo_same)⟩
              | o _ _ => cases e
          | oth _ ih => exact .oth (ih hlk)
        obtain ⟨so, keep, own⟩ := putBack_at A (up hlk pr) (SameO.refl env) hb
        refine ⟨R.back wt cl' s.tab (fun i c a g e hO => hO.elim (R.out i c a g e) fun h => ?_) so keep fun i c g => ?_, so, s'⟩
        · obtain ⟨o, h1, _⟩ := (own_at R g e).isC
          rw [(hX a h).1] at h1
          cases h1
        · rcases own i c g with ⟨n1, g1⟩ | r
          · obtain ⟨a, h1, h2⟩ := R.own i c g1
            refine ⟨a, h1, h2.moveT wt fun o ho hc => s.but a o (fun hp => ?_) ho (isC_tbl hc)⟩
            obtain ⟨i2, m2, c2, g2, e2⟩ := ownP a hp
            have : i = i2 := R.inj i i2 _ _ a g1 g2 h1 e2
            exact n1 (by rw [this]; exact m2)
          · exact r
      have after : ∀ {cs : List Ct} {env' : Env} {H' : Hp}, SameC (ownS σc argc) H H' → PR z.K (cells σc argc Oc) H' (vs ++ dvs) argc cs → (lookIx ms ws = [] ∨ cs.all Ct.noL = true) → putBack ms ws cs env = some env' → RelT z O H' σ env' ∧ SameO env env' ∧ SameC (ownS σ env) H H' := fun {cs env' H'} s pr hlk hb => by
        have h := afterX (fun _ => False) s (fun _ z => z.elim) (by rw [or_no]; exact pr) hlk hb
        rw [or_no] at h
        exact h
      have lkE : (lookIx ms ws).isEmpty = true → lookIx ms ws = [] := fun h => List.isEmpty_iff.mp h
      cases ef : f argc with
      | ret w cs =>
        rw [ef] at P
        dsimp only at P
        split at P
        · rename_i hp
          cases eb : putBack ms ws cs env with
          | none => rw [eb] at P; exact P.elim
          | some env' =>
            rw [eb] at P
            unfold passOk at hp
            obtain ⟨hp1, hp2⟩ := Bool.and_eq_true_iff.mp hp
            intro v H' s pr V' N
            rw [hσ] at s pr V'
            have hlk : lookIx ms ws = [] ∨ (w.noL = true ∧ cs.all Ct.noL = true) := (Bool.or_eq_true_iff.mp hp2).imp lkE fun h => Bool.and_eq_true_iff.mp h
            have pr0 : PR z.K (cells σc argc Oc) H' (vs ++ dvs) argc cs := by
              cases w with
              | f c =>
                have go : ∀ {vs : List V} {args : List Sl} {cs : List Ct}, PR z.K (apart v (.f c) (cells σc argc Oc)) H' vs args cs → PR z.K (cells σc argc Oc) H' vs args cs := fun {vs args cs} pr => by
                  induction pr with
                  | nil => exact .nil
                  | par h _ ih => exact .par (h.sub fun s hs => .inl hs) ih
                  | oth _ ih => exact .oth ih
                exact go pr
              | d x => exact pr
              | o i => exact pr
            obtain ⟨R', so, s'⟩ := after s pr0 (hlk.imp id (·.2)) eb
            refine P v H' s' R' so ⟨?_, N, ?_⟩
            rotate_left
            · cases w with
              | f c =>
                intro a ea
                subst ea
                obtain ⟨b, eb', _, hc⟩ := V'
                cases eb'
                refine (afterX (fun s => s = a) s (fun b hb => by rw [hb]; exact ⟨N a rfl, hc.isC⟩) ?_ (hlk.imp id (·.2)) eb).1
                have e : (fun s => cells σc argc Oc s ∨ s = a) = apart (.ref a) (.f c) (cells σc argc Oc) := by
                  funext s
                  exact propext ⟨fun h => h.imp id fun h => by rw [h], fun h => h.imp id fun h => by cases h; rfl⟩
                rw [e]
                exact pr
              | d x => exact True.intro
              | o i => exact True.intro
            rw [← so.cells σ O]
            cases w with
            | o i => cases hp1
            | d x =>
              have V' : Dq z.K (wo (cells σc argc Oc) H') v x := V'
              show Dq z.K (wo (cells σ env O) H') v x
              rcases hlk with e | e
              · rw [← sameCells e]
                exact V'
              · exact Dq.apart ((s'.sub fun a h => .inl h).clS R.cl) x v e.1 V'.out
            | f c =>
              rcases hlk with e | e
              · rw [← sameCells e]
                exact V'
              · cases e.1
        · exact P.elim
      | exc x cs =>
        rw [ef] at P
        dsimp only at P
        split at P
        · rename_i hp
          cases eb : putBack ms ws cs env with
          | none => rw [eb] at P; exact P.elim
          | some env' =>
            rw [eb] at P
            intro cls d H' s pr X
            rw [hσ] at s pr X
            obtain ⟨R', so, s'⟩ := after s pr (.inl (lkE hp)) eb
            refine P cls d H' s' R' so ?_
            rw [← so.cells σ O, ← sameCells (lkE hp)]
            exact X
        · exact P.elim
      | bad => rw [ef] at P; exact P.elim
    · exact P.elim
end
section
variable {X : Cx} {z : Z} {e : Expr} {es : List Expr} {fs : List (M Vw)} {x : Str} {k j n : Nat} {ps : List Str} {f : Fn} {ms : List Bool} {p pos : Pos} {dvs : List V} {dv : List D}
theorem eArgs_len : ∀ {fs : List (M Vw)} {e e' : Env} {ws : List Vw}, eArgs fs e = .ok ws e' → ws.length = fs.length
  | [], _, _, _, h => by cases h; rfl
  | f :: fs, e, e', ws, h => by
    unfold eArgs bnd at h
    cases e1 : f e with
    | exc _ _ => rw [e1] at h; cases h
    | bad => rw [e1] at h; cases h
    | ok w e2 =>
      rw [e1] at h
      dsimp only at h
      cases e3 : eArgs fs e2 with
      | exc _ _ => rw [e3] at h; cases h
      | bad => rw [e3] at h; cases h
      | ok ws' e4 =>
        rw [e3] at h
        cases h
        rw [List.length_cons, List.length_cons, eArgs_len e3]
/-- the arguments, with how many there are -/
theorem post_args {O : SS} {σ : L2.St} {env : Env} {H : Hp} {Q : VK} {k : List Vw → M Vw} (R : RelT z O H σ env) (P : PostG vE z O σ env H Q (bnd (eArgs fs) k env)) :
    tG vA z (eArgs fs) σ H fun vs H1 => ∃ env1 ws, RelT z O H1 σ env1 ∧ SameC (ownS σ env) H H1 ∧ SameO env env1 ∧ Paired (VRel z.K (cells σ env1 O) σ H1) vs ws ∧ vs.length = fs.length ∧ PostG vE z O σ env1 H1 Q (k ws env1) := by
  refine ⟨O, env, R, ?_⟩
  unfold bnd at P
  cases e : eArgs fs env with
  | ok w env1 =>
    rw [e] at P
    intro v H1 s1 R1' so V
    have hl : v.length = w.length := Paired.length V
    exact ⟨env1, w, R1', s1, so, V, hl.trans (eArgs_len e), PostG.move bkE s1 so P⟩
  | exc x env1 => rw [e] at P; exact P
  | bad => rw [e] at P; exact P
theorem pu_call (hK : X.K = z.K) (C : Cal X.prog X.w X.K X.mg X.base x k ps dvs (spF X.K z.Tb f n)) (hdv : ∀ S H, DqAll z.K (wo S H) dvs dv) (hn : (es.length + 1) + dvs.length = n) (hf : fs.length = es.length + 1) (hr : Room j X.A) (hj : k ≤ j) (hg : Gl X x) (tk : Takes X z.W) (ha : PA X (e :: es) (tA z (eArgs fs)))
    (hdb : (x == ("__debug__" : Str)) = false := by decide) (he : starEach (e :: es) X.env = (false, eval e X.env) :: starEach es X.env := by rfl) (hpl : (backTo pos (starEach es X.env)).any (·.1) = false := by rfl) :
    PE X (.Call (.Name x p) (e :: es) [] pos) (tP z (eCall f ms fs dv)) := by
  obtain ⟨ff, fd, ds, F, hm, hk, hd, hb⟩ := C.ex
  refine ⟨fun pins s σ H Q I h => ?_⟩
  obtain ⟨O, env, R, P⟩ := h
  refine wpAny_Call_Name_kw (ld_glob I hg hm ?_ hdb)
  refine PySem.W.callWith_K (h₀ := X.base) I.ok.mod.kin hk (thn (ha.run pos pins s σ H _ I (post_args R P)) fun us s1 ⟨vs, H1, I1, r, env1, ws, R1, s1', so, V, hl, P1⟩ => ⟨I1.kIn, ?_⟩) he hpl
  refine run_fnSD F (hr.mono hj) hb hd (passAt tk σ) I1 r ?_
  rw [hK]
  exact call_core hdv (by rw [hl, hf]; exact hn) R1 V P1
theorem pu_call0 (hK : X.K = z.K) (C : Cal X.prog X.w X.K X.mg X.base x k ps dvs (spF X.K z.Tb f n)) (hdv : ∀ S H, DqAll z.K (wo S H) dvs dv) (hn : dvs.length = n) (hr : Room j X.A) (hj : k ≤ j) (hg : Gl X x) (tk : Takes X z.W)
    (hdb : (x == ("__debug__" : Str)) = false := by decide) :
    PE X (.Call (.Name x p) [] [] pos) (tP z (eCall f [] [] dv)) := by
  obtain ⟨ff, fd, ds, F, hm, hk, hd, hb⟩ := C.ex
  refine ⟨fun pins s σ H Q I h => ?_⟩
  obtain ⟨O, env, R, P⟩ := h
  refine wpAny_Call_Name_kw (ld_glob I hg hm ?_ hdb)
  refine PySem.W.callWith_K0 I.kIn hk (run_fnSD (us := []) (vs := []) F (hr.mono hj) hb hd (passAt tk σ) I .nil ?_)
  rw [hK]
  exact call_core (ms := []) (vs := []) (ws := []) hdv (by rw [List.length_nil, Nat.zero_add]; exact hn) R .nil P
end
end UbP

namespace UbP
open PySem PySem.Spec PyProof.Rows L2 UbM Ub
/-! ### a def's frame -/
structure Fm where
  O : SS
  σ0 : L2.St
  env0 : Env
  H0 : Hp
def parS (B : Fm) : SS := fun s => ∃ (i : Nat) (c : Ct), B.env0[i]? = some (Sl.par c) ∧ B.σ0[i]? = some (some (V.ref s))
structure Base (B : Fm) (σ : L2.St) (env : Env) (H : Hp) : Prop where
  len : env.length = B.env0.length
  par : ∀ i : Nat, (∃ c, env[i]? = some (Sl.par c)) ↔ ∃ c, B.env0[i]? = some (Sl.par c)
  at_ : ∀ (i : Nat) (c : Ct), env[i]? = some (Sl.par c) → σ[i]? = B.σ0[i]?
  heap : SameC (parS B) B.H0 H
  new : ∀ (i : Nat) (c : Ct) (a : Addr), env[i]? = some (Sl.own c) → σ[i]? = some (some (V.ref a)) → B.H0 a = none
theorem SameO.par {env env' : Env} (so : SameO env env') {i : Nat} : (∃ c, env'[i]? = some (Sl.par c)) ↔ ∃ c, env[i]? = some (Sl.par c) := by
  have h := so.2 i
  constructor
  · rintro ⟨c, e⟩
    rw [e] at h
    cases g : env[i]? with
    | none => rw [g] at h; cases h
    | some s =>
      rw [g] at h
      cases s with
      | par c => exact ⟨c, rfl⟩
      | _ => cases h
  · rintro ⟨c, e⟩
    rw [e] at h
    cases g : env'[i]? with
    | none => rw [g] at h; cases h
    | some s =>
      rw [g] at h
      cases s with
      | par c => exact ⟨c, rfl⟩
      | _ => cases h
theorem SameO.own1 {env env' : Env} (so : SameO env env') {i : Nat} {c : Ct} (e : env'[i]? = some (Sl.own c)) : ∃ c, env[i]? = some (Sl.own c) := by
  have h := so.2 i
  rw [e] at h
  cases g : env[i]? with
  | none => rw [g] at h; cases h
  | some s =>
    rw [g] at h
    cases s with
    | own c => exact ⟨c, rfl⟩
    | _ => cases h
theorem getO_own {env : Env} {i : Nat} {c : Ct} (h : env[i]? = some (Sl.own c)) : getO i env = some c := by unfold getO; rw [h]
theorem getO_par {env : Env} {i : Nat} {c : Ct} (h : env[i]? = some (Sl.par c)) : getO i env = some c := by unfold getO; rw [h]
section
variable {z : Z} {B : Fm} {O : SS} {σ σ' σ1 : L2.St} {env env' env1 : Env} {H H' H1 : Hp} {α β : Type} {D : Ends}
theorem SameC.into {S S0 : SS} {H0 : Hp} (h : SameC S0 H0 H) (e : SameC S H H') (i : ∀ s, S s → S0 s ∨ H0 s = none) : SameC S0 H0 H' := by
  refine ⟨fun b o n g t => ?_, fun P g => e.tab P (h.tab P g), fun s hs g => ?_, fun b g => h.dom b (e.dom b g)⟩
  · have g1 := h.but b o n g t
    refine e.but b o (fun z => ?_) g1 t
    rcases i b z with z | z
    · exact n z
    · rw [z] at g; cases g
  · obtain ⟨o, g1, c⟩ := h.cl s hs g
    by_cases hS : S s
    · exact e.cl s hS ⟨o, g1, c⟩
    · exact ⟨o, e.but s o hS g1 (isC_tbl c), c⟩
theorem Base.own_in (b : Base B σ env H) : ∀ s, ownS σ env s → parS B s ∨ B.H0 s = none := fun s ⟨i, c, g, e⟩ => by
  rcases getO_cases g with h | h
  · exact .inr (b.new i c s h e)
  · obtain ⟨c', h'⟩ := (b.par i).mp ⟨c, h⟩
    exact .inl ⟨i, c', h', by rw [← b.at_ i c h]; exact e⟩
theorem Base.step (b : Base B σ env H) (s : SameC (ownS σ env) H H') (so : SameO env env') : Base B σ env' H' :=
  ⟨so.1.symm.trans b.len, fun i => so.par.trans (b.par i), fun i c h => by
    obtain ⟨c', h'⟩ := so.par.mp ⟨c, h⟩
    exact b.at_ i c' h', b.heap.into s b.own_in, fun i c a h e => by
    obtain ⟨c', h'⟩ := so.own1 h
    exact b.new i c' a h' e⟩
theorem Base.mono (b : Base B σ env H) (e : Kp H H') : Base B σ env H' := b.step (Kp.C e) (SameO.refl _)
def Stp (O : SS) (σ : L2.St) (env : Env) (H : Hp) (σ' : L2.St) (env' : Env) (H' : Hp) : Prop := UbG.SameT (wo (cells σ env O) H) (wo (cells σ' env' O) H')
theorem Stp.refl : Stp O σ env H σ env H := UbG.SameT.refl _
theorem Stp.trans (a : Stp O σ env H σ1 env1 H1) (b : Stp O σ1 env1 H1 σ' env' H') : Stp O σ env H σ' env' H' := UbG.SameT.trans a b
theorem stp_expr (s : SameC (ownS σ env) H H') (so : SameO env env') : Stp O σ env H σ env' H' := by
  unfold Stp
  rw [← so.cells σ O]
  exact (s.sub fun a h => .inl h).wT
/-- behind a statement -/
def PostS (z : Z) (B : Fm) (σ : L2.St) (env : Env) (H : Hp) (D : Ends) : Res Fl → Prop
  | .ok .nx env' => ∀ σ' H', RelT z B.O H' σ' env' → Base B σ' env' H' → Stp B.O σ env H σ' env' H' → D.nx σ' H'
  | .ok .bk env' => ∀ σ' H', RelT z B.O H' σ' env' → Base B σ' env' H' → Stp B.O σ env H σ' env' H' → D.bk σ' H'
  | .ok .ct env' => ∀ σ' H', RelT z B.O H' σ' env' → Base B σ' env' H' → Stp B.O σ env H σ' env' H' → D.ct σ' H'
  | .ok (.rt w) env' => ∀ v σ' H', RelT z B.O H' σ' env' → Base B σ' env' H' → VRel z.K (cells σ' env' B.O) σ' H' v w → NewV B.H0 v w → AwayV z B.O σ' env' H' v w → D.rt v H'
  | .exc x env' => ∀ cls d σ' H', RelT z B.O H' σ' env' → Base B σ' env' H' → Stp B.O σ env H σ' env' H' → ExR z.K (wo (cells σ' env' B.O) H') x cls d → z.W cls d σ' H'
  | .bad => False
def tS (z : Z) (f : M Fl) : TS := fun D σ H => ∃ B env, RelT z B.O H σ env ∧ Base B σ env H ∧ PostS z B σ env H D (f env)
theorem PostS.move {r : Res Fl} (s : Stp B.O σ env H σ1 env1 H1) (P : PostS z B σ env H D r) : PostS z B σ1 env1 H1 D r := by
  cases r with
  | ok f e =>
    cases f with
    | nx => exact fun σ' H' a b c => P σ' H' a b (s.trans c)
    | bk => exact fun σ' H' a b c => P σ' H' a b (s.trans c)
    | ct => exact fun σ' H' a b c => P σ' H' a b (s.trans c)
    | rt w => exact P
  | exc x e => exact fun cls d σ' H' a b c => P cls d σ' H' a b (s.trans c)
  | bad => exact P
/-- an expression within a statement -/
theorem postS_bnd0 {R1 : VRt α β} {m : M α} {k : α → M Fl} (R : RelT z B.O H σ env) (b : Base B σ env H) (P : PostS z B σ env H D (bnd m k env)) :
    tG R1 z m σ H fun v H1 => ∃ env1 w, RelT z B.O H1 σ env1 ∧ Base B σ env1 H1 ∧ SameC (ownS σ env) H H1 ∧ SameO env env1 ∧ R1 z B.O env1 σ H H1 v w ∧ PostS z B σ env H D (k w env1) := by
  refine ⟨B.O, env, R, ?_⟩
  unfold bnd at P
  cases e : m env with
  | ok w env1 =>
    rw [e] at P
    intro v H1 s1 R1' so V
    exact ⟨env1, w, R1', b.step s1 so, s1, so, V, P⟩
  | exc x env1 =>
    rw [e] at P
    intro cls d H1 s1 R1' so X
    exact P cls d σ H1 R1' (b.step s1 so) (stp_expr s1 so) X
  | bad => rw [e] at P; exact P
theorem postS_bnd {R1 : VRt α β} {m : M α} {k : α → M Fl} (R : RelT z B.O H σ env) (b : Base B σ env H) (P : PostS z B σ env H D (bnd m k env)) :
    tG R1 z m σ H fun v H1 => ∃ env1 w, RelT z B.O H1 σ env1 ∧ Base B σ env1 H1 ∧ SameC (ownS σ env) H H1 ∧ SameO env env1 ∧ R1 z B.O env1 σ H H1 v w ∧ PostS z B σ env1 H1 D (k w env1) :=
  tG_mono (postS_bnd0 R b P) fun v H1 ⟨env1, w, h1, h2, h3, h4, h5, P1⟩ => ⟨env1, w, h1, h2, h3, h4, h5, PostS.move (stp_expr h3 h4) P1⟩
theorem postS_opt {o : Option α} {k : α → M Fl} (P : PostS z B σ env H D (bnd (optM o) k env)) : ∃ a, o = some a ∧ PostS z B σ env H D (k a env) := by
  unfold bnd optM at P
  cases o with
  | none => exact P.elim
  | some a => exact ⟨a, rfl, P⟩
theorem postS_now {w : Vw} {k : UbP.D → M Fl} (P : PostS z B σ env H D (bnd (nowM w) k env)) : ∃ a, w.now env = some a ∧ PostS z B σ env H D (k a env) := by
  unfold bnd nowM at P
  cases e : w.now env with
  | none => rw [e] at P; exact P.elim
  | some a => rw [e] at P; exact ⟨a, rfl, P⟩
theorem postS_stay {w : Vw} {k : UbP.D → M Fl} (P : PostS z B σ env H D (bnd (stayM w) k env)) : ∃ a, w.stay = some a ∧ PostS z B σ env H D (k a env) := postS_opt P
/-! slots are stored -/
def slots : Tg → List Nat
  | .nm i => [i]
  | .tp ts => slotsL ts
where slotsL : List Tg → List Nat
  | [] => []
  | t :: ts => slots t ++ slotsL ts
structure Chg (is : List Nat) (σ : L2.St) (env : Env) (σ' : L2.St) (env' : Env) : Prop where
  l1 : σ'.length = σ.length
  l2 : env'.length = env.length
  s : ∀ j : Nat, j ∉ is → σ'[j]? = σ[j]?
  e : ∀ j : Nat, j ∉ is → env'[j]? = env[j]?
  p : ∀ j : Nat, j ∈ is → (∀ c, env[j]? ≠ some (Sl.par c)) ∧ ∃ s, env'[j]? = some s ∧ knd s = 0
theorem Chg.getO {is : List Nat} (h : Chg is σ env σ' env') {j : Nat} {c : Ct} (g : getO j env' = some c) : j ∉ is ∧ UbP.getO j env = some c := by
  have n : j ∉ is := fun m => by
    obtain ⟨s, e, k⟩ := (h.p j m).2
    rcases getO_cases g with q | q
    · rw [e] at q; cases q; cases k
    · rw [e] at q; cases q; cases k
  refine ⟨n, ?_⟩
  unfold UbP.getO at g ⊢
  rw [h.e j n] at g
  exact g
theorem Chg.cells {is : List Nat} (h : Chg is σ env σ' env') : ∀ s, UbP.cells σ' env' O s → UbP.cells σ env O s := fun s hs => by
  rcases hs with ⟨j, c, g, e⟩ | hs
  · obtain ⟨n, g'⟩ := h.getO g
    exact .inl ⟨j, c, g', by rw [← h.s j n]; exact e⟩
  · exact .inr hs
theorem Chg.trans {is js : List Nat} (h : Chg is σ env σ1 env1) (g : Chg js σ1 env1 σ' env') : Chg (is ++ js) σ env σ' env' := by
  refine ⟨g.l1.trans h.l1, g.l2.trans h.l2, fun j n => ?_, fun j n => ?_, fun j m => ?_⟩
  · rw [List.mem_append, not_or] at n
    exact (g.s j n.2).trans (h.s j n.1)
  · rw [List.mem_append, not_or] at n
    exact (g.e j n.2).trans (h.e j n.1)
  · by_cases hj : j ∈ js
    · refine ⟨fun c e => ?_, (g.p j hj).2⟩
      by_cases hi : j ∈ is
      · exact (h.p j hi).1 c e
      · exact (g.p j hj).1 c (by rw [h.e j hi]; exact e)
    · have hi : j ∈ is := (List.mem_append.mp m).resolve_right hj
      obtain ⟨a, s, e, k⟩ := h.p j hi
      exact ⟨a, s, by rw [g.e j hj]; exact e, k⟩
theorem Chg.stp {is : List Nat} (h : Chg is σ env σ' env') : Stp O σ env H σ' env' H := UbG.sameT (wo_sub h.cells)
theorem Chg.base {is : List Nat} (h : Chg is σ env σ' env') (b : Base B σ env H) : Base B σ' env' H := by
  have par : ∀ {i : Nat} {c : Ct}, env'[i]? = some (Sl.par c) → i ∉ is := fun {i c} e m => by
    obtain ⟨s, e', k⟩ := (h.p i m).2
    rw [e] at e'; cases e'; cases k
  refine ⟨h.l2.trans b.len, fun i => Iff.trans ⟨fun ⟨c, e⟩ => ⟨c, by rw [← h.e i (par e)]; exact e⟩, fun ⟨c, e⟩ => ⟨c, by rw [h.e i fun m => (h.p i m).1 c e]; exact e⟩⟩ (b.par i), fun i c e => ?_, b.heap, fun i c a e e' => ?_⟩
  · have n := par e
    rw [h.s i n]
    exact b.at_ i c (by rw [← h.e i n]; exact e)
  · obtain ⟨n, g⟩ := h.getO (getO_own e)
    exact b.new i c a (by rw [← h.e i n]; exact e) (by rw [← h.s i n]; exact e')
/-- the data slots of is are set anew -/
theorem RelT.chg {is : List Nat} (R : RelT z O H σ env) (h : Chg is σ env σ' env') (hd : ∀ j d, j ∈ is → env'[j]? = some (Sl.dat d) → ∃ v : V, σ'[j]? = some (some v) ∧ Dq z.K (wo (cells σ' env' O) H) v d)
    (hx : ∀ j x, j ∈ is → env'[j]? ≠ some (Sl.ex x)) : RelT z O H σ' env' := by
  have sub := h.cells (O := O)
  refine ⟨h.l1.trans (R.len.trans h.l2.symm), fun j d e => ?_, fun j c g => ?_, fun j k c c' a g1 g2 e1 e2 => ?_, fun j c a g e => ?_, fun j x e => ?_, fun s hs => R.cl s (sub s hs), R.tb⟩
  · by_cases hj : j ∈ is
    · exact hd j d hj e
    · obtain ⟨v, h1, h2⟩ := R.dat j d (by rw [← h.e j hj]; exact e)
      exact ⟨v, by rw [h.s j hj]; exact h1, h2.mono (wo_sub sub)⟩
  · obtain ⟨n, g'⟩ := h.getO g
    obtain ⟨a, h1, h2⟩ := R.own j c g'
    exact ⟨a, by rw [h.s j n]; exact h1, h2.sub sub⟩
  · obtain ⟨n1, g1'⟩ := h.getO g1
    obtain ⟨n2, g2'⟩ := h.getO g2
    exact R.inj j k c c' a g1' g2' (by rw [← h.s j n1]; exact e1) (by rw [← h.s k n2]; exact e2)
  · obtain ⟨n1, g1'⟩ := h.getO g
    exact R.out j c a g1' (by rw [← h.s j n1]; exact e)
  · by_cases hj : j ∈ is
    · exact absurd e (hx j x hj)
    · obtain ⟨a, cls, d, h1, h2, h3, h4⟩ := R.ex j x (by rw [← h.e j hj]; exact e)
      exact ⟨a, cls, d, h1, by rw [h.s j hj]; exact h2, h3, h4.imp id fun ⟨dx, vs, g1, g2, g3⟩ => ⟨dx, vs, g1, wo_sub sub _ _ g2, g3.mono (wo_sub sub)⟩⟩
theorem putN_some {i : Nat} {d : UbP.D} (h : putN i d env = some env') : env' = env.set i (.dat d) ∧ i < env.length ∧ ∀ c, env[i]? ≠ some (Sl.par c) := by
  unfold putN at h
  split at h
  · rename_i g; cases h; exact ⟨rfl, get_lt g, fun c e => by rw [g] at e; cases e⟩
  · rename_i g; cases h; exact ⟨rfl, get_lt g, fun c e => by rw [g] at e; cases e⟩
  · rename_i g; cases h; exact ⟨rfl, get_lt g, fun c e => by rw [g] at e; cases e⟩
  · cases h
theorem setN {i : Nat} {d : UbP.D} {v : V} (R : RelT z O H σ env) (h : putN i d env = some env') (hv : Dq z.K (wo (cells σ env O) H) v d) : RelT z O H (σ.set i (some v)) env' ∧ Chg [i] σ env (σ.set i (some v)) env' := by
  obtain ⟨rfl, hl, np⟩ := putN_some h
  have C : Chg [i] σ env (σ.set i (some v)) (env.set i (.dat d)) := by
    refine ⟨List.length_set .., List.length_set .., fun j n => ?_, fun j n => ?_, fun j m => ?_⟩
    · exact List.getElem?_set_ne fun z => n (by rw [z]; exact List.mem_singleton.mpr rfl)
    · exact List.getElem?_set_ne fun z => n (by rw [z]; exact List.mem_singleton.mpr rfl)
    · have e := List.mem_singleton.mp m
      subst e
      exact ⟨np, _, List.getElem?_set_self hl, rfl⟩
  refine ⟨R.chg C (fun j d' m e => ?_) (fun j x m e => ?_), C⟩
  · have e' := List.mem_singleton.mp m
    subst e'
    rw [List.getElem?_set_self hl] at e
    cases e
    exact ⟨v, List.getElem?_set_self (by rw [R.len]; exact hl), hv.mono (wo_sub C.cells)⟩
  · have e' := List.mem_singleton.mp m
    subst e'
    rw [List.getElem?_set_self hl] at e
    cases e
end
mutual
def gT (K : PySem.W.Frag) : Tg → TG
  | .nm i => gName i
  | .tp ts => gTup K ts.length (gTs K ts)
def gTs (K : PySem.W.Frag) : List Tg → TGs
  | [] => gNil
  | t :: ts => gCons (gT K t) (gTs K ts)
end
section
variable {z : Z} {B : Fm} {O : SS} {H H' H1 : Hp}
mutual
theorem putT_ok : ∀ (tg : Tg) (d : UbP.D) (v : V) (σ : L2.St) (env env' : Env), RelT z O H σ env → putT tg d env = some env' → Dq z.K (wo (cells σ env O) H) v d →
    ∃ σ', (∀ Q : L2.St → Hp → Prop, Q σ' H → gT z.K tg v σ H Q) ∧ RelT z O H σ' env' ∧ Chg (slots tg) σ env σ' env'
  | .nm i, d, v, σ, env, env', R, h, hv => by
    unfold putT at h
    obtain ⟨R', C⟩ := setN R h hv
    refine ⟨_, fun Q q => ?_, R', by unfold slots; exact C⟩
    unfold gT
    exact q
  | .tp ts, .tup ds, v, σ, env, env', R, h, hv => by
    unfold putT at h
    cases hv with
    | tup h1 h2 =>
      obtain ⟨σ', q, R', C⟩ := putTs_ok ts ds _ σ env env' R h h2
      refine ⟨σ', fun Q k => ?_, R', by unfold slots; exact C⟩
      unfold gT
      exact ⟨_, _, rfl, Same.tseq wo_same h1, by rw [h2.len]; exact (putTs_len h).symm, q Q k⟩
  | .tp ts, .non, v, σ, env, env', R, h, hv => by unfold putT at h; cases h
  | .tp ts, .bl _, v, σ, env, env', R, h, hv => by unfold putT at h; cases h
  | .tp ts, .int _, v, σ, env, env', R, h, hv => by unfold putT at h; cases h
  | .tp ts, .str _, v, σ, env, env', R, h, hv => by unfold putT at h; cases h
  | .tp ts, .lst _, v, σ, env, env', R, h, hv => by unfold putT at h; cases h
  | .tp ts, .lsf _, v, σ, env, env', R, h, hv => by unfold putT at h; cases h
  | .tp ts, .obj _ _, v, σ, env, env', R, h, hv => by unfold putT at h; cases h
theorem putTs_ok : ∀ (ts : List Tg) (ds : List UbP.D) (vs : List V) (σ : L2.St) (env env' : Env), RelT z O H σ env → putTs ts ds env = some env' → DqAll z.K (wo (cells σ env O) H) vs ds →
    ∃ σ', (∀ Q : L2.St → Hp → Prop, Q σ' H → gTs z.K ts vs σ H Q) ∧ RelT z O H σ' env' ∧ Chg (slots.slotsL ts) σ env σ' env'
  | [], [], vs, σ, env, env', R, h, hv => by
    unfold putTs at h
    cases h
    cases hv
    refine ⟨σ, fun Q q => by unfold gTs; exact ⟨rfl, q⟩, R, ?_⟩
    unfold slots.slotsL
    exact ⟨rfl, rfl, fun _ _ => rfl, fun _ _ => rfl, fun j m => absurd m List.not_mem_nil⟩
  | t :: ts, d :: ds, vs, σ, env, env', R, h, hv => by
    unfold putTs at h
    obtain ⟨env1, e1, e2⟩ := Option.bind_eq_some_iff.mp h
    cases hv with
    | cons h1 h2 =>
      obtain ⟨σ1, q1, R1, C1⟩ := putT_ok t d _ σ env env1 R e1 h1
      obtain ⟨σ2, q2, R2, C2⟩ := putTs_ok ts ds _ σ1 env1 env' R1 e2 (h2.mono (wo_sub C1.cells))
      refine ⟨σ2, fun Q q => ?_, R2, by unfold slots.slotsL; exact C1.trans C2⟩
      unfold gTs
      exact ⟨_, _, rfl, q1 _ (q2 Q q)⟩
  | [], _ :: _, vs, σ, env, env', R, h, hv => by unfold putTs at h; cases h
  | _ :: _, [], vs, σ, env, env', R, h, hv => by unfold putTs at h; cases h
theorem putTs_len : ∀ {ts : List Tg} {ds : List UbP.D} {env env' : Env}, putTs ts ds env = some env' → ts.length = ds.length
  | [], [], _, _, _ => rfl
  | t :: ts, d :: ds, _, _, h => by
    unfold putTs at h
    obtain ⟨env1, e1, e2⟩ := Option.bind_eq_some_iff.mp h
    rw [List.length_cons, List.length_cons, putTs_len e2]
  | [], _ :: _, _, _, h => by unfold putTs at h; cases h
  | _ :: _, [], _, _, h => by unfold putTs at h; cases h
end
end
/-! ### simple statements -/
section
variable {X : Cx} {z : Z} {e a b : Expr} {st : Stmt} {rest : List Stmt} {fa fb : M Vw} {f g : M Fl} {ft : M Bool} {pos p : Pos} {x : Str}
theorem pu_snil : PSs X [] (tS z sNx) := PSs_imp pss_nil fun D σ H ⟨B, env, R, b, P⟩ => P σ H R b Stp.refl
theorem pu_sone (h : PS X st (tS z f)) : PSs X [st] (tS z f) := pss_one h
theorem pu_scons (h : PS X st (tS z f)) (hr : PSs X rest (tS z g)) : PSs X (st :: rest) (tS z (sSeq f g)) := PSs_imp (pss_cons h hr) fun D σ H ⟨B, env, R, b, P⟩ => by
  refine ⟨B, env, R, b, ?_⟩
  unfold sSeq bnd at P
  cases ef : f env with
  | ok fl e1 =>
    rw [ef] at P
    cases fl with
    | nx => exact fun σ' H' R' b' s => ⟨B, e1, R', b', PostS.move s P⟩
    | bk => exact P
    | ct => exact P
    | rt w => exact P
  | exc x e1 => rw [ef] at P; exact P
  | bad => rw [ef] at P; exact P
theorem pu_sset {i : Nat} {pos' : Pos} (hN : X.N.Nodup) (hi : X.N[i]? = some x) (hx : Loc X.env.scope x) (he : PE X e (tP z fa)) (hs : swapsWith e (some (.Name x pos')) pos.line X.env = pure false := by rfl) (hf : X.fn x = true ∨ X.env.scope.names.lookup x = some .local := by first | exact .inl rfl | exact .inr rfl | assumption) :
    PS X (.Assign [.Name x pos'] e pos) (tS z (sSet i fa)) := PS_imp (ps_set hN hi hx he hs hf) fun D σ H ⟨B, env, R, b, P⟩ =>
  tG_mono (postS_bnd R b P) fun v H1 ⟨env1, w, R1, b1, s1, so1, hV, P1⟩ => by
    obtain ⟨d, e1, P2⟩ := postS_stay P1
    exact tsetP R1 b1 (hV.1.stay e1) P2
where
  tsetP {i : Nat} {z : Z} {B : Fm} {σ : L2.St} {env : Env} {H : Hp} {D : Ends} {d : UbP.D} {v : V} (R : RelT z B.O H σ env) (b : Base B σ env H) (hv : Dq z.K (wo (cells σ env B.O) H) v d) (P : PostS z B σ env H D (putM (.nm i) d env)) : D.nx (σ.set i (some v)) H := by
    unfold putM at P
    cases e : putT (.nm i) d env with
    | none => rw [e] at P; exact P.elim
    | some env' =>
      rw [e] at P
      unfold putT at e
      obtain ⟨R', C⟩ := setN R e hv
      exact P _ H R' (C.base b) C.stp
theorem tgtP {tg : Tg} {B : Fm} {σ : L2.St} {env : Env} {H : Hp} {D : Ends} {d : UbP.D} {v : V} (R : RelT z B.O H σ env) (b : Base B σ env H) (hv : Dq z.K (wo (cells σ env B.O) H) v d) (P : PostS z B σ env H D (putM tg d env)) : gT z.K tg v σ H D.nx := by
  unfold putM at P
  cases e : putT tg d env with
  | none => rw [e] at P; exact P.elim
  | some env' =>
    rw [e] at P
    obtain ⟨σ', q, R', C⟩ := putT_ok tg d v σ env env' R e hv
    exact q _ (P σ' H R' (C.base b) C.stp)
theorem pu_sasg {tg : Tg} {te : Expr} (he : PE X e (tP z fa)) (hg : PG X te (gT z.K tg)) (hs : swapsWithSole [te] e pos.line X.env = pure false := by rfl) (hw : swappedStores [te] e X.env = pure none := by rfl)
    (h1 : (assignEach [te] X.env).map (·.2) = [assign te X.env] := by rfl) : PS X (.Assign [te] e pos) (tS z (sAsg tg fa)) := PS_imp (ps_asg he hg hs hw h1) fun D σ H ⟨B, env, R, b, P⟩ =>
  tG_mono (postS_bnd R b P) fun v H1 ⟨env1, w, R1, b1, s1, so1, hV, P1⟩ => by
    obtain ⟨d, e1, P2⟩ := postS_stay P1
    exact tgtP R1 b1 (hV.1.stay e1) P2
/-- a new thing is owned -/
theorem setOwn {B : Fm} {σ : L2.St} {env0 env : Env} {H H1 : Hp} {D : Ends} {c : Ct} {v : V} {i : Nat} (s1 : SameC (ownS σ env0) H H1) (so : SameO env0 env) (R : RelT z B.O H1 σ env) (b : Base B σ env H1) (hV : vE z B.O env σ H H1 v (.f c)) (h0 : ∀ a, H a = none → B.H0 a = none) (P : PostS z B σ env0 H D (ownN i c env)) : D.nx (σ.set i (some v)) H1 := by
  obtain ⟨⟨a, rfl, na, hc⟩, hn, haw⟩ := hV
  have Ra := haw a rfl
  have ce : cells σ env (fun s => B.O s ∨ s = a) = fun s => cells σ env B.O s ∨ s = a := cells_or
  have go : ∀ {s0 : Sl}, env[i]? = some s0 → (∀ c, s0 ≠ .par c) → PostS z B σ env0 H D (.ok .nx (env.set i (.own c))) → D.nx (σ.set i (some (.ref a))) H1 := fun {s0} hi np P => by
    have hl := get_lt hi
    have hlσ : i < σ.length := by rw [R.len]; exact hl
    have eS : ∀ j : Nat, j ≠ i → (σ.set i (some (V.ref a)))[j]? = σ[j]? := fun j n => List.getElem?_set_ne (Ne.symm n)
    have eE : ∀ j : Nat, j ≠ i → (env.set i (Sl.own c))[j]? = env[j]? := fun j n => List.getElem?_set_ne (Ne.symm n)
    have eO : ∀ j : Nat, j ≠ i → getO j (env.set i (Sl.own c)) = getO j env := fun j n => by unfold getO; rw [eE j n]
    have eI : getO i (env.set i (Sl.own c)) = some c := getO_own (List.getElem?_set_self hl)
    have sI : (σ.set i (some (V.ref a)))[i]? = some (some (V.ref a)) := List.getElem?_set_self hlσ
    have sub : ∀ s, cells (σ.set i (some (V.ref a))) (env.set i (Sl.own c)) B.O s → cells σ env (fun s => B.O s ∨ s = a) s := fun s hs => by
      rw [ce]
      rcases hs with ⟨j, cj, g, e⟩ | hs
      · by_cases hj : j = i
        · subst hj
          rw [sI] at e
          cases e
          exact .inr rfl
        · rw [eO j hj] at g
          rw [eS j hj] at e
          exact .inl (.inl ⟨j, cj, g, e⟩)
      · exact .inl (.inr hs)
    have notA : ∀ j cj, getO j env = some cj → σ[j]? = some (some (V.ref a)) → False := fun j cj g e => na (.inl ⟨j, cj, g, e⟩)
    refine P _ H1 ⟨by simp [R.len], fun j d e => ?_, fun j cj g => ?_, fun j k cj ck s g1 g2 e1 e2 => ?_, fun j cj s g e => ?_, fun j x e => ?_, fun s hs => Ra.cl s (sub s hs), R.tb⟩ ⟨by rw [List.length_set]; exact b.len, fun j => ?_, fun j cj e => ?_, b.heap, fun j cj s e e' => ?_⟩ ?_
    · by_cases hj : j = i
      · subst hj
        rw [List.getElem?_set_self hl] at e
        cases e
      · rw [eE j hj] at e
        obtain ⟨v, h1, h2⟩ := Ra.dat j d e
        exact ⟨v, by rw [eS j hj]; exact h1, h2.mono (wo_sub sub)⟩
    · by_cases hj : j = i
      · subst hj
        rw [eI] at g
        cases g
        exact ⟨a, sI, hc.sub fun s hs => by have := sub s hs; rw [ce] at this; exact this⟩
      · rw [eO j hj] at g
        obtain ⟨s, h1, h2⟩ := Ra.own j cj g
        exact ⟨s, by rw [eS j hj]; exact h1, h2.sub sub⟩
    · by_cases hj : j = i
      · by_cases hk : k = i
        · rw [hj, hk]
        · subst hj
          rw [sI] at e1
          cases e1
          rw [eO k hk] at g2
          rw [eS k hk] at e2
          exact (notA k ck g2 e2).elim
      · by_cases hk : k = i
        · subst hk
          rw [sI] at e2
          cases e2
          rw [eO j hj] at g1
          rw [eS j hj] at e1
          exact (notA j cj g1 e1).elim
        · rw [eO j hj] at g1
          rw [eO k hk] at g2
          rw [eS j hj] at e1
          rw [eS k hk] at e2
          exact R.inj j k cj ck s g1 g2 e1 e2
    · by_cases hj : j = i
      · subst hj
        rw [sI] at e
        cases e
        exact fun h => na (.inr h)
      · rw [eO j hj] at g
        rw [eS j hj] at e
        exact R.out j cj s g e
    · by_cases hj : j = i
      · subst hj
        rw [List.getElem?_set_self hl] at e
        cases e
      · rw [eE j hj] at e
        obtain ⟨s, cls, d, h1, h2, h3, h4⟩ := Ra.ex j x e
        exact ⟨s, cls, d, h1, by rw [eS j hj]; exact h2, h3, h4.imp id fun ⟨dx, vs, g1, g2, g3⟩ => ⟨dx, vs, g1, wo_sub sub _ _ g2, g3.mono (wo_sub sub)⟩⟩
    · rw [← b.par j]
      by_cases hj : j = i
      · subst hj
        constructor
        · rintro ⟨cj, e⟩
          rw [List.getElem?_set_self hl] at e
          cases e
        · rintro ⟨cj, e⟩
          rw [hi] at e
          cases e
          exact absurd rfl (np cj)
      · rw [eE j hj]
    · have hj : j ≠ i := fun hj => by
        subst hj
        rw [List.getElem?_set_self hl] at e
        cases e
      rw [eE j hj] at e
      rw [eS j hj]
      exact b.at_ j cj e
    · by_cases hj : j = i
      · subst hj
        rw [sI] at e'
        cases e'
        exact h0 a (hn a rfl)
      · rw [eE j hj] at e
        rw [eS j hj] at e'
        exact b.new j cj s e e'
    · -- the step
      have t1 : UbG.SameT (wo (cells σ env B.O) H) (wo (fun s => cells σ env B.O s ∨ s = a) H1) := wT_ext (pS := ownS σ env) (Ex := fun s => s = a) (by rw [← so.ownS σ]; exact s1) (fun s h => .inl h) fun s h => by rw [h]; exact hn a rfl
      unfold Stp
      rw [so.cells σ B.O]
      refine t1.trans (UbG.sameT (wo_sub fun s hs => ?_))
      have := sub s hs
      rw [ce] at this
      exact this
  unfold ownN at P
  split at P
  · rename_i hi; exact go hi (fun _ z => by cases z) P
  · rename_i hi; exact go hi (fun _ z => by cases z) P
  · rename_i hi; exact go hi (fun _ z => by cases z) P
  · exact P.elim
theorem Base.none {B : Fm} {σ : L2.St} {env : Env} {H : Hp} (b : Base B σ env H) {a : Addr} (h : H a = none) : B.H0 a = none := b.heap.dom a h
theorem pu_sown {i : Nat} {pos' : Pos} (hN : X.N.Nodup) (hi : X.N[i]? = some x) (hx : Loc X.env.scope x) (he : PE X e (tP z fa)) (hs : swapsWith e (some (.Name x pos')) pos.line X.env = pure false := by rfl) (hf : X.fn x = true ∨ X.env.scope.names.lookup x = some .local := by first | exact .inl rfl | exact .inr rfl | assumption) :
    PS X (.Assign [.Name x pos'] e pos) (tS z (sOwn i fa)) := PS_imp (ps_set hN hi hx he hs hf) fun D σ H ⟨B, env, R, b, P⟩ =>
  tG_mono (postS_bnd0 R b P) fun v H1 ⟨env1, w, R1, b1, s1, so1, hV, P1⟩ => by
    cases w with
    | f c' => exact setOwn s1 so1 R1 b1 hV (fun a h => b.none h) P1
    | d _ => exact P1.elim
    | o _ => exact P1.elim
theorem pu_sex (he : PE X e (tP z fa)) (hs : swapsWith e none pos.line X.env = pure false := by rfl) : PS X (.Expr e pos) (tS z (sEx fa)) := PS_imp (ps_expr he hs) fun D σ H ⟨B, env, R, b, P⟩ =>
  tG_mono (postS_bnd R b P) fun v H1 ⟨env1, w, R1, b1, s1, so1, hV, P1⟩ => P1 σ H1 R1 b1 Stp.refl
theorem pu_sif {c : Expr} {ss ts : List Stmt} (hc : PT X c (tT z ft)) (ha : PSs X ss (tS z f)) (hb : PSs X ts (tS z g)) : PS X (.If c ss ts pos) (tS z (sIf ft f g)) := PS_imp (ps_if hc ha hb) fun D σ H ⟨B, env, R, b, P⟩ =>
  tG_mono (postS_bnd R b P) fun k H1 ⟨env1, w, R1, b1, s1, so1, hV, P1⟩ => by
    cases hV
    cases k with
    | true => exact ⟨B, env1, R1, b1, P1⟩
    | false => exact ⟨B, env1, R1, b1, P1⟩
theorem pu_spass : PS X (.Pass pos) (tS z sNx) := PS_imp ps_pass fun D σ H ⟨B, env, R, b, P⟩ => P σ H R b Stp.refl
theorem pu_sbreak : PS X (.Break pos) (tS z sBk) := PS_imp ps_break fun D σ H ⟨B, env, R, b, P⟩ => P σ H R b Stp.refl
theorem pu_scont : PS X (.Continue pos) (tS z sCt) := PS_imp ps_continue fun D σ H ⟨B, env, R, b, P⟩ => P σ H R b Stp.refl
theorem pu_sretN : PS X (.Return none pos) (tS z sRetN) := PS_imp ps_retN fun D σ H ⟨B, env, R, b, P⟩ => P .non σ H R b .non True.intro True.intro
/-- an owned thing leaves its slot -/
theorem leave {B : Fm} {σ : L2.St} {env : Env} {H : Hp} {c : Ct} {a : Addr} {i : Nat} (R : RelT z B.O H σ env) (hi : env[i]? = some (Sl.own c)) (ea : σ[i]? = some (some (V.ref a))) :
    ∃ σ', Chg [i] σ env σ' (env.set i .no) ∧ RelT z B.O H σ' (env.set i .no) ∧ RelT z (fun s => B.O s ∨ s = a) H σ' (env.set i .no) ∧ ¬cells σ' (env.set i .no) B.O a := by
  have hl := get_lt hi
  have g := getO_own hi
  have C : Chg [i] σ env σ (env.set i .no) := by
    refine ⟨rfl, List.length_set .., fun j _ => rfl, fun j n => List.getElem?_set_ne fun z => n (by rw [z]; exact List.mem_singleton.mpr rfl), fun j m => ?_⟩
    have e := List.mem_singleton.mp m
    subst e
    exact ⟨fun c e => (by rw [hi] at e; cases e), .no, List.getElem?_set_self hl, rfl⟩
  have hd : ∀ {z : Z} {S : SS} (j : Nat) (d : UbP.D), j ∈ [i] → (env.set i .no)[j]? = some (Sl.dat d) → ∃ v : V, σ[j]? = some (some v) ∧ Dq z.K (wo S H) v d := fun j d m e => by
    have e' := List.mem_singleton.mp m
    subst e'
    rw [List.getElem?_set_self hl] at e
    cases e
  have hx : ∀ j x, j ∈ [i] → (env.set i .no)[j]? ≠ some (Sl.ex x) := fun j x m e => by
    have e' := List.mem_singleton.mp m
    subst e'
    rw [List.getElem?_set_self hl] at e
    cases e
  have na : ¬cells σ (env.set i .no) B.O a := fun h => by
    rcases h with ⟨j, cj, gj, e⟩ | h
    · obtain ⟨n, g'⟩ := C.getO gj
      exact n (by rw [R.inj j i cj c a g' g e ea]; exact List.mem_singleton.mpr rfl)
    · exact R.out i c a g ea h
  have sub : ∀ s, cells σ (env.set i .no) (fun s => B.O s ∨ s = a) s → cells σ env B.O s := fun s hs => by
    rw [cells_or] at hs
    rcases hs with hs | hs
    · exact C.cells s hs
    · rw [hs]
      exact .inl ⟨i, c, g, ea⟩
  refine ⟨σ, C, R.chg C (fun j d => hd j d) hx, ?_, na⟩
  refine ⟨by simp [R.len], fun j d e => ?_, fun j cj gj => ?_, fun j k c c' s g1 g2 e1 e2 => ?_, fun j cj s gj e h => ?_, fun j x e => ?_, fun s hs => R.cl s (sub s hs), R.tb⟩
  · by_cases hj : j = i
    · subst hj
      rw [List.getElem?_set_self hl] at e
      cases e
    · rw [List.getElem?_set_ne (Ne.symm hj)] at e
      obtain ⟨v, h1, h2⟩ := R.dat j d e
      exact ⟨v, h1, h2.mono (wo_sub sub)⟩
  · obtain ⟨n, g'⟩ := C.getO gj
    obtain ⟨s, h1, h2⟩ := R.own j cj g'
    exact ⟨s, h1, h2.sub sub⟩
  · exact R.inj j k c c' s (C.getO g1).2 (C.getO g2).2 e1 e2
  · rcases h with h | h
    · exact R.out j cj s (C.getO gj).2 e h
    · subst h
      exact na (.inl ⟨j, cj, gj, e⟩)
  · by_cases hj : j = i
    · subst hj
      rw [List.getElem?_set_self hl] at e
      cases e
    · rw [List.getElem?_set_ne (Ne.symm hj)] at e
      obtain ⟨s, cls, d, h1, h2, h3, h4⟩ := R.ex j x e
      exact ⟨s, cls, d, h1, h2, h3, h4.imp id fun ⟨dx, vs, g1, g2, g3⟩ => ⟨dx, vs, g1, wo_sub sub _ _ g2, g3.mono (wo_sub sub)⟩⟩
theorem pu_sret (he : PE X e (tP z fa)) : PS X (.Return (some e) pos) (tS z (sRet fa)) := PS_imp (ps_ret he) fun D σ H ⟨B, env, R, b, P⟩ =>
  tG_mono (postS_bnd0 R b P) fun v H1 ⟨env1, w, R1, b1, s1, so1, hV, P1⟩ => by
    cases w with
    | d x => exact P1 v σ H1 R1 b1 hV.1 True.intro True.intro
    | f c => exact P1 v σ H1 R1 b1 hV.1 (fun a ea => b.none (hV.2.1 a ea)) hV.2.2
    | o i =>
      dsimp only at P1
      split at P1
      · rename_i c hi
        have ea : σ[i]? = some (some v) := hV.1
        obtain ⟨a, h1, h2⟩ := R1.own i c (getO_own hi)
        rw [h1] at ea
        cases ea
        obtain ⟨σ', C, R2, R3, na⟩ := leave R1 hi h1
        refine P1 (.ref a) σ' H1 R2 (C.base b1) ⟨a, rfl, na, h2.sub fun s hs => ?_⟩ (fun a' ea' => by cases ea'; exact b1.new i c a hi h1) fun a' ea' => by cases ea'; exact R3
        rcases hs with hs | hs
        · exact C.cells s hs
        · rw [hs]
          exact .inl ⟨i, c, getO_own hi, h1⟩
      · exact P1.elim
/-- an owned thing becomes data -/
theorem pu_frz {i : Nat} {ss : List Stmt} (h : PSs X ss (tS z f)) : PSs X ss (tS z (frz i f)) := PSs_imp h fun D σ H ⟨B, env, R, b, P⟩ => by
  unfold frz at P
  cases e : frzE i env with
  | none => rw [e] at P; exact P.elim
  | some env' =>
    rw [e] at P
    unfold frzE at e
    split at e
    · rename_i c hi
      cases e
      obtain ⟨a, h1, h2⟩ := R.own i c (getO_own hi)
      have hl := get_lt hi
      have C : Chg [i] σ env σ (env.set i (.dat c.toD)) := by
        refine ⟨rfl, List.length_set .., fun j _ => rfl, fun j n => List.getElem?_set_ne fun z => n (by rw [z]; exact List.mem_singleton.mpr rfl), fun j m => ?_⟩
        have e := List.mem_singleton.mp m
        subst e
        exact ⟨fun c e => (by rw [hi] at e; cases e), .dat c.toD, List.getElem?_set_self hl, rfl⟩
      have na : ¬cells σ (env.set i (.dat c.toD)) B.O a := fun h => by
        rcases h with ⟨j, cj, gj, e⟩ | h
        · obtain ⟨n, g'⟩ := C.getO gj
          exact n (by rw [R.inj j i cj c a g' (getO_own hi) e h1]; exact List.mem_singleton.mpr rfl)
        · exact R.out i c a (getO_own hi) h1 h
      refine ⟨B, _, R.chg C (fun j d m e => ?_) (fun j x m e => ?_), C.base b, PostS.move C.stp P⟩
      · have e' := List.mem_singleton.mp m
        subst e'
        rw [List.getElem?_set_self hl] at e
        cases e
        exact ⟨.ref a, h1, h2.data na C.cells⟩
      · have e' := List.mem_singleton.mp m
        subst e'
        rw [List.getElem?_set_self hl] at e
        cases e
    · cases e
      exact ⟨B, _, R, b, P⟩
    · cases e
end
end UbP

namespace UbP
open PySem PySem.Spec PyProof.Rows L2 UbM Ub
/-! ### what is walked -/
structure ItOk (K : PySem.W.Frag) (S : SS) (H : Hp) (J : It) (ds : List D) : Prop where
  at_ : ∀ (i : Nat) (S' : SS) (H' : Hp), UbG.SameT (wo S H) (wo S' H') → Cl S' H' → (i < ds.length → J.go i H') ∧ (ds.length ≤ i → J.stop i H') ∧ ∀ x H'', i < ds.length → J.yld i H' x H'' → Same H' H'' ∧ ∃ d, ds[i]? = some d ∧ Dq K (wo S' H'') x d
def vIt : VRt (List D) It := fun z O env σ _ H' J ds => ItOk z.K (cells σ env O) H' J ds
theorem bkI : Back vIt := fun _ _ _ _ _ _ _ _ _ _ _ h => h
abbrev tI (z : Z) (f : M (List D)) : TI := fun σ H R => tG vIt z f σ H R
theorem PI_imp {X : Cx} {tg it : Expr} {t t' : TI} (h : PI X tg it t) (i : ∀ σ H R, t' σ H R → t σ H R) : PI X tg it t' := ⟨fun pins s σ H R I q => h.run pins s σ H R I (i _ _ _ q)⟩
theorem PI_or {X : Cx} {tg it : Expr} {t t' : TI} (h : PI X tg it t) (h' : PI X tg it t') : PI X tg it (fun σ H R => t σ H R ∨ t' σ H R) := ⟨fun pins s σ H R I q => q.elim (h.run pins s σ H R I) (h'.run pins s σ H R I)⟩
section
variable {K : PySem.W.Frag} {S : SS} {H : Hp} {a b : Addr} {xs ys : List V} {ds es : List D}
theorem sq_move {S' : SS} {H' : Hp} (h : SqL K (wo S H) a xs) (e : UbG.SameT (wo S H) (wo S' H')) : SqL K H' a xs := Same.seq wo_same (UbG.SameT.seq e h)
theorem it_list (h1 : SqL K (wo S H) a xs) (h2 : DqAll K (wo S H) xs ds) : ItOk K S H (Itl K a) ds := ⟨fun i S' H' e c => by
  have hl := h2.len
  have q := sq_move h1 e
  refine ⟨fun hi => ⟨xs, xs[i]'(by omega), q, List.getElem?_eq_getElem _⟩, fun hi => ⟨xs, q, by omega⟩, fun x H'' hi y => ?_⟩
  obtain ⟨rfl, y⟩ := y
  obtain ⟨d, e1, e2⟩ := h2.at (y xs q)
  exact ⟨same_refl, d, e1, Dq.monoT e _ _ e2⟩⟩
theorem it_tup (h1 : SqT K (wo S H) a xs) (h2 : DqAll K (wo S H) xs ds) : ItOk K S H (Itt K a) ds := ⟨fun i S' H' e c => by
  have hl := h2.len
  have q : SqT K H' a xs := Same.tseq wo_same (UbG.SameT.tseq e h1)
  refine ⟨fun hi => ⟨xs, xs[i]'(by omega), q, List.getElem?_eq_getElem _⟩, fun hi => ⟨xs, q, by omega⟩, fun x H'' hi y => ?_⟩
  obtain ⟨rfl, y⟩ := y
  obtain ⟨d, e1, e2⟩ := h2.at (y xs q)
  exact ⟨same_refl, d, e1, Dq.monoT e _ _ e2⟩⟩
theorem ints_at {lo : Int} {n i : Nat} (hi : i < n) : (intsL lo n)[i]? = some (.int (lo + (i : Nat))) := by
  unfold intsL
  rw [List.getElem?_map, List.getElem?_range hi]
  rfl
theorem ints_len {lo : Int} {n : Nat} : (intsL lo n).length = n := by
  unfold intsL
  rw [List.length_map, List.length_range]
theorem it_range {lo : Int} {n : Nat} : ItOk K S H (Itr lo n) (intsL lo n) := ⟨fun i S' H' e c => by
  rw [ints_len]
  refine ⟨fun hi => hi, fun hi => hi, fun x H'' hi y => ?_⟩
  obtain ⟨rfl, rfl⟩ := y
  exact ⟨same_refl, _, ints_at hi, .int _⟩⟩
theorem enum_len : (enumF ds).length = ds.length := by
  unfold enumF
  rw [List.length_map, List.length_range]
theorem enum_at {i : Nat} {d : D} (h : ds[i]? = some d) : (enumF ds)[i]? = some (.tup [.int (i : Nat), d]) := by
  have hi := (List.getElem?_eq_some_iff.mp h).1
  unfold enumF
  rw [List.getElem?_map, List.getElem?_range hi]
  show some (D.tup [D.int i, ds.getD i .non]) = _
  rw [List.getD_eq_getElem?_getD, h]
  rfl
theorem it_enum (h1 : SqL K (wo S H) a xs) (h2 : DqAll K (wo S H) xs ds) : ItOk K S H (Ite K a) (enumF ds) := ⟨fun i S' H' e c => by
  have hl := h2.len
  have q := sq_move h1 e
  rw [enum_len]
  refine ⟨fun hi => ⟨xs, xs[i]'(by omega), q, List.getElem?_eq_getElem _⟩, fun hi => ⟨xs, q, by omega⟩, fun x H'' hi y => ?_⟩
  obtain ⟨T, x1, rfl, nT, rfl, y⟩ := y
  obtain ⟨d, e1, e2⟩ := h2.at (y xs q)
  have e2' := Dq.monoT e _ _ e2
  refine ⟨sameNew nT, _, enum_at e1, ?_⟩
  rw [wo_new (c.new nT)]
  exact .tup (.inl (.inl upd_same)) (.cons (.int _) (.cons (e2'.mono (sameNew (wo_none nT))) .nil))⟩
theorem it_zip (h1 : SqL K (wo S H) a xs) (h2 : DqAll K (wo S H) xs ds) (g1 : SqL K (wo S H) b ys) (g2 : DqAll K (wo S H) ys es) : ItOk K S H (Itz K a b) (List.zipWith (fun x y => .tup [x, y]) ds es) := ⟨fun i S' H' e c => by
  have hl := h2.len
  have gl := g2.len
  have q := sq_move h1 e
  have q' := sq_move g1 e
  rw [List.length_zipWith]
  refine ⟨fun hi => ⟨xs, ys, xs[i]'(by omega), ys[i]'(by omega), q, q', List.getElem?_eq_getElem _, List.getElem?_eq_getElem _⟩, fun hi => ⟨xs, ys, q, q', by omega⟩, fun x H'' hi y => ?_⟩
  obtain ⟨T, x1, y1, rfl, nT, rfl, f1, f2⟩ := y
  obtain ⟨d, e1, e2⟩ := h2.at (f1 xs q)
  obtain ⟨d', e3, e4⟩ := g2.at (f2 ys q')
  refine ⟨sameNew nT, .tup [d, d'], by rw [List.getElem?_zipWith, e1, e3], ?_⟩
  rw [wo_new (c.new nT)]
  exact .tup (.inl (.inl upd_same)) (.cons ((Dq.monoT e _ _ e2).mono (sameNew (wo_none nT))) (.cons ((Dq.monoT e _ _ e4).mono (sameNew (wo_none nT))) .nil))⟩
theorem it_rev (h1 : SqL K (wo S H) a xs) (h2 : DqAll K (wo S H) xs ds) : ItOk K S H (Itv K a xs.length) ds.reverse := ⟨fun i S' H' e c => by
  have hl := h2.len
  have q := sq_move h1 e
  rw [List.length_reverse]
  refine ⟨fun hi => ⟨by omega, xs, xs[xs.length - 1 - i]'(by omega), q, List.getElem?_eq_getElem _⟩, fun hi => by show xs.length ≤ i; omega, fun x H'' hi y => ?_⟩
  obtain ⟨rfl, y⟩ := y
  obtain ⟨d, e1, e2⟩ := h2.at (y xs q)
  refine ⟨same_refl, d, ?_, Dq.monoT e _ _ e2⟩
  rw [List.getElem?_reverse (by omega), ← hl]
  exact e1⟩
theorem sq_of {d : D} {v : V} (h : Dq K (wo S H) v d) {ds : List D} (e : listOf d = some ds) : ∃ a xs, v = .ref a ∧ SqL K (wo S H) a xs ∧ DqAll K (wo S H) xs ds := by
  cases h with
  | lst h1 h2 => cases e; exact ⟨_, _, rfl, .inl (.inl h1), h2⟩
  | _ => cases e
end
section
variable {X : Cx} {z : Z} {tg e e2 : Expr} {fa fb : M Vw} {pos p tpos : Pos} {elts : List Expr} {kk : Nat} {O : SS} {σ : L2.St} {env : Env} {H : Hp}
theorem pu_iE (hK : X.K = z.K) (ha : PE X e (tP z fa)) : PI X tg e (tI z (iE fa)) := PI_imp (PI_or (pi_list ha) (pi_tup ha)) fun σ H R ⟨O, env, RT, P⟩ => by
  rw [hK]
  have key : ∀ (w : Vw) (env1 : Env), fa env = .ok w env1 → PostG vIt z O σ env H R (bnd (stayM w) (fun d => optM (walkD d)) env1) → iList z.K (tP z fa) σ H R ∨ iTup z.K (tP z fa) σ H R := fun w env1 e P => by
    cases ew : w.stay with
    | none =>
      unfold bnd stayM optM at P
      rw [ew] at P
      exact P.elim
    | some d =>
      have P : PostG vIt z O σ env H R (optM (walkD d) env1) := by
        unfold bnd stayM optM at P
        rw [ew] at P
        exact P
      cases d with
      | lst ds =>
        refine .inl ⟨O, env, RT, ?_⟩
        rw [e]
        intro v H1 s1 R1 so V
        have h := V.1.stay ew
        cases h with
        | lst h1 h2 => exact ⟨_, rfl, ⟨_, Same.seq wo_same (.inl (.inl h1))⟩, P _ H1 s1 R1 so (it_list (.inl (.inl h1)) h2)⟩
      | lsf ds =>
        refine .inl ⟨O, env, RT, ?_⟩
        rw [e]
        intro v H1 s1 R1 so V
        have h := V.1.stay ew
        cases h with
        | lsf h1 h2 => exact ⟨_, rfl, ⟨_, Same.seq wo_same h1⟩, P _ H1 s1 R1 so (it_list h1 h2)⟩
      | tup ds =>
        refine .inr ⟨O, env, RT, ?_⟩
        rw [e]
        intro v H1 s1 R1 so V
        have h := V.1.stay ew
        cases h with
        | tup h1 h2 => exact ⟨_, rfl, ⟨_, Same.tseq wo_same h1⟩, P _ H1 s1 R1 so (it_tup h1 h2)⟩
      | _ => exact P.elim
  unfold iE at P
  cases e : fa env with
  | ok w env1 =>
    refine key w env1 e ?_
    unfold bnd at P
    rw [e] at P
    exact P
  | exc x env1 =>
    refine .inl ⟨O, env, RT, ?_⟩
    unfold bnd at P
    rw [e] at P ⊢
    exact P
  | bad =>
    unfold bnd at P
    rw [e] at P
    exact P.elim
theorem pu_iR1 (hg : Gl X "range") (hm : X.mg "range" = none) (ha : PE X e (tP z fa)) (hs : starEach [e] X.env = (false, eval e X.env) :: starEach [] X.env := by rfl) (hs' : starEach [e] X.env = [(false, eval e X.env)] := by rfl) : PI X tg (.Call (.Name "range" p) [e] [] pos) (tI z (iR1 fa)) := PI_imp (pi_range1 hg hm (pa_cons ha pa_nil hs) hs') fun σ H R ⟨O, env, RT, P⟩ =>
  tG_mono (post_bnd bkI RT P) fun v H1 ⟨env1, w, R1, s1, so1, V, P1⟩ => by
    obtain ⟨d, e1, P2⟩ := post_now P1
    cases d with
    | int j =>
      cases dv_int (V.1.now R1 e1)
      dsimp only at P2
      split at P2
      · rename_i hb
        have hb := of_decide_eq_true hb
        exact ⟨j, rfl, hb.1, hb.2, P2 _ H1 (SameC.refl _) R1 (SameO.refl _) it_range⟩
      · exact P2.elim
    | _ => exact P2.elim
theorem pu_iR2 (hg : Gl X "range") (hm : X.mg "range" = none) (ha : PE X e (tP z fa)) (hb : PE X e2 (tP z fb)) (hs : starEach [e, e2] X.env = (false, eval e X.env) :: starEach [e2] X.env := by rfl) (hs2 : starEach [e2] X.env = (false, eval e2 X.env) :: starEach [] X.env := by rfl) (hs' : starEach [e, e2] X.env = [(false, eval e X.env), (false, eval e2 X.env)] := by rfl) (hs3 : starEach [e2] X.env = [(false, eval e2 X.env)] := by rfl) : PI X tg (.Call (.Name "range" p) [e, e2] [] pos) (tI z (iR2 fa fb)) := PI_imp (pi_range2 hg hm (pa_cons ha (pa_cons hb pa_nil hs2) hs) hs' hs3) fun σ H R ⟨O, env, RT, P⟩ =>
  tG_mono (post_bnd bkI RT P) fun v H1 ⟨env1, w, R1, s1, so1, V, P1⟩ =>
  tG_mono (post_bnd bkI R1 P1) fun u H2 ⟨env2, w2, R2, s2, so2, V2, P2⟩ => by
    obtain ⟨d, e1, P3⟩ := post_now P2
    obtain ⟨d2, e2, P4⟩ := post_now P3
    cases d with
    | int i =>
      cases d2 with
      | int j =>
        cases dv_int ((vmove s2 so2 V.1).now R2 e1)
        cases dv_int (V2.1.now R2 e2)
        dsimp only at P4
        split at P4
        · rename_i hb
          obtain ⟨h1, h2⟩ := Bool.and_eq_true_iff.mp hb
          have h1 := of_decide_eq_true h1
          have h2 := of_decide_eq_true h2
          exact ⟨i, j, rfl, ⟨h1.1, h1.2, h2.1, h2.2⟩, P4 _ H2 (SameC.refl _) R2 (SameO.refl _) it_range⟩
        · exact P4.elim
      | _ => exact P4.elim
    | _ => exact P4.elim
theorem pu_iEn (hK : X.K = z.K) (hg : Gl X "enumerate") (hm : X.mg "enumerate" = none) (ha : PE X e (tP z fa)) (hs : starEach [e] X.env = [(false, eval e X.env)] := by rfl) : PI X (.Tuple elts kk tpos) (.Call (.Name "enumerate" p) [e] [] pos) (tI z (iEn fa)) := PI_imp (pi_enum hg hm (pa_cons ha pa_nil hs) hs) fun σ H R ⟨O, env, RT, P⟩ =>
  tG_mono (post_bnd bkI RT P) fun v H1 ⟨env1, w, R1, s1, so1, V, P1⟩ => by
    obtain ⟨d, e1, P2⟩ := post_stay P1
    obtain ⟨ds, e2, P3⟩ := post_opt P2
    obtain ⟨a, xs, rfl, h1, h2⟩ := sq_of (V.1.stay e1) e2
    rw [hK]
    exact ⟨a, xs, rfl, Same.seq wo_same h1, P3 _ H1 (SameC.refl _) R1 (SameO.refl _) (it_enum h1 h2)⟩
theorem pu_iRv (hK : X.K = z.K) (hg : Gl X "reversed") (hm : X.mg "reversed" = none) (ha : PE X e (tP z fa)) (hs : starEach [e] X.env = [(false, eval e X.env)] := by rfl) : PI X tg (.Call (.Name "reversed" p) [e] [] pos) (tI z (iRv fa)) := PI_imp (pi_reversed hg hm (pa_cons ha pa_nil hs) hs) fun σ H R ⟨O, env, RT, P⟩ =>
  tG_mono (post_bnd bkI RT P) fun v H1 ⟨env1, w, R1, s1, so1, V, P1⟩ => by
    obtain ⟨d, e1, P2⟩ := post_stay P1
    obtain ⟨ds, e2, P3⟩ := post_opt P2
    obtain ⟨a, xs, rfl, h1, h2⟩ := sq_of (V.1.stay e1) e2
    rw [hK]
    exact ⟨a, xs, rfl, Same.seq wo_same h1, P3 _ H1 (SameC.refl _) R1 (SameO.refl _) (it_rev h1 h2)⟩
theorem pu_iZ (hK : X.K = z.K) (hg : Gl X "zip") (hm : X.mg "zip" = none) (ha : PE X e (tP z fa)) (hb : PE X e2 (tP z fb)) (hs : starEach [e, e2] X.env = (false, eval e X.env) :: starEach [e2] X.env := by rfl) (hs2 : starEach [e2] X.env = (false, eval e2 X.env) :: starEach [] X.env := by rfl)
    (hpl : (backTo pos (starEach [e2] X.env)).any (·.1) = false := by rfl) : PI X (.Tuple elts kk tpos) (.Call (.Name "zip" p) [e, e2] [] pos) (tI z (iZ fa fb)) := PI_imp (pi_zip hg hm (pa_cons ha (pa_cons hb pa_nil hs2) hs) hs hpl) fun σ H R ⟨O, env, RT, P⟩ =>
  tG_mono (post_bnd bkI RT P) fun v H1 ⟨env1, w, R1, s1, so1, V, P1⟩ =>
  tG_mono (post_bnd bkI R1 P1) fun u H2 ⟨env2, w2, R2, s2, so2, V2, P2⟩ => by
    obtain ⟨d, e1, P3⟩ := post_stay P2
    obtain ⟨d2, e2, P4⟩ := post_stay P3
    obtain ⟨ds, e3, P5⟩ := post_opt P4
    obtain ⟨es, e4, P6⟩ := post_opt P5
    obtain ⟨a, xs, rfl, h1, h2⟩ := sq_of ((vmove s2 so2 V.1).stay e1) e3
    obtain ⟨b, ys, rfl, g1, g2⟩ := sq_of (V2.1.stay e2) e4
    rw [hK]
    exact ⟨a, b, xs, ys, rfl, Same.seq wo_same h1, Same.seq wo_same g1, P6 _ H2 (SameC.refl _) R2 (SameO.refl _) (it_zip h1 h2 g1 g2)⟩
end
/-! ### loops -/
section
variable {X : Cx} {z : Z} {tg it c : Expr} {body : List Stmt} {fi : M (List D)} {fb : M Fl} {ft : M Bool} {pos : Pos} {tgt : Tg}
theorem pu_sfor (hp : PassesOwn (model X.prog X.w) X.A X.env X.xe) (hc : X.calm = true) (hi : PI X tg it (tI z fi)) (hg : PG X tg (gT z.K tgt)) (hb : PSs X body (tS z fb)) (hs : ∀ x, foldedSetIterable it X.env x = pure x := by intro _; rfl) : PS X (.For tg it body [] pos) (tS z (sFor fi tgt fb)) := PS_imp (ps_for hp hc hi hg hb hs) fun D σ H ⟨B, env, R, b, P⟩ =>
  tG_mono (postS_bnd R b P) fun J H1 ⟨env1, ds, R1, b1, s1, so1, hJ, P1⟩ => by
    refine ⟨fun i m σ2 H2 => m = ds.length - i ∧ i ≤ ds.length ∧ ∃ env2, RelT z B.O H2 σ2 env2 ∧ Base B σ2 env2 H2 ∧ Stp B.O σ env1 H1 σ2 env2 H2 ∧ PostS z B σ2 env2 H2 D (forL tgt fb (ds.drop i) env2), ⟨ds.length, by simp, Nat.zero_le _, env1, R1, b1, Stp.refl, P1⟩, ?_⟩
    rintro i m σ2 H2 ⟨rfl, hi, env2, R2, b2, st2, P2⟩
    obtain ⟨go, stop, yld⟩ := hJ.at_ i (cells σ2 env2 B.O) H2 st2 R2.cl
    by_cases hl : i < ds.length
    · refine .inr ⟨go hl, _, fun σ' H' n => ⟨ds.length - (i + 1), by omega, n⟩, fun x H3 y => ?_⟩
      obtain ⟨sm, d, ed, hd⟩ := yld x H3 hl y
      have R3 := R2.mono (kp sm)
      have b3 := b2.mono (kp sm)
      have st3 : Stp B.O σ env1 H1 σ2 env2 H3 := st2.trans (wT_of (kp sm))
      have P3 : PostS z B σ2 env2 H3 D (forL tgt fb (ds.drop i) env2) := PostS.move (wT_of (kp sm)) P2
      rw [List.drop_eq_getElem_cons hl] at P3
      have ed' : ds[i] = d := by
        rw [List.getElem?_eq_getElem hl] at ed
        exact Option.some.inj ed
      rw [ed'] at P3
      unfold forL at P3
      cases ep : putT tgt d env2 with
      | none => rw [ep] at P3; exact P3.elim
      | some e1 =>
        rw [ep] at P3
        obtain ⟨σ4, q, R4, C⟩ := putT_ok tgt d x σ2 env2 e1 R3 ep hd
        refine q _ ⟨B, e1, R4, C.base b3, ?_⟩
        have st4 : Stp B.O σ env1 H1 σ4 e1 H3 := st3.trans C.stp
        dsimp only at P3
        cases eb : fb e1 with
        | ok fl e2 =>
          rw [eb] at P3
          cases fl with
          | nx => exact fun σ' H' R' b' s => ⟨rfl, hl, e2, R', b', st4.trans s, PostS.move (C.stp.trans s) P3⟩
          | ct => exact fun σ' H' R' b' s => ⟨rfl, hl, e2, R', b', st4.trans s, PostS.move (C.stp.trans s) P3⟩
          | bk => exact fun σ' H' R' b' s => P3 σ' H' R' b' (C.stp.trans s)
          | rt w => exact P3
        | exc x e2 => rw [eb] at P3; exact PostS.move C.stp P3
        | bad => rw [eb] at P3; exact P3
    · refine .inl ⟨stop (by omega), ?_⟩
      have e : ds.drop i = [] := List.drop_eq_nil_of_le (by omega)
      rw [e] at P2
      exact P2 σ2 H2 R2 b2 Stp.refl
theorem pu_swhile {n : Nat} (hp : PassesOwn (model X.prog X.w) X.A X.env X.xe) (hc : PT X c (tT z ft)) (hb : PSs X body (tS z fb)) : PS X (.While c body [] pos) (tS z (whl ft fb n)) := PS_imp (ps_while hp hc hb) fun D σ H ⟨B, env, R, b, P⟩ => by
  refine ⟨fun m σ2 H2 => ∃ env2, RelT z B.O H2 σ2 env2 ∧ Base B σ2 env2 H2 ∧ PostS z B σ2 env2 H2 D (whl ft fb m env2), ⟨n, env, R, b, P⟩, ?_⟩
  rintro m σ2 H2 ⟨env2, R2, b2, P2⟩
  cases m with
  | zero => exact P2.elim
  | succ m =>
    refine tG_mono (postS_bnd R2 b2 P2) fun k H3 ⟨env3, w, R3, b3, s3, so3, hV, P3⟩ => ?_
    cases hV
    cases k with
    | false => exact P3 σ2 H3 R3 b3 Stp.refl
    | true =>
      refine ⟨fun σ' H' => ∃ env', RelT z B.O H' σ' env' ∧ Base B σ' env' H' ∧ PostS z B σ' env' H' D (whl ft fb m env'), fun σ' H' h => ⟨m, Nat.lt_succ_self _, h⟩, B, env3, R3, b3, ?_⟩
      have P3 : PostS z B σ2 env3 H3 D (bnd fb (fun f => match f with
        | .nx => whl ft fb m
        | .ct => whl ft fb m
        | .bk => ret .nx
        | .rt w => ret (.rt w)) env3) := P3
      unfold bnd at P3
      cases eb : fb env3 with
      | ok fl e2 =>
        rw [eb] at P3
        cases fl with
        | nx => exact fun σ' H' R' b' s => ⟨e2, R', b', PostS.move s P3⟩
        | ct => exact fun σ' H' R' b' s => ⟨e2, R', b', PostS.move s P3⟩
        | bk => exact P3
        | rt w => exact P3
      | exc x e2 => rw [eb] at P3; exact P3
      | bad => rw [eb] at P3; exact P3
end
/-! ### more statements -/
section
variable {X : Cx} {z : Z} {e a b : Expr} {fa fb fc : M Vw} {pos p : Pos} {x y : Str}
theorem pu_spar {i j : Nat} {px py pt : Pos} {kt k2 pt2} (hc : X.calm = true) (hN : X.N.Nodup) (hi : X.N[i]? = some x) (hj : X.N[j]? = some y) (hij : i ≠ j)
    (hx : X.env.scope.names.lookup x = some .local) (hy : X.env.scope.names.lookup y = some .local) (ha : PE X a (tP z fa)) (hb : PE X b (tP z fb))
    (hw : swappedStores [.Tuple [.Name x px, .Name y py] kt pt] (.Tuple [a, b] k2 pt2) X.env = pure (some [x, y]))
    (hs : swapsWithSole [.Tuple [.Name x px, .Name y py] kt pt] (.Tuple [a, b] k2 pt2) pos.line X.env = pure false := by rfl)
    (h1 : starEach [a, b] X.env = (false, eval a X.env) :: starEach [b] X.env := by rfl) (h2 : starEach [b] X.env = (false, eval b X.env) :: starEach [] X.env := by rfl) :
    PS X (.Assign [.Tuple [.Name x px, .Name y py] kt pt] (.Tuple [a, b] k2 pt2) pos) (tS z (sPar i j fa fb)) := PS_imp (ps_par hc hN hi hj hij hx hy (pa_cons ha (pa_cons hb pa_nil h2) h1) hw hs) fun D σ H ⟨B, env, R, b, P⟩ =>
  tG_mono (postS_bnd R b P) fun v H1 ⟨env1, w, R1, b1, s1, so1, hV, P1⟩ =>
  tG_mono (postS_bnd R1 b1 P1) fun u H2 ⟨env2, w2, R2, b2, s2, so2, hV2, P2⟩ => by
    obtain ⟨d, e1, P3⟩ := postS_stay P2
    obtain ⟨c, e2, P4⟩ := postS_stay P3
    have hv := (vmove s2 so2 hV.1).stay e1
    have hu := hV2.1.stay e2
    refine ⟨v, u, rfl, ?_⟩
    unfold bnd putM at P4
    cases g1 : putT (.nm i) d env2 with
    | none => rw [g1] at P4; exact P4.elim
    | some env3 =>
      rw [g1] at P4
      dsimp only at P4
      cases g2 : putT (.nm j) c env3 with
      | none => rw [g2] at P4; exact P4.elim
      | some env4 =>
        rw [g2] at P4
        unfold putT at g1 g2
        obtain ⟨R3, C3⟩ := setN R2 g1 hv
        obtain ⟨R4, C4⟩ := setN R3 g2 (hu.mono (wo_sub C3.cells))
        exact P4 _ H2 R4 (C4.base (C3.base b2)) (C3.stp.trans C4.stp)
theorem pu_sitem {te : Expr} (he : PE X e (tP z fc)) (hg : PG X te (gSub (tP z fa) (tP z fb) rSetL)) (hs : swapsWithSole [te] e pos.line X.env = pure false := by rfl) (hw : swappedStores [te] e X.env = pure none := by rfl)
    (h1 : (assignEach [te] X.env).map (·.2) = [assign te X.env] := by rfl) : PS X (.Assign [te] e pos) (tS z (sItem fa fb fc)) := PS_imp (ps_asg he hg hs hw h1) fun D σ H ⟨B, env, R, b, P⟩ =>
  tG_mono (postS_bnd R b P) fun v H1 ⟨env1, w, R1, b1, s1, so1, hV, P1⟩ =>
  tG_mono (postS_bnd R1 b1 P1) fun o H2 ⟨env2, w2, R2, b2, s2, so2, hV2, P2⟩ =>
  tG_mono (postS_bnd R2 b2 P2) fun ix H3 ⟨env3, w3, R3, b3, s3, so3, hV3, P3⟩ => by
    obtain ⟨k, e1, P4⟩ := postS_opt P3
    obtain ⟨d, e2, P5⟩ := postS_stay P4
    obtain ⟨n, e3, P6⟩ := postS_now P5
    have hv := (vmove s3 so3 (vmove s2 so2 hV.1)).stay e2
    have hi := hV3.1.now R3 e3
    have ho := vmove s3 so3 hV2.1
    unfold bnd ownL at P6
    cases g : getO k env3 with
    | none => rw [g] at P6; exact P6.elim
    | some c =>
      rw [g] at P6
      cases c with
      | o _ _ => exact P6.elim
      | l ds =>
        dsimp only at P6
        cases n with
        | int m =>
          cases dv_int hi
          dsimp only at P6
          cases ej : ixI ds.length m with
          | none => rw [ej] at P6; exact P6.elim
          | some j =>
            rw [ej] at P6
            cases w2 with
            | o k' =>
              cases e1
              obtain ⟨a, h1, h2⟩ := R3.own _ _ g
              have ho : σ[k]? = some (some o) := ho
              rw [h1] at ho
              cases ho
              obtain ⟨xs, h3, h4⟩ := h2
              obtain ⟨R4, s4, so4⟩ := R3.putL (xs := xs) g h1 (h4.set j hv)
              refine ⟨a, xs, m, j, rfl, rfl, h3, ?_, ?_⟩
              · rw [h4.len]
                exact ej
              · exact P6 σ _ R4 (b3.step s4 so4) (stp_expr s4 so4)
            | d _ => cases e1
            | f _ => cases e1
        | _ => exact P6.elim
theorem pu_saug {i : Nat} {pos' : Pos} (hN : X.N.Nodup) (hi : X.N[i]? = some x) (hx : Loc X.env.scope x) (he : PE X e (tP z fa)) (hf : X.fn x = true ∨ X.env.scope.names.lookup x = some .local := by first | exact .inl rfl | exact .inr rfl | assumption) :
    PS X (.AugAssign (.Name x pos') .Add e pos) (tS z (sAug i fa)) := PS_imp (ps_aug hN hi hx he ip_add hf) fun D σ H ⟨B, env, R, b, P⟩ => by
  unfold sAug bnd datM at P
  cases g : env[i]? with
  | none => rw [g] at P; exact P.elim
  | some s =>
    rw [g] at P
    cases s with
    | dat d =>
      dsimp only at P
      obtain ⟨v, h1, h2⟩ := R.dat i d g
      refine ⟨v, h1, tG_mono (postS_bnd R b P) fun u H1 ⟨env1, w, R1, b1, s1, so1, hV, P1⟩ => ?_⟩
      obtain ⟨c, e1, P2⟩ := postS_now P1
      obtain ⟨r, e2, P3⟩ := postS_opt P2
      have hu := hV.1.now R1 e1
      have hv : Dq z.K (wo (cells σ env1 B.O) H1) v d := by
        have h3 := vmove (w := .d d) s1 so1 h2
        exact h3
      unfold addD at e2
      split at e2
      · cases dv_int (DV.of hv)
        cases dv_int hu
        cases e2
        exact ⟨_, _, rfl, rfl, pu_sset.tsetP R1 b1 (.int _) P3⟩
      · split at e2
        · cases e2; exact P3.elim
        · cases e2
      · split at e2
        · cases e2; exact P3.elim
        · cases e2
      · cases e2
    | _ => exact P.elim
/-! errors -/
theorem excE {K : PySem.W.Frag} {S : SS} {H : Hp} {x : Str} : ExR K (wo S H) ⟨x, []⟩ (.ref (He.ga K x)) none := ⟨rfl, .inl ⟨rfl, rfl⟩⟩
theorem pu_sraise0 {x : Str} {pos2 : Pos} (hK : X.K = z.K) (hc : X.calm = true) (T : ExcK X.K X.mg x) (tk : Takes X z.W) (hg : Gl X x) (hdb : (x == ("__debug__" : Str)) = false := by decide) :
    PS X (.Raise (some (.Call (.Name x p) [] [] pos)) none pos2) (tS z (sRaise x [] List.isEmpty [])) := PS_imp (ps_raise0 hc T tk hg hdb) fun D σ H ⟨B, env, R, b, P⟩ => by
  rw [hK]
  exact P _ none σ H R b Stp.refl excE
theorem DqF.zip {K : PySem.W.Frag} {H : Hp} : ∀ {fs : List Str} {vs : List V} {ds : List D}, DqAll K H vs ds → DqF K H (fs.zip vs) (fs.zip ds)
  | [], _, _, _ => .nil
  | _ :: _, _, _, .nil => by simp; exact .nil
  | f :: fs, _, _, .cons h t => .cons h (DqF.zip t)
theorem pu_sraise {k j : Nat} {es : List Expr} {fs : List Str} {fas : List (M Vw)} {fl : List V → List (Str × V)} {ok : List V → Prop} {okd : List D → Bool} {pos2 : Pos} (hK : X.K = z.K) (hc : X.calm = true) (tk : Takes X z.W) (C : UbC.CalX X.prog X.w X.K X.mg X.base x k (UbC.spEI (He.ga X.K x) fl ok)) (hr : Room j X.A) (hj : k + 1 ≤ j) (hg : Gl X x)
    (hok : ∀ H vs ds, DqAll z.K H vs ds → okd ds = true → ok vs ∧ vs.length ≤ 1000 ∧ fl vs = fs.zip vs)
    (ha : PA X (e :: es) (tA z (eArgs fas))) (hdb : (x == ("__debug__" : Str)) = false := by decide)
    (he : starEach (e :: es) X.env = (false, eval e X.env) :: starEach es X.env := by rfl) (hpl : (backTo pos (starEach es X.env)).any (·.1) = false := by rfl) :
    PS X (.Raise (some (.Call (.Name x p) (e :: es) [] pos)) none pos2) (tS z (sRaise x fs okd fas)) := PS_imp (UbC.ps_raiseC hc tk C hr hj hg ha hdb he hpl) fun D σ H ⟨B, env, R, b, P⟩ =>
  tG_mono (postS_bnd R b P) fun vs H1 ⟨env1, ws, R1, b1, s1, so1, hV, P1⟩ => by
    obtain ⟨ds, e1, P2⟩ := postS_opt P1
    have hd := stays_rel hV e1
    split at P2
    · rename_i hk
      obtain ⟨h1, h2, h3⟩ := hok _ _ _ hd hk
      rw [hK]
      refine UbC.rdMkO (C := He.ga z.K x) (fl := fl) (ok := ok) (H1 := H1) (Q := fun cls d H' => z.W cls d σ H') h2 h1 fun d nd => ?_
      have e3 := sameNew nd (o := .xd (fl vs))
      refine P2 _ (some d) σ _ (R1.mono (kp e3)) (b1.mono (kp e3)) (wT_of (kp e3)) ⟨rfl, .inr ⟨d, fl vs, rfl, ?_, ?_⟩⟩
      · rw [wo_new (R1.cl.new nd), upd_same]
      · rw [h3, wo_new (R1.cl.new nd)]
        exact DqF.zip (hd.mono (sameNew (wo_none nd)))
    · exact P2.elim
/-! try -/
theorem exFree_no {env : Env} (h : exFree env = true) {i : Nat} {x : Ex} : env[i]? ≠ some (Sl.ex x) := fun e => by
  unfold exFree at h
  have := List.all_eq_true.mp h _ (List.mem_of_getElem? e)
  cases this
theorem RelT.toX {O : SS} {σ : L2.St} {env : Env} {H : Hp} {xi : Option (Addr × Value × Option Addr)} {W : WX} (R : RelT z O H σ env) (h : ∀ (i : Nat) (x : Ex), env[i]? ≠ some (Sl.ex x)) : RelT { z with xi := xi, W := W } O H σ env :=
  ⟨R.len, R.dat, R.own, R.inj, R.out, fun i x e => absurd e (h i x), R.cl, R.tb⟩
theorem RelT.toW {O : SS} {σ : L2.St} {env : Env} {H : Hp} {W : WX} (R : RelT z O H σ env) : RelT { z with W := W } O H σ env := ⟨R.len, R.dat, R.own, R.inj, R.out, R.ex, R.cl, R.tb⟩
theorem noEx {O : SS} {σ : L2.St} {env : Env} {H : Hp} (hz : z.xi = none) (R : RelT z O H σ env) : ∀ (i : Nat) (x : Ex), env[i]? ≠ some (Sl.ex x) := fun i x e => by
  obtain ⟨a, cls, d, h, _⟩ := R.ex i x e
  rw [hz] at h
  cases h
abbrev Z.xs (z : Z) (a : Addr) (cls : Value) (d : Option Addr) : Z := { z with xi := some (a, cls, d), W := noW }
abbrev Z.try_ (z : Z) (W : WX) : Z := { z with W := W }
theorem back_xs {O : SS} {σ : L2.St} {env : Env} {H : Hp} {xi : Option (Addr × Value × Option Addr)} {W : WX} (R : RelT { z with xi := xi, W := W } O H σ env) (h : ∀ (i : Nat) (x : Ex), env[i]? ≠ some (Sl.ex x)) : RelT z O H σ env :=
  ⟨R.len, R.dat, R.own, R.inj, R.out, fun i x e => absurd e (h i x), R.cl, R.tb⟩
theorem chg_no {σ : L2.St} {env : Env} {i : Nat} (hl : i < env.length) (np : ∀ c, env[i]? ≠ some (Sl.par c)) (v : Option V) : Chg [i] σ env (σ.set i v) (env.set i .no) := by
  refine ⟨List.length_set .., List.length_set .., fun j n => ?_, fun j n => ?_, fun j m => ?_⟩
  · exact List.getElem?_set_ne fun z => n (by rw [z]; exact List.mem_singleton.mpr rfl)
  · exact List.getElem?_set_ne fun z => n (by rw [z]; exact List.mem_singleton.mpr rfl)
  · have e := List.mem_singleton.mp m
    subst e
    exact ⟨np, .no, List.getElem?_set_self hl, rfl⟩
theorem postS_toW {B : Fm} {σ : L2.St} {env e : Env} {H : Hp} {D : Ends} {W : WX} {f : Fl} (P : PostS z B σ env H D (.ok f e)) : PostS (z.try_ W) B σ env H D (.ok f e) := by
  have un : ∀ {O : SS} {σ : L2.St} {env : Env} {H : Hp}, RelT (z.try_ W) O H σ env → RelT z O H σ env := fun {O σ env H} R => ⟨R.len, R.dat, R.own, R.inj, R.out, R.ex, R.cl, R.tb⟩
  cases f with
  | nx => exact fun σ' H' R b s => P σ' H' (un R) b s
  | bk => exact fun σ' H' R b s => P σ' H' (un R) b s
  | ct => exact fun σ' H' R b s => P σ' H' (un R) b s
  | rt w =>
    intro v σ' H' R b V N A
    refine P v σ' H' (un R) b V N ?_
    cases w with
    | f c => exact fun a ea => un (A a ea)
    | d _ => exact True.intro
    | o _ => exact True.intro
/-- the caught error's name is set -/
theorem setEx {O : SS} {σ : L2.St} {env : Env} {H : Hp} {i : Nat} {x : Ex} {a : Addr} {cls : Value} {d : Option Addr} (hz : z.xi = none) (R : RelT z O H σ env) (hi : env[i]? = some Sl.no) (X : ExR z.K (wo (cells σ env O) H) x cls d) :
    RelT (z.xs a cls d) O H (σ.set i (some (V.ref a))) (env.set i (.ex x)) ∧ Chg [i] σ env (σ.set i (some (V.ref a))) (env.set i (.ex x)) := by
  have hl := get_lt hi
  have C : Chg [i] σ env (σ.set i (some (V.ref a))) (env.set i (.ex x)) := by
    refine ⟨List.length_set .., List.length_set .., fun j n => ?_, fun j n => ?_, fun j m => ?_⟩
    · exact List.getElem?_set_ne fun z => n (by rw [z]; exact List.mem_singleton.mpr rfl)
    · exact List.getElem?_set_ne fun z => n (by rw [z]; exact List.mem_singleton.mpr rfl)
    · have e := List.mem_singleton.mp m
      subst e
      exact ⟨fun c e => (by rw [hi] at e; cases e), .ex x, List.getElem?_set_self hl, rfl⟩
  have sub := C.cells (O := O)
  have nx := noEx hz R
  have off : ∀ {j : Nat} {s : Sl}, (env.set i (Sl.ex x))[j]? = some s → s ≠ .ex x → j ∉ [i] := fun {j s} e n m => by
    have e' := List.mem_singleton.mp m
    subst e'
    rw [List.getElem?_set_self hl] at e
    exact n (Option.some.inj e).symm
  refine ⟨⟨by simp [R.len], fun j d e => ?_, fun j c g => ?_, fun j k c c' b g1 g2 e1 e2 => ?_, fun j c b g e => ?_, fun j y e => ?_, fun s hs => R.cl s (sub s hs), R.tb⟩, C⟩
  · have n := off e (by intro z; cases z)
    obtain ⟨v, h1, h2⟩ := R.dat j d (by rw [← C.e j n]; exact e)
    exact ⟨v, by rw [C.s j n]; exact h1, h2.mono (wo_sub sub)⟩
  · obtain ⟨n, g'⟩ := C.getO g
    obtain ⟨b, h1, h2⟩ := R.own j c g'
    exact ⟨b, by rw [C.s j n]; exact h1, h2.sub sub⟩
  · obtain ⟨n1, g1'⟩ := C.getO g1
    obtain ⟨n2, g2'⟩ := C.getO g2
    exact R.inj j k c c' b g1' g2' (by rw [← C.s j n1]; exact e1) (by rw [← C.s k n2]; exact e2)
  · obtain ⟨n1, g1'⟩ := C.getO g
    exact R.out j c b g1' (by rw [← C.s j n1]; exact e)
  · by_cases hj : j = i
    · subst hj
      rw [List.getElem?_set_self hl] at e
      cases e
      exact ⟨a, cls, d, rfl, List.getElem?_set_self (by rw [R.len]; exact hl), X.1, X.2.imp id fun ⟨dx, vs, g1, g2, g3⟩ => ⟨dx, vs, g1, wo_sub sub _ _ g2, g3.mono (wo_sub sub)⟩⟩
    · rw [List.getElem?_set_ne (Ne.symm hj)] at e
      exact absurd e (nx j y)
theorem chg_back {B : Fm} {σ2 : L2.St} {e2 : Env} {H2 : Hp} {a : Addr} {cls : Value} {d : Option Addr} {i : Nat} (hl : i < B.env0.length) (hpar : ∀ c, B.env0[i]? ≠ some (Sl.par c)) (b : Base B σ2 e2 H2) (hx : exFree (e2.set i .no) = true) :
    Chg [i] σ2 e2 (σ2.set i none) (e2.set i .no) ∧ ∀ O, RelT (z.xs a cls d) O H2 σ2 e2 → RelT z O H2 (σ2.set i none) (e2.set i .no) := by
  have hl2 : i < e2.length := by rw [b.len]; exact hl
  have C := chg_no (σ := σ2) hl2 (fun c e => by
    obtain ⟨c', h⟩ := (b.par i).mp ⟨c, e⟩
    exact hpar c' h) none
  refine ⟨C, fun O R => back_xs (R.chg C (fun j d' m e => ?_) (fun j x m => exFree_no hx)) fun j x => exFree_no hx⟩
  have e' := List.mem_singleton.mp m
  subst e'
  rw [List.getElem?_set_self hl2] at e
  cases e
theorem suite_as {B : Fm} {σ σ1 : L2.St} {env env1 : Env} {H H1 : Hp} {D : Ends} {i : Nat} {a : Addr} {cls : Value} {d : Option Addr} {r : Res Fl} (s0 : Stp B.O σ env H σ1 env1 H1) (hl : i < B.env0.length) (hpar : ∀ c, B.env0[i]? ≠ some (Sl.par c)) (P : PostS z B σ env H D (afterS (some i) r)) :
    PostS (z.xs a cls d) B σ1 env1 H1 { nx := fun σ' H' => D.nx (σ'.set i none) H', rt := D.rt, bk := fun σ' H' => D.bk (σ'.set i none) H', ct := fun σ' H' => D.ct (σ'.set i none) H' } r := by
  cases r with
  | exc x e => exact P.elim
  | bad => exact P.elim
  | ok f e2 =>
    unfold afterS at P
    dsimp only at P
    split at P
    · rename_i hxk
      obtain ⟨hx, hk⟩ := Bool.and_eq_true_iff.mp hxk
      cases f with
      | nx =>
        intro σ' H' R b s
        obtain ⟨C, k⟩ := chg_back (z := z) (a := a) (cls := cls) (d := d) hl hpar b hx
        exact P _ H' (k _ R) (C.base b) ((s0.trans s).trans C.stp)
      | bk =>
        intro σ' H' R b s
        obtain ⟨C, k⟩ := chg_back (z := z) (a := a) (cls := cls) (d := d) hl hpar b hx
        exact P _ H' (k _ R) (C.base b) ((s0.trans s).trans C.stp)
      | ct =>
        intro σ' H' R b s
        obtain ⟨C, k⟩ := chg_back (z := z) (a := a) (cls := cls) (d := d) hl hpar b hx
        exact P _ H' (k _ R) (C.base b) ((s0.trans s).trans C.stp)
      | rt w =>
        intro v σ' H' R b V N A
        obtain ⟨C, k⟩ := chg_back (z := z) (a := a) (cls := cls) (d := d) hl hpar b hx
        cases w with
        | o _ => cases hk
        | d x => exact P v _ H' (k _ R) (C.base b) (Dq.mono (wo_sub C.cells) V) True.intro True.intro
        | f c =>
          obtain ⟨a1, rfl, na, hc⟩ := V
          refine P (.ref a1) _ H' (k _ R) (C.base b) ⟨a1, rfl, fun h => na (C.cells _ h), hc.sub fun s hs => hs.imp (C.cells s) id⟩ N fun a2 ea => k _ (A a2 ea)
    · exact P.elim
theorem suite_only {B : Fm} {σ σ1 : L2.St} {env env1 : Env} {H H1 : Hp} {D : Ends} {a : Addr} {cls : Value} {d : Option Addr} {r : Res Fl} (s0 : Stp B.O σ env H σ1 env1 H1) (P : PostS z B σ env H D (afterS none r)) : PostS (z.xs a cls d) B σ1 env1 H1 D r := by
  cases r with
  | exc x e => exact P.elim
  | bad => exact P.elim
  | ok f e2 =>
    unfold afterS at P
    dsimp only at P
    split at P
    · rename_i hxk
      obtain ⟨hx, hk⟩ := Bool.and_eq_true_iff.mp hxk
      have k : ∀ {O : SS} {σ : L2.St} {H : Hp}, RelT (z.xs a cls d) O H σ e2 → RelT z O H σ e2 := fun {O σ H} R => back_xs R fun j x => exFree_no hx
      cases f with
      | nx => exact fun σ' H' R b s => P _ H' (k R) b (s0.trans s)
      | bk => exact fun σ' H' R b s => P _ H' (k R) b (s0.trans s)
      | ct => exact fun σ' H' R b s => P _ H' (k R) b (s0.trans s)
      | rt w =>
        intro v σ' H' R b V N A
        refine P v σ' H' (k R) b V N ?_
        cases w with
        | f c => exact fun a ea => k (A a ea)
        | d _ => exact True.intro
        | o _ => exact True.intro
    · exact P.elim
/-- try: body, except X as n: suite -/
theorem pu_stry_as {n : Str} {i : Nat} {c : Value} {body suite : List Stmt} {b₀ : Stmt} {np pos' : Pos} {fb fs : M Fl} {ok : Str → Option Bool} (hz : z.xi = none) (hK : X.K = z.K) (hs : X.stack = X.env :: X.outer) (hf : X.env.frame = some X.env.locals) (hN : X.N.Nodup) (hi : X.N[i]? = some n) (hln : X.env.kindOf n = some .local) (hc : Names X x c) (tk : Takes X z.W)
    (hok : ∀ s b, ok s = some b → PySem.W.exmOne z.K (.ref (He.ga z.K s)) c = some b)
    (hb : ∀ (W : WX) (pn : List (Addr × Obj)) (xe : Value → Shared → Prop), Takes (X.tr pn xe) W → PassesOwn (model X.prog X.w) X.A X.env xe → PSs (X.tr pn xe) body (tS (z.try_ W) fb))
    (hsu : ∀ (a : Addr) (oe : Obj) (cls : Value) (d : Option Addr) (pn : List (Addr × Obj)), Zc cls d oe → (∃ vs, oe.data = .fields vs) → PSs (X.suite a ((a, oe) :: pn)) (b₀ :: suite) (tS (z.xs a cls d) fs)) :
    PS X (.Try body [.ExceptHandler (some (.Name x np)) (some n) (b₀ :: suite) pos'] [] [] pos) (tS z (sTry fb ok (some i) fs)) := PS_imp (ps_try_as (tb := fun W => tS (z.try_ W) fb) (ts := fun a cls d => tS (z.xs a cls d) fs) (Wout := z.W) hs hf hN hi hln hc tk hb hsu) fun D σ H ⟨B, env, R, b, P⟩ => by
  refine ⟨B, env, ⟨R.len, R.dat, R.own, R.inj, R.out, R.ex, R.cl, R.tb⟩, b, ?_⟩
  unfold sTry at P
  cases eb : fb env with
  | ok f e => rw [eb] at P; exact postS_toW P
  | bad => rw [eb] at P; exact P
  | exc x e =>
    rw [eb] at P
    dsimp only at P
    intro cls d σ' H' R' b' st hX
    have R' : RelT z B.O H' σ' e := ⟨R'.len, R'.dat, R'.own, R'.inj, R'.out, R'.ex, R'.cl, R'.tb⟩
    cases ek : ok x.cls with
    | none => rw [ek] at P; exact P.elim
    | some k =>
      rw [ek] at P
      refine ⟨k, ?_, fun hk a na => ?_, fun hk => ?_⟩
      · rw [hX.1, hK]
        exact hok _ _ ek
      · subst hk
        dsimp only at P
        cases ei : e[i]? with
        | none => rw [ei] at P; exact P.elim
        | some s =>
          rw [ei] at P
          cases s with
          | no =>
            obtain ⟨R2, C⟩ := setEx (a := a) hz R' ei hX
            have hl : i < B.env0.length := by rw [← b'.len]; exact get_lt ei
            exact ⟨B, _, R2, C.base b', suite_as (st.trans C.stp) hl (fun c h => by
              obtain ⟨c', h'⟩ := (b'.par i).mpr ⟨c, h⟩
              rw [ei] at h'
              cases h') P⟩
          | _ => exact P.elim
      · subst hk
        exact P cls d σ' H' R' b' st hX
theorem pu_stry {c : Value} {body suite : List Stmt} {b₀ : Stmt} {np pos' : Pos} {fb fs : M Fl} {ok : Str → Option Bool} (hz : z.xi = none) (hK : X.K = z.K) (hs : X.stack = X.env :: X.outer) (hf : X.env.frame = some X.env.locals) (hc : Names X x c) (tk : Takes X z.W)
    (hok : ∀ s b, ok s = some b → PySem.W.exmOne z.K (.ref (He.ga z.K s)) c = some b)
    (hb : ∀ (W : WX) (pn : List (Addr × Obj)) (xe : Value → Shared → Prop), Takes (X.tr pn xe) W → PassesOwn (model X.prog X.w) X.A X.env xe → PSs (X.tr pn xe) body (tS (z.try_ W) fb))
    (hsu : ∀ (a : Addr) (oe : Obj) (cls : Value) (d : Option Addr) (pn : List (Addr × Obj)), Zc cls d oe → (∃ vs, oe.data = .fields vs) → PSs (X.suite a ((a, oe) :: pn)) (b₀ :: suite) (tS (z.xs a cls d) fs)) :
    PS X (.Try body [.ExceptHandler (some (.Name x np)) none (b₀ :: suite) pos'] [] [] pos) (tS z (sTry fb ok none fs)) := PS_imp (ps_try_only (tb := fun W => tS (z.try_ W) fb) (ts := fun a cls d => tS (z.xs a cls d) fs) (Wout := z.W) hs hf hc tk hb hsu) fun D σ H ⟨B, env, R, b, P⟩ => by
  refine ⟨B, env, ⟨R.len, R.dat, R.own, R.inj, R.out, R.ex, R.cl, R.tb⟩, b, ?_⟩
  unfold sTry at P
  cases eb : fb env with
  | ok f e => rw [eb] at P; exact postS_toW P
  | bad => rw [eb] at P; exact P
  | exc x e =>
    rw [eb] at P
    dsimp only at P
    intro cls d σ' H' R' b' st hX
    have R' : RelT z B.O H' σ' e := ⟨R'.len, R'.dat, R'.own, R'.inj, R'.out, R'.ex, R'.cl, R'.tb⟩
    cases ek : ok x.cls with
    | none => rw [ek] at P; exact P.elim
    | some k =>
      rw [ek] at P
      refine ⟨k, ?_, fun hk a na => ?_, fun hk => ?_⟩
      · rw [hX.1, hK]
        exact hok _ _ ek
      · subst hk
        exact ⟨B, e, R'.toX (noEx hz R'), b', suite_only st P⟩
      · subst hk
        exact P cls d σ' H' R' b' st hX
/-! ### a def -/
theorem start_env {vs : List V} {N : List Str} : (start N vs) = vs.map some ++ List.replicate (N.length - vs.length) none := rfl
theorem getO_app {args : List Sl} {k : Nat} {i : Nat} {c : Ct} (h : getO i (args ++ List.replicate k .no) = some c) : getO i args = some c := by
  rcases getO_cases h with g | g
  · rcases Nat.lt_or_ge i args.length with l | l
    · rw [List.getElem?_append_left l] at g
      exact getO_own g
    · rw [List.getElem?_append_right l] at g
      have := List.mem_of_getElem? g
      rw [List.mem_replicate] at this
      cases this.2
  · rcases Nat.lt_or_ge i args.length with l | l
    · rw [List.getElem?_append_left l] at g
      exact getO_par g
    · rw [List.getElem?_append_right l] at g
      have := List.mem_of_getElem? g
      rw [List.mem_replicate] at this
      cases this.2
end
end UbP

namespace UbP
open PySem PySem.Spec PyProof.Rows L2 UbM Ub
/-! ### a def's body -/
section
variable {X : Cx} {z : Z} {body : List Stmt} {fb : M Fl} {vs : List V} {H : Hp} {Q : VK} {E : XK} {n k : Nat} {N : List Str}
theorem pars_nil : ∀ {e : Env}, (∀ (i : Nat) (c : Ct), e[i]? ≠ some (Sl.par c)) → pars e = []
  | [], _ => rfl
  | s :: e, h => by
    have h0 : pars e = [] := pars_nil fun i c g => h (i + 1) c (by simpa using g)
    cases s with
    | par c => exact absurd rfl (h 0 c)
    | _ => exact h0
theorem PR_of {K : PySem.W.Frag} {S : SS} {H' : Hp} : ∀ {args : List Sl} {vs : List V} {e : Env}, e.length = args.length + k → vs.length = args.length → (∀ s ∈ args, ArgS s) → (∀ i : Nat, (∃ c, e[i]? = some (Sl.par c)) ↔ ∃ c, (args ++ List.replicate k Sl.no)[i]? = some (Sl.par c)) →
    (∀ (i : Nat) (c : Ct), e[i]? = some (Sl.par c) → ∃ a : Addr, vs[i]? = some (V.ref a) ∧ RelC K S H' a c) → PR K S H' vs args (pars e)
  | [], [], e, hl, hv, hA, hp, hc => by
    rw [pars_nil fun i c g => by
      obtain ⟨c', h⟩ := (hp i).mp ⟨c, g⟩
      have := List.mem_of_getElem? (show (List.replicate k Sl.no)[i]? = some (Sl.par c') from by simpa using h)
      rw [List.mem_replicate] at this
      cases this.2]
    exact .nil
  | s :: args, v :: vs, [], hl, hv, hA, hp, hc => by rw [List.length_cons] at hl; simp at hl; omega
  | [], _ :: _, _, hl, hv, _, _, _ => by cases hv
  | _ :: _, [], _, hl, hv, _, _, _ => by cases hv
  | s :: args, v :: vs, t :: e, hl, hv, hA, hp, hc => by
    have ih := PR_of (K := K) (S := S) (H' := H') (args := args) (vs := vs) (e := e) (by rw [List.length_cons, List.length_cons] at hl; omega) (Nat.succ.inj hv) (fun s hs => hA s (List.mem_cons_of_mem _ hs)) (fun i => by have := hp (i + 1); simpa using this) (fun i c g => by have := hc (i + 1) c (by simpa using g); simpa using this)
    rcases hA s (List.mem_cons_self ..) with ⟨d, rfl⟩ | ⟨c, rfl⟩
    · have e0 : pars (t :: e) = pars e := by
        cases t with
        | par c =>
          obtain ⟨c', h⟩ := (hp 0).mp ⟨c, rfl⟩
          simp at h
        | _ => rfl
      rw [e0]
      exact .oth ih
    · obtain ⟨c', h⟩ := (hp 0).mpr ⟨c, by simp⟩
      simp at h
      subst h
      obtain ⟨a, h1, h2⟩ := hc 0 c' rfl
      simp at h1
      subst h1
      exact .par h2 ih
theorem RelT.less {O O' : SS} {σ : L2.St} {env : Env} (R : RelT z O' H σ env) (h : ∀ s, O s → O' s) : RelT z O H σ env := by
  have sub : ∀ s, cells σ env O s → cells σ env O' s := fun s hs => hs.imp id (h s)
  exact ⟨R.len, fun j d e => let ⟨v, h1, h2⟩ := R.dat j d e; ⟨v, h1, h2.mono (wo_sub sub)⟩, fun j c g => let ⟨a, h1, h2⟩ := R.own j c g; ⟨a, h1, h2.sub sub⟩, R.inj, fun j c a g e hO => R.out j c a g e (h a hO),
    fun j x e => let ⟨a, cls, d, h1, h2, h3, h4⟩ := R.ex j x e; ⟨a, cls, d, h1, h2, h3, h4.imp id fun ⟨dx, vs, g1, g2, g3⟩ => ⟨dx, vs, g1, wo_sub sub _ _ g2, g3.mono (wo_sub sub)⟩⟩, fun s hs => R.cl s (sub s hs), R.tb⟩
theorem def_body (hb : PSs X body (tS z fb)) (hz : z.W = fun cls d _ H => E cls d H) (hxi : z.xi = none) (h : spF z.K z.Tb (run k fb) n vs H Q E) (hN : N.length = n + k) :
    ∃ t, PSs X body t ∧ t { nx := fun _ H' => Q .non H', rt := Q } (start N vs) H := by
  obtain ⟨hl, O, args, R, hA, P⟩ := h
  refine ⟨_, hb, ?_⟩
  have la : args.length = vs.length := by have := R.len; rw [List.length_map] at this; exact this.symm
  have hk : N.length - vs.length = k := by omega
  have est : start N vs = vs.map some ++ List.replicate k none := by rw [← hk]; rfl
  have exA : ∀ {i : Nat} {s : Sl}, (args ++ List.replicate k Sl.no)[i]? = some s → s ≠ .no → args[i]? = some s ∧ i < args.length := fun {i s} h n => by
    rcases Nat.lt_or_ge i args.length with l | l
    · rw [List.getElem?_append_left l] at h
      exact ⟨h, l⟩
    · rw [List.getElem?_append_right l] at h
      have := List.mem_of_getElem? h
      rw [List.mem_replicate] at this
      exact absurd this.2 n
  have exV : ∀ {i : Nat}, i < args.length → (start N vs)[i]? = (vs.map some)[i]? := fun {i} l => by
    rw [est, List.getElem?_append_left (by rw [List.length_map]; omega)]
  have exG : ∀ {i : Nat} {c : Ct}, getO i (args ++ List.replicate k Sl.no) = some c → getO i args = some c ∧ i < args.length := fun {i c} h => by
    have g := getO_app h
    rcases getO_cases g with q | q
    · exact ⟨g, get_lt q⟩
    · exact ⟨g, get_lt q⟩
  have inG : ∀ {i : Nat} {c : Ct}, getO i args = some c → getO i (args ++ List.replicate k Sl.no) = some c ∧ i < args.length := fun {i c} h => by
    rcases getO_cases h with q | q
    · exact ⟨getO_own (by rw [List.getElem?_append_left (get_lt q)]; exact q), get_lt q⟩
    · exact ⟨getO_par (by rw [List.getElem?_append_left (get_lt q)]; exact q), get_lt q⟩
  have ow : ownS (start N vs) (args ++ List.replicate k Sl.no) = ownS (vs.map some) args := by
    funext s
    refine propext ⟨fun ⟨i, c, h1, h2⟩ => ?_, fun ⟨i, c, h1, h2⟩ => ?_⟩
    · obtain ⟨g, l⟩ := exG h1
      exact ⟨i, c, g, by rw [← exV l]; exact h2⟩
    · obtain ⟨g, l⟩ := inG h1
      exact ⟨i, c, g, by rw [exV l]; exact h2⟩
  have ce : cells (start N vs) (args ++ List.replicate k Sl.no) O = cells (vs.map some) args O := by unfold cells; rw [ow]
  have parA : ∀ {i : Nat} {c : Ct}, getO i args = some c → args[i]? = some (Sl.par c) := fun {i c} h => by
    rcases getO_cases h with q | q
    · rcases hA _ (List.mem_of_getElem? q) with ⟨d, z⟩ | ⟨d, z⟩ <;> cases z
    · exact q
  have ep : parS ⟨O, start N vs, args ++ List.replicate k Sl.no, H⟩ = ownS (vs.map some) args := by
    funext s
    refine propext ⟨fun ⟨i, c, h1, h2⟩ => ?_, fun ⟨i, c, h1, h2⟩ => ?_⟩
    · obtain ⟨g, l⟩ := exA h1 (by intro z; cases z)
      exact ⟨i, c, getO_par g, by rw [← exV l]; exact h2⟩
    · have g := parA h1
      exact ⟨i, c, by rw [List.getElem?_append_left (get_lt g)]; exact g, by rw [exV (get_lt g)]; exact h2⟩
  have R0 : RelT z O H (start N vs) (args ++ List.replicate k Sl.no) := by
    refine ⟨?_, fun i d h => ?_, fun i c h => ?_, fun i j c c' a g1 g2 e1 e2 => ?_, fun i c a g e => ?_, fun i x h => ?_, by rw [ce]; exact R.cl, R.tb⟩
    · rw [est, List.length_append, List.length_append, List.length_map, List.length_replicate, List.length_replicate, la]
    · obtain ⟨g, l⟩ := exA h (by intro z; cases z)
      obtain ⟨v, h1, h2⟩ := R.dat i d g
      exact ⟨v, by rw [exV l]; exact h1, by rw [ce]; exact h2⟩
    · obtain ⟨g, l⟩ := exG h
      obtain ⟨a, h1, h2⟩ := R.own i c g
      exact ⟨a, by rw [exV l]; exact h1, by rw [ce]; exact h2⟩
    · obtain ⟨g1, l1⟩ := exG g1
      obtain ⟨g2, l2⟩ := exG g2
      exact R.inj i j c c' a g1 g2 (by rw [← exV l1]; exact e1) (by rw [← exV l2]; exact e2)
    · obtain ⟨g, l⟩ := exG g
      exact R.out i c a g (by rw [← exV l]; exact e)
    · obtain ⟨g, l⟩ := exA h (by intro z; cases z)
      rcases hA _ (List.mem_of_getElem? g) with ⟨d, z⟩ | ⟨d, z⟩ <;> cases z
  have b0 : Base ⟨O, start N vs, args ++ List.replicate k Sl.no, H⟩ (start N vs) (args ++ List.replicate k Sl.no) H := by
    refine ⟨rfl, fun i => Iff.rfl, fun i c _ => rfl, SameC.refl H, fun i c a h e => ?_⟩
    obtain ⟨g, l⟩ := exA h (by intro z; cases z)
    rcases hA _ (List.mem_of_getElem? g) with ⟨d, z⟩ | ⟨d, z⟩ <;> cases z
  refine ⟨⟨O, start N vs, args ++ List.replicate k Sl.no, H⟩, _, R0, b0, ?_⟩
  -- the end
  have prOf : ∀ {σ' : L2.St} {e : Env} {H' : Hp} (Ex : SS), RelT z (fun s => O s ∨ Ex s) H' σ' e → Base ⟨O, start N vs, args ++ List.replicate k Sl.no, H⟩ σ' e H' →
      (∀ s, cells (vs.map some) args O s → cells σ' e O s) ∧ PR z.K (fun s => cells (vs.map some) args O s ∨ Ex s) H' vs args (pars e) := fun {σ' e H'} Ex R' b' => by
    have sub : ∀ s, cells (vs.map some) args O s → cells σ' e O s := fun s hs => by
      rcases hs with ⟨i, c, h1, h2⟩ | hs
      · have g := parA h1
        obtain ⟨c', h3⟩ := (b'.par i).mpr ⟨c, by show (args ++ List.replicate k Sl.no)[i]? = _; rw [List.getElem?_append_left (get_lt g)]; exact g⟩
        refine .inl ⟨i, c', getO_par h3, ?_⟩
        rw [b'.at_ i c' h3]
        show (start N vs)[i]? = _
        rw [exV (get_lt g)]
        exact h2
      · exact .inr hs
    refine ⟨sub, PR_of (k := k) ?_ la.symm hA (fun i => b'.par i) fun i c h => ?_⟩
    · rw [b'.len]
      show (args ++ List.replicate k Sl.no).length = _
      rw [List.length_append, List.length_replicate]
    · obtain ⟨c', h3⟩ := (b'.par i).mp ⟨c, h⟩
      obtain ⟨g, l⟩ := exA h3 (by intro z; cases z)
      obtain ⟨a, h1, h2⟩ := R'.own i c (getO_par h)
      rw [b'.at_ i c h] at h1
      have h1 : (start N vs)[i]? = some (some (V.ref a)) := h1
      rw [exV l, List.getElem?_map] at h1
      obtain ⟨v, h4, h5⟩ := Option.map_eq_some_iff.mp h1
      cases h5
      refine ⟨a, h4, h2.sub fun s hs => ?_⟩
      rw [cells_or]
      exact hs.imp (sub s) id
  have prNo : ∀ {σ' : L2.St} {e : Env} {H' : Hp}, RelT z O H' σ' e → Base ⟨O, start N vs, args ++ List.replicate k Sl.no, H⟩ σ' e H' → (∀ s, cells (vs.map some) args O s → cells σ' e O s) ∧ PR z.K (cells (vs.map some) args O) H' vs args (pars e) := fun {σ' e H'} R' b' => by
    have h := prOf (fun _ => False) (by rw [or_no]; exact R') b'
    rw [or_no] at h
    exact h
  have hp : ∀ {σ' : L2.St} {e : Env} {H' : Hp}, Base ⟨O, start N vs, args ++ List.replicate k Sl.no, H⟩ σ' e H' → SameC (ownS (vs.map some) args) H H' := fun {σ' e H'} b' => by
    have := b'.heap
    rw [ep] at this
    exact this
  unfold run at P
  cases ef : fb (args ++ List.replicate k Sl.no) with
  | bad => rw [ef] at P; exact P.elim
  | exc x e =>
    rw [ef] at P
    intro cls d σ' H' R' b' st hX
    rw [hz]
    obtain ⟨sub, pr⟩ := prNo R' b'
    exact P cls d H' (hp b') pr ⟨hX.1, hX.2.imp id fun ⟨dx, vs, g1, g2, g3⟩ => ⟨dx, vs, g1, wo_sub sub _ _ g2, g3.mono (wo_sub sub)⟩⟩
  | ok f e =>
    rw [ef] at P
    cases f with
    | nx =>
      intro σ' H' R' b' st
      exact P .non H' (hp b') (prNo R' b').2 .non True.intro
    | bk => exact P.elim
    | ct => exact P.elim
    | rt w =>
      cases w with
      | o i => exact P.elim
      | d x =>
        intro v σ' H' R' b' hV hN' hA'
        obtain ⟨sub, pr⟩ := prNo R' b'
        exact P v H' (hp b') pr (Dq.mono (wo_sub sub) hV) True.intro
      | f c =>
        intro v σ' H' R' b' hV hN' hA'
        obtain ⟨a, rfl, na, hc⟩ := hV
        obtain ⟨sub, pr⟩ := prOf (fun s => s = a) (hA' a rfl) b'
        refine P (.ref a) H' (hp b') ?_ ⟨a, rfl, fun h => na (sub a h), hc.sub fun s hs => hs.imp (sub s) id⟩ hN'
        have e : (fun s => cells (vs.map some) args O s ∨ s = a) = apart (.ref a) (.f c) (cells (vs.map some) args O) := by
          funext s
          exact propext ⟨fun h => h.imp id fun h => by rw [h], fun h => h.imp id fun h => by cases h; rfl⟩
        rw [← e]
        exact pr
end
/-! ### e.f of a caught error -/
theorem pts_ret {X : Cx} {z : Z} : PTs X [] (tT z (ret true)) := ⟨fun pins s σ H Q I h => pts_nil.run pins s σ H Q I (by
  obtain ⟨O, env, R, P⟩ := h
  exact P true H (SameC.refl H) R (SameO.refl _) rfl)⟩
/-! ### comprehensions -/
section
variable {z : Z} {O : SS} {σ : L2.St} {env env' : Env} {H : Hp}
theorem wipe_at : ∀ (vs : List Nat) (σ : L2.St) (j : Nat), (wipe σ vs)[j]? = if j ∈ vs then (σ[j]?).map (fun _ => none) else σ[j]?
  | [], σ, j => by simp [wipe]
  | v :: vs, σ, j => by
    unfold wipe
    rw [List.getElem?_set]
    by_cases h : v = j
    · subst h
      rw [if_pos rfl, if_pos (List.mem_cons_self ..), wipe_length]
      by_cases hl : v < σ.length
      · rw [if_pos hl, List.getElem?_eq_getElem hl]
        rfl
      · rw [if_neg hl, List.getElem?_eq_none (by omega)]
        rfl
    · rw [if_neg h, wipe_at vs σ j]
      by_cases hm : j ∈ vs
      · rw [if_pos hm, if_pos (List.mem_cons_of_mem _ hm)]
      · rw [if_neg hm, if_neg fun z => (List.mem_cons.mp z).elim (fun e => h e.symm) hm]
theorem wipeE_len : ∀ (vs : List Nat) (e : Env), (wipeE e vs).length = e.length
  | [], e => rfl
  | v :: vs, e => by unfold wipeE; rw [List.length_set, wipeE_len vs e]
theorem wipeE_at : ∀ (vs : List Nat) (e : Env) (j : Nat), (wipeE e vs)[j]? = if j ∈ vs then (e[j]?).map (fun _ => Sl.no) else e[j]?
  | [], e, j => by simp [wipeE]
  | v :: vs, e, j => by
    unfold wipeE
    rw [List.getElem?_set]
    by_cases h : v = j
    · subst h
      rw [if_pos rfl, if_pos (List.mem_cons_self ..), wipeE_len]
      by_cases hl : v < e.length
      · rw [if_pos hl, List.getElem?_eq_getElem hl]
        rfl
      · rw [if_neg hl, List.getElem?_eq_none (by omega)]
        rfl
    · rw [if_neg h, wipeE_at vs e j]
      by_cases hm : j ∈ vs
      · rw [if_pos hm, if_pos (List.mem_cons_of_mem _ hm)]
      · rw [if_neg hm, if_neg fun z => (List.mem_cons.mp z).elim (fun e => h e.symm) hm]
theorem backE_len : ∀ (vs : List Nat) (e e' : Env), (backE e e' vs).length = e'.length
  | [], e, e' => rfl
  | v :: vs, e, e' => by unfold backE; rw [List.length_set, backE_len vs e e']
theorem backE_at (hl : env.length = env'.length) : ∀ (vs : List Nat) (j : Nat), (backE env env' vs)[j]? = if j ∈ vs then env[j]? else env'[j]?
  | [], j => by simp [backE]
  | v :: vs, j => by
    unfold backE
    rw [List.getElem?_set]
    by_cases h : v = j
    · subst h
      rw [if_pos rfl, if_pos (List.mem_cons_self ..), backE_len]
      by_cases hv : v < env'.length
      · rw [if_pos hv, List.getElem?_eq_getElem (by omega), List.getD_eq_getElem?_getD, List.getElem?_eq_getElem (by omega)]
        rfl
      · rw [if_neg hv, List.getElem?_eq_none (by omega)]
    · rw [if_neg h, backE_at hl vs j]
      by_cases hm : j ∈ vs
      · rw [if_pos hm, if_pos (List.mem_cons_of_mem _ hm)]
      · rw [if_neg hm, if_neg fun z => (List.mem_cons.mp z).elim (fun e => h e.symm) hm]
/-- the slots vs hold nothing owned -/
def Light (vs : List Nat) (e : Env) : Prop := ∀ j ∈ vs, ∃ s, e[j]? = some s ∧ knd s = 0
theorem freeAt_light {vs : List Nat} (h : freeAt env vs = true) : Light vs env ∧ ∀ j ∈ vs, ∀ x, env[j]? ≠ some (Sl.ex x) := by
  unfold freeAt at h
  refine ⟨fun j hj => ?_, fun j hj x e => ?_⟩
  · have := List.all_eq_true.mp h j hj
    cases e : env[j]? with
    | none => rw [e] at this; cases this
    | some s =>
      rw [e] at this
      cases s with
      | no => exact ⟨_, rfl, rfl⟩
      | dat d => exact ⟨_, rfl, rfl⟩
      | _ => cases this
  · have := List.all_eq_true.mp h j hj
    rw [e] at this
    cases this
theorem Light.notPar {vs : List Nat} (h : Light vs env) {j : Nat} (hj : j ∈ vs) (c : Ct) : env[j]? ≠ some (Sl.par c) := fun e => by
  obtain ⟨s, h1, h2⟩ := h j hj
  rw [e] at h1
  cases h1
  cases h2
theorem Light.so {vs : List Nat} (h : Light vs env) (so : SameO env env') : Light vs env' := fun j hj => by
  obtain ⟨s, h1, h2⟩ := h j hj
  have := so.2 j
  rw [h1] at this
  cases e : env'[j]? with
  | none => rw [e] at this; cases this
  | some t =>
    rw [e] at this
    refine ⟨t, rfl, ?_⟩
    have : knd s = knd t := Option.some.inj this
    rw [← this]
    exact h2
/-- the slots vs are wiped -/
theorem chg_wipe {vs : List Nat} (h : Light vs env) : Chg vs σ env (wipe σ vs) (wipeE env vs) := by
  refine ⟨wipe_length σ vs, wipeE_len vs env, fun j n => by rw [wipe_at, if_neg n], fun j n => by rw [wipeE_at, if_neg n], fun j m => ⟨fun c => h.notPar m c, ?_⟩⟩
  obtain ⟨s, h1, h2⟩ := h j m
  exact ⟨.no, by rw [wipeE_at, if_pos m, h1]; rfl, rfl⟩
theorem wipe_no {vs : List Nat} {j : Nat} (m : j ∈ vs) {s : Sl} (e : (wipeE env vs)[j]? = some s) : s = .no := by
  rw [wipeE_at, if_pos m] at e
  obtain ⟨_, _, h⟩ := Option.map_eq_some_iff.mp e
  exact h.symm
theorem RelT.wiped {vs : List Nat} (R : RelT z O H σ env) (h : Light vs env) : RelT z O H (wipe σ vs) (wipeE env vs) :=
  R.chg (chg_wipe h) (fun j d m e => by cases wipe_no m e) fun j x m e => by cases wipe_no m e
theorem so_wipe {vs : List Nat} (h : Light vs env) : SameO env (wipeE env vs) := by
  refine ⟨(wipeE_len vs env).symm, fun j => ?_⟩
  rw [wipeE_at]
  by_cases m : j ∈ vs
  · obtain ⟨s, h1, h2⟩ := h j m
    rw [if_pos m, h1]
    show some (knd s) = some 0
    rw [h2]
  · rw [if_neg m]
theorem own_wipe {vs : List Nat} (h : Light vs env) : ownS (wipe σ vs) (wipeE env vs) = ownS σ env := by
  funext s
  refine propext ⟨fun ⟨i, c, g, e⟩ => ?_, fun ⟨i, c, g, e⟩ => ?_⟩
  · obtain ⟨n, g'⟩ := (chg_wipe (σ := σ) h).getO g
    exact ⟨i, c, g', by rw [wipe_at, if_neg n] at e; exact e⟩
  · have n : i ∉ vs := fun m => by
      obtain ⟨t, h1, h2⟩ := h i m
      rcases getO_cases g with q | q
      · rw [h1] at q; cases q; cases h2
      · rw [h1] at q; cases q; cases h2
    refine ⟨i, c, ?_, by rw [wipe_at, if_neg n]; exact e⟩
    unfold getO at g ⊢
    rw [wipeE_at, if_neg n]
    exact g
/-- a target's slots -/
theorem chg_so {is : List Nat} {σ' : L2.St} (C : Chg is σ env σ' env') (h : Light is env) : SameO env env' := by
  refine ⟨C.l2.symm, fun j => ?_⟩
  by_cases m : j ∈ is
  · obtain ⟨s, h1, h2⟩ := h j m
    obtain ⟨t, h3, h4⟩ := (C.p j m).2
    rw [h1, h3]
    show some (knd s) = some (knd t)
    rw [h2, h4]
  · rw [C.e j m]
theorem wipe_chg {is vs : List Nat} {σ' : L2.St} (C : Chg is (wipe σ vs) env σ' env') (h : ∀ j ∈ is, j ∈ vs) : wipe σ' vs = wipe σ vs := by
  refine List.ext_getElem? fun j => ?_
  rw [wipe_at, wipe_at]
  by_cases m : j ∈ vs
  · rw [if_pos m, if_pos m]
    have hl : σ'.length = σ.length := C.l1.trans (wipe_length σ vs)
    by_cases hj : j < σ.length
    · rw [List.getElem?_eq_getElem hj, List.getElem?_eq_getElem (by omega)]
      rfl
    · rw [List.getElem?_eq_none (by omega), List.getElem?_eq_none (by omega)]
  · rw [if_neg m, if_neg m, C.s j fun z => m (h j z), wipe_at, if_neg m]
/-- the block's end: the outer names again -/
theorem RelT.unwipe {O' : SS} {vs : List Nat} {H' : Hp} {e' : Env} (R : RelT z O H σ env) (hf : Light vs env) (hx : ∀ j ∈ vs, ∀ x, env[j]? ≠ some (Sl.ex x)) (R' : RelT z O' H' (wipe σ vs) e') (so : SameO (wipeE env vs) e') (wt : UbG.SameT (wo (cells σ env O) H) (wo (cells σ (backE env e' vs) O') H')) :
    RelT z O' H' σ (backE env e' vs) ∧ SameO env (backE env e' vs) := by
  have hl : env.length = e'.length := (so_wipe hf).1.trans so.1
  have C : Chg vs (wipe σ vs) e' σ (backE env e' vs) := by
    refine ⟨(wipe_length σ vs).symm, (backE_len vs env e'), fun j n => by rw [wipe_at, if_neg n], fun j n => by rw [backE_at hl, if_neg n], fun j m => ⟨fun c e => ?_, ?_⟩⟩
    · obtain ⟨s, h1, h2⟩ := (hf.so ((so_wipe hf).trans so)) j m
      rw [e] at h1
      cases h1
      cases h2
    · obtain ⟨s, h1, h2⟩ := hf j m
      exact ⟨s, by rw [backE_at hl, if_pos m]; exact h1, h2⟩
  refine ⟨R'.chg C (fun j d m e => ?_) (fun j x m e => ?_), ?_⟩
  · rw [backE_at hl, if_pos m] at e
    obtain ⟨v, h1, h2⟩ := R.dat j d e
    exact ⟨v, h1, Dq.monoT wt _ _ h2⟩
  · rw [backE_at hl, if_pos m] at e
    exact hx j m x e
  · refine ⟨hl.trans (backE_len vs env e').symm, fun j => ?_⟩
    rw [backE_at hl]
    by_cases m : j ∈ vs
    · rw [if_pos m]
    · rw [if_neg m]
      have h1 := ((so_wipe hf).trans so).2 j
      exact h1
theorem Dq.W {W : WX} {v : V} {d : D} {S : SS} (h : Dq z.K (wo S H) v d) : Dq ({ z with W := W } : Z).K (wo S H) v d := h
theorem relW {W : WX} (R : RelT z O H σ env) : RelT { z with W := W } O H σ env := ⟨R.len, R.dat, R.own, R.inj, R.out, R.ex, R.cl, R.tb⟩
theorem relW' {W : WX} (R : RelT { z with W := W } O H σ env) : RelT z O H σ env := ⟨R.len, R.dat, R.own, R.inj, R.out, R.ex, R.cl, R.tb⟩
abbrev Z.quiet (z : Z) : Z := { z with W := noW }
end
section
variable {z : Z} {σ : L2.St} {H : Hp} {Q : VK} {fi : M (List D)} {tg : Tg} {c : M Bool} {x : M Vw} {vs : List Nat}
theorem lc_read (hvs : ∀ j ∈ slots tg, j ∈ vs) (h : tP z (eLc fi tg c x vs) σ H Q) : tLc (tI z fi) (gT z.K tg) (tT z.quiet c) (tP z.quiet x) vs σ H Q := by
  obtain ⟨O, env, R, P⟩ := h
  refine tG_mono (post_bnd bkE R P) fun J H1 ⟨env1, ds, R1, s1, so1, hJ, P1⟩ => ?_
  intro Da nD
  split at P1
  · rename_i hfree
    obtain ⟨hf, hx⟩ := freeAt_light hfree
    cases er : lcGo tg c x vs ds [] (wipeE env1 vs) with
    | exc _ _ => rw [er] at P1; exact P1.elim
    | bad => rw [er] at P1; exact P1.elim
    | ok ys e' =>
      rw [er] at P1
      have nDc : ¬cells σ env1 O Da := R1.cl.new nD
      have e0 := sameNew nD (o := .lst [])
      have Rw : RelT z.quiet (fun s => O s ∨ s = Da) (upd H1 Da (.lst [])) (wipe σ vs) (wipeE env1 vs) := relW ((R1.fresh nD (kp e0) ⟨_, upd_same, True.intro⟩).wiped hf)
      -- what holds at each turn
      refine ⟨fun i m H2 => m = ds.length - i ∧ i ≤ ds.length ∧ ∃ (acc : List D) (ei : Env) (xs : List V), lcGo tg c x vs (ds.drop i) acc ei = .ok ys e' ∧ RelT z.quiet (fun s => O s ∨ s = Da) H2 (wipe σ vs) ei ∧ SameO (wipeE env1 vs) ei ∧ SameC (ownS σ env1) H1 H2 ∧
        H2 Da = some (.lst xs) ∧ DqAll z.K (wo (fun s => cells σ env1 O s ∨ s = Da) H2) xs acc, ⟨ds.length, by simp, Nat.zero_le _, [], wipeE env1 vs, [], er, Rw, SameO.refl _, (sameC e0), upd_same, .nil⟩, ?_⟩
      rintro i m H2 ⟨rfl, hi, acc, ei, xs, eg, R2, so2, s2, hD, hA⟩
      have owS : ∀ {e : Env}, SameO (wipeE env1 vs) e → ownS (wipe σ vs) e = ownS σ env1 := fun {e} so => by rw [← so.ownS, own_wipe hf]
      have ceE : ∀ {e : Env}, SameO (wipeE env1 vs) e → cells (wipe σ vs) e (fun s => O s ∨ s = Da) = fun s => cells σ env1 O s ∨ s = Da := fun {e} so => by
        rw [cells_or]
        unfold cells
        rw [owS so]
      have wt : UbG.SameT (wo (cells σ env1 O) H1) (wo (cells (wipe σ vs) ei (fun s => O s ∨ s = Da)) H2) := by
        rw [ceE so2]
        exact wT_ext (Ex := fun s => s = Da) s2 (fun a h => .inl h) fun a h => by rw [h]; exact nD
      obtain ⟨go, stop, yld⟩ := hJ.at_ i _ H2 wt R2.cl
      by_cases hl : i < ds.length
      · refine .inr ⟨go hl, _, fun H' n => ⟨ds.length - (i + 1), by omega, n⟩, fun v H3 y => ?_⟩
        obtain ⟨sm, d, ed, hd⟩ := yld v H3 hl y
        have R3 := R2.mono (kp sm)
        rw [List.drop_eq_getElem_cons hl] at eg
        have ed' : ds[i] = d := by
          rw [List.getElem?_eq_getElem hl] at ed
          exact Option.some.inj ed
        rw [ed'] at eg
        unfold lcGo at eg
        cases ep : putT tg d ei with
        | none => rw [ep] at eg; cases eg
        | some e1 =>
          rw [ep] at eg
          dsimp only at eg
          obtain ⟨σ4, q, R4, C⟩ := putT_ok tg d v (wipe σ vs) ei e1 R3 ep hd
          have light0 : Light vs (wipeE env1 vs) := fun j m => ⟨.no, by rw [wipeE_at, if_pos m]; obtain ⟨s, h1, _⟩ := hf j m; rw [h1]; rfl, rfl⟩
          have lightI : Light vs ei := light0.so so2
          have light1 : SameO ei e1 := chg_so C fun j m => lightI j (hvs j m)
          have wσ : wipe σ4 vs = wipe σ vs := wipe_chg C hvs
          have own4 : ownS σ4 e1 = ownS σ env1 := by
            have h1 : ownS (wipe σ4 vs) (wipeE e1 vs) = ownS σ4 e1 := own_wipe (lightI.so light1)
            rw [← h1, wσ]
            have h2 : SameO (wipeE env1 vs) (wipeE e1 vs) := (so2.trans light1).trans (so_wipe (lightI.so light1))
            exact owS h2
          have s3 : SameC (ownS σ env1) H1 H3 := s2.trans (Kp.C (kp sm))
          have hD3 : H3 Da = some (.lst xs) := sm _ _ hD
          have hA3 : DqAll z.K (wo (fun s => cells σ env1 O s ∨ s = Da) H3) xs acc := Dq.monoTAll (wT_of (kp sm)) _ _ hA
          refine q _ ⟨wσ, ?_⟩
          -- the test
          have nDo : ¬ownS σ env1 Da := fun h => nDc (.inl h)
          have stay : ∀ {e e2 : Env} {Ha Hb : Hp} {xs : List V} {acc : List D}, SameO e1 e → SameC (ownS σ4 e) Ha Hb → Ha Da = some (.lst xs) → DqAll z.K (wo (fun s => cells σ env1 O s ∨ s = Da) Ha) xs acc → SameC (ownS σ env1) H1 Ha → Hb Da = some (.lst xs) ∧ DqAll z.K (wo (fun s => cells σ env1 O s ∨ s = Da) Hb) xs acc ∧ SameC (ownS σ env1) H1 Hb := fun {e e2 Ha Hb xs acc} so sc h1 h2 h3 => by
            rw [← so.ownS σ4, own4] at sc
            exact ⟨sc.but _ _ nDo h1 (fun _ z => by cases z), Dq.monoTAll (sc.sub fun a h => .inl (.inl h)).wT _ _ h2, h3.trans sc⟩
          cases ec : c e1 with
          | exc _ _ => rw [ec] at eg; cases eg
          | bad => rw [ec] at eg; cases eg
          | ok bb e2 =>
            rw [ec] at eg
            refine ⟨_, e1, R4, ?_⟩
            rw [ec]
            intro b H4 s4 R5 so5 hb
            cases hb
            obtain ⟨hD4, hA4, s14⟩ := stay (e2 := e2) (SameO.refl e1) s4 hD3 hA3 s3
            have again : ∀ {e : Env} {Hb : Hp} {xs : List V} {acc : List D}, SameO e1 e → RelT z.quiet (fun s => O s ∨ s = Da) Hb σ4 e → SameC (ownS σ env1) H1 Hb → Hb Da = some (.lst xs) → DqAll z.K (wo (fun s => cells σ env1 O s ∨ s = Da) Hb) xs acc → lcGo tg c x vs (ds.drop (i + 1)) acc (wipeE e vs) = .ok ys e' →
                ds.length - (i + 1) = ds.length - (i + 1) ∧ i + 1 ≤ ds.length ∧ ∃ (acc : List D) (ei : Env) (xs : List V), lcGo tg c x vs (ds.drop (i + 1)) acc ei = .ok ys e' ∧ RelT z.quiet (fun s => O s ∨ s = Da) Hb (wipe σ vs) ei ∧ SameO (wipeE env1 vs) ei ∧ SameC (ownS σ env1) H1 Hb ∧ Hb Da = some (.lst xs) ∧ DqAll z.K (wo (fun s => cells σ env1 O s ∨ s = Da) Hb) xs acc := fun {e Hb xs acc} so Re sb hb ha hg => by
              have le := (lightI.so light1).so so
              have Rw := Re.wiped le
              rw [wσ] at Rw
              exact ⟨rfl, hl, acc, wipeE e vs, xs, hg, Rw, ((so2.trans light1).trans so).trans (so_wipe le), sb, hb, ha⟩
            cases bb with
            | false =>
              rw [if_neg (by decide)]
              exact again so5 R5 s14 hD4 hA4 eg
            | true =>
              rw [if_pos rfl]
              dsimp only at eg
              cases ex : x e2 with
              | exc _ _ => rw [ex] at eg; cases eg
              | bad => rw [ex] at eg; cases eg
              | ok w e3 =>
                rw [ex] at eg
                dsimp only at eg
                cases ew : w.stay with
                | none => rw [ew] at eg; cases eg
                | some yd =>
                  rw [ew] at eg
                  dsimp only at eg
                  by_cases hlen : acc.length < LIM
                  · rw [if_pos hlen] at eg
                    refine ⟨_, e2, R5, ?_⟩
                    rw [ex]
                    intro yv H5 s5 R6 so6 hy
                    obtain ⟨hD5, hA5, s15⟩ := stay (e2 := e2) so5 s5 hD4 hA4 s14
                    have hyd := hy.1.stay ew
                    have ce6 : cells σ4 e3 (fun s => O s ∨ s = Da) = fun s => cells σ env1 O s ∨ s = Da := by
                      rw [cells_or]
                      unfold cells
                      rw [← (so5.trans so6).ownS σ4, own4]
                    rw [ce6] at hyd
                    refine ⟨xs, hD5, by rw [hA5.len]; exact Nat.lt_of_lt_of_le hlen (by rw [sizeLine_eq]; decide), ?_⟩
                    have inD : (fun s => cells σ env1 O s ∨ s = Da) Da := .inr rfl
                    have sU : SameC (fun s => s = Da) H5 (upd H5 Da (.lst (xs ++ [yv]))) := sameC_upd rfl True.intro ⟨_, hD5, True.intro⟩
                    refine again (so5.trans so6) ?_ ?_ upd_same ?_ eg
                    · -- only the new list changed
                      have wt2 : UbG.SameT (wo (cells σ4 e3 (fun s => O s ∨ s = Da)) H5) (wo (cells σ4 e3 (fun s => O s ∨ s = Da)) (upd H5 Da (.lst (xs ++ [yv])))) := (sU.sub fun a h => by rw [h]; exact .inr (.inr rfl)).wT
                      refine R6.back wt2 ((sU.sub fun a h => by rw [h]; exact .inr (.inr rfl)).clS R6.cl) sU.tab R6.out (SameO.refl _) (fun j s _ => Iff.rfl) fun j cj g => ?_
                      obtain ⟨a, h1, h2⟩ := R6.own j cj g
                      refine ⟨a, h1, h2.moveT wt2 fun o ho hc => ?_⟩
                      rw [upd_ne (show a ≠ Da from fun z => R6.out j cj a g h1 (.inr z))]
                      exact ho
                    · exact s15.into (S := fun s => s = Da) sU fun s hs => by rw [hs]; exact .inr nD
                    · rw [wo_upd inD]
                      exact hA5.snoc hyd
                  · rw [if_neg hlen] at eg
                    cases eg
      · refine .inl ⟨stop (by omega), ?_⟩
        have e : ds.drop i = [] := List.drop_eq_nil_of_le (by omega)
        rw [e] at eg
        unfold lcGo ret at eg
        cases eg
        have hl2 : env1.length = e'.length := (so_wipe hf).1.trans so2.1
        have soB : SameO env1 (backE env1 e' vs) := by
          refine ⟨hl2.trans (backE_len vs env1 e').symm, fun j => ?_⟩
          rw [backE_at hl2]
          by_cases m : j ∈ vs
          · rw [if_pos m]
          · rw [if_neg m]
            exact ((so_wipe hf).trans so2).2 j
        have ceB : cells σ (backE env1 e' vs) (fun s => O s ∨ s = Da) = fun s => cells σ env1 O s ∨ s = Da := by
          rw [cells_or]
          unfold cells
          rw [← soB.ownS]
        have wtB : UbG.SameT (wo (cells σ env1 O) H1) (wo (cells σ (backE env1 e' vs) (fun s => O s ∨ s = Da)) H2) := by
          rw [ceB]
          exact wT_ext (Ex := fun s => s = Da) s2 (fun a h => .inl h) fun a h => by rw [h]; exact nD
        obtain ⟨RB, _⟩ := R1.unwipe hf hx (relW' R2) so2 wtB
        refine P1 (.ref Da) H2 s2 (RB.less fun s h => .inl h) soB ⟨⟨Da, rfl, ?_, xs, hD, ?_⟩, fun a ea => by cases ea; exact nD, fun a ea => by cases ea; exact RB⟩
        · rw [← soB.cells]
          exact nDc
        · rw [← soB.cells]
          exact hA
  · exact P1.elim
end
end UbP

namespace UbP
open PySem PySem.Spec PyProof.Rows L2 UbM Ub
section
variable {X : Cx} {z : Z} {tg elt iter : Expr} {ifs : List Expr} {scope : Scope} {own : List (Str × Nat)} {pos p spos gpos : Pos} {fi : M (List D)} {tgt : Tg} {c : M Bool} {x : M Vw} {n : Str}
theorem pu_lc (hc : X.calm = true) (hN : X.N.Nodup) (hi : PI X tg iter (tI z fi)) (ok : BlkOk X.N X.env.scope scope own)
    (hg : ∀ (s : Shared) (H : Hp) (C : Addr) (cl : List (Str × Addr)) (fp : List Addr), PG (X.blk s H scope (compEnvC scope cl C X.env) fp) tg (gT z.K tgt)) (ht : ∀ (s : Shared) (H : Hp) (C : Addr) (cl : List (Str × Addr)) (fp : List Addr), PTs (X.blk s H scope (compEnvC scope cl C X.env) fp) ifs (tT z.quiet c))
    (he : ∀ (s : Shared) (H : Hp) (C : Addr) (cl : List (Str × Addr)) (fp : List Addr), PE (X.blk s H scope (compEnvC scope cl C X.env) fp) elt (tP z.quiet x)) (hv : ∀ j ∈ slots tgt, j ∈ own.map (·.2)) (hs : ∀ x, foldedSetIterable iter X.env x = pure x := by intro _; rfl) :
    PE X (.ListComp elt [⟨tg, iter, ifs, 0⟩] scope pos) (tP z (eLc fi tgt c x (own.map (·.2)))) := PE_imp (pe_lc hc hN hi ok hg ht he hs) fun σ H Q h => lc_read hv h
theorem pu_setLc {i : Nat} {py : Pos} (hc : X.calm = true) (hN : X.N.Nodup) (hy : X.N[i]? = some n) (hyl : X.env.scope.names.lookup n = some .local)
    (hsw : swapsWith (.ListComp elt [⟨tg, iter, ifs, 0⟩] scope pos) (some (.Name n py)) spos.line X.env = pure true) (hi : PI X tg iter (tI z fi)) (ok : BlkOk X.N X.env.scope scope own)
    (hg : ∀ (s : Shared) (H : Hp) (C : Addr) (cl : List (Str × Addr)) (fp : List Addr), PG (X.blk s H scope (compEnvC scope cl C X.env) fp) tg (gT z.K tgt)) (ht : ∀ (s : Shared) (H : Hp) (C : Addr) (cl : List (Str × Addr)) (fp : List Addr), PTs (X.blk s H scope (compEnvC scope cl C X.env) fp) ifs (tT z.quiet c))
    (he : ∀ (s : Shared) (H : Hp) (C : Addr) (cl : List (Str × Addr)) (fp : List Addr), PE (X.blk s H scope (compEnvC scope cl C X.env) fp) elt (tP z.quiet x)) (hv : ∀ j ∈ slots tgt, j ∈ own.map (·.2)) (hs : ∀ x, foldedSetIterable iter X.env x = pure x := by intro _; rfl) :
    PS X (.Assign [.Name n py] (.ListComp elt [⟨tg, iter, ifs, 0⟩] scope pos) spos) (tS z (sSet i (eLc fi tgt c x (own.map (·.2))))) := PS_imp (ps_setLc hc hN hy hyl hsw hi ok hg ht he hs) fun D σ H ⟨B, env, R, b, P⟩ =>
  lc_read hv (tG_mono (R1 := vE) (postS_bnd R b P) fun v H1 ⟨env1, w, R1, b1, s1, so1, hV, P1⟩ => by
    obtain ⟨d, e1, P2⟩ := postS_stay P1
    exact pu_sset.tsetP R1 b1 (hV.1.stay e1) P2)
theorem pu_ownLc {i : Nat} {py : Pos} (hc : X.calm = true) (hN : X.N.Nodup) (hy : X.N[i]? = some n) (hyl : X.env.scope.names.lookup n = some .local)
    (hsw : swapsWith (.ListComp elt [⟨tg, iter, ifs, 0⟩] scope pos) (some (.Name n py)) spos.line X.env = pure true) (hi : PI X tg iter (tI z fi)) (ok : BlkOk X.N X.env.scope scope own)
    (hg : ∀ (s : Shared) (H : Hp) (C : Addr) (cl : List (Str × Addr)) (fp : List Addr), PG (X.blk s H scope (compEnvC scope cl C X.env) fp) tg (gT z.K tgt)) (ht : ∀ (s : Shared) (H : Hp) (C : Addr) (cl : List (Str × Addr)) (fp : List Addr), PTs (X.blk s H scope (compEnvC scope cl C X.env) fp) ifs (tT z.quiet c))
    (he : ∀ (s : Shared) (H : Hp) (C : Addr) (cl : List (Str × Addr)) (fp : List Addr), PE (X.blk s H scope (compEnvC scope cl C X.env) fp) elt (tP z.quiet x)) (hv : ∀ j ∈ slots tgt, j ∈ own.map (·.2)) (hs : ∀ x, foldedSetIterable iter X.env x = pure x := by intro _; rfl) :
    PS X (.Assign [.Name n py] (.ListComp elt [⟨tg, iter, ifs, 0⟩] scope pos) spos) (tS z (sOwn i (eLc fi tgt c x (own.map (·.2))))) := PS_imp (ps_setLc hc hN hy hyl hsw hi ok hg ht he hs) fun D σ H ⟨B, env, R, b, P⟩ =>
  lc_read hv (tG_mono (R1 := vE) (postS_bnd0 R b P) fun v H1 ⟨env1, w, R1, b1, s1, so1, hV, P1⟩ => by
    cases w with
    | f c' => exact setOwn s1 so1 R1 b1 hV (fun a h => b.none h) P1
    | d _ => exact P1.elim
    | o _ => exact P1.elim)
end
/-! ### any, all -/
section
variable {z : Z} {σ : L2.St} {H : Hp} {Q : VK} {fi : M (List D)} {tg : Tg} {x : M Vw} {vs : List Nat} {P : Addr} {stopv : Bool}
theorem gx_read (hP : P ∈ z.Tb) (hvs : ∀ j ∈ slots tg, j ∈ vs) (h : tP z (eGx stopv fi tg x vs) σ H Q) : tI z fi σ H fun J H1 => GxR.TabG H1 P ∧ ∀ H2, GxR.Tabbed P H1 H2 → ∃ W : Nat → Nat → Hp → Prop, (∃ m, W 0 m H2) ∧ UbG.Turns J (gT z.K tg) (tP z.quiet x) vs (wipe σ vs) stopv (fun H' => Q (.bl stopv) H') (fun H' => Q (.bl !stopv) H') W := by
  obtain ⟨O, env, R, PP⟩ := h
  refine tG_mono (post_bnd bkE R PP) fun J H1 ⟨env1, ds, R1, s1, so1, hJ, P1⟩ => ⟨R1.tb P hP, fun H2 ht => ?_⟩
  split at P1
  · rename_i hfree
    obtain ⟨hf, hx⟩ := freeAt_light hfree
    have kt := kpTab (R1.tb P hP) ht
    cases er : gxGo stopv tg x vs ds (wipeE env1 vs) with
    | exc _ _ => rw [er] at P1; exact P1.elim
    | bad => rw [er] at P1; exact P1.elim
    | ok bb e' =>
      rw [er] at P1
      have fin : ∀ {H3 : Hp}, RelT z.quiet O H3 (wipe σ vs) e' → SameO (wipeE env1 vs) e' → SameC (ownS σ env1) H1 H3 → Q (.bl bb) H3 := fun {H3} R3 so s => by
        have hl2 : env1.length = e'.length := (so_wipe hf).1.trans so.1
        have soB : SameO env1 (backE env1 e' vs) := by
          refine ⟨hl2.trans (backE_len vs env1 e').symm, fun j => ?_⟩
          rw [backE_at hl2]
          by_cases m : j ∈ vs
          · rw [if_pos m]
          · rw [if_neg m]
            exact ((so_wipe hf).trans so).2 j
        have wtB : UbG.SameT (wo (cells σ env1 O) H1) (wo (cells σ (backE env1 e' vs) O) H3) := by
          rw [← soB.cells]
          exact (s.sub fun a h => .inl h).wT
        obtain ⟨RB, _⟩ := R1.unwipe hf hx (relW' R3) so wtB
        exact P1 (.bl bb) H3 s RB soB ⟨.bl _, True.intro, True.intro⟩
      refine ⟨fun i m H3 => m = ds.length - i ∧ i ≤ ds.length ∧ ∃ ei, gxGo stopv tg x vs (ds.drop i) ei = .ok bb e' ∧ RelT z.quiet O H3 (wipe σ vs) ei ∧ SameO (wipeE env1 vs) ei ∧ SameC (ownS σ env1) H1 H3, ⟨ds.length, by simp, Nat.zero_le _, wipeE env1 vs, er, relW ((R1.mono kt).wiped hf), SameO.refl _, Kp.C kt⟩, ?_⟩
      rintro i m H3 ⟨rfl, hi, ei, eg, R2, so2, s2⟩
      have owS : ∀ {e : Env}, SameO (wipeE env1 vs) e → ownS (wipe σ vs) e = ownS σ env1 := fun {e} so => by rw [← so.ownS, own_wipe hf]
      have wt : UbG.SameT (wo (cells σ env1 O) H1) (wo (cells (wipe σ vs) ei O) H3) := by
        have e : cells (wipe σ vs) ei O = cells σ env1 O := by unfold cells; rw [owS so2]
        rw [e]
        exact (s2.sub fun a h => .inl h).wT
      obtain ⟨go, stop, yld⟩ := hJ.at_ i _ H3 wt R2.cl
      by_cases hl : i < ds.length
      · refine .inr ⟨go hl, fun H' => ∃ ei, gxGo stopv tg x vs (ds.drop (i + 1)) ei = .ok bb e' ∧ RelT z.quiet O H' (wipe σ vs) ei ∧ SameO (wipeE env1 vs) ei ∧ SameC (ownS σ env1) H1 H', fun H' n => ⟨ds.length - (i + 1), by omega, rfl, hl, n⟩, fun v H4 y => ?_⟩
        obtain ⟨sm, d, ed, hd⟩ := yld v H4 hl y
        have R3 := R2.mono (kp sm)
        have s3 : SameC (ownS σ env1) H1 H4 := s2.trans (Kp.C (kp sm))
        rw [List.drop_eq_getElem_cons hl] at eg
        have ed' : ds[i] = d := by
          rw [List.getElem?_eq_getElem hl] at ed
          exact Option.some.inj ed
        rw [ed'] at eg
        unfold gxGo at eg
        cases ep : putT tg d ei with
        | none => rw [ep] at eg; cases eg
        | some e1 =>
          rw [ep] at eg
          dsimp only at eg
          obtain ⟨σ4, q, R4, C⟩ := putT_ok tg d v (wipe σ vs) ei e1 R3 ep hd
          have light0 : Light vs (wipeE env1 vs) := fun j m => ⟨.no, by rw [wipeE_at, if_pos m]; obtain ⟨s, h1, _⟩ := hf j m; rw [h1]; rfl, rfl⟩
          have lightI : Light vs ei := light0.so so2
          have light1 : SameO ei e1 := chg_so C fun j m => lightI j (hvs j m)
          have wσ : wipe σ4 vs = wipe σ vs := wipe_chg C hvs
          have own4 : ownS σ4 e1 = ownS σ env1 := by
            have h1 : ownS (wipe σ4 vs) (wipeE e1 vs) = ownS σ4 e1 := own_wipe (lightI.so light1)
            rw [← h1, wσ]
            exact owS ((so2.trans light1).trans (so_wipe (lightI.so light1)))
          refine q _ ⟨wσ, ?_⟩
          cases ex : x e1 with
          | exc _ _ => rw [ex] at eg; cases eg
          | bad => rw [ex] at eg; cases eg
          | ok w e3 =>
            refine ⟨_, e1, R4, ?_⟩
            rw [ex]
            intro yv H5 s5 R6 so6 hy
            rw [own4] at s5
            have le := (lightI.so light1).so so6
            have Rw := R6.wiped le
            rw [wσ] at Rw
            have soW : SameO (wipeE env1 vs) (wipeE e3 vs) := ((so2.trans light1).trans so6).trans (so_wipe le)
            rw [ex] at eg
            cases w with
            | o _ => cases eg
            | f _ => cases eg
            | d dd =>
              cases dd with
              | bl b =>
                have hyv : Dq z.K _ yv (.bl b) := hy.1
                cases hyv
                dsimp only at eg
                refine ⟨b, rfl, fun hb => ?_, fun hb => ?_⟩
                · rw [if_pos hb] at eg
                  cases eg
                  exact fin Rw soW (s3.trans s5)
                · rw [if_neg hb] at eg
                  exact ⟨_, eg, Rw, soW, s3.trans s5⟩
              | _ => cases eg
      · refine .inl ⟨stop (by omega), ?_⟩
        have e : ds.drop i = [] := List.drop_eq_nil_of_le (by omega)
        rw [e] at eg
        unfold gxGo ret at eg
        cases eg
        exact fin R2 so2 s2
  · exact P1.elim
variable {X : Cx} {c : Addr} {tge elt iter : Expr} {p pos gpos : Pos} {scope : Scope} {own : List (Str × Nat)} {k : Nat}
theorem pu_all (hP : P ∈ z.Tb) (hr : Room (k + 1) X.A) (hN : X.N.Nodup) (hg : Gl X "all") (hm : X.mg "all" = none) (TB : GxR.TabB X.base X.mg c P) (hcode : X.env.code = .ref c) (ok : UbG.GexOk X.N X.env.scope scope own) (hi : PI X tge iter (tI z fi))
    (hpe : ∀ (A : Around) (s : Shared) (H : Hp) (C : Addr) (code : Value) (fp : List Addr) (pn : List (Addr × Obj)), Room k A → let G := UbG.gex X A s H (genEnv scope (cloFrom X.env.cells scope.names []) C code builtinsNs X.env) fp pn
      PG G tge (gT z.K tg) ∧ PE G elt (tP z.quiet x)) (hv : ∀ j ∈ slots tg, j ∈ own.map (·.2))
    (hs : ∀ v, genFold iter X.env v = pure v := by intro _; rfl)
    (he : starEach [.GeneratorExp elt [⟨tge, iter, [], 0⟩] scope gpos] X.env = (false, eval (.GeneratorExp elt [⟨tge, iter, [], 0⟩] scope gpos) X.env) :: starEach [] X.env := by rfl) :
    PE X (.Call (.Name "all" p) [.GeneratorExp elt [⟨tge, iter, [], 0⟩] scope gpos] [] pos) (tP z (eGx false fi tg x (own.map (·.2)))) := PE_imp (UbG.pe_allG hr hN hg hm bb_all TB hcode ok hi hpe hs he) fun σ H Q h => gx_read hP hv h
theorem pu_any (hP : P ∈ z.Tb) (hr : Room (k + 1) X.A) (hN : X.N.Nodup) (hg : Gl X "any") (hm : X.mg "any" = none) (TB : GxR.TabB X.base X.mg c P) (hcode : X.env.code = .ref c) (ok : UbG.GexOk X.N X.env.scope scope own) (hi : PI X tge iter (tI z fi))
    (hpe : ∀ (A : Around) (s : Shared) (H : Hp) (C : Addr) (code : Value) (fp : List Addr) (pn : List (Addr × Obj)), Room k A → let G := UbG.gex X A s H (genEnv scope (cloFrom X.env.cells scope.names []) C code builtinsNs X.env) fp pn
      PG G tge (gT z.K tg) ∧ PE G elt (tP z.quiet x)) (hv : ∀ j ∈ slots tg, j ∈ own.map (·.2))
    (hs : ∀ v, genFold iter X.env v = pure v := by intro _; rfl)
    (he : starEach [.GeneratorExp elt [⟨tge, iter, [], 0⟩] scope gpos] X.env = (false, eval (.GeneratorExp elt [⟨tge, iter, [], 0⟩] scope gpos) X.env) :: starEach [] X.env := by rfl) :
    PE X (.Call (.Name "any" p) [.GeneratorExp elt [⟨tge, iter, [], 0⟩] scope gpos] [] pos) (tP z (eGx true fi tg x (own.map (·.2)))) := PE_imp (UbG.pe_anyG hr hN hg hm bb_any TB hcode ok hi hpe hs he) fun σ H Q h => gx_read hP hv h
end
/-! ### gcd -/
section
variable {X : Cx} {z : Z} {a b : Expr} {fa fb : M Vw} {pos p : Pos} {x : Str}
theorem pu_gcd (hm : X.mg x = some (.builtin "math.gcd")) (hg : Gl X x) (ha : PE X a (tP z fa)) (hb : PE X b (tP z fb)) (hdb : (x == ("__debug__" : Str)) = false := by decide)
    (hs : starEach [a, b] X.env = (false, eval a X.env) :: starEach [b] X.env := by rfl) (hs2 : starEach [b] X.env = (false, eval b X.env) :: starEach [] X.env := by rfl) (hpl : (backTo pos (starEach [b] X.env)).any (·.1) = false := by rfl) : PE X (.Call (.Name x p) [a, b] [] pos) (tP z (eB gcdD fa fb)) :=
  PE_imp (pe_callBfun cr_gcd hg hm (pa_cons ha (pa_cons hb pa_nil hs2) hs) hdb hs hpl) (pu_bin os_gcd)
end
section
variable {X : Cx} {z : Z} {a b : Expr} {fa fb : M Vw} {pos p : Pos} {x : Str}
def rLcm : List V → Hp → VK → Prop := fun vs H Q => ∃ a b : Int, vs = [.int a, .int b] ∧ (a.natAbs.log2 < 9000 ∧ b.natAbs.log2 < 9000) ∧ Q (.int ((Nat.lcm a.natAbs b.natAbs : Nat) : Int)) H
theorem cr_lcm : CallR X (.builtin "math.lcm") rLcm := by
  intro pins s σ H vs us Q I r h
  obtain ⟨a, b, rfl, ⟨h1, h2⟩, q⟩ := h
  obtain ⟨t, u, rfl⟩ := Vals.int2 r
  have e1 : Nat.lcm 1 a.natAbs = a.natAbs := PySem.W.mc_lcm_one _
  have mx : ∀ m n : Nat, m.log2 < 9000 → n.log2 < 9000 → (max m n).log2 < 9000 := fun m n hm hn => by
    rcases Nat.le_total m n with h | h
    · rw [Nat.max_eq_right h]; exact hn
    · rw [Nat.max_eq_left h]; exact hm
  have k1 : (max 1 a.natAbs).log2 < 9000 := mx _ _ (by decide) h1
  have k2 := mx _ _ h1 h2
  have lt : ∀ m : Nat, m.log2 < 9000 → m < 2 ^ 9000 := fun m h => by
    by_cases h0 : m = 0
    · rw [h0]; exact Nat.two_pow_pos _
    · exact (Nat.log2_lt h0).mp h
  have k3 : ((((Nat.lcm 1 a.natAbs).lcm b.natAbs : Nat) : Int)).natAbs.log2 < bitsLine := by
    rw [e1, Int.natAbs_natCast]
    have hle : a.natAbs.lcm b.natAbs < 2 ^ 18000 := by
      refine Nat.lt_of_le_of_lt (PySem.W.mc_lcm_le _ _) ?_
      rw [show 18000 = 9000 + 9000 from rfl, Nat.pow_add]
      exact Nat.mul_lt_mul'' (lt _ h1) (lt _ h2)
    by_cases h0 : a.natAbs.lcm b.natAbs = 0
    · rw [h0]; decide
    · have := (Nat.log2_lt h0).mpr hle
      exact Nat.lt_trans this (by decide)
  have g := PySem.W.mg_run_lcm a t b u (by omega) (by omega) k3
  refine call_function_meets PySem.W.MGF.kind_lcm PySem.W.MGF.plain_lcm PySem.W.MGF.entry_lcm (PySem.W.MGF.args_lcm _ _) g.meets ?_
  rw [e1]
  exact ⟨.int _, H, I.tok _, ⟨_, rfl⟩, q⟩
theorem pu_lcm (hm : X.mg x = some (.builtin "math.lcm")) (hg : Gl X x) (ha : PE X a (tP z fa)) (hb : PE X b (tP z fb)) (hdb : (x == ("__debug__" : Str)) = false := by decide)
    (hs : starEach [a, b] X.env = (false, eval a X.env) :: starEach [b] X.env := by rfl) (hs2 : starEach [b] X.env = (false, eval b X.env) :: starEach [] X.env := by rfl) (hpl : (backTo pos (starEach [b] X.env)).any (·.1) = false := by rfl) : PE X (.Call (.Name x p) [a, b] [] pos) (tP z (eB lcmD fa fb)) :=
  PE_imp (pe_callBfun cr_lcm hg hm (pa_cons ha (pa_cons hb pa_nil hs2) hs) hdb hs hpl) (pu_bin os_lcm)
end
theorem hok_okT {K : PySem.W.Frag} {f : Str} : ∀ (H : Hp) (vs : List V) (ds : List D), DqAll K H vs ds → UbP.okT ds = true → UbC.okT vs ∧ vs.length ≤ 1000 ∧ UbC.fl1 f vs = [f].zip vs := by
  intro H vs ds h k
  unfold UbP.okT at k
  split at k
  · rename_i y
    cases h with
    | cons h1 h2 =>
      cases h2
      cases h1
      exact ⟨⟨y, rfl, of_decide_eq_true k⟩, Nat.le_of_ble_eq_true rfl, rfl⟩
  · cases k
/-! ### the law's script -/
theorem law_start {K : PySem.W.Frag} {Tb : List Addr} {f : Fn} {H : Hp} {a : Addr} {ns : List Int} {Q : VK} {E : XK} (hT : ∀ P ∈ Tb, GxR.TabG H P) (hS : SqL K H a (ns.map V.int)) (hf : f [.dat (.lsf (ns.map D.int))] = .ret (.d (.bl true)) []) (q : ∀ H', Q (.bl true) H') : spF K Tb f 1 [.ref a] H Q E := by
  have no : ∀ s, ¬cells [some (V.ref a)] [Sl.dat (.lsf (ns.map D.int))] (fun _ => False) s := fun s h => by
    rcases h with ⟨i, c, g, _⟩ | h
    · rcases getO_cases g with q | q
      · cases i with
        | zero => cases q
        | succ i => simp at q
      · cases i with
        | zero => cases q
        | succ i => simp at q
    · exact h
  have ew : wo (cells [some (V.ref a)] [Sl.dat (.lsf (ns.map D.int))] (fun _ => False)) H = H := by
    funext b
    exact wo_out (no b)
  have all : ∀ ns : List Int, DqAll K H (ns.map V.int) (ns.map D.int) := fun ns => by
    induction ns with
    | nil => exact .nil
    | cons n ns ih => exact .cons (.int n) ih
  refine ⟨rfl, fun _ => False, [.dat (.lsf (ns.map D.int))], ⟨rfl, fun i d h => ?_, fun i c g => ?_, fun i j c c' b g => ?_, fun i c b g _ => id, fun i x h => ?_, fun s hs => absurd hs (no s), hT⟩, fun s hs => .inl ⟨_, List.mem_singleton.mp hs⟩, ?_⟩
  · cases i with
    | zero =>
      cases h
      refine ⟨.ref a, rfl, ?_⟩
      rw [show wo (cells ([V.ref a].map some) [Sl.dat (.lsf (ns.map D.int))] (fun _ => False)) H = H from ew]
      exact .lsf hS (all ns)
    | succ i => simp at h
  · rcases getO_cases g with q | q
    · cases i with
      | zero => cases q
      | succ i => simp at q
    · cases i with
      | zero => cases q
      | succ i => simp at q
  · rcases getO_cases g with q | q
    · cases i with
      | zero => cases q
      | succ i => simp at q
    · cases i with
      | zero => cases q
      | succ i => simp at q
  · cases i with
    | zero => cases h
    | succ i => simp at h
  · rw [hf]
    intro v H' _ _ hv _
    have hv : Dq K _ v (.bl true) := hv
    cases hv
    exact q H'
end UbP

namespace UbP
open PySem PySem.Spec PyProof.Rows L2 UbM Ub
/-! ### new objects -/
section
variable {z : Z} {O O' : SS} {σ : L2.St} {env e1 : Env} {H H1 H' : Hp} {a dx : Addr} {c x : Str} {k : Ct}
theorem get_app {i : Nat} {s : Sl} (h : i < env.length) : (env ++ [s])[i]? = env[i]? := List.getElem?_append_left h
theorem getO_appN {i : Nat} {s : Sl} (h : i < env.length) : getO i (env ++ [s]) = getO i env := by unfold getO; rw [get_app h]
theorem getO_lt {i : Nat} (h : getO i env = some k) : i < env.length := by
  rcases getO_cases h with g | g
  · exact (List.getElem?_eq_some_iff.mp g).1
  · exact (List.getElem?_eq_some_iff.mp g).1
theorem getO_end : getO env.length (env ++ [.own k]) = some k := by
  unfold getO
  rw [List.getElem?_append_right (Nat.le_refl _), Nat.sub_self]
  rfl
theorem ownS_app (hl : σ.length = env.length) : ownS (σ ++ [some (V.ref a)]) (env ++ [.own k]) = fun s => ownS σ env s ∨ s = a := by
  funext s
  refine propext ⟨fun ⟨i, c, g, e⟩ => ?_, fun h => ?_⟩
  · have hi := getO_lt g
    rw [List.length_append, List.length_singleton] at hi
    by_cases h : i < env.length
    · rw [getO_appN h] at g
      rw [List.getElem?_append_left (by omega)] at e
      exact .inl ⟨i, c, g, e⟩
    · have : i = σ.length := by omega
      rw [this, List.getElem?_append_right (Nat.le_refl _), Nat.sub_self] at e
      cases e
      exact .inr rfl
  · rcases h with ⟨i, c, g, e⟩ | rfl
    · have hi := getO_lt g
      exact ⟨i, c, by rw [getO_appN hi]; exact g, by rw [List.getElem?_append_left (by omega)]; exact e⟩
    · exact ⟨env.length, k, getO_end, by rw [← hl, List.getElem?_append_right (Nat.le_refl _), Nat.sub_self]; rfl⟩
theorem cells_app (hl : σ.length = env.length) : cells (σ ++ [some (V.ref a)]) (env ++ [.own k]) O = fun s => cells σ env O s ∨ s = a := by
  unfold cells
  rw [ownS_app hl]
  funext s
  exact propext ⟨fun h => h.elim (fun h => h.elim (fun h => .inl (.inl h)) .inr) fun h => .inl (.inr h), fun h => h.elim (fun h => h.elim (fun h => .inl (.inl h)) .inr) fun h => .inl (.inr h)⟩
/-- a new object is put behind the frame -/
theorem RelT.grow (W : WX) (R : RelT z O H σ env) (na : H a = none) (e : Same H H') (h : H' a = some (.ins (He.ga z.K x) dx [])) : RelT { z with W := W } O H' (σ ++ [some (V.ref a)]) (env ++ [.own (.o x [])]) := by
  have hl := R.len
  have ce : cells (σ ++ [some (V.ref a)]) (env ++ [.own (.o x [])]) O = fun s => cells σ env O s ∨ s = a := cells_app hl
  have wt : UbG.SameT (wo (cells σ env O) H) (wo (fun s => cells σ env O s ∨ s = a) H') := wT_ext (S := cells σ env O) (pS := fun _ => False) (Ex := fun s => s = a) (sameC e) (fun _ z => z.elim) (fun b hb => by rw [hb]; exact na)
  have no : ∀ b, cells σ env O b → b ≠ a := fun b hb z => by
    obtain ⟨o, h, _⟩ := R.cl b hb
    rw [z, na] at h
    cases h
  have atE : ∀ {i : Nat} {s : Sl}, (env ++ [.own (.o x [])])[i]? = some s → (i < env.length ∧ env[i]? = some s) ∨ (i = env.length ∧ s = .own (.o x [])) := fun {i s} h => by
    by_cases hi : i < env.length
    · rw [get_app hi] at h
      exact .inl ⟨hi, h⟩
    · rw [List.getElem?_append_right (by omega)] at h
      by_cases h0 : i - env.length = 0
      · rw [h0] at h
        cases h
        exact .inr ⟨by omega, rfl⟩
      · rw [List.getElem?_eq_none (by simp; omega)] at h
        cases h
  have atO : ∀ {i : Nat} {c : Ct}, getO i (env ++ [.own (.o x [])]) = some c → (i < env.length ∧ getO i env = some c) ∨ (i = env.length ∧ c = .o x []) := fun {i c} h => by
    have hi := getO_lt h
    rw [List.length_append, List.length_singleton] at hi
    by_cases h2 : i < env.length
    · rw [getO_appN h2] at h
      exact .inl ⟨h2, h⟩
    · have : i = env.length := by omega
      rw [this, getO_end] at h
      cases h
      exact .inr ⟨this, rfl⟩
  have σl : ∀ i, i < env.length → (σ ++ [some (V.ref a)])[i]? = σ[i]? := fun i hi => List.getElem?_append_left (by omega)
  have σe : (σ ++ [some (V.ref a)])[env.length]? = some (some (V.ref a)) := by rw [← hl, List.getElem?_append_right (Nat.le_refl _), Nat.sub_self]; rfl
  refine ⟨by rw [List.length_append, List.length_append, hl]; rfl, fun i d h => ?_, fun i c g => ?_, fun i j c c' b g g' h1 h2 => ?_, fun i c b g h1 hO => ?_, fun i x' h => ?_, fun s hs => ?_, fun P hP => UbG.TabG.mono e (R.tb P hP)⟩
  · rcases atE h with ⟨hi, h⟩ | ⟨_, h⟩
    · obtain ⟨v, h1, h2⟩ := R.dat i d h
      exact ⟨v, by rw [σl i hi]; exact h1, by rw [ce]; exact Dq.monoT wt _ _ h2⟩
    · cases h
  · rcases atO g with ⟨hi, g⟩ | ⟨rfl, rfl⟩
    · obtain ⟨b, h1, h2⟩ := R.own i c g
      refine ⟨b, by rw [σl i hi]; exact h1, ?_⟩
      rw [ce]
      exact h2.moveT wt fun o ho _ => e _ _ ho
    · exact ⟨a, σe, dx, [], h, .nil⟩
  · rcases atO g with ⟨hi, g⟩ | ⟨rfl, rfl⟩
    · rcases atO g' with ⟨hj, g'⟩ | ⟨rfl, rfl⟩
      · rw [σl i hi] at h1
        rw [σl j hj] at h2
        exact R.inj i j c c' b g g' h1 h2
      · rw [σe] at h2
        cases h2
        rw [σl i hi] at h1
        exact absurd rfl (no a (.inl ⟨i, c, g, h1⟩))
    · rcases atO g' with ⟨hj, g'⟩ | ⟨rfl, _⟩
      · rw [σe] at h1
        cases h1
        rw [σl j hj] at h2
        exact absurd rfl (no a (.inl ⟨j, c', g', h2⟩))
      · rfl
  · rcases atO g with ⟨hi, g⟩ | ⟨rfl, _⟩
    · rw [σl i hi] at h1
      exact R.out i c b g h1 hO
    · rw [σe] at h1
      cases h1
      exact no a (.inr hO) rfl
  · rcases atE h with ⟨hi, h⟩ | ⟨_, h⟩
    · obtain ⟨b, cls, d, h1, h2, h3, h4⟩ := R.ex i x' h
      refine ⟨b, cls, d, h1, by rw [σl i hi]; exact h2, h3, ?_⟩
      rw [ce]
      exact h4.imp id fun ⟨dx, vs, g1, g2, g3⟩ => ⟨dx, vs, g1, wt.but _ _ g2 (fun _ z => by cases z), Dq.monoTF wt _ _ g3⟩
    · cases h
  · rw [ce] at hs
    rcases hs with hs | hs
    · obtain ⟨o, h1, h2⟩ := R.cl s hs
      exact ⟨o, e _ _ h1, h2⟩
    · rw [hs]
      exact ⟨_, h, True.intro⟩
/-- .. and taken from there -/
theorem RelT.shrink (W : WX) (R : RelT z O H (σ ++ [some (V.ref a)]) (e1 ++ [.own k])) (hl : σ.length = e1.length) : RelT { z with W := W } (fun s => O s ∨ s = a) H σ e1 := by
  have ce : cells (σ ++ [some (V.ref a)]) (e1 ++ [.own k]) O = cells σ e1 (fun s => O s ∨ s = a) := by
    rw [cells_app hl]
    exact cells_or.symm
  have σl : ∀ i, i < e1.length → (σ ++ [some (V.ref a)])[i]? = σ[i]? := fun i hi => List.getElem?_append_left (by omega)
  have σe : (σ ++ [some (V.ref a)])[e1.length]? = some (some (V.ref a)) := by rw [← hl, List.getElem?_append_right (Nat.le_refl _), Nat.sub_self]; rfl
  have lt : ∀ {i : Nat} {s : Sl}, e1[i]? = some s → i < e1.length := fun h => (List.getElem?_eq_some_iff.mp h).1
  refine ⟨hl, fun i d h => ?_, fun i c g => ?_, fun i j c c' b g g' h1 h2 => ?_, fun i c b g h1 hO => ?_, fun i x' h => ?_, fun s hs => ?_, R.tb⟩
  · obtain ⟨v, h1, h2⟩ := R.dat i d (by rw [get_app (lt h)]; exact h)
    rw [σl i (lt h)] at h1
    rw [ce] at h2
    exact ⟨v, h1, h2⟩
  · obtain ⟨b, h1, h2⟩ := R.own i c (by rw [getO_appN (getO_lt g)]; exact g)
    rw [σl i (getO_lt g)] at h1
    rw [ce] at h2
    exact ⟨b, h1, h2⟩
  · exact R.inj i j c c' b (by rw [getO_appN (getO_lt g)]; exact g) (by rw [getO_appN (getO_lt g')]; exact g') (by rw [σl i (getO_lt g)]; exact h1) (by rw [σl j (getO_lt g')]; exact h2)
  · rcases hO with hO | hO
    · exact R.out i c b (by rw [getO_appN (getO_lt g)]; exact g) (by rw [σl i (getO_lt g)]; exact h1) hO
    · have := R.inj i e1.length c k b (by rw [getO_appN (getO_lt g)]; exact g) getO_end (by rw [σl i (getO_lt g)]; exact h1) (by rw [hO]; exact σe)
      have := getO_lt g
      omega
  · obtain ⟨b, cls, d, h1, h2, h3⟩ := R.ex i x' (by rw [get_app (lt h)]; exact h)
    rw [σl i (lt h)] at h2
    rw [ce] at h3
    exact ⟨b, cls, d, h1, h2, h3⟩
  · rw [← ce] at hs
    exact R.cl s hs
theorem RelT.lessN (R : RelT z O' H σ env) (i : ∀ s, O s → O' s) : RelT z O H σ env := by
  have sub : ∀ s, cells σ env O s → cells σ env O' s := fun s h => h.imp id (i s)
  refine ⟨R.len, fun j d h => ?_, fun j c g => ?_, R.inj, fun j c b g h hO => R.out j c b g h (i b hO), fun j x' h => ?_, fun s hs => R.cl s (sub s hs), R.tb⟩
  · obtain ⟨v, h1, h2⟩ := R.dat j d h
    exact ⟨v, h1, h2.mono (wo_sub sub)⟩
  · obtain ⟨b, h1, h2⟩ := R.own j c g
    exact ⟨b, h1, h2.sub sub⟩
  · obtain ⟨b, cls, d, h1, h2, h3, h4⟩ := R.ex j x' h
    exact ⟨b, cls, d, h1, h2, h3, h4.imp id fun ⟨dx, vs, g1, g2, g3⟩ => ⟨dx, vs, g1, wo_sub sub _ _ g2, g3.mono (wo_sub sub)⟩⟩
theorem SameC.new {S : SS} (e : Same H H1) (na : H a = none) (s : SameC (fun b => S b ∨ b = a) H1 H') : SameC S H H' := by
  refine ⟨fun b o nb h t => ?_, fun P h => s.tab P (UbG.TabG.mono e h), fun b hb ⟨o, h, hc⟩ => s.cl b (.inl hb) ⟨o, e _ _ h, hc⟩, fun b h => ?_⟩
  · refine s.but b o (fun h2 => ?_) (e _ _ h) t
    rcases h2 with h2 | h2
    · exact nb h2
    · rw [h2, na] at h
      cases h
  · cases g : H b with
    | none => rfl
    | some o =>
      have := s.dom b h
      rw [e _ _ g] at this
      cases this
end
section
variable {X : Cx} {z : Z} {e : Expr} {es : List Expr} {fs fks : List (M Vw)} {kws : List Keyword} {ks : List Str} {x : Str} {k j n N : Nat} {f : Fn} {ms : List Bool} {p pos kpos : Pos} {nm : Option Str} {fa : M Vw}
theorem pks_nil : PK X [] (tA z (eArgs [])) := ⟨fun pos pins s σ H Q I ⟨O, env, R, P⟩ => pk_nil.run pos pins s σ H Q I (P [] H (SameC.refl H) R (SameO.refl _) .nil)⟩
theorem pks_cons (ha : PE X e (tP z fa)) (hr : PK X kws (tA z (eArgs fs))) : PK X (⟨nm, e, kpos⟩ :: kws) (tA z (eArgs (fa :: fs))) := ⟨fun pos pins s σ H Q I ⟨O, env, R, P⟩ => (pk_cons ha hr).run pos pins s σ H Q I
  (tG_mono (post_bnd bkA R P) fun v H1 ⟨env1, w, R1, s1, so1, V, P1⟩ =>
  tG_mono (post_bnd bkA R1 P1) fun vs H2 ⟨env2, ws, R2, s2, so2, V2, P2⟩ => P2 (v :: vs) H2 (SameC.refl H2) R2 (SameO.refl _) (.cons (vmove s2 so2 V.1) V2))⟩
theorem Paired.app {α β : Type} {R : α → β → Prop} : ∀ {a c : List α} {b d : List β}, Paired R a b → Paired R c d → Paired R (a ++ c) (b ++ d)
  | _, _, _, _, .nil, h => h
  | _, _, _, _, .cons h t, k => .cons h (Paired.app t k)
theorem Paired.imp {α β : Type} {R R' : α → β → Prop} (i : ∀ a b, R a b → R' a b) : ∀ {a : List α} {b : List β}, Paired R a b → Paired R' a b
  | _, _, .nil => .nil
  | _, _, .cons h t => .cons (i _ _ h) (Paired.imp i t)
theorem take_app {α : Type} {l : List α} {n : Nat} {a : α} (hl : l.length = n + 1) (h : l[n]? = some a) : l = l.take n ++ [a] := by
  obtain ⟨h1, h2⟩ := List.getElem?_eq_some_iff.mp h
  rw [← h2, ← List.take_succ_eq_append_getElem h1, List.take_of_length_le (by omega)]
theorem pu_new (hK : X.K = z.K) (C : UbC.CalI X.prog X.w X.K X.mg X.base x k n ks (spF X.K z.Tb f N)) (hN : n + ks.length + 1 = N) (hf : fs.length = n) (hk : fks.length = ks.length) (hr : Room j X.A) (hj : k + 1 ≤ j) (hg : Gl X x) (tk : Takes X z.W)
    (ha : PA X (e :: es) (tA z (eArgs fs))) (hkw : PK X kws (tA z (eArgs fks)))
    (hall : (backToKw pos (keywordEach kws X.env)).all (·.1.isSome) = true := by rfl) (hks : (backToKw pos (keywordEach kws X.env)).filterMap (·.1) = ks := by rfl)
    (hdb : (x == ("__debug__" : Str)) = false := by decide) (he : starEach (e :: es) X.env = (false, eval e X.env) :: starEach es X.env := by rfl)
    (hpl : ((backTo pos (starEach (e :: es) X.env)).any (·.1) || (backToKw pos (keywordEach kws X.env)).any (·.1.isNone)) = false := by rfl) :
    PE X (.Call (.Name x p) (e :: es) kws pos) (tP z (eNew x f ms fs fks [])) := PE_imp (UbC.pe_newCS rfl C hr hj hg tk ha hkw hall hks hdb he hpl) fun σ H Q ⟨O, env, R, P⟩ =>
  tG_mono (post_args R P) fun vs H1 ⟨env1, ws, R1, s1, so1, V1, l1, P1⟩ =>
  tG_mono (post_args R1 P1) fun zs H2 ⟨env2, us, R2, s2, so2, V2, l2, P2⟩ => by
    refine ⟨by rw [l1, hf], by rw [l2, hk], fun a dx na nd hne => ?_⟩
    have e3 : Same H2 (upd (upd H2 dx (.own a)) a (.ins (He.ga X.K x) dx [])) := fun b o h => by
      rw [upd_ne (show b ≠ a from fun z => by rw [z, na] at h; cases h), upd_ne (show b ≠ dx from fun z => by rw [z, nd] at h; cases h)]
      exact h
    have h3 : upd (upd H2 dx (.own a)) a (.ins (He.ga X.K x) dx []) a = some (.ins (He.ga z.K x) dx []) := by rw [upd_same, hK]
    generalize upd (upd H2 dx (.own a)) a (.ins (He.ga X.K x) dx []) = H3 at e3 h3 ⊢
    have R3 := R2.grow (fun cls d _ H => z.W cls d σ H) na e3 h3
    have hl := R2.len
    have ce : cells (σ ++ [some (V.ref a)]) (env2 ++ [.own (.o x [])]) O = fun s => cells σ env2 O s ∨ s = a := cells_app hl
    have wt : UbG.SameT (wo (cells σ env2 O) H2) (wo (fun s => cells σ env2 O s ∨ s = a) H3) := wT_ext (S := cells σ env2 O) (pS := fun _ => False) (Ex := fun s => s = a) (sameC e3) (fun _ z => z.elim) (fun b hb => by rw [hb]; exact na)
    have VV : Paired (VRel z.K (cells (σ ++ [some (V.ref a)]) (env2 ++ [.own (.o x [])]) O) (σ ++ [some (V.ref a)]) H3) (.ref a :: (vs ++ zs)) (.o env2.length :: (ws ++ us)) := by
      refine .cons ?_ (Paired.imp (fun v w h => ?_) (Paired.app (paired_move s2 so2 V1) V2))
      · show (σ ++ [some (V.ref a)])[env2.length]? = some (some (V.ref a))
        rw [← hl, List.getElem?_append_right (Nat.le_refl _), Nat.sub_self]
        rfl
      · rw [ce]
        cases w with
        | d y => exact Dq.monoT wt _ _ h
        | o i =>
          have h : σ[i]? = some (some v) := h
          show (σ ++ [some (V.ref a)])[i]? = some (some v)
          rw [List.getElem?_append_left (List.getElem?_eq_some_iff.mp h).1]
          exact h
        | f c =>
          obtain ⟨b, ev, nb, hc⟩ := h
          obtain ⟨o, ho, _⟩ := hc.isC
          have hba : b ≠ a := fun z => by rw [z, na] at ho; cases ho
          refine ⟨b, ev, fun h => h.elim nb hba, ?_⟩
          have wt2 : UbG.SameT (wo (fun s => cells σ env2 O s ∨ s = b) H2) (wo (fun s => (cells σ env2 O s ∨ s = b) ∨ s = a) H3) := wT_ext (pS := fun _ => False) (Ex := fun s => s = a) (sameC e3) (fun _ z => z.elim) (fun c hc => by rw [hc]; exact na)
          have e4 : (fun s => (cells σ env2 O s ∨ s = b) ∨ s = a) = fun s => (cells σ env2 O s ∨ s = a) ∨ s = b := by
            funext s
            exact propext ⟨fun h => h.elim (fun h => h.elim (fun h => .inl (.inl h)) .inr) fun h => .inl (.inr h), fun h => h.elim (fun h => h.elim (fun h => .inl (.inl h)) .inr) fun h => .inl (.inr h)⟩
          rw [e4] at wt2
          exact hc.moveT wt2 fun o ho _ => e3 _ _ ho
    have len3 : (.ref a :: (vs ++ zs)).length + ([] : List V).length = N := by
      rw [List.length_cons, List.length_append, l1, l2, hf, hk, List.length_nil]
      omega
    have goal := call_core (z := { z with W := fun cls d _ H => z.W cls d σ H }) (f := f) (ms := true :: ms) (dv := []) (dvs := []) (n := N) (Q := fun v H4 => v = .non ∧ Q (.ref a) H4) (fun _ _ => .nil) len3 R3 VV ?_
    · rw [List.append_nil] at goal
      rw [hK]
      exact goal
    · unfold newB at P2
      have lenE : ∀ {e' : Env}, SameO (env2 ++ [.own (.o x [])]) e' → e'.length = env2.length + 1 := fun so => by
        rw [← so.1, List.length_append]; rfl
      have soT : ∀ {e' : Env} {k : Ct}, SameO (env2 ++ [.own (.o x [])]) e' → e'[env2.length]? = some (.own k) → SameO env2 (e'.take env2.length) := fun {e' k} so hk => by
        refine ⟨by rw [List.length_take, lenE so]; omega, fun i => ?_⟩
        by_cases hi : i < env2.length
        · have := so.2 i
          rw [get_app hi] at this
          rw [this, List.getElem?_take, if_pos hi]
        · rw [List.getElem?_eq_none (by omega), List.getElem?_eq_none (by rw [List.length_take, lenE so]; omega)]
      have own3 : ownS (σ ++ [some (V.ref a)]) (env2 ++ [.own (.o x [])]) = fun s => ownS σ env2 s ∨ s = a := ownS_app hl
      cases ec : callB f (true :: ms) [] (.o env2.length :: (ws ++ us)) (env2 ++ [.own (.o x [])]) with
      | bad => rw [ec] at P2; exact P2.elim
      | exc y e' =>
        rw [ec] at P2
        intro cls d H4 s4 R4 so4 X4
        rw [own3] at s4
        obtain ⟨k', hk'⟩ : ∃ k', e'[env2.length]? = some (.own k') := by
          have := so4.2 env2.length
          rw [List.getElem?_append_right (Nat.le_refl _), Nat.sub_self] at this
          cases g : e'[env2.length]? with
          | none => rw [g] at this; cases this
          | some s =>
            rw [g] at this
            cases s with
            | own k' => exact ⟨k', rfl⟩
            | _ => cases this
        have et := take_app (lenE so4) hk'
        have hl4 : σ.length = (e'.take env2.length).length := by rw [List.length_take, lenE so4, hl]; omega
        rw [et] at R4 X4
        have R5 := R4.shrink z.W hl4
        refine P2 cls d H4 (SameC.new e3 na s4) (R5.lessN fun s h => .inl h) (soT so4 hk') ?_
        have sub : ∀ s, cells σ (e'.take env2.length) O s → cells (σ ++ [some (V.ref a)]) (e'.take env2.length ++ [.own k']) O s := fun s h => by rw [cells_app hl4]; exact .inl h
        exact ⟨X4.1, X4.2.imp id fun ⟨dx, vs, g1, g2, g3⟩ => ⟨dx, vs, g1, wo_sub sub _ _ g2, g3.mono (wo_sub sub)⟩⟩
      | ok w e' =>
        rw [ec] at P2
        cases w with
        | o i => exact P2.elim
        | f c => exact P2.elim
        | d y =>
          cases y with
          | non =>
            dsimp only at P2
            intro v H4 s4 R4 so4 V4
            have hv : Dq z.K _ v .non := V4.1
            cases hv
            refine ⟨rfl, ?_⟩
            rw [own3] at s4
            cases hk' : e'[env2.length]? with
            | none => rw [hk'] at P2; exact P2.elim
            | some s =>
              rw [hk'] at P2
              cases s with
              | own k' =>
                have et := take_app (lenE so4) hk'
                have hl4 : σ.length = (e'.take env2.length).length := by rw [List.length_take, lenE so4, hl]; omega
                rw [et] at R4
                have R5 := R4.shrink z.W hl4
                refine P2 (.ref a) H4 (SameC.new e3 na s4) (R5.lessN fun s h => .inl h) (soT so4 hk') ⟨⟨a, rfl, fun h => ?_, ?_⟩, fun b eb => by cases eb; exact na, fun b eb => by cases eb; exact R5⟩
                · rw [← (soT so4 hk').cells σ O] at h
                  obtain ⟨o, ho, _⟩ := R2.cl a h
                  rw [na] at ho
                  cases ho
                · obtain ⟨b, h1, h2⟩ := R4.own (e'.take env2.length).length k' getO_end
                  rw [← hl4, List.getElem?_append_right (Nat.le_refl _), Nat.sub_self] at h1
                  cases h1
                  rw [cells_app hl4] at h2
                  exact h2
              | _ => exact P2.elim
          | _ => exact P2.elim
end
/-! ### o.f = v -/
theorem DqF.putF {K : PySem.W.Frag} {H : Hp} {f : Str} {v : V} {d : D} (hv : Dq K H v d) : ∀ {ws : List (Str × V)} {fs : List (Str × D)}, DqF K H ws fs → DqF K H (L2.putF f v ws) (putFD f d fs)
  | _, _, .nil => .cons hv .nil
  | _, _, .cons (x := x) h t => by
    unfold L2.putF putFD
    by_cases e : x = f
    · rw [if_pos e, if_pos e]; exact .cons hv t
    · rw [if_neg e, if_neg e]; exact .cons h (DqF.putF hv t)
theorem DqF.lenF {K : PySem.W.Frag} {H : Hp} : ∀ {ws : List (Str × V)} {fs : List (Str × D)}, DqF K H ws fs → ws.length = fs.length
  | _, _, .nil => rfl
  | _, _, .cons _ t => congrArg Nat.succ (DqF.lenF t)
section
variable {X : Cx} {z : Z} {o value : Expr} {fo fv : M Vw} {f : Str} {cs : List Str} {pos pos' : Pos}
theorem pu_sfld (hK : X.K = z.K) (hc : ∀ c ∈ cs, FldC z.K f c) (ho : PE X o (tP z fo)) (hv : PE X value (tP z fv)) (hs : swapsWith value (some (.Attribute o f pos')) pos.line X.env = pure false := by rfl) : PS X (.Assign [.Attribute o f pos'] value pos) (tS z (sFld cs f fo fv)) := PS_imp (ps_fld ho hv hs) fun D σ H ⟨B, env, R, b, P⟩ =>
  tG_mono (postS_bnd R b P) fun v H1 ⟨env1, w, R1, b1, s1, so1, hV, P1⟩ =>
  tG_mono (postS_bnd R1 b1 P1) fun u H2 ⟨env2, w2, R2, b2, s2, so2, hV2, P2⟩ => by
    obtain ⟨k, e1, P4⟩ := postS_opt P2
    obtain ⟨d, e2, P5⟩ := postS_stay P4
    have hv := (vmove s2 so2 hV.1).stay e2
    unfold bnd ownO at P5
    cases g : getO k env2 with
    | none => rw [g] at P5; exact P5.elim
    | some c =>
      rw [g] at P5
      cases c with
      | l ds => exact P5.elim
      | o c fs =>
        dsimp only at P5
        split at P5
        · rename_i hcs
          cases w2 with
          | o k' =>
            cases e1
            obtain ⟨a, h1, h2⟩ := R2.own _ _ g
            have V1 : σ[k]? = some (some u) := hV2.1
            rw [h1] at V1
            cases V1
            obtain ⟨dx, vs, g1, g2⟩ := h2
            have hf := hc c (List.contains_iff_mem.mp hcs.1)
            rw [hK]
            refine ⟨a, _, dx, vs, rfl, g1, hf.cl, hf.na, by rw [g2.lenF]; exact hcs.2, ?_⟩
            obtain ⟨R3, s3, so3⟩ := R2.put (c' := .o c (putFD f d fs)) (o := .ins (He.ga z.K c) dx (L2.putF f v vs)) g h1 True.intro ⟨dx, _, upd_same, by rw [wo_upd (.inl ⟨k, _, g, h1⟩)]; exact g2.putF hv⟩
            exact P5 σ _ R3 (b2.step s3 so3) (stp_expr s3 so3)
          | d x => cases e1
          | f c => cases e1
        · exact P5.elim
end
/-! ### zip of three -/
section
variable {K : PySem.W.Frag} {S : SS} {H : Hp} {a b c : Addr} {xs ys zs : List V} {ds es fs : List D}
theorem it_zip3 (h1 : SqL K (wo S H) a xs) (h2 : DqAll K (wo S H) xs ds) (g1 : SqL K (wo S H) b ys) (g2 : DqAll K (wo S H) ys es) (k1 : SqL K (wo S H) c zs) (k2 : DqAll K (wo S H) zs fs) : ItOk K S H (UbZ.It3 K a b c) (zip3 ds es fs) := ⟨fun i S' H' e cc => by
  have hl := h2.len
  have gl := g2.len
  have kl := k2.len
  have q := sq_move h1 e
  have q' := sq_move g1 e
  have q'' := sq_move k1 e
  unfold zip3
  rw [List.length_zipWith, List.length_zip]
  refine ⟨fun hi => ⟨xs, ys, zs, xs[i]'(by omega), ys[i]'(by omega), zs[i]'(by omega), q, q', q'', List.getElem?_eq_getElem _, List.getElem?_eq_getElem _, List.getElem?_eq_getElem _⟩, fun hi => ⟨xs, ys, zs, q, q', q'', by omega⟩, fun x H'' hi y => ?_⟩
  obtain ⟨T, x1, y1, z1, rfl, nT, rfl, f1, f2, f3⟩ := y
  obtain ⟨d, e1, e2⟩ := h2.at (f1 xs q)
  obtain ⟨d', e3, e4⟩ := g2.at (f2 ys q')
  obtain ⟨d'', e5, e6⟩ := k2.at (f3 zs q'')
  refine ⟨sameNew nT, .tup [d, d', d''], by rw [List.getElem?_zipWith, e1, show (es.zip fs)[i]? = some (d', d'') from List.getElem?_zip_eq_some.mpr ⟨e3, e5⟩], ?_⟩
  rw [wo_new (cc.new nT)]
  exact .tup (.inl (.inl upd_same)) (.cons ((Dq.monoT e _ _ e2).mono (sameNew (wo_none nT))) (.cons ((Dq.monoT e _ _ e4).mono (sameNew (wo_none nT))) (.cons ((Dq.monoT e _ _ e6).mono (sameNew (wo_none nT))) .nil)))⟩
end
section
variable {X : Cx} {z : Z} {e e2 e3 : Expr} {fa fb fc : M Vw} {p pos tpos : Pos} {elts : List Expr} {kk : Nat}
theorem pu_iZ3 (hK : X.K = z.K) (hg : Gl X "zip") (hm : X.mg "zip" = none) (ha : PE X e (tP z fa)) (hb : PE X e2 (tP z fb)) (hc : PE X e3 (tP z fc))
    (hs : starEach [e, e2, e3] X.env = (false, eval e X.env) :: starEach [e2, e3] X.env := by rfl) (hs2 : starEach [e2, e3] X.env = (false, eval e2 X.env) :: starEach [e3] X.env := by rfl) (hs3 : starEach [e3] X.env = (false, eval e3 X.env) :: starEach [] X.env := by rfl)
    (hpl : (backTo pos (starEach [e2, e3] X.env)).any (·.1) = false := by rfl) : PI X (.Tuple elts kk tpos) (.Call (.Name "zip" p) [e, e2, e3] [] pos) (tI z (iZ3 fa fb fc)) := PI_imp (UbZ.pi_zip3 hg hm (pa_cons ha (pa_cons hb (pa_cons hc pa_nil hs3) hs2) hs) hs hpl) fun σ H R ⟨O, env, RT, P⟩ =>
  tG_mono (post_bnd bkI RT P) fun v H1 ⟨env1, w, R1, s1, so1, V, P1⟩ =>
  tG_mono (post_bnd bkI R1 P1) fun u H2 ⟨env2, w2, R2, s2, so2, V2, P2⟩ =>
  tG_mono (post_bnd bkI R2 P2) fun t H3 ⟨env3, w3, R3, s3, so3, V3, P3⟩ => by
    obtain ⟨d, e1, P4⟩ := post_stay P3
    obtain ⟨d2, e2, P5⟩ := post_stay P4
    obtain ⟨d3, e3, P6⟩ := post_stay P5
    obtain ⟨ds, e4, P7⟩ := post_opt P6
    obtain ⟨es, e5, P8⟩ := post_opt P7
    obtain ⟨fs, e6, P9⟩ := post_opt P8
    obtain ⟨a, xs, rfl, h1, h2⟩ := sq_of ((vmove s3 so3 (vmove s2 so2 V.1)).stay e1) e4
    obtain ⟨b, ys, rfl, g1, g2⟩ := sq_of ((vmove s3 so3 V2.1).stay e2) e5
    obtain ⟨c, zs, rfl, k1, k2⟩ := sq_of (V3.1.stay e3) e6
    rw [hK]
    exact ⟨a, b, c, xs, ys, zs, rfl, Same.seq wo_same h1, Same.seq wo_same g1, Same.seq wo_same k1, P9 _ H3 (SameC.refl _) R3 (SameO.refl _) (it_zip3 h1 h2 g1 g2 k1 k2)⟩
end
end UbP

/-! Own layer: what a plain function does, by conditions carried backwards. -/
namespace UbP
open PySem
section
variable {α β : Type}
def sat (r : Res α) (P : α → Env → Prop) (E : Ex → Env → Prop) : Prop := match r with
  | .ok a e => P a e
  | .exc x e => E x e
  | .bad => False
@[irreducible] def fsat (r : FRes) (P : Vw → List Ct → Prop) (E : Ex → List Ct → Prop) : Prop := match r with
  | .ret w cs => P w cs
  | .exc x cs => E x cs
  | .bad => False
theorem sat_congr {r r' : Res α} {P : α → Env → Prop} {E : Ex → Env → Prop} (h : r = r') : sat r P E = sat r' P E := by rw [h]
theorem fsat_congr {r r' : FRes} {P : Vw → List Ct → Prop} {E : Ex → List Ct → Prop} (h : r = r') : fsat r P E = fsat r' P E := by rw [h]
variable {P P' : α → Env → Prop} {E E' : Ex → Env → Prop} {e e' : Env} {a : α}
theorem sat_mono {r : Res α} (h : sat r P E) (i : ∀ a e, P a e → P' a e) (j : ∀ x e, E x e → E' x e) : sat r P' E' := by
  cases r with
  | ok a e => exact i _ _ h
  | exc x e => exact j _ _ h
  | bad => exact h
theorem fsat_mono {r : FRes} {P P' : Vw → List Ct → Prop} {E E' : Ex → List Ct → Prop} (h : fsat r P E) (i : ∀ a e, P a e → P' a e) (j : ∀ x e, E x e → E' x e) : fsat r P' E' := by
  with_unfolding_all
      cases r with
      | ret w cs => exact i _ _ h
      | exc x e => exact j _ _ h
      | bad => exact h
theorem fsat_eq {r : FRes} {w : Vw} {cs : List Ct} (h : fsat r (fun v c => v = w ∧ c = cs) fun _ _ => False) : r = .ret w cs := by
  with_unfolding_all
      cases r with
      | ret v c => obtain ⟨rfl, rfl⟩ := (show v = w ∧ c = cs from h); rfl
      | exc x e => exact h.elim
      | bad => exact h.elim
theorem fsat_exc {r : FRes} {x : Ex} {cs : List Ct} (h : fsat r (fun _ _ => False) fun v c => v = x ∧ c = cs) : r = .exc x cs := by
  with_unfolding_all
      cases r with
      | exc v c => obtain ⟨rfl, rfl⟩ := (show v = x ∧ c = cs from h); rfl
      | ret x e => exact h.elim
      | bad => exact h.elim
theorem sat_ok : sat (.ok a e) P E = P a e := rfl
theorem sat_exc {x : Ex} : sat (.exc x e : Res α) P E = E x e := rfl
theorem fsat_ret {P : Vw → List Ct → Prop} {E : Ex → List Ct → Prop} {w : Vw} {cs : List Ct} : fsat (.ret w cs) P E = P w cs := by with_unfolding_all exact rfl
theorem fsat_ex {P : Vw → List Ct → Prop} {E : Ex → List Ct → Prop} {w : Ex} {cs : List Ct} : fsat (.exc w cs) P E = E w cs := by with_unfolding_all exact rfl
theorem sat_ret : sat (ret a e) P E = P a e := rfl
theorem sat_bnd {m : M α} {k : α → M β} {P : β → Env → Prop} : sat (bnd m k e) P E = sat (m e) (fun a e' => sat (k a e') P E) E := by
  unfold bnd
  cases m e with
  | ok a e1 => rfl
  | exc x e1 => rfl
  | bad => rfl
theorem sat_optS {a : α} : sat (optM (some a) e) P E = P a e := rfl
theorem sat_optN : sat (optM (none : Option α) e) P E = False := rfl
theorem sat_optI {c : Prop} [Decidable c] {o : Option α} : sat (optM (if c then o else none) e) P E = (c ∧ sat (optM o e) P E) := by
  by_cases h : c
  · rw [if_pos h]; exact propext ⟨fun z => ⟨h, z⟩, fun z => z.2⟩
  · rw [if_neg h]; exact propext ⟨fun z => z.elim, fun z => h z.1⟩
theorem sat_optMap {o : Option β} {f : β → α} : sat (optM (o.map f) e) P E = sat (optM o e) (fun b e => P (f b) e) E := by cases o <;> rfl
theorem sat_optBind {o : Option β} {f : β → Option α} : sat (optM (o.bind f) e) P E = sat (optM o e) (fun b e => sat (optM (f b) e) P E) E := by cases o <;> rfl
theorem sat_iteB {k : Bool} {m n : M α} : sat ((if k = true then m else n) e) P E = ((k = true → sat (m e) P E) ∧ (k = false → sat (n e) P E)) := by
  cases k
  · exact propext ⟨fun h => ⟨fun z => by simp at z, fun _ => h⟩, fun h => h.2 rfl⟩
  · exact propext ⟨fun h => ⟨fun _ => h, fun z => by simp at z⟩, fun h => h.1 rfl⟩
theorem sat_iteM {c : Prop} [Decidable c] {m n : M α} : sat ((if c then m else n) e) P E = if c then sat (m e) P E else sat (n e) P E := by split <;> rfl
theorem sat_now_d {d : D} {P : D → Env → Prop} : sat (nowM (.d d) e) P E = P d e := rfl
theorem sat_now_f {c : Ct} {P : D → Env → Prop} : sat (nowM (.f c) e) P E = P c.toD e := rfl
theorem sat_stay_d {d : D} {P : D → Env → Prop} : sat (stayM (.d d) e) P E = P d e := rfl
theorem sat_stay_f {c : Ct} {P : D → Env → Prop} : sat (stayM (.f c) e) P E = P c.toD e := rfl
/-- a slot's reading -/
def rdS (i : Nat) : Option Sl → Option Vw
  | some (.dat d) => some (.d d)
  | some (.own _) => some (.o i)
  | some (.par _) => some (.o i)
  | _ => none
theorem eV_eq {i : Nat} : eV i e = match rdS i e[i]? with | some w => .ok w e | none => .bad := by
  unfold eV
  cases h : e[i]? with
  | none => rfl
  | some s => cases s <;> rfl
theorem sat_eV {i : Nat} {P : Vw → Env → Prop} : sat (eV i e) P E = match rdS i e[i]? with | some w => P w e | none => False := by
  rw [eV_eq]
  cases rdS i e[i]? <;> rfl
end
theorem sat_callB {f : Fn} {ms : List Bool} {dv : List D} {ws : List Vw} {e : Env} {P : Vw → Env → Prop} {E : Ex → Env → Prop} : sat (callB f ms dv ws e) P E = match mkArgs ms ws e with
    | none => False
    | some args => nodup (ownIx ms ws ++ lookIx ms ws) = true ∧ fsat (f (args ++ dv.map .dat))
      (fun w cs => passOk (lookIx ms ws) w cs = true ∧ match putBack ms ws cs e with | some e' => P w e' | none => False)
      (fun x cs => (lookIx ms ws).isEmpty = true ∧ match putBack ms ws cs e with | some e' => E x e' | none => False) := by
  with_unfolding_all
      unfold callB
      cases mkArgs ms ws e with
      | none => rfl
      | some args =>
        by_cases hn : nodup (ownIx ms ws ++ lookIx ms ws) = true
        · simp only [hn, if_true, true_and]
          cases f (args ++ dv.map .dat) with
          | ret w cs =>
            by_cases hp : passOk (lookIx ms ws) w cs = true
            · simp only [hp, if_true, fsat, true_and]
              cases putBack ms ws cs e <;> rfl
            · simp [hp, fsat, sat]
          | exc x cs =>
            by_cases hp : (lookIx ms ws).isEmpty = true
            · simp only [hp, if_true, fsat, true_and]
              cases putBack ms ws cs e <;> rfl
            · have hp : (lookIx ms ws).isEmpty = false := by simpa using hp
              simp [hp, fsat, sat]
          | bad => rfl
        · have hn : nodup (ownIx ms ws ++ lookIx ms ws) = false := by simpa using hn
          simp [hn, sat]
theorem fsat_run {k : Nat} {b : M Fl} {args : List Sl} {P : Vw → List Ct → Prop} {E : Ex → List Ct → Prop} : fsat (run k b args) P E = sat (b (args ++ List.replicate k .no))
    (fun f e => match f with
      | .nx => P (.d .non) (pars e)
      | .rt (.d d) => P (.d d) (pars e)
      | .rt (.f c) => P (.f c) (pars e)
      | _ => False)
    (fun x e => E x (pars e)) := by
  with_unfolding_all
      unfold run
      cases b (args ++ List.replicate k .no) with
      | ok f e =>
        cases f with
        | nx => rfl
        | rt w => cases w <;> rfl
        | bk => rfl
        | ct => rfl
      | exc x e => rfl
      | bad => rfl
theorem sat_sSeq {a b : M Fl} {e : Env} {P : Fl → Env → Prop} {E : Ex → Env → Prop} : sat (sSeq a b e) P E = sat (a e) (fun f e' => match f with
    | .nx => sat (b e') P E
    | f => P f e') E := by
  unfold sSeq
  rw [sat_bnd]
  congr
  funext f e1
  cases f <;> rfl
theorem sat_sRet {a : M Vw} {e : Env} {P : Fl → Env → Prop} {E : Ex → Env → Prop} : sat (sRet a e) P E = sat (a e) (fun w e => match w with
    | .d d => P (.rt (.d d)) e
    | .f c => P (.rt (.f c)) e
    | .o i => match e[i]? with
      | some (.own c) => P (.rt (.f c)) (e.set i .no)
      | _ => False) E := by
  unfold sRet
  rw [sat_bnd]
  congr
  funext w e1
  cases w with
  | o i =>
    show sat (match e1[i]? with | some (.own c) => Res.ok (Fl.rt (.f c)) (e1.set i .no) | _ => Res.bad) P E = (match e1[i]? with | some (.own c) => P (.rt (.f c)) (e1.set i .no) | _ => False)
    cases e1[i]? with
    | none => rfl
    | some s => cases s <;> rfl
  | _ => rfl
theorem sat_putM {tg : Tg} {d : D} {e : Env} {P : Fl → Env → Prop} {E : Ex → Env → Prop} : sat (putM tg d e) P E = match putT tg d e with | some e' => P .nx e' | none => False := by
  unfold putM
  cases putT tg d e <;> rfl
theorem sat_frz {i : Nat} {b : M Fl} {e : Env} {P : Fl → Env → Prop} {E : Ex → Env → Prop} : sat (frz i b e) P E = match frzE i e with | some e' => sat (b e') P E | none => False := by
  unfold frz
  cases frzE i e <;> rfl
/-- one turn of a loop: the target, then the body -/
def turn (tg : Tg) (d : D) (b : M Fl) : M Fl := fun e => match putT tg d e with
  | none => .bad
  | some e1 => b e1
theorem sat_turn {tg : Tg} {d : D} {b : M Fl} {e : Env} {P : Fl → Env → Prop} {E : Ex → Env → Prop} : sat (turn tg d b e) P E = match putT tg d e with | some e1 => sat (b e1) P E | none => False := by
  unfold turn
  cases putT tg d e <;> rfl
/-- the flow behind one turn -/
def goOn (N : Env → Prop) (P : Fl → Env → Prop) : Fl → Env → Prop
  | .nx, e => N e
  | .ct, e => N e
  | .bk, e => P .nx e
  | .rt w, e => P (.rt w) e
theorem sat_forL {α : Type} {tg : Tg} {b : M Fl} {g : α → D} {P : Fl → Env → Prop} {E : Ex → Env → Prop} {e : Env} {xs : List α} (I : List α → Env → Prop) (h0 : I [] e)
    (hs : ∀ pre x post e, xs = pre ++ x :: post → I pre e → sat (turn tg (g x) b e) (goOn (I (pre ++ [x])) P) E) (he : ∀ e, I xs e → P .nx e) : sat (forL tg b (xs.map g) e) P E := by
  have go : ∀ (post pre : List α) (e : Env), xs = pre ++ post → I pre e → sat (forL tg b (post.map g) e) P E := by
    intro post
    induction post with
    | nil =>
      intro pre e hx hi
      rw [List.append_nil] at hx
      subst hx
      exact he e hi
    | cons x post ih =>
      intro pre e hx hi
      have h := hs pre x post e hx hi
      rw [sat_turn] at h
      show sat (match putT tg (g x) e with | none => Res.bad | some e1 => _) P E
      cases ht : putT tg (g x) e with
      | none => rw [ht] at h; exact h.elim
      | some e1 =>
        rw [ht] at h
        show sat (match b e1 with | .ok .nx e2 => _ | .ok .ct e2 => _ | .ok .bk e2 => _ | .ok (.rt w) e2 => _ | .exc x e2 => _ | .bad => _) P E
        have h : sat (b e1) _ _ := h
        cases hb : b e1 with
        | ok f e2 =>
          rw [hb] at h
          cases f with
          | nx => exact ih (pre ++ [x]) e2 (by rw [hx, List.append_assoc]; rfl) h
          | ct => exact ih (pre ++ [x]) e2 (by rw [hx, List.append_assoc]; rfl) h
          | bk => exact h
          | rt w => exact h
        | exc x e2 => rw [hb] at h; exact h
        | bad => rw [hb] at h; exact h
  exact go xs [] e rfl h0
theorem sat_whl {t : M Bool} {b : M Fl} {P : Fl → Env → Prop} {E : Ex → Env → Prop} (I : Env → Prop) (μ : Env → Nat)
    (hs : ∀ e, I e → sat (t e) (fun k e1 => (k = true → sat (b e1) (goOn (fun e2 => I e2 ∧ μ e2 < μ e) P) E) ∧ (k = false → P .nx e1)) E) : ∀ (n : Nat) (e : Env), I e → μ e < n → sat (whl t b n e) P E
  | 0, e, _, h => absurd h (Nat.not_lt_zero _)
  | n + 1, e, hi, h => by
    show sat (bnd t _ e) P E
    rw [sat_bnd]
    refine sat_mono (hs e hi) (fun k e1 hk => ?_) (fun _ _ z => z)
    cases k with
    | false => exact hk.2 rfl
    | true =>
      show sat (bnd b _ e1) P E
      rw [sat_bnd]
      refine sat_mono (hk.1 rfl) (fun f e2 hf => ?_) (fun _ _ z => z)
      cases f with
      | nx => exact sat_whl I μ hs n e2 hf.1 (by have := hf.2; omega)
      | ct => exact sat_whl I μ hs n e2 hf.1 (by have := hf.2; omega)
      | bk => exact hf
      | rt w => exact hf
/-- one element of a comprehension -/
def lcStep (tg : Tg) (c : M Bool) (x : M Vw) (vs : List Nat) (d : D) : M (Option D) := fun e => match putT tg d e with
    | none => .bad
    | some e1 => match c e1 with
      | .ok false e2 => .ok none (wipeE e2 vs)
      | .ok true e2 => match x e2 with
        | .ok w e3 => match w.stay with
          | some y => .ok (some y) (wipeE e3 vs)
          | none => .bad
        | _ => .bad
      | _ => .bad
theorem sat_lcStep {tg : Tg} {c : M Bool} {x : M Vw} {vs : List Nat} {d : D} {e : Env} {P : Option D → Env → Prop} {E : Ex → Env → Prop} : sat (lcStep tg c x vs d e) P E = match putT tg d e with
    | none => False
    | some e1 => sat (c e1) (fun k e2 => if k = true then sat (x e2) (fun w e3 => match w.stay with | some y => P (some y) (wipeE e3 vs) | none => False) (fun _ _ => False) else P none (wipeE e2 vs)) (fun _ _ => False) := by
  unfold lcStep
  cases putT tg d e with
  | none => rfl
  | some e1 =>
    show sat (match c e1 with | .ok false e2 => _ | .ok true e2 => _ | _ => _) P E = sat (c e1) _ _
    cases c e1 with
    | ok k e2 =>
      cases k with
      | false => rfl
      | true =>
        show sat (match x e2 with | .ok w e3 => _ | _ => _) P E = sat (x e2) _ _
        cases x e2 with
        | ok w e3 =>
          show sat (match w.stay with | some y => _ | none => _) P E = match w.stay with | some y => _ | none => _
          cases w.stay <;> rfl
        | exc x e3 => rfl
        | bad => rfl
    | exc x e2 => rfl
    | bad => rfl
theorem sat_lcGo {α : Type} {tg : Tg} {c : M Bool} {x : M Vw} {vs : List Nat} {g : α → D} {xs : List α} {P : List D → Env → Prop} {E : Ex → Env → Prop} {e : Env} (hl : xs.length ≤ LIM) (I : List α → List D → Env → Prop) (h0 : I [] [] e)
    (hs : ∀ pre y post acc e, xs = pre ++ y :: post → I pre acc e → sat (lcStep tg c x vs (g y) e) (fun o e' => I (pre ++ [y]) (acc ++ o.toList) e') (fun _ _ => False)) (he : ∀ acc e, I xs acc e → P acc e) : sat (lcGo tg c x vs (xs.map g) [] e) P E := by
  have go : ∀ (post pre : List α) (acc : List D) (e : Env), xs = pre ++ post → acc.length ≤ pre.length → I pre acc e → sat (lcGo tg c x vs (post.map g) acc e) P E := by
    intro post
    induction post with
    | nil =>
      intro pre acc e hx _ hi
      rw [List.append_nil] at hx
      subst hx
      exact he acc e hi
    | cons y post ih =>
      intro pre acc e hx ha hi
      have h := hs pre y post acc e hx hi
      have hlen : pre.length + (post.length + 1) ≤ LIM := by rw [hx] at hl; simpa using hl
      rw [sat_lcStep] at h
      show sat (match putT tg (g y) e with | none => Res.bad | some e1 => _) P E
      cases ht : putT tg (g y) e with
      | none => rw [ht] at h; exact h.elim
      | some e1 =>
        rw [ht] at h
        show sat (match c e1 with | .ok false e2 => _ | .ok true e2 => _ | _ => _) P E
        have h : sat (c e1) _ _ := h
        cases hc : c e1 with
        | ok k e2 =>
          rw [hc] at h
          cases k with
          | false =>
            have h : I (pre ++ [y]) (acc ++ []) (wipeE e2 vs) := h
            rw [List.append_nil] at h
            exact ih (pre ++ [y]) acc _ (by rw [hx, List.append_assoc]; rfl) (by simp; omega) h
          | true =>
            show sat (match x e2 with | .ok w e3 => _ | _ => _) P E
            have h : sat (x e2) _ _ := h
            cases hx2 : x e2 with
            | ok w e3 =>
              rw [hx2] at h
              show sat (match w.stay with | some y => _ | none => _) P E
              have h : (match w.stay with | some y => _ | none => False) := h
              cases hw : w.stay with
              | none => rw [hw] at h; exact h.elim
              | some z =>
                rw [hw] at h
                show sat ((if acc.length < LIM then _ else _) : Res _) P E
                rw [if_pos (by omega)]
                exact ih (pre ++ [y]) (acc ++ [z]) _ (by rw [hx, List.append_assoc]; rfl) (by simp; omega) h
            | exc x e3 => rw [hx2] at h; exact h.elim
            | bad => rw [hx2] at h; exact h.elim
        | exc x e2 => rw [hc] at h; exact h.elim
        | bad => rw [hc] at h; exact h.elim
  exact go xs [] [] e rfl (Nat.le_refl _) h0
theorem sat_eLc {it : M (List D)} {tg : Tg} {c : M Bool} {x : M Vw} {vs : List Nat} {e : Env} {P : Vw → Env → Prop} {E : Ex → Env → Prop} : sat (eLc it tg c x vs e) P E = sat (it e) (fun ds e => freeAt e vs = true ∧ sat (lcGo tg c x vs ds [] (wipeE e vs)) (fun ys e' => P (.f (.l ys)) (backE e e' vs)) fun _ _ => False) E := by
  unfold eLc
  rw [sat_bnd]
  congr
  funext ds e1
  show sat (if _ then _ else _) P E = _
  by_cases h : freeAt e1 vs = true
  · rw [if_pos h]
    cases lcGo tg c x vs ds [] (wipeE e1 vs) with
    | ok ys e2 => exact propext ⟨fun z => ⟨h, z⟩, fun z => z.2⟩
    | exc x e2 => exact propext ⟨fun z => z.elim, fun z => z.2⟩
    | bad => exact propext ⟨fun z => z.elim, fun z => z.2⟩
  · rw [if_neg h]
    exact propext ⟨fun z => z.elim, fun z => h z.1⟩
/-- one element of any or all -/
def gxStep (tg : Tg) (x : M Vw) (vs : List Nat) (d : D) : M Bool := fun e => match putT tg d e with
    | none => .bad
    | some e1 => match x e1 with
      | .ok (.d (.bl b)) e3 => .ok b (wipeE e3 vs)
      | _ => .bad
theorem sat_gxStep {tg : Tg} {x : M Vw} {vs : List Nat} {d : D} {e : Env} {P : Bool → Env → Prop} {E : Ex → Env → Prop} : sat (gxStep tg x vs d e) P E = match putT tg d e with
    | none => False
    | some e1 => sat (x e1) (fun w e3 => match w with | .d (.bl b) => P b (wipeE e3 vs) | _ => False) (fun _ _ => False) := by
  unfold gxStep
  cases putT tg d e with
  | none => rfl
  | some e1 =>
    show sat (match x e1 with | .ok (.d (.bl b)) e3 => _ | _ => _) P E = sat (x e1) _ _
    cases x e1 with
    | ok w e3 =>
      cases w with
      | d d => cases d <;> rfl
      | o i => rfl
      | f c => rfl
    | exc x e3 => rfl
    | bad => rfl
/-- elements that leave all as it was -/
theorem sat_gxGo {α : Type} {st : Bool} {tg : Tg} {x : M Vw} {vs : List Nat} {g : α → D} {xs : List α} {P : Bool → Env → Prop} {E : Ex → Env → Prop} {e : Env} (f : α → Bool)
    (hs : ∀ y, y ∈ xs → sat (gxStep tg x vs (g y) e) (fun b e' => b = f y ∧ e' = e) (fun _ _ => False)) (he : P (if st then xs.any f else xs.all f) e) : sat (gxGo st tg x vs (xs.map g) e) P E := by
  induction xs with
  | nil =>
    show P (!st) e
    cases st <;> simpa using he
  | cons y ys ih =>
    have h := hs y (List.mem_cons_self ..)
    rw [sat_gxStep] at h
    show sat (match putT tg (g y) e with | none => Res.bad | some e1 => _) P E
    cases ht : putT tg (g y) e with
    | none => rw [ht] at h; exact h.elim
    | some e1 =>
      rw [ht] at h
      show sat (match x e1 with | .ok (.d (.bl b)) e3 => _ | _ => _) P E
      have h : sat (x e1) _ _ := h
      cases hx : x e1 with
      | ok w e3 =>
        rw [hx] at h
        cases w with
        | d d =>
          cases d with
          | bl b =>
            obtain ⟨rfl, h2⟩ := h
            show sat (if f y = st then _ else _) P E
            rw [h2]
            by_cases hb : f y = st
            · rw [if_pos hb]
              show P st e
              cases st <;> simpa [hb] using he
            · rw [if_neg hb]
              refine ih (fun z hz => hs z (List.mem_cons_of_mem _ hz)) ?_
              cases st <;> simp_all
          | _ => exact h.elim
        | o i => exact h.elim
        | f c => exact h.elim
      | exc x e3 => rw [hx] at h; exact h.elim
      | bad => rw [hx] at h; exact h.elim
theorem sat_eGx {st : Bool} {it : M (List D)} {tg : Tg} {x : M Vw} {vs : List Nat} {e : Env} {P : Vw → Env → Prop} {E : Ex → Env → Prop} : sat (eGx st it tg x vs e) P E = sat (it e) (fun ds e => freeAt e vs = true ∧ sat (gxGo st tg x vs ds (wipeE e vs)) (fun b e' => P (.d (.bl b)) (backE e e' vs)) fun _ _ => False) E := by
  unfold eGx
  rw [sat_bnd]
  congr
  funext ds e1
  show sat (if _ then _ else _) P E = _
  by_cases h : freeAt e1 vs = true
  · rw [if_pos h]
    cases gxGo st tg x vs ds (wipeE e1 vs) with
    | ok ys e2 => exact propext ⟨fun z => ⟨h, z⟩, fun z => z.2⟩
    | exc x e2 => exact propext ⟨fun z => z.elim, fun z => z.2⟩
    | bad => exact propext ⟨fun z => z.elim, fun z => z.2⟩
  · rw [if_neg h]
    exact propext ⟨fun z => z.elim, fun z => h z.1⟩
theorem sat_ownL {i : Nat} {e : Env} {P : List D → Env → Prop} {E : Ex → Env → Prop} : sat (ownL i e) P E = match getO i e with | some (.l ds) => P ds e | _ => False := by
  unfold ownL
  cases getO i e with
  | none => rfl
  | some c => cases c <;> rfl
theorem sat_putL {i : Nat} {ds : List D} {e : Env} {P : Unit → Env → Prop} {E : Ex → Env → Prop} : sat (putL i ds e) P E = P () (setO i (.l ds) e) := rfl
theorem sat_ownN {i : Nat} {c : Ct} {e : Env} {P : Fl → Env → Prop} {E : Ex → Env → Prop} : sat (ownN i c e) P E = match e[i]? with
    | some .no => P .nx (e.set i (.own c))
    | some (.dat _) => P .nx (e.set i (.own c))
    | some (.own _) => P .nx (e.set i (.own c))
    | _ => False := by
  unfold ownN
  cases e[i]? with
  | none => rfl
  | some s => cases s <;> rfl
theorem sat_datM {i : Nat} {e : Env} {P : D → Env → Prop} {E : Ex → Env → Prop} : sat (datM i e) P E = match e[i]? with
    | some (.dat d) => P d e
    | _ => False := by
  unfold datM
  cases e[i]? with
  | none => rfl
  | some s => cases s <;> rfl
theorem sat_iR1 {a : M Vw} {e : Env} {P : List D → Env → Prop} {E : Ex → Env → Prop} : sat (iR1 a e) P E = sat (a e) (fun w e => sat (nowM w e) (fun d e => match d with | .int j => bigI j = true ∧ P (intsL 0 j.toNat) e | _ => False) E) E := by
  unfold iR1
  rw [sat_bnd]
  congr
  funext w e1
  rw [sat_bnd]
  congr
  funext d e2
  cases d with
  | int j =>
    show sat ((if bigI j = true then ret (intsL 0 j.toNat) else optM none) e2) P E = _
    rw [sat_iteM]
    by_cases h : bigI j = true
    · rw [if_pos h]; exact propext ⟨fun z => ⟨h, z⟩, fun z => z.2⟩
    · rw [if_neg h]; exact propext ⟨fun z => z.elim, fun z => h z.1⟩
  | _ => rfl
theorem sat_iR2 {a b : M Vw} {e : Env} {P : List D → Env → Prop} {E : Ex → Env → Prop} : sat (iR2 a b e) P E = sat (a e) (fun w e => sat (b e) (fun u e => sat (nowM w e) (fun d e => sat (nowM u e) (fun c e => match d, c with | .int i, .int j => (bigI i && bigI j) = true ∧ P (intsL i (j - i).toNat) e | _, _ => False) E) E) E) E := by
  unfold iR2
  rw [sat_bnd]
  congr
  funext w e1
  rw [sat_bnd]
  congr
  funext u e1
  rw [sat_bnd]
  congr
  funext d e2
  rw [sat_bnd]
  congr
  funext c e3
  cases d with
  | int i =>
    cases c with
    | int j =>
      show sat ((if (bigI i && bigI j) = true then ret (intsL i (j - i).toNat) else optM none) e3) P E = _
      rw [sat_iteM]
      by_cases h : (bigI i && bigI j) = true
      · rw [if_pos h]; exact propext ⟨fun z => ⟨h, z⟩, fun z => z.2⟩
      · rw [if_neg h]; exact propext ⟨fun z => z.elim, fun z => h z.1⟩
    | _ => rfl
  | _ => rfl
theorem sat_sItem {o i v : M Vw} {e : Env} {P : Fl → Env → Prop} {E : Ex → Env → Prop} : sat (sItem o i v e) P E = sat (v e) (fun u e => sat (o e) (fun w e => sat (i e) (fun z e => sat (optM (viewI w) e) (fun k e => sat (stayM u e) (fun d e => sat (nowM z e) (fun n e => sat (ownL k e) (fun ds e => match n with
    | .int m => match ixI ds.length m with | some j => P .nx (setO k (.l (ds.set j d)) e) | none => False
    | _ => False) E) E) E) E) E) E) E := by
  unfold sItem
  rw [sat_bnd]; congr; funext u e1
  rw [sat_bnd]; congr; funext w e2
  rw [sat_bnd]; congr; funext z e3
  rw [sat_bnd]; congr; funext k e4
  rw [sat_bnd]; congr; funext d e5
  rw [sat_bnd]; congr; funext n e6
  rw [sat_bnd]; congr; funext ds e7
  cases n with
  | int m =>
    show sat ((match ixI ds.length m with | some j => bnd (putL k (ds.set j d)) fun _ => ret Fl.nx | none => optM none) e7) P E = (match ixI ds.length m with | some j => P .nx (setO k (.l (ds.set j d)) e7) | none => False)
    cases ixI ds.length m <;> rfl
  | _ => rfl
theorem sat_sAug {i : Nat} {v : M Vw} {e : Env} {P : Fl → Env → Prop} {E : Ex → Env → Prop} : sat (sAug i v e) P E = sat (datM i e) (fun d e => sat (v e) (fun u e => sat (nowM u e) (fun c e => sat (optM (addD d c) e) (fun w e => match w with | .d (.int z) => sat (putM (.nm i) (.int z) e) P E | _ => False) E) E) E) E := by
  unfold sAug
  rw [sat_bnd]; congr; funext u e1
  rw [sat_bnd]; congr; funext w e2
  rw [sat_bnd]; congr; funext z e3
  rw [sat_bnd]; congr; funext k e4
  cases k with
  | d x => cases x <;> rfl
  | o i => rfl
  | f c => rfl
theorem sat_sRaise {x : Str} {fs : List Str} {ok : List D → Bool} {as : List (M Vw)} {e : Env} {P : Fl → Env → Prop} {E : Ex → Env → Prop} : sat (sRaise x fs ok as e) P E = sat (eArgs as e) (fun ws e => sat (optM (stays ws) e) (fun ds e => ok ds = true ∧ E ⟨x, fs.zip ds⟩ e) E) E := by
  unfold sRaise
  rw [sat_bnd]; congr; funext u e1
  rw [sat_bnd]; congr; funext ds e2
  show sat (if ok ds = true then _ else _) P E = _
  by_cases h : ok ds = true
  · rw [if_pos h]; exact propext ⟨fun z => ⟨h, z⟩, fun z => z.2⟩
  · rw [if_neg h]; exact propext ⟨fun z => z.elim, fun z => h z.1⟩
theorem sat_sTry {b s : M Fl} {ok : Str → Option Bool} {n : Option Nat} {e : Env} {P : Fl → Env → Prop} {E : Ex → Env → Prop} : sat (sTry b ok n s e) P E = sat (b e) P fun x e' => match ok x.cls with
    | none => False
    | some false => E x e'
    | some true => match n with
      | none => sat (afterS none (s e')) P E
      | some i => match e'[i]? with
        | some .no => sat (afterS (some i) (s (e'.set i (.ex x)))) P E
        | _ => False := by
  unfold sTry
  cases b e with
  | ok f e' => rfl
  | bad => rfl
  | exc x e' =>
    show sat (match ok x.cls with | none => _ | some false => _ | some true => _) P E = (match ok x.cls with | none => _ | some false => _ | some true => _)
    cases ok x.cls with
    | none => rfl
    | some k =>
      cases k with
      | false => rfl
      | true =>
        cases n with
        | none => rfl
        | some i =>
          show sat (match e'[i]? with | some .no => afterS (some i) (s (e'.set i (.ex x))) | _ => .bad) P E = (match e'[i]? with | some .no => sat (afterS (some i) (s (e'.set i (.ex x)))) P E | _ => False)
          cases e'[i]? with
          | none => rfl
          | some s => cases s <;> rfl
theorem sat_after {n : Option Nat} {r : Res Fl} {P : Fl → Env → Prop} {E : Ex → Env → Prop} : sat (afterS n r) P E = sat r (fun f e => match n with
    | none => (exFree e && okFl f) = true ∧ P f e
    | some i => (exFree (e.set i .no) && okFl f) = true ∧ P f (e.set i .no)) fun _ _ => False := by
  unfold afterS
  cases r with
  | ok f e =>
    cases n with
    | none =>
      show sat (if (exFree e && okFl f) = true then _ else _) P E = (_ ∧ _)
      by_cases h : (exFree e && okFl f) = true
      · rw [if_pos h]; exact propext ⟨fun z => ⟨h, z⟩, fun z => z.2⟩
      · rw [if_neg h]; exact propext ⟨fun z => z.elim, fun z => h z.1⟩
    | some i =>
      show sat (if (exFree (e.set i .no) && okFl f) = true then _ else _) P E = (_ ∧ _)
      by_cases h : (exFree (e.set i .no) && okFl f) = true
      · rw [if_pos h]; exact propext ⟨fun z => ⟨h, z⟩, fun z => z.2⟩
      · rw [if_neg h]; exact propext ⟨fun z => z.elim, fun z => h z.1⟩
  | exc x e => rfl
  | bad => rfl
theorem sat_sFor {it : M (List D)} {tg : Tg} {b : M Fl} {e : Env} {P : Fl → Env → Prop} {E : Ex → Env → Prop} : sat (sFor it tg b e) P E = sat (it e) (fun ds e => sat (forL tg b ds e) P E) E := by
  unfold sFor
  rw [sat_bnd]
/-! ### the same, with what follows out of simp's sight -/
class Kwt (α : Type) where
  P : α → Env → Prop
class Kwe where
  E : Ex → Env → Prop
class KwtF where
  P : Vw → List Ct → Prop
class KweF where
  E : Ex → List Ct → Prop
@[irreducible] def st {α : Type} (r : Res α) [c : Kwt α] [q : Kwe] : Prop := sat r c.P q.E
@[irreducible] def fst' (r : FRes) [c : KwtF] [q : KweF] : Prop := fsat r c.P q.E
section
variable {α β : Type} {e : Env} {a : α} {c : Kwt α} {d : Kwt β} {q : Kwe}
theorem sat_st {r : Res α} {P : α → Env → Prop} {E : Ex → Env → Prop} : sat r P E = @st α r ⟨P⟩ ⟨E⟩ := by with_unfolding_all exact rfl
theorem fsat_st {r : FRes} {P : Vw → List Ct → Prop} {E : Ex → List Ct → Prop} : fsat r P E = @fst' r ⟨P⟩ ⟨E⟩ := by with_unfolding_all exact rfl
theorem st_ok : @st α (.ok a e) c q = c.P a e := by with_unfolding_all exact rfl
theorem st_exc {x : Ex} : @st α (.exc x e) c q = q.E x e := by with_unfolding_all exact rfl
theorem st_bad : @st α .bad c q = False := by with_unfolding_all exact rfl
theorem fst_ret {c : KwtF} {q : KweF} {w : Vw} {cs : List Ct} : @fst' (.ret w cs) c q = c.P w cs := by with_unfolding_all exact rfl
theorem fst_exc {c : KwtF} {q : KweF} {w : Ex} {cs : List Ct} : @fst' (.exc w cs) c q = q.E w cs := by with_unfolding_all exact rfl
theorem st_ret : @st α (ret a e) c q = c.P a e := by with_unfolding_all exact rfl
theorem st_bnd {m : M β} {k : β → M α} : @st α (bnd m k e) c q = @st β (m e) ⟨fun a e' => @st α (k a e') c q⟩ q := by with_unfolding_all exact sat_bnd
theorem st_optS : @st α (optM (some a) e) c q = c.P a e := by with_unfolding_all exact rfl
theorem st_optN : @st α (optM (none : Option α) e) c q = False := by with_unfolding_all exact rfl
theorem st_optI {p : Prop} [Decidable p] {o : Option α} : @st α (optM (if p then o else none) e) c q = (p ∧ @st α (optM o e) c q) := by with_unfolding_all exact sat_optI
theorem st_optMap {o : Option β} {f : β → α} : @st α (optM (o.map f) e) c q = @st β (optM o e) ⟨fun b e => c.P (f b) e⟩ q := by with_unfolding_all exact sat_optMap
theorem st_optBind {o : Option β} {f : β → Option α} : @st α (optM (o.bind f) e) c q = @st β (optM o e) ⟨fun b e => @st α (optM (f b) e) c q⟩ q := by with_unfolding_all exact sat_optBind
theorem st_iteB {k : Bool} {m n : M α} : @st α ((if k = true then m else n) e) c q = ((k = true → @st α (m e) c q) ∧ (k = false → @st α (n e) c q)) := by with_unfolding_all exact sat_iteB
end
section
variable {e : Env} {a b x y : M Vw} {c : Kwt Vw} {cb : Kwt Bool} {cd : Kwt D} {cl : Kwt (List D)} {cf : Kwt Fl} {q : Kwe} {t u : M Bool}
theorem st_now_d {d : D} : @st D (nowM (.d d) e) cd q = cd.P d e := by with_unfolding_all exact rfl
theorem st_now_f {d : Ct} : @st D (nowM (.f d) e) cd q = cd.P d.toD e := by with_unfolding_all exact rfl
theorem st_now_o {i : Nat} : @st D (nowM (.o i) e) cd q = match getO i e with | some k => cd.P k.toD e | none => False := by
  with_unfolding_all
      show sat (match (getO i e).map Ct.toD with | some d => _ | none => _) _ _ = _
      cases getO i e <;> rfl
theorem st_stay_d {d : D} : @st D (stayM (.d d) e) cd q = cd.P d e := by with_unfolding_all exact rfl
theorem st_stay_f {d : Ct} : @st D (stayM (.f d) e) cd q = cd.P d.toD e := by with_unfolding_all exact rfl
theorem st_eC {d : D} : @st Vw (eC d e) c q = c.P (.d d) e := by with_unfolding_all exact rfl
theorem st_eV {i : Nat} : @st Vw (eV i e) c q = match rdS i e[i]? with | some w => c.P w e | none => False := by with_unfolding_all exact sat_eV
theorem st_eU {f : D → Option Vw} : @st Vw (eU f a e) c q = @st Vw (a e) ⟨fun w e => @st D (nowM w e) ⟨fun d e => @st Vw (optM (f d) e) c q⟩ q⟩ q := by
  with_unfolding_all
      unfold eU
      rw [st_bnd]; congr; funext w e1
      rw [st_bnd]
theorem st_eB {f : D → D → Option Vw} : @st Vw (eB f a b e) c q = @st Vw (a e) ⟨fun w e => @st Vw (b e) ⟨fun u e => @st D (nowM w e) ⟨fun d e => @st D (nowM u e) ⟨fun k e => @st Vw (optM (f d k) e) c q⟩ q⟩ q⟩ q⟩ q := by
  with_unfolding_all
      unfold eB
      rw [st_bnd]; congr; funext w e1
      rw [st_bnd]; congr; funext w e1
      rw [st_bnd]; congr; funext w e1
      rw [st_bnd]
theorem st_tB {f : D → D → Option Bool} : @st Bool (tB f a b e) cb q = @st Vw (a e) ⟨fun w e => @st Vw (b e) ⟨fun u e => @st D (nowM w e) ⟨fun d e => @st D (nowM u e) ⟨fun k e => @st Bool (optM (f d k) e) cb q⟩ q⟩ q⟩ q⟩ q := by
  with_unfolding_all
      unfold tB
      rw [st_bnd]; congr; funext w e1
      rw [st_bnd]; congr; funext w e1
      rw [st_bnd]; congr; funext w e1
      rw [st_bnd]
theorem st_truM {w : Vw} : @st Bool (truM w e) cb q = @st D (nowM w e) ⟨fun d e => @st Bool (optM (tru d) e) cb q⟩ q := by
  with_unfolding_all
      unfold truM
      rw [st_bnd]
theorem st_tE : @st Bool (tE a e) cb q = @st Vw (a e) ⟨fun w e => @st Bool (truM w e) cb q⟩ q := by
  with_unfolding_all
      unfold tE
      rw [st_bnd]
theorem st_tNot : @st Bool (tNot t e) cb q = @st Bool (t e) ⟨fun k e => cb.P (!k) e⟩ q := by
  with_unfolding_all
      unfold tNot
      rw [st_bnd]
      rfl
theorem st_tAnd : @st Bool (tAnd t u e) cb q = @st Bool (t e) ⟨fun k e => (k = true → @st Bool (u e) cb q) ∧ (k = false → cb.P false e)⟩ q := by
  with_unfolding_all
      unfold tAnd
      rw [st_bnd]; congr; funext k e1
      exact st_iteB
theorem st_tOr : @st Bool (tOr t u e) cb q = @st Bool (t e) ⟨fun k e => (k = true → cb.P true e) ∧ (k = false → @st Bool (u e) cb q)⟩ q := by
  with_unfolding_all
      unfold tOr
      rw [st_bnd]; congr; funext k e1
      exact st_iteB
theorem st_eAnd : @st Vw (eAnd a b e) c q = @st Vw (a e) ⟨fun w e => @st Bool (truM w e) ⟨fun k e => (k = true → @st Vw (b e) c q) ∧ (k = false → c.P w.dull e)⟩ q⟩ q := by
  with_unfolding_all
      unfold eAnd
      rw [st_bnd]; congr; funext k e1
      rw [st_bnd]; congr; funext k e1
      exact st_iteB
theorem st_eOr : @st Vw (eOr a b e) c q = @st Vw (a e) ⟨fun w e => @st Bool (truM w e) ⟨fun k e => (k = true → c.P w.dull e) ∧ (k = false → @st Vw (b e) c q)⟩ q⟩ q := by
  with_unfolding_all
      unfold eOr
      rw [st_bnd]; congr; funext k e1
      rw [st_bnd]; congr; funext k e1
      exact st_iteB
theorem st_eNot : @st Vw (eNot a e) c q = @st Vw (a e) ⟨fun w e => @st Bool (truM w e) ⟨fun k e => c.P (.d (.bl !k)) e⟩ q⟩ q := by
  with_unfolding_all
      unfold eNot
      rw [st_bnd]; congr; funext k e1
      rw [st_bnd]; rfl
theorem st_eIf : @st Vw (eIf t a b e) c q = @st Bool (t e) ⟨fun k e => (k = true → @st Vw (a e) c q) ∧ (k = false → @st Vw (b e) c q)⟩ q := by
  with_unfolding_all
      unfold eIf
      rw [st_bnd]; congr; funext k e1
      exact st_iteB
theorem st_tCh {f g : D → D → Option Bool} {z : M Vw} : @st Bool (tCh f g a b z e) cb q = @st Vw (a e) ⟨fun w e => @st Vw (b e) ⟨fun u e => @st D (nowM w e) ⟨fun d e => @st D (nowM u e) ⟨fun v e => @st Bool (optM (f d v) e) ⟨fun k e => (k = true → @st Vw (z e) ⟨fun z e => @st D (nowM u e) ⟨fun v e => @st D (nowM z e) ⟨fun y e => @st Bool (optM (g v y) e) cb q⟩ q⟩ q⟩ q) ∧ (k = false → cb.P false e)⟩ q⟩ q⟩ q⟩ q⟩ q := by
  with_unfolding_all
      unfold tCh
      rw [st_bnd]; congr; funext w e1
      rw [st_bnd]; congr; funext w e1
      rw [st_bnd]; congr; funext w e1
      rw [st_bnd]; congr; funext w e1
      rw [st_bnd]; congr; funext k e1
      rw [st_iteB]
      refine congr (congrArg And (implies_congr rfl ?_)) rfl
      rw [st_bnd]; congr; funext w e1
      rw [st_bnd]; congr; funext w e1
      rw [st_bnd]
theorem st_args0 {ca : Kwt (List Vw)} : @st (List Vw) (eArgs [] e) ca q = ca.P [] e := by with_unfolding_all exact rfl
theorem st_args1 {ca : Kwt (List Vw)} {as : List (M Vw)} : @st (List Vw) (eArgs (a :: as) e) ca q = @st Vw (a e) ⟨fun w e => @st (List Vw) (eArgs as e) ⟨fun ws e => ca.P (w :: ws) e⟩ q⟩ q := by
  with_unfolding_all
      unfold eArgs
      rw [st_bnd]; congr; funext w e1
      rw [st_bnd]; rfl
theorem st_guard {p : Prop} [Decidable p] {w : Vw} : @st Vw ((if p then ret w else optM none) e) c q = (p ∧ c.P w e) := by
  with_unfolding_all
      by_cases h : p
      · rw [if_pos h]; exact propext ⟨fun z => ⟨h, z⟩, fun z => z.2⟩
      · rw [if_neg h]; exact propext ⟨fun z => z.elim, fun z => h z.1⟩
theorem st_eTup {as : List (M Vw)} : @st Vw (eTup as e) c q = @st (List Vw) (eArgs as e) ⟨fun ws e => @st (List D) (optM (stays ws) e) ⟨fun ds e => ds.length < LIM ∧ c.P (.d (.tup ds)) e⟩ q⟩ q := by
  with_unfolding_all
      unfold eTup
      rw [st_bnd]; congr; funext w e1
      rw [st_bnd]; congr; funext ds e1
      exact st_guard
theorem st_eLst {as : List (M Vw)} : @st Vw (eLst as e) c q = @st (List Vw) (eArgs as e) ⟨fun ws e => @st (List D) (optM (stays ws) e) ⟨fun ds e => ds.length < LIM ∧ c.P (.f (.l ds)) e⟩ q⟩ q := by
  with_unfolding_all
      unfold eLst
      rw [st_bnd]; congr; funext w e1
      rw [st_bnd]; congr; funext ds e1
      exact st_guard
theorem st_intM {co : Kwt (Option Int)} : @st (Option Int) (intM a e) co q = @st Vw (a e) ⟨fun w e => @st D (nowM w e) ⟨fun d e => match d with | .int i => co.P (some i) e | _ => False⟩ q⟩ q := by
  with_unfolding_all
      unfold intM
      rw [st_bnd]; congr; funext w e1
      rw [st_bnd]; congr; funext d e1
      cases d <;> rfl
theorem st_eSl {lo hi : M (Option Int)} : @st Vw (eSl a lo hi e) c q = @st Vw (a e) ⟨fun w e => @st (Option Int) (lo e) ⟨fun l e => @st (Option Int) (hi e) ⟨fun h e => @st D (nowM w e) ⟨fun d e => @st Vw (optM (slD l h d) e) c q⟩ q⟩ q⟩ q⟩ q := by
  with_unfolding_all
      unfold eSl
      rw [st_bnd]; congr; funext w e1
      rw [st_bnd]; congr; funext w e1
      rw [st_bnd]; congr; funext w e1
      rw [st_bnd]
theorem st_ownL {i : Nat} : @st (List D) (ownL i e) cl q = match getO i e with | some (.l ds) => cl.P ds e | _ => False := by with_unfolding_all exact sat_ownL
theorem st_putL {i : Nat} {ds : List D} {cu : Kwt Unit} : @st Unit (putL i ds e) cu q = cu.P () (setO i (.l ds) e) := by with_unfolding_all exact rfl
theorem st_recv {cn : Kwt Nat} : @st Nat (recv a e) cn q = @st Vw (a e) ⟨fun w e => match viewI w with | some i => (match getO i e with | some (.l ds) => cn.P i e | _ => False) | none => False⟩ q := by
  with_unfolding_all
      unfold recv
      rw [st_bnd]; congr; funext w e1
      rw [st_bnd]
      cases viewI w with
      | none => rfl
      | some i =>
        rw [st_optS]
        show @st Nat (bnd _ _ e1) cn q = _
        rw [st_bnd, st_ownL]
        show (match getO i e1 with | some (.l ds) => cn.P i e1 | _ => False) = (match getO i e1 with | some (.l ds) => cn.P i e1 | _ => False)
        rfl
theorem st_eApp : @st Vw (eApp a b e) c q = @st Nat (recv a e) ⟨fun i e => @st Vw (b e) ⟨fun u e => @st D (stayM u e) ⟨fun d e => @st (List D) (ownL i e) ⟨fun ds e => ds.length < LIM ∧ c.P (.d .non) (setO i (.l (ds ++ [d])) e)⟩ q⟩ q⟩ q⟩ q := by
  with_unfolding_all
      unfold eApp
      rw [st_bnd]; congr; funext w e1
      rw [st_bnd]; congr; funext w e1
      rw [st_bnd]; congr; funext w e1
      rw [st_bnd]; congr; funext ds e1
      by_cases h : ds.length < LIM
      · rw [if_pos h]; exact propext ⟨fun z => ⟨h, z⟩, fun z => z.2⟩
      · rw [if_neg h]; exact propext ⟨fun z => z.elim, fun z => h z.1⟩
theorem st_ePop : @st Vw (ePop a e) c q = @st Nat (recv a e) ⟨fun i e => @st (List D) (ownL i e) ⟨fun ds e => @st D (optM ds.getLast? e) ⟨fun d e => c.P (.d d) (setO i (.l ds.dropLast) e)⟩ q⟩ q⟩ q := by
  with_unfolding_all
      unfold ePop
      rw [st_bnd]; congr; funext w e1
      rw [st_bnd]; congr; funext w e1
      rw [st_bnd]; rfl
theorem st_eRev : @st Vw (eRev a e) c q = @st Nat (recv a e) ⟨fun i e => @st (List D) (ownL i e) ⟨fun ds e => c.P (.d .non) (setO i (.l ds.reverse) e)⟩ q⟩ q := by
  with_unfolding_all
      unfold eRev
      rw [st_bnd]; congr; funext w e1
      rw [st_bnd]; rfl
theorem st_eExt : @st Vw (eExt a b e) c q = @st Nat (recv a e) ⟨fun i e => @st Vw (b e) ⟨fun u e => @st D (stayM u e) ⟨fun d e => @st (List D) (optM (UbP.listOf d) e) ⟨fun xs e => @st (List D) (ownL i e) ⟨fun ds e => ds.length + xs.length ≤ LIM ∧ c.P (.d .non) (setO i (.l (ds ++ xs)) e)⟩ q⟩ q⟩ q⟩ q⟩ q := by
  with_unfolding_all
      unfold eExt
      rw [st_bnd]; congr; funext w e1
      rw [st_bnd]; congr; funext w e1
      rw [st_bnd]; congr; funext w e1
      rw [st_bnd]; congr; funext w e1
      rw [st_bnd]; congr; funext ds e1
      by_cases h : ds.length + w.length ≤ LIM
      · rw [if_pos h]; exact propext ⟨fun z => ⟨h, z⟩, fun z => z.2⟩
      · rw [if_neg h]; exact propext ⟨fun z => z.elim, fun z => h z.1⟩
theorem st_callB {f : Fn} {ms : List Bool} {dv : List D} {ws : List Vw} : @st Vw (callB f ms dv ws e) c q = match mkArgs ms ws e with
    | none => False
    | some args => nodup (ownIx ms ws ++ lookIx ms ws) = true ∧ @fst' (f (args ++ dv.map .dat))
      ⟨fun w cs => passOk (lookIx ms ws) w cs = true ∧ match putBack ms ws cs e with | some e' => c.P w e' | none => False⟩
       ⟨fun x cs => (lookIx ms ws).isEmpty = true ∧ match putBack ms ws cs e with | some e' => q.E x e' | none => False⟩ := by with_unfolding_all exact sat_callB
theorem st_eCall {f : Fn} {ms : List Bool} {dv : List D} {as : List (M Vw)} : @st Vw (eCall f ms as dv e) c q = @st (List Vw) (eArgs as e) ⟨fun ws e => @st Vw (callB f ms dv ws e) c q⟩ q := by with_unfolding_all exact st_bnd
theorem fst_run {k : Nat} {b : M Fl} {args : List Sl} {c : KwtF} {q : KweF} : @fst' (run k b args) c q = @st Fl (b (args ++ List.replicate k .no))
    ⟨fun f e => match f with
      | .nx => c.P (.d .non) (pars e)
      | .rt (.d d) => c.P (.d d) (pars e)
      | .rt (.f k) => c.P (.f k) (pars e)
      | _ => False⟩
     ⟨fun x e => q.E x (pars e)⟩ := by with_unfolding_all exact fsat_run
theorem st_sSeq {a b : M Fl} : @st Fl (sSeq a b e) cf q = @st Fl (a e) ⟨fun f e' => match f with
    | .nx => @st Fl (b e') cf q
    | f => cf.P f e'⟩ q := by with_unfolding_all exact sat_sSeq
theorem st_sRet : @st Fl (sRet a e) cf q = @st Vw (a e) ⟨fun w e => match w with
    | .d d => cf.P (.rt (.d d)) e
    | .f c => cf.P (.rt (.f c)) e
    | .o i => match e[i]? with
      | some (.own κ) => cf.P (.rt (.f κ)) (e.set i .no)
      | _ => False⟩ q := by with_unfolding_all exact sat_sRet
theorem st_sNx : @st Fl (sNx e) cf q = cf.P .nx e := by with_unfolding_all exact rfl
theorem st_sBk : @st Fl (sBk e) cf q = cf.P .bk e := by with_unfolding_all exact rfl
theorem st_sCt : @st Fl (sCt e) cf q = cf.P .ct e := by with_unfolding_all exact rfl
theorem st_sRetN : @st Fl (sRetN e) cf q = cf.P (.rt (.d .non)) e := by with_unfolding_all exact rfl
theorem st_sIf {m n : M Fl} : @st Fl (sIf t m n e) cf q = @st Bool (t e) ⟨fun k e => (k = true → @st Fl (m e) cf q) ∧ (k = false → @st Fl (n e) cf q)⟩ q := by
  with_unfolding_all
      unfold sIf
      rw [st_bnd]; congr; funext k e1
      exact st_iteB
theorem st_putM {tg : Tg} {d : D} : @st Fl (putM tg d e) cf q = match putT tg d e with | some e' => cf.P .nx e' | none => False := by with_unfolding_all exact sat_putM
theorem st_sSet {i : Nat} : @st Fl (sSet i a e) cf q = @st Vw (a e) ⟨fun w e => @st D (stayM w e) ⟨fun d e => @st Fl (putM (.nm i) d e) cf q⟩ q⟩ q := by
  with_unfolding_all
      unfold sSet
      rw [st_bnd]; congr; funext k e1
      rw [st_bnd]
theorem st_sAsg {tg : Tg} : @st Fl (sAsg tg a e) cf q = @st Vw (a e) ⟨fun w e => @st D (stayM w e) ⟨fun d e => @st Fl (putM tg d e) cf q⟩ q⟩ q := by
  with_unfolding_all
      unfold sAsg
      rw [st_bnd]; congr; funext k e1
      rw [st_bnd]
theorem st_ownN {i : Nat} {k : Ct} : @st Fl (ownN i k e) cf q = match e[i]? with
    | some .no => cf.P .nx (e.set i (.own k))
    | some (.dat _) => cf.P .nx (e.set i (.own k))
    | some (.own _) => cf.P .nx (e.set i (.own k))
    | _ => False := by with_unfolding_all exact sat_ownN
theorem st_sOwn {i : Nat} : @st Fl (sOwn i a e) cf q = @st Vw (a e) ⟨fun w e => @st Ct (optM (newC w) e) ⟨fun d e => @st Fl (ownN i d e) cf q⟩ q⟩ q := by
  with_unfolding_all
      unfold sOwn
      rw [st_bnd]; congr; funext k e1
      rw [st_bnd]
theorem st_frz {i : Nat} {b : M Fl} : @st Fl (frz i b e) cf q = match frzE i e with | some e' => @st Fl (b e') cf q | none => False := by with_unfolding_all exact sat_frz
theorem st_sPar {i j : Nat} : @st Fl (sPar i j a b e) cf q = @st Vw (a e) ⟨fun w e => @st Vw (b e) ⟨fun u e => @st D (stayM w e) ⟨fun d e => @st D (stayM u e) ⟨fun k e => @st Fl (putM (.nm i) d e) ⟨fun _ e => @st Fl (putM (.nm j) k e) cf q⟩ q⟩ q⟩ q⟩ q⟩ q := by
  with_unfolding_all
      unfold sPar
      rw [st_bnd]; congr; funext w e1
      rw [st_bnd]; congr; funext w e1
      rw [st_bnd]; congr; funext w e1
      rw [st_bnd]; congr; funext w e1
      rw [st_bnd]
theorem st_sEx : @st Fl (sEx a e) cf q = @st Vw (a e) ⟨fun _ e => cf.P .nx e⟩ q := by
  with_unfolding_all
      unfold sEx
      rw [st_bnd]; rfl
theorem st_sItem {o i v : M Vw} : @st Fl (sItem o i v e) cf q = @st Vw (v e) ⟨fun u e => @st Vw (o e) ⟨fun w e => @st Vw (i e) ⟨fun z e => @st Nat (optM (viewI w) e) ⟨fun k e => @st D (stayM u e) ⟨fun d e => @st D (nowM z e) ⟨fun n e => @st (List D) (ownL k e) ⟨fun ds e => match n with
    | .int m => match ixI ds.length m with | some j => cf.P .nx (setO k (.l (ds.set j d)) e) | none => False
    | _ => False⟩ q⟩ q⟩ q⟩ q⟩ q⟩ q⟩ q := by with_unfolding_all exact sat_sItem
theorem st_datM {i : Nat} : @st D (datM i e) cd q = match e[i]? with
    | some (.dat d) => cd.P d e
    | _ => False := by with_unfolding_all exact sat_datM
theorem st_sAug {i : Nat} {v : M Vw} : @st Fl (sAug i v e) cf q = @st D (datM i e) ⟨fun d e => @st Vw (v e) ⟨fun u e => @st D (nowM u e) ⟨fun k e => @st Vw (optM (addD d k) e) ⟨fun w e => match w with | .d (.int z) => @st Fl (putM (.nm i) (.int z) e) cf q | _ => False⟩ q⟩ q⟩ q⟩ q := by with_unfolding_all exact sat_sAug
theorem st_sRaise {x : Str} {fs : List Str} {ok : List D → Bool} {as : List (M Vw)} : @st Fl (sRaise x fs ok as e) cf q = @st (List Vw) (eArgs as e) ⟨fun ws e => @st (List D) (optM (stays ws) e) ⟨fun ds e => ok ds = true ∧ q.E ⟨x, fs.zip ds⟩ e⟩ q⟩ q := by with_unfolding_all exact sat_sRaise
theorem st_after {n : Option Nat} {r : Res Fl} : @st Fl (afterS n r) cf q = @st Fl r ⟨fun f e => match n with
    | none => (exFree e && okFl f) = true ∧ cf.P f e
    | some i => (exFree (e.set i .no) && okFl f) = true ∧ cf.P f (e.set i .no)⟩ ⟨fun _ _ => False⟩ := by with_unfolding_all exact sat_after
theorem st_sTry {b s : M Fl} {ok : Str → Option Bool} {n : Option Nat} : @st Fl (sTry b ok n s e) cf q = @st Fl (b e) ⟨cf.P⟩ ⟨fun x e' => match ok x.cls with
    | none => False
    | some false => q.E x e'
    | some true => match n with
      | none => @st Fl (afterS none (s e')) cf q
      | some i => match e'[i]? with
        | some .no => @st Fl (afterS (some i) (s (e'.set i (.ex x)))) cf q
        | _ => False⟩ := by with_unfolding_all exact sat_sTry
theorem st_sFor {it : M (List D)} {tg : Tg} {b : M Fl} : @st Fl (sFor it tg b e) cf q = @st (List D) (it e) ⟨fun ds e => @st Fl (forL tg b ds e) cf q⟩ q := by with_unfolding_all exact sat_sFor
theorem st_turn {tg : Tg} {d : D} {b : M Fl} : @st Fl (turn tg d b e) cf q = match putT tg d e with | some e1 => @st Fl (b e1) cf q | none => False := by with_unfolding_all exact sat_turn
theorem st_lcStep {tg : Tg} {t : M Bool} {x : M Vw} {vs : List Nat} {d : D} {co : Kwt (Option D)} : @st (Option D) (lcStep tg t x vs d e) co q = match putT tg d e with
    | none => False
    | some e1 => @st Bool (t e1) ⟨fun k e2 => (k = true → @st Vw (x e2) ⟨fun w e3 => match w.stay with | some y => co.P (some y) (wipeE e3 vs) | none => False⟩ ⟨fun _ _ => False⟩) ∧ (k = false → co.P none (wipeE e2 vs))⟩ ⟨fun _ _ => False⟩ := by
  with_unfolding_all
      unfold st
      rw [sat_lcStep]
      cases putT tg d e with
      | none => rfl
      | some e1 =>
        show sat (t e1) _ _ = sat (t e1) _ _
        congr
        funext k e2
        cases k
        · exact propext ⟨fun h => ⟨fun z => by simp at z, fun _ => h⟩, fun h => h.2 rfl⟩
        · exact propext ⟨fun h => ⟨fun _ => h, fun z => by simp at z⟩, fun h => h.1 rfl⟩
theorem st_gxStep {tg : Tg} {x : M Vw} {vs : List Nat} {d : D} : @st Bool (gxStep tg x vs d e) cb q = match putT tg d e with
    | none => False
    | some e1 => @st Vw (x e1) ⟨fun w e3 => match w with | .d (.bl b) => cb.P b (wipeE e3 vs) | _ => False⟩ ⟨fun _ _ => False⟩ := by with_unfolding_all exact sat_gxStep
theorem st_eLc {it : M (List D)} {tg : Tg} {t : M Bool} {x : M Vw} {vs : List Nat} : @st Vw (eLc it tg t x vs e) c q = @st (List D) (it e) ⟨fun ds e => freeAt e vs = true ∧ @st (List D) (lcGo tg t x vs ds [] (wipeE e vs)) ⟨fun ys e' => c.P (.f (.l ys)) (backE e e' vs)⟩ ⟨fun _ _ => False⟩⟩ q := by with_unfolding_all exact sat_eLc
theorem st_eGx {st' : Bool} {it : M (List D)} {tg : Tg} {x : M Vw} {vs : List Nat} : @st Vw (eGx st' it tg x vs e) c q = @st (List D) (it e) ⟨fun ds e => freeAt e vs = true ∧ @st Bool (gxGo st' tg x vs ds (wipeE e vs)) ⟨fun b e' => c.P (.d (.bl b)) (backE e e' vs)⟩ ⟨fun _ _ => False⟩⟩ q := by with_unfolding_all exact sat_eGx
theorem st_iE : @st (List D) (iE a e) cl q = @st Vw (a e) ⟨fun w e => @st D (stayM w e) ⟨fun d e => @st (List D) (optM (walkD d) e) cl q⟩ q⟩ q := by
  with_unfolding_all
      unfold iE
      rw [st_bnd]; congr; funext w e1
      rw [st_bnd]
theorem st_iR1 : @st (List D) (iR1 a e) cl q = @st Vw (a e) ⟨fun w e => @st D (nowM w e) ⟨fun d e => match d with | .int j => bigI j = true ∧ cl.P (intsL 0 j.toNat) e | _ => False⟩ q⟩ q := by with_unfolding_all exact sat_iR1
theorem st_iR2 : @st (List D) (iR2 a b e) cl q = @st Vw (a e) ⟨fun w e => @st Vw (b e) ⟨fun u e => @st D (nowM w e) ⟨fun d e => @st D (nowM u e) ⟨fun k e => match d, k with | .int i, .int j => (bigI i && bigI j) = true ∧ cl.P (intsL i (j - i).toNat) e | _, _ => False⟩ q⟩ q⟩ q⟩ q := by with_unfolding_all exact sat_iR2
theorem st_iEn : @st (List D) (iEn a e) cl q = @st Vw (a e) ⟨fun w e => @st D (stayM w e) ⟨fun d e => @st (List D) (optM (UbP.listOf d) e) ⟨fun ds e => cl.P (enumF ds) e⟩ q⟩ q⟩ q := by
  with_unfolding_all
      unfold iEn
      rw [st_bnd]; congr; funext w e1
      rw [st_bnd]; congr; funext w e1
      rw [st_bnd]; rfl
theorem st_iZ : @st (List D) (iZ a b e) cl q = @st Vw (a e) ⟨fun w e => @st Vw (b e) ⟨fun u e => @st D (stayM w e) ⟨fun d e => @st D (stayM u e) ⟨fun k e => @st (List D) (optM (UbP.listOf d) e) ⟨fun ds e => @st (List D) (optM (UbP.listOf k) e) ⟨fun cs e => cl.P (List.zipWith (fun x y => .tup [x, y]) ds cs) e⟩ q⟩ q⟩ q⟩ q⟩ q⟩ q := by
  with_unfolding_all
      unfold iZ
      rw [st_bnd]; congr; funext w e1
      rw [st_bnd]; congr; funext w e1
      rw [st_bnd]; congr; funext w e1
      rw [st_bnd]; congr; funext w e1
      rw [st_bnd]; congr; funext w e1
      rw [st_bnd]; rfl
theorem st_iZ3 {d : M Vw} : @st (List D) (iZ3 a b d e) cl q = @st Vw (a e) ⟨fun w e => @st Vw (b e) ⟨fun u e => @st Vw (d e) ⟨fun v e => @st D (stayM w e) ⟨fun d e => @st D (stayM u e) ⟨fun k e => @st D (stayM v e) ⟨fun j e => @st (List D) (optM (UbP.listOf d) e) ⟨fun ds e => @st (List D) (optM (UbP.listOf k) e) ⟨fun cs e => @st (List D) (optM (UbP.listOf j) e) ⟨fun bs e => cl.P (zip3 ds cs bs) e⟩ q⟩ q⟩ q⟩ q⟩ q⟩ q⟩ q⟩ q⟩ q := by
  with_unfolding_all
      unfold iZ3
      rw [st_bnd]; congr; funext w e1
      rw [st_bnd]; congr; funext w e1
      rw [st_bnd]; congr; funext w e1
      rw [st_bnd]; congr; funext w e1
      rw [st_bnd]; congr; funext w e1
      rw [st_bnd]; congr; funext w e1
      rw [st_bnd]; congr; funext w e1
      rw [st_bnd]; congr; funext w e1
      rw [st_bnd]; rfl
theorem st_iRv : @st (List D) (iRv a e) cl q = @st Vw (a e) ⟨fun w e => @st D (stayM w e) ⟨fun d e => @st (List D) (optM (UbP.listOf d) e) ⟨fun ds e => cl.P ds.reverse e⟩ q⟩ q⟩ q := by
  with_unfolding_all
      unfold iRv
      rw [st_bnd]; congr; funext w e1
      rw [st_bnd]; congr; funext w e1
      rw [st_bnd]; rfl
end
/-! ### objects -/
section
variable {e : Env} {c : Kwt Vw} {cf : Kwt Fl} {q : Kwe}
theorem st_newB {x : Str} {f : Fn} {ms : List Bool} {dv : List D} {ws : List Vw} : @st Vw (newB x f ms dv ws e) c q = @st Vw (callB f (true :: ms) dv (.o e.length :: ws) (e ++ [.own (.o x [])]))
    ⟨fun w e' => w = .d .non ∧ match e'[e.length]? with | some (.own k) => c.P (.f k) (e'.take e.length) | _ => False⟩ ⟨fun x e' => q.E x (e'.take e.length)⟩ := by
  with_unfolding_all
      unfold newB st sat
      cases callB f (true :: ms) dv (.o e.length :: ws) (e ++ [.own (.o x [])]) with
      | bad => rfl
      | exc x e' => rfl
      | ok w e' =>
        cases w with
        | d d =>
          cases d with
          | non =>
            dsimp only
            cases e'[e.length]? with
            | none => simp
            | some s => cases s <;> simp
          | _ => simp
        | _ => simp
theorem st_eNew {x : Str} {f : Fn} {ms : List Bool} {as ks : List (M Vw)} {dv : List D} : @st Vw (eNew x f ms as ks dv e) c q = @st (List Vw) (eArgs as e) ⟨fun ws e => @st (List Vw) (eArgs ks e) ⟨fun zs e => @st Vw (newB x f ms dv (ws ++ zs) e) c q⟩ q⟩ q := by
  unfold eNew
  rw [st_bnd]; congr; funext ws e1
  rw [st_bnd]
theorem st_ownO {i : Nat} {co : Kwt (Str × List (Str × D))} : @st (Str × List (Str × D)) (ownO i e) co q = match getO i e with | some (.o x fs) => co.P (x, fs) e | _ => False := by
  with_unfolding_all
      unfold ownO st sat
      cases getO i e with
      | none => rfl
      | some k => cases k <;> rfl
theorem st_sFld {cs : List Str} {f : Str} {o v : M Vw} : @st Fl (sFld cs f o v e) cf q = @st Vw (v e) ⟨fun u e => @st Vw (o e) ⟨fun w e => @st Nat (optM (viewI w) e) ⟨fun k e => @st D (stayM u e) ⟨fun d e => @st (Str × List (Str × D)) (ownO k e) ⟨fun p e => (cs.contains p.1 = true ∧ p.2.length < 1000) ∧ cf.P .nx (setO k (.o p.1 (putFD f d p.2)) e)⟩ q⟩ q⟩ q⟩ q⟩ q := by
  unfold sFld
  rw [st_bnd]; congr; funext u e1
  rw [st_bnd]; congr; funext w e2
  rw [st_bnd]; congr; funext k e3
  rw [st_bnd]; congr; funext d e4
  rw [st_bnd]; congr; funext p e5
  with_unfolding_all
      by_cases h : cs.contains p.1 = true ∧ p.2.length < 1000
      · rw [if_pos h]; exact propext ⟨fun z => ⟨h, z⟩, fun z => z.2⟩
      · rw [if_neg h]; exact propext ⟨fun z => z.elim, fun z => h z.1⟩
end
end UbP

/-! Own layer: fractions and lists as data, readings of values. -/
namespace UbP
open PySem UbM
def rD (r : Rat) : D := .tup [.int r.num, .int (r.den : Int)]
abbrev rsD (l : List Rat) : D := .lst (l.map rD)
abbrev isD (l : List Int) : D := .lst (l.map .int)
section
variable {α : Type}
theorem atL_nat (xs : List α) (k : Nat) : atL xs (k : Int) = xs[k]? := by
  unfold atL ixI
  rw [if_pos (Int.natCast_nonneg k)]
  by_cases h : k < xs.length
  · rw [if_pos (by omega)]; rfl
  · rw [if_neg (by omega), List.getElem?_eq_none (by omega)]; rfl
theorem atL0 (xs : List α) : atL xs 0 = xs[0]? := atL_nat xs 0
theorem atL1 (xs : List α) : atL xs 1 = xs[1]? := atL_nat xs 1
theorem atL2 (xs : List α) : atL xs 2 = xs[2]? := atL_nat xs 2
theorem atL3 (xs : List α) : atL xs 3 = xs[3]? := atL_nat xs 3
theorem atL4 (xs : List α) : atL xs 4 = xs[4]? := atL_nat xs 4
theorem atL5 (xs : List α) : atL xs 5 = xs[5]? := atL_nat xs 5
theorem atL_int (xs : List α) {i : Int} (h : 0 ≤ i) : atL xs i = xs[i.toNat]? := by
  have := atL_nat xs i.toNat
  rwa [Int.toNat_of_nonneg h] at this
theorem ixI_nat {n k : Nat} (h : k < n) : ixI n (k : Int) = some k := by
  unfold ixI
  rw [if_pos (Int.natCast_nonneg k), if_pos (by omega)]
  rfl
theorem ixI0 {n : Nat} : ixI (n + 1) 0 = some 0 := ixI_nat (k := 0) (by omega)
theorem ixI1 {n : Nat} : ixI (n + 1 + 1) 1 = some 1 := ixI_nat (k := 1) (by omega)
theorem ixI2 {n : Nat} : ixI (n + 1 + 1 + 1) 2 = some 2 := ixI_nat (k := 2) (by omega)
theorem ixI3 {n : Nat} : ixI (n + 1 + 1 + 1 + 1) 3 = some 3 := ixI_nat (k := 3) (by omega)
theorem ixI_int {n : Nat} {i : Int} (h : 0 ≤ i) (k : i < n) : ixI n i = some i.toNat := by
  unfold ixI
  rw [if_pos h, if_pos k]
end
theorem ix_r0 (r : Rat) : ixD (rD r) (.int 0) = some (.d (.int r.num)) := rfl
theorem ix_r1 (r : Rat) : ixD (rD r) (.int 1) = some (.d (.int (r.den : Int))) := rfl
theorem ix_lst (ds : List D) (i : Int) : ixD (.lst ds) (.int i) = (atL ds i).map .d := rfl
theorem ix_lsf (ds : List D) (i : Int) : ixD (.lsf ds) (.int i) = (atL ds i).map .d := rfl
theorem ix_tup (ds : List D) (i : Int) : ixD (.tup ds) (.int i) = (atL ds i).map .d := rfl
theorem ix_at {α : Type} {g : α → D} {l : List α} {k : Nat} {x : α} (h : l[k]? = some x) : ixD (.lst (l.map g)) (.int (k : Int)) = some (.d (g x)) := by
  rw [ix_lst, atL_nat, List.getElem?_map, h]; rfl
theorem ix_rs {l : List Rat} {k : Nat} {x : Rat} (h : l[k]? = some x) : ixD (rsD l) (.int (k : Int)) = some (.d (rD x)) := ix_at h
theorem len_rs (l : List Rat) : lenD (rsD l) = some (.d (.int (l.length : Nat))) := by
  show vI ((l.map rD).length : Nat) = _
  rw [List.length_map]; rfl
theorem len_map {α : Type} (g : α → D) (l : List α) : lenD (.lst (l.map g)) = some (.d (.int (l.length : Nat))) := by
  show vI ((l.map g).length : Nat) = _
  rw [List.length_map]; rfl
theorem len_lst (ds : List D) : lenD (.lst ds) = some (.d (.int (ds.length : Nat))) := rfl
theorem len_lsf (ds : List D) : lenD (.lsf ds) = some (.d (.int (ds.length : Nat))) := rfl
theorem len_tup (ds : List D) : lenD (.tup ds) = some (.d (.int (ds.length : Nat))) := rfl
theorem len_r (r : Rat) : lenD (rD r) = some (.d (.int 2)) := rfl
theorem walk_rs (l : List Rat) : walkD (rsD l) = some (l.map rD) := rfl
theorem walk_lst (l : List D) : walkD (.lst l) = some l := rfl
theorem list_rs (l : List Rat) : listD (rsD l) = some (.f (.l (l.map rD))) := rfl
theorem listOf_rs (l : List Rat) : UbP.listOf (rsD l) = some (l.map rD) := rfl
theorem tru_rs (l : List Rat) : tru (rsD l) = some (!l.isEmpty) := by
  show some (!(l.map rD).isEmpty) = _
  cases l <;> rfl
theorem tru_map {α : Type} (g : α → D) (l : List α) : tru (.lst (l.map g)) = some (!l.isEmpty) := by
  show some (!(l.map g).isEmpty) = _
  cases l <;> rfl
theorem isi_rt (r : Rat) : isiD "tuple" (rD r) = some (.d (.bl true)) := rfl
theorem isi_rl (r : Rat) : isiD "list" (rD r) = some (.d (.bl false)) := rfl
theorem isi_rb (r : Rat) : isiD "bool" (rD r) = some (.d (.bl false)) := rfl
theorem isi_ri (r : Rat) : isiD "int" (rD r) = some (.d (.bl false)) := rfl
theorem isi_rstr (r : Rat) : isiD "str" (rD r) = some (.d (.bl false)) := rfl
theorem isi_rsl (l : List Rat) : isiD "list" (rsD l) = some (.d (.bl true)) := rfl
theorem isi_rst (l : List Rat) : isiD "tuple" (rsD l) = some (.d (.bl false)) := rfl
theorem eq_int (a b : Int) : eqD (.int a) (.int b) = some (decide (a = b)) := by
  show some (a == b) = _
  by_cases h : a = b
  · subst h; simp
  · simp [h]
theorem ne_int (a b : Int) : neD (.int a) (.int b) = some (!decide (a = b)) := by
  unfold neD; rw [eq_int]; rfl
theorem eq_str (a b : Str) : eqD (.str a) (.str b) = some (decide (a = b)) := by
  show some (a == b) = _
  by_cases h : a = b
  · subst h; simp
  · simp [h]
theorem ne_str (a b : Str) : neD (.str a) (.str b) = some (!decide (a = b)) := by
  unfold neD; rw [eq_str]; rfl
theorem eq_bl (a b : Bool) : eqD (.bl a) (.bl b) = some (decide (a = b)) := by
  show some (a == b) = _
  congr 1
theorem ne_bl (a b : Bool) : neD (.bl a) (.bl b) = some (!decide (a = b)) := by
  unfold neD; rw [eq_bl]; rfl
theorem eq_in (a : Int) : eqD (.int a) .non = some false := rfl
theorem eq_ni (a : Int) : eqD .non (.int a) = some false := rfl
theorem eq_nn : eqD .non .non = some true := rfl
theorem ne_in (a : Int) : neD (.int a) .non = some true := rfl
theorem ne_ni (a : Int) : neD .non (.int a) = some true := rfl
theorem ne_nn : neD .non .non = some false := rfl
mutual
theorem eqv_self : ∀ d : D, sh d 60 = true ∨ True → (∀ n, sh d n = true → eqv d d = true)
  | .non, _, n, h => rfl
  | .bl b, _, n, h => by unfold eqv; exact beq_self_eq_true b
  | .int i, _, n, h => by unfold eqv; exact beq_self_eq_true i
  | .str x, _, n, h => by unfold eqv; exact beq_self_eq_true x
  | .lst ds, _, n, h => by
    unfold eqv
    unfold sh at h
    exact eqv_selfs ds _ (Bool.and_eq_true_iff.mp h).2
  | .tup ds, _, n, h => by
    unfold eqv
    unfold sh at h
    exact eqv_selfs ds _ (Bool.and_eq_true_iff.mp h).2
  | .lsf ds, _, n, h => by unfold sh at h; cases h
  | .obj c fs, _, n, h => by unfold sh at h; cases h
theorem eqv_selfs : ∀ (ds : List D) (n : Nat), shAll ds n = true → eqvAll ds ds = true
  | [], n, h => rfl
  | d :: ds, n, h => by
    unfold shAll at h
    unfold eqvAll
    rw [eqv_self d (.inr trivial) n (Bool.and_eq_true_iff.mp h).1, eqv_selfs ds n (Bool.and_eq_true_iff.mp h).2]
    rfl
end
theorem shAll_map {α : Type} {g : α → D} {n : Nat} : ∀ (l : List α), (∀ x ∈ l, sh (g x) n = true) → shAll (l.map g) n = true
  | [], _ => rfl
  | x :: l, h => by
    rw [List.map_cons]
    unfold shAll
    rw [h x (List.mem_cons_self ..), shAll_map l fun y hy => h y (List.mem_cons_of_mem _ hy)]
    rfl
theorem sh_r (r : Rat) (n : Nat) : sh (rD r) (n + 1) = true := by
  unfold rD
  simp [sh, shAll]
theorem sh_rs (l : List Rat) (n : Nat) : sh (rsD l) (n + 2) = true := by
  unfold rsD
  simp only [sh, Nat.add_one_sub_one, Nat.zero_lt_succ, decide_true, Bool.true_and]
  exact shAll_map l fun r _ => sh_r r n
theorem rat_ext {r s : Rat} (h : r.num = s.num) (k : r.den = s.den) : r = s := Rat.ext h k
theorem eqv_r (r s : Rat) : eqv (rD r) (rD s) = decide (r = s) := by
  unfold rD
  simp only [eqv, eqvAll, Bool.and_true]
  by_cases h : r = s
  · subst h; simp
  · rw [decide_eq_false h]
    by_cases h1 : r.num = s.num
    · have h2 : r.den ≠ s.den := fun k => h (rat_ext h1 k)
      rw [h1]
      simp only [beq_self_eq_true, Bool.true_and]
      exact beq_eq_false_iff_ne.mpr (by omega)
    · simp [h1]
theorem eqv_rs : ∀ (l m : List Rat), eqvAll (l.map rD) (m.map rD) = decide (l = m)
  | [], [] => rfl
  | [], _ :: _ => by simp [eqvAll]
  | _ :: _, [] => by simp [eqvAll]
  | r :: l, s :: m => by
    simp only [List.map_cons, eqvAll, eqv_r, eqv_rs l m, List.cons.injEq, Bool.decide_and]
theorem eq_r (r s : Rat) : eqD (rD r) (rD s) = some (decide (r = s)) := by
  unfold eqD
  rw [sh_r, sh_r, eqv_r]
  simp
theorem ne_r (r s : Rat) : neD (rD r) (rD s) = some (!decide (r = s)) := by
  unfold neD; rw [eq_r]; rfl
theorem eq_rs (l m : List Rat) : eqD (rsD l) (rsD m) = some (decide (l = m)) := by
  unfold eqD
  rw [sh_rs l 58, sh_rs m 58]
  show (if _ then some (eqvAll (l.map rD) (m.map rD)) else none) = _
  rw [eqv_rs]
  simp
theorem ne_rs (l m : List Rat) : neD (rsD l) (rsD m) = some (!decide (l = m)) := by
  unfold neD; rw [eq_rs]; rfl
/-- sizes -/
theorem log2_lt {i : Int} {n : Nat} (h : i.natAbs < 2 ^ n) : UbP.log2 i ≤ n := by
  unfold UbP.log2
  by_cases h0 : i.natAbs = 0
  · rw [h0]; simp
  · have := (Nat.log2_lt h0).mpr h
    omega
theorem mul_ok {i j : Int} {a b : Nat} (ha : i.natAbs < 2 ^ a) (hb : j.natAbs < 2 ^ b) (h : a + b < 900000) : (smI i || smI j || decide (UbP.log2 i + UbP.log2 j < 900000)) = true := by
  have h1 := log2_lt ha
  have h2 := log2_lt hb
  rw [decide_eq_true (show UbP.log2 i + UbP.log2 j < 900000 by omega), Bool.or_true]
theorem mul_sm1 {i j : Int} (h : i.natAbs < 2 ^ 64) : (smI i || smI j || decide (UbP.log2 i + UbP.log2 j < 900000)) = true := by
  unfold smI
  rw [decide_eq_true h]; rfl
theorem mul_sm2 {i j : Int} (h : j.natAbs < 2 ^ 64) : (smI i || smI j || decide (UbP.log2 i + UbP.log2 j < 900000)) = true := by
  unfold smI
  rw [decide_eq_true h, Bool.or_true]; rfl
theorem log2_9 {i : Int} {n : Nat} (h : i.natAbs < 2 ^ n) (hn : n < 9000) : UbP.log2 i < 9000 := Nat.lt_of_le_of_lt (log2_lt h) hn
theorem big_nat {n : Nat} (h : n < 2 ^ 62) : bigI (n : Int) = true := by
  unfold bigI
  exact decide_eq_true (by omega)
theorem big_int {n : Int} (h : n.natAbs < 2 ^ 62) : bigI n = true := by
  unfold bigI
  exact decide_eq_true (by omega)
theorem ints0 (n : Nat) : intsL 0 n = (List.range n).map fun k => .int (k : Nat) := by
  unfold intsL
  congr
  funext k
  rw [Int.zero_add]
theorem rep_r (r : Rat) (n : Nat) : UbP.rep [rD r] n = (List.replicate n r).map rD := by
  induction n with
  | zero => rfl
  | succ n ih => unfold UbP.rep; rw [ih]; rfl
/-- a loop without memory: comprehension whose elements leave all as it was -/
theorem lc_map {α : Type} {tg : Tg} {c : M Bool} {x : M Vw} {vs : List Nat} {g : α → D} {xs : List α} {e : Env} {k : Kwt (List D)} {q : Kwe} (F : α → D) (hl : xs.length ≤ LIM)
    (hs : ∀ y, y ∈ xs → @st (Option D) (lcStep tg c x vs (g y) e) ⟨fun o e' => o = some (F y) ∧ e' = e⟩ ⟨fun _ _ => False⟩) (he : k.P (xs.map F) e) : @st (List D) (lcGo tg c x vs (xs.map g) [] e) k q := by
  with_unfolding_all
    refine sat_lcGo hl (fun pre acc e' => acc = pre.map F ∧ e' = e) ⟨rfl, rfl⟩ (fun pre y post acc e' hx ⟨ha, he'⟩ => ?_) (fun acc e' ⟨ha, he'⟩ => ?_)
    · subst ha
      subst he'
      refine sat_mono (hs y (by rw [hx]; simp)) (fun o e2 ⟨h1, h2⟩ => ?_) (fun _ _ z => z)
      subst h1
      subst h2
      exact ⟨by simp, rfl⟩
    · subst ha
      subst he'
      exact he
theorem gx_all {α : Type} {tg : Tg} {x : M Vw} {vs : List Nat} {g : α → D} {xs : List α} {e : Env} {k : Kwt Bool} {q : Kwe} (f : α → Bool)
    (hs : ∀ y, y ∈ xs → @st Bool (gxStep tg x vs (g y) e) ⟨fun b e' => b = f y ∧ e' = e⟩ ⟨fun _ _ => False⟩) (he : k.P (xs.all f) e) : @st Bool (gxGo false tg x vs (xs.map g) e) k q := by with_unfolding_all exact sat_gxGo f hs he
theorem gx_any {α : Type} {tg : Tg} {x : M Vw} {vs : List Nat} {g : α → D} {xs : List α} {e : Env} {k : Kwt Bool} {q : Kwe} (f : α → Bool)
    (hs : ∀ y, y ∈ xs → @st Bool (gxStep tg x vs (g y) e) ⟨fun b e' => b = f y ∧ e' = e⟩ ⟨fun _ _ => False⟩) (he : k.P (xs.any f) e) : @st Bool (gxGo true tg x vs (xs.map g) e) k q := by with_unfolding_all exact sat_gxGo f hs he
theorem for_inv {α : Type} {tg : Tg} {b : M Fl} {g : α → D} {e : Env} {xs : List α} {k : Kwt Fl} {q : Kwe} (I : List α → Env → Prop) (h0 : I [] e)
    (hs : ∀ pre x post e, xs = pre ++ x :: post → I pre e → @st Fl (turn tg (g x) b e) ⟨goOn (I (pre ++ [x])) k.P⟩ q) (he : ∀ e, I xs e → k.P .nx e) : @st Fl (forL tg b (xs.map g) e) k q := by with_unfolding_all exact sat_forL I h0 hs he
theorem lc_inv {α : Type} {tg : Tg} {c : M Bool} {x : M Vw} {vs : List Nat} {g : α → D} {xs : List α} {e : Env} {k : Kwt (List D)} {q : Kwe} (hl : xs.length ≤ LIM) (I : List α → List D → Env → Prop) (h0 : I [] [] e)
    (hs : ∀ pre y post acc e, xs = pre ++ y :: post → I pre acc e → @st (Option D) (lcStep tg c x vs (g y) e) ⟨fun o e' => I (pre ++ [y]) (acc ++ o.toList) e'⟩ ⟨fun _ _ => False⟩) (he : ∀ acc e, I xs acc e → k.P acc e) : @st (List D) (lcGo tg c x vs (xs.map g) [] e) k q := by with_unfolding_all exact sat_lcGo hl I h0 hs he
theorem st_mono {α : Type} {r : Res α} {c c' : Kwt α} {q q' : Kwe} (h : @st α r c q) (i : ∀ a e, c.P a e → c'.P a e) (j : ∀ x e, q.E x e → q'.E x e) : @st α r c' q' := by with_unfolding_all exact sat_mono h i j
theorem whl_inv {t : M Bool} {b : M Fl} {k : Kwt Fl} {q : Kwe} {e : Env} {n : Nat} (I : Env → Prop) (μ : Env → Nat) (h0 : I e) (hn : μ e < n)
    (hs : ∀ e, I e → @st Bool (t e) ⟨fun r e1 => (r = true → @st Fl (b e1) ⟨goOn (fun e2 => I e2 ∧ μ e2 < μ e) k.P⟩ q) ∧ (r = false → k.P .nx e1)⟩ q) : @st Fl (whl t b n e) k q := by with_unfolding_all exact sat_whl I μ hs n e h0 hn
/-! ### slots that hold anything -/
def jk : Option D → Sl
  | none => .no
  | some d => .dat d
def putOk : Sl → Bool
  | .no => true
  | .dat _ => true
  | .own _ => true
  | _ => false
theorem putOk_no : putOk .no = true := rfl
theorem putOk_dat (d : D) : putOk (.dat d) = true := rfl
theorem putOk_own (d : Ct) : putOk (.own d) = true := rfl
theorem putOk_jk (d : Option D) : putOk (jk d) = true := by cases d <;> rfl
theorem isDat_jk (d : Option D) : isDat (jk d) = true := by cases d <;> rfl
theorem isDat_no : isDat .no = true := rfl
theorem isDat_dat (d : D) : isDat (.dat d) = true := rfl
theorem putN_eq (i : Nat) (d : D) (e : Env) : putN i d e = match e[i]? with | some s => (if putOk s = true then some (e.set i (.dat d)) else none) | none => none := by
  unfold putN
  cases e[i]? with
  | none => rfl
  | some s => cases s <;> rfl
theorem st_ownP {e : Env} {cf : Kwt Fl} {q : Kwe} {i : Nat} {k : Ct} : @st Fl (ownN i k e) cf q = match e[i]? with | some s => (putOk s = true ∧ cf.P .nx (e.set i (.own k))) | none => False := by
  rw [st_ownN]
  cases e[i]? with
  | none => rfl
  | some s => cases s <;> simp [putOk]
theorem pars_jk (d : Option D) (e : Env) : pars (jk d :: e) = pars e := by cases d <;> rfl
theorem pars_no (e : Env) : pars (.no :: e) = pars e := rfl
theorem pars_dat (d : D) (e : Env) : pars (.dat d :: e) = pars e := rfl
theorem pars_own (d : Ct) (e : Env) : pars (.own d :: e) = pars e := rfl
theorem pars_par (d : Ct) (e : Env) : pars (.par d :: e) = d :: pars e := rfl
theorem pars_nilW : pars [] = [] := rfl
def exF1 : Sl → Bool
  | .ex _ => false
  | _ => true
theorem exFree_nil : exFree [] = true := rfl
theorem exFree_cons (s : Sl) (e : Env) : exFree (s :: e) = (exF1 s && exFree e) := by
  unfold exFree
  rw [List.all_cons]
  cases s <;> rfl
theorem exF1_no : exF1 .no = true := rfl
theorem exF1_dat (d : D) : exF1 (.dat d) = true := rfl
theorem exF1_own (d : Ct) : exF1 (.own d) = true := rfl
theorem exF1_par (d : Ct) : exF1 (.par d) = true := rfl
theorem exF1_jk (d : Option D) : exF1 (jk d) = true := by cases d <;> rfl
abbrev Jk (s : Sl) : Prop := ∃ o, s = jk o
theorem jkN : Jk .no := ⟨none, rfl⟩
theorem jkD {d : D} : Jk (.dat d) := ⟨some d, rfl⟩
theorem jkJ {o : Option D} : Jk (jk o) := ⟨o, rfl⟩
theorem fold_rs (l : List Rat) : D.lst (l.map rD) = rsD l := rfl
theorem fold_is (l : List Int) : D.lst (l.map D.int) = isD l := rfl
theorem lim_le {n : Nat} (h : n ≤ 1000000) : n ≤ LIM := h
theorem lim_ltW {n : Nat} (h : n < 1000000) : n < LIM := h
theorem st_stay_of {w : Vw} {d : D} {e : Env} {c : Kwt D} {q : Kwe} (h : w.stay = some d) : @st D (stayM w e) c q = c.P d e := by
  with_unfolding_all
    show sat (optM w.stay e) _ _ = _
    rw [h]; rfl
theorem st_now_of {w : Vw} {d : D} {e : Env} {c : Kwt D} {q : Kwe} (h : w.stay = some d) : @st D (nowM w e) c q = c.P d e := by
  with_unfolding_all
    cases w with
    | d x => cases h; rfl
    | f x => cases h; rfl
    | o i => cases h
theorem pass_of {w : Vw} {d : D} (h : w.stay = some d) : passOk [] w [] = true := by
  cases w with
  | d x => rfl
  | f x => rfl
  | o i => cases h
theorem pass_of1 {w : Vw} {d : D} {c : Ct} (h : w.stay = some d) : passOk [] w [c] = true := by
  cases w with
  | d x => rfl
  | f x => rfl
  | o i => cases h
theorem fsat_out {r : FRes} {R : Vw → List Ct → Prop} (h : fsat r R fun _ _ => False) : ∃ w cs, r = .ret w cs ∧ R w cs := by
  with_unfolding_all
    cases r with
    | ret w cs => exact ⟨w, cs, rfl, h⟩
    | exc x cs => exact h.elim
    | bad => exact h.elim
theorem int_rD (i : Int) : (.tup [.int i, .int 1] : D) = rD (i : Rat) := rfl
theorem getD_ok {α : Type} {l : List α} {k : Nat} {d : α} (h : k < l.length) : l[k]? = some (l.getD k d) := by
  rw [List.getD_eq_getElem?_getD, List.getElem?_eq_getElem h]; rfl
theorem wk_lst (ds : List D) : walkD (.lst ds) = some ds := rfl
theorem ls_lst (ds : List D) : listD (.lst ds) = some (.f (.l ds)) := rfl
theorem tr_lst (ds : List D) : tru (.lst ds) = some (!ds.isEmpty) := rfl
theorem tp_lst (ds : List D) : tupD (.lst ds) = some (.d (.tup ds)) := rfl
theorem rv_lst (ds : List D) : revD (.lst ds) = some (.f (.l ds.reverse)) := rfl
theorem sl_lst (ds : List D) (l h : Option Int) : slD l h (.lst ds) = some (.f (.l (cut ds l h))) := rfl
theorem wk_lsf (ds : List D) : walkD (.lsf ds) = some ds := rfl
theorem ls_lsf (ds : List D) : listD (.lsf ds) = some (.f (.l ds)) := rfl
theorem tr_lsf (ds : List D) : tru (.lsf ds) = some (!ds.isEmpty) := rfl
theorem rv_lsf (ds : List D) : revD (.lsf ds) = some (.f (.l ds.reverse)) := rfl
theorem sl_lsf (ds : List D) (l h : Option Int) : slD l h (.lsf ds) = some (.f (.l (cut ds l h))) := rfl
theorem wk_tup (ds : List D) : walkD (.tup ds) = some ds := rfl
theorem ls_tup (ds : List D) : listD (.tup ds) = some (.f (.l ds)) := rfl
theorem tr_tup (ds : List D) : tru (.tup ds) = some (!ds.isEmpty) := rfl
theorem tp_tup (ds : List D) : tupD (.tup ds) = some (.d (.tup ds)) := rfl
theorem lo_lst (ds : List D) : UbP.listOf (.lst ds) = some ds := rfl
theorem tr_non  : tru .non = some false := rfl
theorem tr_bl (b : Bool) : tru (.bl b) = some b := rfl
theorem tr_int (b : Int) : tru (.int b) = some (b != 0) := rfl
theorem tr_r (b : Rat) : tru (rD b) = some true := rfl
theorem ii_non_int  : isiD "int" (.non) = some (.d (.bl false)) := rfl
theorem ii_non_bool  : isiD "bool" (.non) = some (.d (.bl false)) := rfl
theorem ii_non_str  : isiD "str" (.non) = some (.d (.bl false)) := rfl
theorem ii_non_list  : isiD "list" (.non) = some (.d (.bl false)) := rfl
theorem ii_non_tuple  : isiD "tuple" (.non) = some (.d (.bl false)) := rfl
theorem nn_non  : isNoD (.non) .non = some true := rfl
theorem nt_non  : notNoD (.non) .non = some false := rfl
theorem ii_bl_int (b : Bool) : isiD "int" (.bl b) = some (.d (.bl true)) := rfl
theorem ii_bl_bool (b : Bool) : isiD "bool" (.bl b) = some (.d (.bl true)) := rfl
theorem ii_bl_str (b : Bool) : isiD "str" (.bl b) = some (.d (.bl false)) := rfl
theorem ii_bl_list (b : Bool) : isiD "list" (.bl b) = some (.d (.bl false)) := rfl
theorem ii_bl_tuple (b : Bool) : isiD "tuple" (.bl b) = some (.d (.bl false)) := rfl
theorem nn_bl (b : Bool) : isNoD (.bl b) .non = some false := rfl
theorem nt_bl (b : Bool) : notNoD (.bl b) .non = some true := rfl
theorem ii_int_int (b : Int) : isiD "int" (.int b) = some (.d (.bl true)) := rfl
theorem ii_int_bool (b : Int) : isiD "bool" (.int b) = some (.d (.bl false)) := rfl
theorem ii_int_str (b : Int) : isiD "str" (.int b) = some (.d (.bl false)) := rfl
theorem ii_int_list (b : Int) : isiD "list" (.int b) = some (.d (.bl false)) := rfl
theorem ii_int_tuple (b : Int) : isiD "tuple" (.int b) = some (.d (.bl false)) := rfl
theorem nn_int (b : Int) : isNoD (.int b) .non = some false := rfl
theorem nt_int (b : Int) : notNoD (.int b) .non = some true := rfl
theorem ii_str_int (b : Str) : isiD "int" (.str b) = some (.d (.bl false)) := rfl
theorem ii_str_bool (b : Str) : isiD "bool" (.str b) = some (.d (.bl false)) := rfl
theorem ii_str_str (b : Str) : isiD "str" (.str b) = some (.d (.bl true)) := rfl
theorem ii_str_list (b : Str) : isiD "list" (.str b) = some (.d (.bl false)) := rfl
theorem ii_str_tuple (b : Str) : isiD "tuple" (.str b) = some (.d (.bl false)) := rfl
theorem nn_str (b : Str) : isNoD (.str b) .non = some false := rfl
theorem nt_str (b : Str) : notNoD (.str b) .non = some true := rfl
theorem ii_lst_int (b : List D) : isiD "int" (.lst b) = some (.d (.bl false)) := rfl
theorem ii_lst_bool (b : List D) : isiD "bool" (.lst b) = some (.d (.bl false)) := rfl
theorem ii_lst_str (b : List D) : isiD "str" (.lst b) = some (.d (.bl false)) := rfl
theorem ii_lst_list (b : List D) : isiD "list" (.lst b) = some (.d (.bl true)) := rfl
theorem ii_lst_tuple (b : List D) : isiD "tuple" (.lst b) = some (.d (.bl false)) := rfl
theorem nn_lst (b : List D) : isNoD (.lst b) .non = some false := rfl
theorem nt_lst (b : List D) : notNoD (.lst b) .non = some true := rfl
theorem ii_tup_int (b : List D) : isiD "int" (.tup b) = some (.d (.bl false)) := rfl
theorem ii_tup_bool (b : List D) : isiD "bool" (.tup b) = some (.d (.bl false)) := rfl
theorem ii_tup_str (b : List D) : isiD "str" (.tup b) = some (.d (.bl false)) := rfl
theorem ii_tup_list (b : List D) : isiD "list" (.tup b) = some (.d (.bl false)) := rfl
theorem ii_tup_tuple (b : List D) : isiD "tuple" (.tup b) = some (.d (.bl true)) := rfl
theorem nn_tup (b : List D) : isNoD (.tup b) .non = some false := rfl
theorem nt_tup (b : List D) : notNoD (.tup b) .non = some true := rfl
theorem ii_r_int (b : Rat) : isiD "int" (rD b) = some (.d (.bl false)) := rfl
theorem ii_r_bool (b : Rat) : isiD "bool" (rD b) = some (.d (.bl false)) := rfl
theorem ii_r_str (b : Rat) : isiD "str" (rD b) = some (.d (.bl false)) := rfl
theorem ii_r_list (b : Rat) : isiD "list" (rD b) = some (.d (.bl false)) := rfl
theorem ii_r_tuple (b : Rat) : isiD "tuple" (rD b) = some (.d (.bl true)) := rfl
theorem nn_r (b : Rat) : isNoD (rD b) .non = some false := rfl
theorem nt_r (b : Rat) : notNoD (rD b) .non = some true := rfl
theorem nn_bb (a b : Bool) : isNoD (.bl a) (.bl b) = some (decide (a = b)) := rfl
theorem nt_bb (a b : Bool) : notNoD (.bl a) (.bl b) = some (!decide (a = b)) := rfl
theorem op_add (a b : Int) : addD (.int a) (.int b) = some (.d (.int (a + b))) := rfl
theorem op_sub (a b : Int) : subD (.int a) (.int b) = some (.d (.int (a - b))) := rfl
theorem op_mul (a b : Int) : mulD (.int a) (.int b) = if smI a || smI b || decide (UbP.log2 a + UbP.log2 b < 900000) then some (.d (.int (a * b))) else none := rfl
theorem op_fdv (a b : Int) : fdivD (.int a) (.int b) = if b ≠ 0 ∧ UbP.log2 b < 9000 then some (.d (.int (a.fdiv b))) else none := rfl
theorem op_mod (a b : Int) : modD (.int a) (.int b) = if b ≠ 0 then some (.d (.int (a.fmod b))) else none := rfl
theorem op_pow (a b : Int) : powD (.int a) (.int b) = if 0 ≤ b ∧ b ≤ 100000 ∧ a.natAbs < 2 ^ 64 then some (.d (.int (a ^ b.toNat))) else none := rfl
theorem op_gcd (a b : Int) : gcdD (.int a) (.int b) = some (.d (.int (Nat.gcd a.natAbs b.natAbs : Nat))) := rfl
theorem op_lcm (a b : Int) : lcmD (.int a) (.int b) = if UbP.log2 a < 9000 ∧ UbP.log2 b < 9000 then some (.d (.int (Nat.lcm a.natAbs b.natAbs : Nat))) else none := rfl
theorem op_min (a b : Int) : minD (.int a) (.int b) = some (.d (.int (if b < a then b else a))) := rfl
theorem op_max (a b : Int) : maxD (.int a) (.int b) = some (.d (.int (if b > a then b else a))) := rfl
theorem op_lt (a b : Int) : ltD (.int a) (.int b) = some (decide (a < b)) := rfl
theorem op_le (a b : Int) : leD (.int a) (.int b) = some (decide (a ≤ b)) := rfl
theorem op_gt (a b : Int) : gtD (.int a) (.int b) = some (decide (b < a)) := rfl
theorem op_ge (a b : Int) : geD (.int a) (.int b) = some (decide (b ≤ a)) := rfl
theorem op_adds (a b : Str) : addD (.str a) (.str b) = if a.length + b.length ≤ LIM then some (.d (.str (a ++ b))) else none := rfl
theorem op_addl (a b : List D) : addD (.lst a) (.lst b) = if a.length + b.length ≤ LIM then some (.f (.l (a ++ b))) else none := rfl
theorem op_mull (a : List D) (b : Int) : mulD (.lst a) (.int b) = if b < 1000000 ∧ a.length * b.toNat ≤ LIM ∧ -1000000 < b then some (.f (.l (UbP.rep a b.toNat))) else none := rfl
theorem op_neg (a : Int) : negD (.int a) = some (.d (.int (-a))) := rfl
theorem op_abs (a : Int) : absD (.int a) = some (.d (.int (if a < 0 then -a else a))) := rfl
theorem op_int (a : Int) : intD (.int a) = some (.d (.int a)) := rfl
theorem op_intb (a : Bool) : intD (.bl a) = some (.d (.int (if a then 1 else 0))) := rfl
theorem vw_stay_d (d : D) : (Vw.d d).stay = some d := rfl
theorem vw_stay_f (c : Ct) : (Vw.f c).stay = some c.toD := rfl
theorem vw_stay_o (i : Nat) : (Vw.o i).stay = none := rfl
theorem vw_now_d (d : D) (e : Env) : (Vw.d d).now e = some d := rfl
theorem vw_now_f (c : Ct) (e : Env) : (Vw.f c).now e = some c.toD := rfl
theorem vw_now_o (i : Nat) (e : Env) : (Vw.o i).now e = (getO i e).map Ct.toD := rfl
theorem vw_dull_d (d : D) : (Vw.d d).dull = .d d := rfl
theorem vw_dull_f (c : Ct) : (Vw.f c).dull = .d c.toD := rfl
theorem vw_dull_o (i : Nat) : (Vw.o i).dull = .o i := rfl
theorem vw_new_f (c : Ct) : newC (.f c) = some c := rfl
theorem vw_view_d (d : D) : viewI (.d d) = none := rfl
theorem vw_view_f (c : Ct) : viewI (.f c) = none := rfl
theorem vw_view_o (i : Nat) : viewI (.o i) = some i := rfl
theorem vw_noL_d (d : D) : Vw.noL (.d d) = UbP.noL d := rfl
theorem vw_noL_f (c : Ct) : Vw.noL (.f c) = false := rfl
theorem toD_l (ds : List D) : Ct.toD (.l ds) = .lst ds := rfl
theorem toD_o (c : Str) (fs : List (Str × D)) : Ct.toD (.o c fs) = .obj c fs := rfl
theorem viewI_of {w : Vw} {d : D} (h : w.stay = some d) : viewI w = none := by
  cases w with
  | d x => rfl
  | f x => rfl
  | o i => cases h
theorem zero_tup : (.tup [.int 0, .int 1] : D) = rD 0 := rfl
theorem zip_map2 {α β : Type} (g : α → D) (h : β → D) (a : List α) (b : List β) : List.zipWith (fun x y => D.tup [x, y]) (a.map g) (b.map h) = (a.zip b).map fun p => .tup [g p.1, h p.2] := by
  induction a generalizing b with
  | nil => rfl
  | cons x a ih =>
    cases b with
    | nil => rfl
    | cons y b => simp [ih]
theorem zw_zip {α β γ : Type} (f : α → β → γ) (a : List α) (b : List β) : List.zipWith f a b = (a.zip b).map fun p => f p.1 p.2 := by
  induction a generalizing b with
  | nil => rfl
  | cons x a ih =>
    cases b with
    | nil => rfl
    | cons y b => simp [ih]
end UbP

/-! Plain mathematics: finite sums, rows, lines. -/
namespace UbM
def sumN (n : Nat) (f : Nat → Rat) : Rat := match n with
  | 0 => 0
  | k + 1 => sumN k f + f k
theorem sumN_congr {n : Nat} {f g : Nat → Rat} (h : ∀ i, i < n → f i = g i) : sumN n f = sumN n g := by
  induction n with
  | zero => rfl
  | succ n ih =>
    unfold sumN
    rw [ih fun i hi => h i (by omega), h n (by omega)]
theorem sumN_z {n : Nat} {f : Nat → Rat} (h : ∀ i, i < n → f i = 0) : sumN n f = 0 := by
  induction n with
  | zero => rfl
  | succ n ih =>
    unfold sumN
    rw [ih fun i hi => h i (by omega), h n (by omega), Rat.add_zero]
theorem sumN_add (n : Nat) (f g : Nat → Rat) : sumN n (fun i => f i + g i) = sumN n f + sumN n g := by
  induction n with
  | zero => unfold sumN; rw [Rat.add_zero]
  | succ n ih =>
    unfold sumN
    rw [ih]
    grind
theorem sumN_mul (n : Nat) (a : Rat) (f : Nat → Rat) : sumN n (fun i => a * f i) = a * sumN n f := by
  induction n with
  | zero => unfold sumN; grind
  | succ n ih =>
    unfold sumN
    rw [ih]
    grind
theorem sumN_lin (n : Nat) (a b : Rat) (f g : Nat → Rat) : sumN n (fun i => a * f i + b * g i) = a * sumN n f + b * sumN n g := by
  rw [sumN_add, sumN_mul, sumN_mul]
theorem sumN_swap (n m : Nat) (f : Nat → Nat → Rat) : sumN n (fun i => sumN m (f i)) = sumN m (fun j => sumN n (fun i => f i j)) := by
  induction n with
  | zero => exact (sumN_z fun _ _ => rfl).symm
  | succ n ih =>
    show sumN n _ + sumN m (f n) = sumN m (fun j => sumN n (fun i => f i j) + f n j)
    rw [ih, sumN_add]
theorem sumN_one {n i : Nat} {f : Nat → Rat} (hi : i < n) (h : ∀ j, j < n → j ≠ i → f j = 0) : sumN n f = f i := by
  induction n with
  | zero => omega
  | succ n ih =>
    unfold sumN
    by_cases e : i = n
    · subst e
      rw [sumN_z fun j hj => h j (by omega) (by omega)]
      grind
    · rw [ih (by omega) fun j hj => h j (by omega), h n (by omega) (by omega)]
      grind
theorem sumN_more {n m : Nat} {f : Nat → Rat} (hm : n ≤ m) (h : ∀ j, n ≤ j → f j = 0) : sumN m f = sumN n f := by
  induction m with
  | zero =>
    have : n = 0 := by omega
    rw [this]
  | succ m ih =>
    by_cases e : n = m + 1
    · rw [e]
    · show sumN m f + f m = _
      rw [ih (by omega), h m (by omega), Rat.add_zero]
def sumR (l : List Rat) : Rat := l.foldl (· + ·) 0
theorem sumR_snoc (l : List Rat) (x : Rat) : sumR (l ++ [x]) = sumR l + x := by
  unfold sumR
  rw [List.foldl_append]
  rfl
theorem sumR_eq (l : List Rat) : sumR l = sumN l.length fun i => l.getD i 0 := by
  have go : ∀ (p : List Rat) (n : Nat), n ≤ p.length → sumR (p.take n) = sumN n fun i => p.getD i 0 := by
    intro p n
    induction n with
    | zero => intro _; rw [List.take_zero]; rfl
    | succ n ih =>
      intro hn
      rw [List.take_succ_eq_append_getElem (by omega), sumR_snoc, ih (by omega)]
      show _ = sumN n _ + p.getD n 0
      rw [List.getD_eq_getElem?_getD, List.getElem?_eq_getElem (by omega)]
      rfl
  have := go l l.length (Nat.le_refl _)
  rwa [List.take_length] at this
def dotR (a b : List Rat) : Rat := sumR (List.zipWith (· * ·) a b)
theorem dotR_eq {a b : List Rat} {n : Nat} (h : min a.length b.length ≤ n) : dotR a b = sumN n fun i => a.getD i 0 * b.getD i 0 := by
  unfold dotR
  rw [sumR_eq, List.length_zipWith]
  rw [sumN_more (f := fun i => a.getD i 0 * b.getD i 0) h ?_]
  · refine sumN_congr fun i hi => ?_
    simp only [List.getD_eq_getElem?_getD, List.getElem?_zipWith]
    rw [List.getElem?_eq_getElem (show i < a.length by omega), List.getElem?_eq_getElem (show i < b.length by omega)]
    rfl
  · intro j hj
    simp only [List.getD_eq_getElem?_getD]
    by_cases hb : a.length ≤ j
    · rw [List.getElem?_eq_none hb]; simp
    · rw [List.getElem?_eq_none (show b.length ≤ j by omega)]; simp
theorem dotR_comm (a b : List Rat) : dotR a b = dotR b a := by
  rw [dotR_eq (n := min a.length b.length) (Nat.le_refl _), dotR_eq (n := min a.length b.length) (by omega)]
  exact sumN_congr fun i _ => by grind
theorem bd_sum {l : List Rat} {n : Nat} (h : ∀ x ∈ l, Bd n x) : Bd (l.length * (n + 1) + 1) (sumR l) := by
  have go : ∀ (p : List Rat) (k : Nat), (∀ x ∈ p, Bd n x) → k ≤ p.length → Bd (k * (n + 1) + 1) (sumR (p.take k)) := by
    intro p k
    induction k with
    | zero => intro _ _; rw [List.take_zero, Nat.zero_mul]; exact ⟨by decide +kernel, by decide +kernel⟩
    | succ k ih =>
      intro hp hk
      rw [List.take_succ_eq_append_getElem (by omega), sumR_snoc]
      refine (bd_add (ih hp (by omega)) (hp _ (List.getElem_mem (by omega)))).mono ?_
      rw [Nat.succ_mul]
      omega
  have := go l l.length h (Nat.le_refl _)
  rwa [List.take_length] at this
theorem mem_zipWith {α β γ : Type} {f : α → β → γ} : ∀ {a : List α} {b : List β} {z : γ}, z ∈ List.zipWith f a b → ∃ x ∈ a, ∃ y ∈ b, z = f x y
  | [], _, _, h => by simp at h
  | _ :: _, [], _, h => by simp at h
  | x :: a, y :: b, z, h => by
    rw [List.zipWith_cons_cons] at h
    rcases List.mem_cons.mp h with h | h
    · exact ⟨x, List.mem_cons_self .., y, List.mem_cons_self .., h⟩
    · obtain ⟨u, hu, v, hv, e⟩ := mem_zipWith h
      exact ⟨u, List.mem_cons_of_mem _ hu, v, List.mem_cons_of_mem _ hv, e⟩
theorem bd_dot {a b : List Rat} {n m : Nat} (ha : ∀ x ∈ a, Bd n x) (hb : ∀ x ∈ b, Bd m x) : Bd (min a.length b.length * (n + m + 1) + 1) (dotR a b) := by
  have := bd_sum (l := List.zipWith (· * ·) a b) (n := n + m) fun z hz => by
    obtain ⟨x, hx, y, hy, rfl⟩ := mem_zipWith hz
    exact bd_mul (ha x hx) (hb y hy)
  rwa [List.length_zipWith] at this
theorem range_split {n k : Nat} {pre post : List Nat} (h : List.range n = pre ++ k :: post) : k = pre.length ∧ k < n ∧ pre = List.range k := by
  have hl := congrArg List.length h
  simp at hl
  have h1 : k = pre.length := by
    have h2 := congrArg (fun l => l[pre.length]?) h
    simp only [List.getElem?_append_right (Nat.le_refl _), Nat.sub_self, List.getElem?_cons_zero] at h2
    rw [List.getElem?_range (by omega)] at h2
    exact (Option.some.inj h2).symm
  refine ⟨h1, by omega, ?_⟩
  have h3 := congrArg (List.take pre.length) h
  rw [List.take_left, List.take_range] at h3
  rw [← h3, h1]
  congr 1
  omega
theorem bd_int {i : Int} {n : Nat} (h : i.natAbs < 2 ^ n) (hn : 0 < n) : Bd n (i : Rat) := ⟨by simpa using h, by simpa using Nat.one_lt_two_pow (by omega)⟩
/-! ### fractions over one denominator -/
def Fx (d B : Nat) (x : Rat) : Prop := 0 < d ∧ ∃ N : Int, x = Rat.divInt N d ∧ N.natAbs ≤ B
theorem Fx.mono {d B C : Nat} {x : Rat} (h : Fx d B x) (k : B ≤ C) : Fx d C x := ⟨h.1, by
  obtain ⟨N, e, hN⟩ := h.2
  exact ⟨N, e, by omega⟩⟩
theorem Fx.bd {d B n : Nat} {x : Rat} (h : Fx d B x) (h1 : d < 2 ^ n) (h2 : B < 2 ^ n) : Bd n x := by
  obtain ⟨h0, N, rfl, hN⟩ := h
  exact bd_divInt (by omega) (by omega) (by omega)
theorem Fx.mul {d B e C : Nat} {x y : Rat} (h : Fx d B x) (k : Fx e C y) : Fx (d * e) (B * C) (x * y) := by
  obtain ⟨h0, N, rfl, hN⟩ := h
  obtain ⟨k0, M, rfl, hM⟩ := k
  refine ⟨Nat.mul_pos h0 k0, N * M, ?_, ?_⟩
  · rw [Rat.divInt_mul_divInt, Int.natCast_mul]
  · rw [Int.natAbs_mul]
    exact Nat.mul_le_mul hN hM
theorem Fx.add {d B C : Nat} {x y : Rat} (h : Fx d B x) (k : Fx d C y) : Fx d (B + C) (x + y) := by
  obtain ⟨h0, N, rfl, hN⟩ := h
  obtain ⟨_, M, rfl, hM⟩ := k
  refine ⟨h0, N + M, ?_, by omega⟩
  have hd : (d : Int) ≠ 0 := by omega
  rw [Rat.divInt_add_divInt _ _ hd hd, ← Int.add_mul, Rat.divInt_mul_right hd]
theorem Fx.up {d B k : Nat} {x : Rat} (h : Fx d B x) (hk : 0 < k) : Fx (d * k) (B * k) x := by
  obtain ⟨h0, N, rfl, hN⟩ := h
  refine ⟨Nat.mul_pos h0 hk, N * k, ?_, ?_⟩
  · rw [Int.natCast_mul, Rat.divInt_mul_right (by omega)]
  · rw [Int.natAbs_mul, Int.natAbs_natCast]
    exact Nat.mul_le_mul_right _ hN
theorem Fx.dvd {d B : Nat} {x : Rat} (h : Fx d B x) : x.den ∣ d := by
  obtain ⟨h0, N, rfl, _⟩ := h
  rw [Rat.den_divInt, if_neg (by omega), Int.natAbs_natCast]
  exact Nat.div_dvd_of_dvd (by unfold Int.gcd; rw [Int.natAbs_natCast]; exact Nat.gcd_dvd_left ..)
theorem fx_zero {d : Nat} (h : 0 < d) (B : Nat) : Fx d B 0 := ⟨h, 0, by rw [Rat.zero_divInt], by simp⟩
theorem fx_sum {l : List Rat} {d B : Nat} (hd : 0 < d) (h : ∀ x ∈ l, Fx d B x) : Fx d (l.length * B) (sumR l) := by
  have go : ∀ (p : List Rat) (k : Nat), (∀ x ∈ p, Fx d B x) → k ≤ p.length → Fx d (k * B) (sumR (p.take k)) := by
    intro p k
    induction k with
    | zero => intro _ _; rw [List.take_zero]; exact fx_zero hd _
    | succ k ih =>
      intro hp hk
      rw [List.take_succ_eq_append_getElem (by omega), sumR_snoc, Nat.succ_mul]
      exact (ih hp (by omega)).add (hp _ (List.getElem_mem (by omega)))
  have := go l l.length h (Nat.le_refl _)
  rwa [List.take_length] at this
theorem fx_dot {a b : List Rat} {d B e C : Nat} (hd : 0 < d) (he : 0 < e) (ha : ∀ x ∈ a, Fx d B x) (hb : ∀ x ∈ b, Fx e C x) : Fx (d * e) (min a.length b.length * (B * C)) (dotR a b) := by
  have := fx_sum (l := List.zipWith (· * ·) a b) (Nat.mul_pos hd he) (B := B * C) fun z hz => by
    obtain ⟨x, hx, y, hy, rfl⟩ := mem_zipWith hz
    exact (ha x hx).mul (hb y hy)
  rwa [List.length_zipWith] at this
/-- the whole line of a list of fractions -/
def denL (l : List Rat) : Nat := l.foldl (fun d x => Nat.lcm d x.den) 1
def wholeL (l : List Rat) : List Int := l.map fun x => x.num * (((denL l / x.den : Nat)) : Int)
theorem lcmF_pos : ∀ (l : List Rat) (a : Nat), 0 < a → 0 < l.foldl (fun d x => Nat.lcm d x.den) a
  | [], a, h => h
  | x :: l, a, h => lcmF_pos l _ (Nat.lcm_pos h (Nat.pos_of_ne_zero x.den_nz))
theorem lcmF_dvd : ∀ (l : List Rat) (a M : Nat), a ∣ M → (∀ x ∈ l, x.den ∣ M) → l.foldl (fun d x => Nat.lcm d x.den) a ∣ M
  | [], a, M, h, _ => h
  | x :: l, a, M, h, k => lcmF_dvd l _ M (Nat.lcm_dvd h (k x (List.mem_cons_self ..))) fun y hy => k y (List.mem_cons_of_mem _ hy)
theorem dvd_lcmF : ∀ (l : List Rat) (a : Nat), a ∣ l.foldl (fun d x => Nat.lcm d x.den) a ∧ ∀ x ∈ l, x.den ∣ l.foldl (fun d x => Nat.lcm d x.den) a
  | [], a => ⟨Nat.dvd_refl _, fun _ h => absurd h List.not_mem_nil⟩
  | x :: l, a => by
    obtain ⟨h1, h2⟩ := dvd_lcmF l (Nat.lcm a x.den)
    refine ⟨Nat.dvd_trans (Nat.dvd_lcm_left ..) h1, fun y hy => ?_⟩
    rcases List.mem_cons.mp hy with rfl | hy
    · exact Nat.dvd_trans (Nat.dvd_lcm_right ..) h1
    · exact h2 y hy
theorem denL_pos (l : List Rat) : 0 < denL l := lcmF_pos l 1 (by decide)
theorem den_dvd_denL {l : List Rat} {x : Rat} (h : x ∈ l) : x.den ∣ denL l := (dvd_lcmF l 1).2 x h
theorem denL_dvd {l : List Rat} {M : Nat} (h : ∀ x ∈ l, x.den ∣ M) : denL l ∣ M := lcmF_dvd l 1 M (Nat.one_dvd _) h
theorem whole_rat {d : Nat} {x : Rat} (h : x.den ∣ d) : ((x.num * ((d / x.den : Nat) : Int) : Int) : Rat) = (d : Rat) * x := by
  obtain ⟨c, rfl⟩ := h
  rw [Nat.mul_div_cancel_left _ (Nat.pos_of_ne_zero x.den_nz), Rat.intCast_mul, Rat.natCast_mul]
  have hx : x = (x.num : Rat) / (x.den : Rat) := by
    have h := Rat.num_divInt_den x
    rw [Rat.divInt_eq_div, Rat.intCast_natCast] at h
    exact h.symm
  have hd : (x.den : Rat) ≠ 0 := by simpa using x.den_nz
  have hc : (((c : Nat) : Int) : Rat) = (c : Rat) := Rat.intCast_natCast c
  rw [hc]
  have h2 : (x.num : Rat) = x * (x.den : Rat) := by grind
  grind
theorem wholeL_at (l : List Rat) (j : Nat) : ((wholeL l).getD j 0 : Rat) = (denL l : Rat) * l.getD j 0 := by
  unfold wholeL
  simp only [List.getD_eq_getElem?_getD, List.getElem?_map]
  cases h : l[j]? with
  | none => simp
  | some x => exact whole_rat (den_dvd_denL (List.mem_of_getElem? h))
theorem wholeL_bits {l : List Rat} {d B : Nat} (h : ∀ x ∈ l, Fx d B x) : ∀ z ∈ wholeL l, z.natAbs ≤ B := by
  intro z hz
  obtain ⟨x, hx, rfl⟩ := List.mem_map.mp hz
  obtain ⟨hd, N, e, hN⟩ := h x hx
  have h1 := whole_rat (den_dvd_denL hx)
  have hD : denL l ∣ d := denL_dvd fun y hy => (h y hy).dvd
  obtain ⟨c, hc⟩ := hD
  have hc0 : 0 < c := Nat.pos_of_ne_zero fun h0 => by rw [h0, Nat.mul_zero] at hc; omega
  have hdl := denL_pos l
  have h2 : (x.num * ((denL l / x.den : Nat) : Int)) * (c : Int) = N := by
    have e3 : ((x.num * ((denL l / x.den : Nat) : Int) * (c : Int) : Int) : Rat) = (N : Rat) := by
      rw [Rat.intCast_mul, h1, e, hc, Rat.divInt_eq_div, Rat.intCast_natCast, Rat.intCast_natCast, Rat.natCast_mul]
      have hcQ : (c : Rat) ≠ 0 := by simpa using (show c ≠ 0 by omega)
      have hdQ : (denL l : Rat) ≠ 0 := by simpa using (show denL l ≠ 0 by omega)
      grind
    exact Rat.intCast_inj.mp e3
  have h3 := congrArg Int.natAbs h2
  rw [Int.natAbs_mul, Int.natAbs_natCast] at h3
  have : (x.num * ((denL l / x.den : Nat) : Int)).natAbs * 1 ≤ (x.num * ((denL l / x.den : Nat) : Int)).natAbs * c := Nat.mul_le_mul_left _ hc0
  omega
theorem fx_small {p q : Int} (hp : p.natAbs ≤ 4) (h1 : 1 ≤ q) (h4 : q ≤ 4) : Fx 12 48 (Rat.divInt p q) := by
  have go : ∀ k : Int, k ≠ 0 → q * k = 12 → k.natAbs ≤ 12 → Fx 12 48 (Rat.divInt p q) := fun k hk e hb => by
    refine ⟨by decide, p * k, ?_, ?_⟩
    · rw [← Rat.divInt_mul_right hk, e]
      rfl
    · rw [Int.natAbs_mul]
      exact Nat.mul_le_mul hp hb
  have : q = 1 ∨ q = 2 ∨ q = 3 ∨ q = 4 := by omega
  rcases this with h | h | h | h
  · exact go 12 (by decide) (by rw [h]; rfl) (by decide)
  · exact go 6 (by decide) (by rw [h]; rfl) (by decide)
  · exact go 4 (by decide) (by rw [h]; rfl) (by decide)
  · exact go 3 (by decide) (by rw [h]; rfl) (by decide)
def Fk (k : Nat) (x : Rat) : Prop := Fx (12 ^ k) (48 ^ k) x
theorem Fk.succ {k : Nat} {x : Rat} (h : Fk k x) : Fk (k + 1) x := by
  unfold Fk
  rw [Nat.pow_succ, Nat.pow_succ]
  exact (Fx.up h (by decide)).mono (Nat.mul_le_mul_left _ (by decide))
theorem Fk.mono {k n : Nat} {x : Rat} (h : Fk k x) (hn : k ≤ n) : Fk n x := by
  obtain ⟨d, rfl⟩ := Nat.exists_eq_add_of_le hn
  induction d with
  | zero => exact h
  | succ d ih => exact Fk.succ (ih (by omega))
theorem Fk.mul {a b : Nat} {x y : Rat} (h : Fk a x) (k : Fk b y) : Fk (a + b) (x * y) := by
  unfold Fk
  rw [Nat.pow_add, Nat.pow_add]
  exact Fx.mul h k
theorem Fk.bd {a n : Nat} {x : Rat} (h : Fk a x) (h2 : 48 ^ a < 2 ^ n) : Bd n x := Fx.bd h (Nat.lt_of_le_of_lt (Nat.pow_le_pow_left (by decide) a) h2) h2
theorem fk_small {p q : Int} (hp : p.natAbs ≤ 4) (h1 : 1 ≤ q) (h4 : q ≤ 4) : Fk 1 (Rat.divInt p q) := fx_small hp h1 h4
theorem divInt_1 (i : Int) : Rat.divInt i 1 = (i : Rat) := by
  rw [Rat.divInt_eq_div]
  have : ((1 : Int) : Rat) = 1 := rfl
  rw [this]
  grind
end UbM

/-! Own layer: programs (linear) as data. -/
namespace UbP
open PySem UbM
inductive Wd where
  | most | least | exac
  deriving DecidableEq
def Wd.s : Wd → Str
  | .most => "at most"
  | .least => "at least"
  | .exac => "exactly"
structure Row where
  a : List Rat
  w : Wd
  b : Rat
def rowD (r : Row) : D := .tup [rsD r.a, .str r.w.s, rD r.b]
structure Pg where
  n : Nat
  free : List Bool
  goal : List Rat
  rows : List Row
abbrev bsD (l : List Bool) : D := .lst (l.map .bl)
abbrev rwD (l : List Row) : D := .lst (l.map rowD)
def pgT (p : Pg) : D := .tup [.int (p.n : Int), bsD p.free, rsD p.goal, rwD p.rows]
def pgO (p : Pg) : D := .obj "Program" [("variables", .int (p.n : Int)), ("free", bsD p.free), ("goal", rsD p.goal), ("rows", rwD p.rows)]
def pgC (p : Pg) : Ct := .o "Program" [("variables", .int (p.n : Int)), ("free", bsD p.free), ("goal", rsD p.goal), ("rows", rwD p.rows)]
theorem pgC_toD (p : Pg) : (pgC p).toD = pgO p := rfl
theorem fld_v (p : Pg) : fldD ["Program"] "variables" (pgO p) = some (.d (.int (p.n : Int))) := rfl
theorem fld_f (p : Pg) : fldD ["Program"] "free" (pgO p) = some (.d (bsD p.free)) := rfl
theorem fld_g (p : Pg) : fldD ["Program"] "goal" (pgO p) = some (.d (rsD p.goal)) := rfl
theorem fld_r (p : Pg) : fldD ["Program"] "rows" (pgO p) = some (.d (rwD p.rows)) := rfl
theorem wd_least (w : Wd) : (w.s = "at least") = (w = .least) := by cases w <;> simp <;> decide
theorem wd_most (w : Wd) : (w.s = "at most") = (w = .most) := by cases w <;> simp <;> decide
theorem wd_exac (w : Wd) : (w.s = "exactly") = (w = .exac) := by cases w <;> simp <;> decide
theorem wd_len (w : Wd) : w.s.length ≤ 1000 := by cases w <;> decide
theorem wd_sh (w : Wd) : w.s.cps.all (· < 0x110000) = true := by cases w <;> decide +kernel
theorem wd_inj {v w : Wd} : v.s = w.s ↔ v = w := by cases v <;> cases w <;> simp <;> decide
def holds (r : Row) (x : List Rat) : Bool := match r.w with
  | .least => !decide (dotR r.a x < r.b)
  | .most => !decide (r.b < dotR r.a x)
  | .exac => decide (dotR r.a x = r.b)
def Pg.signs (p : Pg) (x : List Rat) : Bool := (p.free.zip x).all fun q => q.1 || decide (0 ≤ q.2.num)
def Pg.fits (p : Pg) (x : List Rat) : Bool := decide (x.length = p.n) && p.signs x && p.rows.all (holds · x)
theorem pf0 (v : D) : putFD "variables" v [] = ([("variables", v)] : List (Str × D)) := rfl
theorem pf1 (v w : D) : putFD "free" w [("variables", v)] = ([("variables", v), ("free", w)] : List (Str × D)) := rfl
theorem pf2 (v w u : D) : putFD "goal" u [("variables", v), ("free", w)] = ([("variables", v), ("free", w), ("goal", u)] : List (Str × D)) := rfl
theorem pf3 (v w u t : D) : putFD "rows" t [("variables", v), ("free", w), ("goal", u)] = ([("variables", v), ("free", w), ("goal", u), ("rows", t)] : List (Str × D)) := rfl
theorem isPg : (["Program"] : List Str).contains ("Program" : Str) = true := rfl
end UbP

namespace UbK
open UbP
def b__law_lowest : M Fl := (sSeq (sPar 2 3 (eU absD (eV 0)) (eV 1))
  (sSeq (sFor (iR1 (eC (.int 5000))) (.nm 4) (sSeq (sIf (tB eqD (eV 3) (eC (.int 0))) sBk sNx)
  (sPar 2 3 (eV 3) (eB modD (eU intD (eV 2)) (eV 3)))))
  (sSeq (sIf (tB eqD (eV 2) (eC (.int 0))) (sRet (eTup [(eC (.int 0)), (eC (.int 1))])) sNx)
  (sRet (eTup [(eB fdivD (eV 0) (eV 2)), (eB fdivD (eV 1) (eV 2))])))))
def p__law_lowest : Fn := run 3 b__law_lowest
def b__law_plus : M Fl := (sRet (eCall p__law_lowest [false, false] [(eB addD (eB mulD (eB ixD (eV 0) (eC (.int 0))) (eB ixD (eV 1) (eC (.int 1)))) (eB mulD (eB ixD (eV 1) (eC (.int 0))) (eB ixD (eV 0) (eC (.int 1))))), (eB mulD (eB ixD (eV 0) (eC (.int 1))) (eB ixD (eV 1) (eC (.int 1))))] []))
def p__law_plus : Fn := run 0 b__law_plus
def b__law_times : M Fl := (sRet (eCall p__law_lowest [false, false] [(eB mulD (eB ixD (eV 0) (eC (.int 0))) (eB ixD (eV 1) (eC (.int 0)))), (eB mulD (eB ixD (eV 0) (eC (.int 1))) (eB ixD (eV 1) (eC (.int 1))))] []))
def p__law_times : Fn := run 0 b__law_times
def b__law_dot : M Fl := (sSeq (sSet 2 (eTup [(eC (.int 0)), (eC (.int 1))]))
  (sSeq (sFor (iR1 (eB minD (eU lenD (eV 0)) (eU lenD (eV 1)))) (.nm 3) (sIf (tAnd (tB neD (eB ixD (eB ixD (eV 0) (eV 3)) (eC (.int 0))) (eC (.int 0))) (tB neD (eB ixD (eB ixD (eV 1) (eV 3)) (eC (.int 0))) (eC (.int 0)))) (sSet 2 (eCall p__law_plus [false, false] [(eV 2), (eCall p__law_times [false, false] [(eB ixD (eV 0) (eV 3)), (eB ixD (eV 1) (eV 3))] [])] [])) sNx))
  (sRet (eV 2))))
def p__law_dot : Fn := run 2 b__law_dot
def b__law_less : M Fl := (sRet (eB (cB ltD) (eB mulD (eB ixD (eV 0) (eC (.int 0))) (eB ixD (eV 1) (eC (.int 1)))) (eB mulD (eB ixD (eV 1) (eC (.int 0))) (eB ixD (eV 0) (eC (.int 1))))))
def p__law_less : Fn := run 0 b__law_less
def b__law_covers : M Fl := (sSeq (sAsg (.tp [(.nm 3), (.nm 4), (.nm 5), (.nm 6)]) (eV 0))
  (sSeq (sIf (tB neD (eU lenD (eV 1)) (eU lenD (eV 6))) (sRet (eC (.bl false))) sNx)
  (sSeq (sFor (iR1 (eU lenD (eV 6))) (.nm 7) (sIf (tOr (tAnd (tB eqD (eB ixD (eB ixD (eV 6) (eV 7)) (eC (.int 1))) (eC (.str "at least"))) (tB gtD (eB ixD (eB ixD (eV 1) (eV 7)) (eC (.int 0))) (eC (.int 0)))) (tAnd (tB eqD (eB ixD (eB ixD (eV 6) (eV 7)) (eC (.int 1))) (eC (.str "at most"))) (tB ltD (eB ixD (eB ixD (eV 1) (eV 7)) (eC (.int 0))) (eC (.int 0))))) (sRet (eC (.bl false))) sNx))
  (sSeq (sFor (iR1 (eV 3)) (.nm 8) (sSeq (sSet 9 (eCall p__law_dot [false, false] [(eV 1), (eLc (iE (eV 6)) (.nm 10) (ret true) (eB ixD (eB ixD (eV 10) (eC (.int 0))) (eV 8)) [10])] []))
  (sIf (tOr (tE (eCall p__law_less [false, false] [(eV 9), (eB ixD (eV 2) (eV 8))] [])) (tAnd (tE (eB ixD (eV 4) (eV 8))) (tB neD (eV 9) (eB ixD (eV 2) (eV 8))))) (sRet (eC (.bl false))) sNx)))
  (sRet (eC (.bl true)))))))
def p__law_covers : Fn := run 8 b__law_covers
def b__law_row_holds : M Fl := (sSeq (sSet 4 (eCall p__law_dot [false, false] [(eV 0), (eV 3)] []))
  (sSeq (sIf (tB eqD (eV 1) (eC (.str "at least"))) (sRet (eNot (eCall p__law_less [false, false] [(eV 4), (eV 2)] []))) sNx)
  (sSeq (sIf (tB eqD (eV 1) (eC (.str "at most"))) (sRet (eNot (eCall p__law_less [false, false] [(eV 2), (eV 4)] []))) sNx)
  (sRet (eB (cB eqD) (eV 4) (eV 2))))))
def p__law_row_holds : Fn := run 1 b__law_row_holds
def b__law_fits : M Fl := (sSeq (sAsg (.tp [(.nm 2), (.nm 3), (.nm 4), (.nm 5)]) (eV 0))
  (sSeq (sIf (tB neD (eU lenD (eV 1)) (eV 2)) (sRet (eC (.bl false))) sNx)
  (sSeq (sFor (iR1 (eV 2)) (.nm 6) (sIf (tAnd (tNot (tE (eB ixD (eV 3) (eV 6)))) (tB ltD (eB ixD (eB ixD (eV 1) (eV 6)) (eC (.int 0))) (eC (.int 0)))) (sRet (eC (.bl false))) sNx))
  (sRet (eU allD (eLc (iE (eV 5)) (.tp [(.nm 7), (.nm 8), (.nm 9)]) (ret true) (eCall p__law_row_holds [false, false, false, false] [(eV 7), (eV 8), (eV 9), (eV 1)] []) [7, 8, 9]))))))
def p__law_fits : Fn := run 8 b__law_fits
def b__law_goes : M Fl := (sSeq (sAsg (.tp [(.nm 2), (.nm 3), (.nm 4), (.nm 5)]) (eV 0))
  (sSeq (sIf (tNot (tE (eCall p__law_fits [false, false] [(eTup [(eV 2), (eV 3), (eV 4), (eLc (iE (eV 5)) (.tp [(.nm 6), (.nm 7), (.nm 8)]) (ret true) (eTup [(eV 6), (eV 7), (eTup [(eC (.int 0)), (eC (.int 1))])]) [6, 7, 8])]), (eV 1)] []))) (sRet (eC (.bl false))) sNx)
  (sRet (eB (cB gtD) (eB ixD (eCall p__law_dot [false, false] [(eV 4), (eV 1)] []) (eC (.int 0))) (eC (.int 0))))))
def p__law_goes : Fn := run 7 b__law_goes
def b__law_accepted : M Fl := (sSeq (sAsg (.tp [(.nm 2), (.nm 3), (.nm 4), (.nm 5)]) (eV 1))
  (sSeq (sSet 6 (eLc (iE (eB ixD (eV 0) (eC (.int 3)))) (.nm 8) (ret true) (eB ixD (eV 8) (eC (.int 2))) [8]))
  (sSeq (sIf (tB eqD (eV 2) (eC (.str "best"))) (sSeq (sSet 7 (eAnd (eCall p__law_fits [false, false] [(eV 0), (eV 3)] []) (eCall p__law_covers [false, false, false] [(eV 0), (eV 4), (eB ixD (eV 0) (eC (.int 2)))] [])))
  (sRet (eAnd (eV 7) (eB (cB eqD) (eCall p__law_dot [false, false] [(eV 4), (eV 6)] []) (eCall p__law_dot [false, false] [(eB ixD (eV 0) (eC (.int 2))), (eV 3)] []))))) sNx)
  (sSeq (sIf (tB eqD (eV 2) (eC (.str "none"))) (sRet (eAnd (eCall p__law_covers [false, false, false] [(eV 0), (eV 4), (eB mulD (eLst [(eTup [(eC (.int 0)), (eC (.int 1))])]) (eB ixD (eV 0) (eC (.int 0))))] []) (eB (cB ltD) (eB ixD (eCall p__law_dot [false, false] [(eV 4), (eV 6)] []) (eC (.int 0))) (eC (.int 0))))) sNx)
  (sRet (eAnd (eB (cB eqD) (eV 2) (eC (.str "endless"))) (eAnd (eCall p__law_fits [false, false] [(eV 0), (eV 3)] []) (eCall p__law_goes [false, false] [(eV 0), (eV 5)] []))))))))
def p__law_accepted : Fn := run 7 b__law_accepted
def b__law_take : M Fl := (sSeq (sIf (tNot (tE (eV 0))) (sRet (eC (.int 0))) sNx)
  (sRet (eB modD (eU intD (ePop (eV 0))) (eV 1))))
def p__law_take : Fn := run 0 b__law_take
def b__law_around : M Fl := (sSeq (sAsg (.tp [(.nm 2), (.nm 3), (.nm 4), (.nm 5)]) (eV 1))
  (sSeq (sSet 6 (eLc (iR1 (eV 2)) (.nm 16) (ret true) (eCall p__law_lowest [false, false] [(eCall p__law_take [true, false] [(eV 0), (eC (.int 4))] []), (eB addD (eC (.int 1)) (eCall p__law_take [true, false] [(eV 0), (eC (.int 2))] []))] []) [16]))
  (sSeq (sOwn 7 (eLst []))
  (sSeq (sOwn 8 (eLst []))
  (sSeq (sFor (iE (eV 5)) (.tp [(.nm 9), (.nm 10), (.nm 11)]) (sSeq (sSet 12 (eCall p__law_dot [false, false] [(eV 9), (eV 6)] []))
  (sSeq (sSet 13 (eTup [(eCall p__law_take [true, false] [(eV 0), (eC (.int 3))] []), (eC (.int 1))]))
  (sSeq (sIf (tB eqD (eV 10) (eC (.str "at least"))) (sSet 13 (eTup [(eU negD (eB ixD (eV 13) (eC (.int 0)))), (eC (.int 1))])) sNx)
  (sSeq (sEx (eApp (eV 7) (eV 13)))
  (sEx (eApp (eV 8) (eTup [(eV 9), (eV 10), (eV 12)]))))))))
  (frz 7 (frz 8 (sSeq (sOwn 14 (eLst []))
  (sSeq (sFor (iR1 (eV 2)) (.nm 15) (sSeq (sSet 12 (eCall p__law_dot [false, false] [(eV 7), (eLc (iE (eV 8)) (.nm 17) (ret true) (eB ixD (eB ixD (eV 17) (eC (.int 0))) (eV 15)) [17])] []))
  (sSeq (sIf (tAnd (tNot (tE (eB ixD (eV 3) (eV 15)))) (tB eqD (eB ixD (eV 6) (eV 15)) (eTup [(eC (.int 0)), (eC (.int 1))]))) (sSet 12 (eCall p__law_plus [false, false] [(eV 12), (eTup [(eU negD (eCall p__law_take [true, false] [(eV 0), (eC (.int 3))] [])), (eC (.int 1))])] [])) sNx)
  (sEx (eApp (eV 14) (eV 12))))))
  (frz 14 (sRet (eTup [(eTup [(eV 2), (eV 3), (eV 14), (eV 8)]), (eTup [(eC (.str "best")), (eV 6), (eV 7), (eLst [])])]))))))))))))
def p__law_around : Fn := run 16 b__law_around
def b__law_changed : M Fl := (frz 1 (sSeq (sOwn 1 (eU listD (eV 1)))
  (sSeq (sSet 2 (eCall p__law_take [true, false] [(eV 0), (eC (.int 4))] []))
  (sSeq (sIf (tAnd (tB eqD (eV 2) (eC (.int 0))) (tE (eV 1))) (sSeq (sSet 3 (eCall p__law_take [true, false] [(eV 0), (eU lenD (eV 1))] []))
  (sItem (eV 1) (eV 3) (eCall p__law_plus [false, false] [(eB ixD (eV 1) (eV 3)), (eB ixD (eLst [(eTup [(eC (.int 1)), (eC (.int 1))]), (eTup [(eU negD (eC (.int 1))), (eC (.int 1))]), (eTup [(eC (.int 1)), (eC (.int 7))])]) (eCall p__law_take [true, false] [(eV 0), (eC (.int 3))] []))] []))) sNx)
  (sSeq (sIf (tB eqD (eV 2) (eC (.int 1))) (frz 1 (sOwn 1 (eSl (eV 1) (ret none) (intM (eU negD (eC (.int 1))))))) sNx)
  (sSeq (sIf (tB eqD (eV 2) (eC (.int 2))) (sEx (eApp (eV 1) (eTup [(eC (.int 0)), (eC (.int 1))]))) sNx)
  (sRet (eV 1))))))))
def p__law_changed : Fn := run 2 b__law_changed
def b__law_fraction : M Fl := (sSeq (sSet 1 (eCall p__law_take [true, false] [(eV 0), (eC (.int 8))] []))
  (sSeq (sIf (tB ltD (eV 1) (eC (.int 4))) (sRet (eTup [(eB subD (eCall p__law_take [true, false] [(eV 0), (eC (.int 7))] []) (eC (.int 2))), (eC (.int 1))])) sNx)
  (sSeq (sIf (tB ltD (eV 1) (eC (.int 6))) (sRet (eCall p__law_lowest [false, false] [(eB subD (eCall p__law_take [true, false] [(eV 0), (eC (.int 13))] []) (eC (.int 6))), (eB addD (eC (.int 1)) (eCall p__law_take [true, false] [(eV 0), (eC (.int 4))] []))] [])) sNx)
  (sSeq (sIf (tB eqD (eV 1) (eC (.int 6))) (sRet (eTup [(eC (.int 0)), (eC (.int 1))])) sNx)
  (sRet (eCall p__law_lowest [false, false] [(eB subD (eCall p__law_take [true, false] [(eV 0), (eC (.int 200))] []) (eC (.int 100))), (eB addD (eC (.int 1)) (eCall p__law_take [true, false] [(eV 0), (eC (.int 30))] []))] []))))))
def p__law_fraction : Fn := run 1 b__law_fraction
def b__law_vector : M Fl := (sRet (eLc (iR1 (eV 1)) (.nm 2) (ret true) (eCall p__law_fraction [true] [(eV 0)] []) [2]))
def p__law_vector : Fn := run 1 b__law_vector
def b__law_drawn : M Fl := (sSeq (sSet 2 (eB ixD (eLst [(eC (.str "best")), (eC (.str "none")), (eC (.str "endless")), (eC (.str "none")), (eC (.str "other"))]) (eCall p__law_take [true, false] [(eV 0), (eC (.int 5))] [])))
  (sSeq (sSet 3 (eCall p__law_vector [true, false] [(eV 0), (eB ixD (eV 1) (eC (.int 0)))] []))
  (sSeq (sSet 4 (eLc (iE (eB ixD (eV 1) (eC (.int 3)))) (.nm 6) (ret true) (eTup [(eB subD (eCall p__law_take [true, false] [(eV 0), (eC (.int 5))] []) (eC (.int 2))), (eC (.int 1))]) [6]))
  (sSeq (sSet 5 (eLc (iR1 (eB ixD (eV 1) (eC (.int 0)))) (.nm 7) (ret true) (eTup [(eCall p__law_take [true, false] [(eV 0), (eC (.int 3))] []), (eC (.int 1))]) [7]))
  (sRet (eTup [(eV 2), (eV 3), (eV 4), (eV 5)]))))))
def p__law_drawn : Fn := run 6 b__law_drawn
def b__check_form : M Fl := (sSeq (sIf (tB ltD (eV 0) (eC (.int 0))) (sRaise "InvalidProgram" ["reason"] okT [(eC (.str "variables"))]) sNx)
  (sSeq (sIf (tB neD (eU lenD (eV 1)) (eV 0)) (sRaise "InvalidProgram" ["reason"] okT [(eC (.str "free"))]) sNx)
  (sSeq (sIf (tB neD (eU lenD (eV 2)) (eV 0)) (sRaise "InvalidProgram" ["reason"] okT [(eC (.str "goal"))]) sNx)
  (sFor (iE (eV 3)) (.tp [(.nm 4), (.nm 5), (.nm 6)]) (sIf (tOr (tB neD (eU lenD (eV 4)) (eV 0)) (tB ninD (eV 5) (eC (.tup [(.str "at least"), (.str "at most"), (.str "exactly")])))) (sRaise "InvalidProgram" ["reason"] okT [(eC (.str "rows"))]) sNx)))))
def p__check_form : Fn := run 3 b__check_form
def b__check_size : M Fl := (sSeq (sIf (tB gtD (eV 0) (eC (.int 160))) (sRaise "TooLarge" ["limit"] okT [(eC (.str "variables"))]) sNx)
  (sIf (tB gtD (eU lenD (eV 1)) (eC (.int 400))) (sRaise "TooLarge" ["limit"] okT [(eC (.str "rows"))]) sNx))
def p__check_size : Fn := run 0 b__check_size
def b_Program___init__ : M Fl := (sSeq (sEx (eCall p__check_size [false, false] [(eV 1), (eV 4)] []))
  (sSeq (sEx (eCall p__check_form [false, false, false, false] [(eV 1), (eV 2), (eV 3), (eV 4)] []))
  (sSeq (sFld ["Program"] "variables" (eV 0) (eV 1))
  (sSeq (sFld ["Program"] "free" (eV 0) (eU listD (eV 2)))
  (sSeq (sFld ["Program"] "goal" (eV 0) (eU listD (eV 3)))
  (sFld ["Program"] "rows" (eV 0) (eLc (iE (eV 4)) (.tp [(.nm 5), (.nm 6), (.nm 7)]) (ret true) (eTup [(eU listD (eV 5)), (eV 6), (eV 7)]) [5, 6, 7])))))))
def p_Program___init__ : Fn := run 3 b_Program___init__
def b__law_made : M Fl := (sSeq (sAsg (.tp [(.nm 1), (.nm 2), (.nm 3), (.nm 4)]) (eV 0))
  (sRet (eNew "Program" p_Program___init__ [false, false, false, false] [(eV 1)] [(eU listD (eV 2)), (eU listD (eV 3)), (eLc (iE (eV 4)) (.tp [(.nm 5), (.nm 6), (.nm 7)]) (ret true) (eTup [(eU listD (eV 5)), (eV 6), (eV 7)]) [5, 6, 7])] [])))
def p__law_made : Fn := run 7 b__law_made
def b__law_mix : M Fl := (sRet (eB modD (eB mulD (eB modD (eU intD (eB mulD (eB addD (eB addD (eB modD (eU intD (eV 0)) (eC (.int 1000003))) (eB mulD (eC (.int 7919)) (eV 1))) (eC (.int 1))) (eC (.int 48271)))) (eC (.int 1000033))) (eC (.int 16807))) (eC (.int 998244353))))
def p__law_mix : Fn := run 0 b__law_mix
def b__law_numbers : M Fl := (sSeq (sOwn 2 (eLst []))
  (sSeq (sSet 3 (eC (.int 0)))
  (sSeq (sFor (iE (eSl (eV 0) (ret none) (intM (eC (.int 63))))) (.nm 4) (sSeq (sSet 3 (eB addD (eV 3) (eV 4)))
  (sIf (tB geD (eV 4) (eC (.int 1000000000000000000))) (sSeq (sSet 5 (eV 4))
  (sFor (iR1 (eC (.int 60))) (.nm 6) (sSeq (sEx (eApp (eV 2) (eB modD (eU intD (eV 5)) (eC (.int 840)))))
  (sSeq (sSet 5 (eB fdivD (eV 5) (eC (.int 840))))
  (sIf (tB eqD (eV 5) (eC (.int 0))) sBk sNx))))) (sEx (eApp (eV 2) (eCall p__law_mix [false, false] [(eCall p__law_mix [false, false] [(eV 4), (eC (.int 3))] []), (eC (.int 5))] []))))))
  (sSeq (sFor (iR1 (eV 1)) (.nm 6) (sEx (eApp (eV 2) (eCall p__law_mix [false, false] [(eCall p__law_mix [false, false] [(eB addD (eV 3) (eB mulD (eC (.int 31)) (eV 6))), (eB addD (eC (.int 11)) (eV 6))] []), (eC (.int 17))] []))))
  (sSeq (sEx (eRev (eV 2)))
  (sRet (eV 2)))))))
def p__law_numbers : Fn := run 5 b__law_numbers
def b__law_program : M Fl := (sSeq (sSet 2 (eB addD (eC (.int 1)) (eCall p__law_take [true, false] [(eV 0), (eV 1)] [])))
  (sSeq (sSet 4 (eLc (iR1 (eV 2)) (.nm 3) (ret true) (eB (cB eqD) (eCall p__law_take [true, false] [(eV 0), (eC (.int 4))] []) (eC (.int 1))) [3]))
  (sSeq (sSet 5 (eCall p__law_vector [true, false] [(eV 0), (eV 2)] []))
  (sSeq (sOwn 6 (eLst []))
  (sSeq (sFor (iR1 (eCall p__law_take [true, false] [(eV 0), (eC (.int 4))] [])) (.nm 3) (sSeq (sSet 7 (eB ixD (eLst [(eC (.str "at most")), (eC (.str "at least")), (eC (.str "at most")), (eC (.str "exactly"))]) (eCall p__law_take [true, false] [(eV 0), (eC (.int 4))] [])))
  (sEx (eApp (eV 6) (eTup [(eCall p__law_vector [true, false] [(eV 0), (eV 2)] []), (eV 7), (eCall p__law_fraction [true] [(eV 0)] [])])))))
  (frz 6 (sRet (eTup [(eV 2), (eV 4), (eV 5), (eV 6)]))))))))
def p__law_program : Fn := run 6 b__law_program
def b_sign : M Fl := (sSeq (sIf (tB gtD (eB ixD (eV 0) (eC (.int 0))) (eC (.int 0))) (sRet (eC (.int 1))) sNx)
  (sRet (eIf (tB ltD (eB ixD (eV 0) (eC (.int 0))) (eC (.int 0))) (eU negD (eC (.int 1))) (eC (.int 0)))))
def p_sign : Fn := run 0 b_sign
def b__has_correct_signs : M Fl := (sSeq (sFor (iZ (eV 0) (eV 1)) (.tp [(.tp [(.nm 2), (.nm 3), (.nm 2)]), (.nm 4)]) (sSeq (sIf (tAnd (tB eqD (eV 3) (eC (.str "at least"))) (tB gtD (eCall p_sign [false] [(eV 4)] []) (eC (.int 0)))) (sRet (eC (.bl false))) sNx)
  (sIf (tAnd (tB eqD (eV 3) (eC (.str "at most"))) (tB ltD (eCall p_sign [false] [(eV 4)] []) (eC (.int 0)))) (sRet (eC (.bl false))) sNx)))
  (sRet (eC (.bl true))))
def p__has_correct_signs : Fn := run 3 b__has_correct_signs
def b_make : M Fl := (sSeq (sIf (tB eqD (eV 1) (eC (.int 0))) (sRaise "ZeroDenominator" [] List.isEmpty []) sNx)
  (sSeq (sSet 2 (eB gcdD (eV 0) (eV 1)))
  (sSeq (sIf (tB ltD (eV 1) (eC (.int 0))) (sSet 2 (eU negD (eV 2))) sNx)
  (sRet (eTup [(eB fdivD (eV 0) (eV 2)), (eB fdivD (eV 1) (eV 2))])))))
def p_make : Fn := run 1 b_make
def b_add : M Fl := (sRet (eCall p_make [false, false] [(eB addD (eB mulD (eB ixD (eV 0) (eC (.int 0))) (eB ixD (eV 1) (eC (.int 1)))) (eB mulD (eB ixD (eV 1) (eC (.int 0))) (eB ixD (eV 0) (eC (.int 1))))), (eB mulD (eB ixD (eV 0) (eC (.int 1))) (eB ixD (eV 1) (eC (.int 1))))] []))
def p_add : Fn := run 0 b_add
def b_multiply : M Fl := (sRet (eCall p_make [false, false] [(eB mulD (eB ixD (eV 0) (eC (.int 0))) (eB ixD (eV 1) (eC (.int 0)))), (eB mulD (eB ixD (eV 0) (eC (.int 1))) (eB ixD (eV 1) (eC (.int 1))))] []))
def p_multiply : Fn := run 0 b_multiply
def b__add_product : M Fl := (sSeq (sIf (tB eqD (eB ixD (eV 2) (eC (.int 0))) (eC (.int 0))) (sRet (eV 0)) sNx)
  (sRet (eCall p_add [false, false] [(eV 0), (eCall p_multiply [false, false] [(eV 1), (eV 2)] [])] [])))
def p__add_product : Fn := run 0 b__add_product
def b__sums : M Fl := (sSeq (sSet 3 (eB mulD (eLst [(eTup [(eC (.int 0)), (eC (.int 1))])]) (eV 0)))
  (sSeq (sFor (iZ (eV 1) (eV 2)) (.tp [(.tp [(.nm 4), (.nm 5), (.nm 5)]), (.nm 6)]) (sIf (tB neD (eCall p_sign [false] [(eV 6)] []) (eC (.int 0))) (sSet 3 (eLc (iZ (eV 3) (eV 4)) (.tp [(.nm 7), (.nm 8)]) (ret true) (eCall p__add_product [false, false, false] [(eV 7), (eV 6), (eV 8)] []) [7, 8])) sNx))
  (sRet (eV 3))))
def p__sums : Fn := run 6 b__sums
def b_compare : M Fl := (sRet (eCall p_sign [false] [(eTup [(eB subD (eB mulD (eB ixD (eV 0) (eC (.int 0))) (eB ixD (eV 1) (eC (.int 1)))) (eB mulD (eB ixD (eV 1) (eC (.int 0))) (eB ixD (eV 0) (eC (.int 1))))), (eB mulD (eB ixD (eV 0) (eC (.int 1))) (eB ixD (eV 1) (eC (.int 1))))])] []))
def p_compare : Fn := run 0 b_compare
def b__covers : M Fl := (sSeq (sIf (tOr (tB neD (eU lenD (eV 2)) (eU lenD (eV 1))) (tNot (tE (eCall p__has_correct_signs [false, false] [(eV 1), (eV 2)] [])))) (sRet (eC (.bl false))) sNx)
  (sSeq (sSet 4 (eCall p__sums [false, false, false] [(eU (fldD ["Program"] "variables") (eV 0)), (eV 1), (eV 2)] []))
  (sSeq (sFor (iZ3 (eU (fldD ["Program"] "free") (eV 0)) (eV 4) (eV 3)) (.tp [(.nm 5), (.nm 6), (.nm 7)]) (sSeq (sSet 8 (eCall p_compare [false, false] [(eV 6), (eV 7)] []))
  (sIf (tOr (tB ltD (eV 8) (eC (.int 0))) (tAnd (tE (eV 5)) (tB neD (eV 8) (eC (.int 0))))) (sRet (eC (.bl false))) sNx)))
  (sRet (eC (.bl true))))))
def p__covers : Fn := run 5 b__covers
def b_dot : M Fl := (sSeq (sSet 2 (eTup [(eC (.int 0)), (eC (.int 1))]))
  (sSeq (sFor (iZ (eV 0) (eV 1)) (.tp [(.nm 3), (.nm 4)]) (sIf (tAnd (tB neD (eB ixD (eV 3) (eC (.int 0))) (eC (.int 0))) (tB neD (eB ixD (eV 4) (eC (.int 0))) (eC (.int 0)))) (sSet 2 (eCall p_add [false, false] [(eV 2), (eCall p_multiply [false, false] [(eV 3), (eV 4)] [])] [])) sNx))
  (sRet (eV 2))))
def p_dot : Fn := run 3 b_dot
def b_bound_of_rows : M Fl := (sRet (eCall p_dot [false, false] [(eV 1), (eLc (iE (eV 0)) (.nm 2) (ret true) (eB ixD (eV 2) (eC (.int 2))) [2])] []))
def p_bound_of_rows : Fn := run 1 b_bound_of_rows
def b_agrees : M Fl := (sSeq (sIf (tB eqD (eV 0) (eC (.str "at least"))) (sRet (eB (cB geD) (eV 1) (eC (.int 0)))) sNx)
  (sSeq (sIf (tB eqD (eV 0) (eC (.str "at most"))) (sRet (eB (cB leD) (eV 1) (eC (.int 0)))) sNx)
  (sRet (eB (cB eqD) (eV 1) (eC (.int 0))))))
def p_agrees : Fn := run 0 b_agrees
def b_keeps_signs : M Fl := (sSeq (sIf (tB neD (eU lenD (eV 1)) (eU (fldD ["Program"] "variables") (eV 0))) (sRet (eC (.bl false))) sNx)
  (sRet (eGx false (iZ (eU (fldD ["Program"] "free") (eV 0)) (eV 1)) (.tp [(.nm 2), (.nm 3)]) (eOr (eV 2) (eB (cB geD) (eB ixD (eV 3) (eC (.int 0))) (eC (.int 0)))) [2, 3])))
def p_keeps_signs : Fn := run 2 b_keeps_signs
def b_fits_rows : M Fl := (sSeq (sIf (tNot (tE (eCall p_keeps_signs [false, false] [(eV 0), (eV 2)] []))) (sRet (eC (.bl false))) sNx)
  (sSeq (sFor (iE (eV 1)) (.tp [(.nm 3), (.nm 4), (.nm 5)]) (sIf (tNot (tE (eCall p_agrees [false, false] [(eV 4), (eCall p_compare [false, false] [(eCall p_dot [false, false] [(eV 3), (eV 2)] []), (eV 5)] [])] []))) (sRet (eC (.bl false))) sNx))
  (sRet (eC (.bl true)))))
def p_fits_rows : Fn := run 3 b_fits_rows
def b_value_of : M Fl := (sRet (eCall p_dot [false, false] [(eU (fldD ["Program"] "goal") (eV 0)), (eV 1)] []))
def p_value_of : Fn := run 0 b_value_of
def b__accepts_best : M Fl := (sSeq (sIf (tOr (tNot (tE (eCall p_fits_rows [false, false, false] [(eV 0), (eV 1), (eV 2)] []))) (tNot (tE (eCall p__covers [false, false, false, false] [(eV 0), (eV 1), (eV 3), (eU (fldD ["Program"] "goal") (eV 0))] [])))) (sRet (eC (.bl false))) sNx)
  (sRet (eB (cB eqD) (eCall p_bound_of_rows [false, false] [(eV 1), (eV 3)] []) (eCall p_value_of [false, false] [(eV 0), (eV 2)] []))))
def p__accepts_best : Fn := run 0 b__accepts_best
def b__accepts_endless : M Fl := (sSeq (sIf (tOr (tNot (tE (eCall p_fits_rows [false, false, false] [(eV 0), (eV 1), (eV 2)] []))) (tNot (tE (eCall p_keeps_signs [false, false] [(eV 0), (eV 3)] [])))) (sRet (eC (.bl false))) sNx)
  (sSeq (sFor (iE (eV 1)) (.tp [(.nm 4), (.nm 5), (.nm 6)]) (sIf (tNot (tE (eCall p_agrees [false, false] [(eV 5), (eCall p_sign [false] [(eCall p_dot [false, false] [(eV 4), (eV 3)] [])] [])] []))) (sRet (eC (.bl false))) sNx))
  (sRet (eB (cB gtD) (eCall p_sign [false] [(eCall p_dot [false, false] [(eU (fldD ["Program"] "goal") (eV 0)), (eV 3)] [])] []) (eC (.int 0))))))
def p__accepts_endless : Fn := run 3 b__accepts_endless
def b__accepts_none : M Fl := (sSeq (sSet 3 (eB mulD (eLst [(eTup [(eC (.int 0)), (eC (.int 1))])]) (eU (fldD ["Program"] "variables") (eV 0))))
  (sRet (eAnd (eCall p__covers [false, false, false, false] [(eV 0), (eV 1), (eV 2), (eV 3)] []) (eB (cB ltD) (eCall p_sign [false] [(eCall p_bound_of_rows [false, false] [(eV 1), (eV 2)] [])] []) (eC (.int 0))))))
def p__accepts_none : Fn := run 1 b__accepts_none
def b_accepts_rows : M Fl := (sSeq (sAsg (.tp [(.nm 3), (.nm 4), (.nm 5), (.nm 6)]) (eV 2))
  (sSeq (sIf (tB eqD (eV 3) (eC (.str "best"))) (sRet (eCall p__accepts_best [false, false, false, false] [(eV 0), (eV 1), (eV 4), (eV 5)] [])) sNx)
  (sSeq (sIf (tB eqD (eV 3) (eC (.str "none"))) (sRet (eCall p__accepts_none [false, false, false] [(eV 0), (eV 1), (eV 5)] [])) sNx)
  (sSeq (sIf (tB eqD (eV 3) (eC (.str "endless"))) (sRet (eCall p__accepts_endless [false, false, false, false] [(eV 0), (eV 1), (eV 4), (eV 6)] [])) sNx)
  (sRet (eC (.bl false)))))))
def p_accepts_rows : Fn := run 4 b_accepts_rows
def b_accepts_certificate : M Fl := (sRet (eCall p_accepts_rows [false, false, false] [(eV 0), (eU (fldD ["Program"] "rows") (eV 0)), (eV 1)] []))
def p_accepts_certificate : Fn := run 0 b_accepts_certificate
def b_bound_of : M Fl := (sRet (eCall p_bound_of_rows [false, false] [(eU (fldD ["Program"] "rows") (eV 0)), (eV 1)] []))
def p_bound_of : Fn := run 0 b_bound_of
def b_law_3 : M Fl := (sEx (eApp (eV 4) (eTup [(eV 6), (eV 7), (eV 8), (eV 9)])))
def b_law_2 : M Fl := (frz 4 (sSeq (sSet 11 (eCall p__law_made [false] [(eV 2)] []))
  (sSeq (sFor (iE (eV 4)) (.nm 12) (sSeq (sSet 13 (eTup [(eB ixD (eV 12) (eC (.int 0))), (eU listD (eB ixD (eV 12) (eC (.int 1)))), (eU listD (eB ixD (eV 12) (eC (.int 2)))), (eU listD (eB ixD (eV 12) (eC (.int 3))))]))
  (sSeq (sSet 14 (eCall p_accepts_certificate [false, false] [(eV 11), (eV 13)] []))
  (sSeq (sIf (tOr (tB neD (eV 14) (eCall p__law_accepted [false, false] [(eV 2), (eV 12)] [])) (tOr (tNot (tE (eU (isiD "bool") (eV 14)))) (tB neD (eV 13) (eV 12)))) (sRet (eC (.bl false))) sNx)
  (sIf (tAnd (tB eqD (eU lenD (eB ixD (eV 12) (eC (.int 2)))) (eU lenD (eB ixD (eV 2) (eC (.int 3))))) (tB neD (eCall p_bound_of [false, false] [(eV 11), (eB ixD (eV 13) (eC (.int 2)))] []) (eCall p__law_dot [false, false] [(eB ixD (eV 12) (eC (.int 2))), (eLc (iE (eB ixD (eV 2) (eC (.int 3)))) (.nm 15) (ret true) (eB ixD (eV 15) (eC (.int 2))) [15])] []))) (sRet (eC (.bl false))) sNx)))))
  (sRet (eB (cB eqD) (eU (fldD ["Program"] "rows") (eV 11)) (eB ixD (eV 2) (eC (.int 3))))))))
def b_law_1 : M Fl := (sSeq (sOwn 4 (eLst [(eV 3)]))
  (sSeq (sFor (iR1 (eC (.int 3))) (.nm 5) (sSeq (sAsg (.tp [(.nm 6), (.nm 7), (.nm 8), (.nm 9)]) (eV 3))
  (sSeq (sSet 10 (eCall p__law_take [true, false] [(eV 1), (eC (.int 3))] []))
  (sSeq (sIf (tB eqD (eV 10) (eC (.int 0))) (sSet 7 (eCall p__law_changed [true, false] [(eV 1), (eV 7)] [])) (sIf (tB eqD (eV 10) (eC (.int 1))) (sSet 8 (eCall p__law_changed [true, false] [(eV 1), (eV 8)] [])) (sSeq (sSet 9 (eCall p__law_changed [true, false] [(eV 1), (eV 7)] []))
  (sSet 6 (eB ixD (eLst [(eC (.str "endless")), (eC (.str "none"))]) (eCall p__law_take [true, false] [(eV 1), (eC (.int 2))] []))))))
  b_law_3))))
  b_law_2))
def b_law : M Fl := (sSeq (sOwn 1 (eCall p__law_numbers [false, false] [(eV 0), (eC (.int 90))] []))
  (sSeq (sSet 2 (eCall p__law_program [true, false] [(eV 1), (eC (.int 4))] []))
  (sSeq (sSet 3 (eCall p__law_drawn [true, false] [(eV 1), (eV 2)] []))
  (sSeq (sIf (tB gtD (eCall p__law_take [true, false] [(eV 1), (eC (.int 3))] []) (eC (.int 0))) (sSeq (sAsg (.tp [(.nm 2), (.nm 3)]) (eCall p__law_around [true, false] [(eV 1), (eV 2)] []))
  (sIf (tNot (tE (eCall p__law_accepted [false, false] [(eV 2), (eV 3)] []))) (sRet (eC (.bl false))) sNx)) sNx)
  b_law_1))))
def p_law : Fn := run 15 b_law
end UbK
section
open PySem UbP UbM
local macro_rules | `(tactic| walk_at "wp") => `(tactic| simp -implicitDefEqProofs only [sat_st, fsat_st, fst_run, st_ok, st_exc, st_bad, st_ret, st_bnd, st_optS, st_optN, st_optI, st_optMap, st_optBind, st_iteB, st_now_d, st_now_f, st_now_o, st_stay_d, st_stay_f, st_eC, st_eV, st_eU, st_eB, st_tB, st_truM, st_tE, st_tNot, st_tAnd, st_tOr, st_tCh, st_eAnd, st_eOr, st_eNot, st_eIf, st_args0, st_args1, st_eTup, st_eLst, st_intM, st_eSl, st_ownL, st_putL, st_recv, st_eApp, st_ePop, st_eRev, st_eExt, st_callB, st_eCall, st_newB, st_eNew, st_ownO, st_sFld, fst_ret, fst_exc, st_sSeq, st_sRet, st_sNx, st_sBk, st_sCt, st_sRetN, st_sIf, st_putM, st_sSet, st_sAsg, st_ownP, st_sOwn, st_frz, st_sPar, st_sEx, st_sItem, st_datM, st_sAug, st_sRaise, st_after, st_sTry, st_sFor, st_turn, st_lcStep, st_gxStep, st_eLc, st_eGx, st_iE, st_iR1, st_iR2, st_iEn, st_iZ, st_iZ3, st_iRv, rdS,
  goOn, cB, vI, vB, wk_lst, ls_lst, tr_lst, tp_lst, rv_lst, sl_lst, wk_lsf, ls_lsf, tr_lsf, rv_lsf, sl_lsf, wk_tup, ls_tup, tr_tup, tp_tup, lo_lst, tr_non, tr_bl, tr_int, tr_r, ii_non_int, ii_non_bool, ii_non_str, ii_non_list, ii_non_tuple, nn_non, nt_non, ii_bl_int, ii_bl_bool, ii_bl_str, ii_bl_list, ii_bl_tuple, nn_bl, nt_bl, nn_bb, nt_bb, ii_int_int, ii_int_bool, ii_int_str, ii_int_list, ii_int_tuple, nn_int, nt_int, ii_str_int, ii_str_bool, ii_str_str, ii_str_list, ii_str_tuple, nn_str, nt_str, ii_lst_int, ii_lst_bool, ii_lst_str, ii_lst_list, ii_lst_tuple, nn_lst, nt_lst, ii_tup_int, ii_tup_bool, ii_tup_str, ii_tup_list, ii_tup_tuple, nn_tup, nt_tup, ii_r_int, ii_r_bool, ii_r_str, ii_r_list, ii_r_tuple, nn_r, nt_r, op_add, op_sub, op_mul, op_fdv, op_mod, op_pow, op_gcd, op_lcm, op_min, op_max, op_lt, op_le, op_gt, op_ge, op_adds, op_addl, op_mull, op_neg, op_abs, op_int, op_intb,
  ix_r0, ix_r1, ix_lst, ix_lsf, ix_tup, len_lst, len_lsf, len_tup, len_r, eq_int, ne_int, eq_str, ne_str, eq_bl, ne_bl, eq_in, eq_ni, eq_nn, ne_in, ne_ni, ne_nn, eq_r, ne_r, eq_rs, ne_rs, atL_nat, atL0, atL1, atL2, atL3, atL4, atL5, ixI0, ixI1, ixI2, ixI3,
  LIM, stays, vw_stay_d, vw_stay_f, vw_stay_o, vw_now_d, vw_now_f, vw_now_o, vw_dull_d, vw_dull_f, vw_dull_o, vw_new_f, vw_view_d, vw_view_f, vw_view_o, vw_noL_d, vw_noL_f, toD_l, toD_o, mkArgs, ownIx, lookIx, nodup, passOk, putBack, putT, putTs, putN_eq, putOk_no, putOk_dat, putOk_own, putOk_jk, isDat_jk, isDat_no, isDat_dat, pars_jk, pars_no, pars_dat, pars_own, pars_par, pars_nilW, exFree_nil, exFree_cons, exF1_no, exF1_dat, exF1_own, exF1_par, exF1_jk, frzE, getO, setO, wipeE, backE, freeAt,  okT, okFl,
  List.cons_append, List.nil_append, List.append_nil, List.replicate_succ, List.replicate_zero, List.set_cons_zero, List.set_cons_succ, List.getElem?_cons_zero, List.getElem?_cons_succ, List.map_cons, List.map_nil, List.getD_cons_zero, List.getD_cons_succ, List.all_cons, List.all_nil, List.contains_cons, List.contains_nil, List.isEmpty_nil, List.isEmpty_cons, List.take_succ_cons, List.take_zero, List.zip_cons_cons, List.zip_nil_left, List.length_cons, List.length_nil, List.length_map, List.getElem?_map, Option.toList,
  Option.map_some, Option.map_none, Option.bind_some, Option.bind_none, Option.isNone_none, Option.isNone_some, Option.some.injEq, Bool.and_true, Bool.true_and, Bool.and_false, Bool.false_and, Bool.or_true, Bool.or_false, Bool.true_or, Bool.false_or, Bool.not_true, Bool.not_false, and_true, true_and, false_and, and_false, if_true, if_false, reduceCtorEq, eq_self, Bool.false_eq_true, Bool.true_eq_false, forall_const, false_implies, true_implies, imp_self, implies_true, Nat.reduceAdd, Nat.reduceSub, Nat.reduceBEq, beq_self_eq_true, decide_true, decide_false, reduceIte, Nat.reduceEqDiff, Nat.reduceLT, Nat.reduceLeDiff, decide_eq_true_eq, decide_eq_false_iff_not, Bool.not_eq_true', Bool.not_eq_false', Bool.not_not, ne_eq, not_false_eq_true, not_true_eq_false, String.reduceBEq, String.reduceEq, Int.toNat_natCast])

namespace UbK
theorem t__law_lowest {p q : Int} {n : Nat} (hq : 0 < q) (h2 : q.natAbs < 2 ^ n) (hn : n ≤ 2400) : p__law_lowest [.dat (.int p), .dat (.int q)] = .ret (.d (rD (Rat.divInt p q))) [] := by
  refine fsat_eq ?_
  unfold p__law_lowest b__law_lowest
  have ha : ∀ i : Int, (if i < 0 then -i else i) = (i.natAbs : Int) := fun i => by omega
  have hg := gcd_pos (p := p) (q := q) (by omega)
  have hgl : (Nat.gcd p.natAbs q.natAbs) < 2 ^ n := Nat.lt_of_le_of_lt (Nat.le_of_dvd (by omega) (Nat.gcd_dvd_right ..)) h2
  have hg2 : UbP.log2 ((Nat.gcd p.natAbs q.natAbs : Nat) : Int) < 9000 := log2_9 (n := n) (by rw [Int.natAbs_natCast]; exact hgl) (by omega)
  walk_at "wp"
  rw [ha, show q = ((q.natAbs : Nat) : Int) by omega]
  refine ⟨by decide, ?_⟩
  rw [ints0]
  refine for_inv (fun pre e => ∃ (x y : Nat) (s : Sl), e = [.dat (.int p), .dat (.int (q.natAbs : Nat)), .dat (.int x), .dat (.int y), s] ∧ Jk s ∧ Nat.gcd x y = Nat.gcd p.natAbs q.natAbs ∧ Enough (5000 - pre.length) x y) ⟨p.natAbs, q.natAbs, _, rfl, jkN, rfl, enough_of (Nat.lt_of_lt_of_le h2 (Nat.pow_le_pow_right (by decide) hn)) (by decide)⟩ ?_ ?_
  · rintro pre k post e hx ⟨x, y, _, rfl, ⟨s, rfl⟩, hgg, hn⟩
    walk_at "wp"
    rw [Int.fmod_eq_emod_of_nonneg _ (by omega)]
    refine ⟨fun h0 => ?_, fun h0 => ⟨h0, y, x % y, _, rfl, jkD, ?_, ?_⟩⟩
    · have h0 : y = 0 := by omega
      subst h0
      rw [Nat.gcd_zero_right] at hgg
      subst hgg
      have e1 : (q.natAbs : Int) = q := by omega
      refine ⟨fun h => absurd h (by omega), fun _ => ⟨⟨by omega, hg2⟩, ⟨by omega, hg2⟩, ?_⟩⟩
      rw [e1, Int.fdiv_eq_ediv_of_nonneg _ (by omega), Int.fdiv_eq_ediv_of_nonneg _ (by omega), num_pos hq, den_pos hq]; rfl
    · rw [← hgg, Nat.gcd_comm y, ← Nat.gcd_rec, Nat.gcd_comm]
    · rw [List.length_append]
      have := hn.step (show 0 < y by omega)
      rwa [Nat.sub_sub] at this
  · rintro e ⟨x, y, _, rfl, _, _, hn⟩
    have := hn.pos
    simp at this
theorem t__law_plus {a b : Rat} {n m : Nat} (ha : Bd n a) (hb : Bd m b) (hn : n + m ≤ 2400) : p__law_plus [.dat (rD a), .dat (rD b)] = .ret (.d (rD (a + b))) [] := by
  refine fsat_eq ?_
  unfold p__law_plus b__law_plus
  walk_at "wp"
  refine ⟨mul_ok ha.1 (den_lt hb) (by omega), mul_ok hb.1 (den_lt ha) (by omega), mul_ok (den_lt ha) (den_lt hb) (by omega), ?_⟩
  rw [t__law_lowest (n := n + m) (Int.mul_pos (Int.natCast_pos.mpr a.den_pos) (Int.natCast_pos.mpr b.den_pos)) (mul_lt (den_lt ha) (den_lt hb)) (by omega), add_as]
  walk_at "wp"
theorem t__law_times {a b : Rat} {n m : Nat} (ha : Bd n a) (hb : Bd m b) (hn : n + m ≤ 2400) : p__law_times [.dat (rD a), .dat (rD b)] = .ret (.d (rD (a * b))) [] := by
  refine fsat_eq ?_
  unfold p__law_times b__law_times
  walk_at "wp"
  refine ⟨mul_ok ha.1 hb.1 (by omega), mul_ok (den_lt ha) (den_lt hb) (by omega), ?_⟩
  rw [t__law_lowest (n := n + m) (Int.mul_pos (Int.natCast_pos.mpr a.den_pos) (Int.natCast_pos.mpr b.den_pos)) (mul_lt (den_lt ha) (den_lt hb)) (by omega), mul_as]
  walk_at "wp"
theorem less_iff (a b : Rat) : (a.num * (b.den : Int) < b.num * (a.den : Int)) = (a < b) := propext (Rat.lt_iff a b).symm
theorem t__law_less {a b : Rat} {n m : Nat} (ha : Bd n a) (hb : Bd m b) (hn : n + m ≤ 2400) : p__law_less [.dat (rD a), .dat (rD b)] = .ret (.d (.bl (decide (a < b)))) [] := by
  refine fsat_eq ?_
  unfold p__law_less b__law_less
  walk_at "wp"
  refine ⟨mul_ok ha.1 (den_lt hb) (by omega), mul_ok hb.1 (den_lt ha) (by omega), ?_⟩
  simp only [less_iff]

theorem t_make {p q : Int} {n : Nat} (hq : q ≠ 0) (h2 : q.natAbs < 2 ^ n) (hn : n < 9000) : p_make [.dat (.int p), .dat (.int q)] = .ret (.d (rD (Rat.divInt p q))) [] := by
  refine fsat_eq ?_
  unfold p_make b_make
  have hg := gcd_pos (p := p) hq
  have hgl : (Nat.gcd p.natAbs q.natAbs) < 2 ^ n := Nat.lt_of_le_of_lt (Nat.le_of_dvd (by omega) (Nat.gcd_dvd_right ..)) h2
  have hg2 : UbP.log2 ((Nat.gcd p.natAbs q.natAbs : Nat) : Int) < 9000 := log2_9 (n := n) (by rw [Int.natAbs_natCast]; exact hgl) (by omega)
  have hg3 : UbP.log2 (-((Nat.gcd p.natAbs q.natAbs : Nat) : Int)) < 9000 := log2_9 (n := n) (by rw [Int.natAbs_neg, Int.natAbs_natCast]; exact hgl) (by omega)
  walk_at "wp"
  refine ⟨fun h => absurd h hq, fun _ => ⟨fun hq0 => ⟨⟨by omega, hg3⟩, ⟨by omega, hg3⟩, ?_⟩, fun hq0 => ⟨⟨by omega, hg2⟩, ⟨by omega, hg2⟩, ?_⟩⟩⟩
  · rw [num_neg hq0, den_neg hq0]; rfl
  · rw [Int.fdiv_eq_ediv_of_nonneg _ (by omega), Int.fdiv_eq_ediv_of_nonneg _ (by omega), num_pos (show 0 < q by omega), den_pos (show 0 < q by omega)]; rfl

theorem t_add {a b : Rat} {n m : Nat} (ha : Bd n a) (hb : Bd m b) (hn : n + m < 9000) : p_add [.dat (rD a), .dat (rD b)] = .ret (.d (rD (a + b))) [] := by
  refine fsat_eq ?_
  unfold p_add b_add
  walk_at "wp"
  refine ⟨mul_ok ha.1 (den_lt hb) (by omega), mul_ok hb.1 (den_lt ha) (by omega), mul_ok (den_lt ha) (den_lt hb) (by omega), ?_⟩
  rw [t_make (n := n + m) (Int.mul_ne_zero (den_ne a) (den_ne b)) (mul_lt (den_lt ha) (den_lt hb)) (by omega), add_as]
  walk_at "wp"

theorem t_multiply {a b : Rat} {n m : Nat} (ha : Bd n a) (hb : Bd m b) (hn : n + m < 9000) : p_multiply [.dat (rD a), .dat (rD b)] = .ret (.d (rD (a * b))) [] := by
  refine fsat_eq ?_
  unfold p_multiply b_multiply
  walk_at "wp"
  refine ⟨mul_ok ha.1 hb.1 (by omega), mul_ok (den_lt ha) (den_lt hb) (by omega), ?_⟩
  rw [t_make (n := n + m) (Int.mul_ne_zero (den_ne a) (den_ne b)) (mul_lt (den_lt ha) (den_lt hb)) (by omega), mul_as]
  walk_at "wp"

theorem zip_map {α : Type} (g : α → D) (a b : List α) : List.zipWith (fun x y => D.tup [x, y]) (a.map g) (b.map g) = (a.zip b).map fun p => .tup [g p.1, g p.2] := by
  induction a generalizing b with
  | nil => rfl
  | cons x a ih =>
    cases b with
    | nil => rfl
    | cons y b => simp [ih]
theorem dotZ (l : List (Rat × Rat)) (x : Rat × Rat) : sumR ((l ++ [x]).map fun p => p.1 * p.2) = sumR (l.map fun p => p.1 * p.2) + x.1 * x.2 := by
  rw [List.map_append]
  exact sumR_snoc _ _
theorem dot_zip (a b : List Rat) : dotR a b = sumR ((a.zip b).map fun p => p.1 * p.2) := by
  unfold dotR
  congr 1
  induction a generalizing b with
  | nil => rfl
  | cons x a ih =>
    cases b with
    | nil => rfl
    | cons y b => simp [ih]
theorem t_dot {a b : List Rat} {n m : Nat} (ha : ∀ x ∈ a, Bd n x) (hb : ∀ x ∈ b, Bd m x) (hl : min a.length b.length * (n + m + 1) + n + m + 1 < 9000) : p_dot [.dat (rsD a), .dat (rsD b)] = .ret (.d (rD (dotR a b))) [] := by
  refine fsat_eq ?_
  unfold p_dot b_dot
  walk_at "wp"
  rw [zip_map]
  refine for_inv (fun pre e => ∃ (s t : Sl), e = [.dat (rsD a), .dat (rsD b), .dat (rD (sumR (pre.map fun p => p.1 * p.2))), s, t] ∧ Jk s ∧ Jk t) ⟨_, _, rfl, jkN, jkN⟩ ?_ ?_
  · rintro pre x post e hx ⟨_, _, rfl, ⟨s, rfl⟩, ⟨t, rfl⟩⟩
    have hx1 : x.1 ∈ a := (List.of_mem_zip (show (x.1, x.2) ∈ a.zip b by rw [hx]; simp)).1
    have hx2 : x.2 ∈ b := (List.of_mem_zip (show (x.1, x.2) ∈ a.zip b by rw [hx]; simp)).2
    have hlen : pre.length + 1 ≤ min a.length b.length := by
      have := congrArg List.length hx
      rw [List.length_zip, List.length_append, List.length_cons] at this
      omega
    have hm : (pre.length + 1) * (n + m + 1) ≤ min a.length b.length * (n + m + 1) := Nat.mul_le_mul_right _ hlen
    rw [Nat.add_mul] at hm
    have hp : Bd (pre.length * (n + m + 1) + 1) (sumR (pre.map fun p => p.1 * p.2)) := by
      have := bd_sum (l := pre.map fun p => p.1 * p.2) (n := n + m) fun y hy => by
        obtain ⟨p, hp, rfl⟩ := List.mem_map.mp hy
        have := List.of_mem_zip (show (p.1, p.2) ∈ a.zip b by rw [hx]; simp [hp])
        exact bd_mul (ha _ this.1) (hb _ this.2)
      rwa [List.length_map] at this
    walk_at "wp"
    have zz : ∀ y : Rat, y.num = 0 → y = 0 := fun y h => Rat.num_eq_zero.mp h
    refine ⟨fun h1 => ⟨fun h2 => ?_, fun h2 => ⟨_, _, by rw [dotZ, zz _ h2, Rat.mul_zero, Rat.add_zero], jkD, jkD⟩⟩, fun h1 => ⟨_, _, by rw [dotZ, zz _ h1, Rat.zero_mul, Rat.add_zero], jkD, jkD⟩⟩
    rw [t_multiply (ha _ hx1) (hb _ hx2) (by omega)]
    walk_at "wp"
    rw [t_add hp (bd_mul (ha _ hx1) (hb _ hx2)) (by omega)]
    walk_at "wp"
    exact ⟨_, _, by rw [dotZ], jkD, jkD⟩
  · rintro e ⟨_, _, rfl, ⟨s, rfl⟩, ⟨t, rfl⟩⟩
    walk_at "wp"
    rw [dot_zip]

theorem range_zip (a b : List Rat) : (List.range (min a.length b.length)).map (fun k => a.getD k 0 * b.getD k 0) = List.zipWith (· * ·) a b := by
  apply List.ext_getElem?
  intro i
  simp only [List.getElem?_map, List.getElem?_zipWith]
  by_cases hi : i < min a.length b.length
  · rw [List.getElem?_range hi, List.getElem?_eq_getElem (show i < a.length by omega), List.getElem?_eq_getElem (show i < b.length by omega)]
    simp [List.getD_eq_getElem?_getD, List.getElem?_eq_getElem (show i < a.length by omega), List.getElem?_eq_getElem (show i < b.length by omega)]
  · rw [List.getElem?_eq_none (by simpa using hi)]
    by_cases h2 : i < a.length
    · rw [List.getElem?_eq_none (show b.length ≤ i by omega)]
      cases a[i]? <;> rfl
    · rw [List.getElem?_eq_none (show a.length ≤ i by omega)]
      rfl
theorem range_pre {n k : Nat} {pre post : List Nat} (h : List.range n = pre ++ k :: post) : pre.length = k ∧ k < n := by
  have h1 : (List.range n)[pre.length]? = some k := by rw [h]; simp
  by_cases hl : pre.length < n
  · rw [List.getElem?_range hl] at h1
    have := Option.some.inj h1
    omega
  · rw [List.getElem?_eq_none (by simp; omega)] at h1
    cases h1
theorem sum_snoc_map {α : Type} (f : α → Rat) (l : List α) (x : α) : sumR ((l ++ [x]).map f) = sumR (l.map f) + f x := by
  rw [List.map_append]
  exact sumR_snoc _ _
theorem t__law_dot {a b : List Rat} {n m : Nat} (ha : ∀ x ∈ a, Bd n x) (hb : ∀ x ∈ b, Bd m x) (hl : min a.length b.length * (n + m + 1) + n + m + 1 ≤ 2400) (hs : a.length < 1000000 ∧ b.length < 1000000) : p__law_dot [.dat (rsD a), .dat (rsD b)] = .ret (.d (rD (dotR a b))) [] := by
  refine fsat_eq ?_
  unfold p__law_dot b__law_dot
  walk_at "wp"
  have em : (if (b.length : Int) < (a.length : Int) then (b.length : Int) else (a.length : Int)) = ((min a.length b.length : Nat) : Int) := by
    split <;> omega
  rw [em]
  refine ⟨big_nat (by omega), ?_⟩
  rw [Int.toNat_natCast, ints0]
  refine for_inv (fun pre e => ∃ s : Sl, e = [.dat (rsD a), .dat (rsD b), .dat (rD (sumR (pre.map fun k => a.getD k 0 * b.getD k 0))), s] ∧ Jk s) ⟨_, rfl, jkN⟩ ?_ ?_
  · rintro pre k post e hx ⟨_, rfl, ⟨s, rfl⟩⟩
    obtain ⟨hk1, hk⟩ := range_pre hx
    have e1 : a[k]? = some (a.getD k 0) := getD_ok (by omega)
    have e2 : b[k]? = some (b.getD k 0) := getD_ok (by omega)
    have ba := ha _ (List.mem_of_getElem? e1)
    have bb := hb _ (List.mem_of_getElem? e2)
    have hm : (pre.length + 1) * (n + m + 1) ≤ min a.length b.length * (n + m + 1) := Nat.mul_le_mul_right _ (by omega)
    rw [Nat.add_mul] at hm
    have hp : Bd (pre.length * (n + m + 1) + 1) (sumR (pre.map fun k => a.getD k 0 * b.getD k 0)) := by
      have := bd_sum (l := pre.map fun k => a.getD k 0 * b.getD k 0) (n := n + m) fun y hy => by
        obtain ⟨j, hj, rfl⟩ := List.mem_map.mp hy
        have hj : j ∈ List.range (min a.length b.length) := by rw [hx]; simp [hj]
        have hj := List.mem_range.mp hj
        exact bd_mul (ha _ (List.mem_of_getElem? (getD_ok (by omega)))) (hb _ (List.mem_of_getElem? (getD_ok (by omega))))
      rwa [List.length_map] at this
    have zz : ∀ y : Rat, y.num = 0 → y = 0 := fun y h => Rat.num_eq_zero.mp h
    walk_at "wp"
    rw [e1]
    walk_at "wp"
    refine ⟨fun h1 => ?_, fun h1 => ⟨_, by rw [sum_snoc_map, zz _ h1, Rat.zero_mul, Rat.add_zero], jkD⟩⟩
    rw [e2]
    walk_at "wp"
    refine ⟨fun h2 => ?_, fun h2 => ⟨_, by rw [sum_snoc_map, zz _ h2, Rat.mul_zero, Rat.add_zero], jkD⟩⟩
    rw [e1]
    walk_at "wp"
    rw [e2]
    walk_at "wp"
    rw [t__law_times ba bb (by omega)]
    walk_at "wp"
    rw [t__law_plus hp (bd_mul ba bb) (by omega)]
    walk_at "wp"
    exact ⟨_, by rw [sum_snoc_map], jkD⟩
  · rintro e ⟨_, rfl, ⟨s, rfl⟩⟩
    walk_at "wp"
    rw [range_zip]
    rfl

structure RwOk (c : Nat) (r : Row) : Prop where
  len : r.a.length = c
  ab : ∀ y ∈ r.a, Bd 64 y
  bb : Bd 64 r.b
structure PgOk (p : Pg) : Prop where
  n8 : p.n ≤ 8
  fl : p.free.length = p.n
  gl : p.goal.length = p.n
  gb : ∀ y ∈ p.goal, Bd 64 y
  rows : ∀ r ∈ p.rows, RwOk p.n r
  rl : p.rows.length ≤ 100
theorem bd_dot {a b : List Rat} {n m : Nat} (ha : ∀ x ∈ a, Bd n x) (hb : ∀ x ∈ b, Bd m x) : Bd (min a.length b.length * (n + m + 1) + 1) (dotR a b) := by
  have := bd_sum (l := List.zipWith (· * ·) a b) (n := n + m) fun y hy => by
    obtain ⟨u, hu, v, hv, rfl⟩ := mem_zipWith hy
    exact bd_mul (ha u hu) (hb v hv)
  rwa [List.length_zipWith] at this
theorem bd_dot8 {c : Nat} {r : Row} {x : List Rat} (h : RwOk c r) (hc : c ≤ 8) (hx : ∀ y ∈ x, Bd 64 y) : Bd 1033 (dotR r.a x) := by
  have := bd_dot h.ab hx
  refine this.mono ?_
  have hm : min r.a.length x.length * (64 + 64 + 1) ≤ 8 * (64 + 64 + 1) := Nat.mul_le_mul_right _ (by have := h.len; omega)
  omega
theorem dot8 {c : Nat} {r : Row} {x : List Rat} (h : RwOk c r) (hc : c ≤ 8) (hx : ∀ y ∈ x, Bd 64 y) (hxl : x.length ≤ 8) : p__law_dot [.dat (rsD r.a), .dat (rsD x)] = .ret (.d (rD (dotR r.a x))) [] := by
  have hl := h.len
  refine t__law_dot h.ab hx ?_ ⟨by omega, by omega⟩
  have hm : min r.a.length x.length * (64 + 64 + 1) ≤ 8 * (64 + 64 + 1) := Nat.mul_le_mul_right _ (by omega)
  omega
theorem dot8' {c : Nat} {r : Row} {x : List Rat} (h : RwOk c r) (hc : c ≤ 8) (hx : ∀ y ∈ x, Bd 64 y) (hxl : x.length ≤ 8) : p_dot [.dat (rsD r.a), .dat (rsD x)] = .ret (.d (rD (dotR r.a x))) [] := by
  have hl := h.len
  refine t_dot h.ab hx ?_
  have hm : min r.a.length x.length * (64 + 64 + 1) ≤ 8 * (64 + 64 + 1) := Nat.mul_le_mul_right _ (by omega)
  omega
theorem t__law_row_holds {c : Nat} {r : Row} {x : List Rat} (h : RwOk c r) (hc : c ≤ 8) (hx : ∀ y ∈ x, Bd 64 y) (hxl : x.length ≤ 8) : p__law_row_holds [.dat (rsD r.a), .dat (.str r.w.s), .dat (rD r.b), .dat (rsD x)] = .ret (.d (.bl (holds r x))) [] := by
  refine fsat_eq ?_
  unfold p__law_row_holds b__law_row_holds
  have hd := bd_dot8 h hc hx
  walk_at "wp"
  rw [dot8 h hc hx hxl]
  walk_at "wp"
  simp only [wd_least, wd_most]
  refine ⟨fun h1 => ?_, fun h1 => ⟨fun h2 => ?_, fun h2 => ?_⟩⟩
  · rw [t__law_less hd h.bb (by decide)]
    walk_at "wp"
    unfold holds
    rw [h1]
  · rw [t__law_less h.bb hd (by decide)]
    walk_at "wp"
    unfold holds
    rw [h2]
  · have : r.w = .exac := by
      cases hw : r.w with
      | exac => rfl
      | most => exact absurd hw h2
      | least => exact absurd hw h1
    unfold holds
    rw [this]
theorem all_map {α : Type} (f : α → Bool) (l : List α) : allD (.lst (l.map fun r => .bl (f r))) = some (.d (.bl (l.all f))) := by
  have : boolsOf (l.map fun r => .bl (f r)) = some (l.map f) := by
    induction l with
    | nil => rfl
    | cons x l ih => rw [List.map_cons]; unfold boolsOf; rw [ih]; rfl
  unfold allD
  dsimp only
  rw [this]
  show vB _ = _
  rw [List.all_map]
  rfl
theorem all_zip_range {α β : Type} (f : α → β → Bool) {a : List α} {b : List β} {n : Nat} (da : α) (db : β) (ha : a.length = n) (hb : b.length = n) : (a.zip b).all (fun q => f q.1 q.2) = (List.range n).all fun k => f (a.getD k da) (b.getD k db) := by
  rw [Bool.eq_iff_iff, List.all_eq_true, List.all_eq_true]
  constructor
  · intro h k hk
    have hk := List.mem_range.mp hk
    exact h (a.getD k da, b.getD k db) (List.mem_iff_getElem?.mpr ⟨k, List.getElem?_zip_eq_some.mpr ⟨getD_ok (by omega), getD_ok (by omega)⟩⟩)
  · intro h q hq
    obtain ⟨k, hk⟩ := List.mem_iff_getElem?.mp hq
    obtain ⟨h1, h2⟩ := List.getElem?_zip_eq_some.mp hk
    have hl := (List.getElem?_eq_some_iff.mp h1).1
    have := h k (List.mem_range.mpr (by omega))
    rw [List.getD_eq_getElem?_getD, List.getD_eq_getElem?_getD, h1, h2] at this
    exact this
theorem signs_range {p : Pg} {x : List Rat} (hp : PgOk p) (hx : x.length = p.n) : p.signs x = (List.range p.n).all fun k => p.free.getD k false || decide (0 ≤ (x.getD k 0).num) :=
  all_zip_range (fun (a : Bool) (b : Rat) => a || decide (0 ≤ b.num)) false 0 hp.fl hx
theorem t__law_fits {p : Pg} {x : List Rat} (hp : PgOk p) (hx : ∀ y ∈ x, Bd 64 y) (hxl : x.length ≤ 8) : p__law_fits [.dat (pgT p), .dat (rsD x)] = .ret (.d (.bl (p.fits x))) [] := by
  refine fsat_eq ?_
  unfold p__law_fits b__law_fits pgT
  have hn := hp.n8
  walk_at "wp"
  refine ⟨fun h1 => ?_, fun h1 => ?_⟩
  · have : ¬x.length = p.n := by omega
    unfold Pg.fits
    rw [decide_eq_false this]
    rfl
  · have hl : x.length = p.n := by omega
    refine ⟨big_nat (by omega), ?_⟩
    rw [ints0]
    refine for_inv (fun pre e => ∃ s : Sl, e = [.dat (.tup [.int (p.n : Int), bsD p.free, rsD p.goal, rwD p.rows]), .dat (rsD x), .dat (.int (p.n : Int)), .dat (bsD p.free), .dat (rsD p.goal), .dat (rwD p.rows), s, .no, .no, .no] ∧ Jk s ∧ pre.all (fun k => p.free.getD k false || decide (0 ≤ (x.getD k 0).num)) = true) ⟨_, rfl, jkN, rfl⟩ ?_ ?_
    · rintro pre k post e hx2 ⟨_, rfl, ⟨s, rfl⟩, hpre⟩
      obtain ⟨hk1, hk⟩ := range_pre hx2
      have e1 : p.free[k]? = some (p.free.getD k false) := getD_ok (by have := hp.fl; omega)
      have e2 : x[k]? = some (x.getD k 0) := getD_ok (by omega)
      walk_at "wp"
      rw [e1]
      walk_at "wp"
      refine ⟨fun h2 => ?_, fun h2 => ⟨_, rfl, jkD, ?_⟩⟩
      · rw [e2]
        walk_at "wp"
        refine ⟨fun h3 => ?_, fun h3 => ⟨_, rfl, jkD, ?_⟩⟩
        · unfold Pg.fits
          have : p.signs x = false := by
            rw [signs_range hp hl, List.all_eq_false]
            refine ⟨k, List.mem_range.mpr hk, ?_⟩
            intro h
            rw [h2, Bool.false_or, decide_eq_true_eq] at h
            omega
          rw [this, Bool.and_false, Bool.false_and]
        · rw [List.all_append, hpre]
          show (true && ((p.free.getD k false || decide (0 ≤ (x.getD k 0).num)) && true)) = true
          rw [decide_eq_true (show 0 ≤ (x.getD k 0).num by omega), Bool.or_true]
          rfl
      · rw [List.all_append, hpre]
        show (true && ((p.free.getD k false || decide (0 ≤ (x.getD k 0).num)) && true)) = true
        rw [h2]
        rfl
    · rintro e ⟨_, rfl, ⟨s, rfl⟩, hpre⟩
      walk_at "wp"
      refine lc_map (fun r => .bl (holds r x)) (lim_le (by have := hp.rl; omega)) (fun r hr => ?_) ?_
      · unfold rowD
        walk_at "wp"
        rw [t__law_row_holds (hp.rows r hr) hn hx hxl]
        walk_at "wp"
      · walk_at "wp"
        rw [all_map]
        walk_at "wp"
        unfold Pg.fits
        rw [decide_eq_true hl, signs_range hp hl, hpre]
        rfl

theorem okT_lim (s : Str) (h : s.length ≤ 1000) : okT [.str s] = true := by unfold okT; exact decide_eq_true h
theorem wd_in (w : Wd) : ninD (.str w.s) (.tup [.str "at least", .str "at most", .str "exactly"]) = some false := by cases w <;> rfl
theorem t__check_form {p : Pg} (hp : PgOk p) : p__check_form [.dat (.int (p.n : Int)), .dat (bsD p.free), .dat (rsD p.goal), .dat (rwD p.rows)] = .ret (.d .non) [] := by
  refine fsat_eq ?_
  unfold p__check_form b__check_form
  have h1 := hp.fl
  have h2 := hp.gl
  walk_at "wp"
  refine ⟨fun h => absurd h (by omega), fun _ => ⟨fun h => absurd h (by omega), fun _ => ⟨fun h => absurd h (by omega), fun _ => ?_⟩⟩⟩
  refine for_inv (fun pre e => ∃ s t u : Sl, e = [.dat (.int (p.n : Int)), .dat (bsD p.free), .dat (rsD p.goal), .dat (rwD p.rows), s, t, u] ∧ Jk s ∧ Jk t ∧ Jk u) ⟨_, _, _, rfl, jkN, jkN, jkN⟩ ?_ ?_
  · rintro pre r post e hx ⟨_, _, _, rfl, ⟨s, rfl⟩, ⟨t, rfl⟩, ⟨u, rfl⟩⟩
    have hr := hp.rows r (by rw [hx]; simp)
    have hl := hr.len
    unfold rowD
    walk_at "wp"
    rw [wd_in]
    walk_at "wp"
    exact ⟨fun h => absurd h (by omega), fun _ => ⟨_, _, _, rfl, jkD, jkD, jkD⟩⟩
  · rintro e ⟨_, _, _, rfl, ⟨s, rfl⟩, ⟨t, rfl⟩, ⟨u, rfl⟩⟩
    walk_at "wp"
theorem t__check_size {p : Pg} (hp : PgOk p) : p__check_size [.dat (.int (p.n : Int)), .dat (rwD p.rows)] = .ret (.d .non) [] := by
  refine fsat_eq ?_
  unfold p__check_size b__check_size
  have h1 := hp.n8
  have h2 := hp.rl
  walk_at "wp"
  exact ⟨fun h => absurd h (by omega), fun _ h => absurd h (by omega)⟩
theorem t_Program___init__ {p : Pg} (hp : PgOk p) : p_Program___init__ [.par (.o "Program" []), .dat (.int (p.n : Int)), .dat (bsD p.free), .dat (rsD p.goal), .dat (rwD p.rows)] = .ret (.d .non) [pgC p] := by
  refine fsat_eq ?_
  unfold p_Program___init__ b_Program___init__
  walk_at "wp"
  rw [t__check_size hp]
  walk_at "wp"
  rw [t__check_form hp]
  walk_at "wp"
  simp only [pf0, pf1, pf2]
  refine ⟨(show 1 < 1000 by decide), (show 2 < 1000 by decide), ?_⟩
  refine lc_map rowD (lim_le (by have := hp.rl; omega)) (fun r hr => ?_) ?_
  · unfold rowD
    walk_at "wp"
  · walk_at "wp"
    simp only [pf3]
    rfl
theorem t__law_made {p : Pg} (hp : PgOk p) : p__law_made [.dat (pgT p)] = .ret (.f (pgC p)) [] := by
  refine fsat_eq ?_
  unfold p__law_made b__law_made pgT
  walk_at "wp"
  refine lc_map rowD (lim_le (by have := hp.rl; omega)) (fun r hr => ?_) ?_
  · unfold rowD
    walk_at "wp"
  · walk_at "wp"
    rw [t_Program___init__ hp]
    walk_at "wp"
theorem pg_fits_rows {p : Pg} : True := trivial

theorem t_keeps_signs {p : Pg} {x : List Rat} (hx : x.length ≤ 100) : p_keeps_signs [.dat (pgO p), .dat (rsD x)] = .ret (.d (.bl (decide (x.length = p.n) && p.signs x))) [] := by
  refine fsat_eq ?_
  unfold p_keeps_signs b_keeps_signs
  walk_at "wp"
  rw [fld_v]
  walk_at "wp"
  refine ⟨fun h => ?_, fun h => ?_⟩
  · rw [decide_eq_false (show ¬x.length = p.n by omega)]
    rfl
  · rw [fld_f]
    walk_at "wp"
    rw [zip_map2]
    refine gx_all (fun q : Bool × Rat => q.1 || decide (0 ≤ q.2.num)) (fun q hq => ?_) ?_
    · walk_at "wp"
      refine ⟨fun h => ?_, fun h => ?_⟩
      · rw [h]; rfl
      · rw [h, Bool.false_or]
    · walk_at "wp"
      rw [decide_eq_true (show x.length = p.n by omega)]
      rfl
theorem t_sign (a : Int) (b : D) : p_sign [.dat (.tup [.int a, b])] = .ret (.d (.int (Int.sign a))) [] := by
  refine fsat_eq ?_
  unfold p_sign b_sign
  walk_at "wp"
  refine ⟨fun h => ?_, fun h => ⟨fun h2 => ?_, fun h2 => ?_⟩⟩
  · rw [Int.sign_eq_one_of_pos h]
  · rw [Int.sign_eq_neg_one_of_neg h2]
  · rw [show a = 0 by omega]; rfl
theorem t_compare {a b : Rat} {n m : Nat} (ha : Bd n a) (hb : Bd m b) (hn : n + m ≤ 2400) : p_compare [.dat (rD a), .dat (rD b)] = .ret (.d (.int (cmpR a b))) [] := by
  refine fsat_eq ?_
  unfold p_compare b_compare
  walk_at "wp"
  refine ⟨mul_ok ha.1 (den_lt hb) (by omega), mul_ok hb.1 (den_lt ha) (by omega), mul_ok (den_lt ha) (den_lt hb) (by omega), ?_⟩
  rw [t_sign]
  walk_at "wp"
  rfl
def agreesB (w : Wd) (o : Int) : Bool := match w with
  | .least => decide (0 ≤ o)
  | .most => decide (o ≤ 0)
  | .exac => decide (o = 0)
theorem t_agrees (w : Wd) (o : Int) : p_agrees [.dat (.str w.s), .dat (.int o)] = .ret (.d (.bl (agreesB w o))) [] := by
  refine fsat_eq ?_
  unfold p_agrees b_agrees
  walk_at "wp"
  simp only [wd_least, wd_most]
  refine ⟨fun h => ?_, fun h => ⟨fun h2 => ?_, fun h2 => ?_⟩⟩
  · rw [h]; rfl
  · rw [h2]; rfl
  · have : w = .exac := by
      cases w with
      | exac => rfl
      | most => exact absurd rfl h2
      | least => exact absurd rfl h
    rw [this]; rfl
theorem agrees_holds (r : Row) (x : List Rat) : agreesB r.w (cmpR (dotR r.a x) r.b) = holds r x := by
  unfold agreesB holds
  rcases cmpR_cases (dotR r.a x) r.b with ⟨h, e⟩ | ⟨h, e⟩ | ⟨h, e⟩
  · rw [e]
    have h1 : ¬r.b < dotR r.a x := by grind
    have h2 : ¬dotR r.a x = r.b := by grind
    cases r.w <;> simp [h, h1, h2]
  · rw [e]
    have h1 : ¬r.b < dotR r.a x := by grind
    have h2 : ¬dotR r.a x < r.b := by grind
    cases r.w <;> simp [h, h1, h2]
  · rw [e]
    have h1 : ¬dotR r.a x < r.b := by grind
    have h2 : ¬dotR r.a x = r.b := by grind
    cases r.w <;> simp [h, h1, h2]
theorem t_fits_rows {p : Pg} {x : List Rat} {l : List Row} (hl : ∀ r ∈ l, RwOk p.n r) (hn : p.n ≤ 8) (hx : ∀ y ∈ x, Bd 64 y) (hxl : x.length ≤ 8) : p_fits_rows [.dat (pgO p), .dat (rwD l), .dat (rsD x)] = .ret (.d (.bl (decide (x.length = p.n) && p.signs x && l.all (holds · x)))) [] := by
  refine fsat_eq ?_
  unfold p_fits_rows b_fits_rows
  walk_at "wp"
  rw [t_keeps_signs (by omega)]
  walk_at "wp"
  refine ⟨fun h => ?_, fun h => ?_⟩
  · rw [h]; rfl
  · refine for_inv (fun pre e => ∃ s t u : Sl, e = [.dat (pgO p), .dat (rwD l), .dat (rsD x), s, t, u] ∧ Jk s ∧ Jk t ∧ Jk u ∧ pre.all (holds · x) = true) ⟨_, _, _, rfl, jkN, jkN, jkN, rfl⟩ ?_ ?_
    · rintro pre r post e hx2 ⟨_, _, _, rfl, ⟨s, rfl⟩, ⟨t, rfl⟩, ⟨u, rfl⟩, hpre⟩
      have hr := hl r (by rw [hx2]; simp)
      unfold rowD
      walk_at "wp"
      rw [dot8' hr hn hx hxl]
      walk_at "wp"
      rw [t_compare (bd_dot8 hr hn hx) hr.bb (by decide)]
      walk_at "wp"
      rw [t_agrees, agrees_holds]
      walk_at "wp"
      refine ⟨fun h2 => ?_, fun h2 => ⟨_, _, _, rfl, jkD, jkD, jkD, ?_⟩⟩
      · have : l.all (holds · x) = false := by
          rw [List.all_eq_false]
          exact ⟨r, by rw [hx2]; simp, by rw [h2]; decide⟩
        rw [this, Bool.and_false]
      · rw [List.all_append, hpre, List.all_cons, h2]; rfl
    · rintro e ⟨_, _, _, rfl, ⟨s, rfl⟩, ⟨t, rfl⟩, ⟨u, rfl⟩, hpre⟩
      walk_at "wp"
      rw [h, hpre]; rfl

def RowC (c : Ct) : Prop := ∃ ns : List Int, c = .l (ns.map .int)
theorem fmod_rng {a m : Int} (hm : 0 < m) : 0 ≤ a.fmod m ∧ a.fmod m < m := by
  rw [Int.fmod_eq_emod_of_nonneg _ (by omega)]
  exact ⟨Int.emod_nonneg _ (by omega), Int.emod_lt_of_pos _ hm⟩
theorem t__law_take {c : Ct} {m : Int} (hc : RowC c) (hm : 0 < m) : ∃ v c', p__law_take [.par c, .dat (.int m)] = .ret (.d (.int v)) [c'] ∧ 0 ≤ v ∧ v < m ∧ RowC c' := by
  have key : fsat (p__law_take [.par c, .dat (.int m)]) (fun w cs => ∃ v c', w = .d (.int v) ∧ cs = [c'] ∧ 0 ≤ v ∧ v < m ∧ RowC c') fun _ _ => False := by
    obtain ⟨ns, rfl⟩ := hc
    rcases List.eq_nil_or_concat ns with rfl | ⟨ns', z, rfl⟩
    · unfold p__law_take b__law_take
      walk_at "wp"
      exact ⟨_, _, rfl, rfl, by omega, hm, ⟨[], rfl⟩⟩
    · rw [List.concat_eq_append, List.map_append]
      unfold p__law_take b__law_take
      walk_at "wp"
      refine ⟨fun h => absurd h (by simp), fun _ => ?_⟩
      rw [List.getLast?_concat, List.dropLast_concat]
      walk_at "wp"
      exact ⟨by omega, _, _, rfl, rfl, (fmod_rng hm).1, (fmod_rng hm).2, ⟨ns', rfl⟩⟩
  obtain ⟨w, cs, e, v, c', rfl, rfl, q⟩ := fsat_out key
  exact ⟨v, c', e, q⟩
theorem t__law_mix (a b : Int) : ∃ v : Int, p__law_mix [.dat (.int a), .dat (.int b)] = .ret (.d (.int v)) [] := by
  have key : fsat (p__law_mix [.dat (.int a), .dat (.int b)]) (fun w cs => ∃ v : Int, w = .d (.int v) ∧ cs = []) fun _ _ => False := by
    unfold p__law_mix b__law_mix
    walk_at "wp"
    have h1 : Int.natAbs 7919 < 2 ^ 64 := by decide
    have h2 : Int.natAbs 48271 < 2 ^ 64 := by decide
    have h3 : Int.natAbs 16807 < 2 ^ 64 := by decide
    exact ⟨by decide, mul_sm1 h1, mul_sm2 h2, by decide, mul_sm2 h3, by decide, _, rfl⟩
  obtain ⟨w, cs, e, v, rfl, rfl⟩ := fsat_out key
  exact ⟨v, e⟩

theorem cut_map {α β : Type} (f : α → β) (l : List α) (lo hi : Option Int) : cut (l.map f) lo hi = (cut l lo hi).map f := by
  unfold cut
  rw [List.length_map, List.map_take, List.map_drop]
theorem cut_len {α : Type} (l : List α) (lo hi : Option Int) : (cut l lo hi).length ≤ l.length := by
  unfold cut
  rw [List.length_take, List.length_drop]
  omega
def NumI (A B : Sl) (b : Nat) (e : UbP.Env) : Prop := ∃ (ms : List Int) (base : Int) (s t u : Sl), e = [A, B, .own (.l (ms.map .int)), .dat (.int base), s, t, u] ∧ Jk s ∧ Jk t ∧ Jk u ∧ ms.length ≤ b
theorem snoc_int (ms : List Int) (v : Int) : ms.map D.int ++ [.int v] = (ms ++ [v]).map .int := by rw [List.map_append]; rfl
theorem t__law_numbers {ns : List Int} {n : Nat} (hl : ns.length ≤ 63) (hn : n ≤ 1000) : ∃ c, p__law_numbers [.dat (.lsf (ns.map .int)), .dat (.int (n : Int))] = .ret (.f c) [] ∧ RowC c := by
  have key : fsat (p__law_numbers [.dat (.lsf (ns.map .int)), .dat (.int (n : Int))]) (fun w cs => ∃ c, w = .f c ∧ cs = [] ∧ RowC c) fun _ _ => False := by
    have h840 : (840 : Int) ≠ 0 ∧ UbP.log2 840 < 9000 := by decide
    have h31 : Int.natAbs 31 < 2 ^ 64 := by decide
    unfold p__law_numbers b__law_numbers
    walk_at "wp"
    rw [cut_map]
    have hcl := cut_len ns none (some 63)
    refine for_inv (fun pre e => NumI (.dat (.lsf (ns.map .int))) (.dat (.int (n : Int))) (pre.length * 60) e) ⟨[], 0, _, _, _, rfl, jkN, jkN, jkN, by simp⟩ ?_ ?_
    · rintro pre x post e hx ⟨ms, base, _, _, _, rfl, ⟨s, rfl⟩, ⟨t, rfl⟩, ⟨u, rfl⟩, hm⟩
      have hp : pre.length + 1 ≤ 63 := by
        have := congrArg List.length hx
        rw [List.length_append, List.length_cons] at this
        omega
      walk_at "wp"
      refine ⟨fun h1 => ?_, fun h1 => ?_⟩
      · refine ⟨by decide, ?_⟩
        rw [ints0]
        refine for_inv (fun pre2 e => ∃ (ms : List Int) (b r : Int) (u : Sl), e = [.dat (.lsf (ns.map .int)), .dat (.int (n : Int)), .own (.l (ms.map .int)), .dat (.int b), .dat (.int x), .dat (.int r), u] ∧ Jk u ∧ ms.length ≤ pre.length * 60 + pre2.length) ⟨ms, _, _, _, rfl, ⟨_, rfl⟩, by simpa using hm⟩ ?_ ?_
        · rintro pre2 k post2 e hx2 ⟨ms, b, r, _, rfl, ⟨u, rfl⟩, hm⟩
          obtain ⟨hk1, hk⟩ := range_pre hx2
          walk_at "wp"
          refine ⟨by decide, by omega, h840, fun h2 => ?_, fun h2 => ?_⟩
          · exact ⟨ms ++ [r.fmod 840], b, .dat (.int x), .dat (.int (r.fdiv 840)), .dat (.int (k : Int)), by rw [snoc_int], jkD, jkD, jkD, by rw [List.length_append, List.length_append]; simp; omega⟩
          · exact ⟨ms ++ [r.fmod 840], b, r.fdiv 840, .dat (.int (k : Int)), by rw [snoc_int], jkD, by rw [List.length_append, List.length_append]; simp; omega⟩
        · rintro e ⟨ms, b, r, _, rfl, ⟨u, rfl⟩, hm⟩
          refine ⟨ms, _, _, _, _, rfl, jkD, jkD, ⟨_, rfl⟩, ?_⟩
          rw [List.length_append]
          simp at hm ⊢
          omega
      · obtain ⟨v1, e1⟩ := t__law_mix x 3
        rw [e1]
        walk_at "wp"
        obtain ⟨v2, e2⟩ := t__law_mix v1 5
        rw [e2]
        walk_at "wp"
        exact ⟨by omega, ms ++ [v2], base + x, .dat (.int x), jk t, jk u, by rw [snoc_int], jkD, ⟨_, rfl⟩, ⟨_, rfl⟩, by rw [List.length_append, List.length_append]; simp; omega⟩
    · rintro e ⟨ms, base, _, _, _, rfl, ⟨s, rfl⟩, ⟨t, rfl⟩, ⟨u, rfl⟩, hm⟩
      have hm : ms.length ≤ 3780 := by omega
      walk_at "wp"
      refine ⟨big_nat (by omega), ?_⟩
      rw [ints0]
      refine for_inv (fun pre e => NumI (.dat (.lsf (ns.map .int))) (.dat (.int (n : Int))) (3780 + pre.length) e) ⟨ms, base, _, _, _, rfl, ⟨_, rfl⟩, ⟨_, rfl⟩, ⟨_, rfl⟩, by simpa using hm⟩ ?_ ?_
      · rintro pre k post e hx ⟨ms, base, _, _, _, rfl, ⟨s, rfl⟩, ⟨t, rfl⟩, ⟨u, rfl⟩, hm⟩
        obtain ⟨hk1, hk⟩ := range_pre hx
        walk_at "wp"
        refine ⟨mul_sm1 h31, ?_⟩
        obtain ⟨v1, e1⟩ := t__law_mix (base + 31 * (k : Int)) (11 + (k : Int))
        rw [e1]
        walk_at "wp"
        obtain ⟨v2, e2⟩ := t__law_mix v1 17
        rw [e2]
        walk_at "wp"
        exact ⟨by omega, ms ++ [v2], base, jk s, jk t, .dat (.int (k : Int)), by rw [snoc_int], ⟨_, rfl⟩, ⟨_, rfl⟩, jkD, by rw [List.length_append, List.length_append]; simp; omega⟩
      · rintro e ⟨ms, base, _, _, _, rfl, ⟨s, rfl⟩, ⟨t, rfl⟩, ⟨u, rfl⟩, hm⟩
        walk_at "wp"
        exact ⟨_, rfl, ms.reverse, by rw [List.map_reverse]⟩
  obtain ⟨w, cs, e, c, rfl, rfl, q⟩ := fsat_out key
  exact ⟨c, e, q⟩
theorem bd_low {p q : Int} (hq : 0 < q) (h1 : p.natAbs < 2 ^ 8) (h2 : q.natAbs < 2 ^ 8) : Bd 8 (Rat.divInt p q) := bd_divInt (by omega) h1 h2
theorem t__law_fraction {c : Ct} (hc : RowC c) : ∃ r c', p__law_fraction [.par c] = .ret (.d (rD r)) [c'] ∧ Bd 8 r ∧ RowC c' := by
  have key : fsat (p__law_fraction [.par c]) (fun w cs => ∃ r c', w = .d (rD r) ∧ cs = [c'] ∧ Bd 8 r ∧ RowC c') fun _ _ => False := by
    unfold p__law_fraction b__law_fraction
    walk_at "wp"
    obtain ⟨v1, c1, e1, _, _, d1⟩ := t__law_take (m := 8) hc (by decide)
    rw [e1]
    walk_at "wp"
    refine ⟨fun _ => ?_, fun _ => ⟨fun _ => ?_, fun _ => ⟨fun _ => ?_, fun _ => ?_⟩⟩⟩
    · obtain ⟨v2, c2, e2, g2, l2, d2⟩ := t__law_take (m := 7) d1 (by decide)
      rw [e2]
      walk_at "wp"
      exact ⟨((v2 - 2 : Int) : Rat), _, rfl, rfl, ⟨show (v2 - 2).natAbs < 2 ^ 8 by omega, (by decide : (1 : Nat) < 2 ^ 8)⟩, d2⟩
    · obtain ⟨v2, c2, e2, g2, l2, d2⟩ := t__law_take (m := 13) d1 (by decide)
      rw [e2]
      walk_at "wp"
      obtain ⟨v3, c3, e3, g3, l3, d3⟩ := t__law_take (m := 4) d2 (by decide)
      rw [e3]
      walk_at "wp"
      rw [t__law_lowest (n := 8) (by omega) (by omega) (by decide)]
      walk_at "wp"
      exact ⟨_, _, rfl, rfl, bd_low (by omega) (by omega) (by omega), d3⟩
    · exact ⟨0, _, rfl, rfl, ⟨by decide, by decide⟩, d1⟩
    · obtain ⟨v2, c2, e2, g2, l2, d2⟩ := t__law_take (m := 200) d1 (by decide)
      rw [e2]
      walk_at "wp"
      obtain ⟨v3, c3, e3, g3, l3, d3⟩ := t__law_take (m := 30) d2 (by decide)
      rw [e3]
      walk_at "wp"
      rw [t__law_lowest (n := 8) (by omega) (by omega) (by decide)]
      walk_at "wp"
      exact ⟨_, _, rfl, rfl, bd_low (by omega) (by omega) (by omega), d3⟩
  obtain ⟨w, cs, e, v, c', rfl, rfl, q⟩ := fsat_out key
  exact ⟨v, c', e, q⟩
theorem t__law_vector {c : Ct} {n : Nat} (hc : RowC c) (hn : n ≤ 1000) : ∃ (l : List Rat) (c' : Ct), p__law_vector [.par c, .dat (.int (n : Int))] = .ret (.f (.l (l.map rD))) [c'] ∧ l.length = n ∧ (∀ y ∈ l, Bd 8 y) ∧ RowC c' := by
  have key : fsat (p__law_vector [.par c, .dat (.int (n : Int))]) (fun w cs => ∃ (l : List Rat) (c' : Ct), w = .f (.l (l.map rD)) ∧ cs = [c'] ∧ l.length = n ∧ (∀ y ∈ l, Bd 8 y) ∧ RowC c') fun _ _ => False := by
    unfold p__law_vector b__law_vector
    walk_at "wp"
    refine ⟨big_nat (by omega), ?_⟩
    rw [ints0]
    refine lc_inv (lim_le (by simp; omega)) (fun pre acc e => ∃ (l : List Rat) (c' : Ct), acc = l.map rD ∧ e = [.par c', .dat (.int (n : Int)), .no] ∧ l.length = pre.length ∧ (∀ y ∈ l, Bd 8 y) ∧ RowC c') ⟨[], c, rfl, rfl, rfl, fun y h => absurd h List.not_mem_nil, hc⟩ ?_ ?_
    · rintro pre k post acc e hx ⟨l, c1, rfl, rfl, hl, hb, hc1⟩
      walk_at "wp"
      obtain ⟨r, c2, e2, hr, hc2⟩ := t__law_fraction hc1
      rw [e2]
      walk_at "wp"
      exact ⟨l ++ [r], c2, by rw [List.map_append]; rfl, rfl, by rw [List.length_append, List.length_append, hl]; rfl, fun y hy => (List.mem_append.mp hy).elim (hb y) fun h => by cases List.mem_singleton.mp h; exact hr, hc2⟩
    · rintro acc e ⟨l, c1, rfl, rfl, hl, hb, hc1⟩
      walk_at "wp"
      exact ⟨l, c1, rfl, rfl, by rw [hl]; simp, hb, hc1⟩
  obtain ⟨w, cs, e, l, c', rfl, rfl, q⟩ := fsat_out key
  exact ⟨l, c', e, q⟩

theorem wd_pick {v : Int} (h0 : 0 ≤ v) (h4 : v < 4) : ∃ w : Wd, atL [D.str "at most", .str "at least", .str "at most", .str "exactly"] v = some (.str w.s) := by
  have : v = 0 ∨ v = 1 ∨ v = 2 ∨ v = 3 := by omega
  rcases this with h | h | h | h
  · rw [h]; exact ⟨.most, rfl⟩
  · rw [h]; exact ⟨.least, rfl⟩
  · rw [h]; exact ⟨.most, rfl⟩
  · rw [h]; exact ⟨.exac, rfl⟩
theorem snoc_map {α : Type} (f : α → D) (l : List α) (x : α) : l.map f ++ [f x] = (l ++ [x]).map f := by rw [List.map_append]; rfl
theorem all_snoc {α : Type} {P : α → Prop} {l : List α} {x : α} (h : ∀ y ∈ l, P y) (k : P x) : ∀ y ∈ l ++ [x], P y := fun y hy => (List.mem_append.mp hy).elim (h y) fun z => by cases List.mem_singleton.mp z; exact k
theorem t__law_program {c : Ct} {m : Nat} (hc : RowC c) (hm : 0 < m) (h8 : m ≤ 8) : ∃ (p : Pg) (c' : Ct), p__law_program [.par c, .dat (.int (m : Int))] = .ret (.d (pgT p)) [c'] ∧ PgOk p ∧ p.n ≤ m ∧ p.rows.length ≤ 3 ∧ RowC c' ∧ ∀ r ∈ p.rows, ∀ y ∈ r.a, Bd 8 y := by
  have key : fsat (p__law_program [.par c, .dat (.int (m : Int))]) (fun w cs => ∃ (p : Pg) (c' : Ct), w = .d (pgT p) ∧ cs = [c'] ∧ PgOk p ∧ p.n ≤ m ∧ p.rows.length ≤ 3 ∧ RowC c' ∧ ∀ r ∈ p.rows, ∀ y ∈ r.a, Bd 8 y) fun _ _ => False := by
    unfold p__law_program b__law_program
    walk_at "wp"
    obtain ⟨v1, c1, e1, g1, l1, d1⟩ := t__law_take (m := (m : Int)) hc (by omega)
    rw [e1]
    walk_at "wp"
    obtain ⟨n, hn⟩ : ∃ n : Nat, 1 + v1 = (n : Int) := ⟨(1 + v1).toNat, by omega⟩
    rw [hn]
    have hnm : n ≤ m := by omega
    refine ⟨big_nat (by omega), ?_⟩
    rw [Int.toNat_natCast, ints0]
    refine lc_inv (lim_le (by simp; omega)) (fun pre acc e => ∃ (l : List Bool) (c' : Ct), acc = l.map .bl ∧ e = [.par c', .dat (.int (m : Int)), .dat (.int (n : Int)), .no, .no, .no, .no, .no] ∧ l.length = pre.length ∧ RowC c') ⟨[], c1, rfl, rfl, rfl, d1⟩ ?_ ?_
    · rintro pre k post acc e hx ⟨l, c2, rfl, rfl, hl, d2⟩
      walk_at "wp"
      obtain ⟨v3, c3, e3, g3, l3, d3⟩ := t__law_take (m := 4) d2 (by decide)
      rw [e3]
      walk_at "wp"
      exact ⟨l ++ [decide (v3 = 1)], c3, by rw [List.map_append]; rfl, rfl, by rw [List.length_append, List.length_append, hl]; rfl, d3⟩
    · rintro acc e ⟨free, c2, rfl, rfl, hfl, d2⟩
      walk_at "wp"
      obtain ⟨goal, c3, e3, hgl, hgb, d3⟩ := t__law_vector (n := n) d2 (by omega)
      rw [e3]
      walk_at "wp"
      obtain ⟨v4, c4, e4, g4, l4, d4⟩ := t__law_take (m := 4) d3 (by decide)
      rw [e4]
      walk_at "wp"
      obtain ⟨z, hz⟩ : ∃ z : Nat, v4 = (z : Int) := ⟨v4.toNat, by omega⟩
      rw [hz]
      refine ⟨big_nat (by omega), ?_⟩
      rw [Int.toNat_natCast, ints0]
      refine for_inv (fun pre e => ∃ (l : List Row) (c' : Ct) (s t : Sl), e = [.par c', .dat (.int (m : Int)), .dat (.int (n : Int)), s, .dat (bsD free), .dat (rsD goal), .own (.l (l.map rowD)), t] ∧ Jk s ∧ Jk t ∧ l.length = pre.length ∧ (∀ r ∈ l, RwOk n r) ∧ RowC c' ∧ ∀ r ∈ l, ∀ y ∈ r.a, Bd 8 y) ⟨[], c4, _, _, rfl, jkN, jkN, rfl, fun r h => absurd h List.not_mem_nil, d4, fun r h => absurd h List.not_mem_nil⟩ ?_ ?_
      · rintro pre k post e hx ⟨l, c5, _, _, rfl, ⟨s, rfl⟩, ⟨t, rfl⟩, hl, hr, d5, h85⟩
        obtain ⟨hk1, hk⟩ := range_pre hx
        walk_at "wp"
        obtain ⟨v6, c6, e6, g6, l6, d6⟩ := t__law_take (m := 4) d5 (by decide)
        rw [e6]
        walk_at "wp"
        obtain ⟨w, hw⟩ := wd_pick g6 l6
        rw [hw]
        walk_at "wp"
        obtain ⟨a, c7, e7, hal, hab, d7⟩ := t__law_vector (n := n) d6 (by omega)
        rw [e7]
        walk_at "wp"
        obtain ⟨b, c8, e8, hb, d8⟩ := t__law_fraction d7
        rw [e8]
        walk_at "wp"
        have hz4 : z < 4 := by omega
        refine ⟨by omega, l ++ [⟨a, w, b⟩], c8, .dat (.int (k : Int)), .dat (.str w.s), ?_, jkD, jkD, by rw [List.length_append, List.length_append, hl]; rfl, all_snoc hr ⟨hal, fun y hy => (hab y hy).mono (by decide), hb.mono (by decide)⟩, d8, all_snoc h85 hab⟩
        rw [← snoc_map]
        rfl
      · rintro e ⟨l, c5, _, _, rfl, ⟨s, rfl⟩, ⟨t, rfl⟩, hl, hr, d5, h85⟩
        walk_at "wp"
        refine ⟨⟨n, free, goal, l⟩, _, rfl, rfl, ⟨by show n ≤ 8; omega, by rw [hfl]; simp, hgl, fun y hy => (hgb y hy).mono (by decide), hr, ?_⟩, hnm, ?_, d5, h85⟩
        · show l.length ≤ 100
          rw [hl]; simp; omega
        · show l.length ≤ 3
          rw [hl]; simp; omega
  obtain ⟨w, cs, e, p, c', rfl, rfl, q⟩ := fsat_out key
  exact ⟨p, c', e, q⟩

def sgnB (r : Row) (f : Rat) : Bool := !(decide (r.w = .least) && decide (0 < f)) && !(decide (r.w = .most) && decide (f < 0))
def signsB (l : List Row) (y : List Rat) : Bool := (l.zip y).all fun q => sgnB q.1 q.2
def colD (l : List Row) (k : Nat) : List Rat := l.map fun r => r.a.getD k 0
def colB (fr : Bool) (v g : Rat) : Bool := !decide (v < g) && !(fr && !decide (v = g))
def _root_.UbP.Pg.coversB (p : Pg) (y g : List Rat) : Bool := decide (y.length = p.rows.length) && signsB p.rows y && (List.range p.n).all fun k => colB (p.free.getD k false) (dotR y (colD p.rows k)) (g.getD k 0)
theorem t_signR (f : Rat) : p_sign [.dat (rD f)] = .ret (.d (.int (Int.sign f.num))) [] := t_sign f.num _
theorem sgn_pos (f : Rat) : (0 < Int.sign f.num) = (0 < f) := propext (by
  rw [← num_pos_iff]
  rcases Int.lt_trichotomy f.num 0 with h | h | h
  · rw [Int.sign_eq_neg_one_of_neg h]; omega
  · rw [h]; decide
  · rw [Int.sign_eq_one_of_pos h]; omega)
theorem sgn_neg (f : Rat) : (Int.sign f.num < 0) = (f < 0) := propext (by
  rw [← num_neg_iff]
  rcases Int.lt_trichotomy f.num 0 with h | h | h
  · rw [Int.sign_eq_neg_one_of_neg h]; omega
  · rw [h]; decide
  · rw [Int.sign_eq_one_of_pos h]; omega)
theorem sgn_zero (f : Rat) : (Int.sign f.num = 0) = (f = 0) := propext (by
  rw [← Rat.num_eq_zero]
  exact Int.sign_eq_zero_iff_zero)
theorem t__has_correct_signs {l : List Row} {y : List Rat} : p__has_correct_signs [.dat (rwD l), .dat (rsD y)] = .ret (.d (.bl (signsB l y))) [] := by
  refine fsat_eq ?_
  unfold p__has_correct_signs b__has_correct_signs
  walk_at "wp"
  rw [zip_map2]
  refine for_inv (fun pre e => ∃ s t u : Sl, e = [.dat (rwD l), .dat (rsD y), s, t, u] ∧ Jk s ∧ Jk t ∧ Jk u ∧ pre.all (fun q => sgnB q.1 q.2) = true) ⟨_, _, _, rfl, jkN, jkN, jkN, rfl⟩ ?_ ?_
  · rintro pre ⟨r, f⟩ post e hx ⟨_, _, _, rfl, ⟨s, rfl⟩, ⟨t, rfl⟩, ⟨u, rfl⟩, hpre⟩
    have ef : sgnB r f = false → signsB l y = false := fun h => by
      unfold signsB
      rw [List.all_eq_false]
      exact ⟨(r, f), by rw [hx]; simp, by rw [h]; decide⟩
    have et : sgnB r f = true → (pre ++ [(r, f)]).all (fun q => sgnB q.1 q.2) = true := fun h => by
      rw [List.all_append, hpre, List.all_cons]
      show (true && (sgnB r f && true)) = true
      rw [h]; rfl
    unfold rowD
    walk_at "wp"
    simp only [wd_least, wd_most, t_signR]
    walk_at "wp"
    simp only [sgn_pos, sgn_neg]
    have e2 : (r.w = .least → ¬0 < f) → (r.w = .most → ¬f < 0) → sgnB r f = true := fun h1 h2 => by
      unfold sgnB
      by_cases a : r.w = .least
      · rw [decide_eq_false (h1 a), a, Bool.and_false, show decide (Wd.least = Wd.most) = false from rfl]; rfl
      · rw [decide_eq_false a]
        by_cases b : r.w = .most
        · rw [decide_eq_false (h2 b)]; simp
        · rw [decide_eq_false b]; rfl
    have e3 : (r.w = .least ∧ 0 < f) ∨ (r.w = .most ∧ f < 0) → sgnB r f = false := fun h => by
      unfold sgnB
      rcases h with ⟨h1, h2⟩ | ⟨h1, h2⟩
      · rw [decide_eq_true h1, decide_eq_true h2]; rfl
      · rw [decide_eq_true h1, decide_eq_true h2]; simp
    refine ⟨fun h1 => ⟨fun h2 => by rw [ef (e3 (.inl ⟨h1, h2⟩))], fun h2 => ⟨fun h3 => ?_, fun h3 => ⟨_, _, _, rfl, jkD, jkD, jkD, et (e2 (fun _ => h2) fun h => ?_)⟩⟩⟩, fun h1 => ⟨fun h3 => ⟨fun h2 => by rw [ef (e3 (.inr ⟨h3, h2⟩))], fun h2 => ⟨_, _, _, rfl, jkD, jkD, jkD, et (e2 (fun h => absurd h h1) fun _ => h2)⟩⟩, fun h3 => ⟨_, _, _, rfl, jkD, jkD, jkD, et (e2 (fun h => absurd h h1) fun h => absurd h h3)⟩⟩⟩
    · rw [wd_most, h1] at h3
      cases h3
    · rw [h1] at h
      cases h
  · rintro e ⟨_, _, _, rfl, ⟨s, rfl⟩, ⟨t, rfl⟩, ⟨u, rfl⟩, hpre⟩
    walk_at "wp"
    rw [show signsB l y = true from hpre]

theorem t__add_product {a b c : Rat} {n m k : Nat} (ha : Bd n a) (hb : Bd m b) (hc : Bd k c) (h : n + m + k < 9000) : p__add_product [.dat (rD a), .dat (rD b), .dat (rD c)] = .ret (.d (rD (a + b * c))) [] := by
  refine fsat_eq ?_
  unfold p__add_product b__add_product
  walk_at "wp"
  refine ⟨fun h0 => ?_, fun h0 => ?_⟩
  · rw [Rat.num_eq_zero.mp h0, Rat.mul_zero, Rat.add_zero]
  · rw [t_multiply hb hc (by omega)]
    walk_at "wp"
    rw [t_add ha (bd_mul hb hc) (by omega)]
    walk_at "wp"
def colS (pre : List (Row × Rat)) (k : Nat) : Rat := sumR (pre.map fun q => q.2 * q.1.a.getD k 0)
theorem colS_bd {n : Nat} {pre : List (Row × Rat)} (h : ∀ q ∈ pre, RwOk n q.1 ∧ Bd 64 q.2) {k : Nat} (hk : k < n) : Bd (pre.length * 129 + 1) (colS pre k) := by
  have := bd_sum (l := pre.map fun q => q.2 * q.1.a.getD k 0) (n := 64 + 64) fun y hy => by
    obtain ⟨q, hq, rfl⟩ := List.mem_map.mp hy
    obtain ⟨h1, h2⟩ := h q hq
    exact bd_mul h2 (h1.ab _ (List.mem_of_getElem? (getD_ok (by rw [h1.len]; exact hk))))
  rwa [List.length_map] at this
theorem colS_all {l : List Row} {y : List Rat} {k : Nat} : colS (l.zip y) k = dotR y (colD l k) := by
  unfold colS colD dotR
  congr 1
  induction l generalizing y with
  | nil => cases y <;> rfl
  | cons r l ih =>
    cases y with
    | nil => rfl
    | cons f y =>
      rw [List.zip_cons_cons, List.map_cons, List.map_cons, List.zipWith_cons_cons, ih]
theorem zip_range {n : Nat} {g : Nat → Rat} {a : List Rat} (h : a.length = n) : ((List.range n).map g).zip a = (List.range n).map fun k => (g k, a.getD k 0) := by
  apply List.ext_getElem?
  intro i
  by_cases hi : i < n
  · rw [List.getElem?_map, List.getElem?_range hi]
    exact List.getElem?_zip_eq_some.mpr ⟨by rw [List.getElem?_map, List.getElem?_range hi]; rfl, getD_ok (by omega)⟩
  · rw [List.getElem?_eq_none (by simp; omega), List.getElem?_eq_none (by simp; omega)]
theorem t__sums {n : Nat} {l : List Row} {y : List Rat} (hl : ∀ r ∈ l, RwOk n r) (hn : n ≤ 8) (hy : ∀ f ∈ y, Bd 64 f) (hll : l.length ≤ 8) : p__sums [.dat (.int (n : Int)), .dat (rwD l), .dat (rsD y)] = .ret (.d (rsD ((List.range n).map fun k => dotR y (colD l k)))) [] := by
  refine fsat_eq ?_
  unfold p__sums b__sums
  walk_at "wp"
  refine ⟨⟨by omega, by omega, by omega⟩, ?_⟩
  rw [zip_map2]
  have e0 : UbP.rep [D.tup [.int 0, .int 1]] n = ((List.range n).map (colS [])).map rD := by
    rw [show (D.tup [.int 0, .int 1]) = rD 0 from rfl, rep_r]
    congr 1
    apply List.ext_getElem?
    intro i
    rw [List.getElem?_map, List.getElem?_replicate]
    by_cases h : i < n
    · rw [List.getElem?_range h, if_pos h]; rfl
    · rw [List.getElem?_eq_none (by simp; omega), if_neg h]; rfl
  rw [e0]
  refine for_inv (fun pre e => ∃ s t u v w : Sl, e = [.dat (.int (n : Int)), .dat (rwD l), .dat (rsD y), .dat (rsD ((List.range n).map (colS pre))), s, t, u, v, w] ∧ Jk s ∧ Jk t ∧ Jk u ∧ Jk v ∧ Jk w) ⟨_, _, _, _, _, rfl, jkN, jkN, jkN, jkN, jkN⟩ ?_ ?_
  · rintro pre ⟨r, f⟩ post e hx ⟨_, _, _, _, _, rfl, ⟨s, rfl⟩, ⟨t, rfl⟩, ⟨u, rfl⟩, ⟨v, rfl⟩, ⟨w, rfl⟩⟩
    have hm : ∀ q ∈ pre ++ [(r, f)], RwOk n q.1 ∧ Bd 64 q.2 := fun q hq => by
      have := List.of_mem_zip (show (q.1, q.2) ∈ l.zip y by rw [hx]; simp at hq; simp; rcases hq with h | h <;> simp [h])
      exact ⟨hl _ this.1, hy _ this.2⟩
    have hlen : pre.length + 1 ≤ 8 := by
      have := congrArg List.length hx
      rw [List.length_zip, List.length_append, List.length_cons] at this
      omega
    have hr : RwOk n r := (hm (r, f) (by simp)).1
    have hf : Bd 64 f := (hm (r, f) (by simp)).2
    have hrl := hr.len
    have es : ∀ k, colS (pre ++ [(r, f)]) k = colS pre k + f * r.a.getD k 0 := fun k => sum_snoc_map _ _ _
    unfold rowD
    walk_at "wp"
    rw [t_signR]
    walk_at "wp"
    simp only [sgn_zero]
    refine ⟨fun h0 => ?_, fun h0 => ?_⟩
    · rw [zip_map2, zip_range (a := r.a) hr.len]
      have hnl : ((List.range n).map fun k => (colS pre k, r.a.getD k 0)).length ≤ LIM := lim_le (by simp; omega)
      refine lc_map (fun q : Rat × Rat => rD (q.1 + f * q.2)) hnl (fun q hq => ?_) ?_
      · obtain ⟨k, hk, rfl⟩ := List.mem_map.mp hq
        have hk := List.mem_range.mp hk
        walk_at "wp"
        rw [t__add_product (colS_bd (fun q hq => hm q (by simp [hq])) hk) hf (hr.ab _ (List.mem_of_getElem? (getD_ok (d := 0) (by omega)))) (by omega)]
        walk_at "wp"
      · walk_at "wp"
        refine ⟨.dat (rsD r.a), .dat (rD r.b), .dat (rD f), jk v, jk w, ?_, jkD, jkD, jkD, ⟨_, rfl⟩, ⟨_, rfl⟩⟩
        have e9 : List.map (fun q : Rat × Rat => rD (q.1 + f * q.2)) ((List.range n).map fun k => (colS pre k, r.a.getD k 0)) = ((List.range n).map (colS (pre ++ [(r, f)]))).map rD := by
          rw [List.map_map, List.map_map, show colS (pre ++ [(r, f)]) = fun k => colS pre k + f * r.a.getD k 0 from funext es]
          rfl
        rw [e9]
    · have : colS (pre ++ [(r, f)]) = colS pre := by
        funext k
        rw [es, h0, Rat.zero_mul, Rat.add_zero]
      rw [this]
      exact ⟨_, _, _, _, _, rfl, jkD, jkD, jkD, ⟨_, rfl⟩, ⟨_, rfl⟩⟩
  · rintro e ⟨_, _, _, _, _, rfl, ⟨s, rfl⟩, ⟨t, rfl⟩, ⟨u, rfl⟩, ⟨v, rfl⟩, ⟨w, rfl⟩⟩
    walk_at "wp"
    rw [show colS (l.zip y) = fun k => dotR y (colD l k) from funext fun k => colS_all]

theorem colD_bd {n k : Nat} {l : List Row} (hl : ∀ r ∈ l, RwOk n r) (hk : k < n) : ∀ y ∈ colD l k, Bd 64 y := fun y hy => by
  obtain ⟨r, hr, rfl⟩ := List.mem_map.mp hy
  exact (hl r hr).ab _ (List.mem_of_getElem? (getD_ok (by rw [(hl r hr).len]; exact hk)))
theorem dual_bd {n k : Nat} {l : List Row} {y : List Rat} (hl : ∀ r ∈ l, RwOk n r) (hk : k < n) (hy : ∀ f ∈ y, Bd 64 f) (hll : l.length ≤ 8) : Bd 1033 (dotR y (colD l k)) := by
  refine (bd_dot hy (colD_bd hl hk)).mono ?_
  have hm : min y.length (colD l k).length * (64 + 64 + 1) ≤ 8 * (64 + 64 + 1) := Nat.mul_le_mul_right _ (by unfold colD; rw [List.length_map]; omega)
  omega
theorem zip3_map {α β γ : Type} (f : α → D) (g : β → D) (h : γ → D) (a : List α) (b : List β) (c : List γ) : zip3 (a.map f) (b.map g) (c.map h) = (a.zip (b.zip c)).map fun q => .tup [f q.1, g q.2.1, h q.2.2] := by
  unfold zip3
  induction a generalizing b c with
  | nil => rfl
  | cons x a ih =>
    cases b with
    | nil => rfl
    | cons y b =>
      cases c with
      | nil => rfl
      | cons z c =>
        have := ih b c
        simp only [List.map_cons, List.zip_cons_cons, List.zipWith_cons_cons, this]
theorem zip3_range {n : Nat} {g : Nat → Rat} {fr : List Bool} {c : List Rat} (h1 : fr.length = n) (h2 : c.length = n) : fr.zip (((List.range n).map g).zip c) = (List.range n).map fun k => (fr.getD k false, g k, c.getD k 0) := by
  rw [zip_range h2]
  apply List.ext_getElem?
  intro i
  by_cases hi : i < n
  · rw [List.getElem?_map, List.getElem?_range hi]
    exact List.getElem?_zip_eq_some.mpr ⟨getD_ok (by omega), by rw [List.getElem?_map, List.getElem?_range hi]; rfl⟩
  · rw [List.getElem?_eq_none (by simp; omega), List.getElem?_eq_none (by simp; omega)]
theorem cmp_neg (a b : Rat) : (cmpR a b < 0) = (a < b) := propext (by
  rcases cmpR_cases a b with ⟨h, e⟩ | ⟨h, e⟩ | ⟨h, e⟩
  · rw [e]; exact ⟨fun _ => h, fun _ => by decide⟩
  · rw [e, h]; exact ⟨fun z => absurd z (by decide), fun z => absurd z Rat.lt_irrefl⟩
  · rw [e]; exact ⟨fun z => absurd z (by decide), fun z => by grind⟩)
theorem cmp_zero (a b : Rat) : (cmpR a b = 0) = (a = b) := propext (by
  rcases cmpR_cases a b with ⟨h, e⟩ | ⟨h, e⟩ | ⟨h, e⟩
  · rw [e]; exact ⟨fun z => absurd z (by decide), fun z => absurd (z ▸ h) Rat.lt_irrefl⟩
  · rw [e]; exact ⟨fun _ => h, fun _ => rfl⟩
  · rw [e]; exact ⟨fun z => absurd z (by decide), fun z => absurd (z ▸ h) Rat.lt_irrefl⟩)
theorem t__covers {p : Pg} {y g : List Rat} (hp : PgOk p) (hy : ∀ f ∈ y, Bd 64 f) (hg : ∀ f ∈ g, Bd 64 f) (hgl : g.length = p.n) (hr8 : p.rows.length ≤ 8) : p__covers [.dat (pgO p), .dat (rwD p.rows), .dat (rsD y), .dat (rsD g)] = .ret (.d (.bl (p.coversB y g))) [] := by
  refine fsat_eq ?_
  unfold p__covers b__covers
  have hn := hp.n8
  walk_at "wp"
  rw [t__has_correct_signs]
  walk_at "wp"
  refine ⟨fun h => ?_, fun h => ?_⟩
  · have : ¬y.length = p.rows.length := by omega
    unfold Pg.coversB
    rw [decide_eq_false this]; rfl
  · have hl : y.length = p.rows.length := by omega
    refine ⟨fun h2 => ?_, fun h2 => ?_⟩
    · unfold Pg.coversB
      rw [h2, Bool.and_false, Bool.false_and]
    · rw [fld_v]
      walk_at "wp"
      rw [t__sums hp.rows hn hy hr8]
      walk_at "wp"
      rw [fld_f]
      walk_at "wp"
      rw [zip3_map, zip3_range hp.fl hgl]
      rw [List.map_map]
      refine for_inv (fun pre e => ∃ s t u v : Sl, e = [.dat (pgO p), .dat (rwD p.rows), .dat (rsD y), .dat (rsD g), .dat (rsD (List.map (fun k => dotR y (colD p.rows k)) (List.range p.n))), s, t, u, v] ∧ Jk s ∧ Jk t ∧ Jk u ∧ Jk v ∧ pre.all (fun k => colB (p.free.getD k false) (dotR y (colD p.rows k)) (g.getD k 0)) = true) ⟨_, _, _, _, rfl, jkN, jkN, jkN, jkN, rfl⟩ ?_ ?_
      · rintro pre k post e hx ⟨_, _, _, _, rfl, ⟨s, rfl⟩, ⟨t, rfl⟩, ⟨u, rfl⟩, ⟨v, rfl⟩, hpre⟩
        obtain ⟨hk1, hk⟩ := range_pre hx
        have bd := dual_bd hp.rows hk hy hr8
        have bg := hg _ (List.mem_of_getElem? (getD_ok (d := 0) (show k < g.length by omega)))
        have ef : colB (p.free.getD k false) (dotR y (colD p.rows k)) (g.getD k 0) = false → p.coversB y g = false := fun h => by
          unfold Pg.coversB
          have : ((List.range p.n).all fun k => colB (p.free.getD k false) (dotR y (colD p.rows k)) (g.getD k 0)) = false := by
            rw [List.all_eq_false]
            exact ⟨k, List.mem_range.mpr hk, by rw [h]; decide⟩
          rw [this, Bool.and_false]
        have et : colB (p.free.getD k false) (dotR y (colD p.rows k)) (g.getD k 0) = true → (pre ++ [k]).all (fun k => colB (p.free.getD k false) (dotR y (colD p.rows k)) (g.getD k 0)) = true := fun h => by
          rw [List.all_append, hpre, List.all_cons, h]; rfl
        dsimp only [Function.comp]
        generalize p.free.getD k false = fr at *
        generalize dotR y (colD p.rows k) = dv at *
        generalize g.getD k 0 = gv at *
        walk_at "wp"
        rw [t_compare bd bg (by decide)]
        walk_at "wp"
        simp only [cmp_neg, cmp_zero]
        refine ⟨fun h3 => ?_, fun h3 => ⟨fun h4 => ⟨fun h5 => ?_, fun h5 => ?_⟩, fun h4 => ?_⟩⟩
        · rw [ef (by unfold colB; rw [decide_eq_true h3]; rfl)]
        · rw [ef (by unfold colB; rw [h4, decide_eq_false h5, Bool.not_false, Bool.and_self, Bool.not_true, Bool.and_false])]
        · exact ⟨_, _, _, _, rfl, jkD, jkD, jkD, jkD, et (by unfold colB; rw [decide_eq_false h3, decide_eq_true h5, Bool.not_true, Bool.and_false]; rfl)⟩
        · exact ⟨_, _, _, _, rfl, jkD, jkD, jkD, jkD, et (by unfold colB; rw [decide_eq_false h3, h4]; rfl)⟩
      · rintro e ⟨_, _, _, _, rfl, ⟨s, rfl⟩, ⟨t, rfl⟩, ⟨u, rfl⟩, ⟨v, rfl⟩, hpre⟩
        walk_at "wp"
        unfold Pg.coversB
        rw [decide_eq_true hl, h2, hpre]
        rfl

theorem sh_row (r : Row) (n : Nat) : sh (rowD r) (n + 3) = true := by
  unfold rowD
  simp only [sh, shAll, Nat.add_one_sub_one, Nat.zero_lt_succ, decide_true, Bool.true_and, Bool.and_true, shAll_map r.a (fun y _ => sh_r y n), sh_r r.b (n + 1), wd_sh]
theorem sh_lst {ds : List D} {n : Nat} (h : shAll ds n = true) : sh (.lst ds) (n + 1) = true := by
  unfold sh
  rw [Nat.add_one_sub_one, h]
  simp
theorem eq_self {d : D} (h : sh d 60 = true) : eqD d d = some true := by
  unfold eqD
  rw [h, eqv_self d (.inr trivial) 60 h]
  simp
theorem ne_self {d : D} (h : sh d 60 = true) : neD d d = some false := by unfold neD; rw [eq_self h]; rfl
theorem ne_rw (l : List Row) : neD (rwD l) (rwD l) = some false := ne_self (sh_lst (n := 59) (shAll_map l fun r _ => sh_row r 56))
theorem ne_bs (l : List Bool) : neD (bsD l) (bsD l) = some false := ne_self (sh_lst (n := 59) (shAll_map l fun r _ => rfl))
theorem ixp0 (p : Pg) : ixD (pgT p) (.int 0) = some (.d (.int (p.n : Int))) := rfl
theorem ixp1 (p : Pg) : ixD (pgT p) (.int 1) = some (.d (bsD p.free)) := rfl
theorem ixp2 (p : Pg) : ixD (pgT p) (.int 2) = some (.d (rsD p.goal)) := rfl
theorem ixp3 (p : Pg) : ixD (pgT p) (.int 3) = some (.d (rwD p.rows)) := rfl
theorem zero_rD : (.tup [.int 0, .int 1] : D) = rD 0 := rfl
theorem one_rD : (.tup [.int 1, .int 1] : D) = rD 1 := rfl
theorem int_rD (b : Int) : (.tup [.int b, .int 1] : D) = rD (b : Rat) := rfl

theorem signs_range' {l : List Row} {y : List Rat} (h : y.length = l.length) : signsB l y = (List.range l.length).all fun k => sgnB (l.getD k ⟨[], .most, 0⟩) (y.getD k 0) :=
  all_zip_range (fun (r : Row) (f : Rat) => sgnB r f) ⟨[], .most, 0⟩ 0 rfl h
theorem sgn_t {r : Row} {f : Rat} (h1 : r.w = .least → ¬0 < f) (h2 : r.w = .most → ¬f < 0) : sgnB r f = true := by
  unfold sgnB
  by_cases a : r.w = .least
  · rw [decide_eq_false (h1 a), a, Bool.and_false, show decide (Wd.least = Wd.most) = false from rfl]; rfl
  · rw [decide_eq_false a]
    by_cases b : r.w = .most
    · rw [decide_eq_false (h2 b)]; simp
    · rw [decide_eq_false b]; rfl
theorem sgn_f {r : Row} {f : Rat} (h : (r.w = .least ∧ 0 < f) ∨ (r.w = .most ∧ f < 0)) : sgnB r f = false := by
  unfold sgnB
  rcases h with ⟨h1, h2⟩ | ⟨h1, h2⟩
  · rw [decide_eq_true h1, decide_eq_true h2]; rfl
  · rw [decide_eq_true h1, decide_eq_true h2]; simp
theorem all_false {n k : Nat} {f : Nat → Bool} (hk : k < n) (h : f k = false) : (List.range n).all f = false := by
  rw [List.all_eq_false]
  exact ⟨k, List.mem_range.mpr hk, by rw [h]; decide⟩
theorem all_step {f : Nat → Bool} {pre : List Nat} {k : Nat} (h : pre.all f = true) (hk : f k = true) : (pre ++ [k]).all f = true := by
  rw [List.all_append, h, List.all_cons, hk]; rfl
theorem dot64 {a b : List Rat} (ha : ∀ x ∈ a, Bd 64 x) (hb : ∀ x ∈ b, Bd 64 x) (h1 : a.length ≤ 8) (h2 : b.length ≤ 8) : p__law_dot [.dat (rsD a), .dat (rsD b)] = .ret (.d (rD (dotR a b))) [] := by
  refine t__law_dot ha hb ?_ ⟨by omega, by omega⟩
  have hm : min a.length b.length * (64 + 64 + 1) ≤ 8 * (64 + 64 + 1) := Nat.mul_le_mul_right _ (by omega)
  omega
theorem dot64' {a b : List Rat} (ha : ∀ x ∈ a, Bd 64 x) (hb : ∀ x ∈ b, Bd 64 x) (h1 : a.length ≤ 8) (h2 : b.length ≤ 8) : p_dot [.dat (rsD a), .dat (rsD b)] = .ret (.d (rD (dotR a b))) [] := by
  refine t_dot ha hb ?_
  have hm : min a.length b.length * (64 + 64 + 1) ≤ 8 * (64 + 64 + 1) := Nat.mul_le_mul_right _ (by omega)
  omega
theorem bd64 {a b : List Rat} (ha : ∀ x ∈ a, Bd 64 x) (hb : ∀ x ∈ b, Bd 64 x) (h1 : a.length ≤ 8) : Bd 1033 (dotR a b) := by
  refine (bd_dot ha hb).mono ?_
  have hm : min a.length b.length * (64 + 64 + 1) ≤ 8 * (64 + 64 + 1) := Nat.mul_le_mul_right _ (by omega)
  omega
theorem t__law_covers {p : Pg} {y g : List Rat} (hp : PgOk p) (hy : ∀ f ∈ y, Bd 64 f) (hg : ∀ f ∈ g, Bd 64 f) (hgl : g.length = p.n) (hr8 : p.rows.length ≤ 8) : p__law_covers [.dat (pgT p), .dat (rsD y), .dat (rsD g)] = .ret (.d (.bl (p.coversB y g))) [] := by
  refine fsat_eq ?_
  unfold p__law_covers b__law_covers pgT
  have hn := hp.n8
  have hfl := hp.fl
  walk_at "wp"
  refine ⟨fun h => ?_, fun h => ?_⟩
  · have : ¬y.length = p.rows.length := by omega
    unfold Pg.coversB
    rw [decide_eq_false this]; rfl
  · have hl : y.length = p.rows.length := by omega
    refine ⟨big_nat (by omega), ?_⟩
    rw [ints0]
    refine for_inv (fun pre e => ∃ s : Sl, e = [.dat (.tup [.int (p.n : Int), bsD p.free, rsD p.goal, rwD p.rows]), .dat (rsD y), .dat (rsD g), .dat (.int (p.n : Int)), .dat (bsD p.free), .dat (rsD p.goal), .dat (rwD p.rows), s, .no, .no, .no] ∧ Jk s ∧ pre.all (fun k => sgnB (p.rows.getD k ⟨[], .most, 0⟩) (y.getD k 0)) = true) ⟨_, rfl, jkN, rfl⟩ ?_ ?_
    · rintro pre k post e hx ⟨_, rfl, ⟨s, rfl⟩, hpre⟩
      obtain ⟨hk1, hk⟩ := range_pre hx
      have e1 : p.rows[k]? = some (p.rows.getD k ⟨[], .most, 0⟩) := getD_ok hk
      have e2 : y[k]? = some (y.getD k 0) := getD_ok (by omega)
      have ef : sgnB (p.rows.getD k ⟨[], .most, 0⟩) (y.getD k 0) = false → p.coversB y g = false := fun h => by
        unfold Pg.coversB
        rw [signs_range' hl, all_false hk h, Bool.and_false, Bool.false_and]
      have et : sgnB (p.rows.getD k ⟨[], .most, 0⟩) (y.getD k 0) = true → _ := all_step (f := fun k => sgnB (p.rows.getD k ⟨[], .most, 0⟩) (y.getD k 0)) hpre
      walk_at "wp"
      rw [e1]
      generalize p.rows.getD k ⟨[], .most, 0⟩ = r at *
      generalize hf : y.getD k 0 = f at *
      unfold rowD
      walk_at "wp"
      simp only [wd_least, wd_most, e2]
      walk_at "wp"
      simp only [num_pos_iff]
      refine ⟨fun h1 => ⟨fun h2 => by rw [ef (sgn_f (.inl ⟨h1, h2⟩))], fun h2 => ?_⟩, fun h1 => ?_⟩
      · rw [e1]
        unfold rowD
        walk_at "wp"
        refine ⟨fun h3 => ?_, fun h3 => ⟨_, rfl, jkD, et (sgn_t (fun _ => h2) fun h => ?_)⟩⟩
        · rw [wd_most, h1] at h3
          cases h3
        · rw [h1] at h
          cases h
      · rw [e1]
        unfold rowD
        walk_at "wp"
        simp only [wd_most, e2]
        walk_at "wp"
        simp only [num_neg_iff]
        exact ⟨fun h3 => ⟨fun h2 => by rw [ef (sgn_f (.inr ⟨h3, h2⟩))], fun h2 => ⟨_, rfl, jkD, et (sgn_t (fun h => absurd h h1) fun _ => h2)⟩⟩, fun h3 => ⟨_, rfl, jkD, et (sgn_t (fun h => absurd h h1) fun h => absurd h h3)⟩⟩
    · rintro e ⟨_, rfl, ⟨s0, rfl⟩, hpre⟩
      have hsg : signsB p.rows y = true := by rw [signs_range' hl]; exact hpre
      walk_at "wp"
      refine ⟨big_nat (by omega), ?_⟩
      rw [ints0]
      refine for_inv (fun pre e => ∃ s t : Sl, e = [.dat (.tup [.int (p.n : Int), bsD p.free, rsD p.goal, rwD p.rows]), .dat (rsD y), .dat (rsD g), .dat (.int (p.n : Int)), .dat (bsD p.free), .dat (rsD p.goal), .dat (rwD p.rows), jk s0, s, t, .no] ∧ Jk s ∧ Jk t ∧ pre.all (fun k => colB (p.free.getD k false) (dotR y (colD p.rows k)) (g.getD k 0)) = true) ⟨_, _, rfl, jkN, jkN, rfl⟩ ?_ ?_
      · rintro pre k post e hx ⟨_, _, rfl, ⟨s, rfl⟩, ⟨t, rfl⟩, hpre⟩
        obtain ⟨hk1, hk⟩ := range_pre hx
        have bd := dual_bd hp.rows hk hy hr8
        have e2 : g[k]? = some (g.getD k 0) := getD_ok (by omega)
        have e1 : p.free[k]? = some (p.free.getD k false) := getD_ok (by omega)
        have bg := hg _ (List.mem_of_getElem? e2)
        have ef : colB (p.free.getD k false) (dotR y (colD p.rows k)) (g.getD k 0) = false → p.coversB y g = false := fun h => by
          unfold Pg.coversB
          rw [all_false (f := fun k => colB (p.free.getD k false) (dotR y (colD p.rows k)) (g.getD k 0)) hk h, Bool.and_false]
        have et : colB (p.free.getD k false) (dotR y (colD p.rows k)) (g.getD k 0) = true → _ := all_step (f := fun k => colB (p.free.getD k false) (dotR y (colD p.rows k)) (g.getD k 0)) hpre
        walk_at "wp"
        refine lc_map (fun r => rD (r.a.getD k 0)) (lim_le (by omega)) (fun r hr => ?_) ?_
        · unfold rowD
          walk_at "wp"
          rw [getD_ok (d := 0) (show k < r.a.length by rw [(hp.rows r hr).len]; exact hk)]
          walk_at "wp"
        · walk_at "wp"
          rw [show List.map (fun r : Row => rD (r.a.getD k 0)) p.rows = (colD p.rows k).map rD by unfold colD; rw [List.map_map]; rfl]
          rw [dot64 hy (colD_bd hp.rows hk) (by omega) (by unfold colD; rw [List.length_map]; exact hr8)]
          walk_at "wp"
          rw [e2]
          generalize p.free.getD k false = fr at *
          generalize dotR y (colD p.rows k) = dv at *
          generalize hgv : g.getD k 0 = gv at *
          walk_at "wp"
          rw [t__law_less bd bg (by decide)]
          walk_at "wp"
          refine ⟨fun h3 => ?_, fun h3 => ?_⟩
          · rw [ef (by unfold colB; rw [decide_eq_true h3]; rfl)]
          · rw [e1]
            walk_at "wp"
            simp only [e2]
            walk_at "wp"
            refine ⟨fun h4 => ⟨fun h5 => ?_, fun h5 => ⟨_, _, rfl, jkD, jkD, et (by unfold colB; rw [decide_eq_false h3, decide_eq_true h5, Bool.not_true, Bool.and_false]; rfl)⟩⟩, fun h4 => ⟨_, _, rfl, jkD, jkD, et (by unfold colB; rw [decide_eq_false h3, h4]; rfl)⟩⟩
            rw [ef (by unfold colB; rw [h4, decide_eq_false h5, Bool.not_false, Bool.and_self, Bool.not_true, Bool.and_false])]
      · rintro e ⟨_, _, rfl, ⟨s, rfl⟩, ⟨t, rfl⟩, hpre⟩
        walk_at "wp"
        unfold Pg.coversB
        rw [decide_eq_true hl, hsg, hpre]
        rfl

inductive Kd where
  | best | none | endless | other
def Kd.s : Kd → Str
  | .best => "best"
  | .none => "none"
  | .endless => "endless"
  | .other => "other"
theorem kd_best (k : Kd) : (k.s = "best") = (k = .best) := by cases k <;> simp <;> decide
theorem kd_none (k : Kd) : (k.s = "none") = (k = .none) := by cases k <;> simp <;> decide
theorem kd_endless (k : Kd) : (k.s = "endless") = (k = .endless) := by cases k <;> simp <;> decide
theorem kd_sh (w : Kd) : w.s.cps.all (· < 0x110000) = true := by cases w <;> decide +kernel
structure Ce where
  k : Kd
  x : List Rat
  y : List Rat
  ray : List Rat
def ceD (c : Ce) : D := .tup [.str c.k.s, rsD c.x, rsD c.y, rsD c.ray]
structure CeOk (c : Ce) : Prop where
  xb : ∀ y ∈ c.x, Bd 64 y
  yb : ∀ y ∈ c.y, Bd 64 y
  rb : ∀ y ∈ c.ray, Bd 64 y
  xl : c.x.length ≤ 8
  yl : c.y.length ≤ 8
  rl : c.ray.length ≤ 8
def bndD (l : List Row) : List Rat := l.map fun r => r.b
theorem bndD_bd {n : Nat} {l : List Row} (h : ∀ r ∈ l, RwOk n r) : ∀ y ∈ bndD l, Bd 64 y := fun y hy => by
  obtain ⟨r, hr, rfl⟩ := List.mem_map.mp hy
  exact (h r hr).bb
theorem bndD_len (l : List Row) : (bndD l).length = l.length := by unfold bndD; rw [List.length_map]
theorem bndD_map (l : List Row) : l.map (fun r => rD r.b) = (bndD l).map rD := by unfold bndD; rw [List.map_map]; rfl
def zeroR (r : Row) : Row := ⟨r.a, r.w, 0⟩
def zeroP (p : Pg) : Pg := { p with rows := p.rows.map zeroR }
def goesB (p : Pg) (ray : List Rat) : Bool := (zeroP p).fits ray && decide (0 < dotR p.goal ray)
def zerosR (n : Nat) : List Rat := List.replicate n 0
def accB (p : Pg) (c : Ce) : Bool := match c.k with
  | .best => p.fits c.x && p.coversB c.y p.goal && decide (dotR c.y (bndD p.rows) = dotR p.goal c.x)
  | .none => p.coversB c.y (zerosR p.n) && decide (dotR c.y (bndD p.rows) < 0)
  | .endless => p.fits c.x && goesB p c.ray
  | .other => false
theorem acc_best {p : Pg} {c : Ce} (h : c.k = .best) : accB p c = (p.fits c.x && p.coversB c.y p.goal && decide (dotR c.y (bndD p.rows) = dotR p.goal c.x)) := by unfold accB; rw [h]
theorem acc_none {p : Pg} {c : Ce} (h : c.k = .none) : accB p c = (p.coversB c.y (zerosR p.n) && decide (dotR c.y (bndD p.rows) < 0)) := by unfold accB; rw [h]
theorem acc_endless {p : Pg} {c : Ce} (h : c.k = .endless) : accB p c = (p.fits c.x && goesB p c.ray) := by unfold accB; rw [h]
theorem acc_other {p : Pg} {c : Ce} (h1 : ¬c.k = .best) (h2 : ¬c.k = .none) (h3 : ¬c.k = .endless) : accB p c = false := by
  unfold accB
  cases h : c.k with
  | best => exact absurd h h1
  | none => exact absurd h h2
  | endless => exact absurd h h3
  | other => rfl
theorem zeros_bd (n : Nat) : ∀ y ∈ zerosR n, Bd 64 y := fun y hy => by
  rw [List.eq_of_mem_replicate hy]
  exact ⟨by decide, by decide⟩
theorem zero_ok {p : Pg} (h : PgOk p) : PgOk (zeroP p) where
  n8 := h.n8
  fl := h.fl
  gl := h.gl
  gb := h.gb
  rows := fun r hr => by
    obtain ⟨q, hq, rfl⟩ := List.mem_map.mp hr
    exact ⟨(h.rows q hq).len, (h.rows q hq).ab, (show Bd 64 (0 : Rat) from ⟨by decide, by decide⟩)⟩
  rl := by show (p.rows.map zeroR).length ≤ 100; rw [List.length_map]; exact h.rl
theorem t__law_goes {p : Pg} {x : List Rat} (hp : PgOk p) (hx : ∀ y ∈ x, Bd 64 y) (hxl : x.length ≤ 8) : p__law_goes [.dat (pgT p), .dat (rsD x)] = .ret (.d (.bl (goesB p x))) [] := by
  refine fsat_eq ?_
  have hrl := hp.rl
  unfold p__law_goes b__law_goes pgT
  walk_at "wp"
  refine lc_map (fun r => rowD (zeroR r)) (lim_le (by omega)) (fun r hr => ?_) ?_
  · unfold rowD
    walk_at "wp"
    rfl
  · walk_at "wp"
    have e1 : p__law_fits [.dat (.tup [.int (p.n : Int), bsD p.free, rsD p.goal, .lst (p.rows.map fun r => rowD (zeroR r))]), .dat (rsD x)] = .ret (.d (.bl ((zeroP p).fits x))) [] := by
      have := t__law_fits (zero_ok hp) hx hxl
      unfold pgT at this
      rw [show (p.rows.map fun r => rowD (zeroR r)) = (zeroP p).rows.map rowD by show _ = (p.rows.map zeroR).map rowD; rw [List.map_map]; rfl]
      exact this
    rw [e1]
    walk_at "wp"
    refine ⟨fun h => ?_, fun h => ?_⟩
    · unfold goesB
      rw [h, Bool.false_and]
    · rw [dot64 hp.gb hx (by rw [hp.gl]; exact hp.n8) hxl]
      walk_at "wp"
      simp only [num_pos_iff]
      unfold goesB
      rw [h, Bool.true_and]
theorem t__law_accepted {p : Pg} {c : Ce} (hp : PgOk p) (hc : CeOk c) (hr8 : p.rows.length ≤ 8) : p__law_accepted [.dat (pgT p), .dat (ceD c)] = .ret (.d (.bl (accB p c))) [] := by
  refine fsat_eq ?_
  have hn := hp.n8
  have hgl := hp.gl
  unfold p__law_accepted b__law_accepted ceD
  walk_at "wp"
  rw [ixp3]
  walk_at "wp"
  refine lc_map (fun r => rD r.b) (lim_le (by omega)) (fun r hr => ?_) ?_
  · unfold rowD
    walk_at "wp"
  · walk_at "wp"
    rw [bndD_map]
    simp only [kd_best, kd_none, kd_endless]
    have bb := bndD_bd hp.rows
    have bl := bndD_len p.rows
    refine ⟨fun h1 => ?_, fun h1 => ⟨fun h2 => ?_, fun h2 => ?_⟩⟩
    · rw [t__law_fits hp hc.xb hc.xl]
      walk_at "wp"
      rw [acc_best h1]
      refine ⟨fun h2 => ?_, fun h2 => ⟨fun h3 => (Bool.false_ne_true (h2.symm.trans h3)).elim, fun _ => by rw [h2]; rfl⟩⟩
      rw [ixp2]
      walk_at "wp"
      rw [t__law_covers hp hc.yb hp.gb hgl hr8]
      walk_at "wp"
      rw [h2, Bool.true_and]
      refine ⟨fun h3 => ?_, fun h3 => by rw [h3]; rfl⟩
      rw [dot64 hc.yb bb hc.yl (by omega)]
      walk_at "wp"
      rw [ixp2]
      walk_at "wp"
      rw [dot64 hp.gb hc.xb (by omega) hc.xl]
      walk_at "wp"
      rw [h3, Bool.true_and]
    · rw [ixp0]
      walk_at "wp"
      refine ⟨⟨by omega, by omega, by omega⟩, ?_⟩
      rw [show UbP.rep [D.tup [.int 0, .int 1]] p.n = (zerosR p.n).map rD from rep_r 0 p.n]
      rw [t__law_covers hp hc.yb (zeros_bd p.n) (by unfold zerosR; rw [List.length_replicate]) hr8]
      walk_at "wp"
      rw [acc_none h2]
      refine ⟨fun h3 => ?_, fun h3 => by rw [h3]; rfl⟩
      rw [dot64 hc.yb bb hc.yl (by omega)]
      walk_at "wp"
      simp only [num_neg_iff]
      rw [h3, Bool.true_and]
    · refine ⟨fun h3 => ?_, fun h3 => ?_⟩
      · rw [t__law_fits hp hc.xb hc.xl]
        walk_at "wp"
        rw [acc_endless h3]
        refine ⟨fun h4 => ?_, fun h4 => by rw [h4]; rfl⟩
        rw [t__law_goes hp hc.rb hc.rl]
        walk_at "wp"
        rw [h4, Bool.true_and]
      · rw [acc_other h1 h2 h3, decide_eq_false (show ¬c.k.s = "endless" by rw [kd_endless]; exact h3)]
theorem t_bound_of_rows {n : Nat} {l : List Row} {y : List Rat} (hl : ∀ r ∈ l, RwOk n r) (hy : ∀ f ∈ y, Bd 64 f) (h1 : l.length ≤ 8) (h2 : y.length ≤ 8) : p_bound_of_rows [.dat (rwD l), .dat (rsD y)] = .ret (.d (rD (dotR y (bndD l)))) [] := by
  refine fsat_eq ?_
  unfold p_bound_of_rows b_bound_of_rows
  walk_at "wp"
  refine lc_map (fun r => rD r.b) (lim_le (by omega)) (fun r hr => ?_) ?_
  · unfold rowD
    walk_at "wp"
  · walk_at "wp"
    rw [bndD_map, dot64' hy (bndD_bd hl) h2 (by rw [bndD_len]; exact h1)]
    walk_at "wp"
theorem t_bound_of {p : Pg} {y : List Rat} (hp : PgOk p) (hy : ∀ f ∈ y, Bd 64 f) (h1 : p.rows.length ≤ 8) (h2 : y.length ≤ 8) : p_bound_of [.dat (pgO p), .dat (rsD y)] = .ret (.d (rD (dotR y (bndD p.rows)))) [] := by
  refine fsat_eq ?_
  unfold p_bound_of b_bound_of
  walk_at "wp"
  rw [fld_r]
  walk_at "wp"
  rw [t_bound_of_rows hp.rows hy h1 h2]
  walk_at "wp"
theorem t_value_of {p : Pg} {x : List Rat} (hp : PgOk p) (hx : ∀ f ∈ x, Bd 64 f) (h2 : x.length ≤ 8) : p_value_of [.dat (pgO p), .dat (rsD x)] = .ret (.d (rD (dotR p.goal x))) [] := by
  refine fsat_eq ?_
  unfold p_value_of b_value_of
  walk_at "wp"
  rw [fld_g]
  walk_at "wp"
  rw [dot64' hp.gb hx (by rw [hp.gl]; exact hp.n8) h2]
  walk_at "wp"
theorem fits_rows' {p : Pg} {x : List Rat} (hp : PgOk p) (hx : ∀ y ∈ x, Bd 64 y) (hxl : x.length ≤ 8) : p_fits_rows [.dat (pgO p), .dat (rwD p.rows), .dat (rsD x)] = .ret (.d (.bl (p.fits x))) [] := t_fits_rows hp.rows hp.n8 hx hxl
theorem t__accepts_best {p : Pg} {x y : List Rat} (hp : PgOk p) (hx : ∀ f ∈ x, Bd 64 f) (hy : ∀ f ∈ y, Bd 64 f) (hr8 : p.rows.length ≤ 8) (hxl : x.length ≤ 8) (hyl : y.length ≤ 8) : p__accepts_best [.dat (pgO p), .dat (rwD p.rows), .dat (rsD x), .dat (rsD y)] = .ret (.d (.bl (p.fits x && p.coversB y p.goal && decide (dotR y (bndD p.rows) = dotR p.goal x)))) [] := by
  refine fsat_eq ?_
  unfold p__accepts_best b__accepts_best
  walk_at "wp"
  rw [fits_rows' hp hx hxl]
  walk_at "wp"
  refine ⟨fun h => by rw [h]; rfl, fun h => ?_⟩
  rw [fld_g]
  walk_at "wp"
  rw [t__covers hp hy hp.gb hp.gl hr8]
  walk_at "wp"
  rw [h, Bool.true_and]
  refine ⟨fun h2 => by rw [h2]; rfl, fun h2 => ?_⟩
  rw [t_bound_of_rows hp.rows hy hr8 hyl]
  walk_at "wp"
  rw [t_value_of hp hx hxl]
  walk_at "wp"
  rw [h2, Bool.true_and]
theorem t__accepts_none {p : Pg} {y : List Rat} (hp : PgOk p) (hy : ∀ f ∈ y, Bd 64 f) (hr8 : p.rows.length ≤ 8) (hyl : y.length ≤ 8) : p__accepts_none [.dat (pgO p), .dat (rwD p.rows), .dat (rsD y)] = .ret (.d (.bl (p.coversB y (zerosR p.n) && decide (dotR y (bndD p.rows) < 0)))) [] := by
  refine fsat_eq ?_
  have hn := hp.n8
  unfold p__accepts_none b__accepts_none
  walk_at "wp"
  rw [fld_v]
  walk_at "wp"
  refine ⟨⟨by omega, by omega, by omega⟩, ?_⟩
  rw [show UbP.rep [D.tup [.int 0, .int 1]] p.n = (zerosR p.n).map rD from rep_r 0 p.n]
  rw [t__covers hp hy (zeros_bd p.n) (by unfold zerosR; rw [List.length_replicate]) hr8]
  walk_at "wp"
  refine ⟨fun h => ?_, fun h => by rw [h]; rfl⟩
  rw [t_bound_of_rows hp.rows hy hr8 hyl]
  walk_at "wp"
  rw [t_signR]
  walk_at "wp"
  simp only [sgn_neg]
  rw [h, Bool.true_and]
theorem t__accepts_endless {p : Pg} {x ray : List Rat} (hp : PgOk p) (hx : ∀ f ∈ x, Bd 64 f) (hy : ∀ f ∈ ray, Bd 64 f) (hr8 : p.rows.length ≤ 8) (hxl : x.length ≤ 8) (hyl : ray.length ≤ 8) : p__accepts_endless [.dat (pgO p), .dat (rwD p.rows), .dat (rsD x), .dat (rsD ray)] = .ret (.d (.bl (p.fits x && goesB p ray))) [] := by
  refine fsat_eq ?_
  have hn := hp.n8
  unfold p__accepts_endless b__accepts_endless
  walk_at "wp"
  rw [fits_rows' hp hx hxl]
  walk_at "wp"
  refine ⟨fun h => by rw [h]; rfl, fun h => ?_⟩
  rw [t_keeps_signs (by omega)]
  walk_at "wp"
  have eg : goesB p ray = ((decide (ray.length = p.n) && p.signs ray) && (p.rows.map zeroR).all (holds · ray) && decide (0 < dotR p.goal ray)) := rfl
  rw [h, Bool.true_and, eg]
  refine ⟨fun h2 => by rw [h2]; rfl, fun h2 => ?_⟩
  rw [h2, Bool.true_and]
  refine for_inv (fun pre e => ∃ s t u : Sl, e = [.dat (pgO p), .dat (rwD p.rows), .dat (rsD x), .dat (rsD ray), s, t, u] ∧ Jk s ∧ Jk t ∧ Jk u ∧ (pre.map zeroR).all (holds · ray) = true) ⟨_, _, _, rfl, jkN, jkN, jkN, rfl⟩ ?_ ?_
  · rintro pre r post e hx2 ⟨_, _, _, rfl, ⟨s, rfl⟩, ⟨t, rfl⟩, ⟨u, rfl⟩, hpre⟩
    have hr := hp.rows r (by rw [hx2]; simp)
    unfold rowD
    walk_at "wp"
    rw [dot8' hr hn hy hyl]
    walk_at "wp"
    rw [t_signR]
    walk_at "wp"
    rw [t_agrees, show agreesB r.w (Int.sign (dotR r.a ray).num) = holds (zeroR r) ray by rw [← cmpR_zero]; exact agrees_holds (zeroR r) ray]
    walk_at "wp"
    refine ⟨fun h3 => ?_, fun h3 => ⟨_, _, _, rfl, jkD, jkD, jkD, ?_⟩⟩
    · have : (p.rows.map zeroR).all (holds · ray) = false := by
        rw [List.all_eq_false]
        exact ⟨zeroR r, List.mem_map.mpr ⟨r, by rw [hx2]; simp, rfl⟩, by rw [h3]; decide⟩
      rw [this, Bool.false_and]
    · rw [List.map_append, List.all_append, hpre, List.map_cons, List.all_cons, h3]; rfl
  · rintro e ⟨_, _, _, rfl, ⟨s, rfl⟩, ⟨t, rfl⟩, ⟨u, rfl⟩, hpre⟩
    walk_at "wp"
    rw [fld_g]
    walk_at "wp"
    rw [dot64' hp.gb hy (by rw [hp.gl]; exact hn) hyl]
    walk_at "wp"
    rw [t_signR]
    walk_at "wp"
    simp only [sgn_pos]
    rw [hpre, Bool.true_and]
theorem t_accepts_certificate {p : Pg} {c : Ce} (hp : PgOk p) (hc : CeOk c) (hr8 : p.rows.length ≤ 8) : p_accepts_certificate [.dat (pgO p), .dat (ceD c)] = .ret (.d (.bl (accB p c))) [] := by
  have e : p_accepts_rows [.dat (pgO p), .dat (rwD p.rows), .dat (ceD c)] = .ret (.d (.bl (accB p c))) [] := by
    refine fsat_eq ?_
    unfold p_accepts_rows b_accepts_rows ceD
    walk_at "wp"
    simp only [kd_best, kd_none, kd_endless]
    refine ⟨fun h1 => ?_, fun h1 => ⟨fun h2 => ?_, fun h2 => ⟨fun h3 => ?_, fun h3 => ?_⟩⟩⟩
    · rw [t__accepts_best hp hc.xb hc.yb hr8 hc.xl hc.yl, acc_best h1]
      walk_at "wp"
    · rw [t__accepts_none hp hc.yb hr8 hc.yl, acc_none h2]
      walk_at "wp"
    · rw [t__accepts_endless hp hc.xb hc.rb hr8 hc.xl hc.rl, acc_endless h3]
      walk_at "wp"
    · rw [acc_other h1 h2 h3]
  refine fsat_eq ?_
  unfold p_accepts_certificate b_accepts_certificate
  walk_at "wp"
  rw [fld_r]
  walk_at "wp"
  rw [e]
  walk_at "wp"

theorem pick3 {v : Int} (h0 : 0 ≤ v) (h4 : v < 3) : ∃ r : Rat, atL [D.tup [.int 1, .int 1], .tup [.int (-1), .int 1], .tup [.int 1, .int 7]] v = some (rD r) ∧ Bd 3 r := by
  have : v = 0 ∨ v = 1 ∨ v = 2 := by omega
  rcases this with h | h | h
  · rw [h]; exact ⟨1, rfl, by decide, by decide⟩
  · rw [h]; exact ⟨-1, rfl, by decide, by decide⟩
  · rw [h]; exact ⟨Rat.divInt 1 7, rfl, by decide, by decide⟩
theorem mem_cut {α : Type} {l : List α} {lo hi : Option Int} {x : α} (h : x ∈ cut l lo hi) : x ∈ l := by
  unfold cut at h
  exact List.mem_of_mem_drop (List.mem_of_mem_take h)
theorem t__law_changed {c : Ct} {l : List Rat} {b : Nat} (hc : RowC c) (hl : ∀ y ∈ l, Bd b y) (hb : b ≤ 1000) (hll : l.length ≤ 100) : ∃ (l' : List Rat) (c' : Ct), p__law_changed [.par c, .dat (rsD l)] = .ret (.f (.l (l'.map rD))) [c'] ∧ l'.length ≤ l.length + 1 ∧ (∀ y ∈ l', Bd (b + 4) y) ∧ RowC c' := by
  have key : fsat (p__law_changed [.par c, .dat (rsD l)]) (fun w cs => ∃ (l' : List Rat) (c' : Ct), w = .f (.l (l'.map rD)) ∧ cs = [c'] ∧ l'.length ≤ l.length + 1 ∧ (∀ y ∈ l', Bd (b + 4) y) ∧ RowC c') fun _ _ => False := by
    unfold p__law_changed b__law_changed
    walk_at "wp"
    obtain ⟨v1, c1, e1, g1, l1, d1⟩ := t__law_take (m := 4) hc (by decide)
    rw [e1]
    walk_at "wp"
    have up : ∀ y ∈ l, Bd (b + 4) y := fun y hy => (hl y hy).mono (by omega)
    have hcl := cut_len l none (some (-1))
    refine ⟨fun h0 => ⟨fun hne => ?_, fun _ => ⟨fun h1 => absurd h1 (by omega), fun _ => ⟨fun h2 => absurd h2 (by omega), fun _ => ⟨l, c1, rfl, rfl, by omega, up, d1⟩⟩⟩⟩, fun h0 => ⟨fun h1 => ⟨fun h2 => absurd h2 (by omega), fun _ => ⟨cut l none (some (-1)), c1, by rw [cut_map], rfl, by omega, fun y hy => up y (mem_cut hy), d1⟩⟩, fun h1 => ⟨fun h2 => ⟨by omega, l ++ [0], c1, by rw [← snoc_map]; rfl, rfl, by simp, all_snoc up ((show Bd 1 (0 : Rat) from ⟨by decide, by decide⟩).mono (by omega)), d1⟩, fun _ => ⟨l, c1, rfl, rfl, by omega, up, d1⟩⟩⟩⟩
    have hpos : 0 < l.length := by
      cases l with
      | nil => cases hne
      | cons a l => simp
    obtain ⟨v2, c2, e2, g2, l2, d2⟩ := t__law_take (m := (l.length : Int)) d1 (by omega)
    rw [e2]
    walk_at "wp"
    obtain ⟨j, hj⟩ : ∃ j : Nat, v2 = (j : Int) := ⟨v2.toNat, by omega⟩
    rw [hj]
    have hjl : j < l.length := by omega
    walk_at "wp"
    rw [getD_ok (d := 0) hjl]
    walk_at "wp"
    obtain ⟨v3, c3, e3, g3, l3, d3⟩ := t__law_take (m := 3) d2 (by decide)
    rw [e3]
    walk_at "wp"
    obtain ⟨r, hr, hrb⟩ := pick3 g3 l3
    rw [hr]
    walk_at "wp"
    have ba := hl _ (List.mem_of_getElem? (getD_ok (d := 0) hjl))
    rw [t__law_plus ba hrb (by omega)]
    walk_at "wp"
    rw [ixI_nat (k := j) hjl]
    walk_at "wp"
    refine ⟨fun h1 => absurd h1 (by omega), fun _ => ⟨fun h2 => absurd h2 (by omega), fun _ => ⟨l.set j (l.getD j 0 + r), c3, by rw [List.map_set], rfl, by rw [List.length_set]; omega, fun y hy => (List.mem_or_eq_of_mem_set hy).elim (up y) fun h => ?_, d3⟩⟩⟩
    rw [h]
    exact (bd_add ba hrb).mono (by omega)
  obtain ⟨w, cs, e, l', c', rfl, rfl, q⟩ := fsat_out key
  exact ⟨l', c', e, q⟩
structure CeB (b m : Nat) (c : Ce) : Prop where
  xb : ∀ y ∈ c.x, Bd b y
  yb : ∀ y ∈ c.y, Bd b y
  rb : ∀ y ∈ c.ray, Bd b y
  xl : c.x.length ≤ m
  yl : c.y.length ≤ m
  rl : c.ray.length ≤ m
theorem CeB.ok {b m : Nat} {c : Ce} (h : CeB b m c) (hb : b ≤ 64) (hm : m ≤ 8) : CeOk c :=
  ⟨fun y hy => (h.xb y hy).mono hb, fun y hy => (h.yb y hy).mono hb, fun y hy => (h.rb y hy).mono hb, Nat.le_trans h.xl hm, Nat.le_trans h.yl hm, Nat.le_trans h.rl hm⟩
theorem kd_pick {v : Int} (h0 : 0 ≤ v) (h4 : v < 5) : ∃ k : Kd, atL [D.str "best", .str "none", .str "endless", .str "none", .str "other"] v = some (.str k.s) := by
  have : v = 0 ∨ v = 1 ∨ v = 2 ∨ v = 3 ∨ v = 4 := by omega
  rcases this with h | h | h | h | h
  · rw [h]; exact ⟨.best, rfl⟩
  · rw [h]; exact ⟨.none, rfl⟩
  · rw [h]; exact ⟨.endless, rfl⟩
  · rw [h]; exact ⟨.none, rfl⟩
  · rw [h]; exact ⟨.other, rfl⟩
theorem bd_int {v : Int} (h : v.natAbs < 2 ^ 8) : Bd 8 (v : Rat) := ⟨h, (by decide : (1 : Nat) < 2 ^ 8)⟩
theorem t__law_drawn {c : Ct} {p : Pg} (hc : RowC c) (hp : PgOk p) (hn : p.n ≤ 4) (hr : p.rows.length ≤ 4) : ∃ (ce : Ce) (c' : Ct), p__law_drawn [.par c, .dat (pgT p)] = .ret (.d (ceD ce)) [c'] ∧ CeB 8 4 ce ∧ RowC c' := by
  have key : fsat (p__law_drawn [.par c, .dat (pgT p)]) (fun w cs => ∃ (ce : Ce) (c' : Ct), w = .d (ceD ce) ∧ cs = [c'] ∧ CeB 8 4 ce ∧ RowC c') fun _ _ => False := by
    unfold p__law_drawn b__law_drawn
    walk_at "wp"
    obtain ⟨v1, c1, e1, g1, l1, d1⟩ := t__law_take (m := 5) hc (by decide)
    rw [e1]
    walk_at "wp"
    obtain ⟨k, hk⟩ := kd_pick g1 l1
    rw [hk]
    walk_at "wp"
    rw [ixp0]
    walk_at "wp"
    obtain ⟨x, c2, e2, hxl, hxb, d2⟩ := t__law_vector (n := p.n) d1 (by omega)
    rw [e2]
    walk_at "wp"
    rw [ixp3]
    walk_at "wp"
    refine lc_inv (lim_le (by omega)) (fun pre acc e => ∃ (l : List Rat) (c' : Ct), acc = l.map rD ∧ e = [.par c', .dat (pgT p), .dat (.str k.s), .dat (rsD x), .no, .no, .no, .no] ∧ l.length = pre.length ∧ (∀ y ∈ l, Bd 8 y) ∧ RowC c') ⟨[], c2, rfl, rfl, rfl, fun y h => absurd h List.not_mem_nil, d2⟩ ?_ ?_
    · rintro pre r post acc e hx ⟨l, c3, rfl, rfl, hl, hb, d3⟩
      walk_at "wp"
      obtain ⟨v4, c4, e4, g4, l4, d4⟩ := t__law_take (m := 5) d3 (by decide)
      rw [e4]
      walk_at "wp"
      exact ⟨l ++ [((v4 - 2 : Int) : Rat)], c4, by rw [List.map_append]; rfl, rfl, by rw [List.length_append, List.length_append, hl]; rfl, all_snoc hb (bd_int (by omega)), d4⟩
    · rintro acc e ⟨y, c3, rfl, rfl, hyl, hyb, d3⟩
      walk_at "wp"
      rw [ixp0]
      walk_at "wp"
      refine ⟨big_nat (by omega), ?_⟩
      rw [ints0]
      refine lc_inv (lim_le (by simp; omega)) (fun pre acc e => ∃ (l : List Rat) (c' : Ct), acc = l.map rD ∧ e = [.par c', .dat (pgT p), .dat (.str k.s), .dat (rsD x), .dat (rsD y), .no, .no, .no] ∧ l.length = pre.length ∧ (∀ y ∈ l, Bd 8 y) ∧ RowC c') ⟨[], c3, rfl, rfl, rfl, fun y h => absurd h List.not_mem_nil, d3⟩ ?_ ?_
      · rintro pre r post acc e hx ⟨l, c3, rfl, rfl, hl, hb, d3⟩
        walk_at "wp"
        obtain ⟨v4, c4, e4, g4, l4, d4⟩ := t__law_take (m := 3) d3 (by decide)
        rw [e4]
        walk_at "wp"
        exact ⟨l ++ [(v4 : Rat)], c4, by rw [List.map_append]; rfl, rfl, by rw [List.length_append, List.length_append, hl]; rfl, all_snoc hb (bd_int (by omega)), d4⟩
      · rintro acc e ⟨ray, c4, rfl, rfl, hral, hrab, d4⟩
        walk_at "wp"
        exact ⟨⟨k, x, y, ray⟩, c4, rfl, rfl, ⟨hxb, hyb, hrab, by show x.length ≤ 4; omega, by show y.length ≤ 4; omega, by show ray.length ≤ 4; rw [hral]; simp; omega⟩, d4⟩
  obtain ⟨w, cs, e, ce, c', rfl, rfl, q⟩ := fsat_out key
  exact ⟨ce, c', e, q⟩

theorem dual_eq {n : Nat} {rows : List Row} {x y : List Rat} (hr : ∀ r ∈ rows, r.a.length = n) (hx : x.length = n) (hy : y.length = rows.length) : dotR y (rows.map fun r => dotR r.a x) = sumN n fun k => dotR y (colD rows k) * x.getD k 0 := by
  have at_ : ∀ i, i < rows.length → ∀ {β : Type} (f : Row → β) (d : β), (rows.map f).getD i d = f (rows.getD i ⟨[], .most, 0⟩) := fun i hi β f d => by
    rw [List.getD_eq_getElem?_getD, List.getElem?_map, getD_ok (d := (⟨[], .most, 0⟩ : Row)) hi]; rfl
  rw [dotR_eq (n := rows.length) (by omega)]
  have e1 : ∀ i, i < rows.length → y.getD i 0 * (rows.map fun r => dotR r.a x).getD i 0 = sumN n fun k => y.getD i 0 * ((rows.getD i ⟨[], .most, 0⟩).a.getD k 0 * x.getD k 0) := fun i hi => by
    rw [at_ i hi, sumN_mul, dotR_eq (n := n) (by omega)]
  rw [sumN_congr e1, sumN_swap]
  refine sumN_congr fun k hk => ?_
  rw [dotR_eq (n := rows.length) (by omega), Rat.mul_comm, ← sumN_mul]
  refine sumN_congr fun i hi => ?_
  show _ = x.getD k 0 * (y.getD i 0 * (rows.map fun r => r.a.getD k 0).getD i 0)
  rw [at_ i hi]
  grind
/-- what the around certificate gives -/
theorem around_ok {p : Pg} {x y costs : List Rat} (hp : PgOk p) (hx : x.length = p.n) (hx0 : ∀ k, k < p.n → 0 ≤ (x.getD k 0).num) (hy : y.length = p.rows.length) (hs : ∀ k, k < p.rows.length → sgnB (p.rows.getD k ⟨[], .most, 0⟩) (y.getD k 0) = true) (hcl : costs.length = p.n)
    (hc : ∀ k, k < p.n → costs.getD k 0 = dotR y (colD p.rows k) ∨ (p.free.getD k false = false ∧ x.getD k 0 = 0 ∧ ¬dotR y (colD p.rows k) < costs.getD k 0)) :
    accB ⟨p.n, p.free, costs, p.rows.map fun r => ⟨r.a, r.w, dotR r.a x⟩⟩ ⟨.best, x, y, []⟩ = true := by
  rw [acc_best rfl]
  have ecol : ∀ k, colD (p.rows.map fun r => ⟨r.a, r.w, dotR r.a x⟩) k = colD p.rows k := fun k => by unfold colD; rw [List.map_map]; rfl
  have hfl := hp.fl
  have a1 : Pg.fits ⟨p.n, p.free, costs, p.rows.map fun r => ⟨r.a, r.w, dotR r.a x⟩⟩ x = true := by
    unfold Pg.fits
    have s1 : Pg.signs ⟨p.n, p.free, costs, p.rows.map fun r => ⟨r.a, r.w, dotR r.a x⟩⟩ x = true := by
      show p.signs x = true
      rw [signs_range hp hx, List.all_eq_true]
      intro k hk
      rw [decide_eq_true (hx0 k (List.mem_range.mp hk)), Bool.or_true]
    rw [s1, decide_eq_true (show x.length = p.n from hx), Bool.true_and, Bool.true_and, List.all_eq_true]
    intro r hr
    obtain ⟨q, hq, rfl⟩ := List.mem_map.mp hr
    unfold holds
    dsimp only
    cases q.w
    · simp
    · simp
    · simp
  have a2 : Pg.coversB ⟨p.n, p.free, costs, p.rows.map fun r => ⟨r.a, r.w, dotR r.a x⟩⟩ y costs = true := by
    unfold Pg.coversB
    have s1 : signsB (p.rows.map fun r => ⟨r.a, r.w, dotR r.a x⟩) y = signsB p.rows y := by
      unfold signsB
      rw [List.zip_map_left, List.all_map]
      rfl
    dsimp only
    rw [s1, signs_range' hy, List.length_map, decide_eq_true hy, Bool.true_and]
    have s2 : ((List.range p.rows.length).all fun k => sgnB (p.rows.getD k ⟨[], .most, 0⟩) (y.getD k 0)) = true := by
      rw [List.all_eq_true]
      intro k hk
      exact hs k (List.mem_range.mp hk)
    rw [s2, Bool.true_and, List.all_eq_true]
    intro k hk
    rw [ecol]
    unfold colB
    rcases hc k (List.mem_range.mp hk) with h | ⟨h1, h2, h3⟩
    · rw [h]; simp
    · rw [h1, decide_eq_false h3]; rfl
  have a3 : dotR y (bndD (p.rows.map fun r => ⟨r.a, r.w, dotR r.a x⟩)) = dotR costs x := by
    rw [show bndD (p.rows.map fun r => ⟨r.a, r.w, dotR r.a x⟩) = p.rows.map fun r => dotR r.a x by unfold bndD; rw [List.map_map]; rfl]
    rw [dual_eq (fun r hr => (hp.rows r hr).len) hx hy, dotR_eq (a := costs) (b := x) (n := p.n) (by omega)]
    refine sumN_congr fun k hk => ?_
    rcases hc k hk with h | ⟨h1, h2, h3⟩
    · rw [h]
    · rw [h2, Rat.mul_zero, Rat.mul_zero]
  dsimp only
  rw [a1, a2, Bool.true_and, Bool.true_and]
  exact decide_eq_true a3

theorem getD_pre {α : Type} {l pre post : List α} {r d : α} (h : l = pre ++ r :: post) : l.getD pre.length d = r := by
  rw [h, List.getD_eq_getElem?_getD]
  simp
theorem all_idx {P : Nat → Rat → Prop} {l : List Rat} {v : Rat} (h : ∀ k, k < l.length → P k (l.getD k 0)) (hv : P l.length v) : ∀ k, k < (l ++ [v]).length → P k ((l ++ [v]).getD k 0) := fun k hk => by
  rw [List.length_append, List.length_singleton] at hk
  by_cases h1 : k < l.length
  · have : (l ++ [v]).getD k 0 = l.getD k 0 := by
      rw [List.getD_eq_getElem?_getD, List.getD_eq_getElem?_getD, List.getElem?_append_left h1]
    rw [this]
    exact h k h1
  · have e : k = l.length := by omega
    subst e
    rw [getD_pre (l := l ++ [v]) (pre := l) (post := []) rfl]
    exact hv
theorem int_pos {z : Int} (h : ¬0 < z) : ¬0 < (z : Rat) := fun k => h (num_pos_iff.mpr k)
theorem int_neg {z : Int} (h : ¬z < 0) : ¬(z : Rat) < 0 := fun k => h (num_neg_iff.mpr k)
def valR (x : List Rat) (r : Row) : Row := ⟨r.a, r.w, dotR r.a x⟩
abbrev pgU (p : Pg) : D := .tup [.int (p.n : Int), bsD p.free, rsD p.goal, rwD p.rows]
theorem t__law_around {c : Ct} {p : Pg} (hc : RowC c) (hp : PgOk p) (hn : p.n ≤ 4) (hr3 : p.rows.length ≤ 3) (h8 : ∀ r ∈ p.rows, ∀ y ∈ r.a, Bd 8 y) : ∃ (p' : Pg) (ce : Ce) (c' : Ct), p__law_around [.par c, .dat (pgT p)] = .ret (.d (.tup [pgT p', ceD ce])) [c'] ∧ PgOk p' ∧ p'.n ≤ 4 ∧ p'.rows.length ≤ 3 ∧ CeB 8 4 ce ∧ accB p' ce = true ∧ RowC c' := by
  have key : fsat (p__law_around [.par c, .dat (pgT p)]) (fun w cs => ∃ (p' : Pg) (ce : Ce) (c' : Ct), w = .d (.tup [pgT p', ceD ce]) ∧ cs = [c'] ∧ PgOk p' ∧ p'.n ≤ 4 ∧ p'.rows.length ≤ 3 ∧ CeB 8 4 ce ∧ accB p' ce = true ∧ RowC c') fun _ _ => False := by
    have hfl := hp.fl
    unfold p__law_around b__law_around pgT
    walk_at "wp"
    refine ⟨big_nat (by omega), ?_⟩
    rw [ints0]
    refine lc_inv (lim_le (by simp; omega)) (fun pre acc e => ∃ (l : List Rat) (c' : Ct), acc = l.map rD ∧ e = [.par c', .dat (pgU p), .dat (.int (p.n : Int)), .dat (bsD p.free), .dat (rsD p.goal), .dat (rwD p.rows), .no, .no, .no, .no, .no, .no, .no, .no, .no, .no, .no, .no] ∧ l.length = pre.length ∧ (∀ y ∈ l, Bd 3 y ∧ 0 ≤ y.num) ∧ RowC c') ⟨[], c, rfl, rfl, rfl, fun y h => absurd h List.not_mem_nil, hc⟩ ?_ ?_
    · rintro pre k post acc e hx ⟨l, c3, rfl, rfl, hl, hb, d3⟩
      walk_at "wp"
      obtain ⟨v4, c4, e4, g4, l4, d4⟩ := t__law_take (m := 4) d3 (by decide)
      rw [e4]
      walk_at "wp"
      obtain ⟨v5, c5, e5, g5, l5, d5⟩ := t__law_take (m := 2) d4 (by decide)
      rw [e5]
      walk_at "wp"
      rw [t__law_lowest (n := 3) (by omega) (by omega) (by decide)]
      walk_at "wp"
      exact ⟨l ++ [Rat.divInt v4 (1 + v5)], c5, by rw [List.map_append]; rfl, rfl, by rw [List.length_append, List.length_append, hl]; rfl, all_snoc hb ⟨bd_divInt (by omega) (by omega) (by omega), by rw [← num_pos (show 0 < 1 + v5 by omega)]; exact Int.ediv_nonneg g4 (by omega)⟩, d5⟩
    · rintro acc e ⟨x, c1, rfl, rfl, hxl, hxb, d1⟩
      rw [List.length_range] at hxl
      have xb : ∀ y ∈ x, Bd 3 y := fun y hy => (hxb y hy).1
      walk_at "wp"
      refine for_inv (fun pre e => ∃ (ys : List Rat) (c' : Ct) (s t u v w : Sl), e = [.par c', .dat (pgU p), .dat (.int (p.n : Int)), .dat (bsD p.free), .dat (rsD p.goal), .dat (rwD p.rows), .dat (rsD x), .own (.l (ys.map rD)), .own (.l ((pre.map (valR x)).map rowD)), s, t, u, v, w, .no, .no, .no, .no] ∧ Jk s ∧ Jk t ∧ Jk u ∧ Jk v ∧ Jk w ∧ ys.length = pre.length ∧ (∀ y ∈ ys, Bd 2 y) ∧ (∀ k, k < ys.length → sgnB (p.rows.getD k ⟨[], .most, 0⟩) (ys.getD k 0) = true) ∧ RowC c') ⟨[], c1, _, _, _, _, _, rfl, jkN, jkN, jkN, jkN, jkN, rfl, fun y h => absurd h List.not_mem_nil, fun k h => absurd h (Nat.not_lt_zero _), d1⟩ ?_ ?_
      · rintro pre r post e hx ⟨ys, c2, _, _, _, _, _, rfl, ⟨s, rfl⟩, ⟨t, rfl⟩, ⟨u, rfl⟩, ⟨v, rfl⟩, ⟨w, rfl⟩, hyl, hyb, hys, d2⟩
        have hrm : r ∈ p.rows := by rw [hx]; simp
        have hra := (hp.rows r hrm).len
        have hrp := getD_pre (d := (⟨[], .most, 0⟩ : Row)) hx
        have hpl : pre.length + 1 ≤ 3 := by
          have := congrArg List.length hx
          rw [List.length_append, List.length_cons] at this
          omega
        have step : ∀ (f : Rat), (r.w = .least → ¬0 < f) → (r.w = .most → ¬f < 0) → ∀ k, k < (ys ++ [f]).length → sgnB (p.rows.getD k ⟨[], .most, 0⟩) ((ys ++ [f]).getD k 0) = true := fun f h1 h2 =>
          all_idx (P := fun k y => sgnB (p.rows.getD k ⟨[], .most, 0⟩) y = true) hys (by rw [hyl, hrp]; exact sgn_t h1 h2)
        unfold rowD
        walk_at "wp"
        have hm : min r.a.length x.length * (8 + 3 + 1) ≤ 4 * (8 + 3 + 1) := Nat.mul_le_mul_right _ (by omega)
        rw [t__law_dot (h8 r hrm) xb (by omega) ⟨by omega, by omega⟩]
        walk_at "wp"
        obtain ⟨v3, c3, e3, g3, l3, d3⟩ := t__law_take (m := 3) d2 (by decide)
        rw [e3]
        walk_at "wp"
        simp only [wd_least]
        have b2 : ∀ z : Int, z.natAbs < 2 ^ 2 → Bd 2 (z : Rat) := fun z h => ⟨h, (by decide : (1 : Nat) < 2 ^ 2)⟩
        refine ⟨fun h1 => ⟨by omega, by omega, ys ++ [((-v3 : Int) : Rat)], c3, .dat (rsD r.a), .dat (.str r.w.s), .dat (rD r.b), .dat (rD (dotR r.a x)), .dat (.tup [.int (-v3), .int 1]), ?_, jkD, jkD, jkD, jkD, jkD, ?_, all_snoc hyb (b2 _ (by omega)), step _ (fun _ => int_pos (by omega)) (fun h => ?_), d3⟩, fun h1 => ⟨by omega, by omega, ys ++ [(v3 : Rat)], c3, .dat (rsD r.a), .dat (.str r.w.s), .dat (rD r.b), .dat (rD (dotR r.a x)), .dat (.tup [.int v3, .int 1]), ?_, jkD, jkD, jkD, jkD, jkD, ?_, all_snoc hyb (b2 _ (by omega)), step _ (fun h => absurd h h1) (fun _ => int_neg (by omega)), d3⟩⟩
        · rw [List.map_append, List.map_append, List.map_append]; rfl
        · rw [List.length_append, List.length_append, hyl]; rfl
        · rw [h1] at h; cases h
        · rw [List.map_append, List.map_append, List.map_append]; rfl
        · rw [List.length_append, List.length_append, hyl]; rfl
      · rintro e ⟨ys, c2, _, _, _, _, _, rfl, ⟨s, rfl⟩, ⟨t, rfl⟩, ⟨u, rfl⟩, ⟨v, rfl⟩, ⟨w, rfl⟩, hyl, hyb, hys, d2⟩
        walk_at "wp"
        refine ⟨big_nat (by omega), ?_⟩
        rw [ints0]
        have hcs : ∀ k, k < p.n → Bd 34 (dotR ys (colD p.rows k)) := fun k hk => by
          have hcb : ∀ y ∈ colD p.rows k, Bd 8 y := fun y hy => by
            obtain ⟨r, hr, rfl⟩ := List.mem_map.mp hy
            exact h8 r hr _ (List.mem_of_getElem? (getD_ok (by rw [(hp.rows r hr).len]; exact hk)))
          refine (bd_dot hyb hcb).mono ?_
          have hm : min ys.length (colD p.rows k).length * (2 + 8 + 1) ≤ 3 * (2 + 8 + 1) := Nat.mul_le_mul_right _ (by omega)
          omega
        refine for_inv (fun pre e => ∃ (cs : List Rat) (c' : Ct) (a b : Sl), e = [.par c', .dat (pgU p), .dat (.int (p.n : Int)), .dat (bsD p.free), .dat (rsD p.goal), .dat (rwD p.rows), .dat (rsD x), .dat (rsD ys), .dat (rwD (p.rows.map (valR x))), jk s, jk t, jk u, a, jk w, .own (.l (cs.map rD)), b, .no, .no] ∧ Jk a ∧ Jk b ∧ cs.length = pre.length ∧ (∀ y ∈ cs, Bd 37 y) ∧ (∀ k, k < cs.length → cs.getD k 0 = dotR ys (colD p.rows k) ∨ (p.free.getD k false = false ∧ x.getD k 0 = 0 ∧ ¬dotR ys (colD p.rows k) < cs.getD k 0)) ∧ RowC c') ⟨[], c2, _, _, rfl, ⟨_, rfl⟩, jkN, rfl, fun y h => absurd h List.not_mem_nil, fun k h => absurd h (Nat.not_lt_zero _), d2⟩ ?_ ?_
        · rintro pre k post e hx ⟨cs, c3, _, _, rfl, ⟨a, rfl⟩, ⟨b, rfl⟩, hcl, hcb, hci, d3⟩
          obtain ⟨hk1, hk⟩ := range_pre hx
          have e1 : p.free[k]? = some (p.free.getD k false) := getD_ok (by omega)
          have e2 : x[k]? = some (x.getD k 0) := getD_ok (by omega)
          have hcb8 : ∀ y ∈ colD p.rows k, Bd 8 y := fun y hy => by
            obtain ⟨r, hr, rfl⟩ := List.mem_map.mp hy
            exact h8 r hr _ (List.mem_of_getElem? (getD_ok (by rw [(hp.rows r hr).len]; exact hk)))
          have hm : min ys.length (colD p.rows k).length * (2 + 8 + 1) ≤ 3 * (2 + 8 + 1) := Nat.mul_le_mul_right _ (by omega)
          have hcd : (colD p.rows k).length = p.rows.length := by unfold colD; rw [List.length_map]
          have step : ∀ v : Rat, (v = dotR ys (colD p.rows k) ∨ (p.free.getD k false = false ∧ x.getD k 0 = 0 ∧ ¬dotR ys (colD p.rows k) < v)) → ∀ j, j < (cs ++ [v]).length → (cs ++ [v]).getD j 0 = dotR ys (colD p.rows j) ∨ (p.free.getD j false = false ∧ x.getD j 0 = 0 ∧ ¬dotR ys (colD p.rows j) < (cs ++ [v]).getD j 0) := fun v hv =>
            all_idx (P := fun j v => v = dotR ys (colD p.rows j) ∨ (p.free.getD j false = false ∧ x.getD j 0 = 0 ∧ ¬dotR ys (colD p.rows j) < v)) hci (by rw [hcl, hk1]; exact hv)
          walk_at "wp"
          refine lc_map (fun r => rD (r.a.getD k 0)) (lim_le (by rw [List.length_map]; omega)) (fun r hr => ?_) ?_
          · obtain ⟨q, hq, rfl⟩ := List.mem_map.mp hr
            unfold rowD
            walk_at "wp"
            rw [getD_ok (d := 0) (show k < (valR x q).a.length by show k < q.a.length; rw [(hp.rows q hq).len]; exact hk)]
            walk_at "wp"
          · walk_at "wp"
            rw [show List.map (fun r : Row => rD (r.a.getD k 0)) (p.rows.map (valR x)) = (colD p.rows k).map rD by unfold colD; rw [List.map_map, List.map_map]; rfl]
            rw [t__law_dot hyb hcb8 (by omega) ⟨by omega, by omega⟩]
            walk_at "wp"
            rw [e1]
            walk_at "wp"
            refine ⟨fun hf => ?_, fun hf => ?_⟩
            · rw [e2]
              walk_at "wp"
              rw [zero_rD, eq_r]
              walk_at "wp"
              refine ⟨fun hx0 => ?_, fun hx0 => ?_⟩
              · obtain ⟨v4, c4, e4, g4, l4, d4⟩ := t__law_take (m := 3) d3 (by decide)
                rw [e4]
                walk_at "wp"
                have b2 : Bd 2 ((-v4 : Int) : Rat) := ⟨show (-v4).natAbs < 2 ^ 2 by omega, (by decide : (1 : Nat) < 2 ^ 2)⟩
                rw [int_rD, t__law_plus (hcs k hk) b2 (by omega)]
                walk_at "wp"
                have hz : ¬0 < ((-v4 : Int) : Rat) := int_pos (by omega)
                refine ⟨by omega, cs ++ [dotR ys (colD p.rows k) + ((-v4 : Int) : Rat)], c4, .dat (rD (dotR ys (colD p.rows k) + ((-v4 : Int) : Rat))), .dat (.int (k : Int)), ?_, jkD, jkD, by rw [List.length_append, List.length_append, hcl]; rfl, all_snoc hcb ((bd_add (hcs k hk) b2).mono (by omega)), step _ (.inr ⟨hf, hx0, ?_⟩), d4⟩
                · rw [← snoc_map]
                · generalize ((-v4 : Int) : Rat) = z at hz
                  grind
              · exact ⟨by omega, cs ++ [dotR ys (colD p.rows k)], c3, .dat (rD (dotR ys (colD p.rows k))), .dat (.int (k : Int)), by rw [← snoc_map], jkD, jkD, by rw [List.length_append, List.length_append, hcl]; rfl, all_snoc hcb ((hcs k hk).mono (by omega)), step _ (.inl rfl), d3⟩
            · exact ⟨by omega, cs ++ [dotR ys (colD p.rows k)], c3, .dat (rD (dotR ys (colD p.rows k))), .dat (.int (k : Int)), by rw [← snoc_map], jkD, jkD, by rw [List.length_append, List.length_append, hcl]; rfl, all_snoc hcb ((hcs k hk).mono (by omega)), step _ (.inl rfl), d3⟩
        · rintro e ⟨cs, c3, _, _, rfl, ⟨a, rfl⟩, ⟨b, rfl⟩, hcl, hcb, hci, d3⟩
          rw [List.length_range] at hcl
          walk_at "wp"
          refine ⟨⟨p.n, p.free, cs, p.rows.map (valR x)⟩, ⟨.best, x, ys, []⟩, c3, rfl, rfl, ⟨hp.n8, hp.fl, hcl, fun y hy => (hcb y hy).mono (by decide), fun r hr => ?_, by rw [List.length_map]; omega⟩, hn, by rw [List.length_map]; exact hr3, ⟨fun y hy => (xb y hy).mono (by decide), fun y hy => (hyb y hy).mono (by decide), fun y hy => absurd hy List.not_mem_nil, by show x.length ≤ 4; omega, by show ys.length ≤ 4; omega, Nat.zero_le _⟩, around_ok hp hxl (fun k hk => (hxb _ (List.mem_of_getElem? (getD_ok (by omega)))).2) hyl (fun k hk => hys k (by omega)) hcl (fun k hk => hci k (by omega)), d3⟩
          obtain ⟨q, hq, rfl⟩ := List.mem_map.mp hr
          refine ⟨(hp.rows q hq).len, (hp.rows q hq).ab, (bd_dot (h8 q hq) xb).mono ?_⟩
          have hm : min q.a.length x.length * (8 + 3 + 1) ≤ 4 * (8 + 3 + 1) := Nat.mul_le_mul_right _ (by omega)
          omega
  obtain ⟨w, cs, e, p', ce, c', rfl, rfl, q⟩ := fsat_out key
  exact ⟨p', ce, c', e, q⟩

theorem kd_pick2 {v : Int} (h0 : 0 ≤ v) (h4 : v < 2) : ∃ k : Kd, atL [D.str "endless", .str "none"] v = some (.str k.s) := by
  have : v = 0 ∨ v = 1 := by omega
  rcases this with h | h
  · rw [h]; exact ⟨.endless, rfl⟩
  · rw [h]; exact ⟨.none, rfl⟩
theorem sh_ce (c : Ce) : sh (ceD c) 60 = true := by
  unfold ceD
  simp only [sh, shAll, Nat.add_one_sub_one, Nat.reduceSub, Nat.reduceLT, Nat.zero_lt_succ, decide_true, Bool.true_and, Bool.and_true, kd_sh, shAll_map _ (fun (y : Rat) _ => sh_r y _)]
theorem ixc0 (c : Ce) : ixD (ceD c) (.int 0) = some (.d (.str c.k.s)) := rfl
theorem ixc1 (c : Ce) : ixD (ceD c) (.int 1) = some (.d (rsD c.x)) := rfl
theorem ixc2 (c : Ce) : ixD (ceD c) (.int 2) = some (.d (rsD c.y)) := rfl
theorem ixc3 (c : Ce) : ixD (ceD c) (.int 3) = some (.d (rsD c.ray)) := rfl
theorem eq_rw (l : List Row) : eqD (rwD l) (rwD l) = some true := eq_self (sh_lst (n := 59) (shAll_map l fun r _ => sh_row r 56))
theorem CeB.up {b m b' m' : Nat} {c : Ce} (h : CeB b m c) (hb : b ≤ b') (hm : m ≤ m') : CeB b' m' c :=
  ⟨fun y hy => (h.xb y hy).mono hb, fun y hy => (h.yb y hy).mono hb, fun y hy => (h.rb y hy).mono hb, Nat.le_trans h.xl hm, Nat.le_trans h.yl hm, Nat.le_trans h.rl hm⟩
theorem k10_tail {p : Pg} {ce : Ce} {c : Ct} {s0 : D} {cb : Kwt Fl} {q : Kwe} (hp : PgOk p) (hr3 : p.rows.length ≤ 3) (hce : CeB 8 4 ce) (hc : RowC c) (hcb : ∀ e, pars e = [] → cb.P (.rt (.d (.bl true))) e) : @st Fl (b_law_1 [.dat s0, .own c, .dat (pgT p), .dat (ceD ce), .no, .no, .no, .no, .no, .no, .no, .no, .no, .no, .no, .no]) cb q := by
  unfold b_law_1
  walk_at "wp"
  refine ⟨by decide, ?_⟩
  rw [ints0]
  refine for_inv (fun pre e => ∃ (L : List Ce) (c' : Ct) (s t u v w z : Sl), e = [.dat s0, .own c', .dat (pgT p), .dat (ceD ce), .own (.l (L.map ceD)), s, t, u, v, w, z, .no, .no, .no, .no, .no] ∧ Jk s ∧ Jk t ∧ Jk u ∧ Jk v ∧ Jk w ∧ Jk z ∧ (∀ x ∈ L, CeB 12 5 x) ∧ L.length ≤ 1 + pre.length ∧ RowC c') ⟨[ce], c, _, _, _, _, _, _, rfl, jkN, jkN, jkN, jkN, jkN, jkN, fun x hx => by cases List.mem_singleton.mp hx; exact hce.up (by decide) (by decide), by simp, hc⟩ ?_ ?_
  · rintro pre k post e hx ⟨L, c1, _, _, _, _, _, _, rfl, ⟨s, rfl⟩, ⟨t, rfl⟩, ⟨u, rfl⟩, ⟨v, rfl⟩, ⟨w, rfl⟩, ⟨z, rfl⟩, hL, hLl, d1⟩
    obtain ⟨hk1, hk⟩ := range_pre hx
    have hk3 : pre.length < 3 := by simpa [hk1] using hk
    unfold ceD
    walk_at "wp"
    obtain ⟨v1, c2, e1, g1, l1, d2⟩ := t__law_take (m := 3) d1 (by decide)
    rw [e1]
    walk_at "wp"
    have hxl := hce.xl
    have hyl := hce.yl
    have hrl := hce.rl
    refine ⟨fun h0 => ?_, fun h0 => ⟨fun h1 => ?_, fun h1 => ?_⟩⟩
    · obtain ⟨l, c3, e3, hl1, hl2, d3⟩ := t__law_changed d2 hce.xb (by decide) (by omega)
      rw [e3]
      walk_at "wp"
      unfold b_law_3
      walk_at "wp"
      refine ⟨by omega, L ++ [⟨ce.k, l, ce.y, ce.ray⟩], c3, .dat (.int (k : Int)), .dat (.str ce.k.s), .dat (rsD l), .dat (rsD ce.y), .dat (rsD ce.ray), .dat (.int v1), ?_, jkD, jkD, jkD, jkD, jkD, jkD, all_snoc hL ⟨hl2, fun y hy => (hce.yb y hy).mono (by decide), fun y hy => (hce.rb y hy).mono (by decide), by show l.length ≤ 5; omega, by show ce.y.length ≤ 5; omega, by show ce.ray.length ≤ 5; omega⟩, by rw [List.length_append, List.length_append]; simp; omega, d3⟩
      rw [← snoc_map]
    · obtain ⟨l, c3, e3, hl1, hl2, d3⟩ := t__law_changed d2 hce.yb (by decide) (by omega)
      rw [e3]
      walk_at "wp"
      unfold b_law_3
      walk_at "wp"
      refine ⟨by omega, L ++ [⟨ce.k, ce.x, l, ce.ray⟩], c3, .dat (.int (k : Int)), .dat (.str ce.k.s), .dat (rsD ce.x), .dat (rsD l), .dat (rsD ce.ray), .dat (.int v1), ?_, jkD, jkD, jkD, jkD, jkD, jkD, all_snoc hL ⟨fun y hy => (hce.xb y hy).mono (by decide), hl2, fun y hy => (hce.rb y hy).mono (by decide), by show ce.x.length ≤ 5; omega, by show l.length ≤ 5; omega, by show ce.ray.length ≤ 5; omega⟩, by rw [List.length_append, List.length_append]; simp; omega, d3⟩
      rw [← snoc_map]
    · obtain ⟨l, c3, e3, hl1, hl2, d3⟩ := t__law_changed d2 hce.xb (by decide) (by omega)
      rw [e3]
      walk_at "wp"
      obtain ⟨v4, c4, e4, g4, l4, d4⟩ := t__law_take (m := 2) d3 (by decide)
      rw [e4]
      walk_at "wp"
      obtain ⟨kd, hkd⟩ := kd_pick2 g4 l4
      rw [hkd]
      walk_at "wp"
      unfold b_law_3
      walk_at "wp"
      refine ⟨by omega, L ++ [⟨kd, ce.x, ce.y, l⟩], c4, .dat (.int (k : Int)), .dat (.str kd.s), .dat (rsD ce.x), .dat (rsD ce.y), .dat (rsD l), .dat (.int v1), ?_, jkD, jkD, jkD, jkD, jkD, jkD, all_snoc hL ⟨fun y hy => (hce.xb y hy).mono (by decide), fun y hy => (hce.yb y hy).mono (by decide), hl2, by show ce.x.length ≤ 5; omega, by show ce.y.length ≤ 5; omega, by show l.length ≤ 5; omega⟩, by rw [List.length_append, List.length_append]; simp; omega, d4⟩
      rw [← snoc_map]
  · rintro e ⟨L, c1, _, _, _, _, _, _, rfl, ⟨s, rfl⟩, ⟨t, rfl⟩, ⟨u, rfl⟩, ⟨v, rfl⟩, ⟨w, rfl⟩, ⟨z, rfl⟩, hL, hLl, d1⟩
    unfold b_law_2
    walk_at "wp"
    rw [t__law_made hp]
    walk_at "wp"
    rw [pgC_toD]
    refine for_inv (fun pre e => ∃ (a b d : Sl), e = [.dat s0, .own c1, .dat (pgT p), .dat (ceD ce), .dat (.lst (L.map ceD)), jk s, jk t, jk u, jk v, jk w, jk z, .dat (pgO p), a, b, d, .no] ∧ Jk a ∧ Jk b ∧ Jk d) ⟨_, _, _, rfl, jkN, jkN, jkN⟩ ?_ ?_
    · rintro pre x post e hx ⟨_, _, _, rfl, ⟨a, rfl⟩, ⟨b, rfl⟩, ⟨d, rfl⟩⟩
      have hb := hL x (by rw [hx]; simp)
      have ok := hb.ok (by decide) (by decide)
      have hyl := hb.yl
      walk_at "wp"
      rw [ixc0]
      walk_at "wp"
      rw [ixc1]
      walk_at "wp"
      rw [ixc2]
      walk_at "wp"
      rw [ixc3]
      walk_at "wp"
      rw [show D.tup [.str x.k.s, .lst (x.x.map rD), .lst (x.y.map rD), .lst (x.ray.map rD)] = ceD x from rfl, t_accepts_certificate hp ok (by omega)]
      walk_at "wp"
      rw [t__law_accepted hp ok (by omega)]
      walk_at "wp"
      rw [ne_self (sh_ce x)]
      walk_at "wp"
      rw [ixc2]
      walk_at "wp"
      rw [ixp3]
      walk_at "wp"
      refine ⟨fun h => ?_, fun h => ⟨_, _, _, rfl, jkD, jkD, jkD⟩⟩
      rw [ixc2]
      walk_at "wp"
      rw [t_bound_of hp ok.yb (by omega) (by omega)]
      walk_at "wp"
      rw [ixc2]
      walk_at "wp"
      rw [ixp3]
      walk_at "wp"
      refine lc_map (fun r => rD r.b) (lim_le (by omega)) (fun r hr => ?_) ?_
      · unfold rowD
        walk_at "wp"
      · walk_at "wp"
        rw [bndD_map, dot64 ok.yb (bndD_bd hp.rows) (by omega) (by rw [bndD_len]; omega)]
        walk_at "wp"
        exact ⟨_, _, _, rfl, jkD, jkD, jkD⟩
    · rintro e ⟨_, _, _, rfl, ⟨a, rfl⟩, ⟨b, rfl⟩, ⟨d, rfl⟩⟩
      walk_at "wp"
      rw [fld_r]
      walk_at "wp"
      rw [ixp3]
      walk_at "wp"
      rw [eq_rw]
      walk_at "wp"
      exact hcb _ (by simp only [pars_dat, pars_own, pars_jk, pars_no, pars_nilW])
theorem law_pure (ns : List Int) (hl : ns.length ≤ 63) : p_law [.dat (.lsf (ns.map D.int))] = .ret (.d (.bl true)) [] := by
  refine fsat_eq ?_
  unfold p_law b_law
  walk_at "wp"
  obtain ⟨c0, e0, d0⟩ : ∃ c, p__law_numbers [.dat (.lsf (ns.map .int)), .dat (.int 90)] = .ret (.f c) [] ∧ RowC c := t__law_numbers (n := 90) hl (by decide)
  rw [e0]
  walk_at "wp"
  obtain ⟨p, c1, e1, hp, hn4, hr3, d1, h8⟩ : ∃ (p : Pg) (c' : Ct), p__law_program [.par c0, .dat (.int 4)] = .ret (.d (pgT p)) [c'] ∧ PgOk p ∧ p.n ≤ 4 ∧ p.rows.length ≤ 3 ∧ RowC c' ∧ ∀ r ∈ p.rows, ∀ y ∈ r.a, Bd 8 y := t__law_program (m := 4) d0 (by decide) (by decide)
  rw [e1]
  walk_at "wp"
  obtain ⟨ce, c2, e2, hce, d2⟩ := t__law_drawn d1 hp hn4 (by omega)
  rw [e2]
  walk_at "wp"
  obtain ⟨v3, c3, e3, g3, l3, d3⟩ := t__law_take (m := 3) d2 (by decide)
  rw [e3]
  walk_at "wp"
  refine ⟨fun h => ?_, fun h => ?_⟩
  · obtain ⟨p', ce', c4, e4, hp', hn4', hr3', hce', hacc, d4⟩ := t__law_around d3 hp hn4 hr3 h8
    rw [e4]
    walk_at "wp"
    rw [t__law_accepted hp' (hce'.ok (by decide) (by decide)) (by omega)]
    walk_at "wp"
    rw [hacc]
    refine ⟨fun h => absurd h (by decide), fun _ => k10_tail hp' hr3' hce' d4 fun e he => ?_⟩
    exact ⟨rfl, he⟩
  · exact k10_tail hp hr3 hce d3 fun e he => ⟨rfl, he⟩

end UbK
end
open PySem PySem.Spec PyProof.Rows L2 Ub UbM
/-! ### words of my own for readings -/
local macro_rules | `(tactic| walk_at "un") => `(tactic| try dsimp only [L2.start, tVar, tC, tOp, tUn, tTest, tB, tAnd, tOr, tNot, tAndV, tOrV, tNotV, tIf, tNext, tSeq, tBreak, tCont, tDrop, tRet, tRetN, tIfS, tNever, gName, gNil, gCons, gSub, tAsg, tPar, tSl, tPart, tNoPart, tNil, tCons, tCall, tCallS, tCB, tBM, tBM0, tChain, tTupN, tLstN, gTup, Cx.nox, Cx.wish, cxOf, List.map, List.replicate, List.length, List.cons_append, List.nil_append, List.set, List.getElem?_cons_zero, List.getElem?_cons_succ, Nat.reduceAdd, Nat.reduceSub])
local macro_rules | `(tactic| walk_at "dp") => `(tactic| first | assumption | exact .int _ | exact .bl _ | exact .str _ | exact .non | exact Ub.Dp.mono (by assumption) _ _ (by walk_at "dp"))
local macro_rules | `(tactic| walk_at "fr") => `(tactic| first | assumption | exact Ub.Fr.mono (by assumption) (by walk_at "fr"))
local macro_rules | `(tactic| walk_at "dps") => `(tactic| first | exact .nil | (refine' .cons ?j1 ?j2; (case j1 => walk_at "dp"); (case j2 => walk_at "dps")))
local macro_rules | `(tactic| walk_at "st") => `(tactic| first
  | (with_reducible refine ⟨_, rfl, ?_⟩)
  | (with_reducible refine rdAdd ?_)
  | (with_reducible refine rdSub ?_)
  | (with_reducible refine rdNeg ?_)
  | (with_reducible refine rdEqI ?_)
  | (with_reducible refine rdNeI ?_)
  | (with_reducible refine rdLt ?_)
  | (with_reducible refine rdGt ?_)
  | (with_reducible refine rdLe ?_)
  | (with_reducible refine rdGe ?_)
  | (with_reducible refine rdInt ?_)
  | (with_reducible refine rdIntB ?_)
  | (with_reducible refine rdAbs ?_)
  | (with_reducible refine rdGcd ?_)
  | (with_reducible refine rdEqB ?_)
  | (with_reducible refine rdEqS ?_)
  | (with_reducible refine rdNeS ?_)
  | ((with_reducible refine' ixFr0 ?k1 ?_); (case k1 => walk_at "fr"))
  | ((with_reducible refine' ixFr1 ?k1 ?_); (case k1 => walk_at "fr"))
  | ((with_reducible refine' ixP0 ?k1 ?_); (case k1 => walk_at "dp"))
  | ((with_reducible refine' ixP1 ?k1 ?_); (case k1 => walk_at "dp"))
  | ((with_reducible refine' rdIsN ?k1 ?_); (case k1 => walk_at "dp"))
  | ((with_reducible refine' rdNotN ?k1 ?_); (case k1 => walk_at "dp"))
  | ((with_reducible refine' isiInt ?k1 ?_); (case k1 => walk_at "dp"))
  | ((with_reducible refine' isiBool ?k1 ?_); (case k1 => walk_at "dp"))
  | ((with_reducible refine' isiStr ?k1 ?_); (case k1 => walk_at "dp"))
  | ((with_reducible refine' isiTup ?k1 ?_); (case k1 => walk_at "dp"))
  | ((with_reducible refine' isiLst ?k1 ?_); (case k1 => walk_at "dp"))
  | ((with_reducible refine' rdIxL ?k1 ?k2 ?_); (case k1 => first | assumption | exact .inl (.inl (by assumption)) | exact .inl (.inl upd_same)); (case k2 => exact rfl))
  | ((with_reducible refine' rdMul ?k1 ?_); (case k1 => first | exact .inl (.inr ⟨by decide, by decide⟩) | exact .inl (.inl ⟨by decide, by decide⟩) | exact mulW (by assumption) (by assumption) (by omega)))
  | ((with_reducible refine' rdLenL ?k1 ?_); (case k1 => first | assumption | exact .inl (.inl (by assumption))))
  | ((with_reducible refine' rdLenT ?k1 ?_); (case k1 => first | assumption | exact .inl (.inl (by assumption))))
  | (with_reducible refine rdMin2 ?_)
  | ((with_reducible refine' rdTupD (K := ‹PySem.W.Frag›) ?k1 ?k2 (fun _ _ _ _ => ?_)); (case k1 => walk_at "dps"); (case k2 => exact small_line (Nat.le_of_ble_eq_true rfl)))
  | (with_reducible refine ⟨_, by rfl, ?_⟩))
local macro_rules | `(tactic| walk_at "go") => `(tactic| repeat walk_at "st")
local macro_rules | `(tactic| walk_at "for") => `(tactic| try dsimp only [tFor, iRng1, iRng2, iList, iTup, tCons, tC, tNil, tVar, tOp, tCB, tUn, List.getElem?_cons_zero, List.getElem?_cons_succ])
local macro_rules | `(tactic| walk_at "ew") => `(tactic| (simp only [dInt, dBool, dStr, dTup, dLst, dNon, Bool.not_true, Bool.not_false, reduceIte, Bool.false_eq_true, Bool.true_eq_false, decide_true, decide_false, Bool.not_not, if_true, if_false, decide_eq_true_eq, true_and, and_true]))
local macro_rules | `(tactic| walk_at "ev") => `(tactic| try walk_at "ew")
local macro_rules | `(tactic| walk_at "gv") => `(tactic| repeat first | walk_at "st" | walk_at "ew")
local macro_rules | `(tactic| walk_at "it") => `(tactic| try dsimp only [iRng1, iRng2, iList, iTup, iZip, iEnum])

namespace UbK
open UbP
def topS (i : Nat) : Stmt := PySem.Challenge.pw_unbent_k10_certificates_are_judged.main.body.getD i (.Pass ⟨0, 0, 0, 0⟩)
def topM (i j : Nat) : Stmt := match topS i with
  | .ClassDef _ _ _ body _ _ _ _ _ _ _ => body.getD j (.Pass ⟨0, 0, 0, 0⟩)
  | _ => .Pass ⟨0, 0, 0, 0⟩
def tf0 : List He.Defn := [("keeps_signs", none)]
def tbs (K : PySem.W.Frag) : List Addr := tf0.map fun p => (He.cT K p).2
abbrev s__law_lowest : Stmt := topS 41
abbrev N__law_lowest : List Str := ["p", "q", "first", "second", "k"]
theorem sc__law_lowest : FnScope N__law_lowest ["p", "q"] (defScope s__law_lowest) := ⟨rfl, rfl, rfl, by decide +kernel, rfl, by decide +kernel, by decide +kernel⟩
abbrev s__law_plus : Stmt := topS 42
abbrev N__law_plus : List Str := ["a", "b"]
theorem sc__law_plus : FnScope N__law_plus ["a", "b"] (defScope s__law_plus) := ⟨rfl, rfl, rfl, by decide +kernel, rfl, by decide +kernel, by decide +kernel⟩
abbrev s__law_times : Stmt := topS 43
abbrev N__law_times : List Str := ["a", "b"]
theorem sc__law_times : FnScope N__law_times ["a", "b"] (defScope s__law_times) := ⟨rfl, rfl, rfl, by decide +kernel, rfl, by decide +kernel, by decide +kernel⟩
abbrev s__law_dot : Stmt := topS 45
abbrev N__law_dot : List Str := ["first", "second", "found", "k"]
theorem sc__law_dot : FnScope N__law_dot ["first", "second"] (defScope s__law_dot) := ⟨rfl, rfl, rfl, by decide +kernel, rfl, by decide +kernel, by decide +kernel⟩
abbrev s__law_less : Stmt := topS 44
abbrev N__law_less : List Str := ["a", "b"]
theorem sc__law_less : FnScope N__law_less ["a", "b"] (defScope s__law_less) := ⟨rfl, rfl, rfl, by decide +kernel, rfl, by decide +kernel, by decide +kernel⟩
abbrev s__law_covers : Stmt := topS 51
abbrev N__law_covers : List Str := ["program", "factors", "goal", "count", "free", "own", "rows", "k", "column", "value", "one"]
theorem sc__law_covers : FnScope N__law_covers ["program", "factors", "goal"] (defScope s__law_covers) := ⟨rfl, rfl, rfl, by decide +kernel, rfl, by decide +kernel, by decide +kernel⟩
abbrev s__law_row_holds : Stmt := topS 49
abbrev N__law_row_holds : List Str := ["numbers", "word", "bound", "point", "value"]
theorem sc__law_row_holds : FnScope N__law_row_holds ["numbers", "word", "bound", "point"] (defScope s__law_row_holds) := ⟨rfl, rfl, rfl, by decide +kernel, rfl, by decide +kernel, by decide +kernel⟩
abbrev s__law_fits : Stmt := topS 50
abbrev N__law_fits : List Str := ["program", "point", "count", "free", "goal", "rows", "k", "numbers", "word", "bound"]
theorem sc__law_fits : FnScope N__law_fits ["program", "point"] (defScope s__law_fits) := ⟨rfl, rfl, rfl, by decide +kernel, rfl, by decide +kernel, by decide +kernel⟩
abbrev s__law_goes : Stmt := topS 52
abbrev N__law_goes : List Str := ["program", "ray", "count", "free", "goal", "rows", "numbers", "word", "bound"]
theorem sc__law_goes : FnScope N__law_goes ["program", "ray"] (defScope s__law_goes) := ⟨rfl, rfl, rfl, by decide +kernel, rfl, by decide +kernel, by decide +kernel⟩
abbrev s__law_accepted : Stmt := topS 53
abbrev N__law_accepted : List Str := ["program", "certificate", "kind", "point", "factors", "ray", "bounds", "right", "one"]
theorem sc__law_accepted : FnScope N__law_accepted ["program", "certificate"] (defScope s__law_accepted) := ⟨rfl, rfl, rfl, by decide +kernel, rfl, by decide +kernel, by decide +kernel⟩
abbrev s__law_take : Stmt := topS 39
abbrev N__law_take : List Str := ["row", "bound"]
theorem sc__law_take : FnScope N__law_take ["row", "bound"] (defScope s__law_take) := ⟨rfl, rfl, rfl, by decide +kernel, rfl, by decide +kernel, by decide +kernel⟩
abbrev s__law_around : Stmt := topS 54
abbrev N__law_around : List Str := ["row", "program", "count", "free", "goal", "rows", "point", "factors", "fitting", "numbers", "word", "bound", "value", "factor", "costs", "column", "k", "one"]
theorem sc__law_around : FnScope N__law_around ["row", "program"] (defScope s__law_around) := ⟨rfl, rfl, rfl, by decide +kernel, rfl, by decide +kernel, by decide +kernel⟩
abbrev s__law_changed : Stmt := topS 55
abbrev N__law_changed : List Str := ["row", "values", "choice", "k"]
theorem sc__law_changed : FnScope N__law_changed ["row", "values"] (defScope s__law_changed) := ⟨rfl, rfl, rfl, by decide +kernel, rfl, by decide +kernel, by decide +kernel⟩
abbrev s__law_fraction : Stmt := topS 40
abbrev N__law_fraction : List Str := ["row", "choice"]
theorem sc__law_fraction : FnScope N__law_fraction ["row"] (defScope s__law_fraction) := ⟨rfl, rfl, rfl, by decide +kernel, rfl, by decide +kernel, by decide +kernel⟩
abbrev s__law_vector : Stmt := topS 46
abbrev N__law_vector : List Str := ["row", "count", "k"]
theorem sc__law_vector : FnScope N__law_vector ["row", "count"] (defScope s__law_vector) := ⟨rfl, rfl, rfl, by decide +kernel, rfl, by decide +kernel, by decide +kernel⟩
abbrev s__law_drawn : Stmt := topS 56
abbrev N__law_drawn : List Str := ["row", "program", "kind", "point", "factors", "ray", "one", "k"]
theorem sc__law_drawn : FnScope N__law_drawn ["row", "program"] (defScope s__law_drawn) := ⟨rfl, rfl, rfl, by decide +kernel, rfl, by decide +kernel, by decide +kernel⟩
abbrev s_InvalidProgram___init__ : Stmt := topM 4 0
abbrev N_InvalidProgram___init__ : List Str := ["self", "reason", "__class__"]
theorem sc_InvalidProgram___init__ : NdefX.NScope N_InvalidProgram___init__ ["self", "reason"] ["__class__"] (defScope s_InvalidProgram___init__) := NdefX.nscope_by (by decide +kernel)
abbrev s__check_form : Stmt := topS 19
abbrev N__check_form : List Str := ["variables", "free", "goal", "rows", "numbers", "relation", "_"]
theorem sc__check_form : FnScope N__check_form ["variables", "free", "goal", "rows"] (defScope s__check_form) := ⟨rfl, rfl, rfl, by decide +kernel, rfl, by decide +kernel, by decide +kernel⟩
abbrev s_TooLarge___init__ : Stmt := topM 3 0
abbrev N_TooLarge___init__ : List Str := ["self", "limit", "__class__"]
theorem sc_TooLarge___init__ : NdefX.NScope N_TooLarge___init__ ["self", "limit"] ["__class__"] (defScope s_TooLarge___init__) := NdefX.nscope_by (by decide +kernel)
abbrev s__check_size : Stmt := topS 18
abbrev N__check_size : List Str := ["variables", "rows"]
theorem sc__check_size : FnScope N__check_size ["variables", "rows"] (defScope s__check_size) := ⟨rfl, rfl, rfl, by decide +kernel, rfl, by decide +kernel, by decide +kernel⟩
abbrev s_Program___init__ : Stmt := topM 17 0
abbrev N_Program___init__ : List Str := ["self", "variables", "free", "goal", "rows", "numbers", "relation", "bound"]
theorem sc_Program___init__ : FnScope N_Program___init__ ["self", "variables", "free", "goal", "rows"] (defScope s_Program___init__) := ⟨rfl, rfl, rfl, by decide +kernel, rfl, by decide +kernel, by decide +kernel⟩
abbrev s__law_made : Stmt := topS 48
abbrev N__law_made : List Str := ["program", "count", "free", "goal", "rows", "one", "word", "two"]
theorem sc__law_made : FnScope N__law_made ["program"] (defScope s__law_made) := ⟨rfl, rfl, rfl, by decide +kernel, rfl, by decide +kernel, by decide +kernel⟩
abbrev s__law_mix : Stmt := topS 37
abbrev N__law_mix : List Str := ["number", "k"]
theorem sc__law_mix : FnScope N__law_mix ["number", "k"] (defScope s__law_mix) := ⟨rfl, rfl, rfl, by decide +kernel, rfl, by decide +kernel, by decide +kernel⟩
abbrev s__law_numbers : Stmt := topS 38
abbrev N__law_numbers : List Str := ["script", "count", "row", "base", "cell", "rest", "k"]
theorem sc__law_numbers : FnScope N__law_numbers ["script", "count"] (defScope s__law_numbers) := ⟨rfl, rfl, rfl, by decide +kernel, rfl, by decide +kernel, by decide +kernel⟩
abbrev s__law_program : Stmt := topS 47
abbrev N__law_program : List Str := ["row", "most", "count", "k", "free", "goal", "rows", "word"]
theorem sc__law_program : FnScope N__law_program ["row", "most"] (defScope s__law_program) := ⟨rfl, rfl, rfl, by decide +kernel, rfl, by decide +kernel, by decide +kernel⟩
abbrev s_sign : Stmt := topS 10
abbrev N_sign : List Str := ["a"]
theorem sc_sign : FnScope N_sign ["a"] (defScope s_sign) := ⟨rfl, rfl, rfl, by decide +kernel, rfl, by decide +kernel, by decide +kernel⟩
abbrev s__has_correct_signs : Stmt := topS 27
abbrev N__has_correct_signs : List Str := ["rows", "factors", "_", "relation", "factor"]
theorem sc__has_correct_signs : FnScope N__has_correct_signs ["rows", "factors"] (defScope s__has_correct_signs) := ⟨rfl, rfl, rfl, by decide +kernel, rfl, by decide +kernel, by decide +kernel⟩
abbrev s_make : Stmt := topS 7
abbrev N_make : List Str := ["p", "q", "common"]
theorem sc_make : FnScope N_make ["p", "q"] (defScope s_make) := ⟨rfl, rfl, rfl, by decide +kernel, rfl, by decide +kernel, by decide +kernel⟩
abbrev s_add : Stmt := topS 8
abbrev N_add : List Str := ["a", "b"]
theorem sc_add : FnScope N_add ["a", "b"] (defScope s_add) := ⟨rfl, rfl, rfl, by decide +kernel, rfl, by decide +kernel, by decide +kernel⟩
abbrev s_multiply : Stmt := topS 9
abbrev N_multiply : List Str := ["a", "b"]
theorem sc_multiply : FnScope N_multiply ["a", "b"] (defScope s_multiply) := ⟨rfl, rfl, rfl, by decide +kernel, rfl, by decide +kernel, by decide +kernel⟩
abbrev s__add_product : Stmt := topS 29
abbrev N__add_product : List Str := ["item", "factor", "number"]
theorem sc__add_product : FnScope N__add_product ["item", "factor", "number"] (defScope s__add_product) := ⟨rfl, rfl, rfl, by decide +kernel, rfl, by decide +kernel, by decide +kernel⟩
abbrev s__sums : Stmt := topS 28
abbrev N__sums : List Str := ["variables", "rows", "factors", "found", "numbers", "_", "factor", "item", "number"]
theorem sc__sums : FnScope N__sums ["variables", "rows", "factors"] (defScope s__sums) := ⟨rfl, rfl, rfl, by decide +kernel, rfl, by decide +kernel, by decide +kernel⟩
abbrev s_compare : Stmt := topS 11
abbrev N_compare : List Str := ["a", "b"]
theorem sc_compare : FnScope N_compare ["a", "b"] (defScope s_compare) := ⟨rfl, rfl, rfl, by decide +kernel, rfl, by decide +kernel, by decide +kernel⟩
abbrev s__covers : Stmt := topS 30
abbrev N__covers : List Str := ["program", "rows", "factors", "goal", "sums", "free", "item", "number", "order"]
theorem sc__covers : FnScope N__covers ["program", "rows", "factors", "goal"] (defScope s__covers) := ⟨rfl, rfl, rfl, by decide +kernel, rfl, by decide +kernel, by decide +kernel⟩
abbrev s_dot : Stmt := topS 12
abbrev N_dot : List Str := ["first", "second", "found", "a", "b"]
theorem sc_dot : FnScope N_dot ["first", "second"] (defScope s_dot) := ⟨rfl, rfl, rfl, by decide +kernel, rfl, by decide +kernel, by decide +kernel⟩
abbrev s_bound_of_rows : Stmt := topS 25
abbrev N_bound_of_rows : List Str := ["rows", "factors", "row"]
theorem sc_bound_of_rows : FnScope N_bound_of_rows ["rows", "factors"] (defScope s_bound_of_rows) := ⟨rfl, rfl, rfl, by decide +kernel, rfl, by decide +kernel, by decide +kernel⟩
abbrev s_agrees : Stmt := topS 20
abbrev N_agrees : List Str := ["relation", "order"]
theorem sc_agrees : FnScope N_agrees ["relation", "order"] (defScope s_agrees) := ⟨rfl, rfl, rfl, by decide +kernel, rfl, by decide +kernel, by decide +kernel⟩
abbrev s_keeps_signs : Stmt := topS 21
abbrev N_keeps_signs : List Str := ["program", "point", "free", "item"]
theorem sc_keeps_signs : FnScope N_keeps_signs ["program", "point"] (defScope s_keeps_signs) := ⟨rfl, rfl, rfl, by decide +kernel, rfl, by decide +kernel, by decide +kernel⟩
abbrev s_fits_rows : Stmt := topS 22
abbrev N_fits_rows : List Str := ["program", "rows", "point", "numbers", "relation", "bound"]
theorem sc_fits_rows : FnScope N_fits_rows ["program", "rows", "point"] (defScope s_fits_rows) := ⟨rfl, rfl, rfl, by decide +kernel, rfl, by decide +kernel, by decide +kernel⟩
abbrev s_value_of : Stmt := topS 23
abbrev N_value_of : List Str := ["program", "point"]
theorem sc_value_of : FnScope N_value_of ["program", "point"] (defScope s_value_of) := ⟨rfl, rfl, rfl, by decide +kernel, rfl, by decide +kernel, by decide +kernel⟩
abbrev s__accepts_best : Stmt := topS 31
abbrev N__accepts_best : List Str := ["program", "rows", "x", "y"]
theorem sc__accepts_best : FnScope N__accepts_best ["program", "rows", "x", "y"] (defScope s__accepts_best) := ⟨rfl, rfl, rfl, by decide +kernel, rfl, by decide +kernel, by decide +kernel⟩
abbrev s__accepts_endless : Stmt := topS 33
abbrev N__accepts_endless : List Str := ["program", "rows", "x", "ray", "numbers", "relation", "_"]
theorem sc__accepts_endless : FnScope N__accepts_endless ["program", "rows", "x", "ray"] (defScope s__accepts_endless) := ⟨rfl, rfl, rfl, by decide +kernel, rfl, by decide +kernel, by decide +kernel⟩
abbrev s__accepts_none : Stmt := topS 32
abbrev N__accepts_none : List Str := ["program", "rows", "y", "zeros"]
theorem sc__accepts_none : FnScope N__accepts_none ["program", "rows", "y"] (defScope s__accepts_none) := ⟨rfl, rfl, rfl, by decide +kernel, rfl, by decide +kernel, by decide +kernel⟩
abbrev s_accepts_rows : Stmt := topS 34
abbrev N_accepts_rows : List Str := ["program", "rows", "certificate", "kind", "x", "y", "ray"]
theorem sc_accepts_rows : FnScope N_accepts_rows ["program", "rows", "certificate"] (defScope s_accepts_rows) := ⟨rfl, rfl, rfl, by decide +kernel, rfl, by decide +kernel, by decide +kernel⟩
abbrev s_accepts_certificate : Stmt := topS 35
abbrev N_accepts_certificate : List Str := ["program", "certificate"]
theorem sc_accepts_certificate : FnScope N_accepts_certificate ["program", "certificate"] (defScope s_accepts_certificate) := ⟨rfl, rfl, rfl, by decide +kernel, rfl, by decide +kernel, by decide +kernel⟩
abbrev s_bound_of : Stmt := topS 26
abbrev N_bound_of : List Str := ["program", "factors"]
theorem sc_bound_of : FnScope N_bound_of ["program", "factors"] (defScope s_bound_of) := ⟨rfl, rfl, rfl, by decide +kernel, rfl, by decide +kernel, by decide +kernel⟩
abbrev s_law : Stmt := topS 57
abbrev N_law : List Str := ["script", "row", "program", "certificate", "certificates", "k", "kind", "point", "factors", "ray", "turn", "made", "one", "given", "actual", "two"]
theorem sc_law : FnScope N_law ["script"] (defScope s_law) := ⟨rfl, rfl, rfl, by decide +kernel, rfl, by decide +kernel, by decide +kernel⟩
structure Tx (K : PySem.W.Frag) (mg : Str → Option Value) : Prop where
  n_abs : mg "abs" = none
  n_all : mg "all" = none
  n_bool : mg "bool" = none
  n_int : mg "int" = none
  n_isinstance : mg "isinstance" = none
  n_len : mg "len" = none
  n_list : mg "list" = none
  n_min : mg "min" = none
  n_range : mg "range" = none
  n_super : mg "super" = none
  n_zip : mg "zip" = none
  g_gcd : mg "gcd" = some (.builtin "math.gcd")
  c__MOST_VARIABLES : ∃ t, mg "_MOST_VARIABLES" = some (.int 160 t)
  c__MOST_ROWS : ∃ t, mg "_MOST_ROWS" = some (.int 400 t)
  c__SIGNS : mg "_SIGNS" = some (.ref (He.ga K "_SIGNS")) ∧ ∀ H, SqT K H (He.ga K "_SIGNS") [V.str "at least", V.str "at most", V.str "exactly"]
  e_ZeroDenominator : ExcK K mg "ZeroDenominator"
  gc_InvalidProgram : mg "InvalidProgram" = some (.ref (He.ga K "InvalidProgram"))
  gc_Program : mg "Program" = some (.ref (He.ga K "Program"))
  gc_TooLarge : mg "TooLarge" = some (.ref (He.ga K "TooLarge"))
  x_InvalidProgram : UbC.OexI K (He.ga K "InvalidProgram")
  x_TooLarge : UbC.OexI K (He.ga K "TooLarge")
  cl_Program : Cls K (He.ga K "Program")
  na_InvalidProgram_reason : PySem.W.findIn K (.ref (He.ga K "InvalidProgram")) "reason" = some none
  na_Program_free : PySem.W.findIn K (.ref (He.ga K "Program")) "free" = some none
  na_Program_goal : PySem.W.findIn K (.ref (He.ga K "Program")) "goal" = some none
  na_Program_rows : PySem.W.findIn K (.ref (He.ga K "Program")) "rows" = some none
  na_Program_variables : PySem.W.findIn K (.ref (He.ga K "Program")) "variables" = some none
  na_TooLarge_limit : PySem.W.findIn K (.ref (He.ga K "TooLarge")) "limit" = some none
section
variable {P : Program} {w : World} {K : PySem.W.Frag} {mg : Str → Option Value} {base : Heap}
theorem ok__law_lowest {f : Addr} {fd : FuncData} (T : Tx K mg) (F : FunD K "_law_lowest" "_law_lowest" (defArgs s__law_lowest) (defBody s__law_lowest) (defScope s__law_lowest) [] [] f fd) : FnOk P w K mg base (L2.CX P w) 1 f fd ["p", "q"] (spF K (tbs K) p__law_lowest 2) := F.ok sc__law_lowest (fun vs H Q E h => h.1) (fun cdv A outer s H vs Q E hr h => def_body (z := ⟨K, tbs K, none, fun cls d _ H => E cls d H⟩) (fb := b__law_lowest) (pu_scons (pu_spar (i := 2) (j := 3) (by rfl) sc__law_lowest.nd rfl rfl (by decide) rfl rfl (pu_B1 us_abs cl_abs (by rfl) T.n_abs bb_abs (pe_pv 0)) (pe_pv 1) (by rfl))
 (pu_scons (pu_sfor (tgt := (.nm 4)) PassesOwn.leaving rfl (pu_iR1 (by rfl) T.n_range pu_int) (pg_name (i := 4) sc__law_lowest.nd rfl (Or.inl rfl)) (pu_scons (pu_sif (pu_tcmp os_eq (op_eqA hr.units) (pe_pv 3) pu_int (nomark _)) (pu_sone pu_sbreak) pu_snil)
 (pu_sone (pu_spar (i := 2) (j := 3) (by rfl) sc__law_lowest.nd rfl rfl (by decide) rfl rfl (pe_pv 3) (pu_op os_mod op_modN (pu_Y1 us_int cl_int (by rfl) T.n_int bb_int (pe_pv 2)) (pe_pv 3)) (by rfl)))))
 (pu_scons (pu_sif (pu_tcmp os_eq (op_eqA hr.units) (pe_pv 2) pu_int (nomark _)) (pu_sone (pu_sret (pu_tup (pu_cons pu_int (pu_cons pu_int pu_nil))))) pu_snil)
 (pu_sone (pu_sret (pu_tup (pu_cons (pu_op os_fdiv op_fdivX (pe_pv 0) (pe_pv 2)) (pu_cons (pu_op os_fdiv op_fdivX (pe_pv 1) (pe_pv 2)) pu_nil)))))))) rfl rfl h rfl)
theorem ok__law_plus {f : Addr} {fd : FuncData} (T : Tx K mg) (F : FunD K "_law_plus" "_law_plus" (defArgs s__law_plus) (defBody s__law_plus) (defScope s__law_plus) [] [] f fd) (C__law_lowest : Cal P w K mg base "_law_lowest" 1 ["p", "q"] [] (spF K (tbs K) p__law_lowest 2)) : FnOk P w K mg base (L2.CX P w) 2 f fd ["a", "b"] (spF K (tbs K) p__law_plus 2) := F.ok sc__law_plus (fun vs H Q E h => h.1) (fun cdv A outer s H vs Q E hr h => def_body (z := ⟨K, tbs K, none, fun cls d _ H => E cls d H⟩) (fb := b__law_plus) (pu_sone (pu_sret (pu_call (z := _) (ms := [false, false]) rfl C__law_lowest (fun _ _ => .nil) rfl rfl hr (by decide) (by rfl) (takes_of rfl rfl rfl rfl) (pu_cons (pu_op os_add op_addA (pu_op os_mul op_mulA (pu_ix os_ix ix_seq (pe_pv 0) pu_int (fun _ _ => rfl)) (pu_ix os_ix ix_seq (pe_pv 1) pu_int (fun _ _ => rfl))) (pu_op os_mul op_mulA (pu_ix os_ix ix_seq (pe_pv 1) pu_int (fun _ _ => rfl)) (pu_ix os_ix ix_seq (pe_pv 0) pu_int (fun _ _ => rfl)))) (pu_cons (pu_op os_mul op_mulA (pu_ix os_ix ix_seq (pe_pv 0) pu_int (fun _ _ => rfl)) (pu_ix os_ix ix_seq (pe_pv 1) pu_int (fun _ _ => rfl))) pu_nil))))) rfl rfl h rfl)
theorem ok__law_times {f : Addr} {fd : FuncData} (T : Tx K mg) (F : FunD K "_law_times" "_law_times" (defArgs s__law_times) (defBody s__law_times) (defScope s__law_times) [] [] f fd) (C__law_lowest : Cal P w K mg base "_law_lowest" 1 ["p", "q"] [] (spF K (tbs K) p__law_lowest 2)) : FnOk P w K mg base (L2.CX P w) 2 f fd ["a", "b"] (spF K (tbs K) p__law_times 2) := F.ok sc__law_times (fun vs H Q E h => h.1) (fun cdv A outer s H vs Q E hr h => def_body (z := ⟨K, tbs K, none, fun cls d _ H => E cls d H⟩) (fb := b__law_times) (pu_sone (pu_sret (pu_call (z := _) (ms := [false, false]) rfl C__law_lowest (fun _ _ => .nil) rfl rfl hr (by decide) (by rfl) (takes_of rfl rfl rfl rfl) (pu_cons (pu_op os_mul op_mulA (pu_ix os_ix ix_seq (pe_pv 0) pu_int (fun _ _ => rfl)) (pu_ix os_ix ix_seq (pe_pv 1) pu_int (fun _ _ => rfl))) (pu_cons (pu_op os_mul op_mulA (pu_ix os_ix ix_seq (pe_pv 0) pu_int (fun _ _ => rfl)) (pu_ix os_ix ix_seq (pe_pv 1) pu_int (fun _ _ => rfl))) pu_nil))))) rfl rfl h rfl)
theorem ok__law_dot {f : Addr} {fd : FuncData} (T : Tx K mg) (F : FunD K "_law_dot" "_law_dot" (defArgs s__law_dot) (defBody s__law_dot) (defScope s__law_dot) [] [] f fd) (C__law_plus : Cal P w K mg base "_law_plus" 2 ["a", "b"] [] (spF K (tbs K) p__law_plus 2)) (C__law_times : Cal P w K mg base "_law_times" 2 ["a", "b"] [] (spF K (tbs K) p__law_times 2)) : FnOk P w K mg base (L2.CX P w) 3 f fd ["first", "second"] (spF K (tbs K) p__law_dot 2) := F.ok sc__law_dot (fun vs H Q E h => h.1) (fun cdv A outer s H vs Q E hr h => def_body (z := ⟨K, tbs K, none, fun cls d _ H => E cls d H⟩) (fb := b__law_dot) (pu_scons (pu_sset (i := 2) sc__law_dot.nd rfl (Or.inl rfl) (pu_tup (pu_cons pu_int (pu_cons pu_int pu_nil))))
 (pu_scons (pu_sfor (tgt := (.nm 3)) PassesOwn.leaving rfl (pu_iR1 (by rfl) T.n_range (pu_B2 os_min (cl_min2 rfl) (by rfl) T.n_min bb_min (pu_B1 us_len cl_lenA (by rfl) T.n_len bb_len (pe_pv 0)) (pu_B1 us_len cl_lenA (by rfl) T.n_len bb_len (pe_pv 1)))) (pg_name (i := 3) sc__law_dot.nd rfl (Or.inl rfl)) (pu_sone (pu_sif (pu_wand (pu_tcmp os_ne (op_neA hr.units) (pu_ix os_ix ix_seq (pu_ix os_ix ix_seq (pe_pv 0) (pe_pv 3) (fun _ _ => rfl)) pu_int (fun _ _ => rfl)) pu_int (nomark _)) (pu_wand1 (pu_tcmp os_ne (op_neA hr.units) (pu_ix os_ix ix_seq (pu_ix os_ix ix_seq (pe_pv 1) (pe_pv 3) (fun _ _ => rfl)) pu_int (fun _ _ => rfl)) pu_int (nomark _)))).pt (pu_sone (pu_sset (i := 2) sc__law_dot.nd rfl (Or.inl rfl) (pu_call (z := _) (ms := [false, false]) rfl C__law_plus (fun _ _ => .nil) rfl rfl hr (by decide) (by rfl) (takes_of rfl rfl rfl rfl) (pu_cons (pe_pv 2) (pu_cons (pu_call (z := _) (ms := [false, false]) rfl C__law_times (fun _ _ => .nil) rfl rfl hr (by decide) (by rfl) (takes_of rfl rfl rfl rfl) (pu_cons (pu_ix os_ix ix_seq (pe_pv 0) (pe_pv 3) (fun _ _ => rfl)) (pu_cons (pu_ix os_ix ix_seq (pe_pv 1) (pe_pv 3) (fun _ _ => rfl)) pu_nil))) pu_nil))))) pu_snil)))
 (pu_sone (pu_sret (pe_pv 2))))) rfl rfl h rfl)
theorem ok__law_less {f : Addr} {fd : FuncData} (T : Tx K mg) (F : FunD K "_law_less" "_law_less" (defArgs s__law_less) (defBody s__law_less) (defScope s__law_less) [] [] f fd) : FnOk P w K mg base (L2.CX P w) 1 f fd ["a", "b"] (spF K (tbs K) p__law_less 2) := F.ok sc__law_less (fun vs H Q E h => h.1) (fun cdv A outer s H vs Q E hr h => def_body (z := ⟨K, tbs K, none, fun cls d _ H => E cls d H⟩) (fb := b__law_less) (pu_sone (pu_sret (pu_cmp os_lt op_lt (pu_op os_mul op_mulA (pu_ix os_ix ix_seq (pe_pv 0) pu_int (fun _ _ => rfl)) (pu_ix os_ix ix_seq (pe_pv 1) pu_int (fun _ _ => rfl))) (pu_op os_mul op_mulA (pu_ix os_ix ix_seq (pe_pv 1) pu_int (fun _ _ => rfl)) (pu_ix os_ix ix_seq (pe_pv 0) pu_int (fun _ _ => rfl))) (nomark _)))) rfl rfl h rfl)
theorem ok__law_covers {f : Addr} {fd : FuncData} (T : Tx K mg) (F : FunD K "_law_covers" "_law_covers" (defArgs s__law_covers) (defBody s__law_covers) (defScope s__law_covers) [] [] f fd) (C__law_dot : Cal P w K mg base "_law_dot" 3 ["first", "second"] [] (spF K (tbs K) p__law_dot 2)) (C__law_less : Cal P w K mg base "_law_less" 1 ["a", "b"] [] (spF K (tbs K) p__law_less 2)) : FnOk P w K mg base (L2.CX P w) 4 f fd ["program", "factors", "goal"] (spF K (tbs K) p__law_covers 3) := F.ok sc__law_covers (fun vs H Q E h => h.1) (fun cdv A outer s H vs Q E hr h => def_body (z := ⟨K, tbs K, none, fun cls d _ H => E cls d H⟩) (fb := b__law_covers) (pu_scons (pu_sasg (tg := (.tp [(.nm 3), (.nm 4), (.nm 5), (.nm 6)])) (pe_pv 0) (pg_tup rfl (pgs_cons (pg_name (i := 3) sc__law_covers.nd rfl (Or.inl rfl)) (pgs_cons (pg_name (i := 4) sc__law_covers.nd rfl (Or.inl rfl)) (pgs_cons (pg_name (i := 5) sc__law_covers.nd rfl (Or.inl rfl)) (pgs_cons (pg_name (i := 6) sc__law_covers.nd rfl (Or.inl rfl)) pgs_nil))))))
 (pu_scons (pu_sif (pu_tcmp os_ne (op_neA hr.units) (pu_B1 us_len cl_lenA (by rfl) T.n_len bb_len (pe_pv 1)) (pu_B1 us_len cl_lenA (by rfl) T.n_len bb_len (pe_pv 6)) (nomark _)) (pu_sone (pu_sret pu_bl)) pu_snil)
 (pu_scons (pu_sfor (tgt := (.nm 7)) PassesOwn.leaving rfl (pu_iR1 (by rfl) T.n_range (pu_B1 us_len cl_lenA (by rfl) T.n_len bb_len (pe_pv 6))) (pg_name (i := 7) sc__law_covers.nd rfl (Or.inl rfl)) (pu_sone (pu_sif (pu_wor (pu_wand (pu_tcmp os_eq (op_eqA hr.units) (pu_ix os_ix ix_seq (pu_ix os_ix ix_seq (pe_pv 6) (pe_pv 7) (fun _ _ => rfl)) pu_int (fun _ _ => rfl)) pu_str (nomark _)) (pu_wand1 (pu_tcmp os_gt op_gt (pu_ix os_ix ix_seq (pu_ix os_ix ix_seq (pe_pv 1) (pe_pv 7) (fun _ _ => rfl)) pu_int (fun _ _ => rfl)) pu_int (nomark _)))).pt (pu_wor1 (pu_wand (pu_tcmp os_eq (op_eqA hr.units) (pu_ix os_ix ix_seq (pu_ix os_ix ix_seq (pe_pv 6) (pe_pv 7) (fun _ _ => rfl)) pu_int (fun _ _ => rfl)) pu_str (nomark _)) (pu_wand1 (pu_tcmp os_lt op_lt (pu_ix os_ix ix_seq (pu_ix os_ix ix_seq (pe_pv 1) (pe_pv 7) (fun _ _ => rfl)) pu_int (fun _ _ => rfl)) pu_int (nomark _)))).pt)).pt (pu_sone (pu_sret pu_bl)) pu_snil)))
 (pu_scons (pu_sfor (tgt := (.nm 8)) PassesOwn.leaving rfl (pu_iR1 (by rfl) T.n_range (pe_pv 3)) (pg_name (i := 8) sc__law_covers.nd rfl (Or.inr rfl)) (pu_scons (pu_sset (i := 9) sc__law_covers.nd rfl (Or.inl rfl) (pu_call (z := _) (ms := [false, false]) rfl C__law_dot (fun _ _ => .nil) rfl rfl hr (by decide) (by rfl) (takes_of rfl rfl rfl rfl) (pu_cons (pe_pv 1) (pu_cons (pu_lc (own := [("one", 10)]) (tgt := (.nm 10)) rfl sc__law_covers.nd  (pu_iE rfl (pe_pv 6)) (blkOk_by (N := N__law_covers) (sc := defScope s__law_covers) (by decide +kernel)) (fun _ _ _ _ _ => (pg_name (i := 10) sc__law_covers.nd rfl (by first | exact Or.inl rfl | exact Or.inr rfl))) (fun _ _ _ _ _ => pts_ret) (fun _ _ _ _ _ => (pu_ix os_ix ix_seq (pu_ix os_ix ix_seq (pe_pv 10) pu_int (fun _ _ => rfl)) (pe_pv 8) (fun _ _ => rfl))) (by decide)) pu_nil))))
 (pu_sone (pu_sif (pu_wor (pu_truth rfl (pu_call (z := _) (ms := [false, false]) rfl C__law_less (fun _ _ => .nil) rfl rfl hr (by decide) (by rfl) (takes_of rfl rfl rfl rfl) (pu_cons (pe_pv 9) (pu_cons (pu_ix os_ix ix_seq (pe_pv 2) (pe_pv 8) (fun _ _ => rfl)) pu_nil)))) (pu_wor1 (pu_wand (pu_truth rfl (pu_ix os_ix ix_seq (pe_pv 4) (pe_pv 8) (fun _ _ => rfl))) (pu_wand1 (pu_tcmp os_ne (op_neA hr.units) (pe_pv 9) (pu_ix os_ix ix_seq (pe_pv 2) (pe_pv 8) (fun _ _ => rfl)) (nomark _)))).pt)).pt (pu_sone (pu_sret pu_bl)) pu_snil))))
 (pu_sone (pu_sret pu_bl)))))) rfl rfl h rfl)
theorem ok__law_row_holds {f : Addr} {fd : FuncData} (T : Tx K mg) (F : FunD K "_law_row_holds" "_law_row_holds" (defArgs s__law_row_holds) (defBody s__law_row_holds) (defScope s__law_row_holds) [] [] f fd) (C__law_dot : Cal P w K mg base "_law_dot" 3 ["first", "second"] [] (spF K (tbs K) p__law_dot 2)) (C__law_less : Cal P w K mg base "_law_less" 1 ["a", "b"] [] (spF K (tbs K) p__law_less 2)) : FnOk P w K mg base (L2.CX P w) 4 f fd ["numbers", "word", "bound", "point"] (spF K (tbs K) p__law_row_holds 4) := F.ok sc__law_row_holds (fun vs H Q E h => h.1) (fun cdv A outer s H vs Q E hr h => def_body (z := ⟨K, tbs K, none, fun cls d _ H => E cls d H⟩) (fb := b__law_row_holds) (pu_scons (pu_sset (i := 4) sc__law_row_holds.nd rfl (Or.inl rfl) (pu_call (z := _) (ms := [false, false]) rfl C__law_dot (fun _ _ => .nil) rfl rfl hr (by decide) (by rfl) (takes_of rfl rfl rfl rfl) (pu_cons (pe_pv 0) (pu_cons (pe_pv 3) pu_nil))))
 (pu_scons (pu_sif (pu_tcmp os_eq (op_eqA hr.units) (pe_pv 1) pu_str (nomark _)) (pu_sone (pu_sret (pu_not rfl (pu_call (z := _) (ms := [false, false]) rfl C__law_less (fun _ _ => .nil) rfl rfl hr (by decide) (by rfl) (takes_of rfl rfl rfl rfl) (pu_cons (pe_pv 4) (pu_cons (pe_pv 2) pu_nil)))))) pu_snil)
 (pu_scons (pu_sif (pu_tcmp os_eq (op_eqA hr.units) (pe_pv 1) pu_str (nomark _)) (pu_sone (pu_sret (pu_not rfl (pu_call (z := _) (ms := [false, false]) rfl C__law_less (fun _ _ => .nil) rfl rfl hr (by decide) (by rfl) (takes_of rfl rfl rfl rfl) (pu_cons (pe_pv 2) (pu_cons (pe_pv 4) pu_nil)))))) pu_snil)
 (pu_sone (pu_sret (pu_cmp os_eq (op_eqA hr.units) (pe_pv 4) (pe_pv 2) (nomark _))))))) rfl rfl h rfl)
theorem ok__law_fits {f : Addr} {fd : FuncData} (T : Tx K mg) (F : FunD K "_law_fits" "_law_fits" (defArgs s__law_fits) (defBody s__law_fits) (defScope s__law_fits) [] [] f fd) (C__law_row_holds : Cal P w K mg base "_law_row_holds" 4 ["numbers", "word", "bound", "point"] [] (spF K (tbs K) p__law_row_holds 4)) : FnOk P w K mg base (L2.CX P w) 5 f fd ["program", "point"] (spF K (tbs K) p__law_fits 2) := F.ok sc__law_fits (fun vs H Q E h => h.1) (fun cdv A outer s H vs Q E hr h => def_body (z := ⟨K, tbs K, none, fun cls d _ H => E cls d H⟩) (fb := b__law_fits) (pu_scons (pu_sasg (tg := (.tp [(.nm 2), (.nm 3), (.nm 4), (.nm 5)])) (pe_pv 0) (pg_tup rfl (pgs_cons (pg_name (i := 2) sc__law_fits.nd rfl (Or.inl rfl)) (pgs_cons (pg_name (i := 3) sc__law_fits.nd rfl (Or.inl rfl)) (pgs_cons (pg_name (i := 4) sc__law_fits.nd rfl (Or.inl rfl)) (pgs_cons (pg_name (i := 5) sc__law_fits.nd rfl (Or.inl rfl)) pgs_nil))))))
 (pu_scons (pu_sif (pu_tcmp os_ne (op_neA hr.units) (pu_B1 us_len cl_lenA (by rfl) T.n_len bb_len (pe_pv 1)) (pe_pv 2) (nomark _)) (pu_sone (pu_sret pu_bl)) pu_snil)
 (pu_scons (pu_sfor (tgt := (.nm 6)) PassesOwn.leaving rfl (pu_iR1 (by rfl) T.n_range (pe_pv 2)) (pg_name (i := 6) sc__law_fits.nd rfl (Or.inl rfl)) (pu_sone (pu_sif (pu_wand (pu_tnot (pu_truth rfl (pu_ix os_ix ix_seq (pe_pv 3) (pe_pv 6) (fun _ _ => rfl)))) (pu_wand1 (pu_tcmp os_lt op_lt (pu_ix os_ix ix_seq (pu_ix os_ix ix_seq (pe_pv 1) (pe_pv 6) (fun _ _ => rfl)) pu_int (fun _ _ => rfl)) pu_int (nomark _)))).pt (pu_sone (pu_sret pu_bl)) pu_snil)))
 (pu_sone (pu_sret (pu_B1 us_all (cr_all rfl) (by rfl) T.n_all bb_all (pu_lc (own := [("numbers", 7), ("word", 8), ("bound", 9)]) (tgt := (.tp [(.nm 7), (.nm 8), (.nm 9)])) rfl sc__law_fits.nd  (pu_iE rfl (pe_pv 5)) (blkOk_by (N := N__law_fits) (sc := defScope s__law_fits) (by decide +kernel)) (fun _ _ _ _ _ => (pg_tup rfl (pgs_cons (pg_name (i := 7) sc__law_fits.nd rfl (by first | exact Or.inl rfl | exact Or.inr rfl)) (pgs_cons (pg_name (i := 8) sc__law_fits.nd rfl (by first | exact Or.inl rfl | exact Or.inr rfl)) (pgs_cons (pg_name (i := 9) sc__law_fits.nd rfl (by first | exact Or.inl rfl | exact Or.inr rfl)) pgs_nil))))) (fun _ _ _ _ _ => pts_ret) (fun _ _ _ _ _ => (pu_call (z := _) (ms := [false, false, false, false]) rfl C__law_row_holds (fun _ _ => .nil) rfl rfl hr (by decide) (by rfl) takes0 (pu_cons (pe_pv 7) (pu_cons (pe_pv 8) (pu_cons (pe_pv 9) (pu_cons (pe_pv 1) pu_nil)))))) (by decide)))))))) rfl rfl h rfl)
theorem ok__law_goes {f : Addr} {fd : FuncData} (T : Tx K mg) (F : FunD K "_law_goes" "_law_goes" (defArgs s__law_goes) (defBody s__law_goes) (defScope s__law_goes) [] [] f fd) (C__law_dot : Cal P w K mg base "_law_dot" 3 ["first", "second"] [] (spF K (tbs K) p__law_dot 2)) (C__law_fits : Cal P w K mg base "_law_fits" 5 ["program", "point"] [] (spF K (tbs K) p__law_fits 2)) : FnOk P w K mg base (L2.CX P w) 6 f fd ["program", "ray"] (spF K (tbs K) p__law_goes 2) := F.ok sc__law_goes (fun vs H Q E h => h.1) (fun cdv A outer s H vs Q E hr h => def_body (z := ⟨K, tbs K, none, fun cls d _ H => E cls d H⟩) (fb := b__law_goes) (pu_scons (pu_sasg (tg := (.tp [(.nm 2), (.nm 3), (.nm 4), (.nm 5)])) (pe_pv 0) (pg_tup rfl (pgs_cons (pg_name (i := 2) sc__law_goes.nd rfl (Or.inl rfl)) (pgs_cons (pg_name (i := 3) sc__law_goes.nd rfl (Or.inl rfl)) (pgs_cons (pg_name (i := 4) sc__law_goes.nd rfl (Or.inl rfl)) (pgs_cons (pg_name (i := 5) sc__law_goes.nd rfl (Or.inl rfl)) pgs_nil))))))
 (pu_scons (pu_sif (pu_tnot (pu_truth rfl (pu_call (z := _) (ms := [false, false]) rfl C__law_fits (fun _ _ => .nil) rfl rfl hr (by decide) (by rfl) (takes_of rfl rfl rfl rfl) (pu_cons (pu_tup (pu_cons (pe_pv 2) (pu_cons (pe_pv 3) (pu_cons (pe_pv 4) (pu_cons (pu_lc (own := [("numbers", 6), ("word", 7), ("bound", 8)]) (tgt := (.tp [(.nm 6), (.nm 7), (.nm 8)])) rfl sc__law_goes.nd  (pu_iE rfl (pe_pv 5)) (blkOk_by (N := N__law_goes) (sc := defScope s__law_goes) (by decide +kernel)) (fun _ _ _ _ _ => (pg_tup rfl (pgs_cons (pg_name (i := 6) sc__law_goes.nd rfl (by first | exact Or.inl rfl | exact Or.inr rfl)) (pgs_cons (pg_name (i := 7) sc__law_goes.nd rfl (by first | exact Or.inl rfl | exact Or.inr rfl)) (pgs_cons (pg_name (i := 8) sc__law_goes.nd rfl (by first | exact Or.inl rfl | exact Or.inr rfl)) pgs_nil))))) (fun _ _ _ _ _ => pts_ret) (fun _ _ _ _ _ => (pu_tup (pu_cons (pe_pv 6) (pu_cons (pe_pv 7) (pu_cons (pu_tup (pu_cons pu_int (pu_cons pu_int pu_nil))) pu_nil))))) (by decide)) pu_nil))))) (pu_cons (pe_pv 1) pu_nil))))) (pu_sone (pu_sret pu_bl)) pu_snil)
 (pu_sone (pu_sret (pu_cmp os_gt op_gt (pu_ix os_ix ix_seq (pu_call (z := _) (ms := [false, false]) rfl C__law_dot (fun _ _ => .nil) rfl rfl hr (by decide) (by rfl) (takes_of rfl rfl rfl rfl) (pu_cons (pe_pv 4) (pu_cons (pe_pv 1) pu_nil))) pu_int (fun _ _ => rfl)) pu_int (nomark _)))))) rfl rfl h rfl)
theorem ok__law_accepted {f : Addr} {fd : FuncData} (T : Tx K mg) (F : FunD K "_law_accepted" "_law_accepted" (defArgs s__law_accepted) (defBody s__law_accepted) (defScope s__law_accepted) [] [] f fd) (C__law_covers : Cal P w K mg base "_law_covers" 4 ["program", "factors", "goal"] [] (spF K (tbs K) p__law_covers 3)) (C__law_dot : Cal P w K mg base "_law_dot" 3 ["first", "second"] [] (spF K (tbs K) p__law_dot 2)) (C__law_fits : Cal P w K mg base "_law_fits" 5 ["program", "point"] [] (spF K (tbs K) p__law_fits 2)) (C__law_goes : Cal P w K mg base "_law_goes" 6 ["program", "ray"] [] (spF K (tbs K) p__law_goes 2)) : FnOk P w K mg base (L2.CX P w) 7 f fd ["program", "certificate"] (spF K (tbs K) p__law_accepted 2) := F.ok sc__law_accepted (fun vs H Q E h => h.1) (fun cdv A outer s H vs Q E hr h => def_body (z := ⟨K, tbs K, none, fun cls d _ H => E cls d H⟩) (fb := b__law_accepted) (pu_scons (pu_sasg (tg := (.tp [(.nm 2), (.nm 3), (.nm 4), (.nm 5)])) (pe_pv 1) (pg_tup rfl (pgs_cons (pg_name (i := 2) sc__law_accepted.nd rfl (Or.inl rfl)) (pgs_cons (pg_name (i := 3) sc__law_accepted.nd rfl (Or.inl rfl)) (pgs_cons (pg_name (i := 4) sc__law_accepted.nd rfl (Or.inl rfl)) (pgs_cons (pg_name (i := 5) sc__law_accepted.nd rfl (Or.inl rfl)) pgs_nil))))))
 (pu_scons (pu_setLc (i := 6) (own := [("one", 8)]) (tgt := (.nm 8)) rfl sc__law_accepted.nd rfl rfl (sw_true rfl rfl rfl rfl) (pu_iE rfl (pu_ix os_ix ix_seq (pe_pv 0) pu_int (fun _ _ => rfl))) (blkOk_by (N := N__law_accepted) (sc := defScope s__law_accepted) (by decide +kernel)) (fun _ _ _ _ _ => (pg_name (i := 8) sc__law_accepted.nd rfl (by first | exact Or.inl rfl | exact Or.inr rfl))) (fun _ _ _ _ _ => pts_ret) (fun _ _ _ _ _ => (pu_ix os_ix ix_seq (pe_pv 8) pu_int (fun _ _ => rfl))) (by decide))
 (pu_scons (pu_sif (pu_tcmp os_eq (op_eqA hr.units) (pe_pv 2) pu_str (nomark _)) (pu_scons (pu_sset (i := 7) sc__law_accepted.nd rfl (Or.inl rfl) (pu_and rfl (pu_call (z := _) (ms := [false, false]) rfl C__law_fits (fun _ _ => .nil) rfl rfl hr (by decide) (by rfl) (takes_of rfl rfl rfl rfl) (pu_cons (pe_pv 0) (pu_cons (pe_pv 3) pu_nil))) (pu_one (pu_call (z := _) (ms := [false, false, false]) rfl C__law_covers (fun _ _ => .nil) rfl rfl hr (by decide) (by rfl) (takes_of rfl rfl rfl rfl) (pu_cons (pe_pv 0) (pu_cons (pe_pv 4) (pu_cons (pu_ix os_ix ix_seq (pe_pv 0) pu_int (fun _ _ => rfl)) pu_nil)))))))
 (pu_sone (pu_sret (pu_and rfl (pe_pv 7) (pu_one (pu_cmp os_eq (op_eqA hr.units) (pu_call (z := _) (ms := [false, false]) rfl C__law_dot (fun _ _ => .nil) rfl rfl hr (by decide) (by rfl) (takes_of rfl rfl rfl rfl) (pu_cons (pe_pv 4) (pu_cons (pe_pv 6) pu_nil))) (pu_call (z := _) (ms := [false, false]) rfl C__law_dot (fun _ _ => .nil) rfl rfl hr (by decide) (by rfl) (takes_of rfl rfl rfl rfl) (pu_cons (pu_ix os_ix ix_seq (pe_pv 0) pu_int (fun _ _ => rfl)) (pu_cons (pe_pv 3) pu_nil))) (nomark _))))))) pu_snil)
 (pu_scons (pu_sif (pu_tcmp os_eq (op_eqA hr.units) (pe_pv 2) pu_str (nomark _)) (pu_sone (pu_sret (pu_and rfl (pu_call (z := _) (ms := [false, false, false]) rfl C__law_covers (fun _ _ => .nil) rfl rfl hr (by decide) (by rfl) (takes_of rfl rfl rfl rfl) (pu_cons (pe_pv 0) (pu_cons (pe_pv 4) (pu_cons (pu_op os_mul op_mulA (pu_lst (pu_cons (pu_tup (pu_cons pu_int (pu_cons pu_int pu_nil))) pu_nil)) (pu_ix os_ix ix_seq (pe_pv 0) pu_int (fun _ _ => rfl))) pu_nil)))) (pu_one (pu_cmp os_lt op_lt (pu_ix os_ix ix_seq (pu_call (z := _) (ms := [false, false]) rfl C__law_dot (fun _ _ => .nil) rfl rfl hr (by decide) (by rfl) (takes_of rfl rfl rfl rfl) (pu_cons (pe_pv 4) (pu_cons (pe_pv 6) pu_nil))) pu_int (fun _ _ => rfl)) pu_int (nomark _)))))) pu_snil)
 (pu_sone (pu_sret (pu_and rfl (pu_cmp os_eq (op_eqA hr.units) (pe_pv 2) pu_str (nomark _)) (pu_and rfl (pu_call (z := _) (ms := [false, false]) rfl C__law_fits (fun _ _ => .nil) rfl rfl hr (by decide) (by rfl) (takes_of rfl rfl rfl rfl) (pu_cons (pe_pv 0) (pu_cons (pe_pv 3) pu_nil))) (pu_one (pu_call (z := _) (ms := [false, false]) rfl C__law_goes (fun _ _ => .nil) rfl rfl hr (by decide) (by rfl) (takes_of rfl rfl rfl rfl) (pu_cons (pe_pv 0) (pu_cons (pe_pv 5) pu_nil)))))))))))) rfl rfl h rfl)
theorem ok__law_take {f : Addr} {fd : FuncData} (T : Tx K mg) (F : FunD K "_law_take" "_law_take" (defArgs s__law_take) (defBody s__law_take) (defScope s__law_take) [] [] f fd) : FnOk P w K mg base (L2.CX P w) 1 f fd ["row", "bound"] (spF K (tbs K) p__law_take 2) := F.ok sc__law_take (fun vs H Q E h => h.1) (fun cdv A outer s H vs Q E hr h => def_body (z := ⟨K, tbs K, none, fun cls d _ H => E cls d H⟩) (fb := b__law_take) (pu_scons (pu_sif (pu_tnot (pu_truth rfl (pe_pv 0))) (pu_sone (pu_sret pu_int)) pu_snil)
 (pu_sone (pu_sret (pu_op os_mod op_modN (pu_Y1 us_int cl_int (by rfl) T.n_int bb_int (pu_pop (pe_pv 0))) (pe_pv 1))))) rfl rfl h rfl)
theorem ok__law_around {f : Addr} {fd : FuncData} (T : Tx K mg) (F : FunD K "_law_around" "_law_around" (defArgs s__law_around) (defBody s__law_around) (defScope s__law_around) [] [] f fd) (C__law_dot : Cal P w K mg base "_law_dot" 3 ["first", "second"] [] (spF K (tbs K) p__law_dot 2)) (C__law_lowest : Cal P w K mg base "_law_lowest" 1 ["p", "q"] [] (spF K (tbs K) p__law_lowest 2)) (C__law_plus : Cal P w K mg base "_law_plus" 2 ["a", "b"] [] (spF K (tbs K) p__law_plus 2)) (C__law_take : Cal P w K mg base "_law_take" 1 ["row", "bound"] [] (spF K (tbs K) p__law_take 2)) : FnOk P w K mg base (L2.CX P w) 4 f fd ["row", "program"] (spF K (tbs K) p__law_around 2) := F.ok sc__law_around (fun vs H Q E h => h.1) (fun cdv A outer s H vs Q E hr h => def_body (z := ⟨K, tbs K, none, fun cls d _ H => E cls d H⟩) (fb := b__law_around) (pu_scons (pu_sasg (tg := (.tp [(.nm 2), (.nm 3), (.nm 4), (.nm 5)])) (pe_pv 1) (pg_tup rfl (pgs_cons (pg_name (i := 2) sc__law_around.nd rfl (Or.inl rfl)) (pgs_cons (pg_name (i := 3) sc__law_around.nd rfl (Or.inl rfl)) (pgs_cons (pg_name (i := 4) sc__law_around.nd rfl (Or.inl rfl)) (pgs_cons (pg_name (i := 5) sc__law_around.nd rfl (Or.inl rfl)) pgs_nil))))))
 (pu_scons (pu_setLc (i := 6) (own := [("k", 16)]) (tgt := (.nm 16)) rfl sc__law_around.nd rfl rfl (sw_true rfl rfl rfl rfl) (pu_iR1 (by rfl) T.n_range (pe_pv 2)) (blkOk_by (N := N__law_around) (sc := defScope s__law_around) (by decide +kernel)) (fun _ _ _ _ _ => (pg_name (i := 16) sc__law_around.nd rfl (by first | exact Or.inl rfl | exact Or.inr rfl))) (fun _ _ _ _ _ => pts_ret) (fun _ _ _ _ _ => (pu_call (z := _) (ms := [false, false]) rfl C__law_lowest (fun _ _ => .nil) rfl rfl hr (by decide) (by rfl) takes0 (pu_cons (pu_call (z := _) (ms := [true, false]) rfl C__law_take (fun _ _ => .nil) rfl rfl hr (by decide) (by rfl) takes0 (pu_cons (pe_pv 0) (pu_cons pu_int pu_nil))) (pu_cons (pu_op os_add op_addA pu_int (pu_call (z := _) (ms := [true, false]) rfl C__law_take (fun _ _ => .nil) rfl rfl hr (by decide) (by rfl) takes0 (pu_cons (pe_pv 0) (pu_cons pu_int pu_nil)))) pu_nil)))) (by decide))
 (pu_scons (pu_sown (i := 7) sc__law_around.nd rfl (Or.inl rfl) (pu_lst pu_nil))
 (pu_scons (pu_sown (i := 8) sc__law_around.nd rfl (Or.inl rfl) (pu_lst pu_nil))
 (pu_scons (pu_sfor (tgt := (.tp [(.nm 9), (.nm 10), (.nm 11)])) PassesOwn.leaving rfl (pu_iE rfl (pe_pv 5)) (pg_tup rfl (pgs_cons (pg_name (i := 9) sc__law_around.nd rfl (Or.inl rfl)) (pgs_cons (pg_name (i := 10) sc__law_around.nd rfl (Or.inl rfl)) (pgs_cons (pg_name (i := 11) sc__law_around.nd rfl (Or.inl rfl)) pgs_nil)))) (pu_scons (pu_sset (i := 12) sc__law_around.nd rfl (Or.inl rfl) (pu_call (z := _) (ms := [false, false]) rfl C__law_dot (fun _ _ => .nil) rfl rfl hr (by decide) (by rfl) (takes_of rfl rfl rfl rfl) (pu_cons (pe_pv 9) (pu_cons (pe_pv 6) pu_nil))))
 (pu_scons (pu_sset (i := 13) sc__law_around.nd rfl (Or.inl rfl) (pu_tup (pu_cons (pu_call (z := _) (ms := [true, false]) rfl C__law_take (fun _ _ => .nil) rfl rfl hr (by decide) (by rfl) (takes_of rfl rfl rfl rfl) (pu_cons (pe_pv 0) (pu_cons pu_int pu_nil))) (pu_cons pu_int pu_nil))))
 (pu_scons (pu_sif (pu_tcmp os_eq (op_eqA hr.units) (pe_pv 10) pu_str (nomark _)) (pu_sone (pu_sset (i := 13) sc__law_around.nd rfl (Or.inl rfl) (pu_tup (pu_cons (pu_neg (pu_ix os_ix ix_seq (pe_pv 13) pu_int (fun _ _ => rfl))) (pu_cons pu_int pu_nil))))) pu_snil)
 (pu_scons (pu_sex (pu_app (pe_pv 7) (pe_pv 13)))
 (pu_sone (pu_sex (pu_app (pe_pv 8) (pu_tup (pu_cons (pe_pv 9) (pu_cons (pe_pv 10) (pu_cons (pe_pv 12) pu_nil))))))))))))
 (pu_frz (pu_frz (pu_scons (pu_sown (i := 14) sc__law_around.nd rfl (Or.inl rfl) (pu_lst pu_nil))
 (pu_scons (pu_sfor (tgt := (.nm 15)) PassesOwn.leaving rfl (pu_iR1 (by rfl) T.n_range (pe_pv 2)) (pg_name (i := 15) sc__law_around.nd rfl (Or.inr rfl)) (pu_scons (pu_sset (i := 12) sc__law_around.nd rfl (Or.inl rfl) (pu_call (z := _) (ms := [false, false]) rfl C__law_dot (fun _ _ => .nil) rfl rfl hr (by decide) (by rfl) (takes_of rfl rfl rfl rfl) (pu_cons (pe_pv 7) (pu_cons (pu_lc (own := [("one", 17)]) (tgt := (.nm 17)) rfl sc__law_around.nd  (pu_iE rfl (pe_pv 8)) (blkOk_by (N := N__law_around) (sc := defScope s__law_around) (by decide +kernel)) (fun _ _ _ _ _ => (pg_name (i := 17) sc__law_around.nd rfl (by first | exact Or.inl rfl | exact Or.inr rfl))) (fun _ _ _ _ _ => pts_ret) (fun _ _ _ _ _ => (pu_ix os_ix ix_seq (pu_ix os_ix ix_seq (pe_pv 17) pu_int (fun _ _ => rfl)) (pe_pv 15) (fun _ _ => rfl))) (by decide)) pu_nil))))
 (pu_scons (pu_sif (pu_wand (pu_tnot (pu_truth rfl (pu_ix os_ix ix_seq (pe_pv 3) (pe_pv 15) (fun _ _ => rfl)))) (pu_wand1 (pu_tcmp os_eq (op_eqA hr.units) (pu_ix os_ix ix_seq (pe_pv 6) (pe_pv 15) (fun _ _ => rfl)) (pu_tup (pu_cons pu_int (pu_cons pu_int pu_nil))) (nomark _)))).pt (pu_sone (pu_sset (i := 12) sc__law_around.nd rfl (Or.inl rfl) (pu_call (z := _) (ms := [false, false]) rfl C__law_plus (fun _ _ => .nil) rfl rfl hr (by decide) (by rfl) (takes_of rfl rfl rfl rfl) (pu_cons (pe_pv 12) (pu_cons (pu_tup (pu_cons (pu_neg (pu_call (z := _) (ms := [true, false]) rfl C__law_take (fun _ _ => .nil) rfl rfl hr (by decide) (by rfl) (takes_of rfl rfl rfl rfl) (pu_cons (pe_pv 0) (pu_cons pu_int pu_nil)))) (pu_cons pu_int pu_nil))) pu_nil))))) pu_snil)
 (pu_sone (pu_sex (pu_app (pe_pv 14) (pe_pv 12)))))))
 (pu_frz (pu_sone (pu_sret (pu_tup (pu_cons (pu_tup (pu_cons (pe_pv 2) (pu_cons (pe_pv 3) (pu_cons (pe_pv 14) (pu_cons (pe_pv 8) pu_nil))))) (pu_cons (pu_tup (pu_cons pu_str (pu_cons (pe_pv 6) (pu_cons (pe_pv 7) (pu_cons (pu_lst pu_nil) pu_nil))))) pu_nil))))))))))))))) rfl rfl h rfl)
theorem ok__law_changed {f : Addr} {fd : FuncData} (T : Tx K mg) (F : FunD K "_law_changed" "_law_changed" (defArgs s__law_changed) (defBody s__law_changed) (defScope s__law_changed) [] [] f fd) (C__law_plus : Cal P w K mg base "_law_plus" 2 ["a", "b"] [] (spF K (tbs K) p__law_plus 2)) (C__law_take : Cal P w K mg base "_law_take" 1 ["row", "bound"] [] (spF K (tbs K) p__law_take 2)) : FnOk P w K mg base (L2.CX P w) 3 f fd ["row", "values"] (spF K (tbs K) p__law_changed 2) := F.ok sc__law_changed (fun vs H Q E h => h.1) (fun cdv A outer s H vs Q E hr h => def_body (z := ⟨K, tbs K, none, fun cls d _ H => E cls d H⟩) (fb := b__law_changed) (pu_frz (pu_scons (pu_sown (i := 1) sc__law_changed.nd rfl (Or.inl rfl) (pu_Y1 us_list cl_list (by rfl) T.n_list bb_list (pe_pv 1)))
 (pu_scons (pu_sset (i := 2) sc__law_changed.nd rfl (Or.inl rfl) (pu_call (z := _) (ms := [true, false]) rfl C__law_take (fun _ _ => .nil) rfl rfl hr (by decide) (by rfl) (takes_of rfl rfl rfl rfl) (pu_cons (pe_pv 0) (pu_cons pu_int pu_nil))))
 (pu_scons (pu_sif (pu_wand (pu_tcmp os_eq (op_eqA hr.units) (pe_pv 2) pu_int (nomark _)) (pu_wand1 (pu_truth rfl (pe_pv 1)))).pt (pu_scons (pu_sset (i := 3) sc__law_changed.nd rfl (Or.inl rfl) (pu_call (z := _) (ms := [true, false]) rfl C__law_take (fun _ _ => .nil) rfl rfl hr (by decide) (by rfl) (takes_of rfl rfl rfl rfl) (pu_cons (pe_pv 0) (pu_cons (pu_B1 us_len cl_lenA (by rfl) T.n_len bb_len (pe_pv 1)) pu_nil))))
 (pu_sone (pu_sitem (pu_call (z := _) (ms := [false, false]) rfl C__law_plus (fun _ _ => .nil) rfl rfl hr (by decide) (by rfl) (takes_of rfl rfl rfl rfl) (pu_cons (pu_ix os_ix ix_seq (pe_pv 1) (pe_pv 3) (fun _ _ => rfl)) (pu_cons (pu_ix os_ix ix_seq (pu_lst (pu_cons (pu_tup (pu_cons pu_int (pu_cons pu_int pu_nil))) (pu_cons (pu_tup (pu_cons (pu_neg pu_int) (pu_cons pu_int pu_nil))) (pu_cons (pu_tup (pu_cons pu_int (pu_cons pu_int pu_nil))) pu_nil)))) (pu_call (z := _) (ms := [true, false]) rfl C__law_take (fun _ _ => .nil) rfl rfl hr (by decide) (by rfl) (takes_of rfl rfl rfl rfl) (pu_cons (pe_pv 0) (pu_cons pu_int pu_nil))) (fun _ _ => rfl)) pu_nil))) (pg_sub (pe_pv 1) (pe_pv 3) set_list)))) pu_snil)
 (pu_scons (pu_sif (pu_tcmp os_eq (op_eqA hr.units) (pe_pv 2) pu_int (nomark _)) (pu_frz (pu_sone (pu_sown (i := 1) sc__law_changed.nd rfl (Or.inl rfl) (pu_slice rfl (pe_pv 1) pu_pn (pu_ps (pu_neg pu_int)))))) pu_snil)
 (pu_scons (pu_sif (pu_tcmp os_eq (op_eqA hr.units) (pe_pv 2) pu_int (nomark _)) (pu_sone (pu_sex (pu_app (pe_pv 1) (pu_tup (pu_cons pu_int (pu_cons pu_int pu_nil)))))) pu_snil)
 (pu_sone (pu_sret (pe_pv 1))))))))) rfl rfl h rfl)
theorem ok__law_fraction {f : Addr} {fd : FuncData} (T : Tx K mg) (F : FunD K "_law_fraction" "_law_fraction" (defArgs s__law_fraction) (defBody s__law_fraction) (defScope s__law_fraction) [] [] f fd) (C__law_lowest : Cal P w K mg base "_law_lowest" 1 ["p", "q"] [] (spF K (tbs K) p__law_lowest 2)) (C__law_take : Cal P w K mg base "_law_take" 1 ["row", "bound"] [] (spF K (tbs K) p__law_take 2)) : FnOk P w K mg base (L2.CX P w) 2 f fd ["row"] (spF K (tbs K) p__law_fraction 1) := F.ok sc__law_fraction (fun vs H Q E h => h.1) (fun cdv A outer s H vs Q E hr h => def_body (z := ⟨K, tbs K, none, fun cls d _ H => E cls d H⟩) (fb := b__law_fraction) (pu_scons (pu_sset (i := 1) sc__law_fraction.nd rfl (Or.inl rfl) (pu_call (z := _) (ms := [true, false]) rfl C__law_take (fun _ _ => .nil) rfl rfl hr (by decide) (by rfl) (takes_of rfl rfl rfl rfl) (pu_cons (pe_pv 0) (pu_cons pu_int pu_nil))))
 (pu_scons (pu_sif (pu_tcmp os_lt op_lt (pe_pv 1) pu_int (nomark _)) (pu_sone (pu_sret (pu_tup (pu_cons (pu_op os_sub op_sub (pu_call (z := _) (ms := [true, false]) rfl C__law_take (fun _ _ => .nil) rfl rfl hr (by decide) (by rfl) (takes_of rfl rfl rfl rfl) (pu_cons (pe_pv 0) (pu_cons pu_int pu_nil))) pu_int) (pu_cons pu_int pu_nil))))) pu_snil)
 (pu_scons (pu_sif (pu_tcmp os_lt op_lt (pe_pv 1) pu_int (nomark _)) (pu_sone (pu_sret (pu_call (z := _) (ms := [false, false]) rfl C__law_lowest (fun _ _ => .nil) rfl rfl hr (by decide) (by rfl) (takes_of rfl rfl rfl rfl) (pu_cons (pu_op os_sub op_sub (pu_call (z := _) (ms := [true, false]) rfl C__law_take (fun _ _ => .nil) rfl rfl hr (by decide) (by rfl) (takes_of rfl rfl rfl rfl) (pu_cons (pe_pv 0) (pu_cons pu_int pu_nil))) pu_int) (pu_cons (pu_op os_add op_addA pu_int (pu_call (z := _) (ms := [true, false]) rfl C__law_take (fun _ _ => .nil) rfl rfl hr (by decide) (by rfl) (takes_of rfl rfl rfl rfl) (pu_cons (pe_pv 0) (pu_cons pu_int pu_nil)))) pu_nil))))) pu_snil)
 (pu_scons (pu_sif (pu_tcmp os_eq (op_eqA hr.units) (pe_pv 1) pu_int (nomark _)) (pu_sone (pu_sret (pu_tup (pu_cons pu_int (pu_cons pu_int pu_nil))))) pu_snil)
 (pu_sone (pu_sret (pu_call (z := _) (ms := [false, false]) rfl C__law_lowest (fun _ _ => .nil) rfl rfl hr (by decide) (by rfl) (takes_of rfl rfl rfl rfl) (pu_cons (pu_op os_sub op_sub (pu_call (z := _) (ms := [true, false]) rfl C__law_take (fun _ _ => .nil) rfl rfl hr (by decide) (by rfl) (takes_of rfl rfl rfl rfl) (pu_cons (pe_pv 0) (pu_cons pu_int pu_nil))) pu_int) (pu_cons (pu_op os_add op_addA pu_int (pu_call (z := _) (ms := [true, false]) rfl C__law_take (fun _ _ => .nil) rfl rfl hr (by decide) (by rfl) (takes_of rfl rfl rfl rfl) (pu_cons (pe_pv 0) (pu_cons pu_int pu_nil)))) pu_nil))))))))) rfl rfl h rfl)
theorem ok__law_vector {f : Addr} {fd : FuncData} (T : Tx K mg) (F : FunD K "_law_vector" "_law_vector" (defArgs s__law_vector) (defBody s__law_vector) (defScope s__law_vector) [] [] f fd) (C__law_fraction : Cal P w K mg base "_law_fraction" 2 ["row"] [] (spF K (tbs K) p__law_fraction 1)) : FnOk P w K mg base (L2.CX P w) 3 f fd ["row", "count"] (spF K (tbs K) p__law_vector 2) := F.ok sc__law_vector (fun vs H Q E h => h.1) (fun cdv A outer s H vs Q E hr h => def_body (z := ⟨K, tbs K, none, fun cls d _ H => E cls d H⟩) (fb := b__law_vector) (pu_sone (pu_sret (pu_lc (own := [("k", 2)]) (tgt := (.nm 2)) rfl sc__law_vector.nd  (pu_iR1 (by rfl) T.n_range (pe_pv 1)) (blkOk_by (N := N__law_vector) (sc := defScope s__law_vector) (by decide +kernel)) (fun _ _ _ _ _ => (pg_name (i := 2) sc__law_vector.nd rfl (by first | exact Or.inl rfl | exact Or.inr rfl))) (fun _ _ _ _ _ => pts_ret) (fun _ _ _ _ _ => (pu_call (z := _) (ms := [true]) rfl C__law_fraction (fun _ _ => .nil) rfl rfl hr (by decide) (by rfl) takes0 (pu_cons (pe_pv 0) pu_nil))) (by decide)))) rfl rfl h rfl)
theorem ok__law_drawn {f : Addr} {fd : FuncData} (T : Tx K mg) (F : FunD K "_law_drawn" "_law_drawn" (defArgs s__law_drawn) (defBody s__law_drawn) (defScope s__law_drawn) [] [] f fd) (C__law_take : Cal P w K mg base "_law_take" 1 ["row", "bound"] [] (spF K (tbs K) p__law_take 2)) (C__law_vector : Cal P w K mg base "_law_vector" 3 ["row", "count"] [] (spF K (tbs K) p__law_vector 2)) : FnOk P w K mg base (L2.CX P w) 4 f fd ["row", "program"] (spF K (tbs K) p__law_drawn 2) := F.ok sc__law_drawn (fun vs H Q E h => h.1) (fun cdv A outer s H vs Q E hr h => def_body (z := ⟨K, tbs K, none, fun cls d _ H => E cls d H⟩) (fb := b__law_drawn) (pu_scons (pu_sset (i := 2) sc__law_drawn.nd rfl (Or.inl rfl) (pu_ix os_ix ix_seq (pu_lst (pu_cons pu_str (pu_cons pu_str (pu_cons pu_str (pu_cons pu_str (pu_cons pu_str pu_nil)))))) (pu_call (z := _) (ms := [true, false]) rfl C__law_take (fun _ _ => .nil) rfl rfl hr (by decide) (by rfl) (takes_of rfl rfl rfl rfl) (pu_cons (pe_pv 0) (pu_cons pu_int pu_nil))) (fun _ _ => rfl)))
 (pu_scons (pu_sset (i := 3) sc__law_drawn.nd rfl (Or.inl rfl) (pu_call (z := _) (ms := [true, false]) rfl C__law_vector (fun _ _ => .nil) rfl rfl hr (by decide) (by rfl) (takes_of rfl rfl rfl rfl) (pu_cons (pe_pv 0) (pu_cons (pu_ix os_ix ix_seq (pe_pv 1) pu_int (fun _ _ => rfl)) pu_nil))))
 (pu_scons (pu_setLc (i := 4) (own := [("one", 6)]) (tgt := (.nm 6)) rfl sc__law_drawn.nd rfl rfl (sw_true rfl rfl rfl rfl) (pu_iE rfl (pu_ix os_ix ix_seq (pe_pv 1) pu_int (fun _ _ => rfl))) (blkOk_by (N := N__law_drawn) (sc := defScope s__law_drawn) (by decide +kernel)) (fun _ _ _ _ _ => (pg_name (i := 6) sc__law_drawn.nd rfl (by first | exact Or.inl rfl | exact Or.inr rfl))) (fun _ _ _ _ _ => pts_ret) (fun _ _ _ _ _ => (pu_tup (pu_cons (pu_op os_sub op_sub (pu_call (z := _) (ms := [true, false]) rfl C__law_take (fun _ _ => .nil) rfl rfl hr (by decide) (by rfl) takes0 (pu_cons (pe_pv 0) (pu_cons pu_int pu_nil))) pu_int) (pu_cons pu_int pu_nil)))) (by decide))
 (pu_scons (pu_setLc (i := 5) (own := [("k", 7)]) (tgt := (.nm 7)) rfl sc__law_drawn.nd rfl rfl (sw_true rfl rfl rfl rfl) (pu_iR1 (by rfl) T.n_range (pu_ix os_ix ix_seq (pe_pv 1) pu_int (fun _ _ => rfl))) (blkOk_by (N := N__law_drawn) (sc := defScope s__law_drawn) (by decide +kernel)) (fun _ _ _ _ _ => (pg_name (i := 7) sc__law_drawn.nd rfl (by first | exact Or.inl rfl | exact Or.inr rfl))) (fun _ _ _ _ _ => pts_ret) (fun _ _ _ _ _ => (pu_tup (pu_cons (pu_call (z := _) (ms := [true, false]) rfl C__law_take (fun _ _ => .nil) rfl rfl hr (by decide) (by rfl) takes0 (pu_cons (pe_pv 0) (pu_cons pu_int pu_nil))) (pu_cons pu_int pu_nil)))) (by decide))
 (pu_sone (pu_sret (pu_tup (pu_cons (pe_pv 2) (pu_cons (pe_pv 3) (pu_cons (pe_pv 4) (pu_cons (pe_pv 5) pu_nil))))))))))) rfl rfl h rfl)
theorem ok_InvalidProgram___init__ {f : Addr} {fd : FuncData} {file : Str} (T : Tx K mg) (F : UbS.FunS K (He.ga K "InvalidProgram") file "__init__" "InvalidProgram.__init__" (defArgs s_InvalidProgram___init__) (defBody s_InvalidProgram___init__) (defScope s_InvalidProgram___init__) f fd) (B : UbS.SupC K (He.ga K "InvalidProgram")) (hfile : (P.main.file == file) = true) (htop : (P.main.scope.names.lookup ("super" : Str)).isSome = false) : FnOk P w K mg base (L2.CX P w) 1 f fd ["self", "reason"] (UbC.spEI (He.ga K "InvalidProgram") (UbC.fl1 "reason") UbC.okT) := by
  refine UbS.FunS.ok F B T.x_InvalidProgram.oex T.n_super hfile htop sc_InvalidProgram___init__ (by rfl) (by rfl) (by rfl) (by rfl) (fun _ _ _ => rfl) (fun _ _ _ => rfl) (fun _ _ _ => rfl) (fun _ _ _ => rfl) (fun vs H Q E h => ?_) (fun cc cda A outer s H vs Q E hr h => ?_)
  · obtain ⟨_, _, rfl, h, _⟩ := h
    obtain ⟨_, rfl, _⟩ := h
    rfl
  · obtain ⟨a, us, rfl, ⟨y, rfl, hy⟩, ha, q⟩ := h
    refine ⟨_, _, a, _, rfl, ha, (pa_cons (pe_joined (PJ.cons pe_str (PJ.cons (pe_fmt (pv 1)) PJ.nil))) pa_nil), (pss_one (ps_ost (pv 0) (pv 1))), ?_⟩
    dsimp only [N_InvalidProgram___init__]
    walk_at "un"
    dsimp only [NdefX.startF, tOst, tCons, tVar, tC, tNil, tFmt, tJs, List.map_cons, List.map_nil, List.length_cons, List.length_nil, List.replicate, List.cons_append, List.nil_append, List.append_nil, List.getElem?_cons_zero, List.getElem?_cons_succ]
    walk_at "go"
    refine ⟨UbC.flen0 (by decide +kernel), _, rfl, .inl ⟨y, rfl, by rw [sizeLine_eq]; omega, y, rfl, UbC.flen (by decide +kernel) hy, Nat.le_of_ble_eq_true rfl, ha, .str y, rfl, .ref a, rfl, a, _, rfl, T.x_InvalidProgram.oex, T.na_InvalidProgram_reason, .inl ⟨ha, fun d nd hd => q d nd hd⟩⟩⟩
theorem ok__check_form {f : Addr} {fd : FuncData} (T : Tx K mg) (F : FunD K "_check_form" "_check_form" (defArgs s__check_form) (defBody s__check_form) (defScope s__check_form) [] [] f fd) (X_InvalidProgram : UbC.CalX P w K mg base "InvalidProgram" 1 (UbC.spEI (He.ga K "InvalidProgram") (UbC.fl1 "reason") UbC.okT)) : FnOk P w K mg base (L2.CX P w) 3 f fd ["variables", "free", "goal", "rows"] (spF K (tbs K) p__check_form 4) := F.ok sc__check_form (fun vs H Q E h => h.1) (fun cdv A outer s H vs Q E hr h => def_body (z := ⟨K, tbs K, none, fun cls d _ H => E cls d H⟩) (fb := b__check_form) (pu_scons (pu_sif (pu_tcmp os_lt op_lt (pe_pv 0) pu_int (nomark _)) (pu_sone (pu_sraise (fs := ["reason"]) (okd := okT) rfl rfl (takes_of rfl rfl rfl rfl) X_InvalidProgram hr (by decide) (by rfl) hok_okT (pu_cons pu_str pu_nil))) pu_snil)
 (pu_scons (pu_sif (pu_tcmp os_ne (op_neA hr.units) (pu_B1 us_len cl_lenA (by rfl) T.n_len bb_len (pe_pv 1)) (pe_pv 0) (nomark _)) (pu_sone (pu_sraise (fs := ["reason"]) (okd := okT) rfl rfl (takes_of rfl rfl rfl rfl) X_InvalidProgram hr (by decide) (by rfl) hok_okT (pu_cons pu_str pu_nil))) pu_snil)
 (pu_scons (pu_sif (pu_tcmp os_ne (op_neA hr.units) (pu_B1 us_len cl_lenA (by rfl) T.n_len bb_len (pe_pv 2)) (pe_pv 0) (nomark _)) (pu_sone (pu_sraise (fs := ["reason"]) (okd := okT) rfl rfl (takes_of rfl rfl rfl rfl) X_InvalidProgram hr (by decide) (by rfl) hok_okT (pu_cons pu_str pu_nil))) pu_snil)
 (pu_sone (pu_sfor (tgt := (.tp [(.nm 4), (.nm 5), (.nm 6)])) PassesOwn.leaving rfl (pu_iE rfl (pe_pv 3)) (pg_tup rfl (pgs_cons (pg_name (i := 4) sc__check_form.nd rfl (Or.inl rfl)) (pgs_cons (pg_name (i := 5) sc__check_form.nd rfl (Or.inl rfl)) (pgs_cons (pg_name (i := 6) sc__check_form.nd rfl (Or.inl rfl)) pgs_nil)))) (pu_sone (pu_sif (pu_wor (pu_tcmp os_ne (op_neA hr.units) (pu_B1 us_len cl_lenA (by rfl) T.n_len bb_len (pe_pv 4)) (pe_pv 0) (nomark _)) (pu_wor1 (pu_tcmp os_nin (UbIn.op_notInA hr.units) (pe_pv 5) (pu_glob (v := .ref (He.ga K "_SIGNS")) (fun H => .tup (T.c__SIGNS.2 H) (.cons (.str _) (.cons (.str _) (.cons (.str _) .nil)))) (by rfl) T.c__SIGNS.1 rfl) (by with_unfolding_all rfl)))).pt (pu_sone (pu_sraise (fs := ["reason"]) (okd := okT) rfl rfl (takes_of rfl rfl rfl rfl) X_InvalidProgram hr (by decide) (by rfl) hok_okT (pu_cons pu_str pu_nil))) pu_snil))))))) rfl rfl h rfl)
theorem ok_TooLarge___init__ {f : Addr} {fd : FuncData} {file : Str} (T : Tx K mg) (F : UbS.FunS K (He.ga K "TooLarge") file "__init__" "TooLarge.__init__" (defArgs s_TooLarge___init__) (defBody s_TooLarge___init__) (defScope s_TooLarge___init__) f fd) (B : UbS.SupC K (He.ga K "TooLarge")) (hfile : (P.main.file == file) = true) (htop : (P.main.scope.names.lookup ("super" : Str)).isSome = false) : FnOk P w K mg base (L2.CX P w) 1 f fd ["self", "limit"] (UbC.spEI (He.ga K "TooLarge") (UbC.fl1 "limit") UbC.okT) := by
  refine UbS.FunS.ok F B T.x_TooLarge.oex T.n_super hfile htop sc_TooLarge___init__ (by rfl) (by rfl) (by rfl) (by rfl) (fun _ _ _ => rfl) (fun _ _ _ => rfl) (fun _ _ _ => rfl) (fun _ _ _ => rfl) (fun vs H Q E h => ?_) (fun cc cda A outer s H vs Q E hr h => ?_)
  · obtain ⟨_, _, rfl, h, _⟩ := h
    obtain ⟨_, rfl, _⟩ := h
    rfl
  · obtain ⟨a, us, rfl, ⟨y, rfl, hy⟩, ha, q⟩ := h
    refine ⟨_, _, a, _, rfl, ha, (pa_cons (pe_joined (PJ.cons pe_str (PJ.cons (pe_fmt (pv 1)) PJ.nil))) pa_nil), (pss_one (ps_ost (pv 0) (pv 1))), ?_⟩
    dsimp only [N_TooLarge___init__]
    walk_at "un"
    dsimp only [NdefX.startF, tOst, tCons, tVar, tC, tNil, tFmt, tJs, List.map_cons, List.map_nil, List.length_cons, List.length_nil, List.replicate, List.cons_append, List.nil_append, List.append_nil, List.getElem?_cons_zero, List.getElem?_cons_succ]
    walk_at "go"
    refine ⟨UbC.flen0 (by decide +kernel), _, rfl, .inl ⟨y, rfl, by rw [sizeLine_eq]; omega, y, rfl, UbC.flen (by decide +kernel) hy, Nat.le_of_ble_eq_true rfl, ha, .str y, rfl, .ref a, rfl, a, _, rfl, T.x_TooLarge.oex, T.na_TooLarge_limit, .inl ⟨ha, fun d nd hd => q d nd hd⟩⟩⟩
theorem ok__check_size {f : Addr} {fd : FuncData} (T : Tx K mg) (F : FunD K "_check_size" "_check_size" (defArgs s__check_size) (defBody s__check_size) (defScope s__check_size) [] [] f fd) (X_TooLarge : UbC.CalX P w K mg base "TooLarge" 1 (UbC.spEI (He.ga K "TooLarge") (UbC.fl1 "limit") UbC.okT)) : FnOk P w K mg base (L2.CX P w) 3 f fd ["variables", "rows"] (spF K (tbs K) p__check_size 2) := F.ok sc__check_size (fun vs H Q E h => h.1) (fun cdv A outer s H vs Q E hr h => def_body (z := ⟨K, tbs K, none, fun cls d _ H => E cls d H⟩) (fb := b__check_size) (pu_scons (pu_sif (pu_tcmp os_gt op_gt (pe_pv 0) (pu_glob (v := .int 160) (fun _ => .int _) (by rfl) T.c__MOST_VARIABLES.choose_spec ⟨_, rfl⟩) (nomark _)) (pu_sone (pu_sraise (fs := ["limit"]) (okd := okT) rfl rfl (takes_of rfl rfl rfl rfl) X_TooLarge hr (by decide) (by rfl) hok_okT (pu_cons pu_str pu_nil))) pu_snil)
 (pu_sone (pu_sif (pu_tcmp os_gt op_gt (pu_B1 us_len cl_lenA (by rfl) T.n_len bb_len (pe_pv 1)) (pu_glob (v := .int 400) (fun _ => .int _) (by rfl) T.c__MOST_ROWS.choose_spec ⟨_, rfl⟩) (nomark _)) (pu_sone (pu_sraise (fs := ["limit"]) (okd := okT) rfl rfl (takes_of rfl rfl rfl rfl) X_TooLarge hr (by decide) (by rfl) hok_okT (pu_cons pu_str pu_nil))) pu_snil))) rfl rfl h rfl)
theorem ok_Program___init__ {f : Addr} {fd : FuncData} (T : Tx K mg) (F : FunD K "__init__" "Program.__init__" (defArgs s_Program___init__) (defBody s_Program___init__) (defScope s_Program___init__) [] [] f fd) (C__check_form : Cal P w K mg base "_check_form" 3 ["variables", "free", "goal", "rows"] [] (spF K (tbs K) p__check_form 4)) (C__check_size : Cal P w K mg base "_check_size" 3 ["variables", "rows"] [] (spF K (tbs K) p__check_size 2)) : FnOk P w K mg base (L2.CX P w) 4 f fd ["self", "variables", "free", "goal", "rows"] (spF K (tbs K) p_Program___init__ 5) := F.ok sc_Program___init__ (fun vs H Q E h => h.1) (fun cdv A outer s H vs Q E hr h => def_body (z := ⟨K, tbs K, none, fun cls d _ H => E cls d H⟩) (fb := b_Program___init__) (pu_scons (pu_sex (pu_call (z := _) (ms := [false, false]) rfl C__check_size (fun _ _ => .nil) rfl rfl hr (by decide) (by rfl) (takes_of rfl rfl rfl rfl) (pu_cons (pe_pv 1) (pu_cons (pe_pv 4) pu_nil))))
 (pu_scons (pu_sex (pu_call (z := _) (ms := [false, false, false, false]) rfl C__check_form (fun _ _ => .nil) rfl rfl hr (by decide) (by rfl) (takes_of rfl rfl rfl rfl) (pu_cons (pe_pv 1) (pu_cons (pe_pv 2) (pu_cons (pe_pv 3) (pu_cons (pe_pv 4) pu_nil))))))
 (pu_scons (pu_sfld rfl (fun c h => by simp only [List.mem_cons, List.not_mem_nil, or_false] at h; rcases h with rfl <;> first | exact ⟨T.cl_Program, T.na_Program_variables⟩) (pe_pv 0) (pe_pv 1))
 (pu_scons (pu_sfld rfl (fun c h => by simp only [List.mem_cons, List.not_mem_nil, or_false] at h; rcases h with rfl <;> first | exact ⟨T.cl_Program, T.na_Program_free⟩) (pe_pv 0) (pu_Y1 us_list cl_list (by rfl) T.n_list bb_list (pe_pv 2)))
 (pu_scons (pu_sfld rfl (fun c h => by simp only [List.mem_cons, List.not_mem_nil, or_false] at h; rcases h with rfl <;> first | exact ⟨T.cl_Program, T.na_Program_goal⟩) (pe_pv 0) (pu_Y1 us_list cl_list (by rfl) T.n_list bb_list (pe_pv 3)))
 (pu_sone (pu_sfld rfl (fun c h => by simp only [List.mem_cons, List.not_mem_nil, or_false] at h; rcases h with rfl <;> first | exact ⟨T.cl_Program, T.na_Program_rows⟩) (pe_pv 0) (pu_lc (own := [("numbers", 5), ("relation", 6), ("bound", 7)]) (tgt := (.tp [(.nm 5), (.nm 6), (.nm 7)])) rfl sc_Program___init__.nd  (pu_iE rfl (pe_pv 4)) (blkOk_by (N := N_Program___init__) (sc := defScope s_Program___init__) (by decide +kernel)) (fun _ _ _ _ _ => (pg_tup rfl (pgs_cons (pg_name (i := 5) sc_Program___init__.nd rfl (by first | exact Or.inl rfl | exact Or.inr rfl)) (pgs_cons (pg_name (i := 6) sc_Program___init__.nd rfl (by first | exact Or.inl rfl | exact Or.inr rfl)) (pgs_cons (pg_name (i := 7) sc_Program___init__.nd rfl (by first | exact Or.inl rfl | exact Or.inr rfl)) pgs_nil))))) (fun _ _ _ _ _ => pts_ret) (fun _ _ _ _ _ => (pu_tup (pu_cons (pu_Y1 us_list cl_list (by rfl) T.n_list bb_list (pe_pv 5)) (pu_cons (pe_pv 6) (pu_cons (pe_pv 7) pu_nil))))) (by decide))))))))) rfl rfl h rfl)
theorem ok__law_made {f : Addr} {fd : FuncData} (T : Tx K mg) (F : FunD K "_law_made" "_law_made" (defArgs s__law_made) (defBody s__law_made) (defScope s__law_made) [] [] f fd) (I_Program_1_free_goal_rows : UbC.CalI P w K mg base "Program" 4 1 ["free", "goal", "rows"] (spF K (tbs K) p_Program___init__ 5)) : FnOk P w K mg base (L2.CX P w) 6 f fd ["program"] (spF K (tbs K) p__law_made 1) := F.ok sc__law_made (fun vs H Q E h => h.1) (fun cdv A outer s H vs Q E hr h => def_body (z := ⟨K, tbs K, none, fun cls d _ H => E cls d H⟩) (fb := b__law_made) (pu_scons (pu_sasg (tg := (.tp [(.nm 1), (.nm 2), (.nm 3), (.nm 4)])) (pe_pv 0) (pg_tup rfl (pgs_cons (pg_name (i := 1) sc__law_made.nd rfl (Or.inl rfl)) (pgs_cons (pg_name (i := 2) sc__law_made.nd rfl (Or.inl rfl)) (pgs_cons (pg_name (i := 3) sc__law_made.nd rfl (Or.inl rfl)) (pgs_cons (pg_name (i := 4) sc__law_made.nd rfl (Or.inl rfl)) pgs_nil))))))
 (pu_sone (pu_sret (pu_new (ms := [false, false, false, false]) rfl I_Program_1_free_goal_rows (by rfl) (by rfl) (by rfl) hr (by decide) (by rfl) (takes_of rfl rfl rfl rfl) (pu_cons (pe_pv 1) pu_nil) (pks_cons (pu_Y1 us_list cl_list (by rfl) T.n_list bb_list (pe_pv 2)) (pks_cons (pu_Y1 us_list cl_list (by rfl) T.n_list bb_list (pe_pv 3)) (pks_cons (pu_lc (own := [("one", 5), ("word", 6), ("two", 7)]) (tgt := (.tp [(.nm 5), (.nm 6), (.nm 7)])) rfl sc__law_made.nd  (pu_iE rfl (pe_pv 4)) (blkOk_by (N := N__law_made) (sc := defScope s__law_made) (by decide +kernel)) (fun _ _ _ _ _ => (pg_tup rfl (pgs_cons (pg_name (i := 5) sc__law_made.nd rfl (by first | exact Or.inl rfl | exact Or.inr rfl)) (pgs_cons (pg_name (i := 6) sc__law_made.nd rfl (by first | exact Or.inl rfl | exact Or.inr rfl)) (pgs_cons (pg_name (i := 7) sc__law_made.nd rfl (by first | exact Or.inl rfl | exact Or.inr rfl)) pgs_nil))))) (fun _ _ _ _ _ => pts_ret) (fun _ _ _ _ _ => (pu_tup (pu_cons (pu_Y1 us_list cl_list (by rfl) T.n_list bb_list (pe_pv 5)) (pu_cons (pe_pv 6) (pu_cons (pe_pv 7) pu_nil))))) (by decide)) pks_nil))))))) rfl rfl h rfl)
theorem ok__law_mix {f : Addr} {fd : FuncData} (T : Tx K mg) (F : FunD K "_law_mix" "_law_mix" (defArgs s__law_mix) (defBody s__law_mix) (defScope s__law_mix) [] [] f fd) : FnOk P w K mg base (L2.CX P w) 1 f fd ["number", "k"] (spF K (tbs K) p__law_mix 2) := F.ok sc__law_mix (fun vs H Q E h => h.1) (fun cdv A outer s H vs Q E hr h => def_body (z := ⟨K, tbs K, none, fun cls d _ H => E cls d H⟩) (fb := b__law_mix) (pu_sone (pu_sret (pu_op os_mod op_modN (pu_op os_mul op_mulA (pu_op os_mod op_modN (pu_Y1 us_int cl_int (by rfl) T.n_int bb_int (pu_op os_mul op_mulA (pu_op os_add op_addA (pu_op os_add op_addA (pu_op os_mod op_modN (pu_Y1 us_int cl_int (by rfl) T.n_int bb_int (pe_pv 0)) pu_int) (pu_op os_mul op_mulA pu_int (pe_pv 1))) pu_int) pu_int)) pu_int) pu_int) pu_int))) rfl rfl h rfl)
theorem ok__law_numbers {f : Addr} {fd : FuncData} (T : Tx K mg) (F : FunD K "_law_numbers" "_law_numbers" (defArgs s__law_numbers) (defBody s__law_numbers) (defScope s__law_numbers) [] [] f fd) (C__law_mix : Cal P w K mg base "_law_mix" 1 ["number", "k"] [] (spF K (tbs K) p__law_mix 2)) : FnOk P w K mg base (L2.CX P w) 2 f fd ["script", "count"] (spF K (tbs K) p__law_numbers 2) := F.ok sc__law_numbers (fun vs H Q E h => h.1) (fun cdv A outer s H vs Q E hr h => def_body (z := ⟨K, tbs K, none, fun cls d _ H => E cls d H⟩) (fb := b__law_numbers) (pu_scons (pu_sown (i := 2) sc__law_numbers.nd rfl (Or.inl rfl) (pu_lst pu_nil))
 (pu_scons (pu_sset (i := 3) sc__law_numbers.nd rfl (Or.inl rfl) pu_int)
 (pu_scons (pu_sfor (tgt := (.nm 4)) PassesOwn.leaving rfl (pu_iE rfl (pu_slice rfl (pe_pv 0) pu_pn (pu_ps pu_int))) (pg_name (i := 4) sc__law_numbers.nd rfl (Or.inl rfl)) (pu_scons (pu_sset (i := 3) sc__law_numbers.nd rfl (Or.inl rfl) (pu_op os_add op_addA (pe_pv 3) (pe_pv 4)))
 (pu_sone (pu_sif (pu_tcmp os_ge op_ge (pe_pv 4) pu_int (nomark _)) (pu_scons (pu_sset (i := 5) sc__law_numbers.nd rfl (Or.inl rfl) (pe_pv 4))
 (pu_sone (pu_sfor (tgt := (.nm 6)) PassesOwn.leaving rfl (pu_iR1 (by rfl) T.n_range pu_int) (pg_name (i := 6) sc__law_numbers.nd rfl (Or.inl rfl)) (pu_scons (pu_sex (pu_app (pe_pv 2) (pu_op os_mod op_modN (pu_Y1 us_int cl_int (by rfl) T.n_int bb_int (pe_pv 5)) pu_int)))
 (pu_scons (pu_sset (i := 5) sc__law_numbers.nd rfl (Or.inl rfl) (pu_op os_fdiv op_fdivX (pe_pv 5) pu_int))
 (pu_sone (pu_sif (pu_tcmp os_eq (op_eqA hr.units) (pe_pv 5) pu_int (nomark _)) (pu_sone pu_sbreak) pu_snil))))))) (pu_sone (pu_sex (pu_app (pe_pv 2) (pu_call (z := _) (ms := [false, false]) rfl C__law_mix (fun _ _ => .nil) rfl rfl hr (by decide) (by rfl) (takes_of rfl rfl rfl rfl) (pu_cons (pu_call (z := _) (ms := [false, false]) rfl C__law_mix (fun _ _ => .nil) rfl rfl hr (by decide) (by rfl) (takes_of rfl rfl rfl rfl) (pu_cons (pe_pv 4) (pu_cons pu_int pu_nil))) (pu_cons pu_int pu_nil))))))))))
 (pu_scons (pu_sfor (tgt := (.nm 6)) PassesOwn.leaving rfl (pu_iR1 (by rfl) T.n_range (pe_pv 1)) (pg_name (i := 6) sc__law_numbers.nd rfl (Or.inl rfl)) (pu_sone (pu_sex (pu_app (pe_pv 2) (pu_call (z := _) (ms := [false, false]) rfl C__law_mix (fun _ _ => .nil) rfl rfl hr (by decide) (by rfl) (takes_of rfl rfl rfl rfl) (pu_cons (pu_call (z := _) (ms := [false, false]) rfl C__law_mix (fun _ _ => .nil) rfl rfl hr (by decide) (by rfl) (takes_of rfl rfl rfl rfl) (pu_cons (pu_op os_add op_addA (pe_pv 3) (pu_op os_mul op_mulA pu_int (pe_pv 6))) (pu_cons (pu_op os_add op_addA pu_int (pe_pv 6)) pu_nil))) (pu_cons pu_int pu_nil)))))))
 (pu_scons (pu_sex (pu_reverse (pe_pv 2)))
 (pu_sone (pu_sret (pe_pv 2)))))))) rfl rfl h rfl)
theorem ok__law_program {f : Addr} {fd : FuncData} (T : Tx K mg) (F : FunD K "_law_program" "_law_program" (defArgs s__law_program) (defBody s__law_program) (defScope s__law_program) [] [] f fd) (C__law_fraction : Cal P w K mg base "_law_fraction" 2 ["row"] [] (spF K (tbs K) p__law_fraction 1)) (C__law_take : Cal P w K mg base "_law_take" 1 ["row", "bound"] [] (spF K (tbs K) p__law_take 2)) (C__law_vector : Cal P w K mg base "_law_vector" 3 ["row", "count"] [] (spF K (tbs K) p__law_vector 2)) : FnOk P w K mg base (L2.CX P w) 4 f fd ["row", "most"] (spF K (tbs K) p__law_program 2) := F.ok sc__law_program (fun vs H Q E h => h.1) (fun cdv A outer s H vs Q E hr h => def_body (z := ⟨K, tbs K, none, fun cls d _ H => E cls d H⟩) (fb := b__law_program) (pu_scons (pu_sset (i := 2) sc__law_program.nd rfl (Or.inl rfl) (pu_op os_add op_addA pu_int (pu_call (z := _) (ms := [true, false]) rfl C__law_take (fun _ _ => .nil) rfl rfl hr (by decide) (by rfl) (takes_of rfl rfl rfl rfl) (pu_cons (pe_pv 0) (pu_cons (pe_pv 1) pu_nil)))))
 (pu_scons (pu_setLc (i := 4) (own := [("k", 3)]) (tgt := (.nm 3)) rfl sc__law_program.nd rfl rfl (sw_true rfl rfl rfl rfl) (pu_iR1 (by rfl) T.n_range (pe_pv 2)) (blkOk_by (N := N__law_program) (sc := defScope s__law_program) (by decide +kernel)) (fun _ _ _ _ _ => (pg_name (i := 3) sc__law_program.nd rfl (by first | exact Or.inl rfl | exact Or.inr rfl))) (fun _ _ _ _ _ => pts_ret) (fun _ _ _ _ _ => (pu_cmp os_eq (op_eqA hr.units) (pu_call (z := _) (ms := [true, false]) rfl C__law_take (fun _ _ => .nil) rfl rfl hr (by decide) (by rfl) takes0 (pu_cons (pe_pv 0) (pu_cons pu_int pu_nil))) pu_int (nomark _))) (by decide))
 (pu_scons (pu_sset (i := 5) sc__law_program.nd rfl (Or.inl rfl) (pu_call (z := _) (ms := [true, false]) rfl C__law_vector (fun _ _ => .nil) rfl rfl hr (by decide) (by rfl) (takes_of rfl rfl rfl rfl) (pu_cons (pe_pv 0) (pu_cons (pe_pv 2) pu_nil))))
 (pu_scons (pu_sown (i := 6) sc__law_program.nd rfl (Or.inl rfl) (pu_lst pu_nil))
 (pu_scons (pu_sfor (tgt := (.nm 3)) PassesOwn.leaving rfl (pu_iR1 (by rfl) T.n_range (pu_call (z := _) (ms := [true, false]) rfl C__law_take (fun _ _ => .nil) rfl rfl hr (by decide) (by rfl) (takes_of rfl rfl rfl rfl) (pu_cons (pe_pv 0) (pu_cons pu_int pu_nil)))) (pg_name (i := 3) sc__law_program.nd rfl (Or.inl rfl)) (pu_scons (pu_sset (i := 7) sc__law_program.nd rfl (Or.inl rfl) (pu_ix os_ix ix_seq (pu_lst (pu_cons pu_str (pu_cons pu_str (pu_cons pu_str (pu_cons pu_str pu_nil))))) (pu_call (z := _) (ms := [true, false]) rfl C__law_take (fun _ _ => .nil) rfl rfl hr (by decide) (by rfl) (takes_of rfl rfl rfl rfl) (pu_cons (pe_pv 0) (pu_cons pu_int pu_nil))) (fun _ _ => rfl)))
 (pu_sone (pu_sex (pu_app (pe_pv 6) (pu_tup (pu_cons (pu_call (z := _) (ms := [true, false]) rfl C__law_vector (fun _ _ => .nil) rfl rfl hr (by decide) (by rfl) (takes_of rfl rfl rfl rfl) (pu_cons (pe_pv 0) (pu_cons (pe_pv 2) pu_nil))) (pu_cons (pe_pv 7) (pu_cons (pu_call (z := _) (ms := [true]) rfl C__law_fraction (fun _ _ => .nil) rfl rfl hr (by decide) (by rfl) (takes_of rfl rfl rfl rfl) (pu_cons (pe_pv 0) pu_nil)) pu_nil)))))))))
 (pu_frz (pu_sone (pu_sret (pu_tup (pu_cons (pe_pv 2) (pu_cons (pe_pv 4) (pu_cons (pe_pv 5) (pu_cons (pe_pv 6) pu_nil))))))))))))) rfl rfl h rfl)
theorem ok_sign {f : Addr} {fd : FuncData} (T : Tx K mg) (F : FunD K "sign" "sign" (defArgs s_sign) (defBody s_sign) (defScope s_sign) [] [] f fd) : FnOk P w K mg base (L2.CX P w) 1 f fd ["a"] (spF K (tbs K) p_sign 1) := F.ok sc_sign (fun vs H Q E h => h.1) (fun cdv A outer s H vs Q E hr h => def_body (z := ⟨K, tbs K, none, fun cls d _ H => E cls d H⟩) (fb := b_sign) (pu_scons (pu_sif (pu_tcmp os_gt op_gt (pu_ix os_ix ix_seq (pe_pv 0) pu_int (fun _ _ => rfl)) pu_int (nomark _)) (pu_sone (pu_sret pu_int)) pu_snil)
 (pu_sone (pu_sret (pu_if (pu_tcmp os_lt op_lt (pu_ix os_ix ix_seq (pe_pv 0) pu_int (fun _ _ => rfl)) pu_int (nomark _)) (pu_neg pu_int) pu_int)))) rfl rfl h rfl)
theorem ok__has_correct_signs {f : Addr} {fd : FuncData} (T : Tx K mg) (F : FunD K "_has_correct_signs" "_has_correct_signs" (defArgs s__has_correct_signs) (defBody s__has_correct_signs) (defScope s__has_correct_signs) [] [] f fd) (C_sign : Cal P w K mg base "sign" 1 ["a"] [] (spF K (tbs K) p_sign 1)) : FnOk P w K mg base (L2.CX P w) 2 f fd ["rows", "factors"] (spF K (tbs K) p__has_correct_signs 2) := F.ok sc__has_correct_signs (fun vs H Q E h => h.1) (fun cdv A outer s H vs Q E hr h => def_body (z := ⟨K, tbs K, none, fun cls d _ H => E cls d H⟩) (fb := b__has_correct_signs) (pu_scons (pu_sfor (tgt := (.tp [(.tp [(.nm 2), (.nm 3), (.nm 2)]), (.nm 4)])) PassesOwn.leaving rfl (pu_iZ rfl (by rfl) T.n_zip (pe_pv 0) (pe_pv 1)) (pg_tup rfl (pgs_cons (pg_tup rfl (pgs_cons (pg_name (i := 2) sc__has_correct_signs.nd rfl (Or.inl rfl)) (pgs_cons (pg_name (i := 3) sc__has_correct_signs.nd rfl (Or.inl rfl)) (pgs_cons (pg_name (i := 2) sc__has_correct_signs.nd rfl (Or.inl rfl)) pgs_nil)))) (pgs_cons (pg_name (i := 4) sc__has_correct_signs.nd rfl (Or.inl rfl)) pgs_nil))) (pu_scons (pu_sif (pu_wand (pu_tcmp os_eq (op_eqA hr.units) (pe_pv 3) pu_str (nomark _)) (pu_wand1 (pu_tcmp os_gt op_gt (pu_call (z := _) (ms := [false]) rfl C_sign (fun _ _ => .nil) rfl rfl hr (by decide) (by rfl) (takes_of rfl rfl rfl rfl) (pu_cons (pe_pv 4) pu_nil)) pu_int (nomark _)))).pt (pu_sone (pu_sret pu_bl)) pu_snil)
 (pu_sone (pu_sif (pu_wand (pu_tcmp os_eq (op_eqA hr.units) (pe_pv 3) pu_str (nomark _)) (pu_wand1 (pu_tcmp os_lt op_lt (pu_call (z := _) (ms := [false]) rfl C_sign (fun _ _ => .nil) rfl rfl hr (by decide) (by rfl) (takes_of rfl rfl rfl rfl) (pu_cons (pe_pv 4) pu_nil)) pu_int (nomark _)))).pt (pu_sone (pu_sret pu_bl)) pu_snil))))
 (pu_sone (pu_sret pu_bl))) rfl rfl h rfl)
theorem ok_make {f : Addr} {fd : FuncData} (T : Tx K mg) (F : FunD K "make" "make" (defArgs s_make) (defBody s_make) (defScope s_make) [V.int 1] [] f fd) : FnOk P w K mg base (L2.CX P w) 1 f fd ["p", "q"] (spF K (tbs K) p_make 2) := F.ok sc_make (fun vs H Q E h => h.1) (fun cdv A outer s H vs Q E hr h => def_body (z := ⟨K, tbs K, none, fun cls d _ H => E cls d H⟩) (fb := b_make) (pu_scons (pu_sif (pu_tcmp os_eq (op_eqA hr.units) (pe_pv 1) pu_int (nomark _)) (pu_sone (pu_sraise0 rfl rfl T.e_ZeroDenominator (takes_of rfl rfl rfl rfl) (by rfl))) pu_snil)
 (pu_scons (pu_sset (i := 2) sc_make.nd rfl (Or.inl rfl) (pu_gcd T.g_gcd (by rfl) (pe_pv 0) (pe_pv 1)))
 (pu_scons (pu_sif (pu_tcmp os_lt op_lt (pe_pv 1) pu_int (nomark _)) (pu_sone (pu_sset (i := 2) sc_make.nd rfl (Or.inl rfl) (pu_neg (pe_pv 2)))) pu_snil)
 (pu_sone (pu_sret (pu_tup (pu_cons (pu_op os_fdiv op_fdivX (pe_pv 0) (pe_pv 2)) (pu_cons (pu_op os_fdiv op_fdivX (pe_pv 1) (pe_pv 2)) pu_nil)))))))) rfl rfl h rfl)
theorem ok_add {f : Addr} {fd : FuncData} (T : Tx K mg) (F : FunD K "add" "add" (defArgs s_add) (defBody s_add) (defScope s_add) [] [] f fd) (C_make : Cal P w K mg base "make" 1 ["p", "q"] [] (spF K (tbs K) p_make 2)) : FnOk P w K mg base (L2.CX P w) 2 f fd ["a", "b"] (spF K (tbs K) p_add 2) := F.ok sc_add (fun vs H Q E h => h.1) (fun cdv A outer s H vs Q E hr h => def_body (z := ⟨K, tbs K, none, fun cls d _ H => E cls d H⟩) (fb := b_add) (pu_sone (pu_sret (pu_call (z := _) (ms := [false, false]) rfl C_make (fun _ _ => .nil) rfl rfl hr (by decide) (by rfl) (takes_of rfl rfl rfl rfl) (pu_cons (pu_op os_add op_addA (pu_op os_mul op_mulA (pu_ix os_ix ix_seq (pe_pv 0) pu_int (fun _ _ => rfl)) (pu_ix os_ix ix_seq (pe_pv 1) pu_int (fun _ _ => rfl))) (pu_op os_mul op_mulA (pu_ix os_ix ix_seq (pe_pv 1) pu_int (fun _ _ => rfl)) (pu_ix os_ix ix_seq (pe_pv 0) pu_int (fun _ _ => rfl)))) (pu_cons (pu_op os_mul op_mulA (pu_ix os_ix ix_seq (pe_pv 0) pu_int (fun _ _ => rfl)) (pu_ix os_ix ix_seq (pe_pv 1) pu_int (fun _ _ => rfl))) pu_nil))))) rfl rfl h rfl)
theorem ok_multiply {f : Addr} {fd : FuncData} (T : Tx K mg) (F : FunD K "multiply" "multiply" (defArgs s_multiply) (defBody s_multiply) (defScope s_multiply) [] [] f fd) (C_make : Cal P w K mg base "make" 1 ["p", "q"] [] (spF K (tbs K) p_make 2)) : FnOk P w K mg base (L2.CX P w) 2 f fd ["a", "b"] (spF K (tbs K) p_multiply 2) := F.ok sc_multiply (fun vs H Q E h => h.1) (fun cdv A outer s H vs Q E hr h => def_body (z := ⟨K, tbs K, none, fun cls d _ H => E cls d H⟩) (fb := b_multiply) (pu_sone (pu_sret (pu_call (z := _) (ms := [false, false]) rfl C_make (fun _ _ => .nil) rfl rfl hr (by decide) (by rfl) (takes_of rfl rfl rfl rfl) (pu_cons (pu_op os_mul op_mulA (pu_ix os_ix ix_seq (pe_pv 0) pu_int (fun _ _ => rfl)) (pu_ix os_ix ix_seq (pe_pv 1) pu_int (fun _ _ => rfl))) (pu_cons (pu_op os_mul op_mulA (pu_ix os_ix ix_seq (pe_pv 0) pu_int (fun _ _ => rfl)) (pu_ix os_ix ix_seq (pe_pv 1) pu_int (fun _ _ => rfl))) pu_nil))))) rfl rfl h rfl)
theorem ok__add_product {f : Addr} {fd : FuncData} (T : Tx K mg) (F : FunD K "_add_product" "_add_product" (defArgs s__add_product) (defBody s__add_product) (defScope s__add_product) [] [] f fd) (C_add : Cal P w K mg base "add" 2 ["a", "b"] [] (spF K (tbs K) p_add 2)) (C_multiply : Cal P w K mg base "multiply" 2 ["a", "b"] [] (spF K (tbs K) p_multiply 2)) : FnOk P w K mg base (L2.CX P w) 3 f fd ["item", "factor", "number"] (spF K (tbs K) p__add_product 3) := F.ok sc__add_product (fun vs H Q E h => h.1) (fun cdv A outer s H vs Q E hr h => def_body (z := ⟨K, tbs K, none, fun cls d _ H => E cls d H⟩) (fb := b__add_product) (pu_scons (pu_sif (pu_tcmp os_eq (op_eqA hr.units) (pu_ix os_ix ix_seq (pe_pv 2) pu_int (fun _ _ => rfl)) pu_int (nomark _)) (pu_sone (pu_sret (pe_pv 0))) pu_snil)
 (pu_sone (pu_sret (pu_call (z := _) (ms := [false, false]) rfl C_add (fun _ _ => .nil) rfl rfl hr (by decide) (by rfl) (takes_of rfl rfl rfl rfl) (pu_cons (pe_pv 0) (pu_cons (pu_call (z := _) (ms := [false, false]) rfl C_multiply (fun _ _ => .nil) rfl rfl hr (by decide) (by rfl) (takes_of rfl rfl rfl rfl) (pu_cons (pe_pv 1) (pu_cons (pe_pv 2) pu_nil))) pu_nil)))))) rfl rfl h rfl)
theorem ok__sums {f : Addr} {fd : FuncData} (T : Tx K mg) (F : FunD K "_sums" "_sums" (defArgs s__sums) (defBody s__sums) (defScope s__sums) [] [] f fd) (C__add_product : Cal P w K mg base "_add_product" 3 ["item", "factor", "number"] [] (spF K (tbs K) p__add_product 3)) (C_sign : Cal P w K mg base "sign" 1 ["a"] [] (spF K (tbs K) p_sign 1)) : FnOk P w K mg base (L2.CX P w) 4 f fd ["variables", "rows", "factors"] (spF K (tbs K) p__sums 3) := F.ok sc__sums (fun vs H Q E h => h.1) (fun cdv A outer s H vs Q E hr h => def_body (z := ⟨K, tbs K, none, fun cls d _ H => E cls d H⟩) (fb := b__sums) (pu_scons (pu_sset (i := 3) sc__sums.nd rfl (Or.inl rfl) (pu_op os_mul op_mulA (pu_lst (pu_cons (pu_tup (pu_cons pu_int (pu_cons pu_int pu_nil))) pu_nil)) (pe_pv 0)))
 (pu_scons (pu_sfor (tgt := (.tp [(.tp [(.nm 4), (.nm 5), (.nm 5)]), (.nm 6)])) PassesOwn.leaving rfl (pu_iZ rfl (by rfl) T.n_zip (pe_pv 1) (pe_pv 2)) (pg_tup rfl (pgs_cons (pg_tup rfl (pgs_cons (pg_name (i := 4) sc__sums.nd rfl (Or.inl rfl)) (pgs_cons (pg_name (i := 5) sc__sums.nd rfl (Or.inl rfl)) (pgs_cons (pg_name (i := 5) sc__sums.nd rfl (Or.inl rfl)) pgs_nil)))) (pgs_cons (pg_name (i := 6) sc__sums.nd rfl (Or.inr rfl)) pgs_nil))) (pu_sone (pu_sif (pu_tcmp os_ne (op_neA hr.units) (pu_call (z := _) (ms := [false]) rfl C_sign (fun _ _ => .nil) rfl rfl hr (by decide) (by rfl) (takes_of rfl rfl rfl rfl) (pu_cons (pe_pv 6) pu_nil)) pu_int (nomark _)) (pu_sone (pu_setLc (i := 3) (own := [("item", 7), ("number", 8)]) (tgt := (.tp [(.nm 7), (.nm 8)])) rfl sc__sums.nd rfl rfl (sw_true rfl rfl rfl rfl) (pu_iZ rfl (by rfl) T.n_zip (pe_pv 3) (pe_pv 4)) (blkOk_by (N := N__sums) (sc := defScope s__sums) (by decide +kernel)) (fun _ _ _ _ _ => (pg_tup rfl (pgs_cons (pg_name (i := 7) sc__sums.nd rfl (by first | exact Or.inl rfl | exact Or.inr rfl)) (pgs_cons (pg_name (i := 8) sc__sums.nd rfl (by first | exact Or.inl rfl | exact Or.inr rfl)) pgs_nil)))) (fun _ _ _ _ _ => pts_ret) (fun _ _ _ _ _ => (pu_call (z := _) (ms := [false, false, false]) rfl C__add_product (fun _ _ => .nil) rfl rfl hr (by decide) (by rfl) takes0 (pu_cons (pe_pv 7) (pu_cons (pe_pv 6) (pu_cons (pe_pv 8) pu_nil))))) (by decide))) pu_snil)))
 (pu_sone (pu_sret (pe_pv 3))))) rfl rfl h rfl)
theorem ok_compare {f : Addr} {fd : FuncData} (T : Tx K mg) (F : FunD K "compare" "compare" (defArgs s_compare) (defBody s_compare) (defScope s_compare) [] [] f fd) (C_sign : Cal P w K mg base "sign" 1 ["a"] [] (spF K (tbs K) p_sign 1)) : FnOk P w K mg base (L2.CX P w) 2 f fd ["a", "b"] (spF K (tbs K) p_compare 2) := F.ok sc_compare (fun vs H Q E h => h.1) (fun cdv A outer s H vs Q E hr h => def_body (z := ⟨K, tbs K, none, fun cls d _ H => E cls d H⟩) (fb := b_compare) (pu_sone (pu_sret (pu_call (z := _) (ms := [false]) rfl C_sign (fun _ _ => .nil) rfl rfl hr (by decide) (by rfl) (takes_of rfl rfl rfl rfl) (pu_cons (pu_tup (pu_cons (pu_op os_sub op_sub (pu_op os_mul op_mulA (pu_ix os_ix ix_seq (pe_pv 0) pu_int (fun _ _ => rfl)) (pu_ix os_ix ix_seq (pe_pv 1) pu_int (fun _ _ => rfl))) (pu_op os_mul op_mulA (pu_ix os_ix ix_seq (pe_pv 1) pu_int (fun _ _ => rfl)) (pu_ix os_ix ix_seq (pe_pv 0) pu_int (fun _ _ => rfl)))) (pu_cons (pu_op os_mul op_mulA (pu_ix os_ix ix_seq (pe_pv 0) pu_int (fun _ _ => rfl)) (pu_ix os_ix ix_seq (pe_pv 1) pu_int (fun _ _ => rfl))) pu_nil))) pu_nil)))) rfl rfl h rfl)
theorem ok__covers {f : Addr} {fd : FuncData} (T : Tx K mg) (F : FunD K "_covers" "_covers" (defArgs s__covers) (defBody s__covers) (defScope s__covers) [] [] f fd) (C__has_correct_signs : Cal P w K mg base "_has_correct_signs" 2 ["rows", "factors"] [] (spF K (tbs K) p__has_correct_signs 2)) (C__sums : Cal P w K mg base "_sums" 4 ["variables", "rows", "factors"] [] (spF K (tbs K) p__sums 3)) (C_compare : Cal P w K mg base "compare" 2 ["a", "b"] [] (spF K (tbs K) p_compare 2)) : FnOk P w K mg base (L2.CX P w) 5 f fd ["program", "rows", "factors", "goal"] (spF K (tbs K) p__covers 4) := F.ok sc__covers (fun vs H Q E h => h.1) (fun cdv A outer s H vs Q E hr h => def_body (z := ⟨K, tbs K, none, fun cls d _ H => E cls d H⟩) (fb := b__covers) (pu_scons (pu_sif (pu_wor (pu_tcmp os_ne (op_neA hr.units) (pu_B1 us_len cl_lenA (by rfl) T.n_len bb_len (pe_pv 2)) (pu_B1 us_len cl_lenA (by rfl) T.n_len bb_len (pe_pv 1)) (nomark _)) (pu_wor1 (pu_tnot (pu_truth rfl (pu_call (z := _) (ms := [false, false]) rfl C__has_correct_signs (fun _ _ => .nil) rfl rfl hr (by decide) (by rfl) (takes_of rfl rfl rfl rfl) (pu_cons (pe_pv 1) (pu_cons (pe_pv 2) pu_nil))))))).pt (pu_sone (pu_sret pu_bl)) pu_snil)
 (pu_scons (pu_sset (i := 4) sc__covers.nd rfl (Or.inl rfl) (pu_call (z := _) (ms := [false, false, false]) rfl C__sums (fun _ _ => .nil) rfl rfl hr (by decide) (by rfl) (takes_of rfl rfl rfl rfl) (pu_cons (pu_fld rfl (fun c h => by simp only [List.mem_cons, List.not_mem_nil, or_false] at h; rcases h with rfl <;> first | exact ⟨T.cl_Program, T.na_Program_variables⟩) (pe_pv 0) rfl) (pu_cons (pe_pv 1) (pu_cons (pe_pv 2) pu_nil)))))
 (pu_scons (pu_sfor (tgt := (.tp [(.nm 5), (.nm 6), (.nm 7)])) PassesOwn.leaving rfl (pu_iZ3 rfl (by rfl) T.n_zip (pu_fld rfl (fun c h => by simp only [List.mem_cons, List.not_mem_nil, or_false] at h; rcases h with rfl <;> first | exact ⟨T.cl_Program, T.na_Program_free⟩) (pe_pv 0) rfl) (pe_pv 4) (pe_pv 3)) (pg_tup rfl (pgs_cons (pg_name (i := 5) sc__covers.nd rfl (Or.inl rfl)) (pgs_cons (pg_name (i := 6) sc__covers.nd rfl (Or.inl rfl)) (pgs_cons (pg_name (i := 7) sc__covers.nd rfl (Or.inl rfl)) pgs_nil)))) (pu_scons (pu_sset (i := 8) sc__covers.nd rfl (Or.inl rfl) (pu_call (z := _) (ms := [false, false]) rfl C_compare (fun _ _ => .nil) rfl rfl hr (by decide) (by rfl) (takes_of rfl rfl rfl rfl) (pu_cons (pe_pv 6) (pu_cons (pe_pv 7) pu_nil))))
 (pu_sone (pu_sif (pu_wor (pu_tcmp os_lt op_lt (pe_pv 8) pu_int (nomark _)) (pu_wor1 (pu_wand (pu_truth rfl (pe_pv 5)) (pu_wand1 (pu_tcmp os_ne (op_neA hr.units) (pe_pv 8) pu_int (nomark _)))).pt)).pt (pu_sone (pu_sret pu_bl)) pu_snil))))
 (pu_sone (pu_sret pu_bl))))) rfl rfl h rfl)
theorem ok_dot {f : Addr} {fd : FuncData} (T : Tx K mg) (F : FunD K "dot" "dot" (defArgs s_dot) (defBody s_dot) (defScope s_dot) [] [] f fd) (C_add : Cal P w K mg base "add" 2 ["a", "b"] [] (spF K (tbs K) p_add 2)) (C_multiply : Cal P w K mg base "multiply" 2 ["a", "b"] [] (spF K (tbs K) p_multiply 2)) : FnOk P w K mg base (L2.CX P w) 3 f fd ["first", "second"] (spF K (tbs K) p_dot 2) := F.ok sc_dot (fun vs H Q E h => h.1) (fun cdv A outer s H vs Q E hr h => def_body (z := ⟨K, tbs K, none, fun cls d _ H => E cls d H⟩) (fb := b_dot) (pu_scons (pu_sset (i := 2) sc_dot.nd rfl (Or.inl rfl) (pu_tup (pu_cons pu_int (pu_cons pu_int pu_nil))))
 (pu_scons (pu_sfor (tgt := (.tp [(.nm 3), (.nm 4)])) PassesOwn.leaving rfl (pu_iZ rfl (by rfl) T.n_zip (pe_pv 0) (pe_pv 1)) (pg_tup rfl (pgs_cons (pg_name (i := 3) sc_dot.nd rfl (Or.inl rfl)) (pgs_cons (pg_name (i := 4) sc_dot.nd rfl (Or.inl rfl)) pgs_nil))) (pu_sone (pu_sif (pu_wand (pu_tcmp os_ne (op_neA hr.units) (pu_ix os_ix ix_seq (pe_pv 3) pu_int (fun _ _ => rfl)) pu_int (nomark _)) (pu_wand1 (pu_tcmp os_ne (op_neA hr.units) (pu_ix os_ix ix_seq (pe_pv 4) pu_int (fun _ _ => rfl)) pu_int (nomark _)))).pt (pu_sone (pu_sset (i := 2) sc_dot.nd rfl (Or.inl rfl) (pu_call (z := _) (ms := [false, false]) rfl C_add (fun _ _ => .nil) rfl rfl hr (by decide) (by rfl) (takes_of rfl rfl rfl rfl) (pu_cons (pe_pv 2) (pu_cons (pu_call (z := _) (ms := [false, false]) rfl C_multiply (fun _ _ => .nil) rfl rfl hr (by decide) (by rfl) (takes_of rfl rfl rfl rfl) (pu_cons (pe_pv 3) (pu_cons (pe_pv 4) pu_nil))) pu_nil))))) pu_snil)))
 (pu_sone (pu_sret (pe_pv 2))))) rfl rfl h rfl)
theorem ok_bound_of_rows {f : Addr} {fd : FuncData} (T : Tx K mg) (F : FunD K "bound_of_rows" "bound_of_rows" (defArgs s_bound_of_rows) (defBody s_bound_of_rows) (defScope s_bound_of_rows) [] [] f fd) (C_dot : Cal P w K mg base "dot" 3 ["first", "second"] [] (spF K (tbs K) p_dot 2)) : FnOk P w K mg base (L2.CX P w) 4 f fd ["rows", "factors"] (spF K (tbs K) p_bound_of_rows 2) := F.ok sc_bound_of_rows (fun vs H Q E h => h.1) (fun cdv A outer s H vs Q E hr h => def_body (z := ⟨K, tbs K, none, fun cls d _ H => E cls d H⟩) (fb := b_bound_of_rows) (pu_sone (pu_sret (pu_call (z := _) (ms := [false, false]) rfl C_dot (fun _ _ => .nil) rfl rfl hr (by decide) (by rfl) (takes_of rfl rfl rfl rfl) (pu_cons (pe_pv 1) (pu_cons (pu_lc (own := [("row", 2)]) (tgt := (.nm 2)) rfl sc_bound_of_rows.nd  (pu_iE rfl (pe_pv 0)) (blkOk_by (N := N_bound_of_rows) (sc := defScope s_bound_of_rows) (by decide +kernel)) (fun _ _ _ _ _ => (pg_name (i := 2) sc_bound_of_rows.nd rfl (by first | exact Or.inl rfl | exact Or.inr rfl))) (fun _ _ _ _ _ => pts_ret) (fun _ _ _ _ _ => (pu_ix os_ix ix_seq (pe_pv 2) pu_int (fun _ _ => rfl))) (by decide)) pu_nil))))) rfl rfl h rfl)
theorem ok_agrees {f : Addr} {fd : FuncData} (T : Tx K mg) (F : FunD K "agrees" "agrees" (defArgs s_agrees) (defBody s_agrees) (defScope s_agrees) [] [] f fd) : FnOk P w K mg base (L2.CX P w) 1 f fd ["relation", "order"] (spF K (tbs K) p_agrees 2) := F.ok sc_agrees (fun vs H Q E h => h.1) (fun cdv A outer s H vs Q E hr h => def_body (z := ⟨K, tbs K, none, fun cls d _ H => E cls d H⟩) (fb := b_agrees) (pu_scons (pu_sif (pu_tcmp os_eq (op_eqA hr.units) (pe_pv 0) pu_str (nomark _)) (pu_sone (pu_sret (pu_cmp os_ge op_ge (pe_pv 1) pu_int (nomark _)))) pu_snil)
 (pu_scons (pu_sif (pu_tcmp os_eq (op_eqA hr.units) (pe_pv 0) pu_str (nomark _)) (pu_sone (pu_sret (pu_cmp os_le op_le (pe_pv 1) pu_int (nomark _)))) pu_snil)
 (pu_sone (pu_sret (pu_cmp os_eq (op_eqA hr.units) (pe_pv 1) pu_int (nomark _)))))) rfl rfl h rfl)
theorem ok_keeps_signs {f : Addr} {fd : FuncData} (T : Tx K mg) (F : FunD K "keeps_signs" "keeps_signs" (defArgs s_keeps_signs) (defBody s_keeps_signs) (defScope s_keeps_signs) [] [] f fd) (hf : f = He.fAd K (("keeps_signs", none) : He.Defn)) (TB : GxR.TabB base mg (He.cT K (("keeps_signs", none) : He.Defn)).1 (He.cT K (("keeps_signs", none) : He.Defn)).2) : FnOk P w K mg base (L2.CX P w) 2 f fd ["program", "point"] (spF K (tbs K) p_keeps_signs 2) := UbG.FunD.okT F hf sc_keeps_signs (fun vs H Q E h => h.1) (fun A outer s H vs Q E hr h => def_body (z := ⟨K, tbs K, none, fun cls d _ H => E cls d H⟩) (fb := b_keeps_signs) (pu_scons (pu_sif (pu_tcmp os_ne (op_neA hr.units) (pu_B1 us_len cl_lenA (by rfl) T.n_len bb_len (pe_pv 1)) (pu_fld rfl (fun c h => by simp only [List.mem_cons, List.not_mem_nil, or_false] at h; rcases h with rfl <;> first | exact ⟨T.cl_Program, T.na_Program_variables⟩) (pe_pv 0) rfl) (nomark _)) (pu_sone (pu_sret pu_bl)) pu_snil)
 (pu_sone (pu_sret (pu_all (c := (He.cT K (("keeps_signs", none) : He.Defn)).1) (P := (He.cT K (("keeps_signs", none) : He.Defn)).2) (k := 0) (own := [("free", 2), ("item", 3)]) (tg := (.tp [(.nm 2), (.nm 3)])) (by show _ ∈ tbs K; unfold tbs tf0; simp) hr sc_keeps_signs.nd (by rfl) T.n_all TB rfl (UbG.gexOk_by (N := N_keeps_signs) (sc := defScope s_keeps_signs) (by decide +kernel)) (pu_iZ rfl (by rfl) T.n_zip (pu_fld rfl (fun c h => by simp only [List.mem_cons, List.not_mem_nil, or_false] at h; rcases h with rfl <;> first | exact ⟨T.cl_Program, T.na_Program_free⟩) (pe_pv 0) rfl) (pe_pv 1)) (fun _ _ _ _ _ _ _ hrG => ⟨(pg_tup rfl (pgs_cons (pg_name (i := 2) sc_keeps_signs.nd rfl (by first | exact Or.inl rfl | exact Or.inr rfl)) (pgs_cons (pg_name (i := 3) sc_keeps_signs.nd rfl (by first | exact Or.inl rfl | exact Or.inr rfl)) pgs_nil))), (pu_or rfl (pe_pv 2) (pu_one (pu_cmp os_ge op_ge (pu_ix os_ix ix_seq (pe_pv 3) pu_int (fun _ _ => rfl)) pu_int (nomark _))))⟩) (by decide))))) rfl rfl h rfl)
theorem ok_fits_rows {f : Addr} {fd : FuncData} (T : Tx K mg) (F : FunD K "fits_rows" "fits_rows" (defArgs s_fits_rows) (defBody s_fits_rows) (defScope s_fits_rows) [] [] f fd) (C_agrees : Cal P w K mg base "agrees" 1 ["relation", "order"] [] (spF K (tbs K) p_agrees 2)) (C_compare : Cal P w K mg base "compare" 2 ["a", "b"] [] (spF K (tbs K) p_compare 2)) (C_dot : Cal P w K mg base "dot" 3 ["first", "second"] [] (spF K (tbs K) p_dot 2)) (C_keeps_signs : Cal P w K mg base "keeps_signs" 2 ["program", "point"] [] (spF K (tbs K) p_keeps_signs 2)) : FnOk P w K mg base (L2.CX P w) 4 f fd ["program", "rows", "point"] (spF K (tbs K) p_fits_rows 3) := F.ok sc_fits_rows (fun vs H Q E h => h.1) (fun cdv A outer s H vs Q E hr h => def_body (z := ⟨K, tbs K, none, fun cls d _ H => E cls d H⟩) (fb := b_fits_rows) (pu_scons (pu_sif (pu_tnot (pu_truth rfl (pu_call (z := _) (ms := [false, false]) rfl C_keeps_signs (fun _ _ => .nil) rfl rfl hr (by decide) (by rfl) (takes_of rfl rfl rfl rfl) (pu_cons (pe_pv 0) (pu_cons (pe_pv 2) pu_nil))))) (pu_sone (pu_sret pu_bl)) pu_snil)
 (pu_scons (pu_sfor (tgt := (.tp [(.nm 3), (.nm 4), (.nm 5)])) PassesOwn.leaving rfl (pu_iE rfl (pe_pv 1)) (pg_tup rfl (pgs_cons (pg_name (i := 3) sc_fits_rows.nd rfl (Or.inl rfl)) (pgs_cons (pg_name (i := 4) sc_fits_rows.nd rfl (Or.inl rfl)) (pgs_cons (pg_name (i := 5) sc_fits_rows.nd rfl (Or.inl rfl)) pgs_nil)))) (pu_sone (pu_sif (pu_tnot (pu_truth rfl (pu_call (z := _) (ms := [false, false]) rfl C_agrees (fun _ _ => .nil) rfl rfl hr (by decide) (by rfl) (takes_of rfl rfl rfl rfl) (pu_cons (pe_pv 4) (pu_cons (pu_call (z := _) (ms := [false, false]) rfl C_compare (fun _ _ => .nil) rfl rfl hr (by decide) (by rfl) (takes_of rfl rfl rfl rfl) (pu_cons (pu_call (z := _) (ms := [false, false]) rfl C_dot (fun _ _ => .nil) rfl rfl hr (by decide) (by rfl) (takes_of rfl rfl rfl rfl) (pu_cons (pe_pv 3) (pu_cons (pe_pv 2) pu_nil))) (pu_cons (pe_pv 5) pu_nil))) pu_nil))))) (pu_sone (pu_sret pu_bl)) pu_snil)))
 (pu_sone (pu_sret pu_bl)))) rfl rfl h rfl)
theorem ok_value_of {f : Addr} {fd : FuncData} (T : Tx K mg) (F : FunD K "value_of" "value_of" (defArgs s_value_of) (defBody s_value_of) (defScope s_value_of) [] [] f fd) (C_dot : Cal P w K mg base "dot" 3 ["first", "second"] [] (spF K (tbs K) p_dot 2)) : FnOk P w K mg base (L2.CX P w) 4 f fd ["program", "point"] (spF K (tbs K) p_value_of 2) := F.ok sc_value_of (fun vs H Q E h => h.1) (fun cdv A outer s H vs Q E hr h => def_body (z := ⟨K, tbs K, none, fun cls d _ H => E cls d H⟩) (fb := b_value_of) (pu_sone (pu_sret (pu_call (z := _) (ms := [false, false]) rfl C_dot (fun _ _ => .nil) rfl rfl hr (by decide) (by rfl) (takes_of rfl rfl rfl rfl) (pu_cons (pu_fld rfl (fun c h => by simp only [List.mem_cons, List.not_mem_nil, or_false] at h; rcases h with rfl <;> first | exact ⟨T.cl_Program, T.na_Program_goal⟩) (pe_pv 0) rfl) (pu_cons (pe_pv 1) pu_nil))))) rfl rfl h rfl)
theorem ok__accepts_best {f : Addr} {fd : FuncData} (T : Tx K mg) (F : FunD K "_accepts_best" "_accepts_best" (defArgs s__accepts_best) (defBody s__accepts_best) (defScope s__accepts_best) [] [] f fd) (C__covers : Cal P w K mg base "_covers" 5 ["program", "rows", "factors", "goal"] [] (spF K (tbs K) p__covers 4)) (C_bound_of_rows : Cal P w K mg base "bound_of_rows" 4 ["rows", "factors"] [] (spF K (tbs K) p_bound_of_rows 2)) (C_fits_rows : Cal P w K mg base "fits_rows" 4 ["program", "rows", "point"] [] (spF K (tbs K) p_fits_rows 3)) (C_value_of : Cal P w K mg base "value_of" 4 ["program", "point"] [] (spF K (tbs K) p_value_of 2)) : FnOk P w K mg base (L2.CX P w) 6 f fd ["program", "rows", "x", "y"] (spF K (tbs K) p__accepts_best 4) := F.ok sc__accepts_best (fun vs H Q E h => h.1) (fun cdv A outer s H vs Q E hr h => def_body (z := ⟨K, tbs K, none, fun cls d _ H => E cls d H⟩) (fb := b__accepts_best) (pu_scons (pu_sif (pu_wor (pu_tnot (pu_truth rfl (pu_call (z := _) (ms := [false, false, false]) rfl C_fits_rows (fun _ _ => .nil) rfl rfl hr (by decide) (by rfl) (takes_of rfl rfl rfl rfl) (pu_cons (pe_pv 0) (pu_cons (pe_pv 1) (pu_cons (pe_pv 2) pu_nil)))))) (pu_wor1 (pu_tnot (pu_truth rfl (pu_call (z := _) (ms := [false, false, false, false]) rfl C__covers (fun _ _ => .nil) rfl rfl hr (by decide) (by rfl) (takes_of rfl rfl rfl rfl) (pu_cons (pe_pv 0) (pu_cons (pe_pv 1) (pu_cons (pe_pv 3) (pu_cons (pu_fld rfl (fun c h => by simp only [List.mem_cons, List.not_mem_nil, or_false] at h; rcases h with rfl <;> first | exact ⟨T.cl_Program, T.na_Program_goal⟩) (pe_pv 0) rfl) pu_nil))))))))).pt (pu_sone (pu_sret pu_bl)) pu_snil)
 (pu_sone (pu_sret (pu_cmp os_eq (op_eqA hr.units) (pu_call (z := _) (ms := [false, false]) rfl C_bound_of_rows (fun _ _ => .nil) rfl rfl hr (by decide) (by rfl) (takes_of rfl rfl rfl rfl) (pu_cons (pe_pv 1) (pu_cons (pe_pv 3) pu_nil))) (pu_call (z := _) (ms := [false, false]) rfl C_value_of (fun _ _ => .nil) rfl rfl hr (by decide) (by rfl) (takes_of rfl rfl rfl rfl) (pu_cons (pe_pv 0) (pu_cons (pe_pv 2) pu_nil))) (nomark _))))) rfl rfl h rfl)
theorem ok__accepts_endless {f : Addr} {fd : FuncData} (T : Tx K mg) (F : FunD K "_accepts_endless" "_accepts_endless" (defArgs s__accepts_endless) (defBody s__accepts_endless) (defScope s__accepts_endless) [] [] f fd) (C_agrees : Cal P w K mg base "agrees" 1 ["relation", "order"] [] (spF K (tbs K) p_agrees 2)) (C_dot : Cal P w K mg base "dot" 3 ["first", "second"] [] (spF K (tbs K) p_dot 2)) (C_fits_rows : Cal P w K mg base "fits_rows" 4 ["program", "rows", "point"] [] (spF K (tbs K) p_fits_rows 3)) (C_keeps_signs : Cal P w K mg base "keeps_signs" 2 ["program", "point"] [] (spF K (tbs K) p_keeps_signs 2)) (C_sign : Cal P w K mg base "sign" 1 ["a"] [] (spF K (tbs K) p_sign 1)) : FnOk P w K mg base (L2.CX P w) 5 f fd ["program", "rows", "x", "ray"] (spF K (tbs K) p__accepts_endless 4) := F.ok sc__accepts_endless (fun vs H Q E h => h.1) (fun cdv A outer s H vs Q E hr h => def_body (z := ⟨K, tbs K, none, fun cls d _ H => E cls d H⟩) (fb := b__accepts_endless) (pu_scons (pu_sif (pu_wor (pu_tnot (pu_truth rfl (pu_call (z := _) (ms := [false, false, false]) rfl C_fits_rows (fun _ _ => .nil) rfl rfl hr (by decide) (by rfl) (takes_of rfl rfl rfl rfl) (pu_cons (pe_pv 0) (pu_cons (pe_pv 1) (pu_cons (pe_pv 2) pu_nil)))))) (pu_wor1 (pu_tnot (pu_truth rfl (pu_call (z := _) (ms := [false, false]) rfl C_keeps_signs (fun _ _ => .nil) rfl rfl hr (by decide) (by rfl) (takes_of rfl rfl rfl rfl) (pu_cons (pe_pv 0) (pu_cons (pe_pv 3) pu_nil))))))).pt (pu_sone (pu_sret pu_bl)) pu_snil)
 (pu_scons (pu_sfor (tgt := (.tp [(.nm 4), (.nm 5), (.nm 6)])) PassesOwn.leaving rfl (pu_iE rfl (pe_pv 1)) (pg_tup rfl (pgs_cons (pg_name (i := 4) sc__accepts_endless.nd rfl (Or.inl rfl)) (pgs_cons (pg_name (i := 5) sc__accepts_endless.nd rfl (Or.inl rfl)) (pgs_cons (pg_name (i := 6) sc__accepts_endless.nd rfl (Or.inl rfl)) pgs_nil)))) (pu_sone (pu_sif (pu_tnot (pu_truth rfl (pu_call (z := _) (ms := [false, false]) rfl C_agrees (fun _ _ => .nil) rfl rfl hr (by decide) (by rfl) (takes_of rfl rfl rfl rfl) (pu_cons (pe_pv 5) (pu_cons (pu_call (z := _) (ms := [false]) rfl C_sign (fun _ _ => .nil) rfl rfl hr (by decide) (by rfl) (takes_of rfl rfl rfl rfl) (pu_cons (pu_call (z := _) (ms := [false, false]) rfl C_dot (fun _ _ => .nil) rfl rfl hr (by decide) (by rfl) (takes_of rfl rfl rfl rfl) (pu_cons (pe_pv 4) (pu_cons (pe_pv 3) pu_nil))) pu_nil)) pu_nil))))) (pu_sone (pu_sret pu_bl)) pu_snil)))
 (pu_sone (pu_sret (pu_cmp os_gt op_gt (pu_call (z := _) (ms := [false]) rfl C_sign (fun _ _ => .nil) rfl rfl hr (by decide) (by rfl) (takes_of rfl rfl rfl rfl) (pu_cons (pu_call (z := _) (ms := [false, false]) rfl C_dot (fun _ _ => .nil) rfl rfl hr (by decide) (by rfl) (takes_of rfl rfl rfl rfl) (pu_cons (pu_fld rfl (fun c h => by simp only [List.mem_cons, List.not_mem_nil, or_false] at h; rcases h with rfl <;> first | exact ⟨T.cl_Program, T.na_Program_goal⟩) (pe_pv 0) rfl) (pu_cons (pe_pv 3) pu_nil))) pu_nil)) pu_int (nomark _)))))) rfl rfl h rfl)
theorem ok__accepts_none {f : Addr} {fd : FuncData} (T : Tx K mg) (F : FunD K "_accepts_none" "_accepts_none" (defArgs s__accepts_none) (defBody s__accepts_none) (defScope s__accepts_none) [] [] f fd) (C__covers : Cal P w K mg base "_covers" 5 ["program", "rows", "factors", "goal"] [] (spF K (tbs K) p__covers 4)) (C_bound_of_rows : Cal P w K mg base "bound_of_rows" 4 ["rows", "factors"] [] (spF K (tbs K) p_bound_of_rows 2)) (C_sign : Cal P w K mg base "sign" 1 ["a"] [] (spF K (tbs K) p_sign 1)) : FnOk P w K mg base (L2.CX P w) 6 f fd ["program", "rows", "y"] (spF K (tbs K) p__accepts_none 3) := F.ok sc__accepts_none (fun vs H Q E h => h.1) (fun cdv A outer s H vs Q E hr h => def_body (z := ⟨K, tbs K, none, fun cls d _ H => E cls d H⟩) (fb := b__accepts_none) (pu_scons (pu_sset (i := 3) sc__accepts_none.nd rfl (Or.inl rfl) (pu_op os_mul op_mulA (pu_lst (pu_cons (pu_tup (pu_cons pu_int (pu_cons pu_int pu_nil))) pu_nil)) (pu_fld rfl (fun c h => by simp only [List.mem_cons, List.not_mem_nil, or_false] at h; rcases h with rfl <;> first | exact ⟨T.cl_Program, T.na_Program_variables⟩) (pe_pv 0) rfl)))
 (pu_sone (pu_sret (pu_and rfl (pu_call (z := _) (ms := [false, false, false, false]) rfl C__covers (fun _ _ => .nil) rfl rfl hr (by decide) (by rfl) (takes_of rfl rfl rfl rfl) (pu_cons (pe_pv 0) (pu_cons (pe_pv 1) (pu_cons (pe_pv 2) (pu_cons (pe_pv 3) pu_nil))))) (pu_one (pu_cmp os_lt op_lt (pu_call (z := _) (ms := [false]) rfl C_sign (fun _ _ => .nil) rfl rfl hr (by decide) (by rfl) (takes_of rfl rfl rfl rfl) (pu_cons (pu_call (z := _) (ms := [false, false]) rfl C_bound_of_rows (fun _ _ => .nil) rfl rfl hr (by decide) (by rfl) (takes_of rfl rfl rfl rfl) (pu_cons (pe_pv 1) (pu_cons (pe_pv 2) pu_nil))) pu_nil)) pu_int (nomark _))))))) rfl rfl h rfl)
theorem ok_accepts_rows {f : Addr} {fd : FuncData} (T : Tx K mg) (F : FunD K "accepts_rows" "accepts_rows" (defArgs s_accepts_rows) (defBody s_accepts_rows) (defScope s_accepts_rows) [] [] f fd) (C__accepts_best : Cal P w K mg base "_accepts_best" 6 ["program", "rows", "x", "y"] [] (spF K (tbs K) p__accepts_best 4)) (C__accepts_endless : Cal P w K mg base "_accepts_endless" 5 ["program", "rows", "x", "ray"] [] (spF K (tbs K) p__accepts_endless 4)) (C__accepts_none : Cal P w K mg base "_accepts_none" 6 ["program", "rows", "y"] [] (spF K (tbs K) p__accepts_none 3)) : FnOk P w K mg base (L2.CX P w) 7 f fd ["program", "rows", "certificate"] (spF K (tbs K) p_accepts_rows 3) := F.ok sc_accepts_rows (fun vs H Q E h => h.1) (fun cdv A outer s H vs Q E hr h => def_body (z := ⟨K, tbs K, none, fun cls d _ H => E cls d H⟩) (fb := b_accepts_rows) (pu_scons (pu_sasg (tg := (.tp [(.nm 3), (.nm 4), (.nm 5), (.nm 6)])) (pe_pv 2) (pg_tup rfl (pgs_cons (pg_name (i := 3) sc_accepts_rows.nd rfl (Or.inl rfl)) (pgs_cons (pg_name (i := 4) sc_accepts_rows.nd rfl (Or.inl rfl)) (pgs_cons (pg_name (i := 5) sc_accepts_rows.nd rfl (Or.inl rfl)) (pgs_cons (pg_name (i := 6) sc_accepts_rows.nd rfl (Or.inl rfl)) pgs_nil))))))
 (pu_scons (pu_sif (pu_tcmp os_eq (op_eqA hr.units) (pe_pv 3) pu_str (nomark _)) (pu_sone (pu_sret (pu_call (z := _) (ms := [false, false, false, false]) rfl C__accepts_best (fun _ _ => .nil) rfl rfl hr (by decide) (by rfl) (takes_of rfl rfl rfl rfl) (pu_cons (pe_pv 0) (pu_cons (pe_pv 1) (pu_cons (pe_pv 4) (pu_cons (pe_pv 5) pu_nil))))))) pu_snil)
 (pu_scons (pu_sif (pu_tcmp os_eq (op_eqA hr.units) (pe_pv 3) pu_str (nomark _)) (pu_sone (pu_sret (pu_call (z := _) (ms := [false, false, false]) rfl C__accepts_none (fun _ _ => .nil) rfl rfl hr (by decide) (by rfl) (takes_of rfl rfl rfl rfl) (pu_cons (pe_pv 0) (pu_cons (pe_pv 1) (pu_cons (pe_pv 5) pu_nil)))))) pu_snil)
 (pu_scons (pu_sif (pu_tcmp os_eq (op_eqA hr.units) (pe_pv 3) pu_str (nomark _)) (pu_sone (pu_sret (pu_call (z := _) (ms := [false, false, false, false]) rfl C__accepts_endless (fun _ _ => .nil) rfl rfl hr (by decide) (by rfl) (takes_of rfl rfl rfl rfl) (pu_cons (pe_pv 0) (pu_cons (pe_pv 1) (pu_cons (pe_pv 4) (pu_cons (pe_pv 6) pu_nil))))))) pu_snil)
 (pu_sone (pu_sret pu_bl)))))) rfl rfl h rfl)
theorem ok_accepts_certificate {f : Addr} {fd : FuncData} (T : Tx K mg) (F : FunD K "accepts_certificate" "accepts_certificate" (defArgs s_accepts_certificate) (defBody s_accepts_certificate) (defScope s_accepts_certificate) [] [] f fd) (C_accepts_rows : Cal P w K mg base "accepts_rows" 7 ["program", "rows", "certificate"] [] (spF K (tbs K) p_accepts_rows 3)) : FnOk P w K mg base (L2.CX P w) 8 f fd ["program", "certificate"] (spF K (tbs K) p_accepts_certificate 2) := F.ok sc_accepts_certificate (fun vs H Q E h => h.1) (fun cdv A outer s H vs Q E hr h => def_body (z := ⟨K, tbs K, none, fun cls d _ H => E cls d H⟩) (fb := b_accepts_certificate) (pu_sone (pu_sret (pu_call (z := _) (ms := [false, false, false]) rfl C_accepts_rows (fun _ _ => .nil) rfl rfl hr (by decide) (by rfl) (takes_of rfl rfl rfl rfl) (pu_cons (pe_pv 0) (pu_cons (pu_fld rfl (fun c h => by simp only [List.mem_cons, List.not_mem_nil, or_false] at h; rcases h with rfl <;> first | exact ⟨T.cl_Program, T.na_Program_rows⟩) (pe_pv 0) rfl) (pu_cons (pe_pv 1) pu_nil)))))) rfl rfl h rfl)
theorem ok_bound_of {f : Addr} {fd : FuncData} (T : Tx K mg) (F : FunD K "bound_of" "bound_of" (defArgs s_bound_of) (defBody s_bound_of) (defScope s_bound_of) [] [] f fd) (C_bound_of_rows : Cal P w K mg base "bound_of_rows" 4 ["rows", "factors"] [] (spF K (tbs K) p_bound_of_rows 2)) : FnOk P w K mg base (L2.CX P w) 5 f fd ["program", "factors"] (spF K (tbs K) p_bound_of 2) := F.ok sc_bound_of (fun vs H Q E h => h.1) (fun cdv A outer s H vs Q E hr h => def_body (z := ⟨K, tbs K, none, fun cls d _ H => E cls d H⟩) (fb := b_bound_of) (pu_sone (pu_sret (pu_call (z := _) (ms := [false, false]) rfl C_bound_of_rows (fun _ _ => .nil) rfl rfl hr (by decide) (by rfl) (takes_of rfl rfl rfl rfl) (pu_cons (pu_fld rfl (fun c h => by simp only [List.mem_cons, List.not_mem_nil, or_false] at h; rcases h with rfl <;> first | exact ⟨T.cl_Program, T.na_Program_rows⟩) (pe_pv 0) rfl) (pu_cons (pe_pv 1) pu_nil))))) rfl rfl h rfl)
theorem ok_law {f : Addr} {fd : FuncData} (T : Tx K mg) (F : FunD K "law" "law" (defArgs s_law) (defBody s_law) (defScope s_law) [] [] f fd) (C__law_accepted : Cal P w K mg base "_law_accepted" 7 ["program", "certificate"] [] (spF K (tbs K) p__law_accepted 2)) (C__law_around : Cal P w K mg base "_law_around" 4 ["row", "program"] [] (spF K (tbs K) p__law_around 2)) (C__law_changed : Cal P w K mg base "_law_changed" 3 ["row", "values"] [] (spF K (tbs K) p__law_changed 2)) (C__law_dot : Cal P w K mg base "_law_dot" 3 ["first", "second"] [] (spF K (tbs K) p__law_dot 2)) (C__law_drawn : Cal P w K mg base "_law_drawn" 4 ["row", "program"] [] (spF K (tbs K) p__law_drawn 2)) (C__law_made : Cal P w K mg base "_law_made" 6 ["program"] [] (spF K (tbs K) p__law_made 1)) (C__law_numbers : Cal P w K mg base "_law_numbers" 2 ["script", "count"] [] (spF K (tbs K) p__law_numbers 2)) (C__law_program : Cal P w K mg base "_law_program" 4 ["row", "most"] [] (spF K (tbs K) p__law_program 2)) (C__law_take : Cal P w K mg base "_law_take" 1 ["row", "bound"] [] (spF K (tbs K) p__law_take 2)) (C_accepts_certificate : Cal P w K mg base "accepts_certificate" 8 ["program", "certificate"] [] (spF K (tbs K) p_accepts_certificate 2)) (C_bound_of : Cal P w K mg base "bound_of" 5 ["program", "factors"] [] (spF K (tbs K) p_bound_of 2)) : FnOk P w K mg base (L2.CX P w) 9 f fd ["script"] (spF K (tbs K) p_law 1) := F.ok sc_law (fun vs H Q E h => h.1) (fun cdv A outer s H vs Q E hr h => def_body (z := ⟨K, tbs K, none, fun cls d _ H => E cls d H⟩) (fb := b_law) (pu_scons (pu_sown (i := 1) sc_law.nd rfl (Or.inl rfl) (pu_call (z := _) (ms := [false, false]) rfl C__law_numbers (fun _ _ => .nil) rfl rfl hr (by decide) (by rfl) (takes_of rfl rfl rfl rfl) (pu_cons (pe_pv 0) (pu_cons pu_int pu_nil))))
 (pu_scons (pu_sset (i := 2) sc_law.nd rfl (Or.inl rfl) (pu_call (z := _) (ms := [true, false]) rfl C__law_program (fun _ _ => .nil) rfl rfl hr (by decide) (by rfl) (takes_of rfl rfl rfl rfl) (pu_cons (pe_pv 1) (pu_cons pu_int pu_nil))))
 (pu_scons (pu_sset (i := 3) sc_law.nd rfl (Or.inl rfl) (pu_call (z := _) (ms := [true, false]) rfl C__law_drawn (fun _ _ => .nil) rfl rfl hr (by decide) (by rfl) (takes_of rfl rfl rfl rfl) (pu_cons (pe_pv 1) (pu_cons (pe_pv 2) pu_nil))))
 (pu_scons (pu_sif (pu_tcmp os_gt op_gt (pu_call (z := _) (ms := [true, false]) rfl C__law_take (fun _ _ => .nil) rfl rfl hr (by decide) (by rfl) (takes_of rfl rfl rfl rfl) (pu_cons (pe_pv 1) (pu_cons pu_int pu_nil))) pu_int (nomark _)) (pu_scons (pu_sasg (tg := (.tp [(.nm 2), (.nm 3)])) (pu_call (z := _) (ms := [true, false]) rfl C__law_around (fun _ _ => .nil) rfl rfl hr (by decide) (by rfl) (takes_of rfl rfl rfl rfl) (pu_cons (pe_pv 1) (pu_cons (pe_pv 2) pu_nil))) (pg_tup rfl (pgs_cons (pg_name (i := 2) sc_law.nd rfl (Or.inl rfl)) (pgs_cons (pg_name (i := 3) sc_law.nd rfl (Or.inl rfl)) pgs_nil))))
 (pu_sone (pu_sif (pu_tnot (pu_truth rfl (pu_call (z := _) (ms := [false, false]) rfl C__law_accepted (fun _ _ => .nil) rfl rfl hr (by decide) (by rfl) (takes_of rfl rfl rfl rfl) (pu_cons (pe_pv 2) (pu_cons (pe_pv 3) pu_nil))))) (pu_sone (pu_sret pu_bl)) pu_snil))) pu_snil)
 (pu_scons (pu_sown (i := 4) sc_law.nd rfl (Or.inl rfl) (pu_lst (pu_cons (pe_pv 3) pu_nil)))
 (pu_scons (pu_sfor (tgt := (.nm 5)) PassesOwn.leaving rfl (pu_iR1 (by rfl) T.n_range pu_int) (pg_name (i := 5) sc_law.nd rfl (Or.inl rfl)) (pu_scons (pu_sasg (tg := (.tp [(.nm 6), (.nm 7), (.nm 8), (.nm 9)])) (pe_pv 3) (pg_tup rfl (pgs_cons (pg_name (i := 6) sc_law.nd rfl (Or.inl rfl)) (pgs_cons (pg_name (i := 7) sc_law.nd rfl (Or.inl rfl)) (pgs_cons (pg_name (i := 8) sc_law.nd rfl (Or.inl rfl)) (pgs_cons (pg_name (i := 9) sc_law.nd rfl (Or.inl rfl)) pgs_nil))))))
 (pu_scons (pu_sset (i := 10) sc_law.nd rfl (Or.inl rfl) (pu_call (z := _) (ms := [true, false]) rfl C__law_take (fun _ _ => .nil) rfl rfl hr (by decide) (by rfl) (takes_of rfl rfl rfl rfl) (pu_cons (pe_pv 1) (pu_cons pu_int pu_nil))))
 (pu_scons (pu_sif (pu_tcmp os_eq (op_eqA hr.units) (pe_pv 10) pu_int (nomark _)) (pu_sone (pu_sset (i := 7) sc_law.nd rfl (Or.inl rfl) (pu_call (z := _) (ms := [true, false]) rfl C__law_changed (fun _ _ => .nil) rfl rfl hr (by decide) (by rfl) (takes_of rfl rfl rfl rfl) (pu_cons (pe_pv 1) (pu_cons (pe_pv 7) pu_nil))))) (pu_sone (pu_sif (pu_tcmp os_eq (op_eqA hr.units) (pe_pv 10) pu_int (nomark _)) (pu_sone (pu_sset (i := 8) sc_law.nd rfl (Or.inl rfl) (pu_call (z := _) (ms := [true, false]) rfl C__law_changed (fun _ _ => .nil) rfl rfl hr (by decide) (by rfl) (takes_of rfl rfl rfl rfl) (pu_cons (pe_pv 1) (pu_cons (pe_pv 8) pu_nil))))) (pu_scons (pu_sset (i := 9) sc_law.nd rfl (Or.inl rfl) (pu_call (z := _) (ms := [true, false]) rfl C__law_changed (fun _ _ => .nil) rfl rfl hr (by decide) (by rfl) (takes_of rfl rfl rfl rfl) (pu_cons (pe_pv 1) (pu_cons (pe_pv 7) pu_nil))))
 (pu_sone (pu_sset (i := 6) sc_law.nd rfl (Or.inl rfl) (pu_ix os_ix ix_seq (pu_lst (pu_cons pu_str (pu_cons pu_str pu_nil))) (pu_call (z := _) (ms := [true, false]) rfl C__law_take (fun _ _ => .nil) rfl rfl hr (by decide) (by rfl) (takes_of rfl rfl rfl rfl) (pu_cons (pe_pv 1) (pu_cons pu_int pu_nil))) (fun _ _ => rfl))))))))
 (pu_sone (pu_sex (pu_app (pe_pv 4) (pu_tup (pu_cons (pe_pv 6) (pu_cons (pe_pv 7) (pu_cons (pe_pv 8) (pu_cons (pe_pv 9) pu_nil))))))))))))
 (pu_frz (pu_scons (pu_sset (i := 11) sc_law.nd rfl (Or.inl rfl) (pu_call (z := _) (ms := [false]) rfl C__law_made (fun _ _ => .nil) rfl rfl hr (by decide) (by rfl) (takes_of rfl rfl rfl rfl) (pu_cons (pe_pv 2) pu_nil)))
 (pu_scons (pu_sfor (tgt := (.nm 12)) PassesOwn.leaving rfl (pu_iE rfl (pe_pv 4)) (pg_name (i := 12) sc_law.nd rfl (Or.inl rfl)) (pu_scons (pu_sset (i := 13) sc_law.nd rfl (Or.inl rfl) (pu_tup (pu_cons (pu_ix os_ix ix_seq (pe_pv 12) pu_int (fun _ _ => rfl)) (pu_cons (pu_Y1 us_list cl_list (by rfl) T.n_list bb_list (pu_ix os_ix ix_seq (pe_pv 12) pu_int (fun _ _ => rfl))) (pu_cons (pu_Y1 us_list cl_list (by rfl) T.n_list bb_list (pu_ix os_ix ix_seq (pe_pv 12) pu_int (fun _ _ => rfl))) (pu_cons (pu_Y1 us_list cl_list (by rfl) T.n_list bb_list (pu_ix os_ix ix_seq (pe_pv 12) pu_int (fun _ _ => rfl))) pu_nil))))))
 (pu_scons (pu_sset (i := 14) sc_law.nd rfl (Or.inl rfl) (pu_call (z := _) (ms := [false, false]) rfl C_accepts_certificate (fun _ _ => .nil) rfl rfl hr (by decide) (by rfl) (takes_of rfl rfl rfl rfl) (pu_cons (pe_pv 11) (pu_cons (pe_pv 13) pu_nil))))
 (pu_scons (pu_sif (pu_wor (pu_tcmp os_ne (op_neA hr.units) (pe_pv 14) (pu_call (z := _) (ms := [false, false]) rfl C__law_accepted (fun _ _ => .nil) rfl rfl hr (by decide) (by rfl) (takes_of rfl rfl rfl rfl) (pu_cons (pe_pv 2) (pu_cons (pe_pv 12) pu_nil))) (nomark _)) (pu_wor (pu_tnot (pu_truth rfl (pu_isi rfl isi_bool (by rfl) T.n_isinstance (by rfl) T.n_bool bb_bool (pe_pv 14)))) (pu_wor1 (pu_tcmp os_ne (op_neA hr.units) (pe_pv 13) (pe_pv 12) (nomark _))))).pt (pu_sone (pu_sret pu_bl)) pu_snil)
 (pu_sone (pu_sif (pu_wand (pu_tcmp os_eq (op_eqA hr.units) (pu_B1 us_len cl_lenA (by rfl) T.n_len bb_len (pu_ix os_ix ix_seq (pe_pv 12) pu_int (fun _ _ => rfl))) (pu_B1 us_len cl_lenA (by rfl) T.n_len bb_len (pu_ix os_ix ix_seq (pe_pv 2) pu_int (fun _ _ => rfl))) (nomark _)) (pu_wand1 (pu_tcmp os_ne (op_neA hr.units) (pu_call (z := _) (ms := [false, false]) rfl C_bound_of (fun _ _ => .nil) rfl rfl hr (by decide) (by rfl) (takes_of rfl rfl rfl rfl) (pu_cons (pe_pv 11) (pu_cons (pu_ix os_ix ix_seq (pe_pv 13) pu_int (fun _ _ => rfl)) pu_nil))) (pu_call (z := _) (ms := [false, false]) rfl C__law_dot (fun _ _ => .nil) rfl rfl hr (by decide) (by rfl) (takes_of rfl rfl rfl rfl) (pu_cons (pu_ix os_ix ix_seq (pe_pv 12) pu_int (fun _ _ => rfl)) (pu_cons (pu_lc (own := [("two", 15)]) (tgt := (.nm 15)) rfl sc_law.nd  (pu_iE rfl (pu_ix os_ix ix_seq (pe_pv 2) pu_int (fun _ _ => rfl))) (blkOk_by (N := N_law) (sc := defScope s_law) (by decide +kernel)) (fun _ _ _ _ _ => (pg_name (i := 15) sc_law.nd rfl (by first | exact Or.inl rfl | exact Or.inr rfl))) (fun _ _ _ _ _ => pts_ret) (fun _ _ _ _ _ => (pu_ix os_ix ix_seq (pe_pv 15) pu_int (fun _ _ => rfl))) (by decide)) pu_nil))) (nomark _)))).pt (pu_sone (pu_sret pu_bl)) pu_snil))))))
 (pu_sone (pu_sret (pu_cmp os_eq (op_eqA hr.units) (pu_fld rfl (fun c h => by simp only [List.mem_cons, List.not_mem_nil, or_false] at h; rcases h with rfl <;> first | exact ⟨T.cl_Program, T.na_Program_rows⟩) (pe_pv 11) rfl) (pu_ix os_ix ix_seq (pe_pv 2) pu_int (fun _ _ => rfl)) (nomark _))))))))))))) rfl rfl h rfl)
end
theorem law_sp {K : PySem.W.Frag} {H : Hp} {a : Addr} {ns : List Int} {Q : VK} {E : XK} (hl : ns.length ≤ 63) (hT : ∀ p ∈ tf0, GxR.TabG H (He.cT K p).2) (hS : SqL K H a (ns.map V.int)) (q : ∀ H', Q (.bl true) H') : spF K (tbs K) p_law 1 [.ref a] H Q E := law_start (fun P hP => by obtain ⟨p, hp, rfl⟩ := List.mem_map.mp hP; exact hT p hp) hS (law_pure ns hl) q
def d__law_lowest : He.DefD := ⟨("_law_lowest", none), "_law_lowest", "_law_lowest", defArgs s__law_lowest, defBody s__law_lowest, defScope s__law_lowest, [], []⟩
def d__law_plus : He.DefD := ⟨("_law_plus", none), "_law_plus", "_law_plus", defArgs s__law_plus, defBody s__law_plus, defScope s__law_plus, [], []⟩
def d__law_times : He.DefD := ⟨("_law_times", none), "_law_times", "_law_times", defArgs s__law_times, defBody s__law_times, defScope s__law_times, [], []⟩
def d__law_dot : He.DefD := ⟨("_law_dot", none), "_law_dot", "_law_dot", defArgs s__law_dot, defBody s__law_dot, defScope s__law_dot, [], []⟩
def d__law_less : He.DefD := ⟨("_law_less", none), "_law_less", "_law_less", defArgs s__law_less, defBody s__law_less, defScope s__law_less, [], []⟩
def d__law_covers : He.DefD := ⟨("_law_covers", none), "_law_covers", "_law_covers", defArgs s__law_covers, defBody s__law_covers, defScope s__law_covers, [], []⟩
def d__law_row_holds : He.DefD := ⟨("_law_row_holds", none), "_law_row_holds", "_law_row_holds", defArgs s__law_row_holds, defBody s__law_row_holds, defScope s__law_row_holds, [], []⟩
def d__law_fits : He.DefD := ⟨("_law_fits", none), "_law_fits", "_law_fits", defArgs s__law_fits, defBody s__law_fits, defScope s__law_fits, [], []⟩
def d__law_goes : He.DefD := ⟨("_law_goes", none), "_law_goes", "_law_goes", defArgs s__law_goes, defBody s__law_goes, defScope s__law_goes, [], []⟩
def d__law_accepted : He.DefD := ⟨("_law_accepted", none), "_law_accepted", "_law_accepted", defArgs s__law_accepted, defBody s__law_accepted, defScope s__law_accepted, [], []⟩
def d__law_take : He.DefD := ⟨("_law_take", none), "_law_take", "_law_take", defArgs s__law_take, defBody s__law_take, defScope s__law_take, [], []⟩
def d__law_around : He.DefD := ⟨("_law_around", none), "_law_around", "_law_around", defArgs s__law_around, defBody s__law_around, defScope s__law_around, [], []⟩
def d__law_changed : He.DefD := ⟨("_law_changed", none), "_law_changed", "_law_changed", defArgs s__law_changed, defBody s__law_changed, defScope s__law_changed, [], []⟩
def d__law_fraction : He.DefD := ⟨("_law_fraction", none), "_law_fraction", "_law_fraction", defArgs s__law_fraction, defBody s__law_fraction, defScope s__law_fraction, [], []⟩
def d__law_vector : He.DefD := ⟨("_law_vector", none), "_law_vector", "_law_vector", defArgs s__law_vector, defBody s__law_vector, defScope s__law_vector, [], []⟩
def d__law_drawn : He.DefD := ⟨("_law_drawn", none), "_law_drawn", "_law_drawn", defArgs s__law_drawn, defBody s__law_drawn, defScope s__law_drawn, [], []⟩
def d_InvalidProgram___init__ : He.DefD := ⟨("InvalidProgram", some "__init__"), "__init__", "InvalidProgram.__init__", defArgs s_InvalidProgram___init__, defBody s_InvalidProgram___init__, defScope s_InvalidProgram___init__, [], []⟩
def d__check_form : He.DefD := ⟨("_check_form", none), "_check_form", "_check_form", defArgs s__check_form, defBody s__check_form, defScope s__check_form, [], []⟩
def d_TooLarge___init__ : He.DefD := ⟨("TooLarge", some "__init__"), "__init__", "TooLarge.__init__", defArgs s_TooLarge___init__, defBody s_TooLarge___init__, defScope s_TooLarge___init__, [], []⟩
def d__check_size : He.DefD := ⟨("_check_size", none), "_check_size", "_check_size", defArgs s__check_size, defBody s__check_size, defScope s__check_size, [], []⟩
def d_Program___init__ : He.DefD := ⟨("Program", some "__init__"), "__init__", "Program.__init__", defArgs s_Program___init__, defBody s_Program___init__, defScope s_Program___init__, [], []⟩
def d__law_made : He.DefD := ⟨("_law_made", none), "_law_made", "_law_made", defArgs s__law_made, defBody s__law_made, defScope s__law_made, [], []⟩
def d__law_mix : He.DefD := ⟨("_law_mix", none), "_law_mix", "_law_mix", defArgs s__law_mix, defBody s__law_mix, defScope s__law_mix, [], []⟩
def d__law_numbers : He.DefD := ⟨("_law_numbers", none), "_law_numbers", "_law_numbers", defArgs s__law_numbers, defBody s__law_numbers, defScope s__law_numbers, [], []⟩
def d__law_program : He.DefD := ⟨("_law_program", none), "_law_program", "_law_program", defArgs s__law_program, defBody s__law_program, defScope s__law_program, [], []⟩
def d_sign : He.DefD := ⟨("sign", none), "sign", "sign", defArgs s_sign, defBody s_sign, defScope s_sign, [], []⟩
def d__has_correct_signs : He.DefD := ⟨("_has_correct_signs", none), "_has_correct_signs", "_has_correct_signs", defArgs s__has_correct_signs, defBody s__has_correct_signs, defScope s__has_correct_signs, [], []⟩
def d_make : He.DefD := ⟨("make", none), "make", "make", defArgs s_make, defBody s_make, defScope s_make, [.int 1], []⟩
def d_add : He.DefD := ⟨("add", none), "add", "add", defArgs s_add, defBody s_add, defScope s_add, [], []⟩
def d_multiply : He.DefD := ⟨("multiply", none), "multiply", "multiply", defArgs s_multiply, defBody s_multiply, defScope s_multiply, [], []⟩
def d__add_product : He.DefD := ⟨("_add_product", none), "_add_product", "_add_product", defArgs s__add_product, defBody s__add_product, defScope s__add_product, [], []⟩
def d__sums : He.DefD := ⟨("_sums", none), "_sums", "_sums", defArgs s__sums, defBody s__sums, defScope s__sums, [], []⟩
def d_compare : He.DefD := ⟨("compare", none), "compare", "compare", defArgs s_compare, defBody s_compare, defScope s_compare, [], []⟩
def d__covers : He.DefD := ⟨("_covers", none), "_covers", "_covers", defArgs s__covers, defBody s__covers, defScope s__covers, [], []⟩
def d_dot : He.DefD := ⟨("dot", none), "dot", "dot", defArgs s_dot, defBody s_dot, defScope s_dot, [], []⟩
def d_bound_of_rows : He.DefD := ⟨("bound_of_rows", none), "bound_of_rows", "bound_of_rows", defArgs s_bound_of_rows, defBody s_bound_of_rows, defScope s_bound_of_rows, [], []⟩
def d_agrees : He.DefD := ⟨("agrees", none), "agrees", "agrees", defArgs s_agrees, defBody s_agrees, defScope s_agrees, [], []⟩
def d_keeps_signs : He.DefD := ⟨("keeps_signs", none), "keeps_signs", "keeps_signs", defArgs s_keeps_signs, defBody s_keeps_signs, defScope s_keeps_signs, [], []⟩
def d_fits_rows : He.DefD := ⟨("fits_rows", none), "fits_rows", "fits_rows", defArgs s_fits_rows, defBody s_fits_rows, defScope s_fits_rows, [], []⟩
def d_value_of : He.DefD := ⟨("value_of", none), "value_of", "value_of", defArgs s_value_of, defBody s_value_of, defScope s_value_of, [], []⟩
def d__accepts_best : He.DefD := ⟨("_accepts_best", none), "_accepts_best", "_accepts_best", defArgs s__accepts_best, defBody s__accepts_best, defScope s__accepts_best, [], []⟩
def d__accepts_endless : He.DefD := ⟨("_accepts_endless", none), "_accepts_endless", "_accepts_endless", defArgs s__accepts_endless, defBody s__accepts_endless, defScope s__accepts_endless, [], []⟩
def d__accepts_none : He.DefD := ⟨("_accepts_none", none), "_accepts_none", "_accepts_none", defArgs s__accepts_none, defBody s__accepts_none, defScope s__accepts_none, [], []⟩
def d_accepts_rows : He.DefD := ⟨("accepts_rows", none), "accepts_rows", "accepts_rows", defArgs s_accepts_rows, defBody s_accepts_rows, defScope s_accepts_rows, [], []⟩
def d_accepts_certificate : He.DefD := ⟨("accepts_certificate", none), "accepts_certificate", "accepts_certificate", defArgs s_accepts_certificate, defBody s_accepts_certificate, defScope s_accepts_certificate, [], []⟩
def d_bound_of : He.DefD := ⟨("bound_of", none), "bound_of", "bound_of", defArgs s_bound_of, defBody s_bound_of, defScope s_bound_of, [], []⟩
def d_law : He.DefD := ⟨("law", none), "law", "law", defArgs s_law, defBody s_law, defScope s_law, [], []⟩
def fn : List He.DefD := [d__law_lowest, d__law_plus, d__law_times, d__law_dot, d__law_less, d__law_covers, d__law_row_holds, d__law_fits, d__law_goes, d__law_accepted, d__law_take, d__law_around, d__law_changed, d__law_fraction, d__law_vector, d__law_drawn, d__check_form, d__check_size, d_Program___init__, d__law_made, d__law_mix, d__law_numbers, d__law_program, d_sign, d__has_correct_signs, d_make, d_add, d_multiply, d__add_product, d__sums, d_compare, d__covers, d_dot, d_bound_of_rows, d_agrees, d_keeps_signs, d_fits_rows, d_value_of, d__accepts_best, d__accepts_endless, d__accepts_none, d_accepts_rows, d_accepts_certificate, d_bound_of, d_law]
def fs : List He.DefD := [d_InvalidProgram___init__, d_TooLarge___init__]
abbrev fileS : Str := PySem.Challenge.pw_unbent_k10_certificates_are_judged.main.file
def fa : List He.Fa := ([.glo "_law_lowest", .glo "_law_plus", .glo "_law_times", .glo "_law_dot", .glo "_law_less", .glo "_law_covers", .glo "_law_row_holds", .glo "_law_fits", .glo "_law_goes", .glo "_law_accepted", .glo "_law_take", .glo "_law_around", .glo "_law_changed", .glo "_law_fraction", .glo "_law_vector", .glo "_law_drawn", .glo "_check_form", .glo "_check_size", .glo "_law_made", .glo "_law_mix", .glo "_law_numbers", .glo "_law_program", .glo "sign", .glo "_has_correct_signs", .glo "make", .glo "add", .glo "multiply", .glo "_add_product", .glo "_sums", .glo "compare"] : List He.Fa) ++ ([.glo "_covers", .glo "dot", .glo "bound_of_rows", .glo "agrees", .glo "keeps_signs", .glo "fits_rows", .glo "value_of", .glo "_accepts_best", .glo "_accepts_endless", .glo "_accepts_none", .glo "accepts_rows", .glo "accepts_certificate", .glo "bound_of", .glo "law", .glo "InvalidProgram", .glo "Program", .glo "TooLarge", .cls "Program", .mkr "Program", .noat "InvalidProgram" "reason", .noat "Program" "free", .noat "Program" "goal", .noat "Program" "rows", .noat "Program" "variables", .noat "TooLarge" "limit", .free "abs", .free "all", .free "bool", .free "int", .free "isinstance"] : List He.Fa) ++ ([.free "len", .free "list", .free "min", .free "range", .free "super", .free "zip", .glo "ZeroDenominator", .exc "ZeroDenominator", .int "_MOST_VARIABLES" 160, .int "_MOST_ROWS" 400, .glo "_SIGNS"] : List He.Fa)
def ex (K : PySem.W.Frag) : Bool := (He.eqO (PySem.W.nsIn K mainGlobals "gcd") (some (some (.builtin "math.gcd"))) && (UbC.oexB K (He.ga K "InvalidProgram") && (UbC.oexB K (He.ga K "TooLarge") && (He.tupB K "_SIGNS" [.str "at least", .str "at most", .str "exactly"] && (UbS.supDefB K fileS d_InvalidProgram___init__ && (UbS.supDefB K fileS d_TooLarge___init__ && (UbS.supB K (He.ga K "InvalidProgram") && (UbS.supB K (He.ga K "TooLarge") && true))))))))
abbrev tf : List He.Defn := tf0
abbrev R : PySem.W.OpenRow := PySem.W.OpenLaw.row PySem.Challenge.rw_unbent_k10_certificates_are_judged
abbrev loose : List Str := (["gcd", "UnbentError", "TooLarge", "InvalidProgram", "ZeroDenominator", "make", "add", "multiply", "sign", "compare", "dot", "_MOST_VARIABLES", "_MOST_ROWS", "_SIGNS", "Program", "_check_size", "_check_form", "agrees", "keeps_signs", "fits_rows", "value_of", "bound_of_rows", "bound_of", "_has_correct_signs", "_sums", "_add_product", "_covers", "_accepts_best", "_accepts_none", "_accepts_endless"] : List Str) ++ (["accepts_rows", "accepts_certificate", "_law_mix", "_law_numbers", "_law_take", "_law_fraction", "_law_lowest", "_law_plus", "_law_times", "_law_less", "_law_dot", "_law_vector", "_law_program", "_law_made", "_law_row_holds", "_law_fits", "_law_covers", "_law_goes", "_law_accepted", "_law_around", "_law_changed", "_law_drawn"] : List Str)
abbrev hk : PySem.W.Hook := UbS.hookS 5 fa fn tf fs ex
def ob (s : PySem.W.SharedT) : UbS.AlS := UbS.obsS 5 fa fn tf fs ex (HandSHeadRun.getT s)
theorem ob_eq (s : PySem.W.SharedT) : ob s = hk.obs s.abs := UbS.obsS_eq (HandSHeadRun.getT_eq s)
theorem run (w : World) : HandSHeadRun.RunEqI R (PySem.W.view R.prog [0, 57]) hk ob 4000 loose w := by
  unfold HandSHeadRun.RunEqI
  kernel_rfl
theorem facts {w : World} {K : PySem.W.Frag} {h : Heap} {mg : Str → Option Value} {f : Addr} (X : K.In h) (G : h.Ns mainGlobals mg) (hfa : mg ("law" : Str) = some (.ref f)) (c0 : UbS.SaysS fa fn tf fs ex w h K) (P : Program) (hfile : (P.main.file == fileS) = true) (htop : (P.main.scope.names.lookup ("super" : Str)).isSome = false) :
    ∃ fd : FuncData, (∀ (s : Shared) (v : Value), BindsTo s fd ⟨[v], []⟩ [("script", v)]) ∧ ∀ base : Heap, K.In base → base.Ns mainGlobals mg → (∀ p ∈ tf, GxR.TabB base mg (He.cT K p).1 (He.cT K p).2) → FnOk P w K mg base (L2.CX P w) 9 f fd ["script"] (spF K (tbs K) p_law 1) := by
  have c := c0.x
  have cd := c.t.d
  have cm := c.more
  unfold ex at cm
  obtain ⟨cm0, cm⟩ := He.ba cm
  obtain ⟨cm1, cm⟩ := He.ba cm
  obtain ⟨cm2, cm⟩ := He.ba cm
  obtain ⟨cm3, cm⟩ := He.ba cm
  obtain ⟨cm4, cm⟩ := He.ba cm
  obtain ⟨cm5, cm⟩ := He.ba cm
  obtain ⟨cm6, cm⟩ := He.ba cm
  obtain ⟨cm7, cm⟩ := He.ba cm
  have T : Tx K mg := { n_abs := He.free_ok X G (cd.fact 55 rfl), n_all := He.free_ok X G (cd.fact 56 rfl), n_bool := He.free_ok X G (cd.fact 57 rfl), n_int := He.free_ok X G (cd.fact 58 rfl), n_isinstance := He.free_ok X G (cd.fact 59 rfl), n_len := He.free_ok X G (cd.fact 60 rfl), n_list := He.free_ok X G (cd.fact 61 rfl), n_min := He.free_ok X G (cd.fact 62 rfl), n_range := He.free_ok X G (cd.fact 63 rfl), n_super := He.free_ok X G (cd.fact 64 rfl), n_zip := He.free_ok X G (cd.fact 65 rfl), g_gcd := PySem.W.mg_of X G (He.eqO_ok cm0), c__MOST_VARIABLES := He.int_ok X G (cd.fact 68 rfl), c__MOST_ROWS := He.int_ok X G (cd.fact 69 rfl), e_ZeroDenominator := ⟨He.glo_ok X G (cd.fact 66 rfl), (He.exc_ok (cd.fact 67 rfl)).1, (He.exc_ok (cd.fact 67 rfl)).2.1, (He.exc_ok (cd.fact 67 rfl)).2.2.1, (He.exc_ok (cd.fact 67 rfl)).2.2.2⟩, gc_InvalidProgram := He.glo_ok X G (cd.fact 44 rfl), gc_Program := He.glo_ok X G (cd.fact 45 rfl), gc_TooLarge := He.glo_ok X G (cd.fact 46 rfl), x_InvalidProgram := UbC.oexB_ok cm1, x_TooLarge := UbC.oexB_ok cm2, cl_Program := He.cls_ok (cd.fact 47 rfl), na_InvalidProgram_reason := He.noat_ok (cd.fact 49 rfl), na_Program_free := He.noat_ok (cd.fact 50 rfl), na_Program_goal := He.noat_ok (cd.fact 51 rfl), na_Program_rows := He.noat_ok (cd.fact 52 rfl), na_Program_variables := He.noat_ok (cd.fact 53 rfl), na_TooLarge_limit := He.noat_ok (cd.fact 54 rfl), c__SIGNS := ⟨He.glo_ok X G (cd.fact 70 rfl), fun H => He.tupB_ok cm3 H⟩ }
  obtain ⟨fd_InvalidProgram___init__, F_InvalidProgram___init__⟩ := UbS.funS_of (c0.def_ 0 (d := d_InvalidProgram___init__) rfl) cm4
  have B_InvalidProgram___init__ := UbS.supB_ok cm6
  obtain ⟨fd_TooLarge___init__, F_TooLarge___init__⟩ := UbS.funS_of (c0.def_ 1 (d := d_TooLarge___init__) rfl) cm5
  have B_TooLarge___init__ := UbS.supB_ok cm7
  obtain ⟨fd__law_lowest, F__law_lowest⟩ := cd.def_ 0 (d := d__law_lowest) rfl
  have m__law_lowest := He.glo_ok X G (cd.fact 0 (f := .glo "_law_lowest") rfl)
  obtain ⟨fd__law_plus, F__law_plus⟩ := cd.def_ 1 (d := d__law_plus) rfl
  have m__law_plus := He.glo_ok X G (cd.fact 1 (f := .glo "_law_plus") rfl)
  obtain ⟨fd__law_times, F__law_times⟩ := cd.def_ 2 (d := d__law_times) rfl
  have m__law_times := He.glo_ok X G (cd.fact 2 (f := .glo "_law_times") rfl)
  obtain ⟨fd__law_dot, F__law_dot⟩ := cd.def_ 3 (d := d__law_dot) rfl
  have m__law_dot := He.glo_ok X G (cd.fact 3 (f := .glo "_law_dot") rfl)
  obtain ⟨fd__law_less, F__law_less⟩ := cd.def_ 4 (d := d__law_less) rfl
  have m__law_less := He.glo_ok X G (cd.fact 4 (f := .glo "_law_less") rfl)
  obtain ⟨fd__law_covers, F__law_covers⟩ := cd.def_ 5 (d := d__law_covers) rfl
  have m__law_covers := He.glo_ok X G (cd.fact 5 (f := .glo "_law_covers") rfl)
  obtain ⟨fd__law_row_holds, F__law_row_holds⟩ := cd.def_ 6 (d := d__law_row_holds) rfl
  have m__law_row_holds := He.glo_ok X G (cd.fact 6 (f := .glo "_law_row_holds") rfl)
  obtain ⟨fd__law_fits, F__law_fits⟩ := cd.def_ 7 (d := d__law_fits) rfl
  have m__law_fits := He.glo_ok X G (cd.fact 7 (f := .glo "_law_fits") rfl)
  obtain ⟨fd__law_goes, F__law_goes⟩ := cd.def_ 8 (d := d__law_goes) rfl
  have m__law_goes := He.glo_ok X G (cd.fact 8 (f := .glo "_law_goes") rfl)
  obtain ⟨fd__law_accepted, F__law_accepted⟩ := cd.def_ 9 (d := d__law_accepted) rfl
  have m__law_accepted := He.glo_ok X G (cd.fact 9 (f := .glo "_law_accepted") rfl)
  obtain ⟨fd__law_take, F__law_take⟩ := cd.def_ 10 (d := d__law_take) rfl
  have m__law_take := He.glo_ok X G (cd.fact 10 (f := .glo "_law_take") rfl)
  obtain ⟨fd__law_around, F__law_around⟩ := cd.def_ 11 (d := d__law_around) rfl
  have m__law_around := He.glo_ok X G (cd.fact 11 (f := .glo "_law_around") rfl)
  obtain ⟨fd__law_changed, F__law_changed⟩ := cd.def_ 12 (d := d__law_changed) rfl
  have m__law_changed := He.glo_ok X G (cd.fact 12 (f := .glo "_law_changed") rfl)
  obtain ⟨fd__law_fraction, F__law_fraction⟩ := cd.def_ 13 (d := d__law_fraction) rfl
  have m__law_fraction := He.glo_ok X G (cd.fact 13 (f := .glo "_law_fraction") rfl)
  obtain ⟨fd__law_vector, F__law_vector⟩ := cd.def_ 14 (d := d__law_vector) rfl
  have m__law_vector := He.glo_ok X G (cd.fact 14 (f := .glo "_law_vector") rfl)
  obtain ⟨fd__law_drawn, F__law_drawn⟩ := cd.def_ 15 (d := d__law_drawn) rfl
  have m__law_drawn := He.glo_ok X G (cd.fact 15 (f := .glo "_law_drawn") rfl)
  obtain ⟨fd__check_form, F__check_form⟩ := cd.def_ 16 (d := d__check_form) rfl
  have m__check_form := He.glo_ok X G (cd.fact 16 (f := .glo "_check_form") rfl)
  obtain ⟨fd__check_size, F__check_size⟩ := cd.def_ 17 (d := d__check_size) rfl
  have m__check_size := He.glo_ok X G (cd.fact 17 (f := .glo "_check_size") rfl)
  obtain ⟨fd_Program___init__, F_Program___init__⟩ := cd.def_ 18 (d := d_Program___init__) rfl
  obtain ⟨fd__law_made, F__law_made⟩ := cd.def_ 19 (d := d__law_made) rfl
  have m__law_made := He.glo_ok X G (cd.fact 18 (f := .glo "_law_made") rfl)
  obtain ⟨fd__law_mix, F__law_mix⟩ := cd.def_ 20 (d := d__law_mix) rfl
  have m__law_mix := He.glo_ok X G (cd.fact 19 (f := .glo "_law_mix") rfl)
  obtain ⟨fd__law_numbers, F__law_numbers⟩ := cd.def_ 21 (d := d__law_numbers) rfl
  have m__law_numbers := He.glo_ok X G (cd.fact 20 (f := .glo "_law_numbers") rfl)
  obtain ⟨fd__law_program, F__law_program⟩ := cd.def_ 22 (d := d__law_program) rfl
  have m__law_program := He.glo_ok X G (cd.fact 21 (f := .glo "_law_program") rfl)
  obtain ⟨fd_sign, F_sign⟩ := cd.def_ 23 (d := d_sign) rfl
  have m_sign := He.glo_ok X G (cd.fact 22 (f := .glo "sign") rfl)
  obtain ⟨fd__has_correct_signs, F__has_correct_signs⟩ := cd.def_ 24 (d := d__has_correct_signs) rfl
  have m__has_correct_signs := He.glo_ok X G (cd.fact 23 (f := .glo "_has_correct_signs") rfl)
  obtain ⟨fd_make, F_make⟩ := cd.def_ 25 (d := d_make) rfl
  have m_make := He.glo_ok X G (cd.fact 24 (f := .glo "make") rfl)
  obtain ⟨fd_add, F_add⟩ := cd.def_ 26 (d := d_add) rfl
  have m_add := He.glo_ok X G (cd.fact 25 (f := .glo "add") rfl)
  obtain ⟨fd_multiply, F_multiply⟩ := cd.def_ 27 (d := d_multiply) rfl
  have m_multiply := He.glo_ok X G (cd.fact 26 (f := .glo "multiply") rfl)
  obtain ⟨fd__add_product, F__add_product⟩ := cd.def_ 28 (d := d__add_product) rfl
  have m__add_product := He.glo_ok X G (cd.fact 27 (f := .glo "_add_product") rfl)
  obtain ⟨fd__sums, F__sums⟩ := cd.def_ 29 (d := d__sums) rfl
  have m__sums := He.glo_ok X G (cd.fact 28 (f := .glo "_sums") rfl)
  obtain ⟨fd_compare, F_compare⟩ := cd.def_ 30 (d := d_compare) rfl
  have m_compare := He.glo_ok X G (cd.fact 29 (f := .glo "compare") rfl)
  obtain ⟨fd__covers, F__covers⟩ := cd.def_ 31 (d := d__covers) rfl
  have m__covers := He.glo_ok X G (cd.fact 30 (f := .glo "_covers") rfl)
  obtain ⟨fd_dot, F_dot⟩ := cd.def_ 32 (d := d_dot) rfl
  have m_dot := He.glo_ok X G (cd.fact 31 (f := .glo "dot") rfl)
  obtain ⟨fd_bound_of_rows, F_bound_of_rows⟩ := cd.def_ 33 (d := d_bound_of_rows) rfl
  have m_bound_of_rows := He.glo_ok X G (cd.fact 32 (f := .glo "bound_of_rows") rfl)
  obtain ⟨fd_agrees, F_agrees⟩ := cd.def_ 34 (d := d_agrees) rfl
  have m_agrees := He.glo_ok X G (cd.fact 33 (f := .glo "agrees") rfl)
  obtain ⟨fd_keeps_signs, F_keeps_signs⟩ := cd.def_ 35 (d := d_keeps_signs) rfl
  have m_keeps_signs := He.glo_ok X G (cd.fact 34 (f := .glo "keeps_signs") rfl)
  obtain ⟨fd_fits_rows, F_fits_rows⟩ := cd.def_ 36 (d := d_fits_rows) rfl
  have m_fits_rows := He.glo_ok X G (cd.fact 35 (f := .glo "fits_rows") rfl)
  obtain ⟨fd_value_of, F_value_of⟩ := cd.def_ 37 (d := d_value_of) rfl
  have m_value_of := He.glo_ok X G (cd.fact 36 (f := .glo "value_of") rfl)
  obtain ⟨fd__accepts_best, F__accepts_best⟩ := cd.def_ 38 (d := d__accepts_best) rfl
  have m__accepts_best := He.glo_ok X G (cd.fact 37 (f := .glo "_accepts_best") rfl)
  obtain ⟨fd__accepts_endless, F__accepts_endless⟩ := cd.def_ 39 (d := d__accepts_endless) rfl
  have m__accepts_endless := He.glo_ok X G (cd.fact 38 (f := .glo "_accepts_endless") rfl)
  obtain ⟨fd__accepts_none, F__accepts_none⟩ := cd.def_ 40 (d := d__accepts_none) rfl
  have m__accepts_none := He.glo_ok X G (cd.fact 39 (f := .glo "_accepts_none") rfl)
  obtain ⟨fd_accepts_rows, F_accepts_rows⟩ := cd.def_ 41 (d := d_accepts_rows) rfl
  have m_accepts_rows := He.glo_ok X G (cd.fact 40 (f := .glo "accepts_rows") rfl)
  obtain ⟨fd_accepts_certificate, F_accepts_certificate⟩ := cd.def_ 42 (d := d_accepts_certificate) rfl
  have m_accepts_certificate := He.glo_ok X G (cd.fact 41 (f := .glo "accepts_certificate") rfl)
  obtain ⟨fd_bound_of, F_bound_of⟩ := cd.def_ 43 (d := d_bound_of) rfl
  have m_bound_of := He.glo_ok X G (cd.fact 42 (f := .glo "bound_of") rfl)
  obtain ⟨fd_law, F_law⟩ := cd.def_ 44 (d := d_law) rfl
  have m_law := He.glo_ok X G (cd.fact 43 (f := .glo "law") rfl)
  have e := hfa.symm.trans m_law
  cases e
  have bl := FunD.bindsA (ps := ["script"]) F_law fun _ _ _ _ _ _ us hl => match us, hl with | [_], _ => rfl
  refine ⟨fd_law, fun s v => bl s [v] rfl, fun base _ _ TBs => ?_⟩
  have G__law_lowest : FnOk P w K mg base (L2.CX P w) 1 (He.ga K "_law_lowest") fd__law_lowest ["p", "q"] (spF K (tbs K) p__law_lowest 2) := ok__law_lowest T F__law_lowest 
  have C__law_lowest : Cal P w K mg base "_law_lowest" 1 ["p", "q"] [] (spF K (tbs K) p__law_lowest 2) := ⟨_, _, [], G__law_lowest, m__law_lowest, F__law_lowest.kp, .nil, F__law_lowest.bindsN fun _ _ _ _ _ _ us hl => match us, hl with | [_, _], _ => rfl⟩
  have G__law_plus : FnOk P w K mg base (L2.CX P w) 2 (He.ga K "_law_plus") fd__law_plus ["a", "b"] (spF K (tbs K) p__law_plus 2) := ok__law_plus T F__law_plus C__law_lowest
  have C__law_plus : Cal P w K mg base "_law_plus" 2 ["a", "b"] [] (spF K (tbs K) p__law_plus 2) := ⟨_, _, [], G__law_plus, m__law_plus, F__law_plus.kp, .nil, F__law_plus.bindsN fun _ _ _ _ _ _ us hl => match us, hl with | [_, _], _ => rfl⟩
  have G__law_times : FnOk P w K mg base (L2.CX P w) 2 (He.ga K "_law_times") fd__law_times ["a", "b"] (spF K (tbs K) p__law_times 2) := ok__law_times T F__law_times C__law_lowest
  have C__law_times : Cal P w K mg base "_law_times" 2 ["a", "b"] [] (spF K (tbs K) p__law_times 2) := ⟨_, _, [], G__law_times, m__law_times, F__law_times.kp, .nil, F__law_times.bindsN fun _ _ _ _ _ _ us hl => match us, hl with | [_, _], _ => rfl⟩
  have G__law_dot : FnOk P w K mg base (L2.CX P w) 3 (He.ga K "_law_dot") fd__law_dot ["first", "second"] (spF K (tbs K) p__law_dot 2) := ok__law_dot T F__law_dot C__law_plus C__law_times
  have C__law_dot : Cal P w K mg base "_law_dot" 3 ["first", "second"] [] (spF K (tbs K) p__law_dot 2) := ⟨_, _, [], G__law_dot, m__law_dot, F__law_dot.kp, .nil, F__law_dot.bindsN fun _ _ _ _ _ _ us hl => match us, hl with | [_, _], _ => rfl⟩
  have G__law_less : FnOk P w K mg base (L2.CX P w) 1 (He.ga K "_law_less") fd__law_less ["a", "b"] (spF K (tbs K) p__law_less 2) := ok__law_less T F__law_less 
  have C__law_less : Cal P w K mg base "_law_less" 1 ["a", "b"] [] (spF K (tbs K) p__law_less 2) := ⟨_, _, [], G__law_less, m__law_less, F__law_less.kp, .nil, F__law_less.bindsN fun _ _ _ _ _ _ us hl => match us, hl with | [_, _], _ => rfl⟩
  have G__law_covers : FnOk P w K mg base (L2.CX P w) 4 (He.ga K "_law_covers") fd__law_covers ["program", "factors", "goal"] (spF K (tbs K) p__law_covers 3) := ok__law_covers T F__law_covers C__law_dot C__law_less
  have C__law_covers : Cal P w K mg base "_law_covers" 4 ["program", "factors", "goal"] [] (spF K (tbs K) p__law_covers 3) := ⟨_, _, [], G__law_covers, m__law_covers, F__law_covers.kp, .nil, F__law_covers.bindsN fun _ _ _ _ _ _ us hl => match us, hl with | [_, _, _], _ => rfl⟩
  have G__law_row_holds : FnOk P w K mg base (L2.CX P w) 4 (He.ga K "_law_row_holds") fd__law_row_holds ["numbers", "word", "bound", "point"] (spF K (tbs K) p__law_row_holds 4) := ok__law_row_holds T F__law_row_holds C__law_dot C__law_less
  have C__law_row_holds : Cal P w K mg base "_law_row_holds" 4 ["numbers", "word", "bound", "point"] [] (spF K (tbs K) p__law_row_holds 4) := ⟨_, _, [], G__law_row_holds, m__law_row_holds, F__law_row_holds.kp, .nil, F__law_row_holds.bindsN fun _ _ _ _ _ _ us hl => match us, hl with | [_, _, _, _], _ => rfl⟩
  have G__law_fits : FnOk P w K mg base (L2.CX P w) 5 (He.ga K "_law_fits") fd__law_fits ["program", "point"] (spF K (tbs K) p__law_fits 2) := ok__law_fits T F__law_fits C__law_row_holds
  have C__law_fits : Cal P w K mg base "_law_fits" 5 ["program", "point"] [] (spF K (tbs K) p__law_fits 2) := ⟨_, _, [], G__law_fits, m__law_fits, F__law_fits.kp, .nil, F__law_fits.bindsN fun _ _ _ _ _ _ us hl => match us, hl with | [_, _], _ => rfl⟩
  have G__law_goes : FnOk P w K mg base (L2.CX P w) 6 (He.ga K "_law_goes") fd__law_goes ["program", "ray"] (spF K (tbs K) p__law_goes 2) := ok__law_goes T F__law_goes C__law_dot C__law_fits
  have C__law_goes : Cal P w K mg base "_law_goes" 6 ["program", "ray"] [] (spF K (tbs K) p__law_goes 2) := ⟨_, _, [], G__law_goes, m__law_goes, F__law_goes.kp, .nil, F__law_goes.bindsN fun _ _ _ _ _ _ us hl => match us, hl with | [_, _], _ => rfl⟩
  have G__law_accepted : FnOk P w K mg base (L2.CX P w) 7 (He.ga K "_law_accepted") fd__law_accepted ["program", "certificate"] (spF K (tbs K) p__law_accepted 2) := ok__law_accepted T F__law_accepted C__law_covers C__law_dot C__law_fits C__law_goes
  have C__law_accepted : Cal P w K mg base "_law_accepted" 7 ["program", "certificate"] [] (spF K (tbs K) p__law_accepted 2) := ⟨_, _, [], G__law_accepted, m__law_accepted, F__law_accepted.kp, .nil, F__law_accepted.bindsN fun _ _ _ _ _ _ us hl => match us, hl with | [_, _], _ => rfl⟩
  have G__law_take : FnOk P w K mg base (L2.CX P w) 1 (He.ga K "_law_take") fd__law_take ["row", "bound"] (spF K (tbs K) p__law_take 2) := ok__law_take T F__law_take 
  have C__law_take : Cal P w K mg base "_law_take" 1 ["row", "bound"] [] (spF K (tbs K) p__law_take 2) := ⟨_, _, [], G__law_take, m__law_take, F__law_take.kp, .nil, F__law_take.bindsN fun _ _ _ _ _ _ us hl => match us, hl with | [_, _], _ => rfl⟩
  have G__law_around : FnOk P w K mg base (L2.CX P w) 4 (He.ga K "_law_around") fd__law_around ["row", "program"] (spF K (tbs K) p__law_around 2) := ok__law_around T F__law_around C__law_dot C__law_lowest C__law_plus C__law_take
  have C__law_around : Cal P w K mg base "_law_around" 4 ["row", "program"] [] (spF K (tbs K) p__law_around 2) := ⟨_, _, [], G__law_around, m__law_around, F__law_around.kp, .nil, F__law_around.bindsN fun _ _ _ _ _ _ us hl => match us, hl with | [_, _], _ => rfl⟩
  have G__law_changed : FnOk P w K mg base (L2.CX P w) 3 (He.ga K "_law_changed") fd__law_changed ["row", "values"] (spF K (tbs K) p__law_changed 2) := ok__law_changed T F__law_changed C__law_plus C__law_take
  have C__law_changed : Cal P w K mg base "_law_changed" 3 ["row", "values"] [] (spF K (tbs K) p__law_changed 2) := ⟨_, _, [], G__law_changed, m__law_changed, F__law_changed.kp, .nil, F__law_changed.bindsN fun _ _ _ _ _ _ us hl => match us, hl with | [_, _], _ => rfl⟩
  have G__law_fraction : FnOk P w K mg base (L2.CX P w) 2 (He.ga K "_law_fraction") fd__law_fraction ["row"] (spF K (tbs K) p__law_fraction 1) := ok__law_fraction T F__law_fraction C__law_lowest C__law_take
  have C__law_fraction : Cal P w K mg base "_law_fraction" 2 ["row"] [] (spF K (tbs K) p__law_fraction 1) := ⟨_, _, [], G__law_fraction, m__law_fraction, F__law_fraction.kp, .nil, F__law_fraction.bindsN fun _ _ _ _ _ _ us hl => match us, hl with | [_], _ => rfl⟩
  have G__law_vector : FnOk P w K mg base (L2.CX P w) 3 (He.ga K "_law_vector") fd__law_vector ["row", "count"] (spF K (tbs K) p__law_vector 2) := ok__law_vector T F__law_vector C__law_fraction
  have C__law_vector : Cal P w K mg base "_law_vector" 3 ["row", "count"] [] (spF K (tbs K) p__law_vector 2) := ⟨_, _, [], G__law_vector, m__law_vector, F__law_vector.kp, .nil, F__law_vector.bindsN fun _ _ _ _ _ _ us hl => match us, hl with | [_, _], _ => rfl⟩
  have G__law_drawn : FnOk P w K mg base (L2.CX P w) 4 (He.ga K "_law_drawn") fd__law_drawn ["row", "program"] (spF K (tbs K) p__law_drawn 2) := ok__law_drawn T F__law_drawn C__law_take C__law_vector
  have C__law_drawn : Cal P w K mg base "_law_drawn" 4 ["row", "program"] [] (spF K (tbs K) p__law_drawn 2) := ⟨_, _, [], G__law_drawn, m__law_drawn, F__law_drawn.kp, .nil, F__law_drawn.bindsN fun _ _ _ _ _ _ us hl => match us, hl with | [_, _], _ => rfl⟩
  have G_InvalidProgram___init__ : FnOk P w K mg base (L2.CX P w) 1 (He.ma K (He.ga K "InvalidProgram") "__init__") fd_InvalidProgram___init__ ["self", "reason"] (UbC.spEI (He.ga K "InvalidProgram") (UbC.fl1 "reason") UbC.okT) := ok_InvalidProgram___init__ T F_InvalidProgram___init__ B_InvalidProgram___init__ hfile htop
  have X_InvalidProgram : UbC.CalX P w K mg base "InvalidProgram" 1 (UbC.spEI (He.ga K "InvalidProgram") (UbC.fl1 "reason") UbC.okT) := ⟨T.x_InvalidProgram, T.gc_InvalidProgram, _, _, G_InvalidProgram___init__, F_InvalidProgram___init__.bindsN fun _ _ _ _ _ _ us hl => match us, hl with | [_, _], _ => rfl⟩
  have G__check_form : FnOk P w K mg base (L2.CX P w) 3 (He.ga K "_check_form") fd__check_form ["variables", "free", "goal", "rows"] (spF K (tbs K) p__check_form 4) := ok__check_form T F__check_form X_InvalidProgram
  have C__check_form : Cal P w K mg base "_check_form" 3 ["variables", "free", "goal", "rows"] [] (spF K (tbs K) p__check_form 4) := ⟨_, _, [], G__check_form, m__check_form, F__check_form.kp, .nil, F__check_form.bindsN fun _ _ _ _ _ _ us hl => match us, hl with | [_, _, _, _], _ => rfl⟩
  have G_TooLarge___init__ : FnOk P w K mg base (L2.CX P w) 1 (He.ma K (He.ga K "TooLarge") "__init__") fd_TooLarge___init__ ["self", "limit"] (UbC.spEI (He.ga K "TooLarge") (UbC.fl1 "limit") UbC.okT) := ok_TooLarge___init__ T F_TooLarge___init__ B_TooLarge___init__ hfile htop
  have X_TooLarge : UbC.CalX P w K mg base "TooLarge" 1 (UbC.spEI (He.ga K "TooLarge") (UbC.fl1 "limit") UbC.okT) := ⟨T.x_TooLarge, T.gc_TooLarge, _, _, G_TooLarge___init__, F_TooLarge___init__.bindsN fun _ _ _ _ _ _ us hl => match us, hl with | [_, _], _ => rfl⟩
  have G__check_size : FnOk P w K mg base (L2.CX P w) 3 (He.ga K "_check_size") fd__check_size ["variables", "rows"] (spF K (tbs K) p__check_size 2) := ok__check_size T F__check_size X_TooLarge
  have C__check_size : Cal P w K mg base "_check_size" 3 ["variables", "rows"] [] (spF K (tbs K) p__check_size 2) := ⟨_, _, [], G__check_size, m__check_size, F__check_size.kp, .nil, F__check_size.bindsN fun _ _ _ _ _ _ us hl => match us, hl with | [_, _], _ => rfl⟩
  have G_Program___init__ : FnOk P w K mg base (L2.CX P w) 4 (He.ma K (He.ga K "Program") "__init__") fd_Program___init__ ["self", "variables", "free", "goal", "rows"] (spF K (tbs K) p_Program___init__ 5) := ok_Program___init__ T F_Program___init__ C__check_form C__check_size
  have I_Program_1_free_goal_rows : UbC.CalI P w K mg base "Program" 4 1 ["free", "goal", "rows"] (spF K (tbs K) p_Program___init__ 5) := ⟨He.mkr_ok (cd.fact 48 (f := .mkr "Program") rfl), T.gc_Program, _, _, _, G_Program___init__, UbC.FunD_kbindsN F_Program___init__ 2 ["free", "goal", "rows"] fun _ _ _ _ _ _ us ws hu hw => match us, ws, hu, hw with | [_, _], [_, _, _], _, _ => rfl⟩
  have G__law_made : FnOk P w K mg base (L2.CX P w) 6 (He.ga K "_law_made") fd__law_made ["program"] (spF K (tbs K) p__law_made 1) := ok__law_made T F__law_made I_Program_1_free_goal_rows
  have C__law_made : Cal P w K mg base "_law_made" 6 ["program"] [] (spF K (tbs K) p__law_made 1) := ⟨_, _, [], G__law_made, m__law_made, F__law_made.kp, .nil, F__law_made.bindsN fun _ _ _ _ _ _ us hl => match us, hl with | [_], _ => rfl⟩
  have G__law_mix : FnOk P w K mg base (L2.CX P w) 1 (He.ga K "_law_mix") fd__law_mix ["number", "k"] (spF K (tbs K) p__law_mix 2) := ok__law_mix T F__law_mix 
  have C__law_mix : Cal P w K mg base "_law_mix" 1 ["number", "k"] [] (spF K (tbs K) p__law_mix 2) := ⟨_, _, [], G__law_mix, m__law_mix, F__law_mix.kp, .nil, F__law_mix.bindsN fun _ _ _ _ _ _ us hl => match us, hl with | [_, _], _ => rfl⟩
  have G__law_numbers : FnOk P w K mg base (L2.CX P w) 2 (He.ga K "_law_numbers") fd__law_numbers ["script", "count"] (spF K (tbs K) p__law_numbers 2) := ok__law_numbers T F__law_numbers C__law_mix
  have C__law_numbers : Cal P w K mg base "_law_numbers" 2 ["script", "count"] [] (spF K (tbs K) p__law_numbers 2) := ⟨_, _, [], G__law_numbers, m__law_numbers, F__law_numbers.kp, .nil, F__law_numbers.bindsN fun _ _ _ _ _ _ us hl => match us, hl with | [_, _], _ => rfl⟩
  have G__law_program : FnOk P w K mg base (L2.CX P w) 4 (He.ga K "_law_program") fd__law_program ["row", "most"] (spF K (tbs K) p__law_program 2) := ok__law_program T F__law_program C__law_fraction C__law_take C__law_vector
  have C__law_program : Cal P w K mg base "_law_program" 4 ["row", "most"] [] (spF K (tbs K) p__law_program 2) := ⟨_, _, [], G__law_program, m__law_program, F__law_program.kp, .nil, F__law_program.bindsN fun _ _ _ _ _ _ us hl => match us, hl with | [_, _], _ => rfl⟩
  have G_sign : FnOk P w K mg base (L2.CX P w) 1 (He.ga K "sign") fd_sign ["a"] (spF K (tbs K) p_sign 1) := ok_sign T F_sign 
  have C_sign : Cal P w K mg base "sign" 1 ["a"] [] (spF K (tbs K) p_sign 1) := ⟨_, _, [], G_sign, m_sign, F_sign.kp, .nil, F_sign.bindsN fun _ _ _ _ _ _ us hl => match us, hl with | [_], _ => rfl⟩
  have G__has_correct_signs : FnOk P w K mg base (L2.CX P w) 2 (He.ga K "_has_correct_signs") fd__has_correct_signs ["rows", "factors"] (spF K (tbs K) p__has_correct_signs 2) := ok__has_correct_signs T F__has_correct_signs C_sign
  have C__has_correct_signs : Cal P w K mg base "_has_correct_signs" 2 ["rows", "factors"] [] (spF K (tbs K) p__has_correct_signs 2) := ⟨_, _, [], G__has_correct_signs, m__has_correct_signs, F__has_correct_signs.kp, .nil, F__has_correct_signs.bindsN fun _ _ _ _ _ _ us hl => match us, hl with | [_, _], _ => rfl⟩
  have G_make : FnOk P w K mg base (L2.CX P w) 1 (He.ga K "make") fd_make ["p", "q"] (spF K (tbs K) p_make 2) := ok_make T F_make 
  have C_make : Cal P w K mg base "make" 1 ["p", "q"] [] (spF K (tbs K) p_make 2) := by
    have F1 : FunD K "make" "make" (defArgs s_make) (defBody s_make) (defScope s_make) [V.int 1] [] (He.ga K "make") fd_make := F_make
    obtain ⟨ds, hd, hb⟩ := F1.binds1 (ps := ["p", "q"]) 2 1 (by simp) rfl (fun T kV doc pm an cdv ct us its hu hi => by
      match us, hu, its, hi with
      | [_, _], _, [_], _ =>
        refine ⟨_, rfl, ?_⟩
        rfl)
    exact ⟨_, _, ds, G_make, m_make, F_make.kp, hd, hb⟩
  have G_add : FnOk P w K mg base (L2.CX P w) 2 (He.ga K "add") fd_add ["a", "b"] (spF K (tbs K) p_add 2) := ok_add T F_add C_make
  have C_add : Cal P w K mg base "add" 2 ["a", "b"] [] (spF K (tbs K) p_add 2) := ⟨_, _, [], G_add, m_add, F_add.kp, .nil, F_add.bindsN fun _ _ _ _ _ _ us hl => match us, hl with | [_, _], _ => rfl⟩
  have G_multiply : FnOk P w K mg base (L2.CX P w) 2 (He.ga K "multiply") fd_multiply ["a", "b"] (spF K (tbs K) p_multiply 2) := ok_multiply T F_multiply C_make
  have C_multiply : Cal P w K mg base "multiply" 2 ["a", "b"] [] (spF K (tbs K) p_multiply 2) := ⟨_, _, [], G_multiply, m_multiply, F_multiply.kp, .nil, F_multiply.bindsN fun _ _ _ _ _ _ us hl => match us, hl with | [_, _], _ => rfl⟩
  have G__add_product : FnOk P w K mg base (L2.CX P w) 3 (He.ga K "_add_product") fd__add_product ["item", "factor", "number"] (spF K (tbs K) p__add_product 3) := ok__add_product T F__add_product C_add C_multiply
  have C__add_product : Cal P w K mg base "_add_product" 3 ["item", "factor", "number"] [] (spF K (tbs K) p__add_product 3) := ⟨_, _, [], G__add_product, m__add_product, F__add_product.kp, .nil, F__add_product.bindsN fun _ _ _ _ _ _ us hl => match us, hl with | [_, _, _], _ => rfl⟩
  have G__sums : FnOk P w K mg base (L2.CX P w) 4 (He.ga K "_sums") fd__sums ["variables", "rows", "factors"] (spF K (tbs K) p__sums 3) := ok__sums T F__sums C__add_product C_sign
  have C__sums : Cal P w K mg base "_sums" 4 ["variables", "rows", "factors"] [] (spF K (tbs K) p__sums 3) := ⟨_, _, [], G__sums, m__sums, F__sums.kp, .nil, F__sums.bindsN fun _ _ _ _ _ _ us hl => match us, hl with | [_, _, _], _ => rfl⟩
  have G_compare : FnOk P w K mg base (L2.CX P w) 2 (He.ga K "compare") fd_compare ["a", "b"] (spF K (tbs K) p_compare 2) := ok_compare T F_compare C_sign
  have C_compare : Cal P w K mg base "compare" 2 ["a", "b"] [] (spF K (tbs K) p_compare 2) := ⟨_, _, [], G_compare, m_compare, F_compare.kp, .nil, F_compare.bindsN fun _ _ _ _ _ _ us hl => match us, hl with | [_, _], _ => rfl⟩
  have G__covers : FnOk P w K mg base (L2.CX P w) 5 (He.ga K "_covers") fd__covers ["program", "rows", "factors", "goal"] (spF K (tbs K) p__covers 4) := ok__covers T F__covers C__has_correct_signs C__sums C_compare
  have C__covers : Cal P w K mg base "_covers" 5 ["program", "rows", "factors", "goal"] [] (spF K (tbs K) p__covers 4) := ⟨_, _, [], G__covers, m__covers, F__covers.kp, .nil, F__covers.bindsN fun _ _ _ _ _ _ us hl => match us, hl with | [_, _, _, _], _ => rfl⟩
  have G_dot : FnOk P w K mg base (L2.CX P w) 3 (He.ga K "dot") fd_dot ["first", "second"] (spF K (tbs K) p_dot 2) := ok_dot T F_dot C_add C_multiply
  have C_dot : Cal P w K mg base "dot" 3 ["first", "second"] [] (spF K (tbs K) p_dot 2) := ⟨_, _, [], G_dot, m_dot, F_dot.kp, .nil, F_dot.bindsN fun _ _ _ _ _ _ us hl => match us, hl with | [_, _], _ => rfl⟩
  have G_bound_of_rows : FnOk P w K mg base (L2.CX P w) 4 (He.ga K "bound_of_rows") fd_bound_of_rows ["rows", "factors"] (spF K (tbs K) p_bound_of_rows 2) := ok_bound_of_rows T F_bound_of_rows C_dot
  have C_bound_of_rows : Cal P w K mg base "bound_of_rows" 4 ["rows", "factors"] [] (spF K (tbs K) p_bound_of_rows 2) := ⟨_, _, [], G_bound_of_rows, m_bound_of_rows, F_bound_of_rows.kp, .nil, F_bound_of_rows.bindsN fun _ _ _ _ _ _ us hl => match us, hl with | [_, _], _ => rfl⟩
  have G_agrees : FnOk P w K mg base (L2.CX P w) 1 (He.ga K "agrees") fd_agrees ["relation", "order"] (spF K (tbs K) p_agrees 2) := ok_agrees T F_agrees 
  have C_agrees : Cal P w K mg base "agrees" 1 ["relation", "order"] [] (spF K (tbs K) p_agrees 2) := ⟨_, _, [], G_agrees, m_agrees, F_agrees.kp, .nil, F_agrees.bindsN fun _ _ _ _ _ _ us hl => match us, hl with | [_, _], _ => rfl⟩
  have G_keeps_signs : FnOk P w K mg base (L2.CX P w) 2 (He.ga K "keeps_signs") fd_keeps_signs ["program", "point"] (spF K (tbs K) p_keeps_signs 2) := ok_keeps_signs T F_keeps_signs rfl (TBs (("keeps_signs", none) : He.Defn) (by unfold tf tf0; simp)) 
  have C_keeps_signs : Cal P w K mg base "keeps_signs" 2 ["program", "point"] [] (spF K (tbs K) p_keeps_signs 2) := ⟨_, _, [], G_keeps_signs, m_keeps_signs, F_keeps_signs.kp, .nil, F_keeps_signs.bindsN fun _ _ _ _ _ _ us hl => match us, hl with | [_, _], _ => rfl⟩
  have G_fits_rows : FnOk P w K mg base (L2.CX P w) 4 (He.ga K "fits_rows") fd_fits_rows ["program", "rows", "point"] (spF K (tbs K) p_fits_rows 3) := ok_fits_rows T F_fits_rows C_agrees C_compare C_dot C_keeps_signs
  have C_fits_rows : Cal P w K mg base "fits_rows" 4 ["program", "rows", "point"] [] (spF K (tbs K) p_fits_rows 3) := ⟨_, _, [], G_fits_rows, m_fits_rows, F_fits_rows.kp, .nil, F_fits_rows.bindsN fun _ _ _ _ _ _ us hl => match us, hl with | [_, _, _], _ => rfl⟩
  have G_value_of : FnOk P w K mg base (L2.CX P w) 4 (He.ga K "value_of") fd_value_of ["program", "point"] (spF K (tbs K) p_value_of 2) := ok_value_of T F_value_of C_dot
  have C_value_of : Cal P w K mg base "value_of" 4 ["program", "point"] [] (spF K (tbs K) p_value_of 2) := ⟨_, _, [], G_value_of, m_value_of, F_value_of.kp, .nil, F_value_of.bindsN fun _ _ _ _ _ _ us hl => match us, hl with | [_, _], _ => rfl⟩
  have G__accepts_best : FnOk P w K mg base (L2.CX P w) 6 (He.ga K "_accepts_best") fd__accepts_best ["program", "rows", "x", "y"] (spF K (tbs K) p__accepts_best 4) := ok__accepts_best T F__accepts_best C__covers C_bound_of_rows C_fits_rows C_value_of
  have C__accepts_best : Cal P w K mg base "_accepts_best" 6 ["program", "rows", "x", "y"] [] (spF K (tbs K) p__accepts_best 4) := ⟨_, _, [], G__accepts_best, m__accepts_best, F__accepts_best.kp, .nil, F__accepts_best.bindsN fun _ _ _ _ _ _ us hl => match us, hl with | [_, _, _, _], _ => rfl⟩
  have G__accepts_endless : FnOk P w K mg base (L2.CX P w) 5 (He.ga K "_accepts_endless") fd__accepts_endless ["program", "rows", "x", "ray"] (spF K (tbs K) p__accepts_endless 4) := ok__accepts_endless T F__accepts_endless C_agrees C_dot C_fits_rows C_keeps_signs C_sign
  have C__accepts_endless : Cal P w K mg base "_accepts_endless" 5 ["program", "rows", "x", "ray"] [] (spF K (tbs K) p__accepts_endless 4) := ⟨_, _, [], G__accepts_endless, m__accepts_endless, F__accepts_endless.kp, .nil, F__accepts_endless.bindsN fun _ _ _ _ _ _ us hl => match us, hl with | [_, _, _, _], _ => rfl⟩
  have G__accepts_none : FnOk P w K mg base (L2.CX P w) 6 (He.ga K "_accepts_none") fd__accepts_none ["program", "rows", "y"] (spF K (tbs K) p__accepts_none 3) := ok__accepts_none T F__accepts_none C__covers C_bound_of_rows C_sign
  have C__accepts_none : Cal P w K mg base "_accepts_none" 6 ["program", "rows", "y"] [] (spF K (tbs K) p__accepts_none 3) := ⟨_, _, [], G__accepts_none, m__accepts_none, F__accepts_none.kp, .nil, F__accepts_none.bindsN fun _ _ _ _ _ _ us hl => match us, hl with | [_, _, _], _ => rfl⟩
  have G_accepts_rows : FnOk P w K mg base (L2.CX P w) 7 (He.ga K "accepts_rows") fd_accepts_rows ["program", "rows", "certificate"] (spF K (tbs K) p_accepts_rows 3) := ok_accepts_rows T F_accepts_rows C__accepts_best C__accepts_endless C__accepts_none
  have C_accepts_rows : Cal P w K mg base "accepts_rows" 7 ["program", "rows", "certificate"] [] (spF K (tbs K) p_accepts_rows 3) := ⟨_, _, [], G_accepts_rows, m_accepts_rows, F_accepts_rows.kp, .nil, F_accepts_rows.bindsN fun _ _ _ _ _ _ us hl => match us, hl with | [_, _, _], _ => rfl⟩
  have G_accepts_certificate : FnOk P w K mg base (L2.CX P w) 8 (He.ga K "accepts_certificate") fd_accepts_certificate ["program", "certificate"] (spF K (tbs K) p_accepts_certificate 2) := ok_accepts_certificate T F_accepts_certificate C_accepts_rows
  have C_accepts_certificate : Cal P w K mg base "accepts_certificate" 8 ["program", "certificate"] [] (spF K (tbs K) p_accepts_certificate 2) := ⟨_, _, [], G_accepts_certificate, m_accepts_certificate, F_accepts_certificate.kp, .nil, F_accepts_certificate.bindsN fun _ _ _ _ _ _ us hl => match us, hl with | [_, _], _ => rfl⟩
  have G_bound_of : FnOk P w K mg base (L2.CX P w) 5 (He.ga K "bound_of") fd_bound_of ["program", "factors"] (spF K (tbs K) p_bound_of 2) := ok_bound_of T F_bound_of C_bound_of_rows
  have C_bound_of : Cal P w K mg base "bound_of" 5 ["program", "factors"] [] (spF K (tbs K) p_bound_of 2) := ⟨_, _, [], G_bound_of, m_bound_of, F_bound_of.kp, .nil, F_bound_of.bindsN fun _ _ _ _ _ _ us hl => match us, hl with | [_, _], _ => rfl⟩
  exact ok_law T F_law C__law_accepted C__law_around C__law_changed C__law_dot C__law_drawn C__law_made C__law_numbers C__law_program C__law_take C_accepts_certificate C_bound_of
end UbK
open PySem PySem.W PySem.Calls PyProof.Rows
set_option maxHeartbeats 0 in
theorem PySem.Challenge.cw_unbent_k10_certificates_are_judged_holds : PySem.Challenge.rw_unbent_k10_certificates_are_judged.Holds := by
  w_on; o_law
  refine HandSHeadRun.head_imp (r := OpenLaw.row PySem.Challenge.rw_unbent_k10_certificates_are_judged) (q := view (OpenLaw.row PySem.Challenge.rw_unbent_k10_certificates_are_judged).prog [0, 57]) (H := UbK.hk) (ob := UbK.ob) (M := 4000) (loose := UbK.loose) (d := HandSHeadRun.topDef (OpenLaw.row PySem.Challenge.rw_unbent_k10_certificates_are_judged).prog 57) (kwd := []) UbK.ob_eq UbK.run
    (by kernel_rfl) (by kernel_rfl) (by kernel_rfl) (by rfl) (by first | assumption | decide +kernel) (by decide +kernel) ⟨rfl, rfl, rfl, rfl, rfl, by decide +kernel⟩ ?hw ?hc
  case hw => w_witness2
  case hc =>
    refine UbG.endOfLawT (l := PySem.Challenge.rw_unbent_k10_certificates_are_judged) (n := 63) (k := 9) (x := "script") rfl (by decide) (by kernel_rfl) ⟨rfl, by decide, by decide⟩ UbK.tf ?F
    intro w mg fa h Y G hmg0
    obtain ⟨K, KX, c⟩ := Y
    have hmg : mg ("law" : PySem.Str) = some (.ref fa) := by
      have e : (HandSHeadRun.topDef (OpenLaw.row PySem.Challenge.rw_unbent_k10_certificates_are_judged).prog 57).name = ("law" : PySem.Str) := by kernel_rfl
      rw [← e]
      exact hmg0
    obtain ⟨fd, hb, hF⟩ := UbK.facts KX G hmg c (PySem.Challenge.rw_unbent_k10_certificates_are_judged).prog (by kernel_rfl) (by kernel_rfl)
    exact ⟨K, fd, UbP.spF K (UbK.tbs K) UbK.p_law 1, KX, c.x.hd, c.x.out, c.x.empty, hb, fun H a ns hl hz hT hS => UbK.law_sp hl hT hS fun _ => rfl, hF⟩
