import PyProof.Rows.All
import Wide.All
import OpenK.AllK
import Wide.FinOn
import HandS.ForMost
import HandS.ForExc
import HandS.Wide
import HandS.Gcd
import HandS.IsInst
import HandS.Defaults
import HandS.ExcIs
import HandS.Flow
import HandS.Small
import HandS.HeadHook4
import HandS.HeadEnd
import HandS.AnyAll
import HandS.GenList
import HandS.NestedK
import HandS.HeadWalk
import HandS.Rev
import HandS.Conv
import PyProof.StrLaws
import HandS.ExcInit
import HandS.FStr
import HandS.MakeKwOnly
import HandS.ExcField
import HandS.CallSlots
import HandS.MakeKw
import KE.KExcSuper
import HandS.Nested
import HandS.Head0
import HandS.Head1
import HandS.Head2
import HandS.HeadHook1
import HandS.HeadHook2
import HandS.HeadHook3
import HandS.Head3
import PySem.Challenge.RW_unbent_k08_points_of_a_program
set_option Elab.async false
set_option linter.all false
set_option maxRecDepth 100000
set_option maxHeartbeats 4000000
/-! Plain mathematics: Euclid by a bounded number of turns, fractions as Rat. -/
namespace UbM
/-- m turns of Euclid are enough for a, b -/
def Enough (m a b : Nat) : Prop := ∃ e, (b < 2 ^ e ∧ 2 * e + 1 ≤ m) ∨ (b < a ∧ a < 2 ^ (e + 1) ∧ 2 * e + 2 ≤ m)
theorem Enough.pos {m a b : Nat} (h : Enough m a b) : 0 < m := by
  obtain ⟨e, h | h⟩ := h <;> omega
theorem half_mod {a b : Nat} (hb : 0 < b) (h : b < a) : 2 * (a % b) < a := by
  have h1 := Nat.mod_lt a hb
  have h2 := Nat.div_add_mod a b
  have h3 : 1 ≤ a / b := (Nat.le_div_iff_mul_le hb).mpr (by omega)
  have h4 : b * 1 ≤ b * (a / b) := Nat.mul_le_mul_left b h3
  omega
theorem Enough.step {m a b : Nat} (hb : 0 < b) (h : Enough m a b) : Enough (m - 1) b (a % b) := by
  obtain ⟨e, ⟨h1, h2⟩ | ⟨h1, h2, h3⟩⟩ := h
  · cases e with
    | zero =>
      have : b < 1 := h1
      omega
    | succ e =>
      refine ⟨e, .inr ⟨Nat.mod_lt _ hb, h1, by omega⟩⟩
  · refine ⟨e, .inl ⟨?_, by omega⟩⟩
    have h4 := half_mod hb h1
    have h5 : 2 ^ (e + 1) = 2 ^ e * 2 := Nat.pow_succ ..
    omega
theorem enough_of {m a b e : Nat} (h : b < 2 ^ e) (hm : 2 * e + 1 ≤ m) : Enough m a b := ⟨e, .inl ⟨h, hm⟩⟩
/-! ### fractions -/
theorem int_gcd (p q : Int) : q.gcd p = Nat.gcd p.natAbs q.natAbs := by
  unfold Int.gcd
  exact Nat.gcd_comm ..
theorem num_pos {p q : Int} (h : 0 < q) : p / ((Nat.gcd p.natAbs q.natAbs : Nat) : Int) = (Rat.divInt p q).num := by
  rw [Rat.num_divInt, int_gcd, Int.sign_eq_one_of_pos h, Int.one_mul]
theorem den_pos {p q : Int} (h : 0 < q) : q / ((Nat.gcd p.natAbs q.natAbs : Nat) : Int) = ((Rat.divInt p q).den : Int) := by
  rw [Rat.den_divInt, if_neg (by omega), int_gcd]
  have e : (q.natAbs : Int) = q := by omega
  rw [Int.natCast_ediv, e]
theorem gcd_pos {p q : Int} (h : q ≠ 0) : 0 < Nat.gcd p.natAbs q.natAbs := Nat.gcd_pos_of_pos_right _ (by omega)
theorem fdiv_neg_dvd {a b : Int} (h : b ∣ a) : a.fdiv (-b) = -(a / b) := by
  obtain ⟨c, rfl⟩ := h
  by_cases hb : b = 0
  · subst hb
    simp
  · rw [Int.mul_ediv_cancel_left _ hb]
    have e : b * c = -b * -c := by rw [Int.neg_mul_neg]
    rw [e, Int.mul_fdiv_cancel_left _ (by omega)]
theorem dvd_l (p q : Int) : ((Nat.gcd p.natAbs q.natAbs : Nat) : Int) ∣ p := Int.ofNat_dvd_left.mpr (Nat.gcd_dvd_left ..)
theorem dvd_r (p q : Int) : ((Nat.gcd p.natAbs q.natAbs : Nat) : Int) ∣ q := Int.ofNat_dvd_left.mpr (Nat.gcd_dvd_right ..)
theorem num_neg {p q : Int} (h : q < 0) : p.fdiv (-((Nat.gcd p.natAbs q.natAbs : Nat) : Int)) = (Rat.divInt p q).num := by
  rw [fdiv_neg_dvd (dvd_l p q), Rat.num_divInt, int_gcd, Int.sign_eq_neg_one_of_neg h, Int.neg_one_mul, Int.neg_ediv_of_dvd (dvd_l p q)]
theorem den_neg {p q : Int} (h : q < 0) : q.fdiv (-((Nat.gcd p.natAbs q.natAbs : Nat) : Int)) = ((Rat.divInt p q).den : Int) := by
  rw [fdiv_neg_dvd (dvd_r p q), Rat.den_divInt, if_neg (by omega), int_gcd]
  have e : (q.natAbs : Int) = -q := by omega
  rw [Int.natCast_ediv, e, Int.neg_ediv_of_dvd (dvd_r p q)]
/-! ### sizes -/
def Bd (n : Nat) (r : Rat) : Prop := r.num.natAbs < 2 ^ n ∧ r.den < 2 ^ n
theorem bd_divInt {p q : Int} {n : Nat} (hq : q ≠ 0) (h1 : p.natAbs < 2 ^ n) (h2 : q.natAbs < 2 ^ n) : Bd n (Rat.divInt p q) := by
  constructor
  · by_cases h : 0 < q
    · rw [← num_pos h, Int.natAbs_ediv_of_dvd (dvd_l p q)]
      exact Nat.lt_of_le_of_lt (Nat.div_le_self ..) h1
    · rw [← num_neg (show q < 0 by omega), fdiv_neg_dvd (dvd_l p q), Int.natAbs_neg, Int.natAbs_ediv_of_dvd (dvd_l p q)]
      exact Nat.lt_of_le_of_lt (Nat.div_le_self ..) h1
  · rw [Rat.den_divInt, if_neg hq]
    exact Nat.lt_of_le_of_lt (Nat.div_le_self ..) h2
theorem Bd.mono {n m : Nat} {r : Rat} (h : Bd n r) (k : n ≤ m) : Bd m r := ⟨Nat.lt_of_lt_of_le h.1 (Nat.pow_le_pow_right (by decide) k), Nat.lt_of_lt_of_le h.2 (Nat.pow_le_pow_right (by decide) k)⟩
theorem mul_lt {i j : Int} {a b : Nat} (ha : i.natAbs < 2 ^ a) (hb : j.natAbs < 2 ^ b) : (i * j).natAbs < 2 ^ (a + b) := by
  rw [Int.natAbs_mul, Nat.pow_add]
  exact Nat.mul_lt_mul'' ha hb
theorem add_lt {i j : Int} {a b : Nat} (ha : i.natAbs < 2 ^ a) (hb : j.natAbs < 2 ^ b) : (i + j).natAbs < 2 ^ (max a b + 1) := by
  have h1 : (2 : Nat) ^ a ≤ 2 ^ (max a b) := Nat.pow_le_pow_right (by decide) (by omega)
  have h2 : (2 : Nat) ^ b ≤ 2 ^ (max a b) := Nat.pow_le_pow_right (by decide) (by omega)
  have h3 : (2 : Nat) ^ (max a b + 1) = 2 ^ (max a b) * 2 := Nat.pow_succ ..
  omega
theorem sub_lt {i j : Int} {a b : Nat} (ha : i.natAbs < 2 ^ a) (hb : j.natAbs < 2 ^ b) : (i - j).natAbs < 2 ^ (max a b + 1) := by
  have h1 : (2 : Nat) ^ a ≤ 2 ^ (max a b) := Nat.pow_le_pow_right (by decide) (by omega)
  have h2 : (2 : Nat) ^ b ≤ 2 ^ (max a b) := Nat.pow_le_pow_right (by decide) (by omega)
  have h3 : (2 : Nat) ^ (max a b + 1) = 2 ^ (max a b) * 2 := Nat.pow_succ ..
  omega
theorem den_ne (r : Rat) : (r.den : Int) ≠ 0 := by
  have := r.den_nz
  omega
theorem den_p (r : Rat) : (0 : Int) < r.den := by
  have := r.den_nz
  omega
theorem den_lt {r : Rat} {n : Nat} (h : Bd n r) : (r.den : Int).natAbs < 2 ^ n := h.2
theorem add_as (r s : Rat) : Rat.divInt (r.num * s.den + s.num * r.den) (r.den * s.den) = r + s := by
  rw [Rat.add_def', ← Rat.divInt_ofNat, Int.natCast_mul]
theorem sub_as (r s : Rat) : Rat.divInt (r.num * s.den - s.num * r.den) (r.den * s.den) = r - s := by
  rw [Rat.sub_def', ← Rat.divInt_ofNat, Int.natCast_mul]
theorem mul_as (r s : Rat) : Rat.divInt (r.num * s.num) (r.den * s.den) = r * s := by
  rw [Rat.mul_def', ← Rat.divInt_ofNat, Int.natCast_mul]
theorem div_as (r s : Rat) : Rat.divInt (r.num * s.den) (r.den * s.num) = r / s := by
  rw [Rat.div_def, Rat.inv_def]
  conv => rhs; rw [← Rat.num_divInt_den r]
  rw [Rat.divInt_mul_divInt]
theorem bd_add {r s : Rat} {a b : Nat} (hr : Bd a r) (hs : Bd b s) : Bd (a + b + 1) (r + s) := by
  rw [← add_as]
  refine bd_divInt (Int.mul_ne_zero (den_ne r) (den_ne s)) ?_ ?_
  · have := add_lt (mul_lt hr.1 (den_lt hs)) (mul_lt hs.1 (den_lt hr))
    rw [show max (a + b) (b + a) + 1 = a + b + 1 by omega] at this
    exact this
  · exact Nat.lt_of_lt_of_le (mul_lt (den_lt hr) (den_lt hs)) (Nat.pow_le_pow_right (by decide) (by omega))
theorem bd_sub {r s : Rat} {a b : Nat} (hr : Bd a r) (hs : Bd b s) : Bd (a + b + 1) (r - s) := by
  rw [← sub_as]
  refine bd_divInt (Int.mul_ne_zero (den_ne r) (den_ne s)) ?_ ?_
  · have := sub_lt (mul_lt hr.1 (den_lt hs)) (mul_lt hs.1 (den_lt hr))
    rw [show max (a + b) (b + a) + 1 = a + b + 1 by omega] at this
    exact this
  · exact Nat.lt_of_lt_of_le (mul_lt (den_lt hr) (den_lt hs)) (Nat.pow_le_pow_right (by decide) (by omega))
theorem bd_mul {r s : Rat} {a b : Nat} (hr : Bd a r) (hs : Bd b s) : Bd (a + b) (r * s) := by
  rw [← mul_as]
  exact bd_divInt (Int.mul_ne_zero (den_ne r) (den_ne s)) (mul_lt hr.1 hs.1) (mul_lt (den_lt hr) (den_lt hs))
theorem bd_neg {r : Rat} {a : Nat} (hr : Bd a r) : Bd a (-r) := ⟨by rw [Rat.neg_num, Int.natAbs_neg]; exact hr.1, hr.2⟩
theorem bd_div {r s : Rat} {a b : Nat} (hz : s ≠ 0) (hr : Bd a r) (hs : Bd b s) : Bd (a + b) (r / s) := by
  rw [← div_as]
  exact bd_divInt (Int.mul_ne_zero (den_ne r) fun h => hz (Rat.num_eq_zero.mp h)) (mul_lt hr.1 (den_lt hs)) (mul_lt (den_lt hr) hs.1)
/-! ### the order -/
/-- -1, 0, 1 as r is below, equal to, above s -/
def cmpR (r s : Rat) : Int := Int.sign (r.num * s.den - s.num * r.den)
theorem cmpR_lt {r s : Rat} (h : r < s) : cmpR r s = -1 := by
  have := (Rat.lt_iff r s).mp h
  exact Int.sign_eq_neg_one_of_neg (by omega)
theorem cmpR_gt {r s : Rat} (h : s < r) : cmpR r s = 1 := by
  have := (Rat.lt_iff s r).mp h
  exact Int.sign_eq_one_of_pos (by omega)
theorem cmpR_self (r : Rat) : cmpR r r = 0 := by
  unfold cmpR
  rw [Int.sub_self]
  rfl
theorem cmpR_cases (r s : Rat) : (r < s ∧ cmpR r s = -1) ∨ (r = s ∧ cmpR r s = 0) ∨ (s < r ∧ cmpR r s = 1) := by
  by_cases h : r = s
  · subst h
    exact .inr (.inl ⟨rfl, cmpR_self r⟩)
  · by_cases h2 : r < s
    · exact .inl ⟨h2, cmpR_lt h2⟩
    · have h3 : s < r := Rat.lt_of_le_of_ne (Rat.not_lt.mp h2) fun e => h e.symm
      exact .inr (.inr ⟨h3, cmpR_gt h3⟩)
theorem cmpR_swap (r s : Rat) : cmpR s r = -cmpR r s := by
  rcases cmpR_cases r s with ⟨h, e⟩ | ⟨h, e⟩ | ⟨h, e⟩
  · rw [e, cmpR_gt h]
    rfl
  · rw [e, h, cmpR_self]
    rfl
  · rw [e, cmpR_lt h]
theorem cmpR_add (r s t : Rat) : cmpR (r + t) (s + t) = cmpR r s := by
  rcases cmpR_cases r s with ⟨h, e⟩ | ⟨h, e⟩ | ⟨h, e⟩
  · rw [e, cmpR_lt (Rat.add_lt_add_right.mpr h)]
  · rw [e, h, cmpR_self]
  · rw [e, cmpR_gt (Rat.add_lt_add_right.mpr h)]
theorem cmpR_mul {r s t : Rat} (ht : 0 < t) : cmpR (r * t) (s * t) = cmpR r s := by
  rcases cmpR_cases r s with ⟨h, e⟩ | ⟨h, e⟩ | ⟨h, e⟩
  · rw [e, cmpR_lt ((Rat.mul_lt_mul_right ht).mpr h)]
  · rw [e, h, cmpR_self]
  · rw [e, cmpR_gt ((Rat.mul_lt_mul_right ht).mpr h)]
theorem neg_pos {t : Rat} (h : t < 0) : 0 < -t := by
  have := Rat.neg_lt_neg h
  rw [Rat.neg_zero] at this
  exact this
theorem cmpR_mul_neg {r s t : Rat} (ht : t < 0) : cmpR (r * t) (s * t) = -cmpR r s := by
  have h1 := cmpR_mul (r := r) (s := s) (neg_pos ht)
  rw [Rat.mul_neg, Rat.mul_neg] at h1
  rw [← h1, ← cmpR_swap]
  unfold cmpR
  rw [Rat.neg_num, Rat.neg_num, Rat.neg_den, Rat.neg_den, Int.neg_mul, Int.neg_mul]
  congr 1
  omega
theorem sign_as (d : Int) : (if decide (0 < d) = true then (1 : Int) else 0) - (if decide (d < 0) = true then (1 : Int) else 0) = Int.sign d := by
  rcases Int.lt_trichotomy d 0 with h | h | h
  · rw [decide_eq_true h, decide_eq_false (show ¬0 < d by omega), Int.sign_eq_neg_one_of_neg h]
    rfl
  · subst h
    rfl
  · rw [decide_eq_true h, decide_eq_false (show ¬d < 0 by omega), Int.sign_eq_one_of_pos h]
    rfl
theorem cmpR_zero (r : Rat) : cmpR r 0 = Int.sign r.num := by
  unfold cmpR
  rw [Rat.zero_num, Rat.zero_den]
  congr 1
  omega
theorem num_pos_iff {r : Rat} : 0 < r.num ↔ 0 < r := by
  have h := Rat.lt_iff 0 r
  rw [Rat.zero_num, Rat.zero_den] at h
  rw [h]
  omega
theorem num_neg_iff {r : Rat} : r.num < 0 ↔ r < 0 := by
  have h := Rat.lt_iff r 0
  rw [Rat.zero_num, Rat.zero_den] at h
  rw [h]
  omega
end UbM

namespace Ub
open PySem PySem.Spec PyProof.Rows L2 UbM
/-! ### heaps -/
theorem sameNew {H : Hp} {p : Addr} {o : HO} (h : H p = none) : Same H (upd H p o) := fun b x e => by
  rw [upd_ne (ne_of_none e h)]
  exact e
theorem Same.tseq {K : PySem.W.Frag} {H H' : Hp} {a : Addr} {xs : List V} (e : Same H H') (h : SqT K H a xs) : SqT K H' a xs := by
  rcases h with (h | ⟨o, h⟩) | h
  · exact .inl (.inl (e _ _ h))
  · exact .inl (.inr ⟨o, e _ _ h⟩)
  · exact .inr h
mutual
theorem Dp.mono {K : PySem.W.Frag} {H H' : Hp} (e : Same H H') : ∀ (d : PyData) (v : V), Dp K H v d → Dp K H' v d
  | .none, _, h => by cases h; exact .non
  | .bool b, _, h => by cases h; exact .bl b
  | .int i, _, h => by cases h; exact .int i
  | .str x, _, h => by cases h; exact .str x
  | .list ds, _, h => by
    cases h with
    | lst hs ha => exact .lst (Same.seq e hs) (Dp.monoAll e ds _ ha)
  | .tuple ds, _, h => by
    cases h with
    | tup hs ha => exact .tup (Same.tseq e hs) (Dp.monoAll e ds _ ha)
  | .dict _, _, h => by cases h
theorem Dp.monoAll {K : PySem.W.Frag} {H H' : Hp} (e : Same H H') : ∀ (ds : List PyData) (vs : List V), DpAll K H vs ds → DpAll K H' vs ds
  | [], _, h => by cases h; exact .nil
  | d :: ds, _, h => by
    cases h with
    | cons h1 h2 => exact .cons (Dp.mono e d _ h1) (Dp.monoAll e ds _ h2)
end
/-- a fraction as data -/
def frD (r : Rat) : PyData := .tuple [.int r.num, .int (r.den : Int)]
/-- v is the fraction r -/
def Fr (K : PySem.W.Frag) (H : Hp) (v : V) (r : Rat) : Prop := Dp K H v (frD r)
theorem Fr.mono {K : PySem.W.Frag} {H H' : Hp} {v : V} {r : Rat} (e : Same H H') (h : Fr K H v r) : Fr K H' v r := Dp.mono e _ _ h
theorem Fr.get {K : PySem.W.Frag} {H : Hp} {v : V} {r : Rat} (h : Fr K H v r) : ∃ a, v = .ref a ∧ SqT K H a [.int r.num, .int (r.den : Int)] := by
  unfold Fr frD at h
  cases h with
  | tup hs ha =>
    cases ha with
    | cons h1 h2 =>
      cases h2 with
      | cons h2 h3 =>
        cases h3
        cases h1
        cases h2
        exact ⟨_, rfl, hs⟩
theorem fr_of {K : PySem.W.Frag} {H : Hp} {a : Addr} {r : Rat} {p q : Int} (h : SqT K H a [.int p, .int q]) (hp : p = r.num) (hq : q = (r.den : Int)) : Fr K H (.ref a) r := by
  subst hp hq
  exact .tup h (.cons (.int _) (.cons (.int _) .nil))
theorem frNew {K : PySem.W.Frag} {H : Hp} {a : Addr} {r : Rat} {p q : Int} (hp : p = r.num) (hq : q = (r.den : Int)) : Fr K (upd H a (.tup [.int p, .int q])) (.ref a) r := fr_of (.inl (.inl upd_same)) hp hq
/-! ### operators on ints of any size that these laws meet -/
def CDivX (_ j : Int) : Prop := j ≠ 0 ∧ j.natAbs.log2 < 9000
theorem cdivX {i j : Int} {b : Nat} (h : j ≠ 0) (hb : j.natAbs < 2 ^ b) (h0 : 0 < b) (h9 : b ≤ 9000) : CDivX i j := ⟨h, Nat.lt_of_lt_of_le (PySem.Flt.log2_lt_of h0 hb) h9⟩
section
variable {X : Cx}
theorem op_fdivX : OpR X (binaryOp .FloorDiv) (rI CDivX fun i j => .int (i.fdiv j)) := opI fun i j _ _ _ _ _ hc q => floordiv_int hc.1 q (.inl (PyProof.noPylong_of_log2 hc.2))
end
/-- * of two ints: one below 2 ^ 64, or together below a million bits -/
def CMulG (i j : Int) : Prop := CMul i j ∨ CMulW i j
section
variable {X : Cx}
theorem op_mulG : OpR X (binaryOp .Mult) (rI CMulG fun i j => .int (i * j)) := opI fun _ _ _ _ _ _ _ hc q => mul_int q (by
  rcases hc with hc | hc
  · exact hc.ok
  · exact hc.ok)
end
theorem fdiv_pos {i j : Int} (h : 0 < j) : i.fdiv j = i / j := Int.fdiv_eq_ediv_of_nonneg i (by omega)
/-! ### calls of the program's own defs -/
/-- at the name x stands a def that keeps the promise sp, by at most level k; dvs: the defaults that fill up -/
structure Cal (P : Program) (w : World) (K : PySem.W.Frag) (mg : Str → Option Value) (base : Heap) (x : Str) (k : Nat) (ps : List Str) (dvs : List V) (sp : Sp) : Prop where
  ex : ∃ (f : Addr) (fd : FuncData) (ds : List Value), FnOk P w K mg base (L2.CX P w) k f fd ps sp ∧ mg x = some (.ref f) ∧ PySem.W.keepIn K (.ref f) = true ∧ Vals dvs ds ∧ Binds K fd ps ds
section
variable {X : Cx} {x : Str} {k j : Nat} {ps : List Str} {dvs : List V} {sp : Sp} {p pos : Pos} {e : Expr} {es : List Expr} {t : TA}
theorem pe_callC (C : Cal X.prog X.w X.K X.mg X.base x k ps dvs sp) (hr : Room j X.A) (hj : k ≤ j) (hg : Gl X x) (ha : PA X (e :: es) t) (hdb : (x == ("__debug__" : Str)) = false := by decide)
    (he : starEach (e :: es) X.env = (false, eval e X.env) :: starEach es X.env := by rfl) (hpl : (backTo pos (starEach es X.env)).any (·.1) = false := by rfl) :
    PE X (.Call (.Name x p) (e :: es) [] pos) (tCall sp dvs E0 t) := by
  obtain ⟨f, fd, ds, F, hm, hk, hd, hb⟩ := C.ex
  exact pe_call F (hr.mono hj) hg hm hk hb hd passL ha hdb he hpl
theorem pe_callC0 (C : Cal X.prog X.w X.K X.mg X.base x k ps dvs sp) (hr : Room j X.A) (hj : k ≤ j) (hg : Gl X x) (hdb : (x == ("__debug__" : Str)) = false := by decide) : PE X (.Call (.Name x p) [] [] pos) (tCall sp dvs E0 tNil) := by
  obtain ⟨f, fd, ds, F, hm, hk, hd, hb⟩ := C.ex
  exact pe_call0 F (hr.mono hj) hg hm hk hb hd passL hdb
/-- in a def that may raise: what the callee raises leaves it -/
theorem pe_callCX {E : XK} (C : Cal X.prog X.w X.K X.mg X.base x k ps dvs sp) (hr : Room j X.A) (hj : k ≤ j) (hg : Gl X x) (tk : Takes X (fun cls d _ H => E cls d H)) (ha : PA X (e :: es) t) (hdb : (x == ("__debug__" : Str)) = false := by decide)
    (he : starEach (e :: es) X.env = (false, eval e X.env) :: starEach es X.env := by rfl) (hpl : (backTo pos (starEach es X.env)).any (·.1) = false := by rfl) :
    PE X (.Call (.Name x p) (e :: es) [] pos) (tCall sp dvs E t) := by
  obtain ⟨f, fd, ds, F, hm, hk, hd, hb⟩ := C.ex
  exact pe_call F (hr.mono hj) hg hm hk hb hd (passes_call tk fun _ _ _ _ h => h) ha hdb he hpl
/-- in a try: what it raises goes to the clause -/
theorem pe_callCS {W : WX} (C : Cal X.prog X.w X.K X.mg X.base x k ps [] sp) (hr : Room j X.A) (hj : k ≤ j) (hg : Gl X x) (tk : Takes X W) (ha : PA X (e :: es) t) (hdb : (x == ("__debug__" : Str)) = false := by decide)
    (he : starEach (e :: es) X.env = (false, eval e X.env) :: starEach es X.env := by rfl) (hpl : (backTo pos (starEach es X.env)).any (·.1) = false := by rfl) :
    PE X (.Call (.Name x p) (e :: es) [] pos) (tCallS sp (WE W) t) := by
  obtain ⟨f, fd, ds, F, hm, hk, hd, hb⟩ := C.ex
  cases hd
  exact pe_callS F (hr.mono hj) hg hm hk hb (fun σ => passAt tk σ) ha hdb he hpl
end
theorem Cal.mono {P : Program} {w : World} {K : PySem.W.Frag} {mg : Str → Option Value} {base : Heap} {x : Str} {k : Nat} {ps : List Str} {dvs : List V} {sp sp' : Sp} (C : Cal P w K mg base x k ps dvs sp)
    (h : ∀ vs H Q E, sp' vs H Q E → sp vs H Q E) : Cal P w K mg base x k ps dvs sp' := by
  obtain ⟨f, fd, ds, F, r⟩ := C.ex
  exact ⟨f, fd, ds, F.imp h, r⟩
/-! ### own exceptions -/
section
variable {X : Cx} {C : Addr} {bmB : List Value} {B newId initId : String}
/-- X(), X an own exception class without own __init__ -/
theorem pmk_own0 {x : Str} {p pos : Pos} (F : ExcBaseFacts B newId initId bmB) (q : PySem.W.excIn X.K C bmB newId = true) (gC : X.mg x = some (.ref C)) (kC : PySem.W.keepIn X.K (.ref C) = true) (r : Raises X (.ref C)) (hg : Gl X x)
    (hdb : (x == ("__debug__" : Str)) = false := by decide) : PMk X (.Call (.Name x p) [] [] pos) (fun _ H Q => Q (.ref C) none H) := by
  intro pins s σ H Q I h
  refine wpAny_Call_Name_kw (ld_glob I hg gC ?_ hdb)
  refine PySem.W.callWith_K0 I.kIn kC ?_
  show wpAny _ _ (call (.ref C) []) _ _ _
  obtain ⟨bm, N, nm, qn, bs, hdct, sn, sub, ab, col, dd, k0, k1, k2, k3, k5, mN, hC, hN, hni, T⟩ := exc_obj I.kIn q
  refine wpAny_call_exc_subT F T hC hN hni (fun h' e hm => ?_) (Nat.zero_le _)
  exact mk_of I hm r h (I.hok.gone hm.new)
end
/-- what the top says of an own exception class without own __init__ -/
structure ExcK (K : PySem.W.Frag) (mg : Str → Option Value) (x : Str) : Prop where
  gC : mg x = some (.ref (He.ga K x))
  xC : PySem.W.excIn K (He.ga K x) He.veBase "ValueError.__new__" = true
  kC : PySem.W.keepIn K (.ref (He.ga K x)) = true
  bC : PySem.W.subIn K (.ref (He.ga K x)) (.type "BaseException") = some true
  tC : PySem.W.typeIn K (.ref (He.ga K x)) = some (.type "type")
section
variable {X : Cx} {x : Str} {p pos pos2 : Pos} {W : WX}
theorem ps_raise0 (hc : X.calm = true) (T : ExcK X.K X.mg x) (tk : Takes X W) (hg : Gl X x) (hdb : (x == ("__debug__" : Str)) = false := by decide) :
    PS X (.Raise (some (.Call (.Name x p) [] [] pos)) none pos2) (fun _ σ H => W (.ref (He.ga X.K x)) none σ H) := ps_raise hc tk (pmk_own0 PySem.F.excBase_ValueError T.xC T.gC T.kC (raises_own T.bC T.tC) hg hdb)
end
/-- what isinstance asks of an exception's class, as a test of K -/
def excCB (K : PySem.W.Frag) (D : Addr) : Bool :=
  He.eqO (PySem.W.findIn K (.ref D) "__getattribute__") (some (some (.builtin "BaseException.__getattribute__"))) && (He.eqO (PySem.W.findIn K (.ref D) "__getattr__") (some none) && (decide (PySem.W.subIn K (.ref D) (.type "BaseException") = some true) && (PySem.W.hasDictIn K D && (He.eqO (PySem.W.findIn K (.ref D) "__class__") (some (some (.builtin "object.__class__"))) &&
  (decide (PySem.W.specialIn K (.builtin "object.__class__") "__get__" = some (some (.builtin "getset_descriptor.__get__"))) && (decide (PySem.W.takesIn K (.builtin "object.__class__") = some true) && decide (PySem.W.mroIn K D (.type "object") = some true)))))))
theorem excCB_ok {K : PySem.W.Frag} {D : Addr} (h : excCB K D = true) : ExcC K D := by
  unfold excCB at h
  obtain ⟨h1, h⟩ := He.ba h
  obtain ⟨h2, h⟩ := He.ba h
  obtain ⟨h3, h⟩ := He.ba h
  obtain ⟨h4, h⟩ := He.ba h
  obtain ⟨h5, h⟩ := He.ba h
  obtain ⟨h6, h⟩ := He.ba h
  obtain ⟨h7, h8⟩ := He.ba h
  exact ⟨He.eqO_ok h1, He.eqO_ok h2, of_decide_eq_true h3, h4, He.eqO_ok h5, of_decide_eq_true h6, of_decide_eq_true h7, of_decide_eq_true h8⟩
/-- isinstance(e, c), e the caught exception, of the class at D -/
def rIsEx (K : PySem.W.Frag) (D a : Addr) (cls : Value) (d : Option Addr) : List V → Hp → VK → Prop := fun xs H Q => cls = .ref D ∧ d = none ∧ rIsE K D a xs H Q
theorem call_isEx {X : Cx} {a D : Addr} {oe : Obj} {pn : List (Addr × Obj)} {cls : Value} {d : Option Addr} (C : ExcC X.K D) (hz : Zc cls d oe) (hf : ∃ vs, oe.data = .fields vs) : CallR (X.suite a ((a, oe) :: pn)) (.builtin "isinstance") (rIsEx X.K D a cls d) := by
  intro pins s σ H xs us Q I r h
  obtain ⟨e1, e2, h⟩ := h
  subst e1 e2
  exact call_isE C hz hf pins s σ H xs us Q I r h
theorem rdIsEx {K : PySem.W.Frag} {D a : Addr} {H : Hp} {Q : VK} {c : V} {cv : Value} {b : Bool} (hc : ∀ u, RelV c u → u = cv) (k : PySem.W.kitOne K (.ref D) cv = some b) (q : Q (.bl b) H) : rIsEx K D a (.ref D) none [.ref a, c] H Q := ⟨rfl, rfl, c, cv, b, rfl, hc, k, q⟩
/-! ### words for readings -/
theorem bb_int : bootBuiltins "int" = some (.type "int") := by decide +kernel
theorem bb_abs : bootBuiltins "abs" = some (.builtin "abs") := by decide +kernel
theorem bb_list : bootBuiltins "list" = some (.type "list") := by decide +kernel
theorem bb_len : bootBuiltins "len" = some (.builtin "len") := by decide +kernel
theorem bb_isinstance : bootBuiltins "isinstance" = some (.builtin "isinstance") := by decide +kernel
theorem bb_tuple : bootBuiltins "tuple" = some (.type "tuple") := by decide +kernel
theorem bb_bool : bootBuiltins "bool" = some (.type "bool") := by decide +kernel
theorem bb_str : bootBuiltins "str" = some (.type "str") := by decide +kernel
theorem bb_ValueError : bootBuiltins "ValueError" = some (.type "ValueError") := by decide +kernel
theorem bb_min : bootBuiltins "min" = some (.builtin "min") := by decide +kernel
theorem bb_max : bootBuiltins "max" = some (.builtin "max") := by decide +kernel
theorem bb_sum : bootBuiltins "sum" = some (.builtin "sum") := by decide +kernel
theorem bb_any : bootBuiltins "any" = some (.builtin "any") := by decide +kernel
theorem bb_all : bootBuiltins "all" = some (.builtin "all") := by decide +kernel
theorem bb_sorted : bootBuiltins "sorted" = some (.builtin "sorted") := by decide +kernel
theorem bb_repr : bootBuiltins "repr" = some (.builtin "repr") := by decide +kernel
/-- isinstance of data -/
def tyD : PyData → String
  | .none => "NoneType"
  | .bool _ => "bool"
  | .int _ => "int"
  | .str _ => "str"
  | .list _ => "list"
  | .tuple _ => "tuple"
  | .dict _ => "dict"
theorem tyx {K : PySem.W.Frag} {H : Hp} {v : V} {d : PyData} (h : Dp K H v d) : TyX K H v (.type (tyD d)) := by
  cases h with
  | non => exact .base .non
  | bl b => exact .base (.bl b)
  | int i => exact .base (.int i)
  | str x => exact .base (.str x)
  | lst hs _ =>
    rcases hs with (hs | ⟨o, hs⟩) | ⟨o, its, n, hl, hc, _⟩
    · exact .base (.lst hs)
    · exact .base (.frz hs)
    · exact .kList hl hc
  | tup hs _ =>
    rcases hs with (hs | ⟨o, hs⟩) | ⟨o, its, n, hl, hc, _⟩
    · exact .base (.tup hs)
    · exact .fTuple hs
    · exact .kTuple hl hc
/-- isinstance(x, T): the answer by the data's type -/
theorem isiD {K : PySem.W.Frag} {H : Hp} {v : V} {d : PyData} {T : String} {b : Bool} {Q : VK} (h : Dp K H v d) (k : kitB (tyD d) T = some b) (q : Q (.bl b) H) : rIsi K [v, .ty T] H Q := ⟨v, .ty T, .type (tyD d), .type T, b, rfl, .ty T, tyx h, kit_ty k, q⟩
/-! ### readings, step by step: each name says which construct has come -/
theorem log2_le {x a : Nat} (h : x < 2 ^ a) : x.log2 ≤ a := by
  by_cases ha : a = 0
  · subst ha
    have : x = 0 := by omega
    subst this
    exact Nat.le_of_eq (by decide)
  · exact Nat.le_of_lt (PySem.Flt.log2_lt_of (by omega) h)
theorem mulW {i j : Int} {a b : Nat} (ha : i.natAbs < 2 ^ a) (hb : j.natAbs < 2 ^ b) (h : a + b ≤ 900000) : CMulG i j := .inr <| by
  have h1 := log2_le ha
  have h2 := log2_le hb
  unfold CMulW
  omega
theorem divX {i j : Int} {b : Nat} (h : j ≠ 0) (hb : j.natAbs < 2 ^ b) (h9 : b < 9000) : CDivX i j := ⟨h, Nat.lt_of_le_of_lt (log2_le hb) h9⟩
/-! named readings of built-in calls -/
def rInt1 : List V → Hp → VK → Prop := fun xs H Q => (∃ i, xs = [.int i] ∧ Q (.int i) H) ∨ ∃ k, xs = [.bl k] ∧ Q (.int (if k then 1 else 0)) H
def rStrI : List V → Hp → VK → Prop := fun xs H Q => ∃ i, xs = [.int i] ∧ i.natAbs.log2 < 1920 ∧ Q (.str (toString i)) H
def rMin2 : List V → Hp → VK → Prop := fun xs H Q => ∃ i j, xs = [.int i, .int j] ∧ Q (.int (if j < i then j else i)) H
def rAbs1 : List V → Hp → VK → Prop := fun xs H Q => ∃ i, xs = [.int i] ∧ Q (.int (if i < 0 then -i else i)) H
def rLenS (K : PySem.W.Frag) : List V → Hp → VK → Prop := fun xs H Q => ∃ p ys, xs = [.ref p] ∧ (SqL K H p ys ∨ SqT K H p ys) ∧ Q (.int ys.length) H
def rListOf (K : PySem.W.Frag) : List V → Hp → VK → Prop := fun xs H Q => ∃ p ys, xs = [.ref p] ∧ (SqL K H p ys ∨ SqT K H p ys) ∧ ∀ l, H l = none → Q (.ref l) (upd H l (.lst ys))
section
variable {X : Cx}
theorem cl_int : CallR X (.type "int") rInt1 := call_int1
theorem cl_str : CallR X (.type "str") rStrI := call_str_int
theorem cl_min2 (hc : X.calm = true) : CallR X (.builtin "min") rMin2 := call_min2 hc
theorem cl_abs : CallR X (.builtin "abs") rAbs1 := call_abs
theorem cl_len : CallR X (.builtin "len") (rLenS X.K) := call_len_seq
theorem cl_list : CallR X (.type "list") (rListOf X.K) := call_list_of
end
def rIsN1 : R2 := fun x y H Q => y = .non ∧ Q (.bl (decide (x = .non))) H
def rNotN1 : R2 := fun x y H Q => y = .non ∧ Q (.bl (!decide (x = .non))) H
section
variable {X : Cx}
theorem op_isNo : OpR X (compareOp .Is) rIsN1 := op_isN
theorem op_notNo : OpR X (compareOp .IsNot) rNotN1 := op_notN
end
/-- == and !=: of scalars, or of data -/
def rEqA (K : PySem.W.Frag) : R2 := fun x y H Q => rEq x y H Q ∨ rEqD K x y H Q
def rNeA (K : PySem.W.Frag) : R2 := fun x y H Q => rNe x y H Q ∨ rNeD K x y H Q
section
variable {X : Cx}
theorem op_eqA (hu : X.A.units + 64 < cLine) : OpR X (compareOp .Eq) (rEqA X.K) := fun pins s σ H x y v u Q I rx ry h => h.elim (op_eq pins s σ H x y v u Q I rx ry) (op_eqD hu pins s σ H x y v u Q I rx ry)
theorem op_neA (hu : X.A.units + 64 < cLine) : OpR X (compareOp .NotEq) (rNeA X.K) := fun pins s σ H x y v u Q I rx ry h => h.elim (op_ne pins s σ H x y v u Q I rx ry) (op_neD hu pins s σ H x y v u Q I rx ry)
end
/-! the same rules with the written part named (in a comprehension's element) -/
section
variable {X : Cx} {K : PySem.W.Frag}
theorem ix_seqK (h : X.K = K) : IxR X (rIx K) := by
  subst h
  exact ix_seq
theorem cl_lenK (h : X.K = K) : CallR X (.builtin "len") (rLenS K) := by
  subst h
  exact cl_len
theorem cl_listK (h : X.K = K) : CallR X (.type "list") (rListOf K) := by
  subst h
  exact cl_list
theorem op_eqAK (h : X.K = K) (hu : X.A.units + 64 < cLine) : OpR X (compareOp .Eq) (rEqA K) := by
  subst h
  exact op_eqA hu
theorem op_neAK (h : X.K = K) (hu : X.A.units + 64 < cLine) : OpR X (compareOp .NotEq) (rNeA K) := by
  subst h
  exact op_neA hu
theorem call_isiKK (h : X.K = K) : CallR X (.builtin "isinstance") (rIsi K) := by
  subst h
  exact call_isi
end
/-! a sequence whose first part meets again: what holds behind it is said once -/
def tSeqJ (t u : TS) : TS := fun D σ H => ∀ U : L2.St → Hp → Prop, (∀ σ' H', u D σ' H' → U σ' H') → t { D with nx := U } σ H
theorem pss_consJ {X : Cx} {st : Stmt} {rest : List Stmt} {t u : TS} (h1 : PS X st t) (h2 : PSs X rest u) : PSs X (st :: rest) (tSeqJ t u) := ⟨fun pins s σ H D I h => (pss_cons h1 h2).run pins s σ H D I (h _ fun _ _ x => x)⟩
theorem seqJ {t u : TS} {D : Ends} {σ : L2.St} {H : Hp} (R : L2.St → Hp → Prop) (h1 : ∀ U : L2.St → Hp → Prop, (∀ σ' H', R σ' H' → U σ' H') → t { D with nx := U } σ H) (h2 : ∀ σ' H', R σ' H' → u D σ' H') : tSeqJ t u D σ H := fun U hU => h1 U fun σ' H' r => hU _ _ (h2 σ' H' r)
section
variable {K : PySem.W.Frag} {H : Hp} {Q : VK} {σ : L2.St}
theorem rdV {i : Nat} {v : V} (h : σ[i]? = some (some v)) (q : Q v H) : tVar i σ H Q := ⟨v, h, q⟩
theorem rdAdd {i j : Int} (q : Q (.int (i + j)) H) : rI0 (fun i j => .int (i + j)) (.int i) (.int j) H Q := ⟨i, j, rfl, rfl, q⟩
theorem rdSub {i j : Int} (q : Q (.int (i - j)) H) : rI0 (fun i j => .int (i - j)) (.int i) (.int j) H Q := ⟨i, j, rfl, rfl, q⟩
theorem rdMul {i j : Int} (c : CMulG i j) (q : Q (.int (i * j)) H) : rI CMulG (fun i j => .int (i * j)) (.int i) (.int j) H Q := ⟨i, j, rfl, rfl, c, q⟩
theorem rdDiv {i j : Int} (c : CDivX i j) (q : Q (.int (i.fdiv j)) H) : rI CDivX (fun i j => .int (i.fdiv j)) (.int i) (.int j) H Q := ⟨i, j, rfl, rfl, c, q⟩
theorem rdDivP {i j : Int} {b : Nat} (h : 0 < j) (hb : j.natAbs < 2 ^ b) (h9 : b < 9000) (q : Q (.int (i / j)) H) : rI CDivX (fun i j => .int (i.fdiv j)) (.int i) (.int j) H Q := ⟨i, j, rfl, rfl, divX (by omega) hb h9, by show Q (.int (i.fdiv j)) H; rw [fdiv_pos h]; exact q⟩
theorem rdMod {i j : Int} (c : 0 < j) (q : Q (.int (i % j)) H) : rI (fun _ j => 0 < j) (fun i j => .int (i % j)) (.int i) (.int j) H Q := ⟨i, j, rfl, rfl, c, q⟩
theorem rdNeg {i : Int} (q : Q (.int (-i)) H) : rU (fun i => .int (-i)) (.int i) H Q := ⟨i, rfl, q⟩
theorem rdEqI {i j : Int} (q : Q (.bl (decide (i = j))) H) : rEqA K (.int i) (.int j) H Q := .inl <| ⟨rfl, by
  have e : decide (V.int i = V.int j) = decide (i = j) := by
    rw [dec_int]
    exact Bool.beq_eq_decide_eq ..
  rw [e]
  exact q⟩
theorem rdNeI {i j : Int} (q : Q (.bl (!decide (i = j))) H) : rNeA K (.int i) (.int j) H Q := .inl <| ⟨rfl, by
  have e : decide (V.int i = V.int j) = decide (i = j) := by
    rw [dec_int]
    exact Bool.beq_eq_decide_eq ..
  rw [e]
  exact q⟩
theorem rdLt {i j : Int} (q : Q (.bl (decide (i < j))) H) : rI0 (fun i j => .bl (decide (i < j))) (.int i) (.int j) H Q := ⟨i, j, rfl, rfl, q⟩
theorem rdGt {i j : Int} (q : Q (.bl (decide (j < i))) H) : rI0 (fun i j => .bl (decide (j < i))) (.int i) (.int j) H Q := ⟨i, j, rfl, rfl, q⟩
theorem rdLe {i j : Int} (q : Q (.bl (decide (i ≤ j))) H) : rI0 (fun i j => .bl (decide (i ≤ j))) (.int i) (.int j) H Q := ⟨i, j, rfl, rfl, q⟩
theorem rdGe {i j : Int} (q : Q (.bl (decide (j ≤ i))) H) : rI0 (fun i j => .bl (decide (j ≤ i))) (.int i) (.int j) H Q := ⟨i, j, rfl, rfl, q⟩
theorem rdPow {i j : Int} (c : CPow i j) (q : Q (.int (i ^ j.toNat)) H) : rI CPow (fun i j => .int (i ^ j.toNat)) (.int i) (.int j) H Q := ⟨i, j, rfl, rfl, c, q⟩
theorem rdInt {i : Int} (q : Q (.int i) H) : rInt1 [.int i] H Q := .inl ⟨i, rfl, q⟩
theorem rdMin2 {m n : Nat} (q : Q (.int ((min m n : Nat) : Int)) H) : rMin2 [.int (m : Int), .int (n : Int)] H Q := ⟨_, _, rfl, by
  have e : (if (n : Int) < m then (n : Int) else m) = ((min m n : Nat) : Int) := by split <;> omega
  rw [e]
  exact q⟩
theorem rdStrI {i : Int} {n : Nat} (h : i.natAbs < 2 ^ n) (hn : n < 1920) (q : Q (.str (toString i)) H) : rStrI [.int i] H Q := ⟨i, rfl, Nat.lt_of_le_of_lt (log2_le h) hn, q⟩
theorem rdIntB {b : Bool} (q : Q (.int (if b then 1 else 0)) H) : rInt1 [.bl b] H Q := .inr ⟨b, rfl, q⟩
theorem rdAbs {i : Int} (q : Q (.int (i.natAbs : Int)) H) : rAbs1 [.int i] H Q := ⟨i, rfl, by
  have e : (if i < 0 then -i else i) = (i.natAbs : Int) := by split <;> omega
  rw [e]
  exact q⟩
theorem rdLenT {a : Addr} {xs : List V} (h : SqT K H a xs) (q : Q (.int (xs.length : Int)) H) : rLenS K [.ref a] H Q := ⟨a, xs, rfl, .inr h, q⟩
theorem rdLenL {a : Addr} {xs : List V} (h : SqL K H a xs) (q : Q (.int (xs.length : Int)) H) : rLenS K [.ref a] H Q := ⟨a, xs, rfl, .inl h, q⟩
theorem rdListL {a : Addr} {xs : List V} (h : SqL K H a xs) (q : ∀ l, H l = none → Q (.ref l) (upd H l (.lst xs))) : rListOf K [.ref a] H Q := ⟨a, xs, rfl, .inl h, q⟩
theorem rdListT {a : Addr} {xs : List V} (h : SqT K H a xs) (q : ∀ l, H l = none → Q (.ref l) (upd H l (.lst xs))) : rListOf K [.ref a] H Q := ⟨a, xs, rfl, .inr h, q⟩
theorem rdIxT {a : Addr} {xs : List V} {i : Int} {v : V} (h : SqT K H a xs) (e : atI xs i = some v) (q : Q v H) : rIx K (.ref a) (.int i) H Q := .inr (.inl ⟨a, xs, i, v, rfl, rfl, h, e, q⟩)
theorem rdIxL {a : Addr} {xs : List V} {i : Int} {v : V} (h : SqL K H a xs) (e : atI xs i = some v) (q : Q v H) : rIx K (.ref a) (.int i) H Q := .inl ⟨a, xs, i, v, rfl, rfl, h, e, q⟩
theorem ixFr0 {x : V} {r : Rat} (h : Fr K H x r) (q : Q (.int r.num) H) : rIx K x (.int 0) H Q := by
  obtain ⟨a, rfl, hs⟩ := h.get
  exact rdIxT hs rfl q
theorem ixFr1 {x : V} {r : Rat} (h : Fr K H x r) (q : Q (.int (r.den : Int)) H) : rIx K x (.int 1) H Q := by
  obtain ⟨a, rfl, hs⟩ := h.get
  exact rdIxT hs rfl q
theorem dpPair {x : V} {p q : Int} (h : Dp K H x (.tuple [.int p, .int q])) : ∃ a, x = .ref a ∧ SqT K H a [.int p, .int q] := by
  cases h with
  | tup hs ha =>
    cases ha with
    | cons h1 h2 =>
      cases h2 with
      | cons h2 h3 =>
        cases h3
        cases h1
        cases h2
        exact ⟨_, rfl, hs⟩
theorem ixP0 {x : V} {p z : Int} (h : Dp K H x (.tuple [.int p, .int z])) (q : Q (.int p) H) : rIx K x (.int 0) H Q := by
  obtain ⟨a, rfl, hs⟩ := dpPair h
  exact rdIxT hs rfl q
theorem ixP1 {x : V} {p z : Int} (h : Dp K H x (.tuple [.int p, .int z])) (q : Q (.int z) H) : rIx K x (.int 1) H Q := by
  obtain ⟨a, rfl, hs⟩ := dpPair h
  exact rdIxT hs rfl q
theorem rdGcd {a b : Int} (q : Q (.int ((Nat.gcd a.natAbs b.natAbs : Nat) : Int)) H) : rGcd [.int a, .int b] H Q := ⟨a, b, rfl, q⟩
end
/-! loops, the ends by parts -/
theorem forRange {lo : Int} {n : Nat} {g : TG} {tb : TS} {nx : L2.St → Hp → Prop} {rt : VK} {σ : L2.St} {H : Hp} (Pv : Nat → L2.St → Hp → Prop) (h0 : Pv 0 σ H)
    (hs : ∀ i σ H, i < n → Pv i σ H → g (.int (lo + i)) σ H fun σ2 H2 => tb { nx := Pv (i + 1), rt := rt, ct := Pv (i + 1), bk := nx } σ2 H2) (hd : ∀ σ H, Pv n σ H → nx σ H) :
    ∃ W : Nat → Nat → L2.St → Hp → Prop, (∃ m, W 0 m σ H) ∧ ∀ i m σ H, W i m σ H →
      ((Itr lo n).stop i H ∧ nx σ H) ∨ ((Itr lo n).go i H ∧ ∃ N : L2.St → Hp → Prop, (∀ σ' H', N σ' H' → ∃ m', m' < m ∧ W (i + 1) m' σ' H') ∧ ∀ x H', (Itr lo n).yld i H x H' → g x σ H' fun σ2 H2 => tb { nx := N, rt := rt, ct := N, bk := nx } σ2 H2) :=
  for_range (D := { nx := nx, rt := rt }) Pv h0 hs hd
theorem forList {K : PySem.W.Frag} {a : Addr} {xs : List V} {g : TG} {tb : TS} {nx : L2.St → Hp → Prop} {rt : VK} {σ : L2.St} {H : Hp} (Pv : Nat → L2.St → Hp → Prop) (h0 : Pv 0 σ H) (hl : ∀ i σ H, i ≤ xs.length → Pv i σ H → SqL K H a xs)
    (hs : ∀ i x σ H, xs[i]? = some x → Pv i σ H → g x σ H fun σ2 H2 => tb { nx := Pv (i + 1), rt := rt, ct := Pv (i + 1), bk := nx } σ2 H2) (hd : ∀ σ H, Pv xs.length σ H → nx σ H) :
    ∃ W : Nat → Nat → L2.St → Hp → Prop, (∃ m, W 0 m σ H) ∧ ∀ i m σ H, W i m σ H →
      ((Itl K a).stop i H ∧ nx σ H) ∨ ((Itl K a).go i H ∧ ∃ N : L2.St → Hp → Prop, (∀ σ' H', N σ' H' → ∃ m', m' < m ∧ W (i + 1) m' σ' H') ∧ ∀ x H', (Itl K a).yld i H x H' → g x σ H' fun σ2 H2 => tb { nx := N, rt := rt, ct := N, bk := nx } σ2 H2) :=
  for_list (D := { nx := nx, rt := rt }) Pv h0 hl hs hd
theorem noExc {P : Program} {w : World} {H : Hp} {s : Shared} {e : Value} {s' : Shared} (z : L2.CX P w [] H s (fun _ _ _ => False) e s') : False := by
  obtain ⟨_, _, _, _, _, _, _, _, _, _, _, _, z⟩ := z
  exact z.elim
/-! ### isinstance of data, by the type -/
def dInt : PyData → Bool
  | .int _ => true
  | .bool _ => true
  | _ => false
def dBool : PyData → Bool
  | .bool _ => true
  | _ => false
def dStr : PyData → Bool
  | .str _ => true
  | _ => false
def dTup : PyData → Bool
  | .tuple _ => true
  | _ => false
def dLst : PyData → Bool
  | .list _ => true
  | _ => false
section
variable {K : PySem.W.Frag} {H : Hp} {Q : VK} {v : V} {d : PyData}
theorem isiInt (h : Dp K H v d) (q : Q (.bl (dInt d)) H) : rIsi K [v, .ty "int"] H Q := isiD h (by
  cases h with
  | non => exact (by decide +kernel : kitB "NoneType" "int" = some false)
  | bl b => exact (by decide +kernel : kitB "bool" "int" = some true)
  | int i => exact (by decide +kernel : kitB "int" "int" = some true)
  | str x => exact (by decide +kernel : kitB "str" "int" = some false)
  | lst h1 h2 => exact (by decide +kernel : kitB "list" "int" = some false)
  | tup h1 h2 => exact (by decide +kernel : kitB "tuple" "int" = some false)) q
theorem isiBool (h : Dp K H v d) (q : Q (.bl (dBool d)) H) : rIsi K [v, .ty "bool"] H Q := isiD h (by
  cases h with
  | non => exact (by decide +kernel : kitB "NoneType" "bool" = some false)
  | bl b => exact (by decide +kernel : kitB "bool" "bool" = some true)
  | int i => exact (by decide +kernel : kitB "int" "bool" = some false)
  | str x => exact (by decide +kernel : kitB "str" "bool" = some false)
  | lst h1 h2 => exact (by decide +kernel : kitB "list" "bool" = some false)
  | tup h1 h2 => exact (by decide +kernel : kitB "tuple" "bool" = some false)) q
theorem isiStr (h : Dp K H v d) (q : Q (.bl (dStr d)) H) : rIsi K [v, .ty "str"] H Q := isiD h (by
  cases h with
  | non => exact (by decide +kernel : kitB "NoneType" "str" = some false)
  | bl b => exact (by decide +kernel : kitB "bool" "str" = some false)
  | int i => exact (by decide +kernel : kitB "int" "str" = some false)
  | str x => exact (by decide +kernel : kitB "str" "str" = some true)
  | lst h1 h2 => exact (by decide +kernel : kitB "list" "str" = some false)
  | tup h1 h2 => exact (by decide +kernel : kitB "tuple" "str" = some false)) q
theorem isiTup (h : Dp K H v d) (q : Q (.bl (dTup d)) H) : rIsi K [v, .ty "tuple"] H Q := isiD h (by
  cases h with
  | non => exact (by decide +kernel : kitB "NoneType" "tuple" = some false)
  | bl b => exact (by decide +kernel : kitB "bool" "tuple" = some false)
  | int i => exact (by decide +kernel : kitB "int" "tuple" = some false)
  | str x => exact (by decide +kernel : kitB "str" "tuple" = some false)
  | lst h1 h2 => exact (by decide +kernel : kitB "list" "tuple" = some false)
  | tup h1 h2 => exact (by decide +kernel : kitB "tuple" "tuple" = some true)) q
theorem isiLst (h : Dp K H v d) (q : Q (.bl (dLst d)) H) : rIsi K [v, .ty "list"] H Q := isiD h (by
  cases h with
  | non => exact (by decide +kernel : kitB "NoneType" "list" = some false)
  | bl b => exact (by decide +kernel : kitB "bool" "list" = some false)
  | int i => exact (by decide +kernel : kitB "int" "list" = some false)
  | str x => exact (by decide +kernel : kitB "str" "list" = some false)
  | lst h1 h2 => exact (by decide +kernel : kitB "list" "list" = some true)
  | tup h1 h2 => exact (by decide +kernel : kitB "tuple" "list" = some false)) q
end
def dNon : PyData → Bool
  | .none => true
  | _ => false
section
variable {K : PySem.W.Frag} {H : Hp} {Q : VK} {v : V} {d : PyData}
theorem dNon_eq (h : Dp K H v d) : decide (v = .non) = dNon d := by cases h <;> rfl
theorem rdIsN (h : Dp K H v d) (q : Q (.bl (dNon d)) H) : rIsN1 v .non H Q := ⟨rfl, by rw [dNon_eq h]; exact q⟩
theorem rdNotN (h : Dp K H v d) (q : Q (.bl (!dNon d)) H) : rNotN1 v .non H Q := ⟨rfl, by rw [dNon_eq h]; exact q⟩
theorem rdEqB {i j : Bool} (q : Q (.bl (decide (i = j))) H) : rEqA K (.bl i) (.bl j) H Q := .inl <| ⟨rfl, by
  have e : decide (V.bl i = V.bl j) = decide (i = j) := by
    rw [dec_bl]
    exact Bool.beq_eq_decide_eq ..
  rw [e]
  exact q⟩
theorem rdEqS {i j : Str} (q : Q (.bl (decide (i = j))) H) : rEqA K (.str i) (.str j) H Q := .inl <| ⟨rfl, by
  have e : decide (V.str i = V.str j) = decide (i = j) := by
    rw [dec_str]
    exact Bool.beq_eq_decide_eq ..
  rw [e]
  exact q⟩
theorem rdNeS {i j : Str} (q : Q (.bl (!decide (i = j))) H) : rNeA K (.str i) (.str j) H Q := .inl <| ⟨rfl, by
  have e : decide (V.str i = V.str j) = decide (i = j) := by
    rw [dec_str]
    exact Bool.beq_eq_decide_eq ..
  rw [e]
  exact q⟩
end
/-- a display's reading, by name -/
def rTup : List V → Hp → VK → Prop := fun xs H Q => xs.length ≤ sizeLine ∧ ∀ p, H p = none → Q (.ref p) (upd H p (.tup xs))
def rLst : List V → Hp → VK → Prop := fun xs H Q => xs.length ≤ sizeLine ∧ ∀ p, H p = none → Q (.ref p) (upd H p (.lst xs))
def tTupN (t : TA) : TE := fun σ H Q => t σ H fun xs H1 => rTup xs H1 Q
def tLstN (t : TA) : TE := fun σ H Q => t σ H fun xs H1 => rLst xs H1 Q
/-! displays of data: what is laid is new -/
section
variable {K : PySem.W.Frag} {H : Hp} {Q : VK}
theorem rdTupD {xs : List V} {ds : List PyData} (h : DpAll K H xs ds) (hz : xs.length ≤ sizeLine) (q : ∀ H' v, Same H H' → Dp K H' v (.tuple ds) → Q v H') : rTup xs H Q :=
  ⟨hz, fun p np => q _ _ (sameNew np) (.tup (.inl (.inl upd_same)) (Dp.monoAll (sameNew np) _ _ h))⟩
theorem rdLstD {xs : List V} {ds : List PyData} (h : DpAll K H xs ds) (hz : xs.length ≤ sizeLine) (q : ∀ H' v, Same H H' → Dp K H' v (.list ds) → Q v H') : rLst xs H Q :=
  ⟨hz, fun p np => q _ _ (sameNew np) (.lst (.inl (.inl upd_same)) (Dp.monoAll (sameNew np) _ _ h))⟩
/-- a display, its list tracked -/
theorem rdLstH {xs : List V} (hz : xs.length ≤ sizeLine) (q : ∀ H' p, Same H H' → H p = none → H' p = some (.lst xs) → Q (.ref p) H') : rLst xs H Q :=
  ⟨hz, fun p np => q _ _ (sameNew np) np upd_same⟩
end
section
variable {X : Cx} {es : List Expr} {t : TA} {pos : Pos}
theorem pe_tupN {x1} (h : PA X es t) : PE X (.Tuple es x1 pos) (tTupN t) := pe_tup h
theorem pe_lstN (h : PA X es t) : PE X (.List es pos) (tLstN t) := pe_lst h
end
theorem small_line {n : Nat} (h : n ≤ 1000) : n ≤ sizeLine := Nat.le_of_lt (small1000 h)
theorem dpAll_len {K : PySem.W.Frag} {H : Hp} : ∀ {xs : List V} {ds : List PyData}, DpAll K H xs ds → xs.length = ds.length
  | _, _, .nil => rfl
  | _, _, .cons _ h2 => congrArg Nat.succ (dpAll_len h2)
theorem dpAll_two {K : PySem.W.Frag} {H : Hp} {xs : List V} {ds : List PyData} (h : DpAll K H xs ds) (l : ds.length = 2) : ∃ v1 v2 x y, xs = [v1, v2] ∧ ds = [x, y] ∧ Dp K H v1 x ∧ Dp K H v2 y := by
  match ds, h, l with
  | [x, y], .cons (v := v1) g1 (.cons (v := v2) g2 .nil), _ => exact ⟨v1, v2, x, y, rfl, rfl, g1, g2⟩
theorem dTup_of {K : PySem.W.Frag} {H : Hp} {v : V} {d : PyData} (h : Dp K H v d) (t : dTup d = true) : ∃ a xs ds, v = .ref a ∧ d = .tuple ds ∧ SqT K H a xs ∧ DpAll K H xs ds := by
  cases h with
  | tup h1 h2 => exact ⟨_, _, _, rfl, rfl, h1, h2⟩
  | _ => cases t
theorem dInt_of {K : PySem.W.Frag} {H : Hp} {v : V} {i : Int} (h : Dp K H v (.int i)) : v = .int i := by
  cases h
  rfl
/-- all items, as a conjunction -/
def allP {α : Type} (P : α → Prop) : List α → Prop
  | [] => True
  | x :: xs => P x ∧ allP P xs
theorem allP_get {α : Type} {P : α → Prop} : ∀ {xs : List α} {i : Nat} {x : α}, allP P xs → xs[i]? = some x → P x
  | [], _, _, _, h => by simp at h
  | y :: r, 0, x, a, h => by
    simp at h
    subst h
    exact a.1
  | y :: r, i + 1, x, a, h => allP_get (i := i) a.2 (by simpa using h)
theorem frD_int (p : Int) : frD (Rat.divInt p 1) = .tuple [.int p, .int 1] := by
  unfold frD
  rw [← num_pos (p := p) (q := 1) (by decide), ← den_pos (p := p) (q := 1) (by decide)]
  have e : Nat.gcd p.natAbs (1 : Int).natAbs = 1 := Nat.gcd_one_right _
  rw [e]
  simp
theorem fr_int {K : PySem.W.Frag} {H : Hp} {v : V} {p : Int} (h : Dp K H v (.tuple [.int p, .int 1])) : Fr K H v (Rat.divInt p 1) := by
  unfold Fr
  rw [frD_int]
  exact h
/-- the law's end, for defs that may raise (the wish of the caller: nothing is let out) -/
theorem endOfLaw {l : PySem.W.OpenLaw} {n k : Nat} {q : Program} {loose : List Str} {XP : (Str → Option Value) → Heap → Prop} {YP : World → Heap → Prop} {d : DefRec} {x : Str}
    (most : l.most = some n) (small : n ≤ sizeLine) (plain : d.params.defaults = []) (room : Room k callerA)
    (all : ∀ (w : World) (mg : Str → Option Value) (fa : Addr) (h : Heap), YP w h → h.Ns mainGlobals mg → mg d.name = some (.ref fa) → ∃ (K : PySem.W.Frag) (fd : FuncData) (sp : Sp), K.In h ∧
      (∀ (s : Shared) (u : Value), BindsTo s fd ⟨[u], []⟩ [(x, u)]) ∧ (∀ (H : Hp) (a : Addr) (ns : List Int), ns.length ≤ n → Only H → SqL K H a (ns.map V.int) → sp [.ref a] H (fun v _ => v = .bl true) E0) ∧
      ∀ base : Heap, K.In base → base.Ns mainGlobals mg → FnOk l.prog w K mg base (L2.CX l.prog w) k fa fd [x] sp) :
    PySem.W.WalkO q loose XP YP l.row.toRowW d [] (fun f vs => PySem.call f vs) := by
  refine Att.attach_call most plain fun w sA sB mg mb fa o pm cd doc a vs ns G Y h1 h2 h3 hm ha hi len hg => ?_
  obtain ⟨K, fd, sp, kin, bnd, want, ok⟩ := all w mg fa _ Y G.T.g hm
  refine law_call kin G.T.g G.T.b G.T.builtins G.T.nolimit hg ha hi (Nat.le_trans len small) room ok bnd (fun H o S => want H a ns len o S) fun H e s' => noExc
theorem shaped_fr (r : Rat) : SeqAt.shaped (frD r) = true := rfl
theorem eqv_fr (r s : Rat) : PyData.eqv (frD r) (frD s) = decide (r = s) := by
  have e : PyData.eqv (frD r) (frD s) = ((r.num == s.num) && (((r.den : Int) == (s.den : Int)) && true)) := rfl
  rw [e, Bool.and_true, Bool.eq_iff_iff, decide_eq_true_iff, Bool.and_eq_true, beq_iff_eq, beq_iff_eq]
  exact ⟨fun h => Rat.ext h.1 (by omega), fun h => by rw [h]; exact ⟨rfl, rfl⟩⟩
section
variable {K : PySem.W.Frag} {H : Hp} {Q : VK} {x y : V} {r s : Rat}
theorem rdEqFr (h1 : Fr K H x r) (h2 : Fr K H y s) (q : Q (.bl (decide (r = s))) H) : rEqA K x y H Q := .inr ⟨_, _, h1, h2, shaped_fr r, shaped_fr s, by rw [eqv_fr]; exact q⟩
theorem rdNeFr (h1 : Fr K H x r) (h2 : Fr K H y s) (q : Q (.bl (!decide (r = s))) H) : rNeA K x y H Q := .inr ⟨_, _, h1, h2, shaped_fr r, shaped_fr s, by rw [eqv_fr]; exact q⟩
end
theorem line2 : 2 ≤ sizeLine := by decide
theorem line1 : 1 ≤ sizeLine := by decide
theorem line3 : 3 ≤ sizeLine := by decide
theorem line4 : 4 ≤ sizeLine := by decide
/-- an if whose test is a Bool -/
theorem ifB {b : Bool} {A B : Prop} (h1 : b = true → A) (h2 : b = false → B) : if b = true then A else B := by
  cases b with
  | true => exact h1 rfl
  | false => exact iteF (h2 rfl)
theorem ifBF {b : Bool} {A B : Prop} (h : b = false) (q : B) : if b = true then A else B := by
  rw [h]
  exact iteF q
theorem ifNe {c : Prop} [Decidable c] {A B : Prop} (h : c) (q : B) : if (!decide c) = true then A else B := ifBF (by rw [decide_eq_true h]; rfl) q
theorem ifYes {c : Prop} [Decidable c] {A B : Prop} (h : c) (q : A) : if decide c = true then A else B := by
  rw [decide_eq_true h]
  exact iteT q
theorem ifNo {c : Prop} [Decidable c] {A B : Prop} (h : ¬c) (q : B) : if decide c = true then A else B := by
  rw [decide_eq_false h]
  exact iteF q
theorem ifP {c : Prop} [Decidable c] {A B : Prop} (h : c) (q : A) : if c then A else B := by
  rw [if_pos h]
  exact q
theorem ifN {c : Prop} [Decidable c] {A B : Prop} (h : ¬c) (q : B) : if c then A else B := by
  rw [if_neg h]
  exact q
theorem ifBT {b : Bool} {A B : Prop} (h : b = true) (q : A) : if b = true then A else B := by
  rw [h]
  exact iteT q
theorem ifD {c : Prop} [Decidable c] {A B : Prop} (h1 : c → A) (h2 : ¬c → B) : if decide c = true then A else B := by
  by_cases h : c
  · rw [decide_eq_true h]
    exact h1 h
  · rw [decide_eq_false h]
    exact iteF (h2 h)
end Ub

namespace Ub
open PySem PySem.Spec PyProof.Rows L2 UbM
/-! ### the law's deck: a list [cells, place, rest, seed] -/
/-- all stands but what is at d -/
def But (d : Addr) (H H' : Hp) : Prop := ∀ b o, b ≠ d → H b = some o → H' b = some o
/-- the deck at d, its cells at s -/
def DeckS (H : Hp) (d s : Addr) : Prop := ∃ (ns : List Int) (i r m : Int), H d = some (.lst [.ref s, .int i, .int r, .int m]) ∧ H s = some (.lst (ns.map V.int)) ∧ s ≠ d ∧ 0 ≤ i ∧ ns.length ≤ 63
/-- what a draw leaves: all but the deck's own list; the deck keeps its cells -/
structure SameX (d : Addr) (H H' : Hp) : Prop where
  but : But d H H'
  cells : ∀ s, DeckS H d s → DeckS H' d s
theorem SameX.refl {d : Addr} (H : Hp) : SameX d H H := ⟨fun _ _ _ h => h, fun _ h => h⟩
theorem SameX.trans {d : Addr} {H H1 H2 : Hp} (a : SameX d H H1) (b : SameX d H1 H2) : SameX d H H2 := ⟨fun c o n h => b.but c o n (a.but c o n h), fun s h => b.cells s (a.cells s h)⟩
theorem Same.x {d : Addr} {H H' : Hp} (a : Same H H') : SameX d H H' := ⟨fun b o _ h => a b o h, fun s ⟨ns, i, r, m, h1, h2, h3⟩ => ⟨ns, i, r, m, a _ _ h1, a _ _ h2, h3⟩⟩
theorem but_upd {d : Addr} {H : Hp} {o : HO} : But d H (upd H d o) := fun b x n h => by
  rw [upd_ne n]
  exact h
theorem sameX_deck {d s : Addr} {H : Hp} {i r m : Int} {j t k : Int} (h : H d = some (.lst [.ref s, .int j, .int t, .int k])) (hi : 0 ≤ i) : SameX d H (upd H d (.lst [.ref s, .int i, .int r, .int m])) :=
  ⟨but_upd, fun s' ⟨ns, i', r', m', h1, h2, h3, _, h5⟩ => by
    rw [h] at h1
    cases h1
    exact ⟨ns, i, r, m, upd_same, by rw [upd_ne h3]; exact h2, h3, hi, h5⟩⟩
structure Deck (H : Hp) (d : Addr) : Prop where
  ex : ∃ (s : Addr) (ns : List Int) (i r m : Int), H d = some (.lst [.ref s, .int i, .int r, .int m]) ∧ H s = some (.lst (ns.map V.int)) ∧ s ≠ d ∧ 0 ≤ i ∧ ns.length ≤ 63
theorem Deck.mono {H H' : Hp} {d : Addr} (D : Deck H d) (e : Same H H') : Deck H' d := by
  obtain ⟨s, ns, i, r, m, h1, h2, h3, h4, h5⟩ := D.ex
  exact ⟨s, ns, i, r, m, e _ _ h1, e _ _ h2, h3, h4, h5⟩
/-- no list in it -/
def noL : PyData → Bool
  | .none | .bool _ | .int _ | .str _ => true
  | .list _ | .dict _ => false
  | .tuple ds => decide (ds.length ≤ 1000) && noLs ds
where noLs : List PyData → Bool
  | [] => true
  | d :: ds => noL d && noLs ds
theorem tseqX {K : PySem.W.Frag} {H H' : Hp} {d a : Addr} {xs : List V} (e : But d H H') (hd : ∃ ys, H d = some (.lst ys)) (h : SqT K H a xs) : SqT K H' a xs := by
  obtain ⟨ys, hd⟩ := hd
  rcases h with (h | ⟨o, h⟩) | h
  · exact .inl (.inl (e _ _ (ne_of h hd (by intro z; cases z)) h))
  · exact .inl (.inr ⟨o, e _ _ (ne_of h hd (by intro z; cases z)) h⟩)
  · exact .inr h
mutual
theorem Dp.monoX {K : PySem.W.Frag} {H H' : Hp} {d : Addr} (e : But d H H') (hd : ∃ ys, H d = some (.lst ys)) : ∀ (dt : PyData) (v : V), noL dt = true → Dp K H v dt → Dp K H' v dt
  | .none, _, _, h => by cases h; exact .non
  | .bool b, _, _, h => by cases h; exact .bl b
  | .int i, _, _, h => by cases h; exact .int i
  | .str x, _, _, h => by cases h; exact .str x
  | .list ds, _, n, _ => by
    unfold noL at n
    cases n
  | .tuple ds, _, n, h => by
    cases h with
    | tup hs ha => exact .tup (tseqX e hd hs) (Dp.monoXAll e hd ds _ (by unfold noL at n; exact (Bool.and_eq_true_iff.mp n).2) ha)
  | .dict _, _, _, h => by cases h
theorem Dp.monoXAll {K : PySem.W.Frag} {H H' : Hp} {d : Addr} (e : But d H H') (hd : ∃ ys, H d = some (.lst ys)) : ∀ (ds : List PyData) (vs : List V), noL.noLs ds = true → DpAll K H vs ds → DpAll K H' vs ds
  | [], _, _, h => by cases h; exact .nil
  | dt :: ds, _, n, h => by
    unfold noL.noLs at n
    obtain ⟨n1, n2⟩ := Bool.and_eq_true_iff.mp n
    cases h with
    | cons h1 h2 => exact .cons (Dp.monoX e hd dt _ n1 h1) (Dp.monoXAll e hd ds _ n2 h2)
end
theorem Deck.lst {H : Hp} {d : Addr} (D : Deck H d) : ∃ ys, H d = some (.lst ys) := by
  obtain ⟨s, ns, i, r, m, h1, _⟩ := D.ex
  exact ⟨_, h1⟩
theorem Fr.monoX {K : PySem.W.Frag} {H H' : Hp} {d : Addr} {v : V} {r : Rat} (h : Fr K H v r) (e : SameX d H H') (D : Deck H d) : Fr K H' v r := Dp.monoX e.but D.lst _ _ rfl h
theorem Deck.cells {H : Hp} {d : Addr} (D : Deck H d) : ∃ s, DeckS H d s := by
  obtain ⟨s, ns, i, r, m, h⟩ := D.ex
  exact ⟨s, ns, i, r, m, h⟩
theorem DeckS.deck {H : Hp} {d s : Addr} (h : DeckS H d s) : Deck H d := by
  obtain ⟨ns, i, r, m, h⟩ := h
  exact ⟨s, ns, i, r, m, h⟩
/-- a list that was laid later than the deck is changed: the deck stands -/
theorem DeckS.upd {H H' : Hp} {d s a : Addr} {o : HO} (h0 : DeckS H d s) (h : DeckS H' d s) (ha : H a = none) : DeckS (upd H' a o) d s := by
  obtain ⟨_, _, _, _, g1, g2, _⟩ := h0
  obtain ⟨ns, i, r, m, h1, h2, h3⟩ := h
  exact ⟨ns, i, r, m, by rw [upd_ne (ne_of_none g1 ha)]; exact h1, by rw [upd_ne (ne_of_none g2 ha)]; exact h2, h3⟩
theorem SameX.upd {H H' : Hp} {d a : Addr} {o : HO} (h : SameX d H H') (ha : H a = none) : SameX d H (upd H' a o) := ⟨fun b x n e => by
  rw [upd_ne (ne_of_none e ha)]
  exact h.but _ _ n e, fun s hs => hs.upd (h.cells s hs) ha⟩
section
variable {K : PySem.W.Frag} {H : Hp} {Q : VK}
theorem rdSetL {p : Addr} {xs : List V} {k : Int} {j : Nat} {v : V} {Q : Hp → Prop} (h : H p = some (.lst xs)) (e : ixN xs.length k = some j) (q : Q (upd H p (.lst (xs.set j v)))) : rSetL (.ref p) (.int k) v H Q := ⟨p, xs, k, j, rfl, rfl, h, e, q⟩
theorem rdSetU {p : Addr} {xs : List V} {k : Int} {j : Nat} {v : V} {Q : Hp → Prop} (e : ixN xs.length k = some j) (q : Q (upd H p (.lst (xs.set j v)))) : rSetL (.ref p) (.int k) v (upd H p (.lst xs)) Q := ⟨p, xs, k, j, rfl, rfl, upd_same, e, by rw [upd_upd]; exact q⟩
end
theorem lt_pow {a b : Nat} (h : a ≤ b) : (2 : Nat) ^ a ≤ 2 ^ b := Nat.pow_le_pow_right (by decide) h
end Ub

namespace Ub
open PySem PySem.Spec PyProof.Rows L2 UbM
/-! ### lists of fractions -/
def sumR (rs : List Rat) : Rat := rs.foldl (· + ·) 0
theorem sumR_take {rs : List Rat} {i : Nat} {r : Rat} (h : rs[i]? = some r) : sumR (rs.take (i + 1)) = sumR (rs.take i) + r := by
  unfold sumR
  obtain ⟨hi, e⟩ := List.getElem?_eq_some_iff.mp h
  rw [List.take_succ_eq_append_getElem hi, List.foldl_append, e]
  rfl
theorem bd_zero : Bd 1 (0 : Rat) := ⟨by decide, by decide⟩
theorem bd_sum {n : Nat} : ∀ (rs : List Rat) (m : Nat) (r : Rat), Bd m r → (∀ x ∈ rs, Bd n x) → Bd (m + rs.length * (n + 1)) (rs.foldl (· + ·) r)
  | [], m, r, h, _ => by simpa using h
  | x :: rs, m, r, h, hx => by
    have h1 := bd_sum rs (m + n + 1) (r + x) (bd_add h (hx x (List.mem_cons_self ..))) fun y hy => hx y (List.mem_cons_of_mem _ hy)
    refine h1.mono ?_
    rw [List.length_cons, Nat.succ_mul]
    omega
theorem bd_sumR {n : Nat} {rs : List Rat} (h : ∀ x ∈ rs, Bd n x) : Bd (1 + rs.length * (n + 1)) (sumR rs) := bd_sum rs 1 0 bd_zero h
def dotR (rs ss : List Rat) : Rat := sumR (List.zipWith (· * ·) rs ss)
theorem zip_at {rs ss : List Rat} {i : Nat} {r s : Rat} (h1 : rs[i]? = some r) (h2 : ss[i]? = some s) : (List.zipWith (· * ·) rs ss)[i]? = some (r * s) := by
  rw [List.getElem?_zipWith, h1, h2]
theorem bd_zip {n : Nat} {rs ss : List Rat} (h1 : ∀ x ∈ rs, Bd n x) (h2 : ∀ x ∈ ss, Bd n x) : ∀ x ∈ List.zipWith (· * ·) rs ss, Bd (n + n) x := by
  intro x hx
  obtain ⟨i, hi, e⟩ := List.getElem_of_mem hx
  rw [List.getElem_zipWith] at e
  rw [← e]
  exact bd_mul (h1 _ (List.getElem_mem _)) (h2 _ (List.getElem_mem _))
theorem take_bd {n : Nat} {rs : List Rat} (h : ∀ x ∈ rs, Bd n x) (i : Nat) : ∀ x ∈ rs.take i, Bd n x := fun x hx => h x (List.mem_of_mem_take hx)
/-- the place of the first fraction that no later one is beaten by: w = -1 the least, w = 1 the greatest -/
def pick (w : Int) (rs : List Rat) : Nat → Option Nat
  | 0 => none
  | i + 1 => match pick w rs i with
    | none => some i
    | some j => if cmpR (rs.getD i 0) (rs.getD j 0) = w then some i else some j
theorem pick_lt {w : Int} {rs : List Rat} : ∀ {i j : Nat}, pick w rs i = some j → j < i
  | 0, j, h => by cases h
  | i + 1, j, h => by
    unfold pick at h
    split at h
    · cases h
      omega
    · rename_i j0 e
      have := pick_lt e
      split at h
      · cases h
        omega
      · cases h
        omega
def optV : Option Nat → V
  | none => .non
  | some k => .int (k : Int)
def optD : Option Nat → PyData
  | none => .none
  | some k => .int (k : Int)
theorem dp_opt {K : PySem.W.Frag} {H : Hp} (o : Option Nat) : Dp K H (optV o) (optD o) := by
  cases o with
  | none => exact .non
  | some k => exact .int _
theorem frs_get {K : PySem.W.Frag} {H : Hp} {xs : List V} : ∀ {rs : List Rat} {xs : List V} {i : Nat} {r : Rat}, DpAll K H xs (rs.map frD) → rs[i]? = some r → ∃ v, xs[i]? = some v ∧ Fr K H v r
  | [], _, _, _, _, h => by simp at h
  | r0 :: rs, _, 0, r, .cons h1 _, h => by
    simp at h
    subst h
    exact ⟨_, rfl, h1⟩
  | r0 :: rs, _, i + 1, r, .cons _ h2, h => by
    obtain ⟨v, e, q⟩ := frs_get (xs := []) (i := i) (r := r) h2 (by simpa using h)
    exact ⟨v, by simpa using e, q⟩
theorem frs_at {K : PySem.W.Frag} {H : Hp} : ∀ {rs : List Rat} {xs : List V} {i : Nat} {v : V}, DpAll K H xs (rs.map frD) → xs[i]? = some v → ∃ r, rs[i]? = some r ∧ Fr K H v r
  | [], _, _, _, h, e => by
    cases h
    simp at e
  | r0 :: rs, _, 0, v, .cons h1 _, h => by
    simp at h
    subst h
    exact ⟨_, rfl, h1⟩
  | r0 :: rs, _, i + 1, v, .cons _ h2, h => by
    obtain ⟨r, e, q⟩ := frs_at (i := i) (v := v) h2 (by simpa using h)
    exact ⟨r, by simpa using e, q⟩
/-- v is a list of the fractions rs -/
def Frs (K : PySem.W.Frag) (H : Hp) (v : V) (rs : List Rat) : Prop := Dp K H v (.list (rs.map frD))
theorem Frs.mono {K : PySem.W.Frag} {H H' : Hp} {v : V} {rs : List Rat} (e : Same H H') (h : Frs K H v rs) : Frs K H' v rs := Dp.mono e _ _ h
theorem Frs.get {K : PySem.W.Frag} {H : Hp} {v : V} {rs : List Rat} (h : Frs K H v rs) : ∃ a xs, v = .ref a ∧ SqL K H a xs ∧ DpAll K H xs (rs.map frD) := by
  unfold Frs at h
  cases h with
  | lst h1 h2 => exact ⟨_, _, rfl, h1, h2⟩
theorem frs_len {K : PySem.W.Frag} {H : Hp} {xs : List V} {rs : List Rat} (h : DpAll K H xs (rs.map frD)) : xs.length = rs.length := by
  have := dpAll_len h
  rw [List.length_map] at this
  exact this
theorem canLay_frs : ∀ rs : List Rat, PyData.canLayAll0 (rs.map frD) = true
  | [] => rfl
  | r :: rs => by
    show (PyData.canLay0 (frD r) && PyData.canLayAll0 (rs.map frD)) = true
    rw [canLay_frs rs]
    rfl
theorem depth_frs : ∀ rs : List Rat, PyData.depthAll (rs.map frD) ≤ 1
  | [] => Nat.zero_le _
  | r :: rs => by
    show max (PyData.depth (frD r)) (PyData.depthAll (rs.map frD)) ≤ 1
    have h1 := depth_frs rs
    have h2 : PyData.depth (frD r) = 1 := rfl
    omega
theorem shaped_frs (rs : List Rat) : SeqAt.shaped (.list (rs.map frD)) = true := by
  show (PyData.canLayAll0 (rs.map frD) && decide (PyData.depthAll (rs.map frD) + 1 ≤ 64)) = true
  rw [canLay_frs, decide_eq_true (by have := depth_frs rs; omega)]
  rfl
theorem noL_frs : ∀ rs : List Rat, noL.noLs (rs.map frD) = true
  | [] => rfl
  | r :: rs => by
    show (noL (frD r) && noL.noLs (rs.map frD)) = true
    rw [noL_frs rs]
    rfl
/-- a tracked list of fractions, apart from the deck -/
structure Own (K : PySem.W.Frag) (H : Hp) (d a : Addr) (rs : List Rat) : Prop where
  ex : ∃ xs, H a = some (.lst xs) ∧ a ≠ d ∧ DpAll K H xs (rs.map frD)
theorem Own.frs {K : PySem.W.Frag} {H : Hp} {d a : Addr} {rs : List Rat} (h : Own K H d a rs) : Frs K H (.ref a) rs := by
  obtain ⟨xs, h1, _, h2⟩ := h.ex
  exact .lst (.inl (.inl h1)) h2
theorem Own.monoX {K : PySem.W.Frag} {H H' : Hp} {d a : Addr} {rs : List Rat} (h : Own K H d a rs) (e : SameX d H H') (D : Deck H d) : Own K H' d a rs := by
  obtain ⟨xs, h1, h2, h3⟩ := h.ex
  exact ⟨xs, e.but _ _ h2 h1, h2, Dp.monoXAll e.but D.lst _ _ (noL_frs rs) h3⟩
theorem Own.mono {K : PySem.W.Frag} {H H' : Hp} {d a : Addr} {rs : List Rat} (h : Own K H d a rs) (e : Same H H') : Own K H' d a rs := by
  obtain ⟨xs, h1, h2, h3⟩ := h.ex
  exact ⟨xs, e _ _ h1, h2, Dp.monoAll e _ _ h3⟩
theorem tseq_upd {K : PySem.W.Frag} {H : Hp} {p a : Addr} {xs ys zs : List V} (h : SqT K H a xs) (hp : H p = some (.lst ys)) : SqT K (upd H p (.lst zs)) a xs := by
  rcases h with (h | ⟨o, h⟩) | h
  · exact .inl (.inl (by rw [upd_ne (ne_of h hp (by intro z; cases z))]; exact h))
  · exact .inl (.inr ⟨o, by rw [upd_ne (ne_of h hp (by intro z; cases z))]; exact h⟩)
  · exact .inr h
theorem Own.push {K : PySem.W.Frag} {H : Hp} {d a : Addr} {rs : List Rat} {v : V} {r : Rat} {xs : List V} (h1 : H a = some (.lst xs)) (h2 : a ≠ d) (h3 : DpAll K H xs (rs.map frD)) (hv : Fr K H v r) : Own K (upd H a (.lst (xs ++ [v]))) d a (rs ++ [r]) := by
  refine ⟨_, upd_same, h2, ?_⟩
  have e : But a H (upd H a (.lst (xs ++ [v]))) := but_upd
  have g := Dp.monoXAll e ⟨_, h1⟩ _ _ (noL_frs rs) h3
  have gv := Dp.monoX e ⟨_, h1⟩ (frD r) v rfl hv
  rw [List.map_append]
  exact app g gv
where
  app {K : PySem.W.Frag} {H : Hp} : ∀ {xs : List V} {ds : List PyData} {v : V} {d : PyData}, DpAll K H xs ds → Dp K H v d → DpAll K H (xs ++ [v]) (ds ++ [d])
    | _, _, _, _, .nil, h => .cons h .nil
    | _, _, _, _, .cons h1 h2, h => .cons h1 (app h2 h)
theorem dpAll_snoc {K : PySem.W.Frag} {H : Hp} {xs : List V} {ds : List PyData} {v : V} {d : PyData} (h : DpAll K H xs ds) (h2 : Dp K H v d) : DpAll K H (xs ++ [v]) (ds ++ [d]) := Own.push.app h h2
/-! ### loops over two lists, over a list with its places -/
theorem forZip {K : PySem.W.Frag} {a b : Addr} {xs ys : List V} {g : TG} {tb : TS} {nx : L2.St → Hp → Prop} {rt : VK} {σ : L2.St} {H : Hp} (Pv : Nat → L2.St → Hp → Prop) (h0 : Pv 0 σ H) (hl : ∀ i σ H, Pv i σ H → SqL K H a xs ∧ SqL K H b ys)
    (hs : ∀ i x y σ H T, xs[i]? = some x → ys[i]? = some y → Pv i σ H → H T = none → g (.ref T) σ (upd H T (.tup [x, y])) fun σ2 H2 => tb { nx := Pv (i + 1), rt := rt, ct := Pv (i + 1), bk := nx } σ2 H2) (hd : ∀ σ H, Pv (min xs.length ys.length) σ H → nx σ H) :
    ∃ W : Nat → Nat → L2.St → Hp → Prop, (∃ m, W 0 m σ H) ∧ ∀ i m σ H, W i m σ H →
      ((Itz K a b).stop i H ∧ nx σ H) ∨ ((Itz K a b).go i H ∧ ∃ N : L2.St → Hp → Prop, (∀ σ' H', N σ' H' → ∃ m', m' < m ∧ W (i + 1) m' σ' H') ∧ ∀ x H', (Itz K a b).yld i H x H' → g x σ H' fun σ2 H2 => tb { nx := N, rt := rt, ct := N, bk := nx } σ2 H2) := by
  refine ⟨fun i m σ H => m = min xs.length ys.length - i ∧ i ≤ min xs.length ys.length ∧ Pv i σ H, ⟨_, rfl, Nat.zero_le _, h0⟩, ?_⟩
  rintro i m σ H ⟨rfl, hi, p⟩
  obtain ⟨q1, q2⟩ := hl i σ H p
  by_cases hlt : i < min xs.length ys.length
  · have l1 : i < xs.length := by omega
    have l2 : i < ys.length := by omega
    refine .inr ⟨⟨xs, ys, xs[i], ys[i], q1, q2, List.getElem?_eq_getElem l1, List.getElem?_eq_getElem l2⟩, Pv (i + 1), fun σ' H' p' => ⟨_, ?_, rfl, hlt, p'⟩, fun x H' yl => ?_⟩
    · omega
    · obtain ⟨T, x1, y1, rfl, nT, rfl, f1, f2⟩ := yl
      exact hs i x1 y1 σ H T (f1 _ q1) (f2 _ q2) p nT
  · have e : i = min xs.length ys.length := by omega
    refine .inl ⟨⟨xs, ys, q1, q2, by omega⟩, hd σ H (e ▸ p)⟩
theorem forEnum {K : PySem.W.Frag} {a : Addr} {xs : List V} {g : TG} {tb : TS} {nx : L2.St → Hp → Prop} {rt : VK} {σ : L2.St} {H : Hp} (Pv : Nat → L2.St → Hp → Prop) (h0 : Pv 0 σ H) (hl : ∀ i σ H, Pv i σ H → SqL K H a xs)
    (hs : ∀ i x σ H T, xs[i]? = some x → Pv i σ H → H T = none → g (.ref T) σ (upd H T (.tup [.int (i : Nat), x])) fun σ2 H2 => tb { nx := Pv (i + 1), rt := rt, ct := Pv (i + 1), bk := nx } σ2 H2) (hd : ∀ σ H, Pv xs.length σ H → nx σ H) :
    ∃ W : Nat → Nat → L2.St → Hp → Prop, (∃ m, W 0 m σ H) ∧ ∀ i m σ H, W i m σ H →
      ((Ite K a).stop i H ∧ nx σ H) ∨ ((Ite K a).go i H ∧ ∃ N : L2.St → Hp → Prop, (∀ σ' H', N σ' H' → ∃ m', m' < m ∧ W (i + 1) m' σ' H') ∧ ∀ x H', (Ite K a).yld i H x H' → g x σ H' fun σ2 H2 => tb { nx := N, rt := rt, ct := N, bk := nx } σ2 H2) := by
  refine ⟨fun i m σ H => m = xs.length - i ∧ i ≤ xs.length ∧ Pv i σ H, ⟨_, rfl, Nat.zero_le _, h0⟩, ?_⟩
  rintro i m σ H ⟨rfl, hi, p⟩
  have q1 := hl i σ H p
  by_cases hlt : i < xs.length
  · refine .inr ⟨⟨xs, xs[i], q1, List.getElem?_eq_getElem hlt⟩, Pv (i + 1), fun σ' H' p' => ⟨_, ?_, rfl, hlt, p'⟩, fun x H' yl => ?_⟩
    · omega
    · obtain ⟨T, x1, rfl, nT, rfl, f1⟩ := yl
      exact hs i x1 σ H T (f1 _ q1) p nT
  · have e : i = xs.length := by omega
    refine .inl ⟨⟨xs, q1, by omega⟩, hd σ H (e ▸ p)⟩
end Ub

/-! any, all of a generator expression whose element may call defs: its own frame, its own context. -/
namespace UbG
open PySem PySem.Spec PyProof.Rows L2
/-- the expression's own scope: its names (with their places in N) are local or captured -/
structure GexOk (N : List Str) (sc scope : Scope) (own : List (Str × Nat)) : Prop where
  kind : scope.kind = .function
  co : scope.isCoroutine = false
  nocell : ∀ y ∈ scope.names, y.2 ≠ .cell
  dot : scope.names.lookup (".0" : Str) = some NameKind.local
  uniq : ∀ y ∈ scope.names, scope.names.lookup y.1 = some y.2
  ix : ∀ p ∈ own, N[p.2]? = some p.1
  free : ∀ y ∈ scope.names, y.2 = .free → sc.names.lookup y.1 = some .cell ∨ sc.names.lookup y.1 = some .free
  own : ∀ y ∈ scope.names, y.2 = .local → y.1 ∈ own.map (·.1) ∨ y.1 ∉ N
/-- the context of its frame -/
abbrev gex (X : Cx) (A : Around) (s : Shared) (H : Hp) (genv : Env) (fp : List Addr) (pn : List (Addr × Obj)) : Cx :=
  { X with A := A, s_0 := s, H_0 := H, env := genv, outer := X.stack, stack := genv :: X.stack, ex := fp, fn := fun _ => false, calm := true, pn := pn, xe := fun _ _ => False }
section
variable {X : Cx} {pins : List (Addr × Obj)} {σ : L2.St} {H : Hp} {s : Shared}
theorem Inv.same {s' : Shared} (I : Inv X pins σ H s) (hh : s'.heap = s.heap) (ho : s'.os = s.os) (hb : AllBare s'.gens) : Inv X pins σ H s' :=
  I.call' (ch := []) ho (by rw [hh]; exact Un.kept fun _ _ e => e) (by rw [hh]; exact I.hok) hb fun b z => absurd z (by simp)
theorem Inv.more {s' : Shared} (I : Inv X pins σ H s) (hh : ∀ b o, s.heap.get? b = some o → s'.heap.get? b = some o) (ho : s'.os = s.os) (hb : AllBare s'.gens) : Inv X pins σ H s' :=
  I.call' (ch := []) ho (Un.kept hh) (I.hok.kept hh) hb fun b z => absurd z (by simp)
theorem Inv.nofr (I : Inv X pins σ H s) {b : Addr} (hb : s.heap.objs.size ≤ b) : b ∉ frs X.stack := fun z => by
  rcases List.mem_cons.mp (I.stkSub _ z) with e | e
  · have h1 := I.lt
    rw [← e] at h1
    exact Nat.lt_irrefl _ (Nat.lt_of_lt_of_le h1 hb)
  · exact I.nofs hb e
theorem gex_start {scope : Scope} {own : List (Str × Nat)} {fp : List Addr} {A : Around} {genv : Env} {code : Value} {s5 : Shared} {m : Str → Option Value} {pn : List (Addr × Obj)} (I : Inv X pins σ H s) (ok : GexOk X.N X.env.scope scope own) (hN : X.N.Nodup)
    (hfp : ∀ b ∈ fp, FpOk X pins H b ∧ b < s.heap.objs.size) (hA : A.handled = none) (hfr : A.frames = some (genv :: X.stack)) (hg : genv = genEnv scope (cloFrom X.env.cells scope.names []) s.heap.objs.size code builtinsNs X.env)
    (os : s5.os = s.os) (bare : AllBare s5.gens) (kp : ∀ b o, s.heap.get? b = some o → s5.heap.get? b = some o) (ns : s5.heap.Ns s.heap.objs.size m)
    (hpn : ∀ p ∈ pn, s5.heap.get? p.1 = some p.2 ∧ s.heap.objs.size < p.1 ∧ ∀ v, p.2.data ≠ .cell v) : Inv (gex X A s H genv fp pn) [] (wipe σ (own.map (·.2))) H s5 := by
  have hfree : ∀ y ∈ scope.names, y.2 = .free → ∃ c, X.env.cells.lookup y.1 = some c := fun y hy e => by
    rcases ok.free y hy e with k | k
    · exact I.ok.has _ (.inl k)
    · exact I.ok.has _ (.inr k)
  have hL : genv.locals = s.heap.objs.size := by rw [hg]; rfl
  have hcl : genv.cells = cloFrom X.env.cells scope.names [] := by rw [hg]; rfl
  have hsc : genv.scope = scope := by rw [hg]; rfl
  have cm : ∀ {y c}, genv.cells.lookup y = some c → scope.names.lookup y = some .free ∧ X.env.cells.lookup y = some c ∧ c < s.heap.objs.size := fun {y c} e => by
    rw [hcl] at e
    rcases cloFrom_mem (PySem.mem_of_lookup e) with hm | ⟨h1, rfl⟩
    · cases hm
    · obtain ⟨c, hc⟩ := hfree _ h1 rfl
      rw [hc]
      obtain ⟨w, z⟩ := I.cell _ _ hc
      exact ⟨ok.uniq _ h1, rfl, z.lt⟩
  have look : ∀ {y}, scope.names.lookup y = some .free → ∃ c, genv.cells.lookup y = some c ∧ X.env.cells.lookup y = some c := fun {y} hl => by
    have hy : (y, NameKind.free) ∈ scope.names := PySem.mem_of_lookup hl
    obtain ⟨c', e'⟩ := mem_lookup (cloFrom_has (cells := X.env.cells) (acc := []) hy)
    rw [← hcl] at e'
    exact ⟨c', e', (cm e').2.1⟩
  have okG : (gex X A s H genv fp pn).Ok := by
    refine ⟨I.ok.mod, by show genv.scope.kind = _; rw [hsc]; exact ok.kind, by show genv.globals = _; rw [hg]; exact I.ok.glob, by show genv.builtins = _; rw [hg]; rfl, by show s.heap.objs.size ≤ genv.locals; rw [hL]; exact Nat.le_refl _,
      fun y z c e1 e2 => I.ok.inj y z c (cm e1).2.1 (cm e2).2.1, fun y hy => ?_, fun y c z e => ?_, fun _ => hA, hfr, .inr ⟨rfl, by show genv.frame = some genv.locals; rw [hg]; rfl⟩, fun b hb => ⟨?_, fun y c e z => (hfp b hb).1.2.2.2.2.1 y c (cm e).2.1 z⟩, I.bs, Nat.le_trans I.ok.bsz I.sz, fun b o e hb => ?_, fun b hb z => ?_, I.stack, I.stkFree⟩
    · show ∃ c, genv.cells.lookup y = some c
      rcases hy with hy | hy
      · have hy : genv.scope.names.lookup y = some .cell := hy
        rw [hsc] at hy
        exact absurd rfl (ok.nocell _ (PySem.mem_of_lookup hy))
      · have hy : genv.scope.names.lookup y = some .free := hy
        rw [hsc] at hy
        obtain ⟨c, h1, _⟩ := look hy
        exact ⟨c, h1⟩
    · cases z
    · show b ≠ genv.locals
      rw [hL]; exact Nat.ne_of_lt (hfp b hb).2
    · rcases (hfp b hb).1.2.2.2.1 with z | z
      · exact I.ok.noex b o e z
      · exact absurd (Nat.lt_of_lt_of_le (Heap.lt_size e) (Nat.le_trans I.ok.bsz z)) (Nat.lt_irrefl _)
    · rcases List.mem_cons.mp (I.stkSub b z) with z | z
      · exact (hfp b hb).1.2.1 z
      · exact (hfp b hb).1.2.2.1 z
  refine ⟨okG, os, bare, Un.kept kp, ⟨m, by show Heap.Ns _ genv.locals _; rw [hL]; exact ns, fun i y av e1 e2 e3 => ?_⟩, fun y c e => ?_, ?_, fun y c e => I.freeC y c (cm e).2.1, fun p hp => ?_, I.hok.kept kp, by rw [wipe_length]; exact I.len⟩
  · obtain ⟨e2, hne⟩ := wipe_some e2
    have hfr : scope.names.lookup y = some .free := by
      have e3 : Vis genv.scope y := e3
      rw [hsc] at e3
      rcases e3 with e3 | e3 | e3
      · rcases ok.own _ (PySem.mem_of_lookup e3) rfl with e' | e'
        · obtain ⟨p, hp, hpy⟩ := List.mem_map.mp e'
          have e3 := ok.ix p hp
          have : p.1 = y := hpy
          rw [this] at e3
          exact absurd (List.mem_map.mpr ⟨p, hp, nodup_ix hN e3 e1⟩) hne
        · exact absurd (List.mem_of_getElem? e1) e'
      · exact absurd rfl (ok.nocell _ (PySem.mem_of_lookup e3))
      · exact e3
    obtain ⟨m, hn, hl⟩ := I.loc
    have hvis : Vis X.env.scope y := (ok.free _ (PySem.mem_of_lookup hfr) rfl).elim (fun k => .inr (.inl k)) (fun k => .inr (.inr k))
    obtain ⟨w, r, q⟩ := hl i y av e1 e2 hvis
    refine ⟨w, r, .inr ⟨.inr (by show genv.scope.names.lookup y = _; rw [hsc]; exact hfr), ?_⟩⟩
    obtain ⟨c, h1, h2⟩ := look hfr
    rcases q with ⟨k, _⟩ | ⟨_, c', e', z⟩
    · have k : X.env.scope.names.lookup y = some .local := k
      rcases ok.free _ (PySem.mem_of_lookup hfr) rfl with k' | k' <;> rw [show X.env.scope.names.lookup y = _ from k'] at k <;> cases k
    · rw [h2] at e'; cases e'
      exact ⟨c, h1, z.keeps kp⟩
  · obtain ⟨w, z⟩ := I.cell y c (cm e).2.1
    exact ⟨w, z.keeps kp⟩
  · show H genv.locals = none
    rw [hL]; exact I.hok.fresh (Nat.le_refl _)
  · rw [List.append_nil] at hp
    obtain ⟨h1, h2, h3⟩ := hpn p hp
    refine ⟨h1, I.hok.fresh (Nat.le_of_lt h2), by show p.1 ≠ genv.locals; rw [hL]; exact Nat.ne_of_gt h2, Inv.nofr I (Nat.le_of_lt h2), h3⟩
end
/-- the end of its run -/
def GR (G : Cx) (fp : List Addr) (Qd : Hp → Prop) : GenEnd := fun n s₀ r s₁ => ((r = .ok (.ret .none) ∨ r = .ok .next) ∧ ∃ σ' H', Inv G [] σ' H' s₁ ∧ (∀ b ∈ fp, H' b = none) ∧ Qd H') ∨ ∃ e, r = .error e ∧ False
/-- a truth value is handed out; on stopv nobody asks further -/
def GY (G : Cx) (fp : List Addr) (stopv : Bool) (Qs : Hp → Prop) : Protocol := fun n s₀ v s kap =>
  ∃ b σ' H', v = .bool b ∧ Inv G [] σ' H' s ∧ (∀ b ∈ fp, H' b = none) ∧ (b = stopv → Qs H') ∧ (b ≠ stopv → ∀ s', s'.heap = s.heap → s'.os = s.os → AllBare s'.gens → kap (.send .none) s')
/-- what a turn is to give -/
def Turns (J : It) (g : TG) (te : TE) (vs : List Nat) (σw : L2.St) (stopv : Bool) (Qs Qd : Hp → Prop) (W : Nat → Nat → Hp → Prop) : Prop := ∀ i m H, W i m H →
  (J.stop i H ∧ Qd H) ∨ (J.go i H ∧ ∃ Nx : Hp → Prop, (∀ H', Nx H' → ∃ m', m' < m ∧ W (i + 1) m' H') ∧ ∀ x H', J.yld i H x H' → g x σw H' fun σ2 H2 => wipe σ2 vs = σw ∧ te σ2 H2 fun y H3 => ∃ b, y = .bl b ∧ (b = stopv → Qs H3) ∧ (b ≠ stopv → Nx H3))
theorem seg_gex {G : Cx} {Aw : Around} {tg iter elt : Expr} {scope : Scope} {pos : Pos} {J : It} {fp : List Addr} {it : Addr} {tn : Nat → Heap → Prop} {g : TG} {te : TE} {vs : List Nat} {σw : L2.St} {stopv : Bool} {Qs Qd : Hp → Prop} {W : Nat → Nat → Hp → Prop}
    (T : Turn G.prog G.w G.K tg J fp it tn) (hex : G.ex = fp) (hc : G.calm = true) (hxe : G.xe = fun _ _ => False) (hpn : ∀ b ∈ fp, ∀ p ∈ G.pn, p.1 ≠ b)
    (hA : Aw.over (.compLoop (.GeneratorExp elt [⟨tg, iter, [], 0⟩] scope pos) 0 (.ref it) .none G.env) [] = G.A) (hco : G.env.scope.isCoroutine = false)
    (pg : PG G tg g) (pe : PE G elt te) (turn : Turns J g te vs σw stopv Qs Qd W) :
    ∀ (n i m : Nat) (H : Hp) (s₀ s : Shared), m < n → W i m H → Inv G [] σw H s → tn i s.heap → (∀ b ∈ fp, H b = none) →
      Seg (model G.prog G.w) Aw (GR G fp Qd) (GY G fp stopv Qs) n s₀ (.compLoop (.GeneratorExp elt [⟨tg, iter, [], 0⟩] scope pos) 0 (.ref it) .none G.env)
        ((model G.prog G.w).den (.compLoop (.GeneratorExp elt [⟨tg, iter, [], 0⟩] scope pos) 0 (.ref it) .none G.env)) [] s := by
  have stat : ∀ {σ' : L2.St} {H' : Hp} {s' : Shared}, Inv G [] σ' H' s' → (∀ b ∈ fp, H' b = none) → ∀ b ∈ fp, FpOk G [] H' b := fun {σ' H' s'} I' hn b hb =>
    ⟨hn b hb, (I'.ok.exf b (by rw [hex]; exact hb)).1, I'.ok.exfs b (by rw [hex]; exact hb), .inl (by rw [hex]; exact hb), fun x c e => (I'.ok.exf b (by rw [hex]; exact hb)).2 x c e, fun p hp => by rw [List.append_nil] at hp; exact hpn b hb p hp⟩
  intro n
  induction n with
  | zero => intro i m H s₀ s hm; exact absurd hm (Nat.not_lt_zero _)
  | succ n ih =>
    intro i m H s₀ s hm w0 I st hn
    show Seg _ Aw _ _ _ s₀ _ ((compTurn (.GeneratorExp elt [⟨tg, iter, [], 0⟩] scope pos) 0 (.ref it) .none G.env).onRaise (leaving G.env)) [] s
    rw [compTurn_gen, Sem.onRaise_eq_wrap]
    refine seg_bind_wrap (wpAny_standAt ?_)
    rcases turn i m H w0 with ⟨stop, qd⟩ | ⟨go, Nx, hNx, step⟩
    · refine seg_bind_wrap ?_
      rw [hA]
      refine wpAny_mono (T.done G rfl rfl rfl hc i [] s σw H (fun _ _ => False) I (stat I hn) st stop) (fun r s6 ⟨hr, I6⟩ => ?_) fun _ _ z => z.elim
      subst hr
      exact seg_end (.ok .next) (.inl ⟨.inr rfl, σw, H, I6, hn, qd⟩)
    · refine seg_bind_wrap ?_
      rw [hA]
      refine wpAny_mono (T.item G rfl rfl rfl hc i [] s σw H (fun _ _ => False) I (stat I hn) st go) (fun r s6 ⟨u, hr, h6⟩ => ?_) fun _ _ z => z.elim
      subst hr
      refine seg_bind_wrap ?_
      rw [hA]
      refine wpAny_mono h6 (fun _ s7 ⟨x, H7, I7, r7, y7, st7, n7⟩ => ?_) fun _ _ z => z.elim
      have I7' := I7.pinned (stat I7 n7) (T.obj _ _ st7)
      refine seg_bind_wrap ?_
      rw [hA]
      refine wpAny_mono (pg.run _ s7 _ H7 x u _ I7' r7 (step x H7 y7)) (fun _ s8 ⟨σ8, H8, I8, hw8, q8⟩ => ?_) fun _ _ z => by rw [hxe] at z; exact z.elim
      refine seg_bind_wrap ?_
      simp only [List.forIn_nil]
      refine wpAny_pure ?_
      simp only [if_true]
      have hy : ∀ v, yieldOut G.env v = yieldValue v := fun v => by simp only [yieldOut, hco, Bool.false_eq_true, if_false]
      simp only [hy]
      rw [Sem.bind_eq_wrap', Sem.bind_eq_wrap', Sem.wrap_wrap, Sem.wrap_wrap]
      refine seg_wrap ?_
      rw [hA]
      refine wpAny_mono (pe.run _ s8 σ8 H8 _ I8 q8) (fun y s9 ⟨yv, H9, I9, r9, b, hb, hs, hnx⟩ => ?_) fun _ _ z => by rw [hxe] at z; exact z.elim
      subst hb
      have ey : y = Value.bool b := r9
      subst ey
      have pin' : ∀ b ∈ fp, ∀ o, s7.heap.get? b = some o → s9.heap.get? b = some o ∧ H9 b = none := fun b hb o e =>
        let z := I9.pin (b, o) (List.mem_append_right _ (List.mem_append_right _ (mem_pinsAt hb e)))
        ⟨z.1, z.2.1⟩
      have hl : σw.length = σ8.length := by rw [← hw8, wipe_length]
      have I10 : Inv G [] σw H9 s9 := (I9.unpinned (pins := [])).weak hl fun j v e => by
        rw [← hw8] at e
        exact (wipe_some e).1
      have n10 : ∀ b ∈ fp, H9 b = none := fun b hb => by
        obtain ⟨o, e, _⟩ := T.obj _ _ st7 b hb
        exact (pin' b hb o e).2
      have st10 : tn (i + 1) s9.heap := T.keep _ _ _ st7 fun b hb o e => (pin' b hb o e).1
      refine seg_at (seg_yield rfl rfl rfl ⟨b, σw, H9, rfl, I10, n10, hs, fun nb s' hh ho hbare => ?_⟩)
      obtain ⟨m', hm', w'⟩ := hNx H9 (hnx nb)
      refine seg_again rfl (ih (i + 1) m' H9 s' s' (by omega) w' (Inv.same I10 hh ho hbare) (by rw [hh]; exact st10) n10)
theorem seg_gex0 {G : Cx} {Aw : Around} {tg iter elt : Expr} {scope : Scope} {pos : Pos} {J : It} {fp : List Addr} {it : Addr} {tn : Nat → Heap → Prop} {n : Nat} {s₀ s : Shared} {R : GenEnd} {Y : Protocol}
    (T : Turn G.prog G.w G.K tg J fp it tn) (st : tn 0 s.heap)
    (loop : Seg (model G.prog G.w) Aw R Y n s₀ (.compLoop (.GeneratorExp elt [⟨tg, iter, [], 0⟩] scope pos) 0 (.ref it) .none G.env)
        ((model G.prog G.w).den (.compLoop (.GeneratorExp elt [⟨tg, iter, [], 0⟩] scope pos) 0 (.ref it) .none G.env)) [] s) :
    Seg (model G.prog G.w) Aw R Y n s₀ (.compStart (.GeneratorExp elt [⟨tg, iter, [], 0⟩] scope pos) 0 (.ref it) .none G.env)
        ((model G.prog G.w).den (.compStart (.GeneratorExp elt [⟨tg, iter, [], 0⟩] scope pos) 0 (.ref it) .none G.env)) [] s := by
  show Seg _ Aw _ _ _ s₀ _ ((compStart (.GeneratorExp elt [⟨tg, iter, [], 0⟩] scope pos) 0 (.ref it) .none G.env).onRaise (leaving G.env)) [] s
  unfold compStart
  rw [Sem.onRaise_eq_wrap]
  show Seg _ Aw _ _ _ s₀ _ ((ask >>= _).wrap _ _ _ _) [] s
  refine seg_bind_wrap (wpAny_askSetting ?_)
  split
  · exact seg_again rfl loop
  · first
      | exact seg_bind_wrap (wpAny_rule (seg_bind_wrap (wpAny_standAt (seg_bind_wrap (T.self _ 0 s _ _ st (seg_again rfl loop))))))
      | (refine seg_bind_wrap (wpAny_rule ?_); show Seg _ Aw _ _ _ s₀ _ ((standAt iter.pos >>= _).wrap _ _ _ _) [] s; exact seg_bind_wrap (wpAny_standAt (seg_bind_wrap (T.self _ 0 s _ _ st (seg_again rfl loop)))))
/-- the generator, not begun or asleep, at most n turns left -/
def GAt (G : Cx) (A : Around) (fp : List Addr) (stopv : Bool) (Qs Qd : Hp → Prop) (a : Addr) (g : Nat) (n : Nat) (s : Shared) : Prop :=
  s.heap.IsGen a g ∧ s.heap.NoLimit ∧ AllBare s.gens ∧ ∃ gs, s.gens[g]? = some gs ∧ ∀ s'', s''.heap = s.heap → s''.os = s.os → AllBare s''.gens → gs.Goes (model G.prog G.w) A (GR G fp Qd) (GY G fp stopv Qs) n (.send .none) s''
section
variable {G : Cx} {A : Around} {fp : List Addr} {Qs Qd : Hp → Prop} {a : Addr} {g : Nat} {R : Result → Shared → Prop}
theorem all_loop (hh : A.handled = none) (hd : A.depth < recursionLimit) (hgen : ∀ σ' H' s', Inv G [] σ' H' s' → s'.heap.IsGen a g)
    (hend : ∀ s' σ' H', Inv G [] σ' H' s' → (∀ b ∈ fp, H' b = none) → Qd H' → R (.ok (.ret (.bool true))) s')
    (hstop : ∀ s' σ' H', Inv G [] σ' H' s' → (∀ b ∈ fp, H' b = none) → Qs H' → R (.ok (.ret (.bool false))) s') :
    ∀ (n : Nat) (s : Shared), GAt G A.in1.in1 fp false Qs Qd a g n s → codeAny (model G.prog G.w) A (.builtin "all.loop" ⟨[.ref a], []⟩) R s := by
  have goes : ∀ {gs : GenState} {B : Around} {n : Nat} {r : Resume} {s : Shared}, gs.Goes (model G.prog G.w) B (GR G fp Qd) (GY G fp false Qs) n r s →
      gs.Goes (model G.prog G.w) B (fun n s₀ r s1 => ((r = .ok (.ret .none) ∨ r = .ok .next) ∧ (∃ σ' H', Inv G [] σ' H' s1 ∧ (∀ b ∈ fp, H' b = none) ∧ Qd H')) ∨ ∃ e, r = .error e ∧ (fun (_ : Value) (_ : Shared) => False) e s1) (GY G fp false Qs) n r s := fun h => h
  intro n
  induction n with
  | zero =>
    rintro s ⟨hg, hl, hb, gs, hgs, hgo⟩
    refine codeAny_builtin F.entry_all_loop ?_
    rw [Around.under_plainId F.plain_all_loop _]
    show wpAny _ A.in1 (pyNext (.ref a) >>= _) _ _ s
    refine wpAny_bind (next_genG (A := A.in1) hh hl hd hg hgs (goes (hgo _ rfl rfl (allBare_setGen hb rfl))) (fun v s₁ gs' hbare hv => ?_) (fun s₁ hp h' hk => ?_) fun e s₁ he => he.elim)
    · obtain ⟨b, σ', H', rfl, I', n', hs, hk⟩ := hv
      refine wpAny_bind (wpAny_holding (wpAny_truthy_bool ?_))
      refine wpAny_bind (wpAny_letGo ?_)
      cases b with
      | true => exact (hk (by decide) _ rfl rfl I'.bare).elim
      | false =>
        simp only [Bool.false_eq_true, if_false]
        exact wpAny_bind (wpAny_rule (wpAny_pure (hstop _ σ' H' (Inv.same I' rfl rfl (allBare_setGen I'.bare hbare)) n' (hs rfl))))
    · obtain ⟨σ', H', I', n', hq⟩ := hp
      refine wpAny_bind (wpAny_rule (wpAny_pure ?_))
      exact hend _ σ' H' (Inv.more I' hk rfl (allBare_setGen I'.bare rfl)) n' hq
  | succ n ih =>
    rintro s ⟨hg, hl, hb, gs, hgs, hgo⟩
    have hgl : g < s.gens.size := (Array.getElem?_eq_some_iff.mp hgs).1
    refine codeAny_builtin F.entry_all_loop ?_
    rw [Around.under_plainId F.plain_all_loop _]
    show wpAny _ A.in1 (pyNext (.ref a) >>= _) _ _ s
    refine wpAny_bind (GenW.wpAny_gsz (n := g + 1) hgl (next_genG (A := A.in1) hh hl hd hg hgs (goes (hgo _ rfl rfl (allBare_setGen hb rfl))) (fun v s₁ gs' hbare hv => ?_) (fun s₁ hp h' hk => ?_) fun e s₁ he => he.elim))
    · intro hsz
      obtain ⟨b, σ', H', rfl, I', n', hs, hk⟩ := hv
      refine wpAny_bind (wpAny_holding (wpAny_truthy_bool ?_))
      refine wpAny_bind (wpAny_letGo ?_)
      cases b with
      | true =>
        simp only [if_true]
        have hsz1 : g < s₁.gens.size := by
          have q : (s₁.setGen g gs').gens.size = s₁.gens.size := GenW.setGen_size _ _ _
          have hsz' : g + 1 ≤ (s₁.setGen g gs').gens.size := hsz
          omega
        refine wpAny_pure ⟨plainId_quiet F.plain_all_loop _, ih (s₁.setGen g gs') ⟨hgen σ' H' s₁ I', I'.nolimit, allBare_setGen I'.bare hbare, gs', setGen_at hsz1, fun s'' h1 h2 h3 => ?_⟩⟩
        exact hk (by decide) s'' h1 h2 h3
      | false =>
        simp only [Bool.false_eq_true, if_false]
        exact wpAny_bind (wpAny_rule (wpAny_pure (hstop _ σ' H' (Inv.same I' rfl rfl (allBare_setGen I'.bare hbare)) n' (hs rfl))))
    · intro hsz
      obtain ⟨σ', H', I', n', hq⟩ := hp
      refine wpAny_bind (wpAny_rule (wpAny_pure ?_))
      exact hend _ σ' H' (Inv.more I' hk rfl (allBare_setGen I'.bare rfl)) n' hq
theorem any_loop (hh : A.handled = none) (hd : A.depth < recursionLimit) (hgen : ∀ σ' H' s', Inv G [] σ' H' s' → s'.heap.IsGen a g)
    (hend : ∀ s' σ' H', Inv G [] σ' H' s' → (∀ b ∈ fp, H' b = none) → Qd H' → R (.ok (.ret (.bool false))) s')
    (hstop : ∀ s' σ' H', Inv G [] σ' H' s' → (∀ b ∈ fp, H' b = none) → Qs H' → R (.ok (.ret (.bool true))) s') :
    ∀ (n : Nat) (s : Shared), GAt G A.in1.in1 fp true Qs Qd a g n s → codeAny (model G.prog G.w) A (.builtin "any.loop" ⟨[.ref a], []⟩) R s := by
  have goes : ∀ {gs : GenState} {B : Around} {n : Nat} {r : Resume} {s : Shared}, gs.Goes (model G.prog G.w) B (GR G fp Qd) (GY G fp true Qs) n r s →
      gs.Goes (model G.prog G.w) B (fun n s₀ r s1 => ((r = .ok (.ret .none) ∨ r = .ok .next) ∧ (∃ σ' H', Inv G [] σ' H' s1 ∧ (∀ b ∈ fp, H' b = none) ∧ Qd H')) ∨ ∃ e, r = .error e ∧ (fun (_ : Value) (_ : Shared) => False) e s1) (GY G fp true Qs) n r s := fun h => h
  intro n
  induction n with
  | zero =>
    rintro s ⟨hg, hl, hb, gs, hgs, hgo⟩
    refine codeAny_builtin F.entry_any_loop ?_
    rw [Around.under_plainId F.plain_any_loop _]
    show wpAny _ A.in1 (pyNext (.ref a) >>= _) _ _ s
    refine wpAny_bind (next_genG (A := A.in1) hh hl hd hg hgs (goes (hgo _ rfl rfl (allBare_setGen hb rfl))) (fun v s₁ gs' hbare hv => ?_) (fun s₁ hp h' hk => ?_) fun e s₁ he => he.elim)
    · obtain ⟨b, σ', H', rfl, I', n', hs, hk⟩ := hv
      refine wpAny_bind (wpAny_holding (wpAny_truthy_bool ?_))
      refine wpAny_bind (wpAny_letGo ?_)
      cases b with
      | false => exact (hk (by decide) _ rfl rfl I'.bare).elim
      | true =>
        simp only [if_true]
        exact wpAny_bind (wpAny_rule (wpAny_pure (hstop _ σ' H' (Inv.same I' rfl rfl (allBare_setGen I'.bare hbare)) n' (hs rfl))))
    · obtain ⟨σ', H', I', n', hq⟩ := hp
      refine wpAny_bind (wpAny_rule (wpAny_pure ?_))
      exact hend _ σ' H' (Inv.more I' hk rfl (allBare_setGen I'.bare rfl)) n' hq
  | succ n ih =>
    rintro s ⟨hg, hl, hb, gs, hgs, hgo⟩
    have hgl : g < s.gens.size := (Array.getElem?_eq_some_iff.mp hgs).1
    refine codeAny_builtin F.entry_any_loop ?_
    rw [Around.under_plainId F.plain_any_loop _]
    show wpAny _ A.in1 (pyNext (.ref a) >>= _) _ _ s
    refine wpAny_bind (GenW.wpAny_gsz (n := g + 1) hgl (next_genG (A := A.in1) hh hl hd hg hgs (goes (hgo _ rfl rfl (allBare_setGen hb rfl))) (fun v s₁ gs' hbare hv => ?_) (fun s₁ hp h' hk => ?_) fun e s₁ he => he.elim))
    · intro hsz
      obtain ⟨b, σ', H', rfl, I', n', hs, hk⟩ := hv
      refine wpAny_bind (wpAny_holding (wpAny_truthy_bool ?_))
      refine wpAny_bind (wpAny_letGo ?_)
      cases b with
      | false =>
        simp only [Bool.false_eq_true, if_false]
        have hsz1 : g < s₁.gens.size := by
          have q : (s₁.setGen g gs').gens.size = s₁.gens.size := GenW.setGen_size _ _ _
          have hsz' : g + 1 ≤ (s₁.setGen g gs').gens.size := hsz
          omega
        refine wpAny_pure ⟨plainId_quiet F.plain_any_loop _, ih (s₁.setGen g gs') ⟨hgen σ' H' s₁ I', I'.nolimit, allBare_setGen I'.bare hbare, gs', setGen_at hsz1, fun s'' h1 h2 h3 => ?_⟩⟩
        exact hk (by decide) s'' h1 h2 h3
      | true =>
        simp only [if_true]
        exact wpAny_bind (wpAny_rule (wpAny_pure (hstop _ σ' H' (Inv.same I' rfl rfl (allBare_setGen I'.bare hbare)) n' (hs rfl))))
    · intro hsz
      obtain ⟨σ', H', I', n', hq⟩ := hp
      refine wpAny_bind (wpAny_rule (wpAny_pure ?_))
      exact hend _ σ' H' (Inv.more I' hk rfl (allBare_setGen I'.bare rfl)) n' hq
theorem call_all_gen {G : Cx} {A : Around} {fp : List Addr} {Qs Qd : Hp → Prop} {a : Addr} {g n : Nat} {s : Shared} {Q E : Value → Shared → Prop} (hh : A.handled = none) (hd : A.depth < recursionLimit) (hgen : ∀ σ' H' s', Inv G [] σ' H' s' → s'.heap.IsGen a g)
    (hG : GAt G A.in1.in1 fp false Qs Qd a g n s) (hend : ∀ s' σ' H', Inv G [] σ' H' s' → (∀ b ∈ fp, H' b = none) → Qd H' → Q (.bool true) s')
    (hstop : ∀ s' σ' H', Inv G [] σ' H' s' → (∀ b ∈ fp, H' b = none) → Qs H' → Q (.bool false) s') : wpAny (model G.prog G.w) A (call (.builtin "all") [.ref a]) Q E s := by
  refine call_function_tree F.kind_all F.plain_all F.entry_all (F.args_all1 _) ?_
  unfold Builtin.«all»
  refine wpAny_bind (m := oneArg "all" _) (wpAny_pure ?_)
  refine wpAny_bind (wpAny_pyIter_gen hG.1 ?_)
  exact wpAny_pure ⟨plainId_quiet F.plain_all_loop _, all_loop hh hd hgen hend hstop n s hG⟩
theorem call_any_gen {G : Cx} {A : Around} {fp : List Addr} {Qs Qd : Hp → Prop} {a : Addr} {g n : Nat} {s : Shared} {Q E : Value → Shared → Prop} (hh : A.handled = none) (hd : A.depth < recursionLimit) (hgen : ∀ σ' H' s', Inv G [] σ' H' s' → s'.heap.IsGen a g)
    (hG : GAt G A.in1.in1 fp true Qs Qd a g n s) (hend : ∀ s' σ' H', Inv G [] σ' H' s' → (∀ b ∈ fp, H' b = none) → Qd H' → Q (.bool false) s')
    (hstop : ∀ s' σ' H', Inv G [] σ' H' s' → (∀ b ∈ fp, H' b = none) → Qs H' → Q (.bool true) s') : wpAny (model G.prog G.w) A (call (.builtin "any") [.ref a]) Q E s := by
  refine call_function_tree F.kind_any F.plain_any F.entry_any (F.args_any1 _) ?_
  unfold Builtin.«any»
  refine wpAny_bind (m := oneArg "any" _) (wpAny_pure ?_)
  refine wpAny_bind (wpAny_pyIter_gen hG.1 ?_)
  exact wpAny_pure ⟨plainId_quiet F.plain_any_loop _, any_loop hh hd hgen hend hstop n s hG⟩
end
section
variable {X : Cx} {pins : List (Addr × Obj)} {σ : L2.St} {H : Hp} {s : Shared}
/-- the generator is made -/
theorem gex_made {c P : Addr} {tg elt iter : Expr} {gpos : Pos} {scope : Scope} {own : List (Str × Nat)} {k : Nat} {g : TG} {te : TE} {wi : TI} {stopv : Bool} {Qs Qd : Hp → Prop}
    (hr : Room (k + 1) X.A) (hN : X.N.Nodup) (TB : GxR.TabB X.base X.mg c P) (hcode : X.env.code = .ref c) (ok : GexOk X.N X.env.scope scope own) (hi : PI X tg iter wi)
    (hpe : ∀ (A : Around) (s : Shared) (H : Hp) (C : Addr) (code : Value) (fp : List Addr) (pn : List (Addr × Obj)), Room k A → let G := gex X A s H (genEnv scope (cloFrom X.env.cells scope.names []) C code builtinsNs X.env) fp pn
      PG G tg g ∧ PE G elt te)
    (hs : ∀ v, genFold iter X.env v = pure v) (I : Inv X pins σ H s)
    (h : wi σ H fun J H1 => GxR.TabG H1 P ∧ ∀ H2, GxR.Tabbed P H1 H2 → ∃ W : Nat → Nat → Hp → Prop, (∃ m, W 0 m H2) ∧ Turns J g te (own.map (·.2)) (wipe σ (own.map (·.2))) stopv Qs Qd W) :
    wpAny (model X.prog X.w) X.A (eval (.GeneratorExp elt [⟨tg, iter, [], 0⟩] scope gpos) X.env) (fun v s5 => ∃ (A' : Around) (sG : Shared) (HG : Hp) (genv : Env) (fp : List Addr) (pn : List (Addr × Obj)) (a : Addr) (gn n : Nat),
      v = .ref a ∧ GAt (gex X A' sG HG genv fp pn) X.A.in1.in1 fp stopv Qs Qd a gn n s5 ∧ (∀ σ' H' s', Inv (gex X A' sG HG genv fp pn) [] σ' H' s' → s'.heap.IsGen a gn) ∧
      (∀ σ' H' s', Inv (gex X A' sG HG genv fp pn) [] σ' H' s' → (∀ b ∈ fp, H' b = none) → Inv X pins σ H' s')) X.xe s := by
  have hfree : ∀ y ∈ scope.names, y.2 = .free → ∃ c, X.env.cells.lookup y.1 = some c := fun y hy e => by
    rcases ok.free y hy e with k | k
    · exact I.ok.has _ (.inl k)
    · exact I.ok.has _ (.inr k)
  refine wpAny_GeneratorExp_make ok.co (closure_ok hfree) ok.nocell ok.dot ok.kind (by have := hr.dp; omega) ?_ hs
  refine thn (hi.run pins s σ H _ I h) fun xv s1 hx => thn hx fun itv s2 h2 => ?_
  obtain ⟨it, fp, tn, J, H1, rfl, I2, T, st2, f2, ⟨ps, hP, ht⟩, q⟩ := h2
  have hPs : s2.heap.get? P = some { cls := .none, data := .fields ps } := I2.hok P _ hP
  have cd : PySem.W.CodeHd s2.heap c P := TB.code.keeps I2.bk
  have lim2 : s2.heap.NoLimit := I2.nolimit
  have cont : ∀ (code : Value) (h3 : Heap) (tk : Nat) (ps' : Array Value), Heap.ExtBut P s2.heap h3 → s2.heap.objs.size ≤ h3.objs.size → h3.get? P = some { cls := .none, data := .fields ps' } → (∃ more, ps' = ps ++ more) → TriplesOk ps'.toList →
      wpAny (model X.prog X.w) X.A (builtinsFor X.env.globals X.env.builtins) (fun bi s₄ =>
        ∀ h', h'.Ns s₄.heap.objs.size (fun y => if y = ".0" then some (.ref it) else none) → Heap.SameBut s₄.heap.objs.size (s₄.heap.push { cls := .type "frame", data := .dict #[] }) h' →
          (fun v s5 => ∃ (A' : Around) (sG : Shared) (HG : Hp) (genv : Env) (fp : List Addr) (pn : List (Addr × Obj)) (a : Addr) (gn n : Nat),
            v = .ref a ∧ GAt (gex X A' sG HG genv fp pn) X.A.in1.in1 fp stopv Qs Qd a gn n s5 ∧ (∀ σ' H' s', Inv (gex X A' sG HG genv fp pn) [] σ' H' s' → s'.heap.IsGen a gn) ∧
            (∀ σ' H' s', Inv (gex X A' sG HG genv fp pn) [] σ' H' s' → (∀ b ∈ fp, H' b = none) → Inv X pins σ H' s')) (Value.ref h'.objs.size) { s₄ with
            gens := s₄.gens.push (.fresh (.compStart (.GeneratorExp elt [⟨tg, iter, [], 0⟩] scope gpos) 0 (.ref it) .none (genEnv scope (cloFrom X.env.cells scope.names []) s₄.heap.objs.size code bi X.env))),
            toks := s₄.toks + 1 + 1 + 1,
            heap := h'.push { cls := .type "generator", data := .fields #[.int s₄.gens.size 0, .str "<genexpr>" (s₄.toks + 1), .str (X.env.qual ++ "<genexpr>") (s₄.toks + 1 + 1)] } }) X.xe { s2 with heap := h3, toks := tk } := by
    intro code h3 tk ps' hx hsz hP3 ⟨more, hmore⟩ ht3
    subst hmore
    obtain ⟨bm, ob, e1, e2, e3, e4, e5, e6, e7, e8⟩ := TB.bm
    have keep3 : ∀ b u, b ≠ P → s2.heap.get? b = some u → h3.get? b = some u := fun b u hb e => hx b u hb e
    refine wpAny_builtinsFor (m := X.mg) (by rw [I2.ok.glob]; exact (I2.mod.glob.keeps I2.bk).extBut hx TB.gP) e1 e2 (keep3 _ _ e4 (I2.bk _ _ e5)) e6 e7 e8 ?_
    intro h' hn' hs'
    have I3 : Inv X pins σ (upd H1 P (.tbl (ps ++ more))) { s2 with heap := h3, toks := tk } := GxR.inv_tab (g' := s2.gens) (d' := s2.drawn) I2 hP keep3 hP3 I2.bare
    have hT2 : GxR.Tabbed P H1 (upd H1 P (.tbl (ps ++ more))) := ⟨⟨ps ++ more, upd_same, ht3⟩, fun b hb => upd_ne hb⟩
    obtain ⟨W, ⟨m0, w0⟩, turn⟩ := q _ hT2
    have hsz' : h'.objs.size = h3.objs.size + 1 := by rw [hs'.1, Heap.size_push]
    have keep' : ∀ b o, h3.get? b = some o → h'.get? b = some o := fun b o e => hs'.extBut b o (Nat.ne_of_lt (Heap.lt_size e)) (Heap.get?_push_of_some _ e)
    have nP : ∀ b ∈ fp, b ≠ P := fun b hb z => by
      have := (f2 b hb).1
      rw [z, hP] at this
      cases this
    have sz : ∀ b ∈ fp, b < h3.objs.size := fun b hb => by
      obtain ⟨o, e, _⟩ := T.obj _ _ st2 b hb
      exact Heap.lt_size (keep3 b o (nP b hb) e)
    have f3 : ∀ b ∈ fp, FpOk X pins (upd H1 P (.tbl (ps ++ more))) b ∧ b < ({ s2 with heap := h3, toks := tk } : Shared).heap.objs.size := fun b hb =>
      ⟨⟨by rw [upd_ne (nP b hb)]; exact (f2 b hb).1, (f2 b hb).2⟩, sz b hb⟩
    generalize hgo : ({ cls := .type "generator", data := .fields #[.int s2.gens.size 0, .str "<genexpr>" (tk + 1), .str (X.env.qual ++ "<genexpr>") (tk + 1 + 1)] } : Obj) = go
    have hgen : ∀ h : Heap, h.get? h'.objs.size = some go → h.IsGen h'.objs.size s2.gens.size := fun h e => ⟨go, _, _, e, by rw [← hgo], by rw [← hgo], by rw [← hgo]⟩
    have hpush : (h'.push go).get? h'.objs.size = some go := by
      rw [← hgo]
      exact Heap.get?_push_size _ rfl
    have hgd : ∀ v, go.data ≠ .cell v := fun v z => by rw [← hgo] at z; cases z
    have keep5 : ∀ b o, h3.get? b = some o → (h'.push go).get? b = some o := fun b o e => Heap.get?_push_of_some _ (keep' b o e)
    have st5 : tn 0 (h'.push go) := T.keep _ _ _ st2 fun b hb o e => keep5 b o (keep3 b o (nP b hb) e)
    obtain ⟨genv, hge⟩ : ∃ genv, genv = genEnv scope (cloFrom X.env.cells scope.names []) h3.objs.size code builtinsNs X.env := ⟨_, rfl⟩
    obtain ⟨A', hA'⟩ : ∃ A', A' = X.A.in1.in1.over (.compLoop (.GeneratorExp elt [⟨tg, iter, [], 0⟩] scope gpos) 0 (.ref it) .none genv) [] := ⟨_, rfl⟩
    have roomA : Room k A' := by
      rw [hA']
      refine ⟨hr.hd, ?_, ?_⟩
      · have := hr.dp
        show X.A.depth + 1 + 3 * k + 5 < _
        omega
      · have := hr.un
        show X.A.units + 1 + 1 + 3 + 16 * k + 200 < _
        omega
    have frA : A'.frames = some (genv :: X.stack) := by
      rw [hA']
      show pushEnvs [genv] X.A.frames = _
      rw [I.ok.frames]
      rfl
    obtain ⟨pg, pe⟩ := hpe A' { s2 with heap := h3, toks := tk } (upd H1 P (.tbl (ps ++ more))) h3.objs.size code fp [(h'.objs.size, go)] roomA
    rw [← hge] at pg pe
    have lim5 : (h'.push go).NoLimit := I3.nolimit.keeps keep5
    refine ⟨A', { s2 with heap := h3, toks := tk }, upd H1 P (.tbl (ps ++ more)), genv, fp, [(h'.objs.size, go)], h'.objs.size, s2.gens.size, m0 + 1, rfl, ?_, fun σ' H' s' I' => hgen _ (I'.pin (h'.objs.size, go) (List.mem_append_left _ (List.mem_singleton.mpr rfl))).1, fun σ' H' s' I' n' => ?_⟩
    · refine ⟨hgen _ hpush, lim5, AllBare.push I2.bare rfl, _, Array.getElem?_push_size .., fun s'' hh ho hb => ⟨rfl, ?_⟩⟩
      show Seg _ _ _ _ _ _ (.compStart (.GeneratorExp elt [⟨tg, iter, [], 0⟩] scope gpos) 0 (.ref it) .none (genEnv scope (cloFrom X.env.cells scope.names []) h3.objs.size code builtinsNs X.env)) _ _ _
      rw [← hge]
      have IG : Inv (gex X A' { s2 with heap := h3, toks := tk } (upd H1 P (.tbl (ps ++ more))) genv fp [(h'.objs.size, go)]) [] (wipe σ (own.map (·.2))) (upd H1 P (.tbl (ps ++ more))) s'' := by
        refine gex_start (m := fun y => if y = ".0" then some (.ref it) else none) I3 ok hN f3 (by rw [hA']; exact hr.hd) frA hge ho hb (by rw [hh]; exact keep5) (by rw [hh]; exact hn'.push _) fun p hp => ?_
        rw [List.mem_singleton.mp hp, hh]
        refine ⟨hpush, ?_, hgd⟩
        show h3.objs.size < h'.objs.size
        omega
      refine seg_gex0 (G := gex X A' { s2 with heap := h3, toks := tk } (upd H1 P (.tbl (ps ++ more))) genv fp [(h'.objs.size, go)]) T (by rw [hh]; exact st5) ?_
      refine seg_gex (G := gex X A' { s2 with heap := h3, toks := tk } (upd H1 P (.tbl (ps ++ more))) genv fp [(h'.objs.size, go)]) T rfl rfl rfl (fun b hb p hp => ?_) hA'.symm (by show genv.scope.isCoroutine = false; rw [hge]; exact ok.co) pg pe turn (m0 + 1) 0 m0 _ _ _ (Nat.lt_succ_self _) w0 IG (by rw [hh]; exact st5) fun b hb => (f3 b hb).1.1
      rw [List.mem_singleton.mp hp]
      show h'.objs.size ≠ b
      exact Nat.ne_of_gt (by rw [hsz']; exact Nat.lt_succ_of_lt (sz b hb))
    · exact I3.call' (ch := fp) I'.os I'.base I'.hok I'.bare fun b hb => ⟨(f3 b hb).1.2.2.2.1, (f3 b hb).1.2.1, (f3 b hb).1.2.2.2.2.1, (f3 b hb).1.2.2.2.2.2⟩
  refine ⟨lim2, ?_⟩
  cases hf : codeAmong gpos ps.toList with
  | none =>
    refine wpAny_genexprCodeX hcode (cd.code hPs ht) (cd.tab hPs) hf fun c' h' tk hx hge hlt hco' _ htab' _ => ?_
    obtain ⟨o1, vs, f1, tf, fl, tg, inF, tx, tt, op, _, _, _, _, _, _, _, _, _, htr, _⟩ := hco'
    exact cont _ h' tk _ hx (Nat.le_trans hge (Nat.le_of_lt hlt)) htab'.2 ⟨_, rfl⟩ htr
  | some cv =>
    refine wpAny_genexprCode_hit hcode (cd.code hPs ht) hf ?_
    exact cont cv s2.heap s2.toks ps (Heap.ExtBut.refl _ _) (Nat.le_refl _) hPs ⟨#[], by simp⟩ ht
/-- all(test for tg in iter), any(..): behind it the def's table may have grown -/
def tAllG (P : Addr) (wi : TI) (g : TG) (te : TE) (vs : List Nat) : TE := fun σ H Q => wi σ H fun J H1 => GxR.TabG H1 P ∧ ∀ H2, GxR.Tabbed P H1 H2 → ∃ W : Nat → Nat → Hp → Prop, (∃ m, W 0 m H2) ∧ Turns J g te vs (wipe σ vs) false (fun H' => Q (.bl false) H') (fun H' => Q (.bl true) H') W
def tAnyG (P : Addr) (wi : TI) (g : TG) (te : TE) (vs : List Nat) : TE := fun σ H Q => wi σ H fun J H1 => GxR.TabG H1 P ∧ ∀ H2, GxR.Tabbed P H1 H2 → ∃ W : Nat → Nat → Hp → Prop, (∃ m, W 0 m H2) ∧ Turns J g te vs (wipe σ vs) true (fun H' => Q (.bl true) H') (fun H' => Q (.bl false) H') W
section
variable {c P : Addr} {tg elt iter : Expr} {p pos gpos : Pos} {scope : Scope} {own : List (Str × Nat)} {k : Nat} {g : TG} {te : TE} {wi : TI}
theorem pe_allG (hr : Room (k + 1) X.A) (hN : X.N.Nodup) (hg : Gl X "all") (hm : X.mg "all" = none) (hb : bootBuiltins "all" = some (.builtin "all")) (TB : GxR.TabB X.base X.mg c P) (hcode : X.env.code = .ref c) (ok : GexOk X.N X.env.scope scope own) (hi : PI X tg iter wi)
    (hpe : ∀ (A : Around) (s : Shared) (H : Hp) (C : Addr) (code : Value) (fp : List Addr) (pn : List (Addr × Obj)), Room k A → let G := gex X A s H (genEnv scope (cloFrom X.env.cells scope.names []) C code builtinsNs X.env) fp pn
      PG G tg g ∧ PE G elt te)
    (hs : ∀ v, genFold iter X.env v = pure v)
    (he : starEach [.GeneratorExp elt [⟨tg, iter, [], 0⟩] scope gpos] X.env = (false, eval (.GeneratorExp elt [⟨tg, iter, [], 0⟩] scope gpos) X.env) :: starEach [] X.env := by rfl) :
    PE X (.Call (.Name "all" p) [.GeneratorExp elt [⟨tg, iter, [], 0⟩] scope gpos] [] pos) (tAllG P wi g te (own.map (·.2))) := by
  refine ⟨fun pins s σ H Q I h => ?_⟩
  refine wpAny_Call_Name_kw (ld_blt I hg hm hb ?_)
  refine PyProof.Rows.callWith_builtin1 ?_ he (by rfl)
  rw [he]
  show wpAny _ _ (spliced ((false, eval (.GeneratorExp elt [⟨tg, iter, [], 0⟩] scope gpos) X.env) :: backTo pos (starEach [] X.env))) _ _ s
  refine Calls.spliced_cons (thn (gex_made (stopv := false) hr hN TB hcode ok hi hpe hs I h) fun v s5 ⟨A', sG, HG, genv, fp, pn, a, gn, n, hv, hG, hgen, back⟩ => ?_)
  subst hv
  refine Calls.spliced_nil ?_
  exact call_all_gen (G := gex X A' sG HG genv fp pn) hr.hd (by have := hr.dp; omega) hgen hG (fun s' σ' H' I' n' q => ⟨.bl true, H', back σ' H' s' I' n', rfl, q⟩) fun s' σ' H' I' n' q => ⟨.bl false, H', back σ' H' s' I' n', rfl, q⟩
theorem pe_anyG (hr : Room (k + 1) X.A) (hN : X.N.Nodup) (hg : Gl X "any") (hm : X.mg "any" = none) (hb : bootBuiltins "any" = some (.builtin "any")) (TB : GxR.TabB X.base X.mg c P) (hcode : X.env.code = .ref c) (ok : GexOk X.N X.env.scope scope own) (hi : PI X tg iter wi)
    (hpe : ∀ (A : Around) (s : Shared) (H : Hp) (C : Addr) (code : Value) (fp : List Addr) (pn : List (Addr × Obj)), Room k A → let G := gex X A s H (genEnv scope (cloFrom X.env.cells scope.names []) C code builtinsNs X.env) fp pn
      PG G tg g ∧ PE G elt te)
    (hs : ∀ v, genFold iter X.env v = pure v)
    (he : starEach [.GeneratorExp elt [⟨tg, iter, [], 0⟩] scope gpos] X.env = (false, eval (.GeneratorExp elt [⟨tg, iter, [], 0⟩] scope gpos) X.env) :: starEach [] X.env := by rfl) :
    PE X (.Call (.Name "any" p) [.GeneratorExp elt [⟨tg, iter, [], 0⟩] scope gpos] [] pos) (tAnyG P wi g te (own.map (·.2))) := by
  refine ⟨fun pins s σ H Q I h => ?_⟩
  refine wpAny_Call_Name_kw (ld_blt I hg hm hb ?_)
  refine PyProof.Rows.callWith_builtin1 ?_ he (by rfl)
  rw [he]
  show wpAny _ _ (spliced ((false, eval (.GeneratorExp elt [⟨tg, iter, [], 0⟩] scope gpos) X.env) :: backTo pos (starEach [] X.env))) _ _ s
  refine Calls.spliced_cons (thn (gex_made (stopv := true) hr hN TB hcode ok hi hpe hs I h) fun v s5 ⟨A', sG, HG, genv, fp, pn, a, gn, n, hv, hG, hgen, back⟩ => ?_)
  subst hv
  refine Calls.spliced_nil ?_
  exact call_any_gen (G := gex X A' sG HG genv fp pn) hr.hd (by have := hr.dp; omega) hgen hG (fun s' σ' H' I' n' q => ⟨.bl false, H', back σ' H' s' I' n', rfl, q⟩) fun s' σ' H' I' n' q => ⟨.bl true, H', back σ' H' s' I' n', rfl, q⟩
end
end
/-! ### heaps: the defs' tables may grow -/
structure SameT (H H' : Hp) : Prop where
  but : ∀ b o, H b = some o → (∀ ps, o ≠ .tbl ps) → H' b = some o
  tab : ∀ P, GxR.TabG H P → GxR.TabG H' P
theorem SameT.refl (H : Hp) : SameT H H := ⟨fun _ _ h _ => h, fun _ h => h⟩
theorem SameT.trans {H H1 H2 : Hp} (a : SameT H H1) (b : SameT H1 H2) : SameT H H2 := ⟨fun c o h n => b.but c o (a.but c o h n) n, fun P h => b.tab P (a.tab P h)⟩
theorem TabG.mono {H H' : Hp} {P : Addr} (e : Same H H') (h : GxR.TabG H P) : GxR.TabG H' P := by
  obtain ⟨ps, h1, h2⟩ := h
  exact ⟨ps, e _ _ h1, h2⟩
theorem sameT {H H' : Hp} (e : Same H H') : SameT H H' := ⟨fun b o h _ => e b o h, fun _ h => TabG.mono e h⟩
theorem tabbedT {H H' : Hp} {P : Addr} (hP : GxR.TabG H P) (t : GxR.Tabbed P H H') : SameT H H' := by
  obtain ⟨ps, h1, h2⟩ := hP
  refine ⟨fun b o h n => ?_, fun Q h => ?_⟩
  · rw [t.2 b fun z => by rw [z, h1] at h; cases h; exact n ps rfl]
    exact h
  · by_cases hQ : Q = P
    · rw [hQ]
      exact t.1
    · obtain ⟨qs, g1, g2⟩ := h
      exact ⟨qs, by rw [t.2 Q hQ]; exact g1, g2⟩
section
variable {K : PySem.W.Frag} {H H' : Hp}
theorem SameT.seq {a : Addr} {xs : List V} (e : SameT H H') (h : SqL K H a xs) : SqL K H' a xs := by
  rcases h with (h | ⟨o, h⟩) | h
  · exact .inl (.inl (e.but _ _ h fun _ z => by cases z))
  · exact .inl (.inr ⟨o, e.but _ _ h fun _ z => by cases z⟩)
  · exact .inr h
theorem SameT.tseq {a : Addr} {xs : List V} (e : SameT H H') (h : SqT K H a xs) : SqT K H' a xs := by
  rcases h with (h | ⟨o, h⟩) | h
  · exact .inl (.inl (e.but _ _ h fun _ z => by cases z))
  · exact .inl (.inr ⟨o, e.but _ _ h fun _ z => by cases z⟩)
  · exact .inr h
mutual
theorem Dp.monoT (e : SameT H H') : ∀ (d : PyData) (v : V), Dp K H v d → Dp K H' v d
  | .none, _, h => by cases h; exact .non
  | .bool b, _, h => by cases h; exact .bl b
  | .int i, _, h => by cases h; exact .int i
  | .str x, _, h => by cases h; exact .str x
  | .list ds, _, h => by
    cases h with
    | lst hs ha => exact .lst (SameT.seq e hs) (Dp.monoTAll e ds _ ha)
  | .tuple ds, _, h => by
    cases h with
    | tup hs ha => exact .tup (SameT.tseq e hs) (Dp.monoTAll e ds _ ha)
  | .dict _, _, h => by cases h
theorem Dp.monoTAll (e : SameT H H') : ∀ (ds : List PyData) (vs : List V), DpAll K H vs ds → DpAll K H' vs ds
  | [], _, h => by cases h; exact .nil
  | d :: ds, _, h => by
    cases h with
    | cons h1 h2 => exact .cons (Dp.monoT e d _ h1) (Dp.monoTAll e ds _ h2)
end
theorem Fr.monoT {v : V} {r : Rat} (e : SameT H H') (h : Ub.Fr K H v r) : Ub.Fr K H' v r := Dp.monoT e _ _ h
theorem Frs.monoT {v : V} {rs : List Rat} (e : SameT H H') (h : Ub.Frs K H v rs) : Ub.Frs K H' v rs := Dp.monoT e _ _ h
end
/-! ### turns over a list, a range, two lists -/
section
variable {K : PySem.W.Frag} {g : TG} {te : TE} {vs : List Nat} {σw : L2.St} {stopv : Bool} {Qs Qd : Hp → Prop} {H2 : Hp}
theorem turnsL {a : Addr} {xs : List V} (Pv : Nat → Hp → Prop) (h0 : Pv 0 H2) (hl : ∀ i H, i ≤ xs.length → Pv i H → SqL K H a xs)
    (hs : ∀ i x H, xs[i]? = some x → Pv i H → g x σw H fun σ2 H2 => wipe σ2 vs = σw ∧ te σ2 H2 fun y H3 => ∃ b, y = .bl b ∧ (b = stopv → Qs H3) ∧ (b ≠ stopv → Pv (i + 1) H3)) (hd : ∀ H, Pv xs.length H → Qd H) :
    ∃ W : Nat → Nat → Hp → Prop, (∃ m, W 0 m H2) ∧ Turns (Itl K a) g te vs σw stopv Qs Qd W := by
  refine ⟨fun i m H => m = xs.length - i ∧ i ≤ xs.length ∧ Pv i H, ⟨xs.length, by simp, Nat.zero_le _, h0⟩, ?_⟩
  rintro i m H ⟨rfl, hi, p⟩
  have q := hl i H hi p
  by_cases hlt : i < xs.length
  · refine .inr ⟨⟨xs, xs[i], q, by simp [hlt]⟩, Pv (i + 1), fun H' p' => ⟨xs.length - (i + 1), by omega, rfl, hlt, p'⟩, fun x H' y => ?_⟩
    obtain ⟨e, y⟩ := y
    subst e
    exact hs i x _ (y xs q) p
  · have e : i = xs.length := by omega
    subst e
    exact .inl ⟨⟨xs, q, Nat.le_refl _⟩, hd H p⟩
theorem turnsZ {a c : Addr} {xs ys : List V} (Pv : Nat → Hp → Prop) (h0 : Pv 0 H2) (hl : ∀ i H, Pv i H → SqL K H a xs ∧ SqL K H c ys)
    (hs : ∀ i x y T H, xs[i]? = some x → ys[i]? = some y → H T = none → Pv i H → g (.ref T) σw (upd H T (.tup [x, y])) fun σ2 H2 => wipe σ2 vs = σw ∧ te σ2 H2 fun y H3 => ∃ b, y = .bl b ∧ (b = stopv → Qs H3) ∧ (b ≠ stopv → Pv (i + 1) H3)) (hd : ∀ H, Pv (min xs.length ys.length) H → Qd H) :
    ∃ W : Nat → Nat → Hp → Prop, (∃ m, W 0 m H2) ∧ Turns (Itz K a c) g te vs σw stopv Qs Qd W := by
  refine ⟨fun i m H => m = min xs.length ys.length - i ∧ i ≤ min xs.length ys.length ∧ Pv i H, ⟨min xs.length ys.length, by simp, Nat.zero_le _, h0⟩, ?_⟩
  rintro i m H ⟨rfl, hi, p⟩
  obtain ⟨q1, q2⟩ := hl i H p
  by_cases hlt : i < min xs.length ys.length
  · have h1 : i < xs.length := by omega
    have h2 : i < ys.length := by omega
    refine .inr ⟨⟨xs, ys, xs[i], ys[i], q1, q2, by simp [h1], by simp [h2]⟩, Pv (i + 1), fun H' p' => ⟨min xs.length ys.length - (i + 1), by omega, rfl, by omega, p'⟩, fun v H' y => ?_⟩
    obtain ⟨T, x, y, rfl, nT, rfl, hx, hy⟩ := y
    exact hs i x y T H (hx xs q1) (hy ys q2) nT p
  · have e : i = min xs.length ys.length := by omega
    subst e
    exact .inl ⟨⟨xs, ys, q1, q2, by omega⟩, hd H p⟩
end
/-! ### defs with a table, the law's end -/
def dT (x : String) : He.Defn := (Str.ofString x, none)
section
variable {P : Program} {w : World} {K : PySem.W.Frag} {mg : Str → Option Value} {base : Heap} {x qual : Str} {params : Arguments} {body : List Stmt} {scope : Scope} {dvs : List V} {kws : List (Str × V)} {f : Addr} {fd : FuncData}
theorem FunD.okT {CX : CXT} {N ps : List Str} {k : Nat} {sp : Sp} {p : He.Defn} (F : FunD K x qual params body scope dvs kws f fd) (hf : f = He.fAd K p) (S : FnScope N ps scope) (len : ∀ vs H Q E, sp vs H Q E → vs.length = ps.length)
    (hbody : ∀ (A : Around) (outer : List Env) (s : Shared) (H : Hp) (vs : List V) (Q : VK) (E : XK), Room k (A.deeper (envOfC qual scope s.heap.objs.size f (.ref (He.cT K p).1))) → sp vs H Q E →
      ∃ t, PSs (cxOf CX P w K mg base N qual scope f (.ref (He.cT K p).1) A outer s H E) body t ∧ t { nx := fun _ H' => Q .non H', rt := Q } (start N vs) H) : FnOk P w K mg base CX (k + 1) f fd ps sp := by
  obtain ⟨oc, od, dV, kV, doc, pm, an, cdv, ct, osl, rfl, lk, hcd, _, _⟩ := F.ex
  obtain ⟨c, hc⟩ := He.codeIn_ref hcd
  subst hc
  have e : (He.cT K p).1 = c := He.codeOf_eq (by rw [← hf]; exact lk) rfl
  refine fn_of lk hcd S len fun A outer s H vs Q E hr hsp => ?_
  have h := hbody A outer s H vs Q E (by rw [e]; exact hr) hsp
  rw [e] at h
  exact h
end
theorem endOfLawT {l : PySem.W.OpenLaw} {n k : Nat} {q : Program} {loose : List Str} {XP : (Str → Option Value) → Heap → Prop} {YP : World → Heap → Prop} {d : DefRec} {x : Str}
    (most : l.most = some n) (small : n ≤ sizeLine) (plain : d.params.defaults = []) (room : Room k callerA) (tf : List He.Defn)
    (all : ∀ (w : World) (mg : Str → Option Value) (fa : Addr) (h : Heap), YP w h → h.Ns mainGlobals mg → mg d.name = some (.ref fa) → ∃ (K : PySem.W.Frag) (fd : FuncData) (sp : Sp), K.In h ∧
      (∀ p ∈ tf, PySem.W.codeHdIn K (He.cT K p).1 (He.cT K p).2 = true) ∧ (∀ p ∈ tf, K.lookup (He.cT K p).2 = none) ∧ (∀ p ∈ tf, h.get? (He.cT K p).2 = some { cls := .none, data := .fields #[] }) ∧
      (∀ (s : Shared) (u : Value), BindsTo s fd ⟨[u], []⟩ [(x, u)]) ∧ (∀ (H : Hp) (a : Addr) (ns : List Int), ns.length ≤ n → (∀ z ∈ ns, Builtin.Int.intBits z ≤ 1048576) → (∀ p ∈ tf, GxR.TabG H (He.cT K p).2) → SqL K H a (ns.map V.int) → sp [.ref a] H (fun v _ => v = .bl true) E0) ∧
      ∀ base : Heap, K.In base → base.Ns mainGlobals mg → (∀ p ∈ tf, GxR.TabB base mg (He.cT K p).1 (He.cT K p).2) → FnOk l.prog w K mg base (L2.CX l.prog w) k fa fd [x] sp) :
    PySem.W.WalkO q loose XP YP l.row.toRowW d [] (fun f vs => PySem.call f vs) := by
  refine LamX.walk_ofTsE (CX := fun w => L2.CX l.prog w) (x := x) most small plain room (fun w mg fa h Y hn hm => ?_) fun w H s e s' z => Ub.noExc z
  obtain ⟨K, fd, sp, kin, hd, out, emp, bnd, want, ok⟩ := all w mg fa h Y hn hm
  refine ⟨K, kin, fd, tf.map (He.cT K), sp, fun p hp => ?_, fun p hp => ?_, fun p hp => ?_, bnd, fun H a ns hl hb hT hS => want H a ns hl hb (fun p hp => ?_) hS, fun base k2 g2 tb => ok base k2 g2 fun p hp => ?_⟩
  · obtain ⟨q, hq, rfl⟩ := List.mem_map.mp hp
    exact emp q hq
  · obtain ⟨q, hq, rfl⟩ := List.mem_map.mp hp
    exact out q hq
  · obtain ⟨q, hq, rfl⟩ := List.mem_map.mp hp
    exact PySem.W.codeHd_of_K kin (hd q hq)
  · exact ⟨#[], hT _ (List.mem_map.mpr ⟨p, hp, rfl⟩), True.intro⟩
  · obtain ⟨a, b, c⟩ := tb _ (List.mem_map.mpr ⟨p, hp, rfl⟩)
    exact ⟨a, b, c⟩
def gexC (N : List Str) (sc scope : Scope) (own : List (Str × Nat)) : Bool :=
  decide (scope.kind = .function) && (decide (scope.isCoroutine = false) && (scope.names.all (fun y => decide (y.2 ≠ .cell)) && (decide (scope.names.lookup (".0" : Str) = some NameKind.local) && (scope.names.all (fun y => decide (scope.names.lookup y.1 = some y.2)) &&
    (own.all (fun p => decide (N[p.2]? = some p.1)) && (scope.names.all (fun y => decide (y.2 = .free → (sc.names.lookup y.1 = some .cell ∨ sc.names.lookup y.1 = some .free))) && scope.names.all (fun y => decide (y.2 = .local → (y.1 ∈ own.map (·.1) ∨ y.1 ∉ N)))))))))
theorem gexOk_by {N : List Str} {sc scope : Scope} {own : List (Str × Nat)} (h : gexC N sc scope own = true) : GexOk N sc scope own := by
  unfold gexC at h
  simp only [Bool.and_eq_true, List.all_eq_true, decide_eq_true_eq] at h
  obtain ⟨h1, h2, h3, h4, h5, h6, h7, h8⟩ := h
  exact ⟨h1, h2, h3, h4, h5, h6, h7, h8⟩
theorem bb_all : bootBuiltins "all" = some (.builtin "all") := by kernel_rfl
theorem bb_any : bootBuiltins "any" = some (.builtin "any") := by kernel_rfl
/-! ### list(reversed(x)), x a list -/
section
open RT
variable {prog : Program} {w : World} {A : Around} {E : Value → Shared → Prop} {s : Shared}
theorem call_list_revI {it l : Addr} {items : Array Value} {Q : Value → Shared → Prop} (hh : A.handled = none) (hit : s.heap.IsRevIter it l ((items.size : Int) - 1)) (hl : s.heap.IsList l items) (hne : l ≠ it) (hn : items.size ≤ sizeLine)
    (hQ : ∀ (h' : Heap) (tk : Nat) (acc : Array Value) (c' : Nat), (∀ b o, b ≠ it → s.heap.get? b = some o → h'.get? b = some o) → h'.get? s.heap.objs.size = some (lstObj acc c') → ItemsOf (fun i v => items[items.size - 1 - i]? = some v) acc items.size → Q (.ref s.heap.objs.size) { s with heap := h', toks := tk }) :
    wpAny (model prog w) A (call (.type "list") [.ref it]) Q E s := by
  have W := (Walks.listRev (prog := prog) (w := w) (A := A.in1.in1) hh it l hne items).toS
  obtain ⟨oi, hoi, _⟩ := id hit
  obtain ⟨ol, hol, _⟩ := id hl
  have hSi : s.heap.objs.size ≠ it := Nat.ne_of_gt (Heap.lt_size hoi)
  have hSl : s.heap.objs.size ≠ l := Nat.ne_of_gt (Heap.lt_size hol)
  have hSf : s.heap.objs.size ∉ [it, l] := by simp only [List.mem_cons, List.not_mem_nil, or_false, not_or]; exact ⟨hSi, hSl⟩
  refine callType_codes (Q₁ := fun obj s₁ => obj = .ref s.heap.objs.size ∧ s₁ = { s with heap := s.heap.push { cls := .type "list", data := .seq #[] } }) F.called_list (F.typeCall_list_1 _) F.entry_list_init
    (code_list_new _ ⟨rfl, rfl⟩) fun obj s₁ h₁ => ?_
  obtain ⟨rfl, rfl⟩ := h₁
  have hS : (s.heap.push { cls := .type "list", data := .seq #[] }).get? s.heap.objs.size = some { cls := .type "list", data := .seq #[] } := Heap.get?_push_size _ rfl
  refine ⟨⟨_, hS, rfl⟩, F.args_list_init_2 _ _, ?_⟩
  show wpAny _ A.in1.in1 (do let old ← Builtin.List.listItems (.ref s.heap.objs.size); Builtin.List.listUpdate (.ref s.heap.objs.size) (fun _ => #[]); letGo old.toList.reverse; Builtin.List.listExtendWith (.ref s.heap.objs.size) (.ref it) .none) _ _ _
  refine wpAny_bind ?_
  unfold Builtin.List.listItems
  refine wpAny_bind (wpAny_seqItems hS rfl (wpAny_pure ?_))
  show wpAny _ A.in1.in1 (updateSeq s.heap.objs.size (fun _ => #[]) >>= fun _ => letGo (#[] : Array Value).toList.reverse >>= fun _ => Builtin.List.listExtendWith (.ref s.heap.objs.size) (.ref it) .none) _ _ _
  refine wpAny_bind (wpAny_updateSeq hS rfl ?_)
  have hS2 := Heap.get?_update_self (Obj.mapSeq (fun _ => (#[] : Array Value))) hS rfl
  refine wpAny_bind (wpAny_letGo ?_)
  have kp : ∀ b o, s.heap.get? b = some o → ((s.heap.push { cls := .type "list", data := .seq #[] }).update s.heap.objs.size (Obj.mapSeq (fun _ => (#[] : Array Value)))).get? b = some o := fun b o e =>
    (Heap.get?_update_other _ _ (Ne.symm (Nat.ne_of_lt (Heap.lt_size e)))).trans (Heap.get?_push_of_some _ e)
  generalize ((s.heap.push { cls := .type "list", data := .seq #[] }).update s.heap.objs.size (Obj.mapSeq (fun _ => (#[] : Array Value)))) = h2 at hS2 kp ⊢
  have hit1 : h2.IsRevIter it l ((items.size : Int) - 1) := hit.at fun o e => kp it o e
  have hl1 : h2.IsList l items := hl.at fun o e => kp l o e
  have hT : ({ s with heap := h2 } : Shared).TypeIs (.ref it) "list_reverseiterator" := Heap.IsRevIter.typeIs (s := { s with heap := h2 }) hit1
  have h1 : Builtin.List.listSameRef (.ref s.heap.objs.size) (.ref it) = false := by simp [Builtin.List.listSameRef, hSi]
  unfold Builtin.List.listExtendWith
  refine wpAny_bind (wpAny_typeOf hT ?_)
  rw [if_neg (by rw [h1]; decide)]
  refine wpAny_bind (wpAny_pyIter_revIter (s := { s with heap := h2 }) hit1 ?_)
  refine wpAny_bind (wpAny_holding ?_)
  unfold Builtin.List.listLengthHint
  refine wpAny_bind (wpAny_specialOf hT nolen_lri ?_)
  show wpAny _ A.in1.in1 (specialOf (Value.ref it) (Str.ofString "__length_hint__") >>= _) _ _ _
  refine wpAny_bind (wpAny_specialOf hT hint_lri ?_)
  generalize hid : ("list_reverseiterator.__length_hint__" : String) = id0
  wp_delta
  rw [show splitId id0 = some ("list_reverseiterator", "__length_hint__") from by subst hid; decide +kernel]
  subst hid
  refine wpAny_bind (wpAny_isInstance (b := true) hT (by rw [isSubtype_type]; kernel_rfl) ?_)
  refine wpAny_pure ?_
  rw [if_neg (by decide)]
  have e0 : ((items.size : Nat) : Int) - 1 - ((0 : Nat) : Int) = (items.size : Int) - 1 := by omega
  refine wpAny_pure ⟨plainId_quiet F.plain_extend_loop _, codeAny_extend_loopS W hn _ hSf _ items.size 0 _ _ _ rfl (Nat.zero_le _) ⟨Nat.zero_le _, by rw [e0]; exact hit1, hl1⟩ hS2 (ItemsOf.nil _) fun s' acc' c' hm hS' hacc => ?_⟩
  rw [Moved.eq_with hm]
  refine ⟨rfl, hQ s'.heap s'.toks acc' c' (fun b o hb e => hm.heap b o (fun hmem => ?_) (kp b o e)) hS' hacc⟩
  rcases List.mem_cons.mp hmem with e' | hmem
  · exact absurd (Heap.lt_size e) (by rw [e']; exact Nat.lt_irrefl _)
  · exact hb (List.mem_singleton.mp hmem)
end
def tListRev (K : PySem.W.Frag) (te : TE) : TE := fun σ H Q => te σ H fun v H1 => ∃ (a : Addr) (xs : List V), v = .ref a ∧ SqL K H1 a xs ∧ ∀ q, H1 q = none → Q (.ref q) (upd H1 q (.lst xs.reverse))
theorem pe_listRev {X : Cx} {e : Expr} {te : TE} {p p2 pos pos2 : Pos} (hc : X.calm = true) (hg : Gl X "list") (hm : X.mg "list" = none) (hb : bootBuiltins "list" = some (.type "list")) (hg2 : Gl X "reversed") (hm2 : X.mg "reversed" = none) (he : PE X e te)
    (hs : starEach [e] X.env = (false, eval e X.env) :: starEach [] X.env := by rfl)
    (hs2 : starEach [.Call (.Name "reversed" p2) [e] [] pos2] X.env = (false, eval (.Call (.Name "reversed" p2) [e] [] pos2) X.env) :: starEach [] X.env := by rfl) :
    PE X (.Call (.Name "list" p) [.Call (.Name "reversed" p2) [e] [] pos2] [] pos) (tListRev X.K te) := by
  refine ⟨fun pins s σ H Q I h => ?_⟩
  refine Call_ (ld_blt I hg hm hb (PyProof.Rows.callWith_type1 (args_cons (Call_ (ld_blt I hg2 hm2 PyProof.Rows.boot_reversed (PyProof.Rows.callWith_type1 (args_cons (thn (he.run pins s σ H _ I h) fun u s1 ⟨v, H1, I1, r1, q1⟩ => args_nil ?_) hs) hs rfl))) hs2) hs2 rfl))
  obtain ⟨a, xs, ev, hq, q⟩ := q1
  subst ev
  obtain rfl : u = Value.ref a := r1
  obtain ⟨its, rv, p', hz⟩ := I1.list hq
  refine call_reversed_list p'.isList (args_nil ?_)
  have k0 : ∀ b o, s1.heap.get? b = some o → (s1.heap.push (revObj a ((its.toArray.size : Int) - 1))).get? b = some o := fun b o e => Heap.get?_push_of_some _ e
  have I2 : L2.Inv X pins σ H1 { s1 with heap := s1.heap.push (revObj a ((its.toArray.size : Int) - 1)) } := I1.kept (t' := s1.toks) k0
  obtain ⟨f0, f1, f2, f3, f4, f5⟩ := I1.fpOk (H' := H1) (b := s1.heap.objs.size) (Nat.le_refl _) (I1.hok.fresh (Nat.le_refl _))
  have hl := p'.isList
  obtain ⟨ol, hol, _⟩ := id hl
  have hne : a ≠ s1.heap.objs.size := Nat.ne_of_lt (Heap.lt_size hol)
  have hn : its.toArray.size ≤ sizeLine := by rw [List.size_toArray, ← rv.length]; exact hz
  refine call_list_revI (s := { s1 with heap := s1.heap.push (revObj a ((its.toArray.size : Int) - 1)) }) (I1.ok.hd hc) ⟨_, Heap.get?_push_size _ rfl, rfl, rfl⟩ (hl.push _) hne hn fun h' tk acc c' hk hS hi => ?_
  have I3 : L2.Inv X pins σ H1 { s1 with heap := h', toks := tk } := I2.turned (t' := tk) (fun b o hb e => hk b o hb e) f0 f1 f3 f4 f5
  have nS : H1 (s1.heap.push (revObj a ((its.toArray.size : Int) - 1))).objs.size = none := I2.hok.fresh (Nat.le_refl _)
  refine ⟨.ref (s1.heap.push (revObj a ((its.toArray.size : Int) - 1))).objs.size, upd H1 _ (.lst xs.reverse), Inv.drained (sc := { s1 with heap := s1.heap.push (revObj a ((its.toArray.size : Int) - 1)) }) (ex := [s1.heap.objs.size]) I2 (Nat.le_refl _) (by rw [List.length_reverse]; exact hz) hS (RT.vals_rev rv hi) ?_ rfl I1.bare ?_ I3.hok nS, rfl, q _ nS⟩
  · intro b hb
    rw [List.mem_singleton.mp hb]
    exact ⟨f3, f1, f4, f5⟩
  · refine ⟨fun b o e n hb hx => hk b o (fun z => hx (List.mem_singleton.mpr z)) e, fun b o e n hb hx => ⟨o.slots, hk b o (fun z => hx (List.mem_singleton.mpr z)) e⟩, fun b o e n hx => n, fun b o e hx => ⟨o, hk b o (fun z => hx (List.mem_singleton.mpr z)) e⟩, fun _ _ z => z, fun _ _ _ z => z, fun b ps z => ⟨#[], by rw [z]; simp⟩⟩
/-- isinstance of an exception that has one of two classes -/
def rIsEx2 (K : PySem.W.Frag) (D1 D2 a : Addr) (cls : Value) (d : Option Addr) : List V → Hp → VK → Prop := fun xs H Q => Ub.rIsEx K D1 a cls d xs H Q ∨ Ub.rIsEx K D2 a cls d xs H Q
theorem call_isEx2 {X : Cx} {a D1 D2 : Addr} {oe : Obj} {pn : List (Addr × Obj)} {cls : Value} {d : Option Addr} (C1 : ExcC X.K D1) (C2 : ExcC X.K D2) (hz : Zc cls d oe) (hf : ∃ vs, oe.data = .fields vs) : CallR (X.suite a ((a, oe) :: pn)) (.builtin "isinstance") (rIsEx2 X.K D1 D2 a cls d) := by
  intro pins s σ H xs us Q I r h
  exact h.elim (Ub.call_isEx C1 hz hf pins s σ H xs us Q I r) (Ub.call_isEx C2 hz hf pins s σ H xs us Q I r)
/-- what is never reached needs no rule -/
def tNo : TS := fun _ _ _ => False
def tNoE : TE := fun _ _ _ => False
theorem ps_no {X : Cx} {st : Stmt} : PS X st tNo := ⟨fun _ _ _ _ _ _ h => h.elim⟩
theorem pe_no {X : Cx} {e : Expr} : PE X e tNoE := ⟨fun _ _ _ _ _ _ h => h.elim⟩
end UbG

namespace UbR
open PySem PySem.Spec PyProof.Rows L2 UbM Ub
/-! ### lists that change: all other data stand apart from them -/
/-- the heap without the cells in S -/
def wo (S : List Addr) (H : Hp) : Hp := fun b => if b ∈ S then none else H b
theorem wo_in {S : List Addr} {H : Hp} {b : Addr} {o : HO} (h : wo S H b = some o) : b ∉ S ∧ H b = some o := by
  unfold wo at h
  by_cases hb : b ∈ S
  · rw [if_pos hb] at h
    cases h
  · rw [if_neg hb] at h
    exact ⟨hb, h⟩
theorem wo_out {S : List Addr} {H : Hp} {b : Addr} (hb : b ∉ S) : wo S H b = H b := by
  unfold wo
  rw [if_neg hb]
theorem wo_same {S : List Addr} {H : Hp} : Same (wo S H) H := fun b o h => (wo_in h).2
theorem wo_upd {S : List Addr} {H : Hp} {a : Addr} {o : HO} (ha : a ∈ S) : wo S (upd H a o) = wo S H := by
  funext b
  unfold wo
  by_cases hb : b ∈ S
  · rw [if_pos hb, if_pos hb]
  · rw [if_neg hb, if_neg hb, upd_ne (show b ≠ a from fun z => hb (by rw [z]; exact ha))]
theorem wo_sub {S S' : List Addr} {H : Hp} (h : ∀ s ∈ S, s ∈ S') : Same (wo S' H) (wo S H) := fun b o e => by
  obtain ⟨h1, h2⟩ := wo_in e
  rw [wo_out fun z => h1 (h b z)]
  exact h2
/-- all stands but the lists in S; tables may grow -/
structure SameS (S : List Addr) (H H' : Hp) : Prop where
  but : ∀ b o, b ∉ S → H b = some o → (∀ ps, o ≠ .tbl ps) → H' b = some o
  tab : ∀ P, GxR.TabG H P → GxR.TabG H' P
  ls : ∀ s, s ∈ S → (∃ xs, H s = some (.lst xs)) → ∃ xs, H' s = some (.lst xs)
/-- the cells in S are lists -/
def Ls (S : List Addr) (H : Hp) : Prop := ∀ s, s ∈ S → ∃ xs, H s = some (.lst xs)
theorem SameS.refl {S : List Addr} (H : Hp) : SameS S H H := ⟨fun _ _ _ h _ => h, fun _ h => h, fun _ _ h => h⟩
theorem SameS.trans {S : List Addr} {H H1 H2 : Hp} (a : SameS S H H1) (b : SameS S H1 H2) : SameS S H H2 :=
  ⟨fun c o n h t => b.but c o n (a.but c o n h t) t, fun P h => b.tab P (a.tab P h), fun s hs h => b.ls s hs (a.ls s hs h)⟩
theorem sameTS {S : List Addr} {H H' : Hp} (e : UbG.SameT H H') : SameS S H H' := ⟨fun b o _ h t => e.but b o h t, e.tab, fun s _ ⟨xs, h⟩ => ⟨xs, e.but _ _ h fun _ z => by cases z⟩⟩
theorem sameS {S : List Addr} {H H' : Hp} (e : Same H H') : SameS S H H' := sameTS (UbG.sameT e)
theorem SameS.sub {S S' : List Addr} {H H' : Hp} (e : SameS S H H') (h : ∀ s ∈ S, s ∈ S') : SameS S' H H' :=
  ⟨fun b o n g t => e.but b o (fun z => n (h b z)) g t, e.tab, fun s _ ⟨xs, g⟩ => by
    by_cases hs : s ∈ S
    · exact e.ls s hs ⟨xs, g⟩
    · exact ⟨xs, e.but _ _ hs g fun _ z => by cases z⟩⟩
theorem sameS_upd {S : List Addr} {H : Hp} {a : Addr} {xs : List V} (ha : a ∈ S) (h : ∀ ps, H a ≠ some (.tbl ps)) : SameS S H (upd H a (.lst xs)) := by
  refine ⟨fun b o n e _ => ?_, fun P ⟨ps, e, t⟩ => ⟨ps, ?_, t⟩, fun s _ ⟨ys, e⟩ => ?_⟩
  · rw [upd_ne (show b ≠ a from fun z => n (by rw [z]; exact ha))]
    exact e
  · rw [upd_ne (show P ≠ a from fun z => h ps (by rw [← z]; exact e))]
    exact e
  · by_cases hs : s = a
    · rw [hs]
      exact ⟨xs, upd_same⟩
    · exact ⟨ys, by rw [upd_ne hs]; exact e⟩
theorem notTbl {H : Hp} {a : Addr} {xs : List V} (h : H a = some (.lst xs)) : ∀ ps, H a ≠ some (.tbl ps) := fun ps z => by
  rw [h] at z
  cases z
theorem notTbl0 {H : Hp} {a : Addr} (h : H a = none) : ∀ ps, H a ≠ some (.tbl ps) := fun ps z => by
  rw [h] at z
  cases z
theorem SameS.wT {S : List Addr} {H H' : Hp} (e : SameS S H H') : UbG.SameT (wo S H) (wo S H') := by
  refine ⟨fun b o h t => ?_, fun P ⟨ps, h, t⟩ => ?_⟩
  · obtain ⟨h1, h2⟩ := wo_in h
    rw [wo_out h1]
    exact e.but b o h1 h2 t
  · obtain ⟨h1, h2⟩ := wo_in h
    obtain ⟨qs, g, t2⟩ := e.tab P ⟨ps, h2, t⟩
    exact ⟨qs, by rw [wo_out h1]; exact g, t2⟩
theorem SameS.lsS {S : List Addr} {H H' : Hp} (e : SameS S H H') (h : Ls S H) : Ls S H' := fun s hs => e.ls s hs (h s hs)
theorem SameS.get {S : List Addr} {H H' : Hp} {a : Addr} {xs : List V} (e : SameS S H H') (h : H a = some (.lst xs)) (ha : a ∉ S) : H' a = some (.lst xs) := e.but _ _ ha h fun _ z => by cases z
theorem SameS.seqL {K : PySem.W.Frag} {S : List Addr} {H H' : Hp} {a : Addr} {xs : List V} (e : SameS S H H') (h : SqL K (wo S H) a xs) : SqL K (wo S H') a xs := UbG.SameT.seq e.wT h
section
variable {K : PySem.W.Frag} {S S' : List Addr} {H H' : Hp} {v : V} {d : PyData}
theorem Kp.mono (e : SameS S H H') (h : Dp K (wo S H) v d) : Dp K (wo S H') v d := UbG.Dp.monoT e.wT _ _ h
theorem Kp.monoAll {vs : List V} {ds : List PyData} (e : SameS S H H') (h : DpAll K (wo S H) vs ds) : DpAll K (wo S H') vs ds := UbG.Dp.monoTAll e.wT _ _ h
theorem Kp.dp (h : Dp K (wo S H) v d) : Dp K H v d := Dp.mono wo_same _ _ h
theorem Kp.dpAll {vs : List V} {ds : List PyData} (h : DpAll K (wo S H) vs ds) : DpAll K H vs ds := Dp.monoAll wo_same _ _ h
theorem Kp.sub (i : ∀ s ∈ S, s ∈ S') (h : Dp K (wo S' H) v d) : Dp K (wo S H) v d := Dp.mono (wo_sub i) _ _ h
theorem Kp.subAll {vs : List V} {ds : List PyData} (i : ∀ s ∈ S, s ∈ S') (h : DpAll K (wo S' H) vs ds) : DpAll K (wo S H) vs ds := Dp.monoAll (wo_sub i) _ _ h
theorem wo_tseq {a : Addr} {xs : List V} (l : Ls S H) (h : SqT K H a xs) : SqT K (wo S H) a xs := by
  have go : ∀ o, H a = some o → (∀ ys, o ≠ .lst ys) → wo S H a = some o := fun o e n => by
    rw [wo_out fun z => ?_]
    · exact e
    · obtain ⟨ys, g⟩ := l _ z
      rw [g] at e
      cases e
      exact n ys rfl
  rcases h with (h | ⟨o, h⟩) | h
  · exact .inl (.inl (go _ h fun _ z => by cases z))
  · exact .inl (.inr ⟨o, go _ h fun _ z => by cases z⟩)
  · exact .inr h
mutual
theorem Kp.ofNoL (l : Ls S H) : ∀ (d : PyData) (v : V), noL d = true → Dp K H v d → Dp K (wo S H) v d
  | .none, _, _, h => by cases h; exact .non
  | .bool b, _, _, h => by cases h; exact .bl b
  | .int i, _, _, h => by cases h; exact .int i
  | .str x, _, _, h => by cases h; exact .str x
  | .list ds, _, n, _ => by
    unfold noL at n
    cases n
  | .tuple ds, _, n, h => by
    cases h with
    | tup hs ha => exact .tup (wo_tseq l hs) (Kp.ofNoLAll l ds _ (by unfold noL at n; exact (Bool.and_eq_true_iff.mp n).2) ha)
  | .dict _, _, _, h => by cases h
theorem Kp.ofNoLAll (l : Ls S H) : ∀ (ds : List PyData) (vs : List V), noL.noLs ds = true → DpAll K H vs ds → DpAll K (wo S H) vs ds
  | [], _, _, h => by cases h; exact .nil
  | dt :: ds, _, n, h => by
    unfold noL.noLs at n
    obtain ⟨n1, n2⟩ := Bool.and_eq_true_iff.mp n
    cases h with
    | cons h1 h2 => exact .cons (Kp.ofNoL l dt _ n1 h1) (Kp.ofNoLAll l ds _ n2 h2)
end
theorem Kp.fr {r : Rat} (l : Ls S H) (h : Fr K H v r) : Fr K (wo S H) v r := Kp.ofNoL l _ _ rfl h
/-- what is new is in no cell -/
theorem Ls.new {p : Addr} (l : Ls S H) (np : H p = none) : p ∉ S := fun z => by
  obtain ⟨xs, h⟩ := l p z
  rw [np] at h
  cases h
theorem wo_new {p : Addr} {o : HO} (hp : p ∉ S) : wo S (upd H p o) = upd (wo S H) p o := by
  funext b
  by_cases hb : b = p
  · rw [hb, wo_out hp, upd_same, upd_same]
  · rw [upd_ne hb]
    unfold wo
    by_cases hs : b ∈ S
    · rw [if_pos hs, if_pos hs]
    · rw [if_neg hs, if_neg hs, upd_ne hb]
theorem wo_none {p : Addr} (np : H p = none) : wo S H p = none := by
  cases e : wo S H p with
  | none => rfl
  | some o =>
    rw [(wo_in e).2] at np
    cases np
/-- a new list, a new tuple of data that stand apart -/
theorem Kp.newL {p : Addr} {xs : List V} {ds : List PyData} (l : Ls S H) (np : H p = none) (h : DpAll K (wo S H) xs ds) : Dp K (wo S (upd H p (.lst xs))) (.ref p) (.list ds) := by
  rw [wo_new (l.new np)]
  exact .lst (.inl (.inl upd_same)) (Dp.monoAll (sameNew (wo_none np)) _ _ h)
theorem Kp.newT {p : Addr} {xs : List V} {ds : List PyData} (l : Ls S H) (np : H p = none) (h : DpAll K (wo S H) xs ds) : Dp K (wo S (upd H p (.tup xs))) (.ref p) (.tuple ds) := by
  rw [wo_new (l.new np)]
  exact .tup (.inl (.inl upd_same)) (Dp.monoAll (sameNew (wo_none np)) _ _ h)
/-- a cell whose items stand apart from it, at its end: data -/
theorem Kp.done {a : Addr} {xs : List V} {ds : List PyData} (h : H a = some (.lst xs)) (ha : a ∉ S) (hD : DpAll K (wo (a :: S) H) xs ds) : Dp K (wo S H) (.ref a) (.list ds) :=
  .lst (.inl (.inl (by rw [wo_out ha]; exact h))) (Kp.subAll (fun s hs => List.mem_cons_of_mem _ hs) hD)
theorem Kp.lst {a : Addr} {ds : List PyData} (h : Dp K (wo S H) (.ref a) (.list ds)) : ∃ xs, SqL K (wo S H) a xs ∧ DpAll K (wo S H) xs ds := by
  cases h with
  | lst h1 h2 => exact ⟨_, h1, h2⟩
theorem wo_seqH {a : Addr} {xs : List V} (h : SqL K (wo S H) a xs) : SqL K H a xs := Same.seq wo_same h
theorem Kp.setAll {vs : List V} {ds : List PyData} {v : V} {d : PyData} : ∀ {vs : List V} {ds : List PyData} (i : Nat), DpAll K H vs ds → Dp K H v d → DpAll K H (vs.set i v) (ds.set i d)
  | _, _, _, .nil, _ => .nil
  | _, _, 0, .cons _ h2, h => .cons h h2
  | _, _, i + 1, .cons h1 h2, h => .cons h1 (Kp.setAll (vs := []) (ds := []) i h2 h)
end
/-! ### the law's row of numbers -/
/-- a list of whole numbers stands at d -/
def Ints (H : Hp) (d : Addr) : Prop := ∃ ns : List Int, H d = some (.lst (ns.map V.int))
theorem Ints.monoT {H H' : Hp} {d : Addr} (e : UbG.SameT H H') (h : Ints H d) : Ints H' d := by
  obtain ⟨ns, h⟩ := h
  exact ⟨ns, e.but _ _ h fun _ z => by cases z⟩
theorem Ints.mono {H H' : Hp} {d : Addr} (e : Same H H') (h : Ints H d) : Ints H' d := h.monoT (UbG.sameT e)
theorem Ints.monoS {S : List Addr} {H H' : Hp} {d : Addr} (e : SameS S H H') (hd : d ∉ S) (h : Ints H d) : Ints H' d := by
  obtain ⟨ns, h⟩ := h
  exact ⟨ns, e.get h hd⟩
theorem Ints.stay {H : Hp} {d a : Addr} {o : HO} (h : Ints H d) (n : d ≠ a) : Ints (upd H a o) d := by
  obtain ⟨ns, h⟩ := h
  exact ⟨ns, by rw [upd_ne n]; exact h⟩
theorem Ints.ls {H : Hp} {d : Addr} (h : Ints H d) : Ls [d] H := fun s hs => by
  obtain ⟨ns, h⟩ := h
  rw [List.mem_singleton.mp hs]
  exact ⟨_, h⟩
theorem Ints.ne {H : Hp} {d a : Addr} (h : Ints H d) (na : H a = none) : d ≠ a := fun z => by
  obtain ⟨ns, h⟩ := h
  rw [z, na] at h
  cases h
theorem rdApp {H : Hp} {Q : VK} {d : Addr} {xs : List V} {x : V} (h : H d = some (.lst xs)) (hz : xs.length ≤ 5000) (q : Q .non (upd H d (.lst (xs ++ [x])))) : rAppend (.ref d) [x] H Q :=
  ⟨d, _, _, rfl, rfl, h, Nat.lt_of_le_of_lt hz (by decide), q⟩
/-- small fractions -/
def Sm (a b : Nat) (r : Rat) : Prop := r.num.natAbs ≤ a ∧ r.den ≤ b
theorem Sm.bd {a b n : Nat} {r : Rat} (h : Sm a b r) (ha : a < 2 ^ n) (hb : b < 2 ^ n) : Bd n r := ⟨Nat.lt_of_le_of_lt h.1 ha, Nat.lt_of_le_of_lt h.2 hb⟩
theorem Sm.mono {a b a' b' : Nat} {r : Rat} (h : Sm a b r) (ha : a ≤ a') (hb : b ≤ b') : Sm a' b' r := ⟨Nat.le_trans h.1 ha, Nat.le_trans h.2 hb⟩
theorem sm_divInt {p q : Int} {a b : Nat} (hq : 0 < q) (h1 : p.natAbs ≤ a) (h2 : q.natAbs ≤ b) : Sm a b (Rat.divInt p q) := by
  have e1 := num_pos (p := p) hq
  have e2 := den_pos (p := p) hq
  refine ⟨?_, ?_⟩
  · rw [← e1, Int.natAbs_ediv_of_dvd (dvd_l p q)]
    exact Nat.le_trans (Nat.div_le_self ..) h1
  · have : ((Rat.divInt p q).den : Int).natAbs ≤ b := by
      rw [← e2, Int.natAbs_ediv_of_dvd (dvd_r p q)]
      exact Nat.le_trans (Nat.div_le_self ..) h2
    exact this
theorem mapInt_at {ns : List Int} {i : Nat} {x : V} (h : (ns.map V.int)[i]? = some x) : ∃ z, x = .int z ∧ ns[i]? = some z := by
  rw [List.getElem?_map] at h
  cases e : ns[i]? with
  | none =>
    rw [e] at h
    cases h
  | some z =>
    rw [e] at h
    cases h
    exact ⟨z, rfl, rfl⟩
/-! ### real lists (of this run) of data -/
def LL (K : PySem.W.Frag) (H : Hp) (a : Addr) (ds : List PyData) : Prop := ∃ xs, H a = some (.lst xs) ∧ DpAll K H xs ds
section
variable {K : PySem.W.Frag} {S S' : List Addr} {H H' : Hp} {a : Addr} {ds : List PyData}
theorem LL.dp (h : LL K H a ds) : Dp K H (.ref a) (.list ds) := by
  obtain ⟨xs, h1, h2⟩ := h
  exact .lst (.inl (.inl h1)) h2
theorem LL.monoT (e : UbG.SameT H H') (h : LL K H a ds) : LL K H' a ds := by
  obtain ⟨xs, h1, h2⟩ := h
  exact ⟨xs, e.but _ _ h1 (fun _ z => by cases z), UbG.Dp.monoTAll e _ _ h2⟩
theorem LL.mono (e : Same H H') (h : LL K H a ds) : LL K H' a ds := h.monoT (UbG.sameT e)
theorem LL.monoS (e : SameS S H H') (h : LL K (wo S H) a ds) : LL K (wo S H') a ds := h.monoT e.wT
theorem LL.out (h : LL K (wo S H) a ds) : LL K H a ds := h.mono wo_same
theorem LL.sub (i : ∀ s ∈ S, s ∈ S') (h : LL K (wo S' H) a ds) : LL K (wo S H) a ds := h.mono (wo_sub i)
theorem LL.notIn (h : LL K (wo S H) a ds) : a ∉ S := by
  obtain ⟨xs, h1, h2⟩ := h
  exact (wo_in h1).1
theorem LL.at {i : Nat} {d : PyData} (h : LL K H a ds) (e : ds[i]? = some d) : ∃ xs v, H a = some (.lst xs) ∧ xs[i]? = some v ∧ Dp K H v d := by
  obtain ⟨xs, h1, h2⟩ := h
  obtain ⟨v, h3, h4⟩ := go h2 e
  exact ⟨xs, v, h1, h3, h4⟩
where
  go {K : PySem.W.Frag} {H : Hp} : ∀ {xs : List V} {ds : List PyData} {i : Nat} {d : PyData}, DpAll K H xs ds → ds[i]? = some d → ∃ v, xs[i]? = some v ∧ Dp K H v d
    | _, _, _, _, .nil, h => by simp at h
    | _, _, 0, _, .cons h1 _, h => by
      simp at h
      subst h
      exact ⟨_, rfl, h1⟩
    | _, _, i + 1, d, .cons _ h2, h => by
      obtain ⟨v, e, q⟩ := LL.at.go (i := i) (d := d) h2 (by simpa using h)
      exact ⟨v, by simpa using e, q⟩
theorem LL.newS {p : Addr} {xs : List V} (l : Ls S H) (np : H p = none) (h : DpAll K (wo S H) xs ds) : LL K (wo S (upd H p (.lst xs))) p ds := by
  rw [wo_new (l.new np)]
  exact ⟨xs, upd_same, Dp.monoAll (sameNew (wo_none np)) _ _ h⟩
theorem LL.done {xs : List V} (h : H a = some (.lst xs)) (ha : a ∉ S) (hD : DpAll K (wo (a :: S) H) xs ds) : LL K (wo S H) a ds :=
  ⟨xs, by rw [wo_out ha]; exact h, Kp.subAll (fun s hs => List.mem_cons_of_mem _ hs) hD⟩
end
/-! ### cells: lists that grow or change, their items apart from all cells in S -/
def Cel (K : PySem.W.Frag) (S : List Addr) (H : Hp) (a : Addr) (ds : List PyData) : Prop := ∃ xs, H a = some (.lst xs) ∧ DpAll K (wo S H) xs ds
theorem SameS.late {S : List Addr} {H H' : Hp} {D : Addr} {o : HO} (e : SameS S H H') (nD : H D = none) : SameS S H (upd H' D o) :=
  ⟨fun b x n h t => by rw [upd_ne (ne_of_none h nD)]; exact e.but b x n h t, fun P g => by
    obtain ⟨ps, h, _⟩ := id g
    obtain ⟨qs, h2, t2⟩ := e.tab P g
    exact ⟨qs, by rw [upd_ne (ne_of_none h nD)]; exact h2, t2⟩, fun s hs ⟨xs, h⟩ => by
    obtain ⟨ys, g⟩ := e.ls s hs ⟨xs, h⟩
    exact ⟨ys, by rw [upd_ne (ne_of_none h nD)]; exact g⟩⟩
theorem SameT.late {H H' : Hp} {D : Addr} {o : HO} (e : UbG.SameT H H') (nD : H D = none) : UbG.SameT H (upd H' D o) :=
  ⟨fun b x h t => by rw [upd_ne (ne_of_none h nD)]; exact e.but b x h t, fun P g => by
    obtain ⟨ps, h, _⟩ := id g
    obtain ⟨qs, h2, t2⟩ := e.tab P g
    exact ⟨qs, by rw [upd_ne (ne_of_none h nD)]; exact h2, t2⟩⟩
section
variable {K : PySem.W.Frag} {S S' : List Addr} {H H' : Hp} {a b : Addr} {ds es : List PyData} {o : HO}
theorem Cel.new {p : Addr} : Cel K S (upd H p (.lst [])) p [] := ⟨[], upd_same, .nil⟩
theorem Cel.monoS (e : SameS S' H H') (i : ∀ s ∈ S', s ∈ S) (ha : a ∉ S') (h : Cel K S H a ds) : Cel K S H' a ds := by
  obtain ⟨xs, h1, h2⟩ := h
  exact ⟨xs, e.get h1 ha, Kp.monoAll (e.sub i) h2⟩
theorem Cel.monoT (e : UbG.SameT H H') (h : Cel K S H a ds) : Cel K S H' a ds := h.monoS (S' := []) (sameTS e) (fun _ z => absurd z (List.not_mem_nil)) (List.not_mem_nil)
theorem Cel.mono (e : Same H H') (h : Cel K S H a ds) : Cel K S H' a ds := h.monoT (UbG.sameT e)
theorem Cel.ls (h : Cel K S H a ds) : ∃ xs, H a = some (.lst xs) := by
  obtain ⟨xs, h1, _⟩ := h
  exact ⟨xs, h1⟩
theorem Cel.turn {y : V} {d : PyData} (h : Cel K S H a ds) (ha : a ∈ S) (hz : ds.length ≤ 5000) (hy : Dp K (wo S H) y d) : ∃ acc, H a = some (.lst acc) ∧ acc.length < sizeLine ∧ Cel K S (upd H a (.lst (acc ++ [y]))) a (ds ++ [d]) := by
  obtain ⟨xs, h1, h2⟩ := h
  exact ⟨xs, h1, Nat.lt_of_le_of_lt (by rw [dpAll_len h2]; exact hz) (by decide), _, upd_same, by rw [wo_upd ha]; exact dpAll_snoc h2 hy⟩
theorem Cel.app {y : V} {d : PyData} {Q : VK} (h : Cel K S H a ds) (ha : a ∈ S) (hz : ds.length ≤ 5000) (hy : Dp K (wo S H) y d) (q : ∀ acc, H a = some (.lst acc) → Cel K S (upd H a (.lst (acc ++ [y]))) a (ds ++ [d]) → Q .non (upd H a (.lst (acc ++ [y])))) : rAppend (.ref a) [y] H Q := by
  obtain ⟨xs, h1, h2⟩ := h
  exact rdApp h1 (by rw [dpAll_len h2]; exact hz) (q _ h1 ⟨_, upd_same, by rw [wo_upd ha]; exact dpAll_snoc h2 hy⟩)
theorem Cel.done (h : Cel K S H a ds) (i : ∀ s ∈ S', s ∈ S) (ha : a ∉ S') : LL K (wo S' H) a ds := by
  obtain ⟨xs, h1, h2⟩ := h
  exact ⟨xs, by rw [wo_out ha]; exact h1, Kp.subAll i h2⟩
theorem Cel.stay (h : Cel K S H b es) (ha : a ∈ S) (n : b ≠ a) : Cel K S (upd H a o) b es := by
  obtain ⟨xs, h1, h2⟩ := h
  exact ⟨xs, by rw [upd_ne n]; exact h1, by rw [wo_upd ha]; exact h2⟩
theorem LL.stay (h : LL K (wo S H) b es) (ha : a ∈ S) : LL K (wo S (upd H a o)) b es := by
  rw [wo_upd ha]
  exact h
theorem Kp.stay {v : V} {d : PyData} (h : Dp K (wo S H) v d) (ha : a ∈ S) : Dp K (wo S (upd H a o)) v d := by
  rw [wo_upd ha]
  exact h
end
section
variable {K : PySem.W.Frag} {S S' : List Addr} {H H' : Hp} {a b : Addr} {ds es : List PyData} {o : HO}
theorem ixN_of {n j : Nat} (hj : j < n) : ixN n (j : Int) = some j := by
  unfold ixN
  rw [if_pos (by omega), if_pos (by omega)]
  simp
theorem Cel.setAt {v : V} {d : PyData} {k : Nat} {z : Int} {Q : Hp → Prop} (h : Cel K S H a ds) (ha : a ∈ S) (hz : z = (k : Int)) (hk : k < ds.length) (hv : Dp K (wo S H) v d) (q : ∀ xs, H a = some (.lst xs) → Cel K S (upd H a (.lst (xs.set k v))) a (ds.set k d) → Q (upd H a (.lst (xs.set k v)))) : rSetL (.ref a) (.int z) v H Q := by
  obtain ⟨xs, h1, h2⟩ := h
  subst hz
  exact rdSetL h1 (ixN_of (by rw [dpAll_len h2]; exact hk)) (q xs h1 ⟨_, upd_same, by rw [wo_upd ha]; exact Kp.setAll (vs := []) (ds := []) k h2 hv⟩)
theorem Cel.ix {d : PyData} {k : Nat} {z : Int} {Q : VK} (h : Cel K S H a ds) (hz : z = (k : Int)) (e : ds[k]? = some d) (q : ∀ v, Dp K (wo S H) v d → Q v H) : rIx K (.ref a) (.int z) H Q := by
  obtain ⟨xs, h1, h2⟩ := h
  obtain ⟨v, h3, h4⟩ := LL.at.go h2 e
  exact rdIxL (.inl (.inl h1)) (at_of hz h3) (q v h4)
theorem LL.ix {d : PyData} {k : Nat} {z : Int} {Q : VK} (h : LL K (wo S H) a ds) (hz : z = (k : Int)) (e : ds[k]? = some d) (q : ∀ v, Dp K (wo S H) v d → Q v H) : rIx K (.ref a) (.int z) H Q := by
  obtain ⟨xs, v, h1, h3, h4⟩ := h.at e
  exact rdIxL (.inl (.inl (wo_in h1).2)) (at_of hz h3) (q v h4)
/-- a new list of fractions stands apart from all older cells -/
theorem frsApart {rs : List Rat} {xs : List V} (l : Ls S H') (h : H' a = some (.lst xs)) (ha : a ∉ S) (hD : DpAll K H' xs (rs.map frD)) : LL K (wo S H') a (rs.map frD) :=
  ⟨xs, by rw [wo_out ha]; exact h, Kp.ofNoLAll l _ _ (noL_frs rs) hD⟩
end
/-- whole numbers from 0 on, as values -/
def natV (t : Nat) : V := .int (t : Int)
theorem natV_at {ts : List Nat} {i : Nat} {x : V} (h : (ts.map natV)[i]? = some x) : ∃ t, x = .int (t : Nat) ∧ ts[i]? = some t := by
  rw [List.getElem?_map] at h
  cases e : ts[i]? with
  | none =>
    rw [e] at h
    cases h
  | some z =>
    rw [e] at h
    cases h
    exact ⟨z, rfl, rfl⟩
theorem natV_get {ts : List Nat} {i t : Nat} (h : ts[i]? = some t) : (ts.map natV)[i]? = some (.int (t : Nat)) := by
  rw [List.getElem?_map, h]
  rfl
/-- of m + 1 numbers below m two are the same -/
theorem pigeon : ∀ (m : Nat) (g : Nat → Nat), (∀ i, i ≤ m → g i < m) → ∃ i j, i < j ∧ j ≤ m ∧ g i = g j
  | 0, g, h => absurd (h 0 (Nat.le_refl _)) (Nat.not_lt_zero _)
  | m + 1, g, h => by
    by_cases he : ∃ i, i ≤ m ∧ g i = g (m + 1)
    · obtain ⟨i, hi, e⟩ := he
      exact ⟨i, m + 1, by omega, Nat.le_refl _, e⟩
    · have hne : ∀ i, i ≤ m → g i ≠ g (m + 1) := fun i hi e => he ⟨i, hi, e⟩
      have hv := h (m + 1) (Nat.le_refl _)
      obtain ⟨i, j, hij, hj, e⟩ := pigeon m (fun i => if g i < g (m + 1) then g i else g i - 1) (fun i hi => by
        have h1 := h i (by omega)
        have h2 := hne i hi
        show (if g i < g (m + 1) then g i else g i - 1) < m
        split <;> omega)
      refine ⟨i, j, hij, by omega, ?_⟩
      have h1 := hne i (by omega)
      have h2 := hne j hj
      have e' : (if g i < g (m + 1) then g i else g i - 1) = (if g j < g (m + 1) then g j else g j - 1) := e
      split at e' <;> split at e' <;> omega
/-- fractions over one denominator -/
def Sz (D N : Nat) (r : Rat) : Prop := ∃ k : Int, r = Rat.divInt k D ∧ k.natAbs ≤ N
theorem div_plus {a s n : Int} : Rat.divInt a n + Rat.divInt s n = Rat.divInt (a + s) n := by
  rw [Rat.divInt_eq_div, Rat.divInt_eq_div, Rat.divInt_eq_div, Rat.div_def, Rat.div_def, Rat.div_def, ← Rat.add_mul, Rat.intCast_add]
theorem Sz.add {D N M : Nat} {r s : Rat} (h1 : Sz D N r) (h2 : Sz D M s) : Sz D (N + M) (r + s) := by
  obtain ⟨a, rfl, ha⟩ := h1
  obtain ⟨b, rfl, hb⟩ := h2
  exact ⟨a + b, div_plus, by omega⟩
theorem div_neg (a n : Int) : -Rat.divInt a n = Rat.divInt (-a) n := by
  rw [Rat.divInt_eq_div, Rat.divInt_eq_div, Rat.div_def, Rat.div_def, Rat.intCast_neg, Rat.neg_mul]
theorem Sz.neg {D N : Nat} {r : Rat} (h : Sz D N r) : Sz D N (-r) := by
  obtain ⟨a, rfl, ha⟩ := h
  exact ⟨-a, div_neg a D, by omega⟩
theorem Sz.sub {D N M : Nat} {r s : Rat} (h1 : Sz D N r) (h2 : Sz D M s) : Sz D (N + M) (r - s) := by
  rw [Rat.sub_eq_add_neg]
  exact h1.add h2.neg
theorem Sz.mono {D N M : Nat} {r : Rat} (h : Sz D N r) (l : N ≤ M) : Sz D M r := by
  obtain ⟨a, e, ha⟩ := h
  exact ⟨a, e, by omega⟩
theorem Sz.mul {D E N M : Nat} {r s : Rat} (h1 : Sz D N r) (h2 : Sz E M s) : Sz (D * E) (N * M) (r * s) := by
  obtain ⟨a, rfl, ha⟩ := h1
  obtain ⟨b, rfl, hb⟩ := h2
  refine ⟨a * b, ?_, ?_⟩
  · rw [Rat.divInt_mul_divInt]
    push_cast
    rfl
  · rw [Int.natAbs_mul]
    exact Nat.mul_le_mul ha hb
theorem Sz.zero {D N : Nat} : Sz D N 0 := ⟨0, by rw [Rat.zero_divInt], Nat.zero_le _⟩
theorem Sz.sum {D N : Nat} : ∀ (rs : List Rat) (M : Nat) (r : Rat), Sz D M r → (∀ x ∈ rs, Sz D N x) → Sz D (M + rs.length * N) (rs.foldl (· + ·) r)
  | [], M, r, h, _ => by simpa using h
  | x :: rs, M, r, h, hx => by
    have h1 := Sz.sum rs (M + N) (r + x) (h.add (hx x (List.mem_cons_self ..))) fun y hy => hx y (List.mem_cons_of_mem _ hy)
    refine h1.mono ?_
    rw [List.length_cons, Nat.succ_mul]
    omega
theorem Sz.bd {D N n : Nat} {r : Rat} (h : Sz D N r) (h0 : 0 < D) (h1 : D < 2 ^ n) (h2 : N < 2 ^ n) : Bd n r := by
  obtain ⟨a, rfl, ha⟩ := h
  exact bd_divInt (by omega) (by omega) (by omega)
theorem Sz.of {D a b : Nat} {r : Rat} (h : Sm a b r) (hd : r.den ∣ D) (h0 : 0 < D) : Sz D (a * D) r := by
  obtain ⟨c, hc⟩ := hd
  refine ⟨r.num * (c : Int), ?_, ?_⟩
  · have hc0 : (c : Int) ≠ 0 := by
      intro z
      have : c = 0 := by omega
      subst this
      omega
    rw [hc]
    push_cast
    rw [Rat.divInt_mul_right hc0, Rat.num_divInt_den]
  · rw [Int.natAbs_mul]
    have h1 : (c : Int).natAbs ≤ D := by
      have : c ≤ r.den * c := Nat.le_mul_of_pos_left _ r.den_pos
      omega
    exact Nat.mul_le_mul h.1 h1
/-! ### what is new -/
def Nw (H : Hp) (a : Addr) : Prop := ∀ o, H a = some o → ∃ ps, o = .tbl ps
theorem Nw.of {H : Hp} {a : Addr} (h : H a = none) : Nw H a := fun o e => by
  rw [h] at e
  cases e
theorem Nw.back {H H1 : Hp} {a : Addr} (e : UbG.SameT H H1) (h : Nw H1 a) : Nw H a := fun o g => by
  by_cases ht : ∃ ps, o = .tbl ps
  · exact ht
  · exact h o (e.but _ _ g fun ps z => ht ⟨ps, z⟩)
theorem Nw.backS {S : List Addr} {H H1 : Hp} {a : Addr} (e : SameS S H H1) (l : Ls S H) (h : Nw H1 a) : Nw H a := fun o g => by
  by_cases ht : ∃ ps, o = .tbl ps
  · exact ht
  · by_cases hs : a ∈ S
    · obtain ⟨xs, hx⟩ := e.ls a hs (l a hs)
      obtain ⟨ps, z⟩ := h _ hx
      cases z
    · exact h o (e.but _ _ hs g fun ps z => ht ⟨ps, z⟩)
theorem Nw.ne {H : Hp} {a b : Addr} {xs : List V} (h : Nw H a) (hb : H b = some (.lst xs)) : b ≠ a := fun z => by
  obtain ⟨ps, e⟩ := h _ (z ▸ hb)
  cases e
theorem Nw.notIn {S : List Addr} {H : Hp} {a : Addr} (h : Nw H a) (l : Ls S H) : a ∉ S := fun z => by
  obtain ⟨xs, e⟩ := l a z
  exact h.ne e rfl
theorem late_nw {S : List Addr} {H H' : Hp} {p : Addr} {xs : List V} (e : SameS S H H') (n : Nw H p) (h : ∀ ps, H' p ≠ some (.tbl ps)) (l : Ls S H) : SameS S H (upd H' p (.lst xs)) :=
  ⟨fun b o m g t => by
    have hb : b ≠ p := fun z => by
      obtain ⟨ps, q⟩ := n o (z ▸ g)
      exact t ps q
    rw [upd_ne hb]
    exact e.but b o m g t, fun P g => by
    obtain ⟨qs, g1, t1⟩ := e.tab P g
    exact ⟨qs, by rw [upd_ne (show P ≠ p from fun z => h qs (z ▸ g1))]; exact g1, t1⟩, fun s hs hl => by
    obtain ⟨ys, g⟩ := e.ls s hs hl
    exact ⟨ys, by rw [upd_ne (show s ≠ p from fun z => (n.notIn l) (z ▸ hs))]; exact g⟩⟩
theorem wo_nones {S : List Addr} {H : Hp} (h : ∀ s ∈ S, H s = none) : wo S H = H := by
  funext b
  unfold wo
  by_cases hb : b ∈ S
  · rw [if_pos hb, h b hb]
  · rw [if_neg hb]
theorem SameS.toT {S : List Addr} {H H4 H' : Hp} (e : SameS S H4 H') (s : UbG.SameT H H4) (h : ∀ x ∈ S, Nw H x) : UbG.SameT H H' :=
  ⟨fun b o g t => e.but _ _ (fun z => by
    obtain ⟨ps, q⟩ := h b z o g
    exact t ps q) (s.but _ _ g t) t, fun P g => e.tab P (s.tab P g)⟩
theorem wo_cons {S : List Addr} {H : Hp} {a : Addr} (h : H a = none) : wo (a :: S) H = wo S H := by
  funext b
  unfold wo
  by_cases hb : b ∈ S
  · rw [if_pos hb, if_pos (List.mem_cons_of_mem _ hb)]
  · rw [if_neg hb]
    by_cases e : b = a
    · rw [if_pos (by rw [e]; exact List.mem_cons_self ..), e, h]
    · rw [if_neg (fun z => (List.mem_cons.mp z).elim e hb)]
theorem dpAll_rep {K : PySem.W.Frag} {H : Hp} {v : V} {d : PyData} (h : Dp K H v d) : ∀ n, DpAll K H (List.replicate n v) (List.replicate n d)
  | 0 => .nil
  | n + 1 => .cons h (dpAll_rep h n)
theorem rgV_nat (n : Nat) : rgV 0 (n : Int) = (List.range n).map natV := by
  unfold rgV natV
  simp
theorem rng_at {n i : Nat} {x : V} (h : ((List.range n).map natV)[i]? = some x) : x = .int (i : Nat) ∧ i < n := by
  obtain ⟨t, rfl, e⟩ := natV_at h
  have hi := (List.getElem?_eq_some_iff.mp e).1
  rw [List.length_range] at hi
  rw [List.getElem?_range hi] at e
  cases e
  exact ⟨rfl, hi⟩
theorem rng_len (n : Nat) : ((List.range n).map natV).length = n := by rw [List.length_map, List.length_range]
/-! ### truth of lists, slices -/
theorem truNot {K : PySem.W.Frag} {H : Hp} {p : Addr} {xs : List V} {A B : Prop} (h : SqL K H p xs) (h1 : xs = [] → A) (h2 : xs ≠ [] → B) : ∃ k, TruV K (.ref p) H k ∧ if (!k) = true then A else B := by
  cases xs with
  | nil => exact ⟨false, .inl ⟨_, h, rfl⟩, iteT (h1 rfl)⟩
  | cons x xs => exact ⟨true, .inl ⟨_, h, rfl⟩, iteF (h2 (by simp))⟩
theorem truIf {K : PySem.W.Frag} {H : Hp} {p : Addr} {xs : List V} {A B : Prop} (h : SqL K H p xs) (h1 : xs = [] → B) (h2 : xs ≠ [] → A) : ∃ k, TruV K (.ref p) H k ∧ if k = true then A else B := by
  cases xs with
  | nil => exact ⟨false, .inl ⟨_, h, rfl⟩, iteF (h1 rfl)⟩
  | cons x xs => exact ⟨true, .inl ⟨_, h, rfl⟩, iteT (h2 (by simp))⟩
theorem cut_all {xs : List V} {n : Nat} (h : xs.length ≤ n) : cutV xs none (some (n : Int)) = xs := by
  have e0 : HT.sIx xs.length 0 none = 0 := rfl
  have e1 : HT.sIx xs.length xs.length (some (n : Int)) = xs.length := by
    rw [HT.sIx_nat]
    omega
  unfold cutV
  rw [e0, e1]
  simp
theorem rdSlL {K : PySem.W.Frag} {H : Hp} {Q : VK} {a : Addr} {xs ys : List V} {lo hi : Option Int} (h : SqL K H a xs) (e : cutV xs lo hi = ys) (q : ∀ p, H p = none → Q (.ref p) (upd H p (.lst ys))) : rSlL K (.ref a) lo hi H Q :=
  ⟨a, xs, rfl, h, fun p np => by rw [e]; exact q p np⟩
theorem cut_last {xs : List V} : cutV xs none (some (-1)) = xs.dropLast := by
  have e0 : HT.sIx xs.length 0 none = 0 := rfl
  have e1 : HT.sIx xs.length xs.length (some (-1)) = xs.length - 1 := by
    show (if (-1 : Int) < 0 then ((-1 : Int) + (xs.length : Int)).toNat else min (-1 : Int).toNat xs.length) = xs.length - 1
    rw [if_pos (by decide)]
    omega
  unfold cutV
  rw [e0, e1, List.drop_zero, Nat.sub_zero, List.dropLast_eq_take]
theorem dpAll_take {K : PySem.W.Frag} {H : Hp} : ∀ {xs : List V} {ds : List PyData} (i : Nat), DpAll K H xs ds → DpAll K H (xs.take i) (ds.take i)
  | _, _, 0, _ => .nil
  | _, _, i + 1, .nil => .nil
  | _, _, i + 1, .cons h1 h2 => .cons h1 (dpAll_take i h2)
theorem dpAll_drop {K : PySem.W.Frag} {H : Hp} : ∀ {xs : List V} {ds : List PyData} (i : Nat), DpAll K H xs ds → DpAll K H (xs.drop i) (ds.drop i)
  | _, _, 0, h => h
  | _, _, i + 1, .nil => .nil
  | _, _, i + 1, .cons _ h2 => dpAll_drop i h2
theorem pi_listK {X : Cx} {K : PySem.W.Frag} {tg e : Expr} {te : TE} (h : X.K = K) (he : PE X e te) : PI X tg e (iList K te) := by
  subst h
  exact pi_list he
/-! ### comprehensions and loops, their parts kept -/
def LC (J : It) (g : TG) (tt : TT) (te : TE) (vs : List Nat) (σ : L2.St) (H1 : Hp) (D : Addr) (Qd : Hp → Prop) : Prop := ∃ W : Nat → Nat → Hp → Prop, (∃ m, W 0 m (upd H1 D (.lst []))) ∧ ∀ i m H, W i m H →
  (J.stop i H ∧ Qd H) ∨ (J.go i H ∧ ∃ Nx : Hp → Prop, (∀ H', Nx H' → ∃ m', m' < m ∧ W (i + 1) m' H') ∧ ∀ x H', J.yld i H x H' → g x (wipe σ vs) H' fun σ2 H2 => wipe σ2 vs = wipe σ vs ∧ tt σ2 H2 fun b H3 =>
    if b = true then te σ2 H3 fun y H4 => ∃ acc, H4 D = some (.lst acc) ∧ acc.length < sizeLine ∧ Nx (upd H4 D (.lst (acc ++ [y]))) else Nx H3)
theorem lcOf {wi : TI} {g : TG} {tt : TT} {te : TE} {vs : List Nat} {σ : L2.St} {H : Hp} {Q : VK} (h : wi σ H fun J H1 => ∀ D, H1 D = none → LC J g tt te vs σ H1 D (Q (.ref D))) : tLc wi g tt te vs σ H Q := h
def FL (J : It) (g : TG) (tb : TS) (D : Ends) (σ : L2.St) (H1 : Hp) : Prop := ∃ W : Nat → Nat → L2.St → Hp → Prop, (∃ m, W 0 m σ H1) ∧ ∀ i m σ H, W i m σ H →
  (J.stop i H ∧ D.nx σ H) ∨ (J.go i H ∧ ∃ N : L2.St → Hp → Prop, (∀ σ' H', N σ' H' → ∃ m', m' < m ∧ W (i + 1) m' σ' H') ∧ ∀ x H', J.yld i H x H' → g x σ H' fun σ2 H2 => tb { D with nx := N, ct := N, bk := D.nx } σ2 H2)
theorem forOf {wi : TI} {g : TG} {tb : TS} {D : Ends} {σ : L2.St} {H : Hp} (h : wi σ H fun J H1 => FL J g tb D σ H1) : tFor wi g tb D σ H := h
theorem FL.range {lo : Int} {n : Nat} {g : TG} {tb : TS} {D : Ends} {σ : L2.St} {H : Hp} (Pv : Nat → L2.St → Hp → Prop) (h0 : Pv 0 σ H)
    (hs : ∀ i σ H, i < n → Pv i σ H → g (.int (lo + i)) σ H fun σ2 H2 => tb { D with nx := Pv (i + 1), ct := Pv (i + 1), bk := D.nx } σ2 H2) (hd : ∀ σ H, Pv n σ H → D.nx σ H) : FL (Itr lo n) g tb D σ H := for_range Pv h0 hs hd
theorem FL.list {K : PySem.W.Frag} {a : Addr} {xs : List V} {g : TG} {tb : TS} {D : Ends} {σ : L2.St} {H : Hp} (Pv : Nat → L2.St → Hp → Prop) (h0 : Pv 0 σ H) (hl : ∀ i σ H, i ≤ xs.length → Pv i σ H → SqL K H a xs)
    (hs : ∀ i x σ H, xs[i]? = some x → Pv i σ H → g x σ H fun σ2 H2 => tb { D with nx := Pv (i + 1), ct := Pv (i + 1), bk := D.nx } σ2 H2) (hd : ∀ σ H, Pv xs.length σ H → D.nx σ H) : FL (Itl K a) g tb D σ H := for_list Pv h0 hl hs hd
theorem FL.enum {K : PySem.W.Frag} {a : Addr} {xs : List V} {g : TG} {tb : TS} {D : Ends} {σ : L2.St} {H : Hp} (Pv : Nat → L2.St → Hp → Prop) (h0 : Pv 0 σ H) (hl : ∀ i σ H, Pv i σ H → SqL K H a xs)
    (hs : ∀ i x σ H T, xs[i]? = some x → Pv i σ H → H T = none → g (.ref T) σ (upd H T (.tup [.int (i : Nat), x])) fun σ2 H2 => tb { D with nx := Pv (i + 1), ct := Pv (i + 1), bk := D.nx } σ2 H2) (hd : ∀ σ H, Pv xs.length σ H → D.nx σ H) : FL (Ite K a) g tb D σ H := forEnum Pv h0 hl hs hd
theorem FL.zip {K : PySem.W.Frag} {a b : Addr} {xs ys : List V} {g : TG} {tb : TS} {D : Ends} {σ : L2.St} {H : Hp} (Pv : Nat → L2.St → Hp → Prop) (h0 : Pv 0 σ H) (hl : ∀ i σ H, Pv i σ H → SqL K H a xs ∧ SqL K H b ys)
    (hs : ∀ i x y σ H T, xs[i]? = some x → ys[i]? = some y → Pv i σ H → H T = none → g (.ref T) σ (upd H T (.tup [x, y])) fun σ2 H2 => tb { D with nx := Pv (i + 1), ct := Pv (i + 1), bk := D.nx } σ2 H2) (hd : ∀ σ H, Pv (min xs.length ys.length) σ H → D.nx σ H) : FL (Itz K a b) g tb D σ H := forZip Pv h0 hl hs hd
theorem LC.range {lo : Int} {n : Nat} {g : TG} {tt : TT} {te : TE} {vs : List Nat} {σ : L2.St} {H1 : Hp} {D : Addr} {Qd : Hp → Prop} (Pv : Nat → Hp → Prop) (h0 : Pv 0 (upd H1 D (.lst [])))
    (hs : ∀ i H, i < n → Pv i H → g (.int (lo + i)) (wipe σ vs) H fun σ2 H2 => wipe σ2 vs = wipe σ vs ∧ tt σ2 H2 fun b H3 =>
      if b = true then te σ2 H3 fun y H4 => ∃ acc, H4 D = some (.lst acc) ∧ acc.length < sizeLine ∧ Pv (i + 1) (upd H4 D (.lst (acc ++ [y]))) else Pv (i + 1) H3) (hd : ∀ H, Pv n H → Qd H) : LC (Itr lo n) g tt te vs σ H1 D Qd := lc_range Pv h0 hs hd
theorem LC.list {K : PySem.W.Frag} {a : Addr} {xs : List V} {g : TG} {tt : TT} {te : TE} {vs : List Nat} {σ : L2.St} {H1 : Hp} {D : Addr} {Qd : Hp → Prop} (Pv : Nat → Hp → Prop) (h0 : Pv 0 (upd H1 D (.lst []))) (hl : ∀ i H, i ≤ xs.length → Pv i H → SqL K H a xs)
    (hs : ∀ i x H, xs[i]? = some x → Pv i H → g x (wipe σ vs) H fun σ2 H2 => wipe σ2 vs = wipe σ vs ∧ tt σ2 H2 fun b H3 =>
      if b = true then te σ2 H3 fun y H4 => ∃ acc, H4 D = some (.lst acc) ∧ acc.length < sizeLine ∧ Pv (i + 1) (upd H4 D (.lst (acc ++ [y]))) else Pv (i + 1) H3) (hd : ∀ H, Pv xs.length H → Qd H) : LC (Itl K a) g tt te vs σ H1 D Qd := lc_list Pv h0 hl hs hd
theorem LC.zip {K : PySem.W.Frag} {a b : Addr} {xs ys : List V} {g : TG} {tt : TT} {te : TE} {vs : List Nat} {σ : L2.St} {H1 : Hp} {D : Addr} {Qd : Hp → Prop} (Pv : Nat → Hp → Prop) (h0 : Pv 0 (upd H1 D (.lst []))) (hl : ∀ i H, Pv i H → SqL K H a xs ∧ SqL K H b ys)
    (hs : ∀ i x y T H, xs[i]? = some x → ys[i]? = some y → H T = none → Pv i H → g (.ref T) (wipe σ vs) (upd H T (.tup [x, y])) fun σ2 H2 => wipe σ2 vs = wipe σ vs ∧ tt σ2 H2 fun b H3 =>
      if b = true then te σ2 H3 fun y H4 => ∃ acc, H4 D = some (.lst acc) ∧ acc.length < sizeLine ∧ Pv (i + 1) (upd H4 D (.lst (acc ++ [y]))) else Pv (i + 1) H3) (hd : ∀ H, Pv (min xs.length ys.length) H → Qd H) : LC (Itz K a b) g tt te vs σ H1 D Qd := by
  refine ⟨fun i m H => m = min xs.length ys.length - i ∧ i ≤ min xs.length ys.length ∧ Pv i H, ⟨_, rfl, Nat.zero_le _, h0⟩, ?_⟩
  rintro i m H ⟨rfl, hi, p⟩
  obtain ⟨q1, q2⟩ := hl i H p
  by_cases hlt : i < min xs.length ys.length
  · have l1 : i < xs.length := by omega
    have l2 : i < ys.length := by omega
    refine .inr ⟨⟨xs, ys, xs[i], ys[i], q1, q2, List.getElem?_eq_getElem l1, List.getElem?_eq_getElem l2⟩, Pv (i + 1), fun H' p' => ⟨_, ?_, rfl, hlt, p'⟩, fun x H' yl => ?_⟩
    · omega
    · obtain ⟨T, x1, y1, rfl, nT, rfl, f1, f2⟩ := yl
      exact hs i x1 y1 T H (f1 _ q1) (f2 _ q2) nT p
  · have e : i = min xs.length ys.length := by omega
    refine .inl ⟨⟨xs, ys, q1, q2, by omega⟩, hd H (e ▸ p)⟩
end UbR

/-! Menus: lists of lists of fractions, gains, honest payments. -/
namespace UbR
open PySem PySem.Spec PyProof.Rows L2 UbM Ub
def rowD (r : List Rat) : PyData := .list (r.map frD)
def mD (W : List (List Rat)) : List PyData := W.map rowD
theorem mD_len (W : List (List Rat)) : (mD W).length = W.length := List.length_map ..
theorem mD_at {W : List (List Rat)} {i : Nat} {r : List Rat} (h : W[i]? = some r) : (mD W)[i]? = some (rowD r) := by
  unfold mD
  rw [List.getElem?_map, h]
  rfl
/-- W and L fit together: kinds, o outcomes -/
structure Men (W L : List (List Rat)) (o : Nat) : Prop where
  len : L.length = W.length
  pos : 1 ≤ W.length
  most : W.length ≤ 4
  op : 1 ≤ o
  om : o ≤ 3
  w : ∀ r ∈ W, r.length = o
  l : ∀ r ∈ L, r.length = o
  wb : ∀ r ∈ W, ∀ x ∈ r, Sm 100 30 x
  lb : ∀ r ∈ L, ∀ x ∈ r, Sm 3 3 x
theorem LL.len {K : PySem.W.Frag} {H : Hp} {a : Addr} {xs : List V} {ds : List PyData} (h : DpAll K H xs ds) : xs.length = ds.length := dpAll_len h
theorem rowAt {K : PySem.W.Frag} {H : Hp} {xs : List V} {W : List (List Rat)} {i : Nat} (h : DpAll K H xs (mD W)) (hi : i < W.length) : ∃ v, xs[i]? = some v ∧ Frs K H v W[i] := by
  obtain ⟨v, h1, h2⟩ := LL.at.go (i := i) h (mD_at (List.getElem?_eq_getElem hi))
  exact ⟨v, h1, h2⟩
/-- the gain of kind k from the lot of kind j -/
def gainR (W L : List (List Rat)) (k j : Nat) : Rat := dotR (W.getD k []) (L.getD j []) - dotR (W.getD k []) (L.getD k [])
theorem getD_at {W : List (List Rat)} {i : Nat} (h : i < W.length) : W.getD i [] = W[i] := by
  rw [List.getD_eq_getElem?_getD, List.getElem?_eq_getElem h]
  rfl
theorem Men.wB {W L : List (List Rat)} {o : Nat} (M : Men W L o) {i : Nat} (h : i < W.length) : ∀ r ∈ W[i], Bd 7 r := fun r hr => (M.wb _ (List.getElem_mem h) r hr).bd (by decide) (by decide)
theorem Men.lB {W L : List (List Rat)} {o : Nat} (M : Men W L o) {i : Nat} (h : i < L.length) : ∀ r ∈ L[i], Bd 7 r := fun r hr => (M.lb _ (List.getElem_mem h) r hr).bd (by decide) (by decide)
theorem bd_dot {W L : List (List Rat)} {o k j : Nat} (M : Men W L o) (hk : k < W.length) (hj : j < L.length) : Bd 60 (dotR W[k] L[j]) := by
  have h := bd_sumR (bd_zip (M.wB hk) (M.lB hj))
  refine h.mono ?_
  have h1 := M.w _ (List.getElem_mem hk)
  have h2 := M.om
  have h3 : (List.zipWith (· * ·) W[k] L[j]).length ≤ 3 := by
    rw [List.length_zipWith]
    omega
  have := Nat.mul_le_mul_right (7 + 7 + 1) h3
  omega
/-- the gain of a cycle -/
def cycR (W L : List (List Rat)) (cs : List Nat) : Rat := sumR (List.zipWith (gainR W L) cs (cs.drop 1 ++ cs.take 1))
theorem cut_from {xs : List V} {n : Nat} : cutV xs (some (n : Int)) none = xs.drop n := by
  have e0 : HT.sIx xs.length 0 (some (n : Int)) = min n xs.length := HT.sIx_nat ..
  have e1 : HT.sIx xs.length xs.length none = xs.length := rfl
  unfold cutV
  rw [e0, e1]
  by_cases h : n ≤ xs.length
  · rw [Nat.min_eq_left h, List.take_of_length_le (by rw [List.length_drop]; exact Nat.le_refl _)]
  · rw [Nat.min_eq_right (by omega), List.drop_of_length_le (Nat.le_refl _), List.drop_of_length_le (by omega)]
    simp
theorem cut_to {xs : List V} {n : Nat} : cutV xs none (some (n : Int)) = xs.take n := by
  have e0 : HT.sIx xs.length 0 none = 0 := rfl
  have e1 : HT.sIx xs.length xs.length (some (n : Int)) = min n xs.length := HT.sIx_nat ..
  unfold cutV
  rw [e0, e1, List.drop_zero, Nat.sub_zero]
  by_cases h : n ≤ xs.length
  · rw [Nat.min_eq_left h]
  · rw [Nat.min_eq_right (by omega), List.take_of_length_le (Nat.le_refl _), List.take_of_length_le (by omega)]
/-- honest payments -/
def HonP (W L : List (List Rat)) (ps : List Rat) : Prop := ps.length = W.length ∧ ps.getD 0 1 = 0 ∧ ∀ k, k < W.length → ∀ j, j < W.length → gainR W L k j ≤ ps.getD j 0 - ps.getD k 0
theorem bd_gain {W L : List (List Rat)} {o k j : Nat} (M : Men W L o) (hk : k < W.length) (hj : j < W.length) : Bd 121 (gainR W L k j) := by
  have m2 := M.len
  unfold gainR
  rw [getD_at hk, getD_at (show j < L.length by omega), getD_at (show k < L.length by omega)]
  exact bd_sub (bd_dot M hk (by omega)) (bd_dot M hk (by omega))
theorem getR_at {ps : List Rat} {i : Nat} {d : Rat} (h : i < ps.length) : ps.getD i d = ps[i] := by
  rw [List.getD_eq_getElem?_getD, List.getElem?_eq_getElem h]
  rfl
theorem frAt {K : PySem.W.Frag} {H : Hp} {xs : List V} {ps : List Rat} {i : Nat} (h : DpAll K H xs (ps.map frD)) (hi : i < ps.length) : ∃ v, xs[i]? = some v ∧ Fr K H v ps[i] := frs_get (xs := []) h (List.getElem?_eq_getElem hi)
theorem cmp_gt {r s : Rat} : 0 < cmpR r s ↔ s < r := by
  rcases cmpR_cases r s with ⟨h, e⟩ | ⟨h, e⟩ | ⟨h, e⟩ <;> rw [e]
  · exact ⟨fun z => absurd z (by decide), fun z => absurd (Rat.le_of_lt h) (Rat.not_le.mpr z)⟩
  · exact ⟨fun z => absurd z (by decide), fun z => absurd z (by rw [h]; exact Rat.lt_irrefl)⟩
  · exact ⟨fun _ => h, fun _ => by decide⟩
theorem frsLen (rs : List Rat) : (rs.map frD).length = rs.length := List.length_map ..
theorem frsAt {rs : List Rat} {i : Nat} {r : Rat} (h : rs[i]? = some r) : (rs.map frD)[i]? = some (frD r) := by
  rw [List.getElem?_map, h]
  rfl
theorem mem_set {α : Type} {l : List α} {i : Nat} {x y : α} {P : α → Prop} (h : ∀ z ∈ l, P z) (hx : P x) (hy : y ∈ l.set i x) : P y := by
  rcases List.mem_or_eq_of_mem_set hy with e | e
  · exact h _ e
  · rw [e]
    exact hx
/-- one denominator for all gains of a menu, and a bound of their numerators -/
abbrev d30 : Nat := 2329089562800
theorem dvd30 : ∀ d : Nat, d ≤ 30 → 0 < d → d ∣ d30 := by decide
theorem dvd6 : ∀ d : Nat, d ≤ 3 → 0 < d → d ∣ 6 := by decide
abbrev dG : Nat := d30 * 6
abbrev nG : Nat := 6 * ((100 * d30) * (3 * 6))
theorem sz_dot {W L : List (List Rat)} {o k j : Nat} (M : Men W L o) (hk : k < W.length) (hj : j < L.length) : Sz dG (3 * ((100 * d30) * (3 * 6))) (dotR W[k] L[j]) := by
  have h3 : (List.zipWith (· * ·) W[k] L[j]).length ≤ 3 := by
    rw [List.length_zipWith]
    have h1 := M.w _ (List.getElem_mem hk)
    have h2 := M.om
    omega
  have h := Sz.sum (D := dG) (N := (100 * d30) * (3 * 6)) (List.zipWith (· * ·) W[k] L[j]) 0 0 Sz.zero fun x hx => by
    obtain ⟨i, hi, e⟩ := List.getElem_of_mem hx
    rw [List.getElem_zipWith] at e
    rw [← e]
    have a1 := M.wb _ (List.getElem_mem hk) _ (List.getElem_mem (l := W[k]) (n := i) (by rw [List.length_zipWith] at hi; omega))
    have a2 := M.lb _ (List.getElem_mem hj) _ (List.getElem_mem (l := L[j]) (n := i) (by rw [List.length_zipWith] at hi; omega))
    exact (Sz.of a1 (dvd30 _ a1.2 (Rat.den_pos _)) (by decide)).mul (Sz.of a2 (dvd6 _ a2.2 (Rat.den_pos _)) (by decide))
  refine Sz.mono h ?_
  have := Nat.mul_le_mul_right ((100 * d30) * (3 * 6)) h3
  omega
theorem sz_gain {W L : List (List Rat)} {o k j : Nat} (M : Men W L o) (hk : k < W.length) (hj : j < W.length) : Sz dG nG (gainR W L k j) := by
  have m2 := M.len
  unfold gainR
  rw [getD_at hk, getD_at (show j < L.length by omega), getD_at (show k < L.length by omega)]
  exact ((sz_dot M hk (by omega)).sub (sz_dot M hk (by omega))).mono (by decide)
/-- all gains of a menu -/
def gains (W L : List (List Rat)) : List (List Rat) := (List.range W.length).map fun k => (List.range W.length).map fun j => gainR W L k j
def bG : Nat := nG + 4 * (4 * 4 * nG)
theorem mem_gains {W L : List (List Rat)} {row : List Rat} (h : row ∈ gains W L) : ∃ k, k < W.length ∧ row = (List.range W.length).map fun j => gainR W L k j := by
  obtain ⟨k, hk, e⟩ := List.mem_map.mp h
  exact ⟨k, List.mem_range.mp hk, e.symm⟩
theorem range_at {n i : Nat} (h : i < n) : (List.range n)[i]? = some i := by
  rw [List.getElem?_range h]
theorem take_range {α : Type} (f : Nat → α) {n i : Nat} (h : i < n) : ((List.range n).map f).take (i + 1) = ((List.range n).map f).take i ++ [f i] := by
  rw [List.take_add_one, List.getElem?_map, range_at h]
  rfl
theorem sub1 {a d : Addr} : ∀ s ∈ [d], s ∈ [a, d] := fun s hs => List.mem_cons_of_mem _ hs
theorem ls2 {H : Hp} {a d : Addr} (h1 : ∃ xs, H a = some (.lst xs)) (h2 : Ints H d) : Ls [a, d] H := fun s hs => by
  rcases List.mem_cons.mp hs with e | e
  · rw [e]
    exact h1
  · rw [List.mem_singleton.mp e]
    exact h2.ls d (List.mem_singleton.mpr rfl)
theorem ne1 {H : Hp} {a d : Addr} (h : Ints H d) (n : Nw H a) : a ∉ [d] := fun z => by
  obtain ⟨ns, e⟩ := h
  exact n.ne e (List.mem_singleton.mp z).symm
/-- the payments as they grow at p -/
structure DrI (K : PySem.W.Frag) (H : Hp) (d : Addr) (H' : Hp) (p : Addr) (rs : List Rat) : Prop where
  s : SameS [d] H H'
  i : Ints H' d
  n : Nw H p
  c : Cel K [p, d] H' p (rs.map frD)
  b : ∀ r ∈ rs, Sm 100 30 r
theorem DrI.ls {K : PySem.W.Frag} {H H' : Hp} {d p : Addr} {rs : List Rat} (h : DrI K H d H' p rs) : Ls [p, d] H' := fun s hs => by
  rcases List.mem_cons.mp hs with e | e
  · rw [e]
    exact h.c.ls
  · rw [e |> List.mem_singleton.mp]
    exact h.i.ls d (List.mem_singleton.mpr rfl)
theorem DrI.ne {K : PySem.W.Frag} {H H' : Hp} {d p : Addr} {rs : List Rat} (h : DrI K H d H' p rs) (h0 : Ints H d) : d ≠ p := by
  obtain ⟨ns, e⟩ := h0
  exact h.n.ne e
theorem DrI.mono {K : PySem.W.Frag} {H H' H2 : Hp} {d p : Addr} {rs : List Rat} (h : DrI K H d H' p rs) (h0 : Ints H d) (e : SameS [d] H' H2) (i : Ints H2 d) : DrI K H d H2 p rs :=
  ⟨h.s.trans e, i, h.n, h.c.monoS e (fun s hs => List.mem_cons_of_mem _ hs) (fun z => h.ne h0 (List.mem_singleton.mp z).symm), h.b⟩
theorem DrI.push {K : PySem.W.Frag} {H H' : Hp} {d p : Addr} {rs : List Rat} {v : V} {r : Rat} {Q : VK} (h : DrI K H d H' p rs) (h0 : Ints H d) (hz : rs.length ≤ 5000) (hv : Fr K H' v r) (hb : Sm 100 30 r) (q : ∀ H2, DrI K H d H2 p (rs ++ [r]) → Q .non H2) : rAppend (.ref p) [v] H' Q := by
  obtain ⟨ys, hy⟩ := h.c.ls
  refine h.c.app (d := frD r) (List.mem_cons_self ..) (by rw [frsLen]; exact hz) (Kp.fr h.ls hv) fun acc ha hC => q _ ⟨late_nw h.s h.n (notTbl hy) h0.ls, h.i.stay (h.ne h0), h.n, ?_, fun x hx => ?_⟩
  · rw [List.map_append]
    exact hC
  · rcases List.mem_append.mp hx with e | e
    · exact h.b x e
    · rw [List.mem_singleton.mp e]
      exact hb
end UbR

namespace UbC
open PySem PySem.Spec PyProof.Rows L2 Ub UbM
/-! ### own exceptions with their own __init__ -/
/-- the base of own errors: B.__init__ is ValueError's -/
def baseB (K : PySem.W.Frag) (B : Addr) : Bool :=
  decide (PySem.W.specialIn K (.ref B) "__getattribute__" = some (some (.builtin "type.__getattribute__"))) && (PySem.W.readsIn K B (.type "type") && (match PySem.W.findCls K (.ref B) (.type "type") "__init__" with
    | some (.val (.builtin n)) => decide (n = "ValueError.__init__")
    | _ => false))
structure BaseC (K : PySem.W.Frag) (B : Addr) : Prop where
  ga : PySem.W.specialIn K (.ref B) "__getattribute__" = some (some (.builtin "type.__getattribute__"))
  rd : PySem.W.readsIn K B (.type "type") = true
  fi : PySem.W.findCls K (.ref B) (.type "type") "__init__" = some (.val (.builtin "ValueError.__init__"))
theorem baseB_ok {K : PySem.W.Frag} {B : Addr} (h : baseB K B = true) : BaseC K B := by
  unfold baseB at h
  obtain ⟨h1, h⟩ := He.ba h
  obtain ⟨h2, h3⟩ := He.ba h
  refine ⟨of_decide_eq_true h1, h2, ?_⟩
  split at h3
  · rename_i n e
    have en : n = "ValueError.__init__" := of_decide_eq_true h3
    rw [e, en]
  · cases h3
section
variable {X : Cx} {e : Expr} {es : List Expr} {ta : TA} {x : Str} {p1 p2 pos : Pos} {B : Addr}
/-- B.__init__(self, ..) -/
theorem pe_binit {pl : Sem Bool} (T : BaseC X.K B) (hg : Gl X x) (hm : X.mg x = some (.ref B)) (ha : PA X (e :: es) ta) (hdb : (x == ("__debug__" : Str)) = false := by decide)
    (hc : eval (.Call (.Attribute (.Name x p1) "__init__" p2) (e :: es) [] pos) X.env = (do
      let ov ← eval (.Name x p1) X.env
      standAt p2.atName
      let (f, first) ← holding [ov] (getMethod ov "__init__" pl)
      callWith pos f first (backTo pos (starEach (e :: es) X.env)) (backToKw pos (keywordEach [] X.env))) := by rfl)
    (he : starEach (e :: es) X.env = (false, eval e X.env) :: starEach es X.env := by rfl) (hpl : (backTo pos (starEach es X.env)).any (·.1) = false := by rfl) :
    PE X (.Call (.Attribute (.Name x p1) "__init__" p2) (e :: es) [] pos) (tVeI X.K ta) := by
  refine ⟨fun pins s σ H Q I h => ?_⟩
  refine PySem.W.methodCall_KW (ld_glob I hg hm ?_ hdb) hc
  refine PySem.W.method_cls I.kIn T.ga (PySem.W.cls_value I.kIn T.rd T.fi (by decide +kernel) ?_)
  show wpAny _ _ (callWith pos (Value.builtin "ValueError.__init__") [] (backTo pos (starEach (e :: es) X.env)) []) _ _ _
  refine PyProof.Rows.callWith_method1 (thn (ha.run pos pins _ σ H _ (I.tok _) h) fun us s1 ⟨vs, H1, I1, r1, a, C, ws, ev, hl, T', ea, q⟩ => ?_) he hpl
  subst ev
  cases r1 with
  | @cons _ u0 _ ur ra rw' =>
    obtain rfl : u0 = Value.ref a := ra
    have hlen : ur.length ≤ sizeLine := by
      rw [← Paired.length rw', sizeLine_eq]
      omega
    exact oinit_ok T' I1 ea hlen fun s' J => ⟨.non, H1, J, rfl, q⟩
end
/-- the class object of an own exception -/
def oexB (K : PySem.W.Frag) (C : Addr) : Bool := (match K.lookup C with
  | some ⟨.type "type", _, .cls cd, sl⟩ => (match cd.mro, sl.toList with
    | .ref C' :: bm, [_, _, _, _, some (.builtin n), _] => decide (C' = C) && (decide (n = "ValueError.__new__") && (!cd.hasDel && (cd.hasDict && PySem.HandSPX.refsVE bm)))
    | _, _ => false)
  | _ => false) && (He.eqO (PySem.W.findIn K (.ref C) "__setattr__") (some (some (.builtin "object.__setattr__"))) && (decide (PySem.W.subIn K (.ref C) (.type "BaseException") = some true) && (decide (PySem.W.typeIn K (.ref C) = some (.type "type")) && (PySem.W.keepIn K (.ref C) &&
   (He.eqO (PySem.W.findIn K (.ref C) "__init__") (some (some (.ref (He.ma K C "__init__")))) && decide (PySem.W.typeIn K (.ref (He.ma K C "__init__")) = some (.type "function")))))))
/-- an own exception class with its own __init__ -/
structure OexI (K : PySem.W.Frag) (C : Addr) : Prop where
  oex : OexC K C
  ini : PySem.W.findIn K (.ref C) "__init__" = some (some (.ref (He.ma K C "__init__")))
  ty : PySem.W.typeIn K (.ref (He.ma K C "__init__")) = some (.type "function")
theorem oexB_ok {K : PySem.W.Frag} {C : Addr} (h : oexB K C = true) : OexI K C := by
  unfold oexB at h
  obtain ⟨q, h⟩ := He.ba h
  obtain ⟨h2, h⟩ := He.ba h
  obtain ⟨h3, h⟩ := He.ba h
  obtain ⟨h4, h⟩ := He.ba h
  obtain ⟨h5, h⟩ := He.ba h
  obtain ⟨h6, h7⟩ := He.ba h
  refine ⟨⟨?_, He.eqO_ok h2, of_decide_eq_true h3, of_decide_eq_true h4, h5⟩, He.eqO_ok h6, of_decide_eq_true h7⟩
  split at q
  · rename_i dd cd sl ho
    split at q
    · rename_i C' bm k0 k1 k2 k3 n k5 hm hs
      obtain ⟨q1, q⟩ := He.ba q
      obtain ⟨q2, q⟩ := He.ba q
      obtain ⟨q3, q⟩ := He.ba q
      obtain ⟨q4, q5⟩ := He.ba q
      have e1 := of_decide_eq_true q1
      have e2 := of_decide_eq_true q2
      subst e1 e2
      obtain ⟨nm, bs, mro, ns, qn, hd, sn, sub, ab, col, del⟩ := cd
      dsimp only at hm q3 q4
      have q3' : del = false := by
        cases del
        · rfl
        · cases q3
      subst hm q3' q4
      have hsl : sl = #[k0, k1, k2, k3, some (.builtin "ValueError.__new__"), k5] := by
        obtain ⟨l⟩ := sl
        simp only at hs
        rw [hs]
      subst hsl
      exact ⟨nm, qn, ns, bs, bm, sn, sub, ab, col, dd, k0, k1, k2, k3, k5, ho, q5⟩
    · cases q
  · cases q
/-- what such an __init__ leaves: the fields fl of the values, in the instance's dict -/
def spEI (C : Addr) (fl : List V → List (Str × V)) (ok : List V → Prop) : Sp := fun vs H Q _ => ∃ (a : Addr) (us : List V), vs = .ref a :: us ∧ ok us ∧ H a = some (exo a C none) ∧ ∀ d, H d = none → d ≠ a → Q .non (upd (upd H d (exd d (fl us))) a (exo a C (some d)))
/-- a text of at most 1000 signs -/
def okT : List V → Prop := fun us => ∃ y : Str, us = [.str y] ∧ y.length ≤ 1000
def fl1 (f : Str) : List V → List (Str × V) := fun us => us.map fun v => (f, v)
theorem okT_len {us : List V} (h : okT us) : us.length = 1 := by
  obtain ⟨y, rfl, _⟩ := h
  rfl
theorem rdMkO {C : Addr} {fl : List V → List (Str × V)} {ok : List V → Prop} {us : List V} {H1 : Hp} {Q : XK} (hl : us.length ≤ 1000) (hk : ok us) (q : ∀ d, H1 d = none → Q (.ref C) (some d) (upd H1 d (.xd (fl us)))) :
    us.length ≤ 1000 ∧ ∀ a, H1 a = none → spEI C fl ok (.ref a :: (us ++ [])) (upd H1 a (exo a C none)) (fun v H2 => v = .non ∧ ∃ (d : Addr) (fs : List (Str × V)), H2 a = some (exo a C (some d)) ∧ H2 d = some (exd d fs) ∧ H1 d = none ∧ Q (.ref C) (some d) (upd (del H2 a) d (.xd fs))) (fun _ _ _ => False) := by
  refine ⟨hl, fun a na => ⟨a, us, by rw [List.append_nil], hk, upd_same, fun d nd hda => ?_⟩⟩
  have hd : H1 d = none := by
    rw [upd_ne hda] at nd
    exact nd
  refine ⟨rfl, d, fl us, upd_same, ?_, hd, ?_⟩
  · rw [upd_ne hda, upd_same]
  have e : upd (del (upd (upd (upd H1 a (exo a C none)) d (exd d (fl us))) a (exo a C (some d))) a) d (.xd (fl us)) = upd H1 d (.xd (fl us)) := by
    funext b
    by_cases hb : b = d
    · rw [hb, upd_same, upd_same]
    · rw [upd_ne hb, upd_ne hb]
      by_cases ha : b = a
      · rw [ha, del_same, na]
      · rw [del_ne ha, upd_ne ha, upd_ne hb, upd_ne ha]
  rw [e]
  exact q d hd
theorem flen {p y : Str} (hp : p.length ≤ 1000) (hy : y.length ≤ 1000) : (Str.empty ++ p ++ y).length ≤ sizeLine := by
  have e : (Str.empty ++ p ++ y).length = p.length + y.length := by rw [Str.length_append, Str.length_append, show Str.empty.length = 0 from rfl, Nat.zero_add]
  rw [e, sizeLine_eq]
  omega
theorem flen0 {p : Str} (hp : p.length ≤ 1000) : (Str.empty ++ p).length ≤ sizeLine := by
  have e : (Str.empty ++ p).length = p.length := by rw [Str.length_append, show Str.empty.length = 0 from rfl, Nat.zero_add]
  rw [e, sizeLine_eq]
  omega
theorem cutF {xs : List V} {n : Nat} : cutV xs (some (n : Int)) none = xs.drop n := by
  have e0 : HT.sIx xs.length 0 (some (n : Int)) = min n xs.length := HT.sIx_nat ..
  have e1 : HT.sIx xs.length xs.length none = xs.length := rfl
  unfold cutV
  rw [e0, e1]
  by_cases h : n ≤ xs.length
  · rw [Nat.min_eq_left h, List.take_of_length_le (by rw [List.length_drop]; exact Nat.le_refl _)]
  · rw [Nat.min_eq_right (by omega), List.drop_of_length_le (Nat.le_refl _), List.drop_of_length_le (by omega)]
    simp
theorem cutT {xs : List V} {n : Nat} : cutV xs none (some (n : Int)) = xs.take n := by
  have e0 : HT.sIx xs.length 0 none = 0 := rfl
  have e1 : HT.sIx xs.length xs.length (some (n : Int)) = min n xs.length := HT.sIx_nat ..
  unfold cutV
  rw [e0, e1, List.drop_zero, Nat.sub_zero]
  by_cases h : n ≤ xs.length
  · rw [Nat.min_eq_left h]
  · rw [Nat.min_eq_right (by omega), List.take_of_length_le (Nat.le_refl _), List.take_of_length_le (by omega)]
theorem rdRaise {C : Addr} {f z : Str} {σ : L2.St} {H : Hp} {Q : XK} (hz : z.length ≤ 1000) (q : ∀ d H', Same H H' → Q (.ref C) (some d) H') : tMkO C (spEI C (fl1 f) okT) [] (tCons (tC (.str z)) tNil) σ H Q :=
  rdMkO (Nat.le_of_ble_eq_true rfl) ⟨z, rfl, hz⟩ fun d nd => q d _ (sameNew nd)
theorem cmpGe {r s : Rat} : 0 ≤ cmpR r s ↔ s ≤ r := by
  rcases cmpR_cases r s with ⟨h, e⟩ | ⟨h, e⟩ | ⟨h, e⟩ <;> rw [e]
  · exact ⟨fun z => absurd z (by decide), fun z => absurd h (Rat.not_lt.mpr z)⟩
  · exact ⟨fun _ => by rw [h]; exact Rat.le_refl, fun _ => by decide⟩
  · exact ⟨fun _ => Rat.le_of_lt h, fun _ => by decide⟩
theorem cmpLe {r s : Rat} : cmpR r s ≤ 0 ↔ r ≤ s := by
  rcases cmpR_cases r s with ⟨h, e⟩ | ⟨h, e⟩ | ⟨h, e⟩ <;> rw [e]
  · exact ⟨fun _ => Rat.le_of_lt h, fun _ => by decide⟩
  · exact ⟨fun _ => by rw [h]; exact Rat.le_refl, fun _ => by decide⟩
  · exact ⟨fun z => absurd z (by decide), fun z => absurd h (Rat.not_lt.mpr z)⟩
theorem cmpGt {r s : Rat} : 0 < cmpR r s ↔ s < r := by
  rcases cmpR_cases r s with ⟨h, e⟩ | ⟨h, e⟩ | ⟨h, e⟩ <;> rw [e]
  · exact ⟨fun z => absurd z (by decide), fun z => absurd (Rat.le_of_lt h) (Rat.not_le.mpr z)⟩
  · exact ⟨fun z => absurd z (by decide), fun z => absurd z (by rw [h]; exact Rat.lt_irrefl)⟩
  · exact ⟨fun _ => h, fun _ => by decide⟩
theorem cmpLt {r s : Rat} : cmpR r s < 0 ↔ r < s := by
  rw [← Int.not_le, cmpGe, Rat.not_le]
/-- at the name x stands an own exception class whose __init__ keeps sp -/
structure CalX (P : Program) (w : World) (K : PySem.W.Frag) (mg : Str → Option Value) (base : Heap) (x : Str) (k : Nat) (sp : Sp) : Prop where
  oex : OexI K (He.ga K x)
  gC : mg x = some (.ref (He.ga K x))
  ini : ∃ (fd : FuncData) (ps : List Str), FnOk P w K mg base (L2.CX P w) k (He.ma K (He.ga K x) "__init__") fd ps sp ∧ Binds K fd ps []
section
variable {X : Cx} {W : WX} {x : Str} {k j : Nat} {sp : Sp} {e : Expr} {es : List Expr} {ta : TA} {p pos pos2 : Pos}
/-- raise X(e, ..) -/
theorem ps_raiseC (hc : X.calm = true) (tk : Takes X W) (C : CalX X.prog X.w X.K X.mg X.base x k sp) (hr : Room j X.A) (hj : k + 1 ≤ j) (hg : Gl X x) (ha : PA X (e :: es) ta) (hdb : (x == ("__debug__" : Str)) = false := by decide)
    (he : starEach (e :: es) X.env = (false, eval e X.env) :: starEach es X.env := by rfl) (hpl : (backTo pos (starEach es X.env)).any (·.1) = false := by rfl) :
    PS X (.Raise (some (.Call (.Name x p) (e :: es) [] pos)) none pos2) (fun _ σ H => tMkO (He.ga X.K x) sp [] ta σ H fun cls d H' => W cls d σ H') := by
  obtain ⟨fd, ps, F, hb⟩ := C.ini
  exact ps_raise hc tk (pmk_oex C.oex.oex C.oex.ini C.oex.ty F (hr.mono hj) hb .nil (passes_call tk fun _ _ _ _ h => h.elim) hg C.gC ha hdb he hpl)
end
/-! ### instances -/
section
variable {K : PySem.W.Frag} {x qual : Str} {params : Arguments} {body : List Stmt} {scope : Scope} {kws : List (Str × V)} {f : Addr} {fd : FuncData} {ps : List Str}
/-- m(e, .., k = v, ..), no defaults at all -/
theorem FunD_kbindsN (F : FunD K x qual params body scope [] kws f fd) (n : Nat) (ks : List Str)
    (h : ∀ (kV doc pm : Value) (an : Option Addr) (cdv ct : Value) (us ws : List Value), us.length = n → ws.length = ks.length → bindArgs (PySem.W.fnOf x qual params body scope .none kV doc pm an cdv ct) ⟨us, ks.zip ws⟩ = pure (ps.zip (us ++ ws))) :
    KBn K fd ps n ks (fun us ws => us ++ ws) (fun vs zs => vs ++ zs) := by
  obtain ⟨oc, od, dV, kV, doc, pm, an, cdv, ct, osl, rfl, lk, hcd, hD, hK⟩ := F.ex
  rcases hD with ⟨_, rfl⟩ | ⟨e, _⟩
  · exact ⟨fun s us ws X l1 l2 => .of_eq (h kV doc pm an cdv ct us ws l1 l2), fun r1 r2 => r1.append r2⟩
  · exact absurd rfl e
end
/-- in a try: C(e, .., k = v, ..) -/
def tMakeNS (C : Addr) (n m : Nat) (sp : Sp) (gV : List V → List V → List V) (E : L2.St → XK) (t tk : TA) : TE := fun σ H Q => t σ H fun vs H1 => tk σ H1 fun zs H2 => vs.length = n ∧ zs.length = m ∧
  ∀ x dx, H2 x = none → H2 dx = none → dx ≠ x → sp (gV (.ref x :: vs) zs) (upd (upd H2 dx (.own x)) x (.ins C dx [])) (fun v H3 => v = .non ∧ Q (.ref x) H3) (E σ)
section
variable {X : Cx} {CX : CXT} {k n : Nat} {f C : Addr} {fd : FuncData} {ps ks : List Str} {sp : Sp} {E : L2.St → XK} {x m : Str} {p pos apos : Pos} {e o : Expr} {es : List Expr} {kws : List Keyword} {to : TE} {t tk : TA} {g : List Value → List Value → List Value} {gV : List V → List V → List V} {ds : List Value} {dvs : List V}
theorem run_makeNS {pins : List (Addr × Obj)} {σ : L2.St} {H : Hp} {s : Shared} {Q : VK} {us ws : List Value} {vs zs : List V} (M : Mk X.K C f) (F : FnOk X.prog X.w X.K X.mg X.base CX k f fd ps sp) (hr : Room (k + 1) X.A) (hb : KBn X.K fd ps (n + 1) ks g gV)
    (hx : PassesAt CX X σ (E σ)) (I : Inv X pins σ H s) (r : Vals vs us) (rz : Vals zs ws) (l1 : vs.length = n) (l2 : zs.length = ks.length)
    (h : ∀ x dx, H x = none → H dx = none → dx ≠ x → sp (gV (.ref x :: vs) zs) (upd (upd H dx (.own x)) x (.ins C dx [])) (fun v H2 => v = .non ∧ Q (.ref x) H2) (E σ)) :
    wpAny (model X.prog X.w) X.A (call (.ref C) us (ks.zip ws)) (EP X pins σ Q) X.xe s := by
  have hq := h (s.heap.objs.size + 1) s.heap.objs.size (I.hok.fresh (Nat.le_succ _)) (I.hok.fresh (Nat.le_refl _)) (Nat.ne_of_lt (Nat.lt_succ_self _))
  have I2 := Inv.made (C := C) I
  have r1 : Vals (V.ref (s.heap.objs.size + 1) :: vs) (Value.ref (s.heap.objs.size + 1) :: us) := .cons rfl r
  have r2 := hb.rel r1 rz
  have e1 : (Value.ref (s.heap.objs.size + 1) :: us).length = n + 1 := r1.length.symm.trans (congrArg Nat.succ l1)
  have e2 : ws.length = ks.length := rz.length.symm.trans l2
  refine wpAny_call (make_map (f := f) I.kIn M.makes M.init (beq_iff_eq.mp M.fn) (codeAny_mono (F.run _ X.stack _ _ ⟨Value.ref (s.heap.objs.size + 1) :: us, ks.zip ws⟩ (g (Value.ref (s.heap.objs.size + 1) :: us) ws) _ _ (E σ) (hr.make C us (ks.zip ws))
    (I2.env0.make C us (ks.zip ws)) (hb.to _ (Value.ref (s.heap.objs.size + 1) :: us) ws I2.kIn e1 e2) r2 hq) fun r s' hq' => ?_))
  cases r with
  | error e => exact hx pins _ _ e s' I2 hq'
  | ok fl =>
    cases fl with
    | ret u =>
      obtain ⟨v, H', I3, rv, ev, q3⟩ := I2.after hq'
      subst ev
      exact ⟨rv, ⟨V.ref (s.heap.objs.size + 1), H', I3, rfl, q3⟩⟩
    | next => exact False.elim hq'
    | brk => exact False.elim hq'
    | cont => exact False.elim hq'
theorem pe_makeNS (M : Mk X.K C f) (F : FnOk X.prog X.w X.K X.mg X.base CX k f fd ps sp) (hr : Room (k + 1) X.A) (hg : Gl X x) (hm : X.mg x = some (.ref C)) (hb : KBn X.K fd ps (n + 1) ks g gV) (hx : ∀ σ, PassesAt CX X σ (E σ))
    (ha : PA X (e :: es) t) (hkw : PK X kws tk) (hall : (backToKw pos (keywordEach kws X.env)).all (·.1.isSome) = true := by rfl) (hks : (backToKw pos (keywordEach kws X.env)).filterMap (·.1) = ks := by rfl)
    (hdb : (x == ("__debug__" : Str)) = false := by decide) (he : starEach (e :: es) X.env = (false, eval e X.env) :: starEach es X.env := by rfl)
    (hpl : ((backTo pos (starEach (e :: es) X.env)).any (·.1) || (backToKw pos (keywordEach kws X.env)).any (·.1.isNone)) = false := by rfl) :
    PE X (.Call (.Name x p) (e :: es) kws pos) (tMakeNS C n ks.length sp gV E t tk) := by
  refine ⟨fun pins s σ H Q I h => ?_⟩
  refine wpAny_Call_Name_kw (ld_glob I hg hm ?_ hdb)
  refine PySem.W.callWith_KW (h₀ := X.base) I.ok.mod.kin M.kp hall (thn (ha.run pos pins s σ H _ I h) fun us s1 ⟨vs, H1, I1, r, q⟩ => ?_) hpl he
  refine thn (hkw.run pos pins s1 σ H1 _ I1 q) fun ws s2 ⟨zs, H2, I2, rz, l1, l2, q2⟩ => ⟨I2.kIn, ?_⟩
  rw [hks]
  exact run_makeNS M F hr hb (hx σ) I2 r rz l1 l2 q2
/-- in a try: o.m(e, ..) -/
def tMethS (C : Addr) (m : Str) (sp : Sp) (dvs : List V) (E : L2.St → XK) (ta : TE) (t : TA) : TE := fun σ H Q => ta σ H fun x H1 => ∃ a dx fs, x = .ref a ∧ H1 a = some (.ins C dx fs) ∧ fs.lookup m = none ∧
  t σ H1 fun vs H2 => sp (x :: (vs ++ dvs)) H2 Q (E σ)
theorem pe_methS {pl : Sem Bool} (he : PE X o to) (c : Cls X.K C) (hm : Meth X.K C m f) (F : FnOk X.prog X.w X.K X.mg X.base CX k f fd ps sp) (hr : Room k X.A) (hb : Binds X.K fd ps ds) (hd : Vals dvs ds) (hx : ∀ σ, PassesAt CX X σ (E σ)) (ha : PA X (e :: es) t)
    (hst : starEach (e :: es) X.env = (false, eval e X.env) :: starEach es X.env := by rfl) (hpl : (backTo pos (starEach es X.env)).any (·.1) = false := by rfl)
    (ht : eval (.Call (.Attribute o m apos) (e :: es) [] pos) X.env = (do
      let ov ← eval o X.env
      standAt apos.atName
      let (f, first) ← holding [ov] (getMethod ov m pl)
      callWith pos f first (backTo pos (starEach (e :: es) X.env)) (backToKw pos (keywordEach [] X.env))) := by rfl) :
    PE X (.Call (.Attribute o m apos) (e :: es) [] pos) (tMethS C m sp dvs E to t) := by
  refine ⟨fun pins s σ H Q I h => ?_⟩
  refine PySem.W.methodCall_KW (pl := pl) (thn (he.run pins s σ H _ I h) fun u s1 ⟨x, H1, I1, rx, a, dx, fs, ex, ea, l, q⟩ => ?_) ht
  subst ex
  obtain rfl : u = Value.ref a := rx
  refine getmeth_ok I1 ea c hm l ?_
  refine PySem.W.callWith_K (first := [.ref a]) (h₀ := X.base) I.ok.mod.kin hm.kp (thn (ha.run pos pins s1 σ H1 _ I1 q) fun us s2 ⟨vs, H2, I2, r, q2⟩ => ⟨I2.kIn, ?_⟩) hst hpl
  exact run_fnSD (us := .ref a :: us) (vs := .ref a :: vs) F hr hb hd (hx σ) I2 (.cons rfl r) q2
end
/-- at the name x stands a class whose method m keeps sp -/
structure CalM (P : Program) (w : World) (K : PySem.W.Frag) (mg : Str → Option Value) (base : Heap) (x m : Str) (k : Nat) (ps : List Str) (dvs : List V) (sp : Sp) : Prop where
  cls : Cls K (He.ga K x)
  meth : Meth K (He.ga K x) m (He.ma K (He.ga K x) m)
  run : ∃ (fd : FuncData) (ds : List Value), FnOk P w K mg base (L2.CX P w) k (He.ma K (He.ga K x) m) fd ps sp ∧ Vals dvs ds ∧ Binds K fd ps ds
/-- at the name x stands a class whose __init__ keeps sp; n values and the keywords ks -/
structure CalI (P : Program) (w : World) (K : PySem.W.Frag) (mg : Str → Option Value) (base : Heap) (x : Str) (k n : Nat) (ks : List Str) (sp : Sp) : Prop where
  mkr : Mk K (He.ga K x) (He.ma K (He.ga K x) "__init__")
  gC : mg x = some (.ref (He.ga K x))
  run : ∃ (fd : FuncData) (ps : List Str) (g : List Value → List Value → List Value), FnOk P w K mg base (L2.CX P w) k (He.ma K (He.ga K x) "__init__") fd ps sp ∧ KBn K fd ps (n + 1) ks g (fun vs zs => vs ++ zs)
section
variable {X : Cx} {W : WX} {x m : Str} {k j n : Nat} {ks ps : List Str} {dvs : List V} {sp : Sp} {E : XK} {p pos apos : Pos} {e o : Expr} {es : List Expr} {kws : List Keyword} {to : TE} {t tk : TA}
theorem pe_newC (C : CalI X.prog X.w X.K X.mg X.base x k n ks sp) (hr : Room j X.A) (hj : k + 1 ≤ j) (hg : Gl X x) (hx : Passes (L2.CX X.prog X.w) X E) (ha : PA X (e :: es) t) (hkw : PK X kws tk)
    (hall : (backToKw pos (keywordEach kws X.env)).all (·.1.isSome) = true := by rfl) (hks : (backToKw pos (keywordEach kws X.env)).filterMap (·.1) = ks := by rfl)
    (hdb : (x == ("__debug__" : Str)) = false := by decide) (he : starEach (e :: es) X.env = (false, eval e X.env) :: starEach es X.env := by rfl)
    (hpl : ((backTo pos (starEach (e :: es) X.env)).any (·.1) || (backToKw pos (keywordEach kws X.env)).any (·.1.isNone)) = false := by rfl) :
    PE X (.Call (.Name x p) (e :: es) kws pos) (tMakeN (He.ga X.K x) n ks.length sp (fun vs zs => vs ++ zs) E t tk) := by
  obtain ⟨fd, ps, g, F, hb⟩ := C.run
  exact pe_makeN C.mkr F (hr.mono hj) hg C.gC hb hx ha hkw hall hks hdb he hpl
theorem pe_newCS {K : PySem.W.Frag} (hK : X.K = K) (C : CalI X.prog X.w X.K X.mg X.base x k n ks sp) (hr : Room j X.A) (hj : k + 1 ≤ j) (hg : Gl X x) (tk' : Takes X W) (ha : PA X (e :: es) t) (hkw : PK X kws tk)
    (hall : (backToKw pos (keywordEach kws X.env)).all (·.1.isSome) = true := by rfl) (hks : (backToKw pos (keywordEach kws X.env)).filterMap (·.1) = ks := by rfl)
    (hdb : (x == ("__debug__" : Str)) = false := by decide) (he : starEach (e :: es) X.env = (false, eval e X.env) :: starEach es X.env := by rfl)
    (hpl : ((backTo pos (starEach (e :: es) X.env)).any (·.1) || (backToKw pos (keywordEach kws X.env)).any (·.1.isNone)) = false := by rfl) :
    PE X (.Call (.Name x p) (e :: es) kws pos) (tMakeNS (He.ga K x) n ks.length sp (fun vs zs => vs ++ zs) (WE W) t tk) := by
  subst hK
  obtain ⟨fd, ps, g, F, hb⟩ := C.run
  exact pe_makeNS C.mkr F (hr.mono hj) hg C.gC hb (fun σ => passAt tk' σ) ha hkw hall hks hdb he hpl
theorem pe_methC {pl : Sem Bool} (C : CalM X.prog X.w X.K X.mg X.base x m k ps dvs sp) (hr : Room j X.A) (hj : k ≤ j) (hx : Passes (L2.CX X.prog X.w) X E) (he : PE X o to) (ha : PA X (e :: es) t)
    (hst : starEach (e :: es) X.env = (false, eval e X.env) :: starEach es X.env := by rfl) (hpl : (backTo pos (starEach es X.env)).any (·.1) = false := by rfl)
    (ht : eval (.Call (.Attribute o m apos) (e :: es) [] pos) X.env = (do
      let ov ← eval o X.env
      standAt apos.atName
      let (f, first) ← holding [ov] (getMethod ov m pl)
      callWith pos f first (backTo pos (starEach (e :: es) X.env)) (backToKw pos (keywordEach [] X.env))) := by rfl) :
    PE X (.Call (.Attribute o m apos) (e :: es) [] pos) (tMeth (He.ga X.K x) m sp dvs E to t) := by
  obtain ⟨fd, ds, F, hd, hb⟩ := C.run
  exact pe_meth he C.cls C.meth F (hr.mono hj) hb hd hx ha hst hpl ht
theorem pe_methC0 {pl : Sem Bool} (C : CalM X.prog X.w X.K X.mg X.base x m k ps dvs sp) (hr : Room j X.A) (hj : k ≤ j) (hx : Passes (L2.CX X.prog X.w) X E) (he : PE X o to)
    (ht : eval (.Call (.Attribute o m apos) [] [] pos) X.env = (do
      let ov ← eval o X.env
      standAt apos.atName
      let (f, first) ← holding [ov] (getMethod ov m pl)
      callWith pos f first (backTo pos (starEach [] X.env)) (backToKw pos (keywordEach [] X.env))) := by rfl) :
    PE X (.Call (.Attribute o m apos) [] [] pos) (tMeth (He.ga X.K x) m sp dvs E to tNil) := by
  obtain ⟨fd, ds, F, hd, hb⟩ := C.run
  exact pe_meth0 he C.cls C.meth F (hr.mono hj) hb hd hx ht
theorem pe_methCS {pl : Sem Bool} {K : PySem.W.Frag} (hK : X.K = K) (C : CalM X.prog X.w X.K X.mg X.base x m k ps dvs sp) (hr : Room j X.A) (hj : k ≤ j) (tk' : Takes X W) (he : PE X o to) (ha : PA X (e :: es) t)
    (hst : starEach (e :: es) X.env = (false, eval e X.env) :: starEach es X.env := by rfl) (hpl : (backTo pos (starEach es X.env)).any (·.1) = false := by rfl)
    (ht : eval (.Call (.Attribute o m apos) (e :: es) [] pos) X.env = (do
      let ov ← eval o X.env
      standAt apos.atName
      let (f, first) ← holding [ov] (getMethod ov m pl)
      callWith pos f first (backTo pos (starEach (e :: es) X.env)) (backToKw pos (keywordEach [] X.env))) := by rfl) :
    PE X (.Call (.Attribute o m apos) (e :: es) [] pos) (tMethS (He.ga K x) m sp dvs (WE W) to t) := by
  subst hK
  obtain ⟨fd, ds, F, hd, hb⟩ := C.run
  exact pe_methS he C.cls C.meth F (hr.mono hj) hb hd (fun σ => passAt tk' σ) ha hst hpl ht
end
end UbC

namespace UbZ
open PySem PySem.Spec PyProof.Rows L2 Ub UbM
/-! ### zip of three lists -/
abbrev Is3 (h : Heap) (T : Addr) (a b c : Value) : Prop := h.get? T = some { cls := .type "tuple", data := .seq #[a, b, c] }
theorem typeCall3 (a b c : Value) : checkTypeCall "zip" ⟨[a, b, c], []⟩ = pure () := by kernel_rfl
theorem newCall3 (a b c : Value) : checkBuiltinCall "zip.__new__" ⟨[.type "zip", a, b, c], []⟩ = pure () := by kernel_rfl
theorem initArgs4 (a b c d : Value) : argsOk "object.__init__" ⟨[a, b, c, d], []⟩ := by
  unfold argsOk
  rw [signature?_of (id := "object.__init__") (n := ['_', '_', 't', 'i', 'n', 'i', '_', '_']) (o := ['t', 'c', 'e', 'j', 'b', 'o']) (by kernel_rfl) F.owner_object]
  kernel_rfl
structure Apart (z TI TO i1 i2 i3 l1 l2 l3 : Addr) : Prop where
  TIz : TI ≠ z
  TOz : TO ≠ z
  i1z : i1 ≠ z
  i2z : i2 ≠ z
  i3z : i3 ≠ z
  TITO : TI ≠ TO
  TIi1 : TI ≠ i1
  TIi2 : TI ≠ i2
  TIi3 : TI ≠ i3
  TOi1 : TO ≠ i1
  TOi2 : TO ≠ i2
  TOi3 : TO ≠ i3
  i12 : i1 ≠ i2
  i13 : i1 ≠ i3
  i23 : i2 ≠ i3
  m1 : l1 ≠ z ∧ l1 ≠ TO ∧ l1 ≠ i1 ∧ l1 ≠ i2 ∧ l1 ≠ i3
  m2 : l2 ≠ z ∧ l2 ≠ TO ∧ l2 ≠ i1 ∧ l2 ≠ i2 ∧ l2 ≠ i3
  m3 : l3 ≠ z ∧ l3 ≠ TO ∧ l3 ≠ i1 ∧ l3 ≠ i2 ∧ l3 ≠ i3
section
variable {prog : Program} {w : World} {A : Around} {E : Value → Shared → Prop} {s : Shared}
/-- the heap where only the working objects of the zip have changed -/
def Kept (z TO i1 i2 i3 : Addr) (h h' : Heap) : Prop := ∀ c o, c ≠ z → c ≠ TO → c ≠ i1 → c ≠ i2 → c ≠ i3 → h.get? c = some o → h'.get? c = some o
theorem upd3 {T : Addr} {a b c x : Value} {k : Nat} {Q : Unit → Shared → Prop} (hT : Is3 s.heap T a b c)
    (h : ∀ h', h'.get? T = some { cls := .type "tuple", data := .seq ((#[a, b, c] : Array Value).setIfInBounds k x) } → Heap.SameBut T s.heap h' → Q () { s with heap := h' }) :
    wpAny (model prog w) A (updateSeq T (·.setIfInBounds k x)) Q E s := by
  refine wpAny_updateSeq hT rfl (h _ ?_ (Heap.SameBut.update ..))
  rw [Heap.get?_update_self _ hT rfl]
  simp [Obj.mapSeq]
variable {z TI TO i1 i2 i3 l1 l2 l3 : Addr} {k1 k2 k3 : Nat} {xs ys zs : Array Value} {x y u a b c : Value}
theorem next_item {Q : Value → Shared → Prop} (D : Apart z TI TO i1 i2 i3 l1 l2 l3)
    (hz : IsZip s.heap z TI TO .none) (hTI : Is3 s.heap TI (.ref i1) (.ref i2) (.ref i3)) (hTO : Is3 s.heap TO a b c)
    (h1 : s.heap.IsListIter i1 l1 k1) (h2 : s.heap.IsListIter i2 l2 k2) (h3 : s.heap.IsListIter i3 l3 k3) (hl1 : s.heap.IsList l1 xs) (hl2 : s.heap.IsList l2 ys) (hl3 : s.heap.IsList l3 zs) (hx : xs[k1]? = some x) (hy : ys[k2]? = some y) (hu : zs[k3]? = some u)
    (hQ : ∀ h', IsZip h' z TI TO (rawInt s.heap.objs.size) → Is3 h' TO x y u → h'.IsListIter i1 l1 (k1 + 1) → h'.IsListIter i2 l2 (k2 + 1) → h'.IsListIter i3 l3 (k3 + 1) → Is3 h' s.heap.objs.size x y u → h'.objs.size = s.heap.objs.size + 1 →
      Kept z TO i1 i2 i3 s.heap h' → Q (.ref s.heap.objs.size) { s with heap := h' }) :
    wpAny (model prog w) A (Builtin.«zip.__next__» ⟨[.ref z], []⟩) (fun fin s' => ∃ v, fin = .done (.ret v) ∧ Q v s') E s := by
  show wpAny _ _ (field (.ref z) 2 >>= _) _ _ _
  refine wpAny_bind (wpAny_field hz rfl (x := .bool false) rfl ?_)
  show wpAny _ _ (field (.ref z) 3 >>= _) _ _ _
  refine wpAny_bind (wpAny_field hz rfl (x := .ref TI) rfl ?_)
  refine wpAny_bind (wpAny_seqItems hTI rfl ?_)
  show wpAny _ _ (Builtin.SmallTypes.ownedTupleIsFree (.ref z) >>= _) _ _ _
  refine wpAny_bind ?_
  unfold Builtin.SmallTypes.ownedTupleIsFree
  refine wpAny_bind (wpAny_field hz rfl (x := .none) rfl (wpAny_pure ?_))
  simp only [if_true]
  refine wpAny_bind (wpAny_rule ?_)
  refine wpAny_bind (wpAny_field hz rfl (x := .ref TO) rfl ?_)
  refine wpAny_bind (wpAny_setField_rec hz (by simp) fun hA zA sA => ?_)
  replace zA : IsZip hA z TI TO .ellipsis := zA
  refine wpAny_bind ?_
  simp only [List.zipIdx_cons, List.zipIdx_nil, List.forIn_cons, List.forIn_nil]
  -- the first
  refine wpAny_bind (wpAny_bind (wpAny_onRaise ?_))
  show wpAny _ _ (Builtin.SmallTypes.nextOf (.ref i1) >>= _) _ _ _
  refine wpAny_bind (wpAny_nextOf_list_item (h1.extBut sA.extBut D.i1z) (hl1.extBut sA.extBut D.m1.1) hx fun hB g1 sB => wpAny_pure ?_)
  have tB : Is3 hB TO a b c := sB.extBut _ _ D.TOi1 (sA.extBut _ _ D.TOz hTO)
  have zB : IsZip hB z TI TO .ellipsis := sB.extBut _ _ D.i1z.symm zA
  have kB : Kept z TO i1 i2 i3 s.heap hB := fun d o d1 d2 d3 d4 d5 e => sB.extBut _ _ d3 (sA.extBut _ _ d1 e)
  have jB2 : hB.IsListIter i2 l2 k2 := (h2.extBut sA.extBut D.i2z).extBut sB.extBut D.i12.symm
  have jB3 : hB.IsListIter i3 l3 k3 := (h3.extBut sA.extBut D.i3z).extBut sB.extBut D.i13.symm
  have nB : hB.objs.size = s.heap.objs.size := by rw [sB.1, sA.1]
  refine wpAny_bind (wpAny_seqItems tB rfl ?_)
  refine wpAny_bind (upd3 tB fun hC tC sC => ?_)
  replace tC : Is3 hC TO x b c := tC
  refine wpAny_bind (wpAny_letGo (wpAny_pure ?_))
  -- the second
  refine wpAny_bind (wpAny_bind (wpAny_onRaise ?_))
  show wpAny _ _ (Builtin.SmallTypes.nextOf (.ref i2) >>= _) _ _ _
  have kC : Kept z TO i1 i2 i3 s.heap hC := fun d o d1 d2 d3 d4 d5 e => sC.extBut _ _ d2 (kB d o d1 d2 d3 d4 d5 e)
  have q2 : hC.IsList l2 ys := hl2.at fun o e => kC _ o D.m2.1 D.m2.2.1 D.m2.2.2.1 D.m2.2.2.2.1 D.m2.2.2.2.2 e
  refine wpAny_bind (wpAny_nextOf_list_item (jB2.extBut sC.extBut D.TOi2.symm) q2 hy fun hD g2 sD => wpAny_pure ?_)
  have tD : Is3 hD TO x b c := sD.extBut _ _ D.TOi2 tC
  have zD : IsZip hD z TI TO .ellipsis := sD.extBut _ _ D.i2z.symm (sC.extBut _ _ D.TOz.symm zB)
  have kD : Kept z TO i1 i2 i3 s.heap hD := fun d o d1 d2 d3 d4 d5 e => sD.extBut _ _ d4 (kC d o d1 d2 d3 d4 d5 e)
  have jD1 : hD.IsListIter i1 l1 (k1 + 1) := (g1.extBut sC.extBut D.TOi1.symm).extBut sD.extBut D.i12
  have jD3 : hD.IsListIter i3 l3 k3 := (jB3.extBut sC.extBut D.TOi3.symm).extBut sD.extBut D.i23.symm
  have nD : hD.objs.size = s.heap.objs.size := by rw [sD.1, sC.1, nB]
  refine wpAny_bind (wpAny_seqItems tD rfl ?_)
  refine wpAny_bind (upd3 tD fun hF tF sF => ?_)
  replace tF : Is3 hF TO x y c := tF
  refine wpAny_bind (wpAny_letGo (wpAny_pure ?_))
  -- the third
  refine wpAny_bind (wpAny_bind (wpAny_onRaise ?_))
  show wpAny _ _ (Builtin.SmallTypes.nextOf (.ref i3) >>= _) _ _ _
  have kF : Kept z TO i1 i2 i3 s.heap hF := fun d o d1 d2 d3 d4 d5 e => sF.extBut _ _ d2 (kD d o d1 d2 d3 d4 d5 e)
  have q3 : hF.IsList l3 zs := hl3.at fun o e => kF _ o D.m3.1 D.m3.2.1 D.m3.2.2.1 D.m3.2.2.2.1 D.m3.2.2.2.2 e
  refine wpAny_bind (wpAny_nextOf_list_item (jD3.extBut sF.extBut D.TOi3.symm) q3 hu fun hG g3 sG => wpAny_pure ?_)
  have tG : Is3 hG TO x y c := sG.extBut _ _ D.TOi3 tF
  have zG : IsZip hG z TI TO .ellipsis := sG.extBut _ _ D.i3z.symm (sF.extBut _ _ D.TOz.symm zD)
  have kG : Kept z TO i1 i2 i3 s.heap hG := fun d o d1 d2 d3 d4 d5 e => sG.extBut _ _ d5 (kF d o d1 d2 d3 d4 d5 e)
  have jG1 : hG.IsListIter i1 l1 (k1 + 1) := (jD1.extBut sF.extBut D.TOi1.symm).extBut sG.extBut D.i13
  have jG2 : hG.IsListIter i2 l2 (k2 + 1) := (g2.extBut sF.extBut D.TOi2.symm).extBut sG.extBut D.i23
  have nG : hG.objs.size = s.heap.objs.size := by rw [sG.1, sF.1, nD]
  refine wpAny_bind (wpAny_seqItems tG rfl ?_)
  refine wpAny_bind (upd3 tG fun hM tM sM => ?_)
  replace tM : Is3 hM TO x y u := tM
  refine wpAny_bind (wpAny_letGo (wpAny_pure (wpAny_pure ?_)))
  refine wpAny_bind (wpAny_seqItems tM rfl ?_)
  refine wpAny_bind (wpAny_newTuple ?_)
  have zM : IsZip hM z TI TO .ellipsis := sM.extBut _ _ D.TOz.symm zG
  have kM : Kept z TO i1 i2 i3 s.heap hM := fun d o d1 d2 d3 d4 d5 e => sM.extBut _ _ d2 (kG d o d1 d2 d3 d4 d5 e)
  have jM1 : hM.IsListIter i1 l1 (k1 + 1) := jG1.extBut sM.extBut D.TOi1.symm
  have jM2 : hM.IsListIter i2 l2 (k2 + 1) := jG2.extBut sM.extBut D.TOi2.symm
  have jM3 : hM.IsListIter i3 l3 (k3 + 1) := g3.extBut sM.extBut D.TOi3.symm
  have nM : hM.objs.size = s.heap.objs.size := by rw [sM.1, nG]
  have zlt : z < hM.objs.size := Heap.lt_size zM
  show wpAny _ _ (Builtin.SmallTypes.ownedTupleHandOut (.ref z) (.ref hM.objs.size) >>= _) _ _ _
  refine wpAny_bind ?_
  unfold Builtin.SmallTypes.ownedTupleHandOut
  have zN : IsZip (hM.push { cls := .type "tuple", data := .seq #[x, y, u] }) z TI TO .ellipsis := Heap.get?_push_of_some _ zM
  refine wpAny_bind (wpAny_setField_rec zN (by simp) fun hR zR sR => ?_)
  replace zR : IsZip hR z TI TO (rawInt hM.objs.size) := zR
  refine wpAny_setField_rec zR (by simp) fun hS zS sS => ?_
  replace zS : IsZip hS z TI TO (rawInt hM.objs.size) := zS
  have up : ∀ d o, d ≠ z → hM.get? d = some o → hS.get? d = some o := fun d o d1 e => sS.extBut _ _ d1 (sR.extBut _ _ d1 (Heap.get?_push_of_some _ e))
  have tS : Is3 hS hM.objs.size x y u := sS.extBut _ _ (Nat.ne_of_gt zlt) (sR.extBut _ _ (Nat.ne_of_gt zlt) (Heap.get?_push_size _ rfl))
  have nS : hS.objs.size = hM.objs.size + 1 := by rw [sS.1, sR.1, Heap.size_push]
  rw [nM] at zS tS nS
  refine wpAny_pure ⟨_, rfl, ?_⟩
  show Q (.ref hM.objs.size) _
  rw [nM]
  exact hQ hS zS (up _ _ D.TOz tM) (jM1.at fun o e => up _ o D.i1z e) (jM2.at fun o e => up _ o D.i2z e) (jM3.at fun o e => up _ o D.i3z e) tS nS fun d o d1 d2 d3 d4 d5 e => up d o d1 (kM d o d1 d2 d3 d4 d5 e)
theorem next_end {Q : Fin → Shared → Prop} (hh : A.handled = none) (D : Apart z TI TO i1 i2 i3 l1 l2 l3)
    (hz : IsZip s.heap z TI TO .none) (hTI : Is3 s.heap TI (.ref i1) (.ref i2) (.ref i3)) (hTO : Is3 s.heap TO a b c)
    (h1 : s.heap.IsListIter i1 l1 k1) (h2 : s.heap.IsListIter i2 l2 k2) (h3 : s.heap.IsListIter i3 l3 k3) (hl1 : s.heap.IsList l1 xs) (hl2 : s.heap.IsList l2 ys) (hl3 : s.heap.IsList l3 zs)
    (hend : xs[k1]? = none ∨ ys[k2]? = none ∨ zs[k3]? = none)
    (hE : ∀ h' e, Kept z TO i1 i2 i3 s.heap h' → (∃ o, h'.get? e = some o ∧ o.cls = .type "StopIteration") → E (.ref e) { s with heap := h' }) :
    wpAny (model prog w) A (Builtin.«zip.__next__» ⟨[.ref z], []⟩) Q E s := by
  show wpAny _ _ (field (.ref z) 2 >>= _) _ _ _
  refine wpAny_bind (wpAny_field hz rfl (x := .bool false) rfl ?_)
  show wpAny _ _ (field (.ref z) 3 >>= _) _ _ _
  refine wpAny_bind (wpAny_field hz rfl (x := .ref TI) rfl ?_)
  refine wpAny_bind (wpAny_seqItems hTI rfl ?_)
  show wpAny _ _ (Builtin.SmallTypes.ownedTupleIsFree (.ref z) >>= _) _ _ _
  refine wpAny_bind ?_
  unfold Builtin.SmallTypes.ownedTupleIsFree
  refine wpAny_bind (wpAny_field hz rfl (x := .none) rfl (wpAny_pure ?_))
  simp only [if_true]
  refine wpAny_bind (wpAny_rule ?_)
  refine wpAny_bind (wpAny_field hz rfl (x := .ref TO) rfl ?_)
  refine wpAny_bind (wpAny_setField_rec hz (by simp) fun hA zA sA => ?_)
  replace zA : IsZip hA z TI TO .ellipsis := zA
  refine wpAny_bind ?_
  simp only [List.zipIdx_cons, List.zipIdx_nil, List.forIn_cons, List.forIn_nil]
  have out : ∀ (h h2 : Heap) (e : Addr), IsZip h z TI TO .ellipsis → Kept z TO i1 i2 i3 s.heap h → (∃ o, h.get? e = some o ∧ o.cls = .type "StopIteration") → Heap.SameBut z h h2 → E (.ref e) { s with heap := h2 } := fun h h2 e hzz hk he hs => by
    obtain ⟨o, ho, hc⟩ := he
    have hez : e ≠ z := fun x => by
      subst x
      rw [hzz] at ho
      cases ho
      simp at hc
    exact hE h2 e (fun d o d1 d2 d3 d4 d5 x => hs.extBut _ _ d1 (hk d o d1 d2 d3 d4 d5 x)) ⟨o, hs.extBut _ _ hez ho, hc⟩
  refine wpAny_bind (wpAny_bind (wpAny_onRaise ?_))
  show wpAny _ _ (Builtin.SmallTypes.nextOf (.ref i1) >>= _) _ _ _
  cases hx : xs[k1]? with
  | none =>
    refine wpAny_bind (wpAny_nextOf_list_end hh (h1.extBut sA.extBut D.i1z) (hl1.extBut sA.extBut D.m1.1) hx fun hB e sB he => ?_)
    have zB : IsZip hB z TI TO .ellipsis := sB _ _ D.i1z.symm zA
    exact wpAny_setField_rec zB (by simp) fun hC _ sC => out hB hC e zB (fun d o d1 d2 d3 d4 d5 x => sB _ _ d3 (sA.extBut _ _ d1 x)) he sC
  | some x =>
    refine wpAny_bind (wpAny_nextOf_list_item (h1.extBut sA.extBut D.i1z) (hl1.extBut sA.extBut D.m1.1) hx fun hB g1 sB => wpAny_pure ?_)
    have tB : Is3 hB TO a b c := sB.extBut _ _ D.TOi1 (sA.extBut _ _ D.TOz hTO)
    have zB : IsZip hB z TI TO .ellipsis := sB.extBut _ _ D.i1z.symm zA
    have kB : Kept z TO i1 i2 i3 s.heap hB := fun d o d1 d2 d3 d4 d5 e => sB.extBut _ _ d3 (sA.extBut _ _ d1 e)
    have jB2 : hB.IsListIter i2 l2 k2 := (h2.extBut sA.extBut D.i2z).extBut sB.extBut D.i12.symm
    have jB3 : hB.IsListIter i3 l3 k3 := (h3.extBut sA.extBut D.i3z).extBut sB.extBut D.i13.symm
    refine wpAny_bind (wpAny_seqItems tB rfl ?_)
    refine wpAny_bind (upd3 tB fun hC tC sC => ?_)
    replace tC : Is3 hC TO x b c := tC
    refine wpAny_bind (wpAny_letGo (wpAny_pure ?_))
    refine wpAny_bind (wpAny_bind (wpAny_onRaise ?_))
    show wpAny _ _ (Builtin.SmallTypes.nextOf (.ref i2) >>= _) _ _ _
    have kC : Kept z TO i1 i2 i3 s.heap hC := fun d o d1 d2 d3 d4 d5 e => sC.extBut _ _ d2 (kB d o d1 d2 d3 d4 d5 e)
    have zC : IsZip hC z TI TO .ellipsis := sC.extBut _ _ D.TOz.symm zB
    have q2 : hC.IsList l2 ys := hl2.at fun o e => kC _ o D.m2.1 D.m2.2.1 D.m2.2.2.1 D.m2.2.2.2.1 D.m2.2.2.2.2 e
    cases hy : ys[k2]? with
    | none =>
      refine wpAny_bind (wpAny_nextOf_list_end hh (jB2.extBut sC.extBut D.TOi2.symm) q2 hy fun hD e sD he => ?_)
      have zD : IsZip hD z TI TO .ellipsis := sD _ _ D.i2z.symm zC
      exact wpAny_setField_rec zD (by simp) fun hF _ sF => out hD hF e zD (fun d o d1 d2 d3 d4 d5 x => sD _ _ d4 (kC d o d1 d2 d3 d4 d5 x)) he sF
    | some y =>
      have hu : zs[k3]? = none := by
        rcases hend with h | h | h
        · rw [hx] at h; cases h
        · rw [hy] at h; cases h
        · exact h
      refine wpAny_bind (wpAny_nextOf_list_item (jB2.extBut sC.extBut D.TOi2.symm) q2 hy fun hD g2 sD => wpAny_pure ?_)
      have tD : Is3 hD TO x b c := sD.extBut _ _ D.TOi2 tC
      have zD : IsZip hD z TI TO .ellipsis := sD.extBut _ _ D.i2z.symm zC
      have kD : Kept z TO i1 i2 i3 s.heap hD := fun d o d1 d2 d3 d4 d5 e => sD.extBut _ _ d4 (kC d o d1 d2 d3 d4 d5 e)
      have jD3 : hD.IsListIter i3 l3 k3 := (jB3.extBut sC.extBut D.TOi3.symm).extBut sD.extBut D.i23.symm
      refine wpAny_bind (wpAny_seqItems tD rfl ?_)
      refine wpAny_bind (upd3 tD fun hF tF sF => ?_)
      refine wpAny_bind (wpAny_letGo (wpAny_pure ?_))
      refine wpAny_bind (wpAny_bind (wpAny_onRaise ?_))
      show wpAny _ _ (Builtin.SmallTypes.nextOf (.ref i3) >>= _) _ _ _
      have kF : Kept z TO i1 i2 i3 s.heap hF := fun d o d1 d2 d3 d4 d5 e => sF.extBut _ _ d2 (kD d o d1 d2 d3 d4 d5 e)
      have zF : IsZip hF z TI TO .ellipsis := sF.extBut _ _ D.TOz.symm zD
      have q3 : hF.IsList l3 zs := hl3.at fun o e => kF _ o D.m3.1 D.m3.2.1 D.m3.2.2.1 D.m3.2.2.2.1 D.m3.2.2.2.2 e
      refine wpAny_bind (wpAny_nextOf_list_end hh (jD3.extBut sF.extBut D.TOi3.symm) q3 hu fun hG e sG he => ?_)
      have zG : IsZip hG z TI TO .ellipsis := sG _ _ D.i3z.symm zF
      exact wpAny_setField_rec zG (by simp) fun hM _ sM => out hG hM e zG (fun d o d1 d2 d3 d4 d5 x => sG _ _ d5 (kF d o d1 d2 d3 d4 d5 x)) he sM
theorem pyNext_item {Q : Option Value → Shared → Prop} (D : Apart z TI TO i1 i2 i3 l1 l2 l3)
    (hz : IsZip s.heap z TI TO .none) (hTI : Is3 s.heap TI (.ref i1) (.ref i2) (.ref i3)) (hTO : Is3 s.heap TO a b c)
    (h1 : s.heap.IsListIter i1 l1 k1) (h2 : s.heap.IsListIter i2 l2 k2) (h3 : s.heap.IsListIter i3 l3 k3) (hl1 : s.heap.IsList l1 xs) (hl2 : s.heap.IsList l2 ys) (hl3 : s.heap.IsList l3 zs) (hx : xs[k1]? = some x) (hy : ys[k2]? = some y) (hu : zs[k3]? = some u)
    (hQ : ∀ h', IsZip h' z TI TO (rawInt s.heap.objs.size) → Is3 h' TO x y u → h'.IsListIter i1 l1 (k1 + 1) → h'.IsListIter i2 l2 (k2 + 1) → h'.IsListIter i3 l3 (k3 + 1) → Is3 h' s.heap.objs.size x y u → h'.objs.size = s.heap.objs.size + 1 →
      Kept z TO i1 i2 i3 s.heap h' → Q (some (.ref s.heap.objs.size)) { s with heap := h' }) :
    wpAny (model prog w) A (pyNext (.ref z)) Q E s := by
  have hT : s.TypeIs (.ref z) "zip" := ⟨_, hz, rfl⟩
  unfold pyNext
  exact wpAny_bind (wpAny_attempt (wpAny_callSpecial?_slot (name := Str.ofString "__next__") hT F.slot_zip_next
    (wpAny_call_entry F.slot_zip_next hT F.entry_zip_next
      (next_item D hz hTI hTO h1 h2 h3 hl1 hl2 hl3 hx hy hu fun h' a1 a2 a3 a4 a5 a6 a7 a8 => wpAny_pure (hQ h' a1 a2 a3 a4 a5 a6 a7 a8)) (F.args_zip_next_1 _))))
theorem pyNext_end {Q : Option Value → Shared → Prop} (hh : A.handled = none) (D : Apart z TI TO i1 i2 i3 l1 l2 l3)
    (hz : IsZip s.heap z TI TO .none) (hTI : Is3 s.heap TI (.ref i1) (.ref i2) (.ref i3)) (hTO : Is3 s.heap TO a b c)
    (h1 : s.heap.IsListIter i1 l1 k1) (h2 : s.heap.IsListIter i2 l2 k2) (h3 : s.heap.IsListIter i3 l3 k3) (hl1 : s.heap.IsList l1 xs) (hl2 : s.heap.IsList l2 ys) (hl3 : s.heap.IsList l3 zs)
    (hend : xs[k1]? = none ∨ ys[k2]? = none ∨ zs[k3]? = none) (hQ : ∀ h', Kept z TO i1 i2 i3 s.heap h' → Q none { s with heap := h' }) : wpAny (model prog w) A (pyNext (.ref z)) Q E s := by
  have hT : s.TypeIs (.ref z) "zip" := ⟨_, hz, rfl⟩
  unfold pyNext
  refine wpAny_bind (wpAny_attempt (wpAny_callSpecial?_slot (name := Str.ofString "__next__") hT F.slot_zip_next
    (wpAny_call_entry F.slot_zip_next hT F.entry_zip_next (next_end hh D hz hTI hTO h1 h2 h3 hl1 hl2 hl3 hend fun h' e hk he => ?_) (F.args_zip_next_1 _))))
  obtain ⟨o, ho, hc⟩ := he
  refine wpAny_bind (wpAny_isInstance (T := "StopIteration") (b := true) ⟨o, ho, hc⟩ isSubtype_stop ?_)
  exact wpAny_pure (hQ _ hk)
end
/-! ### the call -/
abbrev it0 (l : Addr) : Obj := { cls := .type "list_iterator", data := .fields #[.ref l, .int 0 0] }
abbrev z1 (h : Heap) (l1 : Addr) : Heap := h.push (it0 l1)
abbrev z2 (h : Heap) (l1 l2 : Addr) : Heap := (z1 h l1).push (it0 l2)
abbrev z3 (h : Heap) (l1 l2 l3 : Addr) : Heap := (z2 h l1 l2).push (it0 l3)
abbrev z4 (h : Heap) (l1 l2 l3 : Addr) : Heap := (z3 h l1 l2 l3).push { cls := .type "tuple", data := .seq #[.ref h.objs.size, .ref (z1 h l1).objs.size, .ref (z2 h l1 l2).objs.size] }
abbrev z5 (h : Heap) (l1 l2 l3 : Addr) : Heap := (z4 h l1 l2 l3).push { cls := .type "tuple", data := .seq #[.none, .none, .none] }
abbrev z6 (h : Heap) (l1 l2 l3 : Addr) : Heap := (z5 h l1 l2 l3).push { cls := .type "zip", data := .fields #[.none, .bool false, .bool false, .ref (z3 h l1 l2 l3).objs.size, .ref (z4 h l1 l2 l3).objs.size] }
theorem meets3 (l1 l2 l3 : Addr) (xs ys zs : Array Value) :
    Meets (Builtin.«zip.__new__» ⟨[.type "zip", .ref l1, .ref l2, .ref l3], []⟩) (fun _ R s => s.heap.IsList l1 xs ∧ s.heap.IsList l2 ys ∧ s.heap.IsList l3 zs ∧
      R (.ok (.ret (.ref (z5 s.heap l1 l2 l3).objs.size))) { s with heap := z6 s.heap l1 l2 l3 }) :=
  .of_wp fun prog w A R s h => by
    obtain ⟨hp, g, d, tk, os⟩ := s
    obtain ⟨hl1, hl2, hl3, h⟩ := h
    have hsub := sub_zip
    have hL1 : Heap.IsList (Shared.heap ⟨hp, g, d, tk, os⟩) l1 xs := hl1
    have hL2 : Heap.IsList (Shared.heap ⟨z1 hp l1, g, d, tk, os⟩) l2 ys := Heap.IsList.push hl2 _
    have hL3 : Heap.IsList (Shared.heap ⟨z2 hp l1 l2, g, d, tk, os⟩) l3 zs := Heap.IsList.push (Heap.IsList.push hl3 _) _
    wp_walk using wpAny_pyIter_list hL1, wpAny_pyIter_list hL2, wpAny_pyIter_list hL3
    exact ⟨_, rfl, h⟩
section
variable {prog : Program} {w : World} {A : Around} {E : Value → Shared → Prop} {s : Shared}
theorem call3 {l1 l2 l3 : Addr} {xs ys zs : Array Value} {Q : Value → Shared → Prop} (hl1 : s.heap.IsList l1 xs) (hl2 : s.heap.IsList l2 ys) (hl3 : s.heap.IsList l3 zs)
    (h : ∀ h', IsZip h' (s.heap.objs.size + 5) (s.heap.objs.size + 3) (s.heap.objs.size + 4) .none → Is3 h' (s.heap.objs.size + 3) (.ref s.heap.objs.size) (.ref (s.heap.objs.size + 1)) (.ref (s.heap.objs.size + 2)) →
      Is3 h' (s.heap.objs.size + 4) .none .none .none → h'.IsListIter s.heap.objs.size l1 0 → h'.IsListIter (s.heap.objs.size + 1) l2 0 → h'.IsListIter (s.heap.objs.size + 2) l3 0 →
      (∀ c o, s.heap.get? c = some o → h'.get? c = some o) → Q (.ref (s.heap.objs.size + 5)) { s with heap := h' }) :
    wpAny (model prog w) A (call (.type "zip") [.ref l1, .ref l2, .ref l3]) Q E s := by
  refine callType_new F.called_zip (by decide) (typeCall3 _ _ _) (newCall3 _ _ _) (fun obj => initArgs4 obj _ _ _) F.entry_zip_new
    (meets3 l1 l2 l3 xs ys zs) ⟨hl1, hl2, hl3, ?_⟩
  have n1 : (z1 s.heap l1).objs.size = s.heap.objs.size + 1 := Heap.size_push ..
  have n2 : (z2 s.heap l1 l2).objs.size = s.heap.objs.size + 2 := by rw [Heap.size_push, n1]
  have n3 : (z3 s.heap l1 l2 l3).objs.size = s.heap.objs.size + 3 := by rw [Heap.size_push, n2]
  have n4 : (z4 s.heap l1 l2 l3).objs.size = s.heap.objs.size + 4 := by rw [Heap.size_push, n3]
  have n5 : (z5 s.heap l1 l2 l3).objs.size = s.heap.objs.size + 5 := by rw [Heap.size_push, n4]
  have p1 : ∀ {h : Heap} {o : Obj} {d : Addr} {v : Obj}, h.get? d = some v → (h.push o).get? d = some v := fun e => Heap.get?_push_of_some _ e
  have g6 : (z6 s.heap l1 l2 l3).get? (z5 s.heap l1 l2 l3).objs.size = some _ := Heap.get?_push_size _ rfl
  have g5 : (z6 s.heap l1 l2 l3).get? (z4 s.heap l1 l2 l3).objs.size = some _ := p1 (Heap.get?_push_size _ rfl)
  have g4 : (z6 s.heap l1 l2 l3).get? (z3 s.heap l1 l2 l3).objs.size = some _ := p1 (p1 (Heap.get?_push_size _ rfl))
  have g3 : (z6 s.heap l1 l2 l3).get? (z2 s.heap l1 l2).objs.size = some _ := p1 (p1 (p1 (Heap.get?_push_size _ rfl)))
  have g2 : (z6 s.heap l1 l2 l3).get? (z1 s.heap l1).objs.size = some _ := p1 (p1 (p1 (p1 (Heap.get?_push_size _ rfl))))
  have g1 : (z6 s.heap l1 l2 l3).get? s.heap.objs.size = some _ := p1 (p1 (p1 (p1 (p1 (Heap.get?_push_size _ rfl)))))
  show _ ∧ _
  rw [n3, n4, n5] at g6
  rw [n1, n2, n3] at g4
  rw [n4] at g5
  rw [n1] at g2
  rw [n2] at g3
  rw [n5]
  exact ⟨⟨_, g6, rfl⟩, h _ g6 g4 g5 ⟨_, g1, rfl, rfl⟩ ⟨_, g2, rfl, rfl⟩ ⟨_, g3, rfl, rfl⟩ fun c o x => p1 (p1 (p1 (p1 (p1 (p1 x)))))⟩
end
/-! ### the loop -/
def It3 (K : PySem.W.Frag) (a b c : Addr) : It :=
  ⟨fun i H => ∃ (xs ys zs : List V) (x y z : V), SqL K H a xs ∧ SqL K H b ys ∧ SqL K H c zs ∧ xs[i]? = some x ∧ ys[i]? = some y ∧ zs[i]? = some z,
    fun i H v H' => ∃ T x y z, v = .ref T ∧ H T = none ∧ H' = upd H T (.tup [x, y, z]) ∧ (∀ xs, SqL K H a xs → xs[i]? = some x) ∧ (∀ ys, SqL K H b ys → ys[i]? = some y) ∧ ∀ zs, SqL K H c zs → zs[i]? = some z,
    fun i H => ∃ xs ys zs : List V, SqL K H a xs ∧ SqL K H b ys ∧ SqL K H c zs ∧ (xs.length ≤ i ∨ ys.length ≤ i ∨ zs.length ≤ i)⟩
theorem turn3 {P : Program} {w : World} {K : PySem.W.Frag} {elts : List Expr} {kk : Nat} {tpos : Pos} {a b c z TI TO i1 i2 i3 : Addr} (D : Apart z TI TO i1 i2 i3 a b c) :
    Turn P w K (.Tuple elts kk tpos) (It3 K a b c) [z, TI, TO, i1, i2, i3] z (fun i h => IsZip h z TI TO .none ∧ Is3 h TI (.ref i1) (.ref i2) (.ref i3) ∧ (∃ x y u, Is3 h TO x y u) ∧ h.IsListIter i1 a i ∧ h.IsListIter i2 b i ∧ h.IsListIter i3 c i) where
  mem := by simp
  obj := fun i h st d hd => by
    obtain ⟨hz, hTI, ⟨x, y, u, hTO⟩, ⟨o1, e1, _, d1⟩, ⟨o2, e2, _, d2⟩, ⟨o3, e3, _, d3⟩⟩ := st
    have e' : d = z ∨ d = TI ∨ d = TO ∨ d = i1 ∨ d = i2 ∨ d = i3 := by simpa using hd
    rcases e' with q | q | q | q | q | q
    · rw [q]; exact ⟨_, hz, fun v q => nomatch q⟩
    · rw [q]; exact ⟨_, hTI, fun v q => nomatch q⟩
    · rw [q]; exact ⟨_, hTO, fun v q => nomatch q⟩
    · rw [q]; exact ⟨o1, e1, fun v q => by rw [d1] at q; cases q⟩
    · rw [q]; exact ⟨o2, e2, fun v q => by rw [d2] at q; cases q⟩
    · rw [q]; exact ⟨o3, e3, fun v q => by rw [d3] at q; cases q⟩
  keep := fun i h h' st k => by
    obtain ⟨hz, hTI, ⟨x, y, u, hTO⟩, h1, h2, h3⟩ := st
    exact ⟨k z (by simp) _ hz, k TI (by simp) _ hTI, ⟨x, y, u, k TO (by simp) _ hTO⟩, h1.at fun o q => k i1 (by simp) o q, h2.at fun o q => k i2 (by simp) o q, h3.at fun o q => k i3 (by simp) o q⟩
  item := by
    intro X hP hw hK hc i pins s σ H E I hf st hg
    subst hP hw hK
    obtain ⟨hz, hTI, ⟨x0, y0, u0, hTO⟩, h1, h2, h3⟩ := st
    obtain ⟨xs, ys, zs, x, y, u, hqx, hqy, hqz, hx, hy, hu⟩ := hg
    obtain ⟨its, rv, p, _⟩ := I.list hqx
    obtain ⟨its2, rv2, p2, _⟩ := I.list hqy
    obtain ⟨its3, rv3, p3, _⟩ := I.list hqz
    obtain ⟨v1, e1, r1⟩ := rv.get hx
    obtain ⟨v2, e2, r2⟩ := rv2.get hy
    obtain ⟨v3, e3, r3⟩ := rv3.get hu
    have hzl : z < s.heap.objs.size := Heap.lt_size hz
    refine pyNext_item D hz hTI hTO h1 h2 h3 p.isList p2.isList p3.isList (x := v1) (y := v2) (u := v3) (by simpa using e1) (by simpa using e2) (by simpa using e3) fun h' z' TO' h1' h2' h3' hT hsz hk => ?_
    refine ⟨_, rfl, wpAny_letOwnedTupleGo_zip (s := { s with heap := h' }) z' fun h'' z'' sb => ?_⟩
    have hT2 : h''.get? s.heap.objs.size = some { cls := .type "tuple", data := .seq #[v1, v2, v3] } := (sb.2 _ (Nat.ne_of_gt hzl)).trans hT
    have new : ObjOk X.prog X.w (upd H s.heap.objs.size (.tup [x, y, u])) h'' s.heap.objs.size (.tup [x, y, u]) :=
      ⟨by show 3 ≤ sizeLine; decide, [v1, v2, v3], .cons r1 (.cons r2 (.cons r3 .nil)), ⟨_, hT2, rfl, _, rfl⟩⟩
    have I1 : Inv X pins σ (upd H s.heap.objs.size (.tup [x, y, u])) { s with heap := h'' } :=
      I.turnedNew (t' := s.toks) (ch := [z, TI, TO, i1, i2, i3]) (fun d o hb q => (sb.2 d (fun q' => hb (by simp [q']))).trans (hk d o (fun q' => hb (by simp [q'])) (fun q' => hb (by simp [q'])) (fun q' => hb (by simp [q'])) (fun q' => hb (by simp [q'])) (fun q' => hb (by simp [q'])) q)) hf (Nat.le_refl _) new
    refine ⟨.ref s.heap.objs.size, _, I1, rfl, ⟨_, x, y, u, rfl, I.hok.fresh (Nat.le_refl _), rfl, fun l hl => by rw [I.list_inj hl hqx]; exact hx, fun l hl => by rw [I.list_inj hl hqy]; exact hy, fun l hl => by rw [I.list_inj hl hqz]; exact hu⟩, ⟨z'', ?_, ⟨v1, v2, v3, ?_⟩, ?_, ?_, ?_⟩, fun d hdm => ?_⟩
    · exact (sb.2 _ D.TIz).trans (hk _ _ D.TIz D.TITO D.TIi1 D.TIi2 D.TIi3 hTI)
    · exact (sb.2 _ D.TOz).trans TO'
    · exact h1'.at fun o q => (sb.2 _ D.i1z).trans q
    · exact h2'.at fun o q => (sb.2 _ D.i2z).trans q
    · exact h3'.at fun o q => (sb.2 _ D.i3z).trans q
    · have hlt : d < s.heap.objs.size := by
        have e' : d = z ∨ d = TI ∨ d = TO ∨ d = i1 ∨ d = i2 ∨ d = i3 := by simpa using hdm
        rcases e' with q | q | q | q | q | q
        · rw [q]; exact hzl
        · rw [q]; exact Heap.lt_size hTI
        · rw [q]; exact Heap.lt_size hTO
        · rw [q]; obtain ⟨_, e1, _⟩ := h1; exact Heap.lt_size e1
        · rw [q]; obtain ⟨_, e2, _⟩ := h2; exact Heap.lt_size e2
        · rw [q]; obtain ⟨_, e3, _⟩ := h3; exact Heap.lt_size e3
      rw [upd_ne (Nat.ne_of_lt hlt)]
      exact (hf d hdm).1
  done := by
    intro X hP hw hK hc i pins s σ H E I hf st hg
    subst hP hw hK
    obtain ⟨hz, hTI, ⟨x0, y0, u0, hTO⟩, h1, h2, h3⟩ := st
    obtain ⟨xs, ys, zs, hqx, hqy, hqz, hend⟩ := hg
    obtain ⟨its, rv, p, _⟩ := I.list hqx
    obtain ⟨its2, rv2, p2, _⟩ := I.list hqy
    obtain ⟨its3, rv3, p3, _⟩ := I.list hqz
    have l1 := rv.length
    have l2 := rv2.length
    have l3 := rv3.length
    have he : its.toArray[i]? = none ∨ its2.toArray[i]? = none ∨ its3.toArray[i]? = none := by
      rcases hend with q | q | q
      · exact .inl (by simp; omega)
      · exact .inr (.inl (by simp; omega))
      · exact .inr (.inr (by simp; omega))
    exact pyNext_end (I.ok.hd hc) D hz hTI hTO h1 h2 h3 p.isList p2.isList p3.isList he fun h' hk => ⟨rfl, I.turnedL (t' := s.toks) (ch := [z, TI, TO, i1, i2, i3]) (fun d o hb q =>
      hk d o (fun q' => hb (by simp [q'])) (fun q' => hb (by simp [q'])) (fun q' => hb (by simp [q'])) (fun q' => hb (by simp [q'])) (fun q' => hb (by simp [q'])) q) hf⟩
  self := fun A i s Q E st h => wpAny_pyIter_zip st.1 h
theorem ne' {a b : Nat} (h : a < b ∨ b < a) : ¬(a = b) := by omega
theorem apart3 (n a b c : Nat) (la : a < n) (lb : b < n) (lc : c < n) : Apart (n + 5 : Nat) (n + 3 : Nat) (n + 4 : Nat) (n : Nat) (n + 1 : Nat) (n + 2 : Nat) (a : Nat) (b : Nat) (c : Nat) :=
  ⟨ne' (by omega), ne' (by omega), ne' (by omega), ne' (by omega), ne' (by omega), ne' (by omega), ne' (by omega), ne' (by omega), ne' (by omega), ne' (by omega), ne' (by omega), ne' (by omega), ne' (by omega), ne' (by omega), ne' (by omega),
    ⟨ne' (by omega), ne' (by omega), ne' (by omega), ne' (by omega), ne' (by omega)⟩, ⟨ne' (by omega), ne' (by omega), ne' (by omega), ne' (by omega), ne' (by omega)⟩, ⟨ne' (by omega), ne' (by omega), ne' (by omega), ne' (by omega), ne' (by omega)⟩⟩
def iZip3 (K : PySem.W.Frag) (ta : TA) : TI := fun σ H R => ta σ H fun vs H1 => ∃ a b c xs ys zs, vs = [.ref a, .ref b, .ref c] ∧ SqL K H1 a xs ∧ SqL K H1 b ys ∧ SqL K H1 c zs ∧ R (It3 K a b c) H1
theorem pi_zip3 {X : Cx} {e e2 e3 : Expr} {ta : TA} {p pos tpos : Pos} {elts : List Expr} {kk : Nat} (hg : Gl X "zip") (hm : X.mg "zip" = none) (ha : PA X [e, e2, e3] ta)
    (hs : starEach [e, e2, e3] X.env = (false, eval e X.env) :: starEach [e2, e3] X.env := by rfl) (hpl : (backTo pos (starEach [e2, e3] X.env)).any (·.1) = false := by rfl) :
    PI X (.Tuple elts kk tpos) (.Call (.Name "zip" p) [e, e2, e3] [] pos) (iZip3 X.K ta) := by
  refine ⟨fun pins s σ H R I h => ?_⟩
  refine Call_ (ld_blt I hg hm PyProof.Rows.boot_zip (PyProof.Rows.callWith_type1 (thn (ha.run pos pins s σ H _ I h) fun us s1 ⟨vs, H1, I1, r1, q1⟩ => ?_) hs hpl))
  obtain ⟨a, b, c, xs, ys, zs, ex, hqx, hqy, hqz, q⟩ := q1
  subst ex
  cases r1 with
  | cons r rr =>
    cases rr with
    | cons r' rr =>
      cases rr with
      | cons r'' rr =>
        cases rr
        cases r
        cases r'
        cases r''
        obtain ⟨its, rv, p1, _⟩ := I1.list hqx
        obtain ⟨its2, rv2, p2, _⟩ := I1.list hqy
        obtain ⟨its3, rv3, p3, _⟩ := I1.list hqz
        have la : a < s1.heap.objs.size := p1.lt
        have lb : b < s1.heap.objs.size := p2.lt
        have lc : c < s1.heap.objs.size := p3.lt
        refine call3 p1.isList p2.isList p3.isList fun h' hz hTI hTO h1 h2 h3 hk => wpAny_pyIter_zip hz ?_
        have I2 : Inv X pins σ H1 { s1 with heap := h' } := I1.kept (t' := s1.toks) hk
        have D := apart3 s1.heap.objs.size a b c la lb lc
        refine ⟨s1.heap.objs.size + 5, [s1.heap.objs.size + 5, s1.heap.objs.size + 3, s1.heap.objs.size + 4, s1.heap.objs.size, s1.heap.objs.size + 1, s1.heap.objs.size + 2], _, _, H1, rfl, I2, turn3 D, ⟨hz, hTI, ⟨_, _, _, hTO⟩, h1, h2, h3⟩, fun d hdm => ?_, q⟩
        have hle : s1.heap.objs.size ≤ d := by
          have e' : d = s1.heap.objs.size + 5 ∨ d = s1.heap.objs.size + 3 ∨ d = s1.heap.objs.size + 4 ∨ d = s1.heap.objs.size ∨ d = s1.heap.objs.size + 1 ∨ d = s1.heap.objs.size + 2 := by simpa using hdm
          rcases e' with z | z | z | z | z | z
          · rw [z]; exact Nat.le_add_right _ _
          · rw [z]; exact Nat.le_add_right _ _
          · rw [z]; exact Nat.le_add_right _ _
          · rw [z]; exact Nat.le_refl _
          · rw [z]; exact Nat.le_add_right _ _
          · rw [z]; exact Nat.le_add_right _ _
        exact I1.fpOk hle (I1.hok.fresh hle)
theorem FLzip3 {K : PySem.W.Frag} {a b c : Addr} {xs ys zs : List V} {g : TG} {tb : TS} {D : Ends} {σ : L2.St} {H : Hp} (Pv : Nat → L2.St → Hp → Prop) (h0 : Pv 0 σ H) (hl : ∀ i σ H, Pv i σ H → SqL K H a xs ∧ SqL K H b ys ∧ SqL K H c zs)
    (hs : ∀ i x y z σ H T, xs[i]? = some x → ys[i]? = some y → zs[i]? = some z → Pv i σ H → H T = none → g (.ref T) σ (upd H T (.tup [x, y, z])) fun σ2 H2 => tb { D with nx := Pv (i + 1), ct := Pv (i + 1), bk := D.nx } σ2 H2)
    (hd : ∀ σ H, Pv (min xs.length (min ys.length zs.length)) σ H → D.nx σ H) : UbR.FL (It3 K a b c) g tb D σ H := by
  refine ⟨fun i m σ H => m = min xs.length (min ys.length zs.length) - i ∧ i ≤ min xs.length (min ys.length zs.length) ∧ Pv i σ H, ⟨_, rfl, Nat.zero_le _, h0⟩, ?_⟩
  rintro i m σ H ⟨rfl, hi, p⟩
  obtain ⟨q1, q2, q3⟩ := hl i σ H p
  by_cases hlt : i < min xs.length (min ys.length zs.length)
  · have h1 : i < xs.length := by omega
    have h2 : i < ys.length := by omega
    have h3 : i < zs.length := by omega
    refine .inr ⟨⟨xs, ys, zs, xs[i], ys[i], zs[i], q1, q2, q3, by simp [h1], by simp [h2], by simp [h3]⟩, Pv (i + 1), fun σ' H' p' => ⟨_, by omega, rfl, by omega, p'⟩, fun v H' y => ?_⟩
    obtain ⟨T, x, y, z, rfl, nT, rfl, hx, hy, hz⟩ := y
    exact hs i x y z σ H T (hx xs q1) (hy ys q2) (hz zs q3) p nT
  · have e : i = min xs.length (min ys.length zs.length) := by omega
    subst e
    exact .inl ⟨⟨xs, ys, zs, q1, q2, q3, by omega⟩, hd σ H p⟩
end UbZ

namespace UbS
open PySem PySem.Spec PyProof.Rows L2 Ub UbM NdefX
/-! ### super().__init__(..) of an own exception -/
abbrev mwV (x : Addr) : Obj := PySem.W.kxs_mw "ValueError.__init__" x
/-- what stands behind super() in the class at C -/
structure SupC (K : PySem.W.Frag) (C : Addr) : Prop where
  ho : PySem.W.nsIn K cStatics "thirdparty.any" = some none
  fi : PySem.W.ks_superIn K C C "__init__" = some (some (.builtin "ValueError.__init__"))
  sv : PySem.W.subIn K (.ref C) (.type "ValueError") = some true
  ss : PySem.W.mroIn K C (.ref C) = some true
def supB (K : PySem.W.Frag) (C : Addr) : Bool := He.eqO (PySem.W.nsIn K cStatics "thirdparty.any") (some none) && (He.eqO (PySem.W.ks_superIn K C C "__init__") (some (some (.builtin "ValueError.__init__"))) && (decide (PySem.W.subIn K (.ref C) (.type "ValueError") = some true) && decide (PySem.W.mroIn K C (.ref C) = some true)))
theorem supB_ok {K : PySem.W.Frag} {C : Addr} (h : supB K C = true) : SupC K C := by
  unfold supB at h
  obtain ⟨h1, h⟩ := He.ba h
  obtain ⟨h2, h⟩ := He.ba h
  obtain ⟨h3, h4⟩ := He.ba h
  exact ⟨He.eqO_ok h1, He.eqO_ok h2, of_decide_eq_true h3, of_decide_eq_true h4⟩
section
variable {X : Cx} {pins : List (Addr × Obj)} {σ : L2.St} {H : Hp} {s : Shared} {a C u : Addr} {E : Value → Shared → Prop}
theorem sinit_ok {us : List Value} {Q : Value → Shared → Prop} (T : OexC X.K C) (I : Inv X pins σ H s) (hu : s.heap.get? u = some (mwV a)) (e : H a = some (exo a C none)) (hl : us.length ≤ sizeLine) (h : ∀ s', Inv X pins σ H s' → Q .none s') :
    wpAny (model X.prog X.w) X.A (call (.ref u) us) Q E s := by
  obtain ⟨nm, q, N, bs, bm, sn, sub, ab, col, dd, k0, k1, k2, k3, k5, hC, hbm⟩ := T.cls
  obtain ⟨t1, ho⟩ := exo_at I.hok e
  have hCh := I.kIn _ _ hC
  obtain ⟨hp, g, d, t, os⟩ := s
  refine wpAny_call (codeAny_of_tree ?_)
  show wpAny _ X.A.in1 (callAny (.ref u) ⟨us, []⟩) _ _ _
  simp only [callAny]
  refine wpAny_bind (wpAny_load hu ?_)
  simp only [mwV, PySem.W.kxs_mw, show (Value.type "method-wrapper" == Value.type "method" || Value.type "method-wrapper" == Value.type "builtin_function_or_method" || Value.type "method-wrapper" == Value.type "method-wrapper") = true by decide, if_true]
  refine PySem.W.KFB.if_so (by decide) ?_
  refine wpAny_bind (PySem.W.check_bound_init F.excBase_ValueError.toExcCallFacts hCh ho rfl ?_)
  refine wpAny_bind (wpAny_pure (wpAny_pure ?_))
  refine ⟨plainId_quiet F.excBase_ValueError.init.plain _, codeAny_builtin F.excBase_ValueError.initEntry ?_⟩
  refine PySem.W.exc_init_tree (cls := .ref C) (t0 := t1) (dv := none) (c2 := .none) (c3 := .none) (b4 := .bool false) ho hl (fun h' k hx _ => ?_)
  have J := I.write (t' := t) (x := a) (e := a) (o := exo a C none) (by rw [e]; exact True.intro) (.inl rfl) k ⟨_, hx⟩ (exo_ok hx)
  have eu : upd H a (exo a C none) = H := by
    funext b
    by_cases hb : b = a
    · rw [hb, upd_same, e]
    · rw [upd_ne hb]
  rw [eu] at J
  exact h _ J
end
/-- a method whose text says super(), of the class at C -/
structure FunS (K : PySem.W.Frag) (C : Addr) (file : Str) (x qual : Str) (params : Arguments) (body : List Stmt) (scope : Scope) (f : Addr) (fd : FuncData) : Prop where
  ex : ∃ (oc : Value) (od : Option Addr) (doc pm : Value) (an : Option Addr) (cda cc : Addr) (ct : Value) (osl : Array (Option Value)),
    fd = PySem.W.fnX x qual params body scope [("__class__", cc)] .none .none doc pm an (.ref cda) ct ∧ K.lookup f = some ⟨oc, od, .func fd, osl⟩ ∧ PySem.W.codeIn K (.ref cda) qual = true ∧
    (∃ (c1 : Value) (d1 : Option Addr) (vs : Array Value) (s1 : Array (Option Value)) (tf : Tok), K.lookup cda = some ⟨c1, d1, .fields vs, s1⟩ ∧ vs[2]? = some (.str file tf)) ∧
    ∃ (c2 : Value) (d2 : Option Addr) (s2 : Array (Option Value)), K.lookup cc = some ⟨c2, d2, .cell (some (.ref C)), s2⟩
theorem FunS.bindsN {K : PySem.W.Frag} {C : Addr} {file x qual : Str} {params : Arguments} {body : List Stmt} {scope : Scope} {f : Addr} {fd : FuncData} {ps : List Str} (F : FunS K C file x qual params body scope f fd)
    (h : ∀ (cc : Addr) (doc pm : Value) (an : Option Addr) (cdv ct : Value) (us : List Value), us.length = ps.length → bindArgs (PySem.W.fnX x qual params body scope [("__class__", cc)] .none .none doc pm an cdv ct) ⟨us, []⟩ = pure (ps.zip us)) : Binds K fd ps [] := by
  obtain ⟨oc, od, doc, pm, an, cda, cc, ct, osl, rfl, _⟩ := F.ex
  exact .all (h cc doc pm an (.ref cda) ct)
abbrev nfS (x qual : Str) (params : Arguments) (body : List Stmt) (scope : Scope) (cc cda : Addr) : NF := ⟨x, qual, params, body, scope, [("__class__", cc)], cda⟩
abbrev supStmt (p0 p1 p2 p3 p4 : Pos) (e : Expr) : Stmt := .Expr (.Call (.Attribute (.Call (.Name "super" p0) [] [] p1) "__init__" p2) [e] [] p3) p4
section
variable {P : Program} {w : World} {K : PySem.W.Frag} {mg : Str → Option Value} {base : Heap} {CX : CXT} {N ps : List Str} {k : Nat} {sp : Sp} {C f : Addr} {fd : FuncData} {file x qual : Str} {params : Arguments} {rest : List Stmt} {scope : Scope} {e : Expr} {p0 p1 p2 p3 p4 : Pos} {self : Str}
theorem FunS.ok {pl : Sem Bool} (F : FunS K C file x qual params (supStmt p0 p1 p2 p3 p4 e :: rest) scope f fd) (B : SupC K C) (T : OexC K C) (hsup : mg "super" = none) (hfile : (P.main.file == file) = true) (htop : (P.main.scope.names.lookup ("super" : Str)).isSome = false)
    (S : NScope N ps ["__class__"] scope) (hks : scope.names.lookup ("super" : Str) = some .globalImplicit) (hN : N[0]? = some self) (hself : ps[0]? = some self) (hp : ((params.posonlyargs ++ params.args).head?).map (·.arg) = some self)
    (hi : ∀ cc cda L, interactive (envF (nfS x qual params (supStmt p0 p1 p2 p3 p4 e :: rest) scope cc cda) f L) = false)
    (hs : ∀ cc cda L, swapsWith (.Call (.Attribute (.Call (.Name "super" p0) [] [] p1) "__init__" p2) [e] [] p3) none p4.line (envF (nfS x qual params (supStmt p0 p1 p2 p3 p4 e :: rest) scope cc cda) f L) = pure false)
    (he : ∀ cc cda L, eval (.Call (.Attribute (.Call (.Name "super" p0) [] [] p1) "__init__" p2) [e] [] p3) (envF (nfS x qual params (supStmt p0 p1 p2 p3 p4 e :: rest) scope cc cda) f L) = (do
      let ov ← attributeBase (.Call (.Name "super" p0) [] [] p1) "__init__" (envF (nfS x qual params (supStmt p0 p1 p2 p3 p4 e :: rest) scope cc cda) f L) (eval (.Call (.Name "super" p0) [] [] p1) (envF (nfS x qual params (supStmt p0 p1 p2 p3 p4 e :: rest) scope cc cda) f L))
      standAt p2.atName
      let (f', first) ← holding [ov] (getMethod ov "__init__" pl)
      callWith p3 f' first (backTo p3 (starEach [e] (envF (nfS x qual params (supStmt p0 p1 p2 p3 p4 e :: rest) scope cc cda) f L))) []))
    (hst : ∀ cc cda L, starEach [e] (envF (nfS x qual params (supStmt p0 p1 p2 p3 p4 e :: rest) scope cc cda) f L) = (false, eval e (envF (nfS x qual params (supStmt p0 p1 p2 p3 p4 e :: rest) scope cc cda) f L)) :: starEach [] (envF (nfS x qual params (supStmt p0 p1 p2 p3 p4 e :: rest) scope cc cda) f L))
    (len : ∀ vs H Q E, sp vs H Q E → vs.length = ps.length)
    (hb : ∀ (cc cda : Addr) (A : Around) (outer : List Env) (s : Shared) (H : Hp) (vs : List V) (Q : VK) (E : XK), Room k (A.deeper (envF (nfS x qual params (supStmt p0 p1 p2 p3 p4 e :: rest) scope cc cda) f s.heap.objs.size)) → sp vs H Q E →
      ∃ (te : TA) (ts : TS) (a : Addr) (us : List V), vs = .ref a :: us ∧ H a = some (exo a C none) ∧ PA (ncx CX P w K mg base N (nfS x qual params (supStmt p0 p1 p2 p3 p4 e :: rest) scope cc cda) f A outer s H E) [e] te ∧
        PSs (ncx CX P w K mg base N (nfS x qual params (supStmt p0 p1 p2 p3 p4 e :: rest) scope cc cda) f A outer s H E) rest ts ∧
        te (startF N vs [some (.ref C)]) H (fun us H1 => us.length ≤ 1000 ∧ H1 a = some (exo a C none) ∧ ts { nx := fun _ H' => Q .non H', rt := Q } (startF N vs [some (.ref C)]) H1)) :
    FnOk P w K mg base CX (k + 1) f fd ps sp := by
  refine ⟨len, fun A outer s H args us vs Q E hr e0 hbd r hsp => ?_⟩
  obtain ⟨oc, od, doc, pm, an, cda, cc, ct, osl, rfl, lk, hcd, ⟨c1, d1, vz, s1, tf, lkc, hv2⟩, c2, d2, s2, lkcc⟩ := F.ex
  have hl := len _ _ _ _ hsp
  have KX : K.In s.heap := e0.mod.kin.keeps fun b o e => (e0.bs b o e).1
  have lim : s.heap.NoLimit := e0.mod.nolimit.keeps fun b o e => (e0.bs b o e).1
  refine codeAny_call_function hr.depth (KX _ _ lk) rfl S.co S.gen rfl (PySem.W.codeRec_of KX hcd) (hbd _ _ _ _ ?_)
  refine wpAny_newFunctionEnv S.nocell (fun ⟨n, _⟩ hy => S.par n (List.of_mem_zip hy).1) (fun h₁ hns hsb => ⟨lim.fresh _ hsb, ?_⟩) S.kind
  show codeAny _ _ (.func (supStmt p0 p1 p2 p3 p4 e :: rest) (envF (nfS x qual params (supStmt p0 p1 p2 p3 p4 e :: rest) scope cc cda) f s.heap.objs.size)) _ _
  refine ks_codeAny_funcAt ?_
  have kp : ∀ b o, s.heap.get? b = some o → h₁.get? b = some o := fun b o e => hsb.extBut b o (Nat.ne_of_lt (Heap.lt_size e)) (Heap.get?_push_of_some _ e)
  have bcc := e0.bs _ _ (e0.mod.kin _ _ lkcc)
  have Cl : CellsAt [("__class__", cc)] ["__class__"] [some (.ref C)] s.heap H := by
    have key : ∀ {y : Str} {c : Addr}, List.lookup y [(("__class__" : Str), cc)] = some c → y = "__class__" ∧ c = cc := fun {y c} hy => by
      have hm := PySem.mem_of_lookup hy
      rcases List.mem_cons.mp hm with z | z
      · cases z
        exact ⟨rfl, rfl⟩
      · cases z
    refine ⟨rfl, fun y c hy => ?_, fun x y c hx hy => (key hx).1.trans (key hy).1.symm, fun i y hy => ?_⟩
    · obtain ⟨_, rfl⟩ := key hy
      exact ⟨bcc.2, _, _, bcc.1, rfl⟩
    · cases i with
      | succ i => cases hy
      | zero =>
        cases hy
        refine ⟨cc, rfl, fun v hv => ?_⟩
        cases hv
        exact ⟨.ref C, rfl, _, bcc.1, rfl⟩
  obtain ⟨te, ts, a, us', rfl, ha, hte, hts, q⟩ := hb cc cda A outer s H vs Q E (hr.deeper _) hsp
  have I0 : Inv (ncx CX P w K mg base N (nfS x qual params (supStmt p0 p1 p2 p3 p4 e :: rest) scope cc cda) f A outer s H E) [] (startF N (.ref a :: us') [some (.ref C)]) H { s with heap := h₁, toks := s.toks + (ps.zip us).length } := inv_startN S hr.hd e0 hl r Cl hns kp
  obtain ⟨t1, ho⟩ := exo_at I0.hok ha
  have hkc : scope.names.lookup ("__class__" : Str) = some .free := S.frk _ (List.mem_singleton.mpr rfl)
  obtain ⟨ar, har, hself'⟩ := Option.map_eq_some_iff.mp hp
  have hka : scope.names.lookup ar.arg = some .local := by
    rw [hself']
    exact S.par _ (List.mem_of_getElem? hself)
  have K1 : K.In h₁ := I0.kIn
  obtain ⟨mb, hmb, hmb'⟩ := I0.mod.blt
  have hv : (ps.zip us).reverse.lookup ar.arg = some (.ref a) := by
    rw [hself']
    have ndP : ps.Nodup := by
      have q := S.nd.sublist (List.take_sublist (ps.length + 1) N)
      rw [show N.take (ps.length + 1) = ps ++ [("__class__" : Str)] from S.pre] at q
      exact (List.nodup_append.mp q).1
    obtain ⟨u0, hu0, ru0⟩ := r.get (i := 0) (x := .ref a) rfl
    have e1 : u0 = .ref a := ru0
    rw [e1] at hu0
    exact zip_look ndP hself hu0
  obtain ⟨nm, qq, NN, bs, bm, sn, sub, ab, col, dd, k0, k1, k2, k3, k5, hC, hbm⟩ := T.cls
  have hCh := K1 _ _ hC
  refine ks_wpAt_execs_cons (ks_wpAt_Expr_any ?_ (hi _ _ _) (hs _ _ _))
  refine ks_wpAt_MethodCall ?_ (he _ _ _)
  refine ks_wpAt_super_base hks hkc rfl rfl (K1 _ _ lk) rfl har rfl (K1 _ _ lkc) rfl hv2 hfile htop ?_
  refine PySem.W.ks_loadName_global S.kind hks (PySem.Calls.loadGlobal_builtin (I0.mod.glob.keeps I0.bk) hsup (hmb.keeps I0.bk) ((hmb' _ (by decide)).trans (by kernel_rfl : bootBuiltins "super" = some (.type "super"))) ⟨rfl, ?_⟩)
  refine wpAny_loadName_free S.kind hkc rfl ⟨_, K1 _ _ lkcc, rfl⟩ ?_
  refine wpAny_loadName_local S.kind hka hns hv ?_
  refine ks_wpAny_isType_cls hCh rfl ⟨rfl, ?_⟩
  refine ks_wpAny_call_super hCh rfl ho rfl (fun c e => by cases e) (PySem.W.looks_mroIn K1 B.ss) (fun h' hso k => ?_)
  have I1 : Inv (ncx CX P w K mg base N (nfS x qual params (supStmt p0 p1 p2 p3 p4 e :: rest) scope cc cda) f A outer s H E) [] (startF N (.ref a :: us') [some (.ref C)]) H { s with heap := h', toks := s.toks + (ps.zip us).length } := I0.kept k
  have K2 : K.In h' := I1.kIn
  cases hcl : PySem.W.clsIn K C with
  | none =>
    have z := B.fi
    unfold PySem.W.ks_superIn at z
    rw [hcl] at z
    cases z
  | some cd =>
    have hf := B.fi
    unfold PySem.W.ks_superIn at hf
    rw [hcl] at hf
    have IA : PySem.W.InstAt h' a { cls := .ref C, dict := none, data := .fields #[.ref t1, .none, .none, .none, .bool false, .none] } C none := ⟨k _ _ ho, rfl, rfl, trivial⟩
    refine PySem.W.kxs_getMethod PySem.W.kxs_ValueError hso (PySem.W.looks_opaque K2 B.ho) (l₀ := cd.mro) (fun A Q E s k q => wpAny_bind ((PySem.W.looks_clsIn K2 hcl) A _ E s k (wpAny_pure q))) rfl K2 hf (IA.type.andThen (PySem.W.looks_subIn K2 B.sv)) (PySem.W.ks_ne K2 IA hcl) rfl ?_
    have hpush : ∀ b o, h'.get? b = some o → (h'.push (mwV a)).get? b = some o := fun b o e => Heap.get?_push_of_some _ e
    have hu : (h'.push (mwV a)).get? h'.objs.size = some (mwV a) := Heap.get?_push_at rfl rfl
    have nu : h'.objs.size ≠ s.heap.objs.size := fun z => absurd I1.lt (by
      show ¬ s.heap.objs.size < h'.objs.size
      rw [z]
      exact Nat.lt_irrefl _)
    have hH : H h'.objs.size = none := I1.hok.fresh (Nat.le_refl _)
    have nfs := I1.nofs (Nat.le_refl h'.objs.size)
    have I3 : Inv (ncx CX P w K mg base N (nfS x qual params (supStmt p0 p1 p2 p3 p4 e :: rest) scope cc cda) f A outer s H E) [(h'.objs.size, mwV a)] (startF N (.ref a :: us') [some (.ref C)]) H { s with heap := h'.push (mwV a), toks := s.toks + (ps.zip us).length + 1 } :=
      { (I1.kept (t' := s.toks + (ps.zip us).length + 1) hpush) with
        pin := fun p hp => by
          have hp : p ∈ ([] : List (Addr × Obj)) ++ [(h'.objs.size, mwV a)] := hp
          rw [List.nil_append] at hp
          obtain rfl := List.mem_singleton.mp hp
          exact ⟨hu, hH, nu, nfs, fun v z => by cases z⟩ }
    have bn : base.get? h'.objs.size = none := by
      cases z : base.get? h'.objs.size with
      | none => rfl
      | some o => exact absurd (Heap.lt_size (k _ _ (kp _ _ (e0.bs _ _ z).1))) (Nat.lt_irrefl _)
    refine PySem.W.kxs_callWith1 (i := "ValueError.__init__") (x := a) (h₀ := base) (L := s.heap.objs.size) (news := [(h'.objs.size, mwV a)]) (fun p hp => by
      obtain rfl := List.mem_singleton.mp hp
      exact ⟨hu, nu, bn⟩) (List.mem_singleton.mpr rfl) (thn (hte.run p3 [(h'.objs.size, mwV a)] _ _ _ _ I3 q) fun us2 s2 ⟨ws, H1, I4, r4, hl4, ha4, q4⟩ => ?_) (hst _ _ _) rfl
    have hp4 := (I4.pin (h'.objs.size, mwV a) (by
      show _ ∈ ([] : List (Addr × Obj)) ++ [(h'.objs.size, mwV a)]
      simp)).1
    refine ⟨hp4, sinit_ok T I4 hp4 ha4 (by
      rw [← r4.length, sizeLine_eq]
      omega) fun s' J => ?_⟩
    have J2 : Inv (ncx CX P w K mg base N (nfS x qual params (supStmt p0 p1 p2 p3 p4 e :: rest) scope cc cda) f A outer s H E) [] (startF N (.ref a :: us') [some (.ref C)]) H1 s' :=
      { J with pin := fun p hp => absurd (show p ∈ ([] : List (Addr × Obj)) ++ [] from hp) (by simp) }
    refine wpAt_of_wpAny (wpAny_mono (hts.run [] s' _ H1 _ J2 q4) (fun fl s' hs => ?_) fun e s' hs => hs)
    have fin : ∀ {σ' : L2.St} {H' : Hp} {v : V} {u : Value}, Inv (ncx CX P w K mg base N (nfS x qual params (supStmt p0 p1 p2 p3 p4 e :: rest) scope cc cda) f A outer s H E) [] σ' H' s' → L2.RelV v u → Q v H' → CE outer P w H s Q u s' :=
      fun {σ' H' v u} J rv q => ⟨v, H', J.os, J.bare, J.base, J.hok, rv, q⟩
    cases fl with
    | ret u =>
      obtain ⟨v, σ', H', J, rv, q⟩ := hs
      exact fin J rv q
    | next =>
      obtain ⟨σ', H', J, q⟩ := hs
      exact fin (v := V.non) (u := Value.none) J rfl q
    | brk =>
      obtain ⟨_, _, _, q⟩ := hs
      exact False.elim q
    | cont =>
      obtain ⟨_, _, _, q⟩ := hs
      exact False.elim q
end
/-! ### the Hook: the table cStatics too, and the methods that say super() -/
abbrev FnWS : Type := Option (Str × Str × Arguments × FuncBody × Scope × Addr × List Str × Addr)
def fnWS (K : PySem.W.Frag) (d : He.DefD) : FnWS := match K.lookup (He.fAd K d.at_) with
  | some ⟨_, _, .func fd, _⟩ => some (fd.name, fd.qualname, fd.params, fd.body, fd.scope, fd.globals, fd.closure.map (·.1), fd.builtins)
  | _ => none
def valS (d : He.DefD) : FnWS := some (d.name, d.qual, d.params, .stmts d.body, d.scope, mainGlobals, ["__class__"], builtinsNs)
def fileB (K : PySem.W.Frag) (file : Str) (cd : Value) : Bool := match cd with
  | .ref c => (match K.lookup c with
    | some ⟨_, _, .fields vs, _⟩ => (match (vs[2]? : Option Value) with
      | some (.str y _) => decide (y = file)
      | _ => false)
    | _ => false)
  | _ => false
def cellB (K : PySem.W.Frag) (C : Addr) (cl : List (Str × Addr)) : Bool := match cl with
  | [(_, cc)] => (match K.lookup cc with
    | some ⟨_, _, .cell (some (.ref D)), _⟩ => decide (D = C)
    | _ => false)
  | _ => false
def supDefB (K : PySem.W.Frag) (file : Str) (d : He.DefD) : Bool := match K.lookup (He.fAd K d.at_) with
  | some ⟨_, _, .func fd, _⟩ => PySem.W.codeIn K fd.code d.qual && (decide (fd.defaults = .none) && (decide (fd.kwdefaults = .none) && (fileB K file fd.code && cellB K (He.ga K d.at_.1) fd.closure)))
  | _ => false
theorem fileB_ok {K : PySem.W.Frag} {file : Str} {cd : Value} (h : fileB K file cd = true) : ∃ cda, cd = .ref cda ∧ ∃ (c1 : Value) (d1 : Option Addr) (vs : Array Value) (s1 : Array (Option Value)) (tf : Tok), K.lookup cda = some ⟨c1, d1, .fields vs, s1⟩ ∧ vs[2]? = some (.str file tf) := by
  unfold fileB at h
  split at h
  · rename_i c
    split at h
    · rename_i vs _ ho
      split at h
      · rename_i y t hv
        have e := of_decide_eq_true h
        subst e
        exact ⟨c, rfl, _, _, vs, _, t, ho, hv⟩
      · cases h
    · cases h
  · cases h
theorem cellB_ok {K : PySem.W.Frag} {C : Addr} {cl : List (Str × Addr)} (h : cellB K C cl = true) : ∃ n cc, cl = [(n, cc)] ∧ ∃ (c2 : Value) (d2 : Option Addr) (s2 : Array (Option Value)), K.lookup cc = some ⟨c2, d2, .cell (some (.ref C)), s2⟩ := by
  unfold cellB at h
  split at h
  · rename_i n cc
    split at h
    · rename_i D _ ho
      have e := of_decide_eq_true h
      subst e
      exact ⟨n, cc, rfl, _, _, _, ho⟩
    · cases h
  · cases h
theorem funS_of {K : PySem.W.Frag} {file : Str} {d : He.DefD} (e : fnWS K d = valS d) (c : supDefB K file d = true) : ∃ fd, FunS K (He.ga K d.at_.1) file d.name d.qual d.params d.body d.scope (He.fAd K d.at_) fd := by
  unfold supDefB at c
  unfold fnWS at e
  split at c
  · rename_i oc od fd osl ho
    rw [ho] at e
    obtain ⟨c1, c⟩ := He.ba c
    obtain ⟨c2, c⟩ := He.ba c
    obtain ⟨c3, c⟩ := He.ba c
    obtain ⟨c4, c5⟩ := He.ba c
    obtain ⟨cda, e4, r4⟩ := fileB_ok c4
    obtain ⟨n, cc, e5, r5⟩ := cellB_ok c5
    refine ⟨fd, ?_⟩
    obtain ⟨nm, qn, ps, bd, sc, gl, cl, dv, kv, doc, pm, an, cd, ct, bl⟩ := fd
    dsimp only at e c1 c2 c3 e4 e5
    have e := Option.some.inj e
    have e2 := of_decide_eq_true c2
    have e3 := of_decide_eq_true c3
    subst e4 e5 e2 e3
    have e : (nm, qn, ps, bd, sc, gl, [n], bl) = (d.name, d.qual, d.params, FuncBody.stmts d.body, d.scope, mainGlobals, [("__class__" : Str)], builtinsNs) := e
    simp only [Prod.mk.injEq, List.cons.injEq, and_true] at e
    obtain ⟨z1, z2, z3, z4, z5, z6, z7, z8⟩ := e
    subst z1 z2 z3 z4 z5 z6 z7 z8
    exact ⟨_, _, _, _, _, cda, cc, _, _, rfl, ho, c1, r4, r5⟩
  · cases c
abbrev AlS : Type := He.AlX × List FnWS
def asS (g : Addr → Option Obj) (n : Nat) : List Addr := He.asD g n ++ [cStatics]
def obsK (fa : List He.Fa) (fn : List He.DefD) (tf : List He.Defn) (fs : List He.DefD) (ex : PySem.W.Frag → Bool) (g : Addr → Option Obj) (K : PySem.W.Frag) : AlS := ((He.obsT fa fn [] K, ex K && He.tabsB g tf K), fs.map fun d => fnWS K d)
def obsS (n : Nat) (fa : List He.Fa) (fn : List He.DefD) (tf : List He.Defn) (fs : List He.DefD) (ex : PySem.W.Frag → Bool) (g : Addr → Option Obj) : AlS := obsK fa fn tf fs ex g (He.frT g (asS g n))
def valSS (fn : List He.DefD) (fs : List He.DefD) (w : World) : AlS := (He.valX fn [] w, fs.map valS)
structure SaysS (fa : List He.Fa) (fn : List He.DefD) (tf : List He.Defn) (fs : List He.DefD) (ex : PySem.W.Frag → Bool) (w : World) (h : Heap) (K : PySem.W.Frag) : Prop where
  x : He.SaysX fa fn [] tf ex w h K
  s : fs.map (fun d => fnWS K d) = fs.map valS
theorem SaysS.def_ {fa : List He.Fa} {fn fs : List He.DefD} {tf : List He.Defn} {ex : PySem.W.Frag → Bool} {w : World} {h : Heap} {K : PySem.W.Frag} (c : SaysS fa fn tf fs ex w h K) (i : Nat) {d : He.DefD} (hd : fs[i]? = some d) : fnWS K d = valS d := by
  have e2 : (fs.map fun d => fnWS K d)[i]? = (fs.map valS)[i]? := by rw [c.s]
  rw [List.getElem?_map, List.getElem?_map, hd] at e2
  exact Option.some.inj e2
theorem saysS_of {n : Nat} {fa : List He.Fa} {fn fs : List He.DefD} {tf : List He.Defn} {ex : PySem.W.Frag → Bool} {w : World} {h : Heap} (e : obsS n fa fn tf fs ex h.get? = valSS fn fs w) : SaysS fa fn tf fs ex w h (He.frT h.get? (asS h.get? n)) := by
  have e0 : (He.obsT fa fn [] (He.frT h.get? (asS h.get? n)), ex (He.frT h.get? (asS h.get? n)) && He.tabsB h.get? tf (He.frT h.get? (asS h.get? n))) = He.valX fn [] w := congrArg (fun z : AlS => z.1) e
  have e3 : fs.map (fun d => fnWS (He.frT h.get? (asS h.get? n)) d) = fs.map valS := congrArg (fun z : AlS => z.2) e
  have e1 : He.obsT fa fn [] (He.frT h.get? (asS h.get? n)) = He.valT fn [] w := congrArg (fun z : He.AlX => z.1) e0
  have e2 : (ex (He.frT h.get? (asS h.get? n)) && He.tabsB h.get? tf (He.frT h.get? (asS h.get? n))) = true := congrArg (fun z : He.AlX => z.2) e0
  obtain ⟨h1, h2⟩ := He.ba e2
  have tab : ∀ p ∈ tf, PySem.W.codeHdIn (He.frT h.get? (asS h.get? n)) (He.cT (He.frT h.get? (asS h.get? n)) p).1 (He.cT (He.frT h.get? (asS h.get? n)) p).2 = true ∧ ∃ o, h.get? (He.cT (He.frT h.get? (asS h.get? n)) p).2 = some o ∧ He.emptyTab o = true := fun p hp => by
    obtain ⟨h3, h4⟩ := He.ba (List.all_eq_true.mp h2 p hp)
    refine ⟨h3, ?_⟩
    split at h4
    · rename_i o q
      exact ⟨o, q, h4⟩
    · cases h4
  refine ⟨⟨e1, h1, fun p hp => (tab p hp).1, fun p hp => ?_, fun p hp => ?_⟩, e3⟩
  · obtain ⟨_, o, q, z⟩ := tab p hp
    exact He.frT_none q z
  · obtain ⟨_, o, q, z⟩ := tab p hp
    rw [q, He.emptyTab_eq z]
def hookS (n : Nat) (fa : List He.Fa) (fn : List He.DefD) (tf : List He.Defn) (fs : List He.DefD) (ex : PySem.W.Frag → Bool) : PySem.W.Hook where
  α := AlS
  obs := fun s => obsS n fa fn tf fs ex s.heap.get?
  val := fun w => valSS fn fs w
  says := fun w h => ∃ K : PySem.W.Frag, K.In h ∧ SaysS fa fn tf fs ex w h K
  of := fun _ _ e => ⟨_, He.frT_in, saysS_of e⟩
  keeps := fun _ _ _ ⟨K, hK, c⟩ k => ⟨K, PySem.W.Frag.In.keeps hK k, ⟨⟨c.x.t, c.x.more, c.x.hd, c.x.out, fun p hp => k _ _ (c.x.empty p hp)⟩, c.s⟩⟩
theorem obsS_eq {n : Nat} {fa : List He.Fa} {fn fs : List He.DefD} {tf : List He.Defn} {ex : PySem.W.Frag → Bool} {g : Addr → Option Obj} {s : Shared} (h : ∀ a, g a = s.heap.get? a) : obsS n fa fn tf fs ex g = (hookS n fa fn tf fs ex).obs s := by
  have e : g = s.heap.get? := funext h
  rw [e] <;> rfl
end UbS

namespace UbK
open PySem PySem.Spec PyProof.Rows L2 Ub UbM UbR
def topS (i : Nat) : Stmt := PySem.Challenge.pw_unbent_k08_points_of_a_program.main.body.getD i (.Pass ⟨0, 0, 0, 0⟩)
def topM (i j : Nat) : Stmt := match topS i with
  | .ClassDef _ _ _ body _ _ _ _ _ _ _ => body.getD j (.Pass ⟨0, 0, 0, 0⟩)
  | _ => .Pass ⟨0, 0, 0, 0⟩
abbrev s_make : Stmt := topS 7
abbrev N_make : List Str := ["p", "q", "common"]
theorem sc_make : FnScope N_make ["p", "q"] (defScope s_make) := ⟨rfl, rfl, rfl, by decide +kernel, rfl, by decide +kernel, by decide +kernel⟩
abbrev s_add : Stmt := topS 8
abbrev N_add : List Str := ["a", "b"]
theorem sc_add : FnScope N_add ["a", "b"] (defScope s_add) := ⟨rfl, rfl, rfl, by decide +kernel, rfl, by decide +kernel, by decide +kernel⟩
abbrev s_multiply : Stmt := topS 9
abbrev N_multiply : List Str := ["a", "b"]
theorem sc_multiply : FnScope N_multiply ["a", "b"] (defScope s_multiply) := ⟨rfl, rfl, rfl, by decide +kernel, rfl, by decide +kernel, by decide +kernel⟩
abbrev s_sign : Stmt := topS 10
abbrev N_sign : List Str := ["a"]
theorem sc_sign : FnScope N_sign ["a"] (defScope s_sign) := ⟨rfl, rfl, rfl, by decide +kernel, rfl, by decide +kernel, by decide +kernel⟩
abbrev s_compare : Stmt := topS 11
abbrev N_compare : List Str := ["a", "b"]
theorem sc_compare : FnScope N_compare ["a", "b"] (defScope s_compare) := ⟨rfl, rfl, rfl, by decide +kernel, rfl, by decide +kernel, by decide +kernel⟩
abbrev s_dot : Stmt := topS 12
abbrev N_dot : List Str := ["first", "second", "found", "a", "b"]
theorem sc_dot : FnScope N_dot ["first", "second"] (defScope s_dot) := ⟨rfl, rfl, rfl, by decide +kernel, rfl, by decide +kernel, by decide +kernel⟩
abbrev s__check_size : Stmt := topS 18
abbrev N__check_size : List Str := ["variables", "rows"]
theorem sc__check_size : FnScope N__check_size ["variables", "rows"] (defScope s__check_size) := ⟨rfl, rfl, rfl, by decide +kernel, rfl, by decide +kernel, by decide +kernel⟩
abbrev s__check_form : Stmt := topS 19
abbrev N__check_form : List Str := ["variables", "free", "goal", "rows", "numbers", "relation", "_"]
theorem sc__check_form : FnScope N__check_form ["variables", "free", "goal", "rows"] (defScope s__check_form) := ⟨rfl, rfl, rfl, by decide +kernel, rfl, by decide +kernel, by decide +kernel⟩
abbrev s_Program___init__ : Stmt := topM 17 0
abbrev N_Program___init__ : List Str := ["self", "variables", "free", "goal", "rows", "numbers", "relation", "bound"]
theorem sc_Program___init__ : FnScope N_Program___init__ ["self", "variables", "free", "goal", "rows"] (defScope s_Program___init__) := ⟨rfl, rfl, rfl, by decide +kernel, rfl, by decide +kernel, by decide +kernel⟩
abbrev s_agrees : Stmt := topS 20
abbrev N_agrees : List Str := ["relation", "order"]
theorem sc_agrees : FnScope N_agrees ["relation", "order"] (defScope s_agrees) := ⟨rfl, rfl, rfl, by decide +kernel, rfl, by decide +kernel, by decide +kernel⟩
abbrev s_keeps_signs : Stmt := topS 21
abbrev N_keeps_signs : List Str := ["program", "point", "free", "item"]
theorem sc_keeps_signs : FnScope N_keeps_signs ["program", "point"] (defScope s_keeps_signs) := ⟨rfl, rfl, rfl, by decide +kernel, rfl, by decide +kernel, by decide +kernel⟩
abbrev s_fits_rows : Stmt := topS 22
abbrev N_fits_rows : List Str := ["program", "rows", "point", "numbers", "relation", "bound"]
theorem sc_fits_rows : FnScope N_fits_rows ["program", "rows", "point"] (defScope s_fits_rows) := ⟨rfl, rfl, rfl, by decide +kernel, rfl, by decide +kernel, by decide +kernel⟩
abbrev s_fits : Stmt := topS 23
abbrev N_fits : List Str := ["program", "point"]
theorem sc_fits : FnScope N_fits ["program", "point"] (defScope s_fits) := ⟨rfl, rfl, rfl, by decide +kernel, rfl, by decide +kernel, by decide +kernel⟩
abbrev s_value_of : Stmt := topS 24
abbrev N_value_of : List Str := ["program", "point"]
theorem sc_value_of : FnScope N_value_of ["program", "point"] (defScope s_value_of) := ⟨rfl, rfl, rfl, by decide +kernel, rfl, by decide +kernel, by decide +kernel⟩
abbrev s_with_rows : Stmt := topS 25
abbrev N_with_rows : List Str := ["program", "rows"]
theorem sc_with_rows : FnScope N_with_rows ["program", "rows"] (defScope s_with_rows) := ⟨rfl, rfl, rfl, by decide +kernel, rfl, by decide +kernel, by decide +kernel⟩
abbrev s__law_mix : Stmt := topS 27
abbrev N__law_mix : List Str := ["number", "k"]
theorem sc__law_mix : FnScope N__law_mix ["number", "k"] (defScope s__law_mix) := ⟨rfl, rfl, rfl, by decide +kernel, rfl, by decide +kernel, by decide +kernel⟩
abbrev s__law_numbers : Stmt := topS 28
abbrev N__law_numbers : List Str := ["script", "count", "row", "base", "cell", "rest", "k"]
theorem sc__law_numbers : FnScope N__law_numbers ["script", "count"] (defScope s__law_numbers) := ⟨rfl, rfl, rfl, by decide +kernel, rfl, by decide +kernel, by decide +kernel⟩
abbrev s__law_take : Stmt := topS 29
abbrev N__law_take : List Str := ["row", "bound"]
theorem sc__law_take : FnScope N__law_take ["row", "bound"] (defScope s__law_take) := ⟨rfl, rfl, rfl, by decide +kernel, rfl, by decide +kernel, by decide +kernel⟩
abbrev s__law_lowest : Stmt := topS 31
abbrev N__law_lowest : List Str := ["p", "q", "first", "second", "k"]
theorem sc__law_lowest : FnScope N__law_lowest ["p", "q"] (defScope s__law_lowest) := ⟨rfl, rfl, rfl, by decide +kernel, rfl, by decide +kernel, by decide +kernel⟩
abbrev s__law_fraction : Stmt := topS 30
abbrev N__law_fraction : List Str := ["row", "choice"]
theorem sc__law_fraction : FnScope N__law_fraction ["row"] (defScope s__law_fraction) := ⟨rfl, rfl, rfl, by decide +kernel, rfl, by decide +kernel, by decide +kernel⟩
abbrev s__law_plus : Stmt := topS 32
abbrev N__law_plus : List Str := ["a", "b"]
theorem sc__law_plus : FnScope N__law_plus ["a", "b"] (defScope s__law_plus) := ⟨rfl, rfl, rfl, by decide +kernel, rfl, by decide +kernel, by decide +kernel⟩
abbrev s__law_times : Stmt := topS 33
abbrev N__law_times : List Str := ["a", "b"]
theorem sc__law_times : FnScope N__law_times ["a", "b"] (defScope s__law_times) := ⟨rfl, rfl, rfl, by decide +kernel, rfl, by decide +kernel, by decide +kernel⟩
abbrev s__law_less : Stmt := topS 34
abbrev N__law_less : List Str := ["a", "b"]
theorem sc__law_less : FnScope N__law_less ["a", "b"] (defScope s__law_less) := ⟨rfl, rfl, rfl, by decide +kernel, rfl, by decide +kernel, by decide +kernel⟩
abbrev s__law_dot : Stmt := topS 35
abbrev N__law_dot : List Str := ["first", "second", "found", "k"]
theorem sc__law_dot : FnScope N__law_dot ["first", "second"] (defScope s__law_dot) := ⟨rfl, rfl, rfl, by decide +kernel, rfl, by decide +kernel, by decide +kernel⟩
abbrev s__law_vector : Stmt := topS 38
abbrev N__law_vector : List Str := ["row", "count", "k"]
theorem sc__law_vector : FnScope N__law_vector ["row", "count"] (defScope s__law_vector) := ⟨rfl, rfl, rfl, by decide +kernel, rfl, by decide +kernel, by decide +kernel⟩
abbrev s__law_program : Stmt := topS 39
abbrev N__law_program : List Str := ["row", "most", "count", "k", "free", "goal", "rows", "word"]
theorem sc__law_program : FnScope N__law_program ["row", "most"] (defScope s__law_program) := ⟨rfl, rfl, rfl, by decide +kernel, rfl, by decide +kernel, by decide +kernel⟩
abbrev s__law_row_holds : Stmt := topS 41
abbrev N__law_row_holds : List Str := ["numbers", "word", "bound", "point", "value"]
theorem sc__law_row_holds : FnScope N__law_row_holds ["numbers", "word", "bound", "point"] (defScope s__law_row_holds) := ⟨rfl, rfl, rfl, by decide +kernel, rfl, by decide +kernel, by decide +kernel⟩
abbrev s__law_fits : Stmt := topS 42
abbrev N__law_fits : List Str := ["program", "point", "count", "free", "goal", "rows", "k", "numbers", "word", "bound"]
theorem sc__law_fits : FnScope N__law_fits ["program", "point"] (defScope s__law_fits) := ⟨rfl, rfl, rfl, by decide +kernel, rfl, by decide +kernel, by decide +kernel⟩
abbrev s__law_tight : Stmt := topS 46
abbrev N__law_tight : List Str := ["row", "program", "count", "free", "goal", "rows", "k", "point", "numbers", "word", "bound", "rest", "part"]
theorem sc__law_tight : FnScope N__law_tight ["row", "program"] (defScope s__law_tight) := ⟨rfl, rfl, rfl, by decide +kernel, rfl, by decide +kernel, by decide +kernel⟩
abbrev s_law : Stmt := topS 47
abbrev N_law : List Str := ["script", "row", "program", "count", "free", "goal", "rows", "lists", "made", "points", "point", "given", "actual", "more", "wider", "one", "word", "two"]
theorem sc_law : FnScope N_law ["script"] (defScope s_law) := ⟨rfl, rfl, rfl, by decide +kernel, rfl, by decide +kernel, by decide +kernel⟩
/-! ### words of my own for readings -/
local macro_rules | `(tactic| walk_at "un") => `(tactic| try dsimp only [L2.start, tVar, tC, tOp, tUn, tTest, tB, tAnd, tOr, tNot, tAndV, tOrV, tNotV, tIf, tNext, tSeq, tBreak, tCont, tDrop, tRet, tRetN, tIfS, tNever, gName, gNil, gCons, gSub, tAsg, tPar, tSl, tPart, tNoPart, tNil, tCons, tCall, tCallS, tCB, tBM, tBM0, tChain, tTupN, tLstN, gTup, Cx.nox, Cx.wish, cxOf, List.map, List.replicate, List.length, List.cons_append, List.nil_append, List.set, List.getElem?_cons_zero, List.getElem?_cons_succ, Nat.reduceAdd, Nat.reduceSub, N_make, N_add, N_multiply, N_sign, N_compare, N_dot, N__check_size, N__check_form, N_Program___init__, N_agrees, N_keeps_signs, N_fits_rows, N_fits, N_value_of, N_with_rows, N__law_mix, N__law_numbers, N__law_take, N__law_lowest, N__law_fraction, N__law_plus, N__law_times, N__law_less, N__law_dot, N__law_vector, N__law_program, N__law_row_holds, N__law_fits, N__law_tight, N_law])
local macro_rules | `(tactic| walk_at "dp") => `(tactic| first | assumption | exact .int _ | exact .bl _ | exact .str _ | exact .non | exact Ub.Dp.mono (by assumption) _ _ (by walk_at "dp"))
local macro_rules | `(tactic| walk_at "fr") => `(tactic| first | assumption | exact Ub.Fr.mono (by assumption) (by walk_at "fr"))
local macro_rules | `(tactic| walk_at "dps") => `(tactic| first | exact .nil | (refine' .cons ?j1 ?j2; (case j1 => walk_at "dp"); (case j2 => walk_at "dps")))
local macro_rules | `(tactic| walk_at "st") => `(tactic| first
  | (with_reducible refine ⟨_, rfl, ?_⟩)
  | (with_reducible refine rdAdd ?_)
  | (with_reducible refine rdSub ?_)
  | (with_reducible refine rdNeg ?_)
  | (with_reducible refine rdEqI ?_)
  | (with_reducible refine rdNeI ?_)
  | (with_reducible refine rdLt ?_)
  | (with_reducible refine rdGt ?_)
  | (with_reducible refine rdLe ?_)
  | (with_reducible refine rdGe ?_)
  | (with_reducible refine rdInt ?_)
  | (with_reducible refine rdIntB ?_)
  | (with_reducible refine rdAbs ?_)
  | (with_reducible refine rdGcd ?_)
  | (with_reducible refine rdEqB ?_)
  | (with_reducible refine rdEqS ?_)
  | (with_reducible refine rdNeS ?_)
  | ((with_reducible refine' ixFr0 ?k1 ?_); (case k1 => walk_at "fr"))
  | ((with_reducible refine' ixFr1 ?k1 ?_); (case k1 => walk_at "fr"))
  | ((with_reducible refine' ixP0 ?k1 ?_); (case k1 => walk_at "dp"))
  | ((with_reducible refine' ixP1 ?k1 ?_); (case k1 => walk_at "dp"))
  | ((with_reducible refine' rdIsN ?k1 ?_); (case k1 => walk_at "dp"))
  | ((with_reducible refine' rdNotN ?k1 ?_); (case k1 => walk_at "dp"))
  | ((with_reducible refine' isiInt ?k1 ?_); (case k1 => walk_at "dp"))
  | ((with_reducible refine' isiBool ?k1 ?_); (case k1 => walk_at "dp"))
  | ((with_reducible refine' isiStr ?k1 ?_); (case k1 => walk_at "dp"))
  | ((with_reducible refine' isiTup ?k1 ?_); (case k1 => walk_at "dp"))
  | ((with_reducible refine' isiLst ?k1 ?_); (case k1 => walk_at "dp"))
  | ((with_reducible refine' rdIxL ?k1 ?k2 ?_); (case k1 => first | assumption | exact .inl (.inl (by assumption)) | exact .inl (.inl upd_same)); (case k2 => exact rfl))
  | ((with_reducible refine' rdMul ?k1 ?_); (case k1 => first | exact .inl (.inr ⟨by decide, by decide⟩) | exact .inl (.inl ⟨by decide, by decide⟩) | exact mulW (by assumption) (by assumption) (by omega)))
  | ((with_reducible refine' rdLenL ?k1 ?_); (case k1 => first | assumption | exact .inl (.inl (by assumption))))
  | ((with_reducible refine' rdLenT ?k1 ?_); (case k1 => first | assumption | exact .inl (.inl (by assumption))))
  | (with_reducible refine rdMin2 ?_)
  | ((with_reducible refine' rdTupD (K := ‹PySem.W.Frag›) ?k1 ?k2 (fun _ _ _ _ => ?_)); (case k1 => walk_at "dps"); (case k2 => exact small_line (Nat.le_of_ble_eq_true rfl)))
  | (with_reducible refine ⟨_, by rfl, ?_⟩))
local macro_rules | `(tactic| walk_at "go") => `(tactic| repeat walk_at "st")
local macro_rules | `(tactic| walk_at "for") => `(tactic| try dsimp only [tFor, iRng1, iRng2, iList, iTup, tCons, tC, tNil, tVar, tOp, tCB, tUn, List.getElem?_cons_zero, List.getElem?_cons_succ])
local macro_rules | `(tactic| walk_at "ew") => `(tactic| (simp only [dInt, dBool, dStr, dTup, dLst, dNon, Bool.not_true, Bool.not_false, reduceIte, Bool.false_eq_true, Bool.true_eq_false, decide_true, decide_false, Bool.not_not, if_true, if_false, decide_eq_true_eq, true_and, and_true]))
local macro_rules | `(tactic| walk_at "ev") => `(tactic| try walk_at "ew")
local macro_rules | `(tactic| walk_at "gv") => `(tactic| repeat first | walk_at "st" | walk_at "ew")
local macro_rules | `(tactic| walk_at "it") => `(tactic| try dsimp only [iRng1, iRng2, iList, iTup, iZip, iEnum])
/-- what stands at the module's names -/
structure Tx (K : PySem.W.Frag) (mg : Str → Option Value) : Prop where
  n_abs : mg "abs" = none
  n_all : mg "all" = none
  n_int : mg "int" = none
  n_len : mg "len" = none
  n_list : mg "list" = none
  n_min : mg "min" = none
  n_range : mg "range" = none
  n_zip : mg "zip" = none
  g_gcd : mg "gcd" = some (.builtin "math.gcd")
  c__MOST_VARIABLES : ∃ t, mg "_MOST_VARIABLES" = some (.int 160 t)
  c__MOST_ROWS : ∃ t, mg "_MOST_ROWS" = some (.int 400 t)
  c__SIGNS : mg "_SIGNS" = some (.ref (He.ga K "_SIGNS")) ∧ ∀ H, SqT K H (He.ga K "_SIGNS") [V.str "at least", V.str "at most", V.str "exactly"]
  e_ZeroDenominator : ExcK K mg "ZeroDenominator"
  gc_Program : mg "Program" = some (.ref (He.ga K "Program"))
  cl_Program : Cls K (He.ga K "Program")
  na_Program_variables : PySem.W.findIn K (.ref (He.ga K "Program")) "variables" = some none
  na_Program_free : PySem.W.findIn K (.ref (He.ga K "Program")) "free" = some none
  na_Program_goal : PySem.W.findIn K (.ref (He.ga K "Program")) "goal" = some none
  na_Program_rows : PySem.W.findIn K (.ref (He.ga K "Program")) "rows" = some none
section
variable {P : Program} {w : World} {K : PySem.W.Frag} {mg : Str → Option Value} {base : Heap}
/-! ### make -/
/-- make(p, q): the fraction p / q; for q = 0 the error (E) -/
def sp_make (K : PySem.W.Frag) : Sp := fun vs H Q E => ∃ (p q : Int) (n : Nat), vs = [.int p, .int q] ∧ q.natAbs < 2 ^ n ∧ n < 9000 ∧ (q = 0 → E (.ref (He.ga K "ZeroDenominator")) none H) ∧ (q ≠ 0 → ∀ H' v, Same H H' → Fr K H' v (Rat.divInt p q) → Q v H')
theorem gcd_le_r {p q : Int} (h : q ≠ 0) : ((Nat.gcd p.natAbs q.natAbs : Nat) : Int).natAbs ≤ q.natAbs := Nat.le_of_dvd (by omega) (Nat.gcd_dvd_right ..)
theorem ok_make {f : Addr} {fd : FuncData} (T : Tx K mg) (F : FunD K "make" "make" (defArgs s_make) (defBody s_make) (defScope s_make) [V.int 1] [] f fd) : FnOk P w K mg base (L2.CX P w) 1 f fd ["p", "q"] (sp_make K) := by
  refine F.ok sc_make (fun vs H Q E h => ?_) (fun cdv A outer s H vs Q E hr h => ?_)
  · obtain ⟨_, _, _, rfl, _⟩ := h
    rfl
  · obtain ⟨p, q, n, rfl, hn, hn9, k0, k1⟩ := h
    refine ⟨_, (pss_cons (ps_if (pt_cmpR (op_eqA hr.units) (pv 1) pe_int (nomark _)) (pss_one (ps_raise0 rfl T.e_ZeroDenominator (takes_of rfl rfl rfl rfl) (by rfl))) pss_nil) (pss_cons (ps_set (i := 2) sc_make.nd rfl (Or.inl rfl) (pe_callBfun cr_gcd (by rfl) T.g_gcd (pa_cons (pv 0) (pa_cons (pv 1) pa_nil)))) (pss_cons (ps_if (pt_cmpR op_lt (pv 1) pe_int (nomark _)) (pss_one (ps_set (i := 2) sc_make.nd rfl (Or.inl rfl) (pe_un un_neg (pv 2)))) pss_nil) (pss_one (ps_ret (pe_tupN (pa_cons (pe_op op_fdivX (pv 0) (pv 2)) (pa_cons (pe_op op_fdivX (pv 1) (pv 2)) pa_nil)))))))), ?_⟩
    walk_at "un"
    walk_at "go"
    refine ifD (fun e => k0 e) (fun e => ?_)
    have hg := gcd_pos (p := p) e
    have hl := gcd_le_r (p := p) e
    have hb : ((Nat.gcd p.natAbs q.natAbs : Nat) : Int).natAbs < 2 ^ n := Nat.lt_of_le_of_lt hl hn
    walk_at "go"
    refine ifD (fun c => ?_) (fun c => ?_)
    · have hb2 : (-((Nat.gcd p.natAbs q.natAbs : Nat) : Int)).natAbs < 2 ^ n := by
        rw [Int.natAbs_neg]
        exact hb
      walk_at "go"
      refine rdDiv (divX (by omega) hb2 hn9) ?_
      walk_at "go"
      refine rdDiv (divX (by omega) hb2 hn9) ⟨line2, fun a na => ?_⟩
      exact k1 e _ _ (sameNew na) (frNew (num_neg c) (den_neg c))
    · have c2 : 0 < q := by omega
      walk_at "go"
      refine rdDivP (by omega) hb hn9 ?_
      walk_at "go"
      refine rdDivP (by omega) hb hn9 ⟨line2, fun a na => ?_⟩
      exact k1 e _ _ (sameNew na) (frNew (num_pos c2) (den_pos c2))
/-! ### add -/
def sp_add (K : PySem.W.Frag) : Sp := fun vs H Q _ => ∃ (v u : V) (r s : Rat) (m n : Nat), vs = [v, u] ∧ Fr K H v r ∧ Fr K H u s ∧ Bd m r ∧ Bd n s ∧ m + n < 8999 ∧ ∀ H' x, Same H H' → Fr K H' x (r + s) → Q x H'
theorem ok_add {f : Addr} {fd : FuncData} (T : Tx K mg) (F : FunD K "add" "add" (defArgs s_add) (defBody s_add) (defScope s_add) [] [] f fd) (C_make : Cal P w K mg base "make" 1 ["p", "q"] [] (sp_make K)) : FnOk P w K mg base (L2.CX P w) 2 f fd ["a", "b"] (sp_add K) := by
  refine F.ok sc_add (fun vs H Q E h => ?_) (fun cdv A outer st H vs Q E hr h => ?_)
  · obtain ⟨_, _, _, _, _, _, rfl, _⟩ := h
    rfl
  · obtain ⟨v, u, r, s, m, n, rfl, hv, hu, ⟨h1, h2'⟩, ⟨h3, h4'⟩, hmn, q⟩ := h
    have h2 : (r.den : Int).natAbs < 2 ^ m := h2'
    have h4 : (s.den : Int).natAbs < 2 ^ n := h4'
    refine ⟨_, PSs.nox (pss_one (ps_ret (pe_callC C_make hr (by decide) (by rfl) (pa_cons (pe_op op_add (pe_op op_mulG (pe_ix ix_seq (pv 0) pe_int (fun _ _ => rfl)) (pe_ix ix_seq (pv 1) pe_int (fun _ _ => rfl))) (pe_op op_mulG (pe_ix ix_seq (pv 1) pe_int (fun _ _ => rfl)) (pe_ix ix_seq (pv 0) pe_int (fun _ _ => rfl)))) (pa_cons (pe_op op_mulG (pe_ix ix_seq (pv 0) pe_int (fun _ _ => rfl)) (pe_ix ix_seq (pv 1) pe_int (fun _ _ => rfl))) pa_nil))))), ?_⟩
    walk_at "un"
    walk_at "go"
    refine ⟨_, _, m + n, rfl, mul_lt h2 h4, by omega, fun e => absurd e (Int.mul_ne_zero (den_ne r) (den_ne s)), fun _ H' x sm hx => ?_⟩
    rw [add_as] at hx
    exact q _ _ sm hx
/-! ### multiply -/
def sp_multiply (K : PySem.W.Frag) : Sp := fun vs H Q _ => ∃ (v u : V) (r s : Rat) (m n : Nat), vs = [v, u] ∧ Fr K H v r ∧ Fr K H u s ∧ Bd m r ∧ Bd n s ∧ m + n < 8999 ∧ ∀ H' x, Same H H' → Fr K H' x (r * s) → Q x H'
theorem ok_multiply {f : Addr} {fd : FuncData} (T : Tx K mg) (F : FunD K "multiply" "multiply" (defArgs s_multiply) (defBody s_multiply) (defScope s_multiply) [] [] f fd) (C_make : Cal P w K mg base "make" 1 ["p", "q"] [] (sp_make K)) : FnOk P w K mg base (L2.CX P w) 2 f fd ["a", "b"] (sp_multiply K) := by
  refine F.ok sc_multiply (fun vs H Q E h => ?_) (fun cdv A outer st H vs Q E hr h => ?_)
  · obtain ⟨_, _, _, _, _, _, rfl, _⟩ := h
    rfl
  · obtain ⟨v, u, r, s, m, n, rfl, hv, hu, ⟨h1, h2'⟩, ⟨h3, h4'⟩, hmn, q⟩ := h
    have h2 : (r.den : Int).natAbs < 2 ^ m := h2'
    have h4 : (s.den : Int).natAbs < 2 ^ n := h4'
    refine ⟨_, PSs.nox (pss_one (ps_ret (pe_callC C_make hr (by decide) (by rfl) (pa_cons (pe_op op_mulG (pe_ix ix_seq (pv 0) pe_int (fun _ _ => rfl)) (pe_ix ix_seq (pv 1) pe_int (fun _ _ => rfl))) (pa_cons (pe_op op_mulG (pe_ix ix_seq (pv 0) pe_int (fun _ _ => rfl)) (pe_ix ix_seq (pv 1) pe_int (fun _ _ => rfl))) pa_nil))))), ?_⟩
    walk_at "un"
    walk_at "go"
    refine ⟨_, _, m + n, rfl, mul_lt h2 h4, by omega, fun e => absurd e (Int.mul_ne_zero (den_ne r) (den_ne s)), fun _ H' x sm hx => ?_⟩
    rw [mul_as] at hx
    exact q _ _ sm hx
/-! ### sign -/
def sp_sign (K : PySem.W.Frag) : Sp := fun vs H Q _ => ∃ (v : V) (p q : Int), vs = [v] ∧ Dp K H v (.tuple [.int p, .int q]) ∧ Q (.int (Int.sign p)) H
theorem rd_sign {K : PySem.W.Frag} {H : Hp} {Q : VK} {E : XK} {v : V} {p z : Int} (h : Dp K H v (.tuple [.int p, .int z])) (q : Q (.int (Int.sign p)) H) : sp_sign K [v] H Q E := ⟨v, p, z, rfl, h, q⟩
theorem ok_sign {f : Addr} {fd : FuncData} (T : Tx K mg) (F : FunD K "sign" "sign" (defArgs s_sign) (defBody s_sign) (defScope s_sign) [] [] f fd) : FnOk P w K mg base (L2.CX P w) 1 f fd ["a"] (sp_sign K) := by
  refine F.ok sc_sign (fun vs H Q E h => ?_) (fun cdv A outer st H vs Q E hr h => ?_)
  · obtain ⟨_, _, _, rfl, _⟩ := h
    rfl
  · obtain ⟨v, p, z, rfl, ha, q⟩ := h
    refine ⟨_, PSs.nox (pss_cons (ps_if (pt_cmpR op_gt (pe_ix ix_seq (pv 0) pe_int (fun _ _ => rfl)) pe_int (nomark _)) (pss_one (ps_ret pe_int)) pss_nil) (pss_one (ps_ret (pe_ifExp (pt_cmpR op_lt (pe_ix ix_seq (pv 0) pe_int (fun _ _ => rfl)) pe_int (nomark _)) (pe_un un_neg pe_int) pe_int)))), ?_⟩
    walk_at "un"
    walk_at "go"
    refine ifD (fun c => ?_) (fun c => ?_)
    · rw [Int.sign_eq_one_of_pos c] at q
      exact q
    · walk_at "go"
      refine ifD (fun c2 => ?_) (fun c2 => ?_)
      · rw [Int.sign_eq_neg_one_of_neg c2] at q
        walk_at "go"
        exact q
      · have : p = 0 := by omega
        subst this
        exact q
/-! ### compare -/
def sp_compare (K : PySem.W.Frag) : Sp := fun vs H Q _ => ∃ (v u : V) (r s : Rat) (m n : Nat), vs = [v, u] ∧ Fr K H v r ∧ Fr K H u s ∧ Bd m r ∧ Bd n s ∧ m + n < 8999 ∧ ∀ H', Same H H' → Q (.int (cmpR r s)) H'
theorem rd_compare {K : PySem.W.Frag} {H : Hp} {Q : VK} {E : XK} {v u : V} {r s : Rat} {m n : Nat} (hv : Fr K H v r) (hu : Fr K H u s) (bm : Bd m r) (bn : Bd n s) (hmn : m + n < 8999) (q : ∀ H', Same H H' → Q (.int (cmpR r s)) H') : sp_compare K [v, u] H Q E := ⟨v, u, r, s, m, n, rfl, hv, hu, bm, bn, hmn, q⟩
theorem ok_compare {f : Addr} {fd : FuncData} (T : Tx K mg) (F : FunD K "compare" "compare" (defArgs s_compare) (defBody s_compare) (defScope s_compare) [] [] f fd) (C_sign : Cal P w K mg base "sign" 1 ["a"] [] (sp_sign K)) : FnOk P w K mg base (L2.CX P w) 2 f fd ["a", "b"] (sp_compare K) := by
  refine F.ok sc_compare (fun vs H Q E h => ?_) (fun cdv A outer st H vs Q E hr h => ?_)
  · obtain ⟨_, _, _, _, _, _, rfl, _⟩ := h
    rfl
  · obtain ⟨v, u, r, s, m, n, rfl, hv, hu, ⟨h1, h2'⟩, ⟨h3, h4'⟩, hmn, q⟩ := h
    have h2 : (r.den : Int).natAbs < 2 ^ m := h2'
    have h4 : (s.den : Int).natAbs < 2 ^ n := h4'
    refine ⟨_, PSs.nox (pss_one (ps_ret (pe_callC C_sign hr (by decide) (by rfl) (pa_cons (pe_tupN (pa_cons (pe_op op_sub (pe_op op_mulG (pe_ix ix_seq (pv 0) pe_int (fun _ _ => rfl)) (pe_ix ix_seq (pv 1) pe_int (fun _ _ => rfl))) (pe_op op_mulG (pe_ix ix_seq (pv 1) pe_int (fun _ _ => rfl)) (pe_ix ix_seq (pv 0) pe_int (fun _ _ => rfl)))) (pa_cons (pe_op op_mulG (pe_ix ix_seq (pv 0) pe_int (fun _ _ => rfl)) (pe_ix ix_seq (pv 1) pe_int (fun _ _ => rfl))) pa_nil))) pa_nil)))), ?_⟩
    walk_at "un"
    walk_at "go"
    rename_i H1 t1 s1 g1
    exact rd_sign g1 (q _ s1)
/-! ### dot -/
def sp_dot (K : PySem.W.Frag) : Sp := fun vs H Q _ => ∃ (v u : V) (rs ss : List Rat) (n : Nat), vs = [v, u] ∧ Frs K H v rs ∧ Frs K H u ss ∧ (∀ r ∈ rs, Bd n r) ∧ (∀ r ∈ ss, Bd n r) ∧ 1 + rs.length * (n + n + 1) + n + n < 8998 ∧ ∀ H' x, Same H H' → Fr K H' x (dotR rs ss) → Q x H'
theorem dot_skip {rs ss : List Rat} {i : Nat} {r s : Rat} (h1 : rs[i]? = some r) (h2 : ss[i]? = some s) (h : r.num = 0 ∨ s.num = 0) : sumR ((List.zipWith (· * ·) rs ss).take (i + 1)) = sumR ((List.zipWith (· * ·) rs ss).take i) := by
  rw [sumR_take (zip_at h1 h2)]
  have e : r * s = 0 := by
    rcases h with h | h
    · rw [Rat.num_eq_zero.mp h, Rat.zero_mul]
    · rw [Rat.num_eq_zero.mp h, Rat.mul_zero]
  rw [e, Rat.add_zero]
theorem ok_dot {f : Addr} {fd : FuncData} (T : Tx K mg) (F : FunD K "dot" "dot" (defArgs s_dot) (defBody s_dot) (defScope s_dot) [] [] f fd) (C_add : Cal P w K mg base "add" 2 ["a", "b"] [] (sp_add K)) (C_multiply : Cal P w K mg base "multiply" 2 ["a", "b"] [] (sp_multiply K)) : FnOk P w K mg base (L2.CX P w) 3 f fd ["first", "second"] (sp_dot K) := by
  refine F.ok sc_dot (fun vs H Q E h => ?_) (fun cdv A outer st H vs Q E hr h => ?_)
  · obtain ⟨_, _, _, _, _, rfl, _⟩ := h
    rfl
  · obtain ⟨v, u, rs, ss, n, rfl, hv, hu, hb1, hb2, hn, q⟩ := h
    obtain ⟨a, xs, rfl, hS, hD⟩ := hv.get
    obtain ⟨b, ys, rfl, hS2, hD2⟩ := hu.get
    have hl := frs_len hD
    have hl2 := frs_len hD2
    refine ⟨_, PSs.nox (pss_cons (ps_set (i := 2) sc_dot.nd rfl (Or.inl rfl) (pe_tupN (pa_cons pe_int (pa_cons pe_int pa_nil)))) (pss_cons (ps_for PassesOwn.never rfl (pi_zip (by rfl) T.n_zip (pa_cons (pv 0) (pa_cons (pv 1) pa_nil))) (pg_tup rfl (pgs_cons (pg_name (i := 3) sc_dot.nd rfl (Or.inl rfl)) (pgs_cons (pg_name (i := 4) sc_dot.nd rfl (Or.inl rfl)) pgs_nil))) (pss_one (ps_if ((pw_and (pt_cmpR (op_neA hr.units) (pe_ix ix_seq (pv 3) pe_int (fun _ _ => rfl)) pe_int (nomark _)) (pw_and1 (pt_cmpR (op_neA hr.units) (pe_ix ix_seq (pv 4) pe_int (fun _ _ => rfl)) pe_int (nomark _))))).pt (pss_one (ps_set (i := 2) sc_dot.nd rfl (Or.inl rfl) (pe_callC C_add hr (by decide) (by rfl) (pa_cons (pv 2) (pa_cons (pe_callC C_multiply hr (by decide) (by rfl) (pa_cons (pv 3) (pa_cons (pv 4) pa_nil))) pa_nil))))) pss_nil))) (pss_one (ps_ret (pv 2))))), ?_⟩
    walk_at "un"
    walk_at "go"
    rename_i H1 f1 s1 g1
    walk_at "for"
    dsimp only [iZip]
    walk_at "for"
    refine ⟨_, rfl, _, rfl, a, b, xs, ys, rfl, s1.seq hS, s1.seq hS2, ?_⟩
    refine forZip (xs := xs) (ys := ys) (fun i σ' H' => ∃ f o1 o2, σ' = [some (.ref a), some (.ref b), some f, o1, o2] ∧ Same H H' ∧ Fr K H' f (sumR ((List.zipWith (· * ·) rs ss).take i))) ⟨f1, _, _, rfl, s1, g1⟩ (fun i σ' H' ⟨_, _, _, _, e, _⟩ => ⟨e.seq hS, e.seq hS2⟩) ?_ ?_
    · rintro i x y σ' H' T hi hj ⟨f, o1, o2, rfl, s2, hf⟩ nT
      obtain ⟨r, hr, hx⟩ := frs_at hD hi
      obtain ⟨s, hs, hy⟩ := frs_at hD2 hj
      have hi' : i < rs.length := (List.getElem?_eq_some_iff.mp hr).1
      have sT : Same H' (upd H' T (.tup [x, y])) := sameNew nT
      have hbr : Bd n r := hb1 r (List.mem_of_getElem? hr)
      have hbs : Bd n s := hb2 s (List.mem_of_getElem? hs)
      have hbz := bd_sumR (take_bd (bd_zip hb1 hb2) i)
      have hlz : ((List.zipWith (· * ·) rs ss).take i).length ≤ rs.length := by
        rw [List.length_take, List.length_zipWith]
        omega
      have hmul : ((List.zipWith (· * ·) rs ss).take i).length * (n + n + 1) ≤ rs.length * (n + n + 1) := Nat.mul_le_mul_right _ hlz
      have hxT : Fr K (upd H' T (.tup [x, y])) x r := (hx.mono s2).mono sT
      have hyT : Fr K (upd H' T (.tup [x, y])) y s := (hy.mono s2).mono sT
      have hfT := hf.mono sT
      walk_at "un"
      refine ⟨T, [x, y], rfl, .inl (.inl upd_same), rfl, x, [y], rfl, y, [], rfl, rfl, ?_⟩
      walk_at "un"
      walk_at "go"
      refine ifB (fun e => ?_) (fun e => ?_)
      · walk_at "go"
        refine ifB (fun e2 => ?_) (fun e2 => ?_)
        · walk_at "go"
          refine ⟨x, y, r, s, n, n, rfl, hxT, hyT, hbr, hbs, by omega, fun H3 u3 s3 hu3 => ?_⟩
          walk_at "go"
          refine ⟨f, u3, _, _, _, _, rfl, hfT.mono s3, hu3, hbz, bd_mul hbr hbs, by omega, fun H4 u4 s4 hu4 => ?_⟩
          rw [← sumR_take (zip_at hr hs)] at hu4
          exact ⟨u4, _, _, rfl, ((s2.trans sT).trans s3).trans s4, hu4⟩
        · have e3 : s.num = 0 := by simpa using e2
          rw [← dot_skip hr hs (.inr e3)] at hfT
          exact ⟨f, _, _, rfl, s2.trans sT, hfT⟩
      · have e3 : r.num = 0 := by simpa using e
        rw [← dot_skip hr hs (.inl e3)] at hfT
        refine iteF ?_
        exact ⟨f, _, _, rfl, s2.trans sT, hfT⟩
    · rintro σ' H' ⟨f, o1, o2, rfl, s2, hf⟩
      rw [List.take_of_length_le (by rw [List.length_zipWith]; omega)] at hf
      exact ⟨_, rfl, q _ _ s2 hf⟩
/-! ### _check_size -/
/-! programs: variables, signs, a goal, rows -/
structure Row where
  ns : List Rat
  rel : Str
  b : Rat
def rowD (r : Row) : PyData := .tuple [.list (r.ns.map frD), .str r.rel, frD r.b]
/-- a row of n numbers with one of the three signs -/
structure RwOk (n : Nat) (r : Row) : Prop where
  len : r.ns.length = n
  rel : r.rel = "at least" ∨ r.rel = "at most" ∨ r.rel = "exactly"
/-- the parts of a program -/
structure PgOk (n : Nat) (fs : List Bool) (gs : List Rat) (rs : List Row) : Prop where
  hn : n ≤ 100
  f : fs.length = n
  g : gs.length = n
  r : rs.length ≤ 100
  ok : ∀ r ∈ rs, RwOk n r
def sp__check_size (K : PySem.W.Frag) : Sp := fun vs H Q E => ∃ (n : Nat) (r : Addr) (rs : List Row), vs = [.int (n : Int), .ref r] ∧ LL K H r (rs.map rowD) ∧ n ≤ 100 ∧ rs.length ≤ 100 ∧ Q .non H
theorem ok__check_size {f : Addr} {fd : FuncData} (T : Tx K mg) (F : FunD K "_check_size" "_check_size" (defArgs s__check_size) (defBody s__check_size) (defScope s__check_size) [] [] f fd) : FnOk P w K mg base (L2.CX P w) 1 f fd ["variables", "rows"] (sp__check_size K) := by
  refine F.ok sc__check_size (fun vs H Q E h => ?_) (fun cdv A outer st H vs Q E hr h => ?_)
  · obtain ⟨_, _, _, rfl, _⟩ := h
    rfl
  · obtain ⟨n, r, rs, rfl, ⟨xs, hx, hD⟩, h1, h2, q⟩ := h
    have lx : xs.length = rs.length := (dpAll_len hD).trans (List.length_map ..)
    refine ⟨_, PSs.nox (pss_cons (ps_if (pt_cmpR op_gt (pv 0) (pe_glob (v := .int 160) (by rfl) T.c__MOST_VARIABLES.choose_spec ⟨_, rfl⟩) (nomark _)) (pss_one UbG.ps_no) pss_nil) (pss_one (ps_if (pt_cmpR op_gt (pe_callB cl_len (by rfl) T.n_len bb_len (pa_cons (pv 1) pa_nil)) (pe_glob (v := .int 400) (by rfl) T.c__MOST_ROWS.choose_spec ⟨_, rfl⟩) (nomark _)) (pss_one UbG.ps_no) pss_nil))), ?_⟩
    walk_at "un"
    walk_at "go"
    refine ifNo (by omega) ?_
    walk_at "go"
    refine ifNo (by omega) ?_
    exact q
/-! ### _check_form -/
theorem rowGet {K : PySem.W.Frag} {H : Hp} {v : V} {r : Row} (h : Dp K H v (rowD r)) : ∃ (t : Addr) (v1 v3 : V), v = .ref t ∧ SqT K H t [v1, .str r.rel, v3] ∧ Frs K H v1 r.ns ∧ Fr K H v3 r.b := by
  unfold rowD at h
  cases h with
  | tup hS hD =>
    cases hD with
    | cons h1 hD =>
      cases hD with
      | cons h2 hD =>
        cases hD with
        | cons h3 hD =>
          cases hD
          cases h2
          exact ⟨_, _, _, rfl, hS, h1, h3⟩
theorem rowsAt {K : PySem.W.Frag} {H : Hp} {xs : List V} {rs : List Row} {i : Nat} {v : V} (h : DpAll K H xs (rs.map rowD)) (e : xs[i]? = some v) : ∃ r, rs[i]? = some r ∧ Dp K H v (rowD r) := by
  induction rs generalizing xs i with
  | nil =>
    cases h
    simp at e
  | cons r rs ih =>
    cases h with
    | cons h1 h2 =>
      cases i with
      | zero =>
        simp at e
        subst e
        exact ⟨r, rfl, h1⟩
      | succ i =>
        obtain ⟨r', e', h'⟩ := ih (i := i) h2 (by simpa using e)
        exact ⟨r', by simpa using e', h'⟩
def sp__check_form (K : PySem.W.Frag) : Sp := fun vs H Q E => ∃ (n : Nat) (f g r : Addr) (fs : List Bool) (gs : List Rat) (rs : List Row), vs = [.int (n : Int), .ref f, .ref g, .ref r] ∧ LL K H f (fs.map PyData.bool) ∧ LL K H g (gs.map frD) ∧ LL K H r (rs.map rowD) ∧ PgOk n fs gs rs ∧ Q .non H
theorem ok__check_form {f : Addr} {fd : FuncData} (T : Tx K mg) (F : FunD K "_check_form" "_check_form" (defArgs s__check_form) (defBody s__check_form) (defScope s__check_form) [] [] f fd) : FnOk P w K mg base (L2.CX P w) 1 f fd ["variables", "free", "goal", "rows"] (sp__check_form K) := by
  refine F.ok sc__check_form (fun vs H Q E h => ?_) (fun cdv A outer st H vs Q E hr h => ?_)
  · obtain ⟨_, _, _, _, _, _, _, rfl, _⟩ := h
    rfl
  · obtain ⟨n, f, g, r, fs, gs, rs, rfl, ⟨us, hu, huD⟩, ⟨ws, hw, hwD⟩, ⟨xs, hx, hD⟩, M, q⟩ := h
    have lu : us.length = fs.length := (dpAll_len huD).trans (List.length_map ..)
    have lw : ws.length = gs.length := frs_len hwD
    have lx : xs.length = rs.length := (dpAll_len hD).trans (List.length_map ..)
    have mf := M.f
    have mg' := M.g
    have mn := M.hn
    have mr := M.r
    refine ⟨_, PSs.nox (pss_cons (ps_if (pt_cmpR op_lt (pv 0) pe_int (nomark _)) (pss_one UbG.ps_no) pss_nil) (pss_cons (ps_if (pt_cmpR (op_neA hr.units) (pe_callB cl_len (by rfl) T.n_len bb_len (pa_cons (pv 1) pa_nil)) (pv 0) (nomark _)) (pss_one UbG.ps_no) pss_nil) (pss_cons (ps_if (pt_cmpR (op_neA hr.units) (pe_callB cl_len (by rfl) T.n_len bb_len (pa_cons (pv 2) pa_nil)) (pv 0) (nomark _)) (pss_one UbG.ps_no) pss_nil) (pss_one (ps_for PassesOwn.never rfl (pi_list (pv 3)) (pg_tup rfl (pgs_cons (pg_name (i := 4) sc__check_form.nd rfl (Or.inl rfl)) (pgs_cons (pg_name (i := 5) sc__check_form.nd rfl (Or.inl rfl)) (pgs_cons (pg_name (i := 6) sc__check_form.nd rfl (Or.inl rfl)) pgs_nil)))) (pss_one (ps_if ((pw_or (pt_cmpR (op_neA hr.units) (pe_callB cl_len (by rfl) T.n_len bb_len (pa_cons (pv 4) pa_nil)) (pv 0) (nomark _)) (pw_or1 (pt_cmpR op_notIn_seq (pv 5) (pe_glob (v := .ref (He.ga K "_SIGNS")) (by rfl) T.c__SIGNS.1 rfl) (by with_unfolding_all rfl))))).pt (pss_one UbG.ps_no) pss_nil))))))), ?_⟩
    walk_at "un"
    walk_at "go"
    refine ifNo (by omega) ?_
    walk_at "go"
    refine ifNe (by omega) ?_
    walk_at "go"
    refine ifNe (by omega) ?_
    refine forOf ?_
    walk_at "it"
    walk_at "un"
    refine ⟨_, rfl, r, rfl, ⟨_, .inl (.inl hx)⟩, ?_⟩
    refine FL.list (xs := xs) (fun i σ' H' => ∃ o4 o5 o6, σ' = [some (.int (n : Int)), some (.ref f), some (.ref g), some (.ref r), o4, o5, o6] ∧ H' = H) ⟨_, _, _, rfl, rfl⟩ (fun i σ' H' _ ⟨_, _, _, _, e⟩ => by rw [e]; exact .inl (.inl hx)) ?_ ?_
    · rintro i v σ' H' hv ⟨o4, o5, o6, rfl, rfl⟩
      obtain ⟨rw', er, hr⟩ := rowsAt hD hv
      obtain ⟨t, v1, v3, rfl, hS, h1, h3⟩ := rowGet hr
      obtain ⟨a1, ys, rfl, hS1, hD1⟩ := h1.get
      have R := M.ok rw' (List.mem_of_getElem? er)
      have l1 : ys.length = n := by rw [frs_len hD1]; exact R.len
      walk_at "un"
      refine ⟨t, _, rfl, hS, rfl, _, _, rfl, _, _, rfl, _, _, rfl, rfl, ?_⟩
      walk_at "un"
      walk_at "go"
      refine ifNe (by omega) ?_
      walk_at "go"
      refine ⟨_, _, rfl, .inr (T.c__SIGNS.2 _), rfl, rfl, ?_⟩
      walk_at "go"
      refine ifBF ?_ ⟨_, _, _, rfl, rfl⟩
      rcases R.rel with e | e | e
      · rw [e]
        decide +kernel
      · rw [e]
        decide +kernel
      · rw [e]
        decide +kernel
    · rintro σ' H' ⟨o4, o5, o6, rfl, rfl⟩
      walk_at "un"
      exact q
/-! ### Program___init__ -/
section
variable {K : PySem.W.Frag} {H : Hp} {a C dx : Addr} {fs : List (Str × V)}
theorem Ins.out (h : H a = some (.ins C dx fs)) {b : Addr} {o : HO} (e : H b = some o) (n : ∀ C dx fs, o ≠ .ins C dx fs) : wo [a] H b = some o := by
  rw [wo_out (fun z => ?_)]
  · exact e
  · rw [List.mem_singleton.mp z, h] at e
    cases e
    exact n _ _ _ rfl
mutual
/-- data doesn't reach an instance -/
theorem Ins.dp (h : H a = some (.ins C dx fs)) : ∀ (d : PyData) (v : V), Dp K H v d → Dp K (wo [a] H) v d
  | .none, _, h => by cases h; exact .non
  | .bool b, _, h => by cases h; exact .bl b
  | .int i, _, h => by cases h; exact .int i
  | .str x, _, h => by cases h; exact .str x
  | .list ds, _, hd => by
    cases hd with
    | lst hs ha =>
      refine .lst ?_ (Ins.dpAll h ds _ ha)
      rcases hs with (hs | ⟨o, hs⟩) | hs
      · exact .inl (.inl (Ins.out h hs fun _ _ _ z => by cases z))
      · exact .inl (.inr ⟨o, Ins.out h hs fun _ _ _ z => by cases z⟩)
      · exact .inr hs
  | .tuple ds, _, hd => by
    cases hd with
    | tup hs ha =>
      refine .tup ?_ (Ins.dpAll h ds _ ha)
      rcases hs with (hs | ⟨o, hs⟩) | hs
      · exact .inl (.inl (Ins.out h hs fun _ _ _ z => by cases z))
      · exact .inl (.inr ⟨o, Ins.out h hs fun _ _ _ z => by cases z⟩)
      · exact .inr hs
  | .dict _, _, h => by cases h
theorem Ins.dpAll (h : H a = some (.ins C dx fs)) : ∀ (ds : List PyData) (vs : List V), DpAll K H vs ds → DpAll K (wo [a] H) vs ds
  | [], _, h => by cases h; exact .nil
  | d :: ds, _, hd => by
    cases hd with
    | cons h1 h2 => exact .cons (Ins.dp h d _ h1) (Ins.dpAll h ds _ h2)
end
end
/-- at a: a program -/
def PgX (K : PySem.W.Frag) (H : Hp) (a : Addr) (n : Nat) (f g r : Addr) (fs : List Bool) (gs : List Rat) (rs : List Row) : Prop := ∃ dx : Addr, H a = some (.ins (He.ga K "Program") dx [("variables", .int (n : Int)), ("free", .ref f), ("goal", .ref g), ("rows", .ref r)]) ∧ LL K H f (fs.map PyData.bool) ∧ LL K H g (gs.map frD) ∧ LL K H r (rs.map rowD)
/-- the same, its lists apart from the cells in S -/
def PgS (K : PySem.W.Frag) (S : List Addr) (H : Hp) (a : Addr) (n : Nat) (f g r : Addr) (fs : List Bool) (gs : List Rat) (rs : List Row) : Prop := ∃ dx : Addr, H a = some (.ins (He.ga K "Program") dx [("variables", .int (n : Int)), ("free", .ref f), ("goal", .ref g), ("rows", .ref r)]) ∧ LL K (wo S H) f (fs.map PyData.bool) ∧ LL K (wo S H) g (gs.map frD) ∧ LL K (wo S H) r (rs.map rowD)
theorem PgS.out {K : PySem.W.Frag} {S : List Addr} {H : Hp} {a : Addr} {n : Nat} {f g r : Addr} {fs : List Bool} {gs : List Rat} {rs : List Row} (h : PgS K S H a n f g r fs gs rs) : PgX K H a n f g r fs gs rs := by
  obtain ⟨dx, h1, h2, h3, h4⟩ := h
  exact ⟨dx, h1, h2.out, h3.out, h4.out⟩
theorem SameS.set1 {H H' : Hp} {D : Addr} {xs ys : List V} (e : SameS [D] H H') (h : H' D = some (.lst ys)) : SameS [D] H (upd H' D (.lst xs)) :=
  ⟨fun b o n g t => by
    rw [upd_ne (fun z => n (by rw [z]; exact List.mem_singleton.mpr rfl))]
    exact e.but b o n g t, fun P g => by
    obtain ⟨qs, g1, t1⟩ := e.tab P g
    exact ⟨qs, by rw [upd_ne (fun z => by rw [z, h] at g1; cases g1)]; exact g1, t1⟩, fun s hs _ => by
    rw [List.mem_singleton.mp hs]
    exact ⟨_, upd_same⟩⟩
def sp_Program___init__ (K : PySem.W.Frag) : Sp := fun vs H Q E => ∃ (a dx : Addr) (n : Nat) (f g r : Addr) (fs : List Bool) (gs : List Rat) (rs : List Row) (H0 : Hp) (S : List Addr), Ls S H0 ∧ vs = [.ref a, .int (n : Int), .ref f, .ref g, .ref r] ∧ UbG.SameT H0 H ∧ H0 a = none ∧ H a = some (.ins (He.ga K "Program") dx []) ∧
  Cel K S H0 f (fs.map PyData.bool) ∧ Cel K S H0 g (gs.map frD) ∧ Cel K S H0 r (rs.map rowD) ∧ PgOk n fs gs rs ∧
  ∀ H' f' g' r', UbG.SameT H0 H' → PgS K S H' a n f' g' r' fs gs rs → Nw H0 f' → Nw H0 g' → Nw H0 r' → Q .non H'
theorem ok_Program___init__ {f : Addr} {fd : FuncData} (T : Tx K mg) (F : FunD K "__init__" "Program.__init__" (defArgs s_Program___init__) (defBody s_Program___init__) (defScope s_Program___init__) [] [] f fd) (C__check_form : Cal P w K mg base "_check_form" 1 ["variables", "free", "goal", "rows"] [] (sp__check_form K)) (C__check_size : Cal P w K mg base "_check_size" 1 ["variables", "rows"] [] (sp__check_size K)) : FnOk P w K mg base (L2.CX P w) 2 f fd ["self", "variables", "free", "goal", "rows"] (sp_Program___init__ K) := by
  refine F.ok sc_Program___init__ (fun vs H Q E h => ?_) (fun cdv A outer st H vs Q E hr h => ?_)
  · obtain ⟨_, _, _, _, _, _, _, _, _, _, _, _, rfl, _⟩ := h
    rfl
  · obtain ⟨a, dx, n, f, g, r, fs, gs, rs, H0, S, hS0, rfl, s0, na, ha, hf, hg, hrw, M, q⟩ := h
    have toL : ∀ {b : Addr} {ds : List PyData}, Cel K S H0 b ds → LL K H b ds := fun {b ds} h => by
      obtain ⟨xs, h1, h2⟩ := h
      exact (show LL K H0 b ds from ⟨xs, h1, Kp.dpAll h2⟩).monoT s0
    have hfT := toL hf
    have hgT := toL hg
    have hrT := toL hrw
    have lsT : ∀ {H' : Hp}, UbG.SameT H0 H' → Ls S H' := fun {H'} e s hs => by
      obtain ⟨xs, h1⟩ := hS0 s hs
      exact ⟨xs, e.but _ _ h1 fun _ z => by cases z⟩
    have wT : ∀ {H' : Hp}, UbG.SameT H0 H' → UbG.SameT (wo S H0) (wo S H') := fun {H'} e => (sameTS (S := S) e).wT
    have mn := M.hn
    have mr := M.r
    refine ⟨_, PSs.nox (pss_cons (ps_expr (pe_callC C__check_size hr (by decide) (by rfl) (pa_cons (pv 1) (pa_cons (pv 4) pa_nil)))) (pss_cons (ps_expr (pe_callC C__check_form hr (by decide) (by rfl) (pa_cons (pv 1) (pa_cons (pv 2) (pa_cons (pv 3) (pa_cons (pv 4) pa_nil)))))) (pss_cons (ps_fld (pv 0) (pv 1) (by rfl)) (pss_cons (ps_fld (pv 0) (pe_callTy cl_list (by rfl) T.n_list bb_list (pa_cons (pv 2) pa_nil)) (by rfl)) (pss_cons (ps_fld (pv 0) (pe_callTy cl_list (by rfl) T.n_list bb_list (pa_cons (pv 3) pa_nil)) (by rfl)) (pss_one (ps_fld (pv 0) (pe_lc (own := [("numbers", 5), ("relation", 6), ("bound", 7)]) (g := gTup K 3 (gCons (gName 5) (gCons (gName 6) (gCons (gName 7) gNil)))) (tt := tYes) rfl sc_Program___init__.nd (pi_list (pv 4)) (blkOk_by (N := N_Program___init__) (sc := defScope s_Program___init__) (by decide +kernel)) (fun _ _ _ _ _ => (pg_tup rfl (pgs_cons (pg_name (i := 5) sc_Program___init__.nd rfl (by first | exact Or.inl rfl | exact Or.inr rfl)) (pgs_cons (pg_name (i := 6) sc_Program___init__.nd rfl (by first | exact Or.inl rfl | exact Or.inr rfl)) (pgs_cons (pg_name (i := 7) sc_Program___init__.nd rfl (by first | exact Or.inl rfl | exact Or.inr rfl)) pgs_nil))))) (fun _ _ _ _ _ => pts_nil) (fun _ _ _ _ _ => (pe_tupN (pa_cons (pe_callTy (cl_listK (K := K) rfl) (by rfl) T.n_list bb_list (pa_cons (pv 5) pa_nil)) (pa_cons (pv 6) (pa_cons (pv 7) pa_nil)))))) (by rfl)))))))), ?_⟩
    walk_at "un"
    walk_at "go"
    refine ⟨n, r, rs, rfl, hrT, mn, mr, ?_⟩
    walk_at "un"
    walk_at "go"
    refine ⟨n, f, g, r, fs, gs, rs, rfl, hfT, hgT, hrT, M, ?_⟩
    walk_at "un"
    walk_at "go"
    obtain ⟨us, hu0, huD⟩ := id hf
    obtain ⟨ws, hw0, hwD⟩ := id hg
    obtain ⟨xs, hx0, hxD⟩ := id hrw
    have hu : H f = some (.lst us) := s0.but _ _ hu0 fun _ z => by cases z
    have hw : H g = some (.lst ws) := s0.but _ _ hw0 fun _ z => by cases z
    have hx : H r = some (.lst xs) := s0.but _ _ hx0 fun _ z => by cases z
    have nfa : f ≠ a := fun z => by rw [z, ha] at hu; cases hu
    have nga : g ≠ a := fun z => by rw [z, ha] at hw; cases hw
    have nra : r ≠ a := fun z => by rw [z, ha] at hx; cases hx
    have lx : xs.length = rs.length := (dpAll_len hxD).trans (List.length_map ..)
    dsimp only [sFld, tVar, tCB, tCons, tNil, tSeq, List.getElem?_cons_zero, List.getElem?_cons_succ]
    walk_at "go"
    refine ⟨a, _, dx, [], rfl, ha, T.cl_Program, T.na_Program_variables, by decide, ?_⟩
    walk_at "go"
    have s1 : UbG.SameT H0 _ := SameT.late (o := .ins (He.ga K "Program") dx [("variables", .int (n : Int))]) s0 na
    generalize hG : upd H a (.ins (He.ga K "Program") dx [("variables", .int (n : Int))]) = H1 at s1
    have a1 : H1 a = some (.ins (He.ga K "Program") dx [("variables", .int (n : Int))]) := by rw [← hG]; exact upd_same
    have u1 : H1 f = some (.lst us) := by rw [← hG]; exact (upd_ne nfa).trans hu
    have w1 : H1 g = some (.lst ws) := by rw [← hG]; exact (upd_ne nga).trans hw
    have x1 : H1 r = some (.lst xs) := by rw [← hG]; exact (upd_ne nra).trans hx
    refine show rListOf K [V.ref f] (upd H a (.ins (He.ga K "Program") dx [("variables", .int (n : Int))])) _ from ?_
    rw [hG]
    refine rdListL (.inl (.inl u1)) fun f' nf => ?_
    have e2 := sameNew nf (o := .lst us)
    have s2 := s1.trans (UbG.sameT e2)
    have f2 : upd H1 f' (.lst us) f' = some (.lst us) := upd_same
    have nwf : Nw H0 f' := Nw.back s1 (Nw.of nf)
    have a2 := e2 _ _ a1
    have w2 := e2 _ _ w1
    have x2 := e2 _ _ x1
    have nfa' : f' ≠ a := fun z => by
      rw [← z, f2] at a2
      cases a2
    generalize upd H1 f' (.lst us) = H2 at s2 f2 a2 w2 x2 ⊢
    walk_at "go"
    refine ⟨a, _, dx, [("variables", .int (n : Int))], rfl, a2, T.cl_Program, T.na_Program_free, by simp, ?_⟩
    walk_at "go"
    have s3 : UbG.SameT H0 _ := SameT.late (o := .ins (He.ga K "Program") dx [("variables", .int (n : Int)), ("free", .ref f')]) s2 na
    generalize hG3 : upd H2 a (.ins (He.ga K "Program") dx [("variables", .int (n : Int)), ("free", .ref f')]) = H3 at s3
    have a3 : H3 a = some (.ins (He.ga K "Program") dx [("variables", .int (n : Int)), ("free", .ref f')]) := by rw [← hG3]; exact upd_same
    have f3 : H3 f' = some (.lst us) := by rw [← hG3]; exact (upd_ne nfa').trans f2
    have w3 : H3 g = some (.lst ws) := by rw [← hG3]; exact (upd_ne nga).trans w2
    have x3 : H3 r = some (.lst xs) := by rw [← hG3]; exact (upd_ne nra).trans x2
    refine show rListOf K [V.ref g] (upd H2 a (.ins (He.ga K "Program") dx [("variables", .int (n : Int)), ("free", .ref f')])) _ from ?_
    rw [hG3]
    refine rdListL (.inl (.inl w3)) fun g' ng => ?_
    have e4 := sameNew ng (o := .lst ws)
    have s4 := s3.trans (UbG.sameT e4)
    have g4 : upd H3 g' (.lst ws) g' = some (.lst ws) := upd_same
    have nwg : Nw H0 g' := Nw.back s3 (Nw.of ng)
    have a4 := e4 _ _ a3
    have f4 := e4 _ _ f3
    have x4 := e4 _ _ x3
    have nga' : g' ≠ a := fun z => by
      rw [← z, g4] at a4
      cases a4
    generalize upd H3 g' (.lst ws) = H4 at s4 g4 a4 f4 x4 ⊢
    walk_at "go"
    refine ⟨a, _, dx, [("variables", .int (n : Int)), ("free", .ref f')], rfl, a4, T.cl_Program, T.na_Program_goal, by simp, ?_⟩
    have s5 : UbG.SameT H0 _ := SameT.late (o := .ins (He.ga K "Program") dx [("variables", .int (n : Int)), ("free", .ref f'), ("goal", .ref g')]) s4 na
    generalize hG5 : upd H4 a (.ins (He.ga K "Program") dx [("variables", .int (n : Int)), ("free", .ref f'), ("goal", .ref g')]) = H5 at s5
    have a5 : H5 a = some (.ins (He.ga K "Program") dx [("variables", .int (n : Int)), ("free", .ref f'), ("goal", .ref g')]) := by rw [← hG5]; exact upd_same
    have f5 : H5 f' = some (.lst us) := by rw [← hG5]; exact (upd_ne nfa').trans f4
    have g5 : H5 g' = some (.lst ws) := by rw [← hG5]; exact (upd_ne nga').trans g4
    have x5 : H5 r = some (.lst xs) := by rw [← hG5]; exact (upd_ne nra).trans x4
    have xD5 : DpAll K (wo S H5) xs (rs.map rowD) := UbG.Dp.monoTAll (wT s5) _ _ hxD
    walk_at "go"
    refine show tLc _ _ _ _ _ _ (upd H4 a (.ins (He.ga K "Program") dx [("variables", .int (n : Int)), ("free", .ref f'), ("goal", .ref g')])) _ from ?_
    rw [hG5]
    refine lcOf ?_
    walk_at "it"
    walk_at "un"
    refine ⟨_, rfl, r, rfl, ⟨_, .inl (.inl x5)⟩, fun D nD => ?_⟩
    have nwD : Nw H0 D := Nw.back s5 (Nw.of nD)
    have b0 : DpAll K (wo (D :: S) (upd H5 D (.lst []))) xs (rs.map rowD) := by
      rw [wo_upd (List.mem_cons_self ..), wo_cons nD]
      exact xD5
    have sbD : ∀ s ∈ [D], s ∈ D :: S := fun s hs => by
      rw [List.mem_singleton.mp hs]
      exact List.mem_cons_self ..
    refine LC.list (xs := xs) (fun i H' => SameS [D] (upd H5 D (.lst [])) H' ∧ Cel K (D :: S) H' D ((rs.take i).map rowD)) ⟨SameS.refl _, Cel.new⟩ (fun i H' _ ⟨e, _⟩ => .inl (.inl (e.but _ _ (fun z => by
      rw [List.mem_singleton.mp z, nD] at x5
      cases x5) ((upd_ne (fun z => by rw [z, nD] at x5; cases x5)).trans x5) (fun _ z => by cases z)))) ?_ ?_
    · rintro i x H6 hx6 ⟨e6, C6⟩
      obtain ⟨rw', er, hr6⟩ := rowsAt (Kp.monoAll (SameS.sub e6 sbD) b0) hx6
      obtain ⟨t, v1, v3, rfl, hS, h1, h3⟩ := rowGet hr6
      have R := M.ok rw' (List.mem_of_getElem? er)
      dsimp only [wipe]
      walk_at "un"
      obtain ⟨n1, zs, rfl, hS1, hD1⟩ := h1.get
      have lsD : ∀ {H' : Hp}, SameS [D] (upd H5 D (.lst [])) H' → Cel K (D :: S) H' D ((rs.take i).map rowD) → Ls (D :: S) H' := fun {H'} e C s hs => by
        rcases List.mem_cons.mp hs with z | z
        · rw [z]
          exact C.ls
        · obtain ⟨ys, hy⟩ := lsT s5 s z
          have nsD : s ≠ D := fun w => by rw [w, nD] at hy; cases hy
          exact ⟨ys, e.but _ _ (fun w => nsD (List.mem_singleton.mp w)) ((upd_ne nsD).trans hy) fun _ z => by cases z⟩
      have ls6 := lsD e6 C6
      refine ⟨t, _, rfl, Same.tseq wo_same hS, rfl, _, _, rfl, _, _, rfl, _, _, rfl, rfl, rfl, ?_⟩
      dsimp only [tYes]
      refine ifBT rfl ?_
      walk_at "go"
      refine rdListL (wo_seqH hS1) fun q1 nq1 => ?_
      have e7 := sameNew nq1 (o := .lst zs)
      have k7 := Kp.newL ls6 nq1 hD1
      have h37 : Fr K (wo (D :: S) (upd H6 q1 (.lst zs))) v3 rw'.b := Kp.mono (sameS e7) h3
      have C7 := C6.mono e7
      have e67 := e6.trans (sameS e7)
      generalize upd H6 q1 (.lst zs) = H7 at e7 k7 h37 C7 e67 ⊢
      have ls7 := lsD e67 C7
      walk_at "go"
      refine ⟨small_line (Nat.le_of_ble_eq_true rfl), fun tp ntp => ?_⟩
      have e8 := sameNew ntp (o := .tup [.ref q1, .str rw'.rel, v3])
      have k8 : Dp K (wo (D :: S) (upd H7 tp (.tup [.ref q1, .str rw'.rel, v3]))) (.ref tp) (rowD rw') := Kp.newT ls7 ntp (.cons k7 (.cons (.str _) (.cons h37 .nil)))
      have C8 := C7.mono e8
      have e68 := e67.trans (sameS e8)
      generalize upd H7 tp (.tup [.ref q1, .str rw'.rel, v3]) = H8 at k8 C8 e68 ⊢
      have hi := (List.getElem?_eq_some_iff.mp er).1
      obtain ⟨acc, e1, e2, C9⟩ := C8.turn (d := rowD rw') (List.mem_cons_self ..) (by rw [List.length_map, List.length_take]; omega) k8
      refine ⟨acc, e1, e2, SameS.set1 e68 e1, ?_⟩
      rw [List.take_succ, er, List.map_append]
      exact C9
    · rintro H6 ⟨e6, C6⟩
      rw [List.take_of_length_le (by omega)] at C6
      have naD : a ≠ D := fun z => by rw [z, nD] at a5; cases a5
      have nfD : f' ≠ D := fun z => by rw [z, nD] at f5; cases f5
      have ngD : g' ≠ D := fun z => by rw [z, nD] at g5; cases g5
      have at6 : ∀ {b : Addr} {o : HO}, b ≠ D → H5 b = some o → (∀ ps, o ≠ .tbl ps) → H6 b = some o := fun {b o} n h t => e6.but b o (fun z => n (List.mem_singleton.mp z)) ((upd_ne n).trans h) t
      have a6 := at6 naD a5 (fun _ z => by cases z)
      have f6 := at6 nfD f5 (fun _ z => by cases z)
      have g6 := at6 ngD g5 (fun _ z => by cases z)
      have s6 : UbG.SameT H0 H6 := SameS.toT (S := [D]) e6 (s5.trans (UbG.sameT (sameNew nD))) (fun x hx => by rw [List.mem_singleton.mp hx]; exact nwD)
      walk_at "go"
      refine ⟨a, _, dx, [("variables", .int (n : Int)), ("free", .ref f'), ("goal", .ref g')], rfl, a6, T.cl_Program, T.na_Program_rows, by simp, ?_⟩
      have s7 : UbG.SameT H0 _ := SameT.late (o := .ins (He.ga K "Program") dx [("variables", .int (n : Int)), ("free", .ref f'), ("goal", .ref g'), ("rows", .ref D)]) s6 na
      have nDS : D ∉ S := nwD.notIn hS0
      obtain ⟨zs, hzs, hzD⟩ := C6.done (S' := S) (fun s hs => List.mem_cons_of_mem _ hs) nDS
      have naS : a ∉ S := fun z => by
        obtain ⟨ys, hy⟩ := lsT s6 a z
        rw [a6] at hy
        cases hy
      have aw : wo S H6 a = some (.ins (He.ga K "Program") dx [("variables", .int (n : Int)), ("free", .ref f'), ("goal", .ref g')]) := by
        rw [wo_out naS]
        exact a6
      have eD : Same (wo [a] (wo S H6)) (wo S (upd H6 a (.ins (He.ga K "Program") dx [("variables", .int (n : Int)), ("free", .ref f'), ("goal", .ref g'), ("rows", .ref D)]))) := fun b o h => by
        obtain ⟨n1, h1⟩ := wo_in h
        obtain ⟨n2, h2⟩ := wo_in h1
        rw [wo_out n2, upd_ne (fun z => n1 (List.mem_singleton.mpr z))]
        exact h2
      refine q _ f' g' D s7 ⟨dx, upd_same, ⟨us, ?_, UbG.Dp.monoTAll (wT s7) _ _ huD⟩, ⟨ws, ?_, UbG.Dp.monoTAll (wT s7) _ _ hwD⟩, ⟨zs, ?_, Dp.monoAll eD _ _ (Ins.dpAll aw _ _ hzD)⟩⟩ nwf nwg nwD
      · rw [wo_out (nwf.notIn hS0)]
        exact (upd_ne nfa').trans f6
      · rw [wo_out (nwg.notIn hS0)]
        exact (upd_ne nga').trans g6
      · rw [wo_out nDS]
        exact (upd_ne (Ne.symm naD)).trans (wo_in hzs).2
/-! ### agrees -/
/-- what a sign says of an order -/
def agreeB (rel : Str) (z : Int) : Bool := if rel = "at least" then decide (0 ≤ z) else if rel = "at most" then decide (z ≤ 0) else decide (z = 0)
def sp_agrees : Sp := fun vs H Q E => ∃ (rel : Str) (z : Int), vs = [.str rel, .int z] ∧ Q (.bl (agreeB rel z)) H
theorem ok_agrees {f : Addr} {fd : FuncData} (T : Tx K mg) (F : FunD K "agrees" "agrees" (defArgs s_agrees) (defBody s_agrees) (defScope s_agrees) [] [] f fd) : FnOk P w K mg base (L2.CX P w) 1 f fd ["relation", "order"] sp_agrees := by
  refine F.ok sc_agrees (fun vs H Q E h => ?_) (fun cdv A outer s H vs Q E hr h => ?_)
  · obtain ⟨_, _, rfl, _⟩ := h
    rfl
  · obtain ⟨rel, z, rfl, q⟩ := h
    refine ⟨_, PSs.nox (pss_cons (ps_if (pt_cmpR (op_eqA hr.units) (pv 0) pe_str (nomark _)) (pss_one (ps_ret (pe_cmpR op_ge (pv 1) pe_int (nomark _)))) pss_nil) (pss_cons (ps_if (pt_cmpR (op_eqA hr.units) (pv 0) pe_str (nomark _)) (pss_one (ps_ret (pe_cmpR op_le (pv 1) pe_int (nomark _)))) pss_nil) (pss_one (ps_ret (pe_cmpR (op_eqA hr.units) (pv 1) pe_int (nomark _)))))), ?_⟩
    walk_at "un"
    walk_at "go"
    unfold agreeB at q
    refine ifD (fun e => ?_) (fun e => ?_)
    · rw [if_pos e] at q
      walk_at "go"
      exact q
    · rw [if_neg e] at q
      walk_at "go"
      refine ifD (fun e => ?_) (fun e => ?_)
      · rw [if_pos e] at q
        walk_at "go"
        exact q
      · rw [if_neg e] at q
        walk_at "go"
        exact q
/-! ### keeps_signs -/
abbrev pKs (K : PySem.W.Frag) : Addr := (He.cT K (("keeps_signs", none) : He.Defn)).2
/-- as many items as variables, and none below 0 where the variable isn't free -/
def keepsP (n : Nat) (fs : List Bool) (ps : List Rat) : Prop := ps.length = n ∧ ∀ i, i < n → fs.getD i false = true ∨ 0 ≤ ps.getD i 0
theorem boolAt {K : PySem.W.Frag} {H : Hp} : ∀ {xs : List V} {fs : List Bool} {i : Nat} {v : V}, DpAll K H xs (fs.map PyData.bool) → xs[i]? = some v → ∃ b, fs[i]? = some b ∧ v = .bl b
  | [], [], _, _, _, e => by simp at e
  | x :: xs, b :: fs, 0, v, h, e => by
    cases h with
    | cons h1 h2 =>
      simp at e
      subst e
      cases h1
      exact ⟨b, rfl, rfl⟩
  | x :: xs, b :: fs, i + 1, v, h, e => by
    cases h with
    | cons h1 h2 =>
      obtain ⟨b', e', h'⟩ := boolAt (i := i) h2 (by simpa using e)
      exact ⟨b', by simpa using e', h'⟩
def sp_keeps_signs (K : PySem.W.Frag) : Sp := fun vs H Q E => ∃ (a p : Addr) (n : Nat) (f g r : Addr) (fs : List Bool) (gs : List Rat) (rs : List Row) (ps : List Rat), vs = [.ref a, .ref p] ∧ PgX K H a n f g r fs gs rs ∧ PgOk n fs gs rs ∧ LL K H p (ps.map frD) ∧ GxR.TabG H (pKs K) ∧
  (keepsP n fs ps → ∀ H', UbG.SameT H H' → Q (.bl true) H') ∧ (¬keepsP n fs ps → ∀ H', UbG.SameT H H' → Q (.bl false) H')
theorem ok_keeps_signs {f : Addr} {fd : FuncData} (T : Tx K mg) (F : FunD K "keeps_signs" "keeps_signs" (defArgs s_keeps_signs) (defBody s_keeps_signs) (defScope s_keeps_signs) [] [] f fd) (hf : f = He.fAd K (("keeps_signs", none) : He.Defn)) (TB : GxR.TabB base mg (He.cT K (("keeps_signs", none) : He.Defn)).1 (He.cT K (("keeps_signs", none) : He.Defn)).2) : FnOk P w K mg base (L2.CX P w) 2 f fd ["program", "point"] (sp_keeps_signs K) := by
  refine UbG.FunD.okT F hf sc_keeps_signs (fun vs H Q E h => ?_) (fun A outer st H vs Q E hr h => ?_)
  · obtain ⟨_, _, _, _, _, _, _, _, _, _, rfl, _⟩ := h
    rfl
  · obtain ⟨a, p, n, f, g, r, fs, gs, rs, ps, rfl, ⟨dx, ha, ⟨us, hu, huD⟩, hg, hrw⟩, M, ⟨xs, hx, hxD⟩, hT, q1, q2⟩ := h
    have lu : us.length = fs.length := (dpAll_len huD).trans (List.length_map ..)
    have lx := frs_len hxD
    have mf := M.f
    refine ⟨_, PSs.nox (pss_cons (ps_if (pt_cmpR (op_neA hr.units) (pe_callB cl_len (by rfl) T.n_len bb_len (pa_cons (pv 1) pa_nil)) (pe_fld (pv 0) rfl) (nomark _)) (pss_one (ps_ret pe_bl)) pss_nil) (pss_one (ps_ret (UbG.pe_allG (c := (He.cT K (("keeps_signs", none) : He.Defn)).1) (P := (He.cT K (("keeps_signs", none) : He.Defn)).2) (k := 0) (own := [("free", 2), ("item", 3)]) (g := gTup K 2 (gCons (gName 2) (gCons (gName 3) gNil))) hr sc_keeps_signs.nd (by rfl) T.n_all UbG.bb_all TB rfl (UbG.gexOk_by (N := N_keeps_signs) (sc := defScope s_keeps_signs) (by decide +kernel)) (pi_zip (by rfl) T.n_zip (pa_cons (pe_fld (pv 0) rfl) (pa_cons (pv 1) pa_nil))) (fun _ _ _ _ _ _ _ hrG => ⟨(pg_tup rfl (pgs_cons (pg_name (i := 2) sc_keeps_signs.nd rfl (by first | exact Or.inl rfl | exact Or.inr rfl)) (pgs_cons (pg_name (i := 3) sc_keeps_signs.nd rfl (by first | exact Or.inl rfl | exact Or.inr rfl)) pgs_nil))), (pe_or (pv 2) (pe_one (pe_cmpR op_ge (pe_ix (ix_seqK (K := K) rfl) (pv 3) pe_int (fun _ _ => rfl)) pe_int (nomark _))))⟩) (fun _ => rfl))))), ?_⟩
    walk_at "un"
    dsimp only [tFld, tVar, List.getElem?_cons_zero, List.getElem?_cons_succ]
    walk_at "go"
    refine ⟨a, _, dx, _, .int (n : Int), rfl, ha, T.cl_Program, T.na_Program_variables, by rfl, ?_⟩
    refine rdNeI ?_
    walk_at "go"
    by_cases hn : ps.length = n
    case neg =>
      refine ifBT (by rw [decide_eq_false (by omega)]; rfl) ?_
      exact q2 (fun z => hn z.1) _ (UbG.SameT.refl _)
    refine ifNe (by omega) ?_
    walk_at "go"
    dsimp only [UbG.tAllG, iZip, tFld, tVar, tCons, tNil, List.getElem?_cons_zero, List.getElem?_cons_succ]
    walk_at "go"
    refine ⟨a, _, dx, _, .ref f, rfl, ha, T.cl_Program, T.na_Program_free, by rfl, ?_⟩
    walk_at "go"
    refine ⟨f, p, us, xs, rfl, .inl (.inl hu), .inl (.inl hx), hT, fun H2 tb => ?_⟩
    have s2 := UbG.tabbedT hT tb
    have huD2 := UbG.Dp.monoTAll s2 _ _ huD
    have hxD2 := UbG.Dp.monoTAll s2 _ _ hxD
    have u2 : H2 f = some (.lst us) := s2.but _ _ hu fun _ z => by cases z
    have x2 : H2 p = some (.lst xs) := s2.but _ _ hx fun _ z => by cases z
    refine UbG.turnsZ (xs := us) (ys := xs) (fun i H' => Same H2 H' ∧ ∀ j, j < i → fs.getD j false = true ∨ 0 ≤ ps.getD j 0) ⟨fun _ _ h => h, fun j hj => absurd hj (Nat.not_lt_zero _)⟩
      (fun i H' e => ⟨.inl (.inl (e.1 _ _ u2)), .inl (.inl (e.1 _ _ x2))⟩) ?_ ?_
    · rintro i x y Tp H3 hx3 hy3 nT ⟨e3, inv⟩
      obtain ⟨b, eb, rfl⟩ := boolAt huD2 hx3
      obtain ⟨r', er, hr'⟩ := frs_at (Dp.monoAll e3 _ _ hxD2) hy3
      have e5 : Same H3 (upd H3 Tp (.tup [.bl b, y])) := sameNew nT
      have gb : fs.getD i false = b := by simp [List.getD, eb]
      have gr : ps.getD i 0 = r' := by simp [List.getD, er]
      have hi : i < n := by
        have := (List.getElem?_eq_some_iff.mp er).1
        omega
      walk_at "un"
      refine ⟨Tp, [.bl b, y], rfl, .inl (.inl upd_same), rfl, .bl b, [y], rfl, y, [], rfl, rfl, rfl, ?_⟩
      refine ⟨_, rfl, b, rfl, ?_⟩
      have step : (b = true ∨ 0 ≤ r') → ∀ j, j < i + 1 → fs.getD j false = true ∨ 0 ≤ ps.getD j 0 := fun hb j hj => by
        by_cases e : j = i
        · rw [e, gb, gr]
          exact hb
        · exact inv j (by omega)
      generalize upd H3 Tp (.tup [.bl b, y]) = H4 at e5 ⊢
      refine ifB (fun hb => ?_) (fun hb => ?_)
      · exact ⟨true, rfl, fun z => (by cases z), fun _ => ⟨e3.trans e5, step (.inl hb)⟩⟩
      · refine ⟨_, rfl, ?_⟩
        have hy' := hr'.mono e5
        walk_at "go"
        have hnum : 0 ≤ r'.num ↔ 0 ≤ r' := Rat.num_nonneg
        refine ⟨fun hd => q2 (fun z => ?_) _ (s2.trans (UbG.sameT (e3.trans e5))), fun hd => ⟨e3.trans e5, step (.inr (hnum.mp (Decidable.byContradiction fun y => hd (decide_eq_false y))))⟩⟩
        have z2 := z.2 i hi
        rw [gb, gr, hb] at z2
        rcases z2 with z3 | z3
        · cases z3
        · exact of_decide_eq_false hd (hnum.mpr z3)
    · rintro H3 ⟨e3, inv⟩
      have lm : min us.length xs.length = n := by omega
      rw [lm] at inv
      exact q1 ⟨hn, inv⟩ _ (s2.trans (UbG.sameT e3))
/-! ### fits_rows -/
/-- what a row says of a point -/
def rowHolds (r : Row) (ps : List Rat) : Bool := agreeB r.rel (cmpR (dotR r.ns ps) r.b)
def fitsP (n : Nat) (fs : List Bool) (rs : List Row) (ps : List Rat) : Prop := keepsP n fs ps ∧ ∀ r ∈ rs, rowHolds r ps = true
/-- bounded numbers -/
def RwBd (r : Row) : Prop := (∀ x ∈ r.ns, Bd 110 x) ∧ Bd 110 r.b
theorem bd_dotR {rs ss : List Rat} {n : Nat} (h1 : ∀ r ∈ rs, Bd n r) (h2 : ∀ r ∈ ss, Bd n r) : Bd (1 + rs.length * (n + n + 1)) (dotR rs ss) := by
  have h := bd_sumR (bd_zip h1 h2)
  rw [List.length_zipWith] at h
  have z := Nat.mul_le_mul_right (n + n + 1) (Nat.min_le_left rs.length ss.length)
  exact h.mono (by omega)
def sp_fits_rows (K : PySem.W.Frag) : Sp := fun vs H Q E => ∃ (a q p : Addr) (n : Nat) (f g r : Addr) (fs : List Bool) (gs : List Rat) (rs ts : List Row) (ps : List Rat), vs = [.ref a, .ref q, .ref p] ∧ PgX K H a n f g r fs gs rs ∧ PgOk n fs gs rs ∧ LL K H q (ts.map rowD) ∧ LL K H p (ps.map frD) ∧ (∀ t ∈ ts, RwOk n t ∧ RwBd t) ∧ (∀ x ∈ ps, Bd 110 x) ∧ n ≤ 10 ∧ GxR.TabG H (pKs K) ∧
  (fitsP n fs ts ps → ∀ H', UbG.SameT H H' → Q (.bl true) H') ∧ (¬fitsP n fs ts ps → ∀ H', UbG.SameT H H' → Q (.bl false) H')
theorem ok_fits_rows {f : Addr} {fd : FuncData} (T : Tx K mg) (F : FunD K "fits_rows" "fits_rows" (defArgs s_fits_rows) (defBody s_fits_rows) (defScope s_fits_rows) [] [] f fd) (C_agrees : Cal P w K mg base "agrees" 1 ["relation", "order"] [] (sp_agrees)) (C_compare : Cal P w K mg base "compare" 2 ["a", "b"] [] (sp_compare K)) (C_dot : Cal P w K mg base "dot" 3 ["first", "second"] [] (sp_dot K)) (C_keeps_signs : Cal P w K mg base "keeps_signs" 2 ["program", "point"] [] (sp_keeps_signs K)) : FnOk P w K mg base (L2.CX P w) 4 f fd ["program", "rows", "point"] (sp_fits_rows K) := by
  refine F.ok sc_fits_rows (fun vs H Q E h => ?_) (fun cdv A outer st H vs Q E hr h => ?_)
  · obtain ⟨_, _, _, _, _, _, _, _, _, _, _, _, rfl, _⟩ := h
    rfl
  · obtain ⟨a, qa, p, n, f, g, r, fs, gs, rs, ts, ps, rfl, hX, M, hq, hp, hts, hps, hn, hT, q1, q2⟩ := h
    obtain ⟨xs, hx, hxD⟩ := id hq
    refine ⟨_, PSs.nox (pss_cons (ps_if (pt_not (pt_val (pe_callC C_keeps_signs hr (by decide) (by rfl) (pa_cons (pv 0) (pa_cons (pv 2) pa_nil))))) (pss_one (ps_ret pe_bl)) pss_nil) (pss_cons (ps_for PassesOwn.never rfl (pi_list (pv 1)) (pg_tup rfl (pgs_cons (pg_name (i := 3) sc_fits_rows.nd rfl (Or.inl rfl)) (pgs_cons (pg_name (i := 4) sc_fits_rows.nd rfl (Or.inl rfl)) (pgs_cons (pg_name (i := 5) sc_fits_rows.nd rfl (Or.inl rfl)) pgs_nil)))) (pss_one (ps_if (pt_not (pt_val (pe_callC C_agrees hr (by decide) (by rfl) (pa_cons (pv 4) (pa_cons (pe_callC C_compare hr (by decide) (by rfl) (pa_cons (pe_callC C_dot hr (by decide) (by rfl) (pa_cons (pv 3) (pa_cons (pv 2) pa_nil))) (pa_cons (pv 5) pa_nil))) pa_nil))))) (pss_one (ps_ret pe_bl)) pss_nil))) (pss_one (ps_ret pe_bl)))), ?_⟩
    walk_at "un"
    walk_at "go"
    refine ⟨a, p, n, f, g, r, fs, gs, rs, ps, rfl, hX, M, hp, hT, fun hk H1 s1 => ?_, fun hk H1 s1 => ?_⟩
    case refine_2 =>
      walk_at "go"
      refine ifBT rfl ?_
      exact q2 (fun z => hk z.1) _ s1
    walk_at "go"
    refine ifBF rfl ?_
    have hp1 := hp.monoT s1
    have x1 : H1 qa = some (.lst xs) := s1.but _ _ hx fun _ z => by cases z
    have xD1 := UbG.Dp.monoTAll s1 _ _ hxD
    have lx : xs.length = ts.length := (dpAll_len hxD).trans (List.length_map ..)
    refine forOf ?_
    walk_at "it"
    walk_at "un"
    refine ⟨_, rfl, qa, rfl, ⟨_, .inl (.inl x1)⟩, ?_⟩
    refine FL.list (xs := xs) (fun i σ' H' => ∃ o3 o4 o5, σ' = [some (.ref a), some (.ref qa), some (.ref p), o3, o4, o5] ∧ Same H1 H' ∧ ∀ t ∈ ts.take i, rowHolds t ps = true) ⟨_, _, _, rfl, fun _ _ h => h, fun t h => by simp at h⟩ (fun i σ' H' _ ⟨_, _, _, _, e, _⟩ => .inl (.inl (e _ _ x1))) ?_ ?_
    · rintro i v σ' H2 hv ⟨o3, o4, o5, rfl, e2, inv⟩
      obtain ⟨t, et, ht⟩ := rowsAt (Dp.monoAll e2 _ _ xD1) hv
      obtain ⟨tt, v1, v3, rfl, hS, h1, h3⟩ := rowGet ht
      obtain ⟨R, B1, B2⟩ := hts t (List.mem_of_getElem? et)
      have lt := R.len
      walk_at "un"
      refine ⟨tt, _, rfl, hS, rfl, _, _, rfl, _, _, rfl, _, _, rfl, rfl, ?_⟩
      walk_at "un"
      walk_at "go"
      refine ⟨v1, .ref p, t.ns, ps, 110, rfl, h1, (hp1.mono e2).dp, B1, hps, by omega, fun H3 dv s3 hdv => ?_⟩
      walk_at "go"
      refine rd_compare hdv (h3.mono s3) (bd_dotR B1 hps) B2 (by omega) fun H4 s4 => ?_
      walk_at "go"
      refine ⟨t.rel, _, rfl, ?_⟩
      walk_at "go"
      refine ifB (fun hb => ?_) (fun hb => ?_)
      · walk_at "go"
        refine q2 (fun z => ?_) _ (s1.trans (UbG.sameT ((e2.trans s3).trans s4)))
        have z2 := z.2 t (List.mem_of_getElem? et)
        unfold rowHolds at z2
        rw [z2] at hb
        cases hb
      · refine ⟨_, _, _, rfl, (e2.trans s3).trans s4, fun t' ht' => ?_⟩
        rw [List.take_succ, et] at ht'
        rcases List.mem_append.mp ht' with z | z
        · exact inv t' z
        · have e : t' = t := by simpa using z
          rw [e]
          unfold rowHolds
          cases hz : agreeB t.rel (cmpR (dotR t.ns ps) t.b)
          · rw [hz] at hb
            cases hb
          · rfl
    · rintro σ' H2 ⟨o3, o4, o5, rfl, e2, inv⟩
      walk_at "un"
      walk_at "go"
      rw [List.take_of_length_le (by omega)] at inv
      exact q1 ⟨hk, inv⟩ _ (s1.trans (UbG.sameT e2))
/-! ### fits -/
def sp_fits (K : PySem.W.Frag) : Sp := fun vs H Q E => ∃ (a p : Addr) (n : Nat) (f g r : Addr) (fs : List Bool) (gs : List Rat) (rs : List Row) (ps : List Rat), vs = [.ref a, .ref p] ∧ PgX K H a n f g r fs gs rs ∧ PgOk n fs gs rs ∧ LL K H p (ps.map frD) ∧ (∀ t ∈ rs, RwBd t) ∧ (∀ x ∈ ps, Bd 110 x) ∧ n ≤ 10 ∧ GxR.TabG H (pKs K) ∧
  (fitsP n fs rs ps → ∀ H', UbG.SameT H H' → Q (.bl true) H') ∧ (¬fitsP n fs rs ps → ∀ H', UbG.SameT H H' → Q (.bl false) H')
theorem ok_fits {f : Addr} {fd : FuncData} (T : Tx K mg) (F : FunD K "fits" "fits" (defArgs s_fits) (defBody s_fits) (defScope s_fits) [] [] f fd) (C_fits_rows : Cal P w K mg base "fits_rows" 4 ["program", "rows", "point"] [] (sp_fits_rows K)) : FnOk P w K mg base (L2.CX P w) 5 f fd ["program", "point"] (sp_fits K) := by
  refine F.ok sc_fits (fun vs H Q E h => ?_) (fun cdv A outer st H vs Q E hr h => ?_)
  · obtain ⟨_, _, _, _, _, _, _, _, _, _, rfl, _⟩ := h
    rfl
  · obtain ⟨a, p, n, f, g, r, fs, gs, rs, ps, rfl, hX, M, hp, hts, hps, hn, hT, q1, q2⟩ := h
    obtain ⟨dx, ha, _, _, hrw⟩ := id hX
    refine ⟨_, PSs.nox (pss_one (ps_ret (pe_callC C_fits_rows hr (by decide) (by rfl) (pa_cons (pv 0) (pa_cons (pe_fld (pv 0) rfl) (pa_cons (pv 1) pa_nil)))))), ?_⟩
    walk_at "un"
    dsimp only [tFld, tVar, List.getElem?_cons_zero, List.getElem?_cons_succ]
    walk_at "go"
    refine ⟨a, _, dx, _, .ref r, rfl, ha, T.cl_Program, T.na_Program_rows, by rfl, ?_⟩
    walk_at "go"
    exact ⟨a, r, p, n, f, g, r, fs, gs, rs, rs, ps, rfl, hX, M, hrw, hp, fun t ht => ⟨M.ok t ht, hts t ht⟩, hps, hn, hT, q1, q2⟩
/-! ### value_of -/
def sp_value_of (K : PySem.W.Frag) : Sp := fun vs H Q E => ∃ (a p : Addr) (n : Nat) (f g r : Addr) (fs : List Bool) (gs : List Rat) (rs : List Row) (ps : List Rat), vs = [.ref a, .ref p] ∧ PgX K H a n f g r fs gs rs ∧ LL K H p (ps.map frD) ∧ (∀ x ∈ gs, Bd 110 x) ∧ (∀ x ∈ ps, Bd 110 x) ∧ gs.length ≤ 10 ∧ ∀ H' v, Same H H' → Fr K H' v (dotR gs ps) → Q v H'
theorem ok_value_of {f : Addr} {fd : FuncData} (T : Tx K mg) (F : FunD K "value_of" "value_of" (defArgs s_value_of) (defBody s_value_of) (defScope s_value_of) [] [] f fd) (C_dot : Cal P w K mg base "dot" 3 ["first", "second"] [] (sp_dot K)) : FnOk P w K mg base (L2.CX P w) 4 f fd ["program", "point"] (sp_value_of K) := by
  refine F.ok sc_value_of (fun vs H Q E h => ?_) (fun cdv A outer st H vs Q E hr h => ?_)
  · obtain ⟨_, _, _, _, _, _, _, _, _, _, rfl, _⟩ := h
    rfl
  · obtain ⟨a, p, n, f, g, r, fs, gs, rs, ps, rfl, ⟨dx, ha, _, hg, _⟩, hp, b1, b2, hn, q⟩ := h
    refine ⟨_, PSs.nox (pss_one (ps_ret (pe_callC C_dot hr (by decide) (by rfl) (pa_cons (pe_fld (pv 0) rfl) (pa_cons (pv 1) pa_nil))))), ?_⟩
    walk_at "un"
    dsimp only [tFld, tVar, List.getElem?_cons_zero, List.getElem?_cons_succ]
    walk_at "go"
    refine ⟨a, _, dx, _, .ref g, rfl, ha, T.cl_Program, T.na_Program_goal, by rfl, ?_⟩
    walk_at "go"
    exact ⟨.ref g, .ref p, gs, ps, 110, rfl, hg.dp, hp.dp, b1, b2, by omega, q⟩
/-! ### with_rows -/
theorem wo_nil {H : Hp} : wo [] H = H := by
  funext b
  exact wo_out List.not_mem_nil
theorem celNil {K : PySem.W.Frag} {H : Hp} {a : Addr} {ds : List PyData} (h : LL K H a ds) : Cel K [] H a ds := by
  obtain ⟨xs, h1, h2⟩ := h
  exact ⟨xs, h1, by rw [wo_nil]; exact h2⟩
theorem dpAll_two_lists {K : PySem.W.Frag} {H : Hp} : ∀ {xs ys : List V} {ds es : List PyData}, DpAll K H xs ds → DpAll K H ys es → DpAll K H (xs ++ ys) (ds ++ es)
  | _, _, _, _, .nil, h => h
  | _, _, _, _, .cons h1 h2, h => .cons h1 (dpAll_two_lists h2 h)
def sp_with_rows (K : PySem.W.Frag) : Sp := fun vs H Q E => ∃ (a q : Addr) (n : Nat) (f g r : Addr) (fs : List Bool) (gs : List Rat) (rs ts : List Row), vs = [.ref a, .ref q] ∧ PgX K H a n f g r fs gs rs ∧ LL K H q (ts.map rowD) ∧ PgOk n fs gs (rs ++ ts) ∧
  ∀ H' b f' g' r', UbG.SameT H H' → H b = none → PgX K H' b n f' g' r' fs gs (rs ++ ts) → Nw H f' → Nw H g' → Nw H r' → Q (.ref b) H'
theorem ok_with_rows {f : Addr} {fd : FuncData} (T : Tx K mg) (F : FunD K "with_rows" "with_rows" (defArgs s_with_rows) (defBody s_with_rows) (defScope s_with_rows) [] [] f fd) (I_Program : UbC.CalI P w K mg base "Program" 2 1 ["free", "goal", "rows"] (sp_Program___init__ K)) : FnOk P w K mg base (L2.CX P w) 4 f fd ["program", "rows"] (sp_with_rows K) := by
  refine F.ok sc_with_rows (fun vs H Q E h => ?_) (fun cdv A outer st H vs Q E hr h => ?_)
  · obtain ⟨_, _, _, _, _, _, _, _, _, _, rfl, _⟩ := h
    rfl
  · obtain ⟨a, qa, n, f, g, r, fs, gs, rs, ts, rfl, ⟨dx, ha, hf, hg, ⟨xs, hx, hxD⟩⟩, ⟨ys, hy, hyD⟩, M, q⟩ := h
    have lx : xs.length = rs.length := (dpAll_len hxD).trans (List.length_map ..)
    have ly : ys.length = ts.length := (dpAll_len hyD).trans (List.length_map ..)
    have mr := M.r
    rw [List.length_append] at mr
    refine ⟨_, PSs.nox (pss_one (ps_ret (UbC.pe_newC I_Program hr (by decide) (by rfl) passL (pa_cons (pe_fld (pv 0) rfl) pa_nil) (pk_cons (pe_fld (pv 0) rfl) (pk_cons (pe_fld (pv 0) rfl) (pk_cons (pe_op op_cat (pe_fld (pv 0) rfl) (pe_callTy cl_list (by rfl) T.n_list bb_list (pa_cons (pv 1) pa_nil))) pk_nil)))))), ?_⟩
    walk_at "un"
    dsimp only [tMakeN, tCons, tOp, tFld, tVar, tNil, tCB, List.getElem?_cons_zero, List.getElem?_cons_succ]
    walk_at "go"
    refine ⟨a, _, dx, _, .int (n : Int), rfl, ha, T.cl_Program, T.na_Program_variables, by rfl, ?_⟩
    walk_at "go"
    refine ⟨a, _, dx, _, .ref f, rfl, ha, T.cl_Program, T.na_Program_free, by rfl, ?_⟩
    walk_at "go"
    refine ⟨a, _, dx, _, .ref g, rfl, ha, T.cl_Program, T.na_Program_goal, by rfl, ?_⟩
    walk_at "go"
    refine ⟨a, _, dx, _, .ref r, rfl, ha, T.cl_Program, T.na_Program_rows, by rfl, ?_⟩
    walk_at "go"
    refine rdListL (.inl (.inl hy)) fun p1 n1 => ?_
    have e1 := sameNew n1 (o := .lst ys)
    have hp1 : upd H p1 (.lst ys) p1 = some (.lst ys) := upd_same
    generalize upd H p1 (.lst ys) = H1 at e1 hp1 ⊢
    refine ⟨r, p1, xs, ys, rfl, rfl, e1 _ _ hx, hp1, small_line (by omega), fun p2 n2 => ?_⟩
    have e2 := e1.trans (sameNew n2 (o := .lst (xs ++ ys)))
    have hp2 : upd H1 p2 (.lst (xs ++ ys)) p2 = some (.lst (xs ++ ys)) := upd_same
    generalize upd H1 p2 (.lst (xs ++ ys)) = H2 at e2 hp2 ⊢
    refine ⟨rfl, rfl, fun x dx' nx ndx hne => ⟨x, dx', n, f, g, p2, fs, gs, rs ++ ts, H2, [], fun s hs => absurd hs List.not_mem_nil, rfl, SameT.late (SameT.late (UbG.SameT.refl H2) ndx) nx, nx, upd_same, celNil (hf.mono e2), celNil (hg.mono e2),
      celNil ⟨_, hp2, by rw [List.map_append]; exact dpAll_two_lists (Dp.monoAll e2 _ _ hxD) (Dp.monoAll e2 _ _ hyD)⟩, M, fun H' f' g' r' s' hX' nf ng nr => ⟨rfl, q _ x f' g' r' ((UbG.sameT e2).trans s') ?_ hX'.out (Nw.back (UbG.sameT e2) nf) (Nw.back (UbG.sameT e2) ng) (Nw.back (UbG.sameT e2) nr)⟩⟩⟩
    cases z : H x with
    | none => rfl
    | some o =>
      rw [e2 _ _ z] at nx
      cases nx
/-! ### _law_mix -/
/-- the law's mixing: some whole number -/
def sp__law_mix : Sp := fun vs H Q _ => ∃ (x k : Int), vs = [.int x, .int k] ∧ 0 ≤ k ∧ k ≤ 1000 ∧ ∀ z, Q (.int z) H
theorem ok__law_mix {f : Addr} {fd : FuncData} (T : Tx K mg) (F : FunD K "_law_mix" "_law_mix" (defArgs s__law_mix) (defBody s__law_mix) (defScope s__law_mix) [] [] f fd) : FnOk P w K mg base (L2.CX P w) 1 f fd ["number", "k"] sp__law_mix := by
  refine F.ok sc__law_mix (fun vs H Q E h => ?_) (fun cdv A outer st H vs Q E hr h => ?_)
  · obtain ⟨_, _, rfl, _⟩ := h
    rfl
  · obtain ⟨x, k, rfl, h0, h1, q⟩ := h
    refine ⟨_, PSs.nox (pss_one (ps_ret (pe_op op_mod (pe_op op_mulG (pe_op op_mod (pe_callTy cl_int (by rfl) T.n_int bb_int (pa_cons (pe_op op_mulG (pe_op op_add (pe_op op_add (pe_op op_mod (pe_callTy cl_int (by rfl) T.n_int bb_int (pa_cons (pv 0) pa_nil)) pe_int) (pe_op op_mulG pe_int (pv 1))) pe_int) pe_int) pa_nil)) pe_int) pe_int) pe_int))), ?_⟩
    walk_at "un"
    walk_at "go"
    refine rdMod (by decide) ?_
    walk_at "go"
    refine rdMod (by decide) ?_
    walk_at "go"
    refine rdMod (by decide) ?_
    exact q _
/-! ### _law_numbers -/
/-- the row of numbers: some whole numbers, in a new list -/
def sp__law_numbers (K : PySem.W.Frag) : Sp := fun vs H Q _ => ∃ (a : Addr) (ns : List Int) (c : Nat), vs = [.ref a, .int (c : Int)] ∧ SqL K H a (ns.map V.int) ∧ ns.length ≤ 63 ∧ c ≤ 200 ∧ ∀ H' d, Same H H' → H d = none → Ints H' d → Q (.ref d) H'
theorem sameLate' {H H' : Hp} {d : Addr} {o : HO} (e : Same H H') (nd : H d = none) : Same H (upd H' d o) := fun b x h => by
  rw [upd_ne (ne_of_none h nd)]
  exact e b x h
theorem rdAppJ {H : Hp} {Q : VK} {d : Addr} {ms : List Int} {x : Int} (h : H d = some (.lst (ms.map V.int))) (hz : ms.length ≤ 5000) (q : Q .non (upd H d (.lst ((ms ++ [x]).map V.int)))) : rAppend (.ref d) [.int x] H Q :=
  rdApp h (by rw [List.length_map]; exact hz) (by rw [List.map_append] at q; exact q)
theorem ok__law_numbers {f : Addr} {fd : FuncData} (T : Tx K mg) (F : FunD K "_law_numbers" "_law_numbers" (defArgs s__law_numbers) (defBody s__law_numbers) (defScope s__law_numbers) [] [] f fd) (C__law_mix : Cal P w K mg base "_law_mix" 1 ["number", "k"] [] (sp__law_mix)) : FnOk P w K mg base (L2.CX P w) 2 f fd ["script", "count"] (sp__law_numbers K) := by
  refine F.ok sc__law_numbers (fun vs H Q E h => ?_) (fun cdv A outer st H vs Q E hr h => ?_)
  · obtain ⟨_, _, _, rfl, _⟩ := h
    rfl
  · obtain ⟨a, ns, c, rfl, hS, hl, hc, q⟩ := h
    refine ⟨_, PSs.nox (pss_cons (ps_set (i := 2) sc__law_numbers.nd rfl (Or.inl rfl) (pe_lstN pa_nil)) (pss_cons (ps_set (i := 3) sc__law_numbers.nd rfl (Or.inl rfl) pe_int) (pss_cons (ps_for PassesOwn.never rfl (pi_list (pe_slice sl_list (pv 0) po_none (po_some pe_int))) (pg_name (i := 4) sc__law_numbers.nd rfl (Or.inl rfl)) (pss_cons (ps_set (i := 3) sc__law_numbers.nd rfl (Or.inl rfl) (pe_op op_add (pv 3) (pv 4))) (pss_one (ps_if (pt_cmpR op_ge (pv 4) pe_int (nomark _)) (pss_cons (ps_set (i := 5) sc__law_numbers.nd rfl (Or.inl rfl) (pv 4)) (pss_one (ps_for PassesOwn.never rfl (pi_range1 (by rfl) T.n_range (pa_cons pe_int pa_nil)) (pg_name (i := 6) sc__law_numbers.nd rfl (Or.inl rfl)) (pss_cons (ps_expr (pe_bm PySem.F.plainAttrs_list PySem.F.slot_list_append PySem.F.type_list_append mt_append (pv 2) (pa_cons (pe_op op_mod (pe_callTy cl_int (by rfl) T.n_int bb_int (pa_cons (pv 5) pa_nil)) pe_int) pa_nil))) (pss_cons (ps_set (i := 5) sc__law_numbers.nd rfl (Or.inl rfl) (pe_op op_fdivX (pv 5) pe_int)) (pss_one (ps_if (pt_cmpR (op_eqA hr.units) (pv 5) pe_int (nomark _)) (pss_one ps_break) pss_nil))))))) (pss_one (ps_expr (pe_bm PySem.F.plainAttrs_list PySem.F.slot_list_append PySem.F.type_list_append mt_append (pv 2) (pa_cons (pe_callC C__law_mix hr (by decide) (by rfl) (pa_cons (pe_callC C__law_mix hr (by decide) (by rfl) (pa_cons (pv 4) (pa_cons pe_int pa_nil))) (pa_cons pe_int pa_nil))) pa_nil)))))))) (pss_cons (ps_for PassesOwn.never rfl (pi_range1 (by rfl) T.n_range (pa_cons (pv 1) pa_nil)) (pg_name (i := 6) sc__law_numbers.nd rfl (Or.inl rfl)) (pss_one (ps_expr (pe_bm PySem.F.plainAttrs_list PySem.F.slot_list_append PySem.F.type_list_append mt_append (pv 2) (pa_cons (pe_callC C__law_mix hr (by decide) (by rfl) (pa_cons (pe_callC C__law_mix hr (by decide) (by rfl) (pa_cons (pe_op op_add (pv 3) (pe_op op_mulG pe_int (pv 6))) (pa_cons (pe_op op_add pe_int (pv 6)) pa_nil))) (pa_cons pe_int pa_nil))) pa_nil))))) (pss_cons (ps_expr (pe_bm0 PySem.F.plainAttrs_list PySem.F.slot_list_reverse PySem.F.type_list_reverse mt_reverse (pv 2))) (pss_one (ps_ret (pv 2)))))))), ?_⟩
    walk_at "un"
    walk_at "go"
    refine rdLstH (Nat.zero_le _) fun H1 d s1 nd hd => ?_
    walk_at "go"
    refine forOf ?_
    walk_at "it"
    walk_at "un"
    walk_at "go"
    refine rdSlL (s1.seq hS) (cut_all (n := 63) (by rw [List.length_map]; exact hl)) fun p np => ?_
    have s2 : Same H (upd H1 p (.lst (ns.map V.int))) := s1.trans (sameNew np)
    have npd : p ≠ d := fun z => by rw [z, hd] at np; cases np
    refine ⟨p, rfl, ⟨_, .inl (.inl upd_same)⟩, ?_⟩
    refine FL.list (xs := ns.map V.int) (fun i σ' H' => ∃ (b : Int) (o2 o3 o4 : Option V), σ' = [some (.ref a), some (.int (c : Int)), some (.ref d), some (.int b), o2, o3, o4] ∧ Same H H' ∧ H' p = some (.lst (ns.map V.int)) ∧ ∃ ms : List Int, H' d = some (.lst (ms.map V.int)) ∧ ms.length ≤ 61 * i)
      ⟨0, _, _, _, rfl, s2, upd_same, [], by rw [upd_ne npd.symm]; exact hd, Nat.zero_le _⟩ (fun i σ' H' _ ⟨_, _, _, _, _, _, e, _⟩ => .inl (.inl e)) ?_ ?_
    · rintro i x σ' H2 hi ⟨b, o2, o3, o4, rfl, s3, hp, ms, hms, hlm⟩
      have hi' : i < ns.length := by
        have := (List.getElem?_eq_some_iff.mp hi).1
        rw [List.length_map] at this
        exact this
      obtain ⟨z, rfl, hz⟩ := mapInt_at hi
      walk_at "un"
      walk_at "go"
      refine ifD (fun hbig => ?_) (fun hbig => ?_)
      · walk_at "go"
        refine forOf ?_
        walk_at "it"
        walk_at "un"
        refine ⟨_, rfl, by decide, by decide, ?_⟩
        refine FL.range (n := 60) (fun j σ' H' => ∃ (r : Int) (o4 : Option V), σ' = [some (.ref a), some (.int (c : Int)), some (.ref d), some (.int (b + z)), some (.int z), some (.int r), o4] ∧ Same H H' ∧ H' p = some (.lst (ns.map V.int)) ∧ ∃ ms : List Int, H' d = some (.lst (ms.map V.int)) ∧ ms.length ≤ 61 * i + j) ⟨_, o4, rfl, s3, hp, ms, hms, hlm⟩ ?_ ?_
        · rintro j σ' H4 hj ⟨r, o5, rfl, s4, hp4, ms4, hms4, hlm4⟩
          walk_at "un"
          walk_at "go"
          refine ⟨.inl ⟨rfl, _, .inl (.inl hms4)⟩, ?_⟩
          walk_at "go"
          refine rdMod (by decide) ?_
          refine rdAppJ hms4 (by omega) ?_
          walk_at "go"
          refine rdDivP (b := 10) (by decide) (by decide) (by decide) ?_
          walk_at "go"
          have s5 : ∀ xs, Same H (upd H4 d (.lst xs)) := fun xs => sameLate' s4 nd
          have hp5 : ∀ xs, upd H4 d (.lst xs) p = some (.lst (ns.map V.int)) := fun xs => by rw [upd_ne npd]; exact hp4
          refine ifD (fun cc => ?_) (fun cc => ?_)
          · refine ⟨b + z, _, _, _, rfl, s5 _, hp5 _, _, upd_same, ?_⟩
            rw [List.length_append]
            show ms4.length + 1 ≤ _
            omega
          · refine ⟨_, _, rfl, s5 _, hp5 _, _, upd_same, ?_⟩
            rw [List.length_append]
            show ms4.length + 1 ≤ _
            omega
        · rintro σ' H4 ⟨r, o5, rfl, s4, hp4, ms4, hms4, hlm4⟩
          exact ⟨_, _, _, _, rfl, s4, hp4, ms4, hms4, by omega⟩
      · walk_at "go"
        refine ⟨.inl ⟨rfl, _, .inl (.inl hms)⟩, ?_⟩
        walk_at "go"
        refine ⟨z, 3, rfl, by decide, by decide, fun z1 => ?_⟩
        refine ⟨z1, 5, rfl, by decide, by decide, fun z2 => ?_⟩
        refine rdAppJ hms (by omega) ?_
        refine ⟨_, _, _, _, rfl, sameLate' s3 nd, by rw [upd_ne npd]; exact hp, _, upd_same, ?_⟩
        rw [List.length_append]
        show ms.length + 1 ≤ _
        omega
    · rintro σ' H2 ⟨b, o2, o3, o4, rfl, s3, _, ms, hms, hlm⟩
      rw [List.length_map] at hlm
      walk_at "un"
      refine forOf ?_
      walk_at "it"
      walk_at "un"
      walk_at "go"
      refine ⟨by omega, by omega, ?_⟩
      rw [show ((c : Nat) : Int).toNat = c by omega]
      refine FL.range (n := c) (fun j σ' H' => ∃ (o4 : Option V), σ' = [some (.ref a), some (.int (c : Int)), some (.ref d), some (.int b), o2, o3, o4] ∧ Same H H' ∧ ∃ ms : List Int, H' d = some (.lst (ms.map V.int)) ∧ ms.length ≤ 61 * ns.length + j) ⟨o4, rfl, s3, ms, hms, hlm⟩ ?_ ?_
      · rintro j σ' H4 hj ⟨o5, rfl, s4, ms4, hms4, hlm4⟩
        walk_at "un"
        walk_at "go"
        refine ⟨.inl ⟨rfl, _, .inl (.inl hms4)⟩, ?_⟩
        walk_at "go"
        refine ⟨_, _, rfl, by omega, by omega, fun z1 => ?_⟩
        refine ⟨z1, 17, rfl, by decide, by decide, fun z2 => ?_⟩
        refine rdAppJ hms4 (by omega) ?_
        refine ⟨_, rfl, sameLate' s4 nd, _, upd_same, ?_⟩
        rw [List.length_append]
        show ms4.length + 1 ≤ _
        omega
      · rintro σ' H4 ⟨o5, rfl, s4, ms4, hms4, hlm4⟩
        walk_at "un"
        walk_at "go"
        refine ⟨.inl ⟨rfl, _, .inl (.inl hms4)⟩, d, ms4.map V.int, rfl, rfl, hms4, ?_⟩
        rw [← List.map_reverse]
        exact ⟨_, rfl, q _ _ (sameLate' s4 nd) nd ⟨_, upd_same⟩⟩
/-! ### _law_take -/
/-- the next number: any below the bound -/
def sp__law_take : Sp := fun vs H Q _ => ∃ (d : Addr) (m : Int), vs = [.ref d, .int m] ∧ Ints H d ∧ 0 < m ∧ ∀ H' x, SameS [d] H H' → Ints H' d → 0 ≤ x → x < m → Q (.int x) H'
theorem ok__law_take {f : Addr} {fd : FuncData} (T : Tx K mg) (F : FunD K "_law_take" "_law_take" (defArgs s__law_take) (defBody s__law_take) (defScope s__law_take) [] [] f fd) : FnOk P w K mg base (L2.CX P w) 1 f fd ["row", "bound"] sp__law_take := by
  refine F.ok sc__law_take (fun vs H Q E h => ?_) (fun cdv A outer st H vs Q E hr h => ?_)
  · obtain ⟨_, _, rfl, _⟩ := h
    rfl
  · obtain ⟨d, m, rfl, hI, hm, q⟩ := h
    obtain ⟨ns, hd⟩ := id hI
    refine ⟨_, PSs.nox (pss_cons (ps_if (pt_not (pt_truth (pv 0) (by intro _; rfl))) (pss_one (ps_ret pe_int)) pss_nil) (pss_one (ps_ret (pe_op op_mod (pe_callTy cl_int (by rfl) T.n_int bb_int (pa_cons (pe_bm0 PySem.F.plainAttrs_list PySem.F.slot_list_pop PySem.F.type_list_pop mt_pop (pv 0)) pa_nil)) (pv 1))))), ?_⟩
    walk_at "un"
    walk_at "go"
    refine truNot (.inl (.inl hd)) (fun c => ?_) (fun c => ?_)
    · exact q _ _ (SameS.refl _) hI (by decide) hm
    · have hne : ns ≠ [] := fun z => c (by rw [z]; rfl)
      have hl : 0 < ns.length := List.length_pos_iff.mpr hne
      walk_at "go"
      refine ⟨.inl ⟨rfl, _, .inl (.inl hd)⟩, d, ns.map V.int, .int ns[ns.length - 1], rfl, rfl, hd, by rw [List.length_map, List.getElem?_map, List.getElem?_eq_getElem (by omega)]; rfl, ?_⟩
      walk_at "go"
      refine rdMod hm ?_
      rw [← List.map_dropLast]
      exact q _ _ (sameS_upd (List.mem_singleton.mpr rfl) (notTbl hd)) ⟨_, upd_same⟩ (Int.emod_nonneg _ (by omega)) (Int.emod_lt_of_pos _ hm)
/-! ### _law_lowest -/
/-- the law's own fraction p / q, q above 0 -/
def sp__law_lowest (K : PySem.W.Frag) : Sp := fun vs H Q E => ∃ (p q : Int) (n : Nat), vs = [.int p, .int q] ∧ q.natAbs < 2 ^ n ∧ n < 2400 ∧ 0 < q ∧ ∀ H' v, Same H H' → Fr K H' v (Rat.divInt p q) → Q v H'
theorem ok__law_lowest {f : Addr} {fd : FuncData} (T : Tx K mg) (F : FunD K "_law_lowest" "_law_lowest" (defArgs s__law_lowest) (defBody s__law_lowest) (defScope s__law_lowest) [] [] f fd) : FnOk P w K mg base (L2.CX P w) 1 f fd ["p", "q"] (sp__law_lowest K) := by
  refine F.ok sc__law_lowest (fun vs H Q E h => ?_) (fun cdv A outer s H vs Q E hr h => ?_)
  · obtain ⟨_, _, _, rfl, _⟩ := h
    rfl
  · obtain ⟨p, q, n, rfl, hn, hn9, c2, k1⟩ := h
    have e : q ≠ 0 := by omega
    have hg := gcd_pos (p := p) e
    have hl : ((Nat.gcd p.natAbs q.natAbs : Nat) : Int).natAbs ≤ q.natAbs := Nat.le_of_dvd (by omega) (Nat.gcd_dvd_right ..)
    have hb : ((Nat.gcd p.natAbs q.natAbs : Nat) : Int).natAbs < 2 ^ n := Nat.lt_of_le_of_lt hl hn
    refine ⟨_, PSs.nox (pss_cons (ps_par (i := 2) (j := 3) (by rfl) sc__law_lowest.nd rfl rfl (by decide) rfl rfl (pa_cons (pe_callB cl_abs (by rfl) T.n_abs bb_abs (pa_cons (pv 0) pa_nil)) (pa_cons (pv 1) pa_nil)) (by rfl)) (pss_cons (ps_for PassesOwn.never rfl (pi_range1 (by rfl) T.n_range (pa_cons pe_int pa_nil)) (pg_name (i := 4) sc__law_lowest.nd rfl (Or.inl rfl)) (pss_cons (ps_if (pt_cmpR (op_eqA hr.units) (pv 3) pe_int (nomark _)) (pss_one ps_break) pss_nil) (pss_one (ps_par (i := 2) (j := 3) (by rfl) sc__law_lowest.nd rfl rfl (by decide) rfl rfl (pa_cons (pv 3) (pa_cons (pe_op op_mod (pe_callTy cl_int (by rfl) T.n_int bb_int (pa_cons (pv 2) pa_nil)) (pv 3)) pa_nil)) (by rfl))))) (pss_cons (ps_if (pt_cmpR (op_eqA hr.units) (pv 2) pe_int (nomark _)) (pss_one (ps_ret (pe_tupN (pa_cons pe_int (pa_cons pe_int pa_nil))))) pss_nil) (pss_one (ps_ret (pe_tupN (pa_cons (pe_op op_fdivX (pv 0) (pv 2)) (pa_cons (pe_op op_fdivX (pv 1) (pv 2)) pa_nil)))))))), ?_⟩
    walk_at "un"
    walk_at "go"
    refine ⟨_, _, rfl, ?_⟩
    walk_at "un"
    refine forOf ?_
    walk_at "it"
    walk_at "un"
    refine ⟨_, rfl, by decide, by decide, ?_⟩
    refine FL.range (n := 5000) (fun i σ' H' => ∃ (x y : Nat) (o1 : Option V), σ' = [some (.int p), some (.int q), some (.int (x : Int)), some (.int (y : Int)), o1] ∧ Nat.gcd x y = Nat.gcd p.natAbs q.natAbs ∧ Enough (5000 - i) x y ∧ H' = H) ⟨p.natAbs, q.natAbs, none, ?_, rfl, enough_of hn (by omega), rfl⟩ ?_ ?_
    · rw [show ((q.natAbs : Nat) : Int) = q from Int.natAbs_of_nonneg (by omega)]
    · rintro i σ' H' hi ⟨x, y, o1, rfl, hgx, hen, rfl⟩
      walk_at "un"
      walk_at "go"
      refine ifD (fun c => ?_) (fun c => ?_)
      · have : y = 0 := by omega
        subst this
        rw [Nat.gcd_zero_right] at hgx
        subst hgx
        walk_at "go"
        refine ifD (fun c0 => absurd c0 (by omega)) (fun _ => ?_)
        walk_at "go"
        refine rdDivP (by omega) hb (by omega) ?_
        walk_at "go"
        refine rdDivP (by omega) hb (by omega) ⟨line2, fun a na => ?_⟩
        exact k1 _ _ (sameNew na) (frNew (num_pos c2) (den_pos c2))
      · walk_at "go"
        refine rdMod (by omega) ?_
        refine ⟨_, _, rfl, ?_⟩
        walk_at "un"
        refine ⟨y, x % y, _, by rw [Int.natCast_emod], ?_, ?_, rfl⟩
        · rw [← hgx, Nat.gcd_comm x y, Nat.gcd_rec y x, Nat.gcd_comm]
        · have h1 := hen.step (by omega)
          rw [show 5000 - i - 1 = 5000 - (i + 1) by omega] at h1
          exact h1
    · rintro σ' H' ⟨x, y, o1, rfl, hgx, hen, rfl⟩
      have := hen.pos
      omega
/-! ### _law_fraction -/
/-- a drawn fraction -/
def sp__law_fraction (K : PySem.W.Frag) : Sp := fun vs H Q _ => ∃ (d : Addr), vs = [.ref d] ∧ Ints H d ∧ ∀ H' v r, SameS [d] H H' → Ints H' d → Fr K H' v r → Sm 100 30 r → Q v H'
theorem ok__law_fraction {f : Addr} {fd : FuncData} (T : Tx K mg) (F : FunD K "_law_fraction" "_law_fraction" (defArgs s__law_fraction) (defBody s__law_fraction) (defScope s__law_fraction) [] [] f fd) (C__law_lowest : Cal P w K mg base "_law_lowest" 1 ["p", "q"] [] (sp__law_lowest K)) (C__law_take : Cal P w K mg base "_law_take" 1 ["row", "bound"] [] (sp__law_take)) : FnOk P w K mg base (L2.CX P w) 2 f fd ["row"] (sp__law_fraction K) := by
  refine F.ok sc__law_fraction (fun vs H Q E h => ?_) (fun cdv A outer st H vs Q E hr h => ?_)
  · obtain ⟨_, rfl, _⟩ := h
    rfl
  · obtain ⟨d, rfl, hI, q⟩ := h
    refine ⟨_, PSs.nox (pss_cons (ps_set (i := 1) sc__law_fraction.nd rfl (Or.inl rfl) (pe_callC C__law_take hr (by decide) (by rfl) (pa_cons (pv 0) (pa_cons pe_int pa_nil)))) (pss_cons (ps_if (pt_cmpR op_lt (pv 1) pe_int (nomark _)) (pss_one (ps_ret (pe_tupN (pa_cons (pe_op op_sub (pe_callC C__law_take hr (by decide) (by rfl) (pa_cons (pv 0) (pa_cons pe_int pa_nil))) pe_int) (pa_cons pe_int pa_nil))))) pss_nil) (pss_cons (ps_if (pt_cmpR op_lt (pv 1) pe_int (nomark _)) (pss_one (ps_ret (pe_callC C__law_lowest hr (by decide) (by rfl) (pa_cons (pe_op op_sub (pe_callC C__law_take hr (by decide) (by rfl) (pa_cons (pv 0) (pa_cons pe_int pa_nil))) pe_int) (pa_cons (pe_op op_add pe_int (pe_callC C__law_take hr (by decide) (by rfl) (pa_cons (pv 0) (pa_cons pe_int pa_nil)))) pa_nil))))) pss_nil) (pss_cons (ps_if (pt_cmpR (op_eqA hr.units) (pv 1) pe_int (nomark _)) (pss_one (ps_ret (pe_tupN (pa_cons pe_int (pa_cons pe_int pa_nil))))) pss_nil) (pss_one (ps_ret (pe_callC C__law_lowest hr (by decide) (by rfl) (pa_cons (pe_op op_sub (pe_callC C__law_take hr (by decide) (by rfl) (pa_cons (pv 0) (pa_cons pe_int pa_nil))) pe_int) (pa_cons (pe_op op_add pe_int (pe_callC C__law_take hr (by decide) (by rfl) (pa_cons (pv 0) (pa_cons pe_int pa_nil)))) pa_nil))))))))), ?_⟩
    walk_at "un"
    walk_at "go"
    refine ⟨d, 8, rfl, hI, by decide, fun H1 c s1 hI c0 c8 => ?_⟩
    walk_at "go"
    refine ifD (fun c4 => ?_) (fun c4 => ?_)
    · walk_at "go"
      refine ⟨d, 7, rfl, hI, by decide, fun H2 p s2 hI p0 p7 => ?_⟩
      walk_at "go"
      rename_i H3 t s3 g
      exact q _ _ (Rat.divInt (p - 2) 1) ((s1.trans s2).trans (sameS s3)) (hI.mono s3) (fr_int g) (sm_divInt (by decide) (by omega) (by decide))
    · walk_at "go"
      refine ifD (fun c6 => ?_) (fun c6 => ?_)
      · walk_at "go"
        refine ⟨d, 13, rfl, hI, by decide, fun H2 p s2 hI p0 p7 => ?_⟩
        walk_at "go"
        refine ⟨d, 4, rfl, hI, by decide, fun H3 k s3 hI k0 k4 => ?_⟩
        walk_at "go"
        refine ⟨_, _, 6, rfl, by omega, by decide, by omega, fun H4 v s4 hv => ?_⟩
        exact q _ _ _ (((s1.trans s2).trans s3).trans (sameS s4)) (hI.mono s4) hv (sm_divInt (by omega) (by omega) (by omega))
      · walk_at "go"
        refine ifD (fun c7 => ?_) (fun c7 => ?_)
        · walk_at "go"
          rename_i H3 t s3 g
          exact q _ _ (Rat.divInt 0 1) (s1.trans (sameS s3)) (hI.mono s3) (fr_int g) (sm_divInt (by decide) (by decide) (by decide))
        · walk_at "go"
          refine ⟨d, 200, rfl, hI, by decide, fun H2 p s2 hI p0 p7 => ?_⟩
          walk_at "go"
          refine ⟨d, 30, rfl, hI, by decide, fun H3 k s3 hI k0 k4 => ?_⟩
          walk_at "go"
          refine ⟨_, _, 6, rfl, by omega, by decide, by omega, fun H4 v s4 hv => ?_⟩
          exact q _ _ _ (((s1.trans s2).trans s3).trans (sameS s4)) (hI.mono s4) hv (sm_divInt (by omega) (by omega) (by omega))
/-! ### _law_plus -/
def sp__law_plus (K : PySem.W.Frag) : Sp := fun vs H Q _ => ∃ (v u : V) (r s : Rat) (m n : Nat), vs = [v, u] ∧ Fr K H v r ∧ Fr K H u s ∧ Bd m r ∧ Bd n s ∧ m + n < 2399 ∧ ∀ H' x, Same H H' → Fr K H' x (r + s) → Q x H'
theorem ok__law_plus {f : Addr} {fd : FuncData} (T : Tx K mg) (F : FunD K "_law_plus" "_law_plus" (defArgs s__law_plus) (defBody s__law_plus) (defScope s__law_plus) [] [] f fd) (C__law_lowest : Cal P w K mg base "_law_lowest" 1 ["p", "q"] [] (sp__law_lowest K)) : FnOk P w K mg base (L2.CX P w) 2 f fd ["a", "b"] (sp__law_plus K) := by
  refine F.ok sc__law_plus (fun vs H Q E h => ?_) (fun cdv A outer st H vs Q E hr h => ?_)
  · obtain ⟨_, _, _, _, _, _, rfl, _⟩ := h
    rfl
  · obtain ⟨v, u, r, s, m, n, rfl, hv, hu, ⟨h1, h2'⟩, ⟨h3, h4'⟩, hmn, q⟩ := h
    have h2 : (r.den : Int).natAbs < 2 ^ m := h2'
    have h4 : (s.den : Int).natAbs < 2 ^ n := h4'
    refine ⟨_, PSs.nox (pss_one (ps_ret (pe_callC C__law_lowest hr (by decide) (by rfl) (pa_cons (pe_op op_add (pe_op op_mulG (pe_ix ix_seq (pv 0) pe_int (fun _ _ => rfl)) (pe_ix ix_seq (pv 1) pe_int (fun _ _ => rfl))) (pe_op op_mulG (pe_ix ix_seq (pv 1) pe_int (fun _ _ => rfl)) (pe_ix ix_seq (pv 0) pe_int (fun _ _ => rfl)))) (pa_cons (pe_op op_mulG (pe_ix ix_seq (pv 0) pe_int (fun _ _ => rfl)) (pe_ix ix_seq (pv 1) pe_int (fun _ _ => rfl))) pa_nil))))), ?_⟩
    walk_at "un"
    walk_at "go"
    refine ⟨_, _, m + n, rfl, mul_lt h2 h4, by omega, Int.mul_pos (den_p r) (den_p s), fun H' x sm hx => ?_⟩
    rw [add_as] at hx
    exact q _ _ sm hx
/-! ### _law_times -/
def sp__law_times (K : PySem.W.Frag) : Sp := fun vs H Q _ => ∃ (v u : V) (r s : Rat) (m n : Nat), vs = [v, u] ∧ Fr K H v r ∧ Fr K H u s ∧ Bd m r ∧ Bd n s ∧ m + n < 2399 ∧ ∀ H' x, Same H H' → Fr K H' x (r * s) → Q x H'
theorem ok__law_times {f : Addr} {fd : FuncData} (T : Tx K mg) (F : FunD K "_law_times" "_law_times" (defArgs s__law_times) (defBody s__law_times) (defScope s__law_times) [] [] f fd) (C__law_lowest : Cal P w K mg base "_law_lowest" 1 ["p", "q"] [] (sp__law_lowest K)) : FnOk P w K mg base (L2.CX P w) 2 f fd ["a", "b"] (sp__law_times K) := by
  refine F.ok sc__law_times (fun vs H Q E h => ?_) (fun cdv A outer st H vs Q E hr h => ?_)
  · obtain ⟨_, _, _, _, _, _, rfl, _⟩ := h
    rfl
  · obtain ⟨v, u, r, s, m, n, rfl, hv, hu, ⟨h1, h2'⟩, ⟨h3, h4'⟩, hmn, q⟩ := h
    have h2 : (r.den : Int).natAbs < 2 ^ m := h2'
    have h4 : (s.den : Int).natAbs < 2 ^ n := h4'
    refine ⟨_, PSs.nox (pss_one (ps_ret (pe_callC C__law_lowest hr (by decide) (by rfl) (pa_cons (pe_op op_mulG (pe_ix ix_seq (pv 0) pe_int (fun _ _ => rfl)) (pe_ix ix_seq (pv 1) pe_int (fun _ _ => rfl))) (pa_cons (pe_op op_mulG (pe_ix ix_seq (pv 0) pe_int (fun _ _ => rfl)) (pe_ix ix_seq (pv 1) pe_int (fun _ _ => rfl))) pa_nil))))), ?_⟩
    walk_at "un"
    walk_at "go"
    refine ⟨_, _, m + n, rfl, mul_lt h2 h4, by omega, Int.mul_pos (den_p r) (den_p s), fun H' x sm hx => ?_⟩
    rw [mul_as] at hx
    exact q _ _ sm hx
/-! ### _law_less -/
/-- one fraction below another -/
def sp__law_less (K : PySem.W.Frag) : Sp := fun vs H Q _ => ∃ (v u : V) (r s : Rat) (m n : Nat), vs = [v, u] ∧ Fr K H v r ∧ Fr K H u s ∧ Bd m r ∧ Bd n s ∧ m + n < 8999 ∧ Q (.bl (decide (r < s))) H
theorem less_as (r s : Rat) : decide (r.num * (s.den : Int) < s.num * (r.den : Int)) = decide (r < s) := by
  rw [Bool.eq_iff_iff, decide_eq_true_iff, decide_eq_true_iff, Rat.lt_iff]
theorem ok__law_less {f : Addr} {fd : FuncData} (T : Tx K mg) (F : FunD K "_law_less" "_law_less" (defArgs s__law_less) (defBody s__law_less) (defScope s__law_less) [] [] f fd) : FnOk P w K mg base (L2.CX P w) 1 f fd ["a", "b"] (sp__law_less K) := by
  refine F.ok sc__law_less (fun vs H Q E h => ?_) (fun cdv A outer st H vs Q E hr h => ?_)
  · obtain ⟨_, _, _, _, _, _, rfl, _⟩ := h
    rfl
  · obtain ⟨v, u, r, s, m, n, rfl, hv, hu, ⟨h1, h2'⟩, ⟨h3, h4'⟩, hmn, q⟩ := h
    have h2 : (r.den : Int).natAbs < 2 ^ m := h2'
    have h4 : (s.den : Int).natAbs < 2 ^ n := h4'
    refine ⟨_, PSs.nox (pss_one (ps_ret (pe_cmpR op_lt (pe_op op_mulG (pe_ix ix_seq (pv 0) pe_int (fun _ _ => rfl)) (pe_ix ix_seq (pv 1) pe_int (fun _ _ => rfl))) (pe_op op_mulG (pe_ix ix_seq (pv 1) pe_int (fun _ _ => rfl)) (pe_ix ix_seq (pv 0) pe_int (fun _ _ => rfl))) (nomark _)))), ?_⟩
    walk_at "un"
    walk_at "go"
    rw [less_as]
    exact q
/-! ### _law_dot -/
def sp__law_dot (K : PySem.W.Frag) : Sp := fun vs H Q _ => ∃ (v u : V) (rs ss : List Rat) (n : Nat), vs = [v, u] ∧ Frs K H v rs ∧ Frs K H u ss ∧ (∀ r ∈ rs, Bd n r) ∧ (∀ r ∈ ss, Bd n r) ∧ 1 + rs.length * (n + n + 1) + n + n < 2398 ∧ rs.length ≤ 1000 ∧ ∀ H' x, Same H H' → Fr K H' x (dotR rs ss) → Q x H'
theorem ok__law_dot {f : Addr} {fd : FuncData} (T : Tx K mg) (F : FunD K "_law_dot" "_law_dot" (defArgs s__law_dot) (defBody s__law_dot) (defScope s__law_dot) [] [] f fd) (C__law_plus : Cal P w K mg base "_law_plus" 2 ["a", "b"] [] (sp__law_plus K)) (C__law_times : Cal P w K mg base "_law_times" 2 ["a", "b"] [] (sp__law_times K)) : FnOk P w K mg base (L2.CX P w) 3 f fd ["first", "second"] (sp__law_dot K) := by
  refine F.ok sc__law_dot (fun vs H Q E h => ?_) (fun cdv A outer st H vs Q E hr h => ?_)
  · obtain ⟨_, _, _, _, _, rfl, _⟩ := h
    rfl
  · obtain ⟨v, u, rs, ss, n, rfl, hv, hu, hb1, hb2, hn, hlr, q⟩ := h
    obtain ⟨a, xs, rfl, hS, hD⟩ := hv.get
    obtain ⟨b, ys, rfl, hS2, hD2⟩ := hu.get
    have hl := frs_len hD
    have hl2 := frs_len hD2
    refine ⟨_, PSs.nox (pss_cons (ps_set (i := 2) sc__law_dot.nd rfl (Or.inl rfl) (pe_tupN (pa_cons pe_int (pa_cons pe_int pa_nil)))) (pss_cons (ps_for PassesOwn.never rfl (pi_range1 (by rfl) T.n_range (pa_cons (pe_callB (cl_min2 rfl) (by rfl) T.n_min bb_min (pa_cons (pe_callB cl_len (by rfl) T.n_len bb_len (pa_cons (pv 0) pa_nil)) (pa_cons (pe_callB cl_len (by rfl) T.n_len bb_len (pa_cons (pv 1) pa_nil)) pa_nil))) pa_nil)) (pg_name (i := 3) sc__law_dot.nd rfl (Or.inl rfl)) (pss_one (ps_if ((pw_and (pt_cmpR (op_neA hr.units) (pe_ix ix_seq (pe_ix ix_seq (pv 0) (pv 3) (fun _ _ => rfl)) pe_int (fun _ _ => rfl)) pe_int (nomark _)) (pw_and1 (pt_cmpR (op_neA hr.units) (pe_ix ix_seq (pe_ix ix_seq (pv 1) (pv 3) (fun _ _ => rfl)) pe_int (fun _ _ => rfl)) pe_int (nomark _))))).pt (pss_one (ps_set (i := 2) sc__law_dot.nd rfl (Or.inl rfl) (pe_callC C__law_plus hr (by decide) (by rfl) (pa_cons (pv 2) (pa_cons (pe_callC C__law_times hr (by decide) (by rfl) (pa_cons (pe_ix ix_seq (pv 0) (pv 3) (fun _ _ => rfl)) (pa_cons (pe_ix ix_seq (pv 1) (pv 3) (fun _ _ => rfl)) pa_nil))) pa_nil))))) pss_nil))) (pss_one (ps_ret (pv 2))))), ?_⟩
    walk_at "un"
    walk_at "go"
    rename_i H1 f1 s1 g1
    refine forOf ?_
    walk_at "it"
    walk_at "un"
    walk_at "go"
    refine rdLenL (s1.seq hS) ?_
    walk_at "go"
    refine rdLenL (s1.seq hS2) ?_
    walk_at "go"
    refine ⟨by omega, by omega, ?_⟩
    rw [show ((min xs.length ys.length : Nat) : Int).toNat = min xs.length ys.length by omega]
    refine FL.range (n := min xs.length ys.length) (fun i σ' H' => ∃ f o1, σ' = [some (.ref a), some (.ref b), some f, o1] ∧ Same H H' ∧ Fr K H' f (sumR ((List.zipWith (· * ·) rs ss).take i))) ⟨f1, _, rfl, s1, g1⟩ ?_ ?_
    · rintro i σ' H' hi ⟨f, o1, rfl, s2, hf⟩
      obtain ⟨r, hr, hx⟩ := frs_at hD (List.getElem?_eq_getElem (show i < xs.length by omega))
      obtain ⟨s, hs, hy⟩ := frs_at hD2 (List.getElem?_eq_getElem (show i < ys.length by omega))
      have hx := hx.mono s2
      have hy := hy.mono s2
      have hbr : Bd n r := hb1 r (List.mem_of_getElem? hr)
      have hbs : Bd n s := hb2 s (List.mem_of_getElem? hs)
      have hbz := bd_sumR (take_bd (bd_zip hb1 hb2) i)
      have hlz : ((List.zipWith (· * ·) rs ss).take i).length ≤ rs.length := by
        rw [List.length_take, List.length_zipWith]
        omega
      have hmul : ((List.zipWith (· * ·) rs ss).take i).length * (n + n + 1) ≤ rs.length * (n + n + 1) := Nat.mul_le_mul_right _ hlz
      have ix : ∀ {H'' : Hp} {Q' : VK}, Same H' H'' → Q' xs[i] H'' → rIx K (.ref a) (.int (0 + (i : Nat))) H'' Q' := fun e q' => rdIxL (e.seq (s2.seq hS)) (at_of (j := i) (by omega) (List.getElem?_eq_getElem (by omega))) q'
      have iy : ∀ {H'' : Hp} {Q' : VK}, Same H' H'' → Q' ys[i] H'' → rIx K (.ref b) (.int (0 + (i : Nat))) H'' Q' := fun e q' => rdIxL (e.seq (s2.seq hS2)) (at_of (j := i) (by omega) (List.getElem?_eq_getElem (by omega))) q'
      have rf : Same H' H' := fun _ _ h => h
      walk_at "un"
      walk_at "go"
      refine ix rf ?_
      walk_at "go"
      refine ifB (fun e => ?_) (fun e => ?_)
      · walk_at "go"
        refine iy rf ?_
        walk_at "go"
        refine ifB (fun e2 => ?_) (fun e2 => ?_)
        · walk_at "go"
          refine ix rf ?_
          walk_at "go"
          refine iy rf ?_
          refine ⟨_, _, r, s, n, n, rfl, hx, hy, hbr, hbs, by omega, fun H3 u3 s3 hu3 => ?_⟩
          refine ⟨f, u3, _, _, _, _, rfl, hf.mono s3, hu3, hbz, bd_mul hbr hbs, by omega, fun H4 u4 s4 hu4 => ?_⟩
          rw [← sumR_take (zip_at hr hs)] at hu4
          exact ⟨u4, _, rfl, (s2.trans s3).trans s4, hu4⟩
        · have e3 : s.num = 0 := by simpa using e2
          rw [← dot_skip hr hs (.inr e3)] at hf
          exact ⟨f, _, rfl, s2, hf⟩
      · have e3 : r.num = 0 := by simpa using e
        rw [← dot_skip hr hs (.inl e3)] at hf
        refine iteF ?_
        exact ⟨f, _, rfl, s2, hf⟩
    · rintro σ' H' ⟨f, o1, rfl, s2, hf⟩
      rw [List.take_of_length_le (by rw [List.length_zipWith]; omega)] at hf
      exact ⟨_, rfl, q _ _ s2 hf⟩
/-! ### _law_vector -/
def sp__law_vector (K : PySem.W.Frag) : Sp := fun vs H Q E => ∃ (d : Addr) (n : Nat), vs = [.ref d, .int (n : Int)] ∧ Ints H d ∧ n ≤ 20 ∧ ∀ (H' : Hp) (p : Addr) (rs : List Rat), SameS [d] H H' → Ints H' d → LL K (wo [d] H') p (rs.map frD) → Nw H p → rs.length = n → (∀ x ∈ rs, Bd 8 x) → Q (.ref p) H'
theorem ok__law_vector {f : Addr} {fd : FuncData} (T : Tx K mg) (F : FunD K "_law_vector" "_law_vector" (defArgs s__law_vector) (defBody s__law_vector) (defScope s__law_vector) [] [] f fd) (C__law_fraction : Cal P w K mg base "_law_fraction" 2 ["row"] [] (sp__law_fraction K)) : FnOk P w K mg base (L2.CX P w) 3 f fd ["row", "count"] (sp__law_vector K) := by
  refine F.ok sc__law_vector (fun vs H Q E h => ?_) (fun cdv A outer st H vs Q E hr h => ?_)
  · obtain ⟨_, _, rfl, _⟩ := h
    rfl
  · obtain ⟨d, n, rfl, hI, hn, q⟩ := h
    refine ⟨_, PSs.nox (pss_one (ps_ret (pe_lc (own := [("k", 2)]) (g := gName 2) (tt := tYes) rfl sc__law_vector.nd (pi_range1 (by rfl) T.n_range (pa_cons (pv 1) pa_nil)) (blkOk_by (N := N__law_vector) (sc := defScope s__law_vector) (by decide +kernel)) (fun _ _ _ _ _ => (pg_name (i := 2) sc__law_vector.nd rfl (by first | exact Or.inl rfl | exact Or.inr rfl))) (fun _ _ _ _ _ => pts_nil) (fun _ _ _ _ _ => (pe_callC C__law_fraction hr (by decide) (by rfl) (pa_cons (pv 0) pa_nil)))))), ?_⟩
    walk_at "un"
    walk_at "go"
    refine lcOf ?_
    walk_at "it"
    walk_at "un"
    walk_at "go"
    refine ⟨by omega, by omega, fun D nD => ?_⟩
    rw [show ((n : Nat) : Int).toNat = n by omega]
    have hD : D ∉ [d] := ne1 hI (Nw.of nD)
    refine LC.range (n := n) (fun i H' => SameS [d] H H' ∧ Ints H' d ∧ ∃ rs, Cel K [D, d] H' D (rs.map frD) ∧ rs.length = i ∧ ∀ r ∈ rs, Bd 8 r) ⟨sameS (sameNew nD), hI.mono (sameNew nD), [], Cel.new, rfl, fun _ h => absurd h List.not_mem_nil⟩ ?_ ?_
    · rintro i H1 hi ⟨s1, i1, rs, C1, lrs, brs⟩
      dsimp only [wipe, tYes]
      walk_at "un"
      refine ⟨rfl, iteT ?_⟩
      walk_at "go"
      refine ⟨d, rfl, i1, fun H2 v r s2 i2 hv sm => ?_⟩
      have C2 := C1.monoS s2 sub1 hD
      obtain ⟨acc, e1, e2, C3⟩ := C2.turn (d := frD r) (List.mem_cons_self ..) (by rw [frsLen]; omega) (Kp.fr (ls2 C2.ls i2) hv)
      refine ⟨acc, e1, e2, (s1.trans s2).late nD, i2.stay (fun z => hD (List.mem_singleton.mpr z.symm)), rs ++ [r], by rw [List.map_append]; exact C3, by rw [List.length_append, lrs]; rfl, fun x hx => ?_⟩
      rcases List.mem_append.mp hx with e | e
      · exact brs x e
      · rw [List.mem_singleton.mp e]
        exact sm.bd (by decide) (by decide)
    · rintro H1 ⟨s1, i1, rs, C1, lrs, brs⟩
      walk_at "un"
      exact q _ D rs s1 i1 (C1.done sub1 hD) (Nw.of nD) lrs brs
/-! ### _law_program -/
theorem noLs_frs : ∀ rs : List Rat, noL.noLs (rs.map frD) = true
  | [] => rfl
  | r :: rs => by
    show (noL (frD r) && noL.noLs (rs.map frD)) = true
    rw [noLs_frs rs]
    rfl
/-- a drawn program -/
structure PgD (n : Nat) (fs : List Bool) (gs : List Rat) (rs : List Row) : Prop where
  ok : PgOk n fs gs rs
  n1 : 1 ≤ n
  n5 : n ≤ 5
  r3 : rs.length ≤ 3
  bg : ∀ x ∈ gs, Bd 8 x
  br : ∀ t ∈ rs, (∀ x ∈ t.ns, Bd 8 x) ∧ Bd 8 t.b
theorem dp_in2 {K : PySem.W.Frag} {H : Hp} {p r d : Addr} {rs : List Rat} (l : Ls [r, d] H) (n1 : p ≠ r) (n2 : p ≠ d) (h : LL K H p (rs.map frD)) : Dp K (wo [r, d] H) (.ref p) (.list (rs.map frD)) := by
  obtain ⟨xs, h1, h2⟩ := h
  refine .lst (.inl (.inl ?_)) (Kp.ofNoLAll l _ _ (noLs_frs rs) h2)
  rw [wo_out (fun z => ?_)]
  · exact h1
  · rcases List.mem_cons.mp z with z | z
    · exact n1 z
    · exact n2 (List.mem_singleton.mp z)
def sp__law_program (K : PySem.W.Frag) : Sp := fun vs H Q E => ∃ (d : Addr), vs = [.ref d, .int 5] ∧ Ints H d ∧ ∀ (H' : Hp) (t f g r : Addr) (n : Nat) (fs : List Bool) (gs : List Rat) (rs : List Row), SameS [d] H H' → Ints H' d → SqT K H' t [.int (n : Int), .ref f, .ref g, .ref r] → LL K (wo [d] H') f (fs.map PyData.bool) → LL K (wo [d] H') g (gs.map frD) → LL K (wo [d] H') r (rs.map rowD) → PgD n fs gs rs → Q (.ref t) H'
theorem ok__law_program {f : Addr} {fd : FuncData} (T : Tx K mg) (F : FunD K "_law_program" "_law_program" (defArgs s__law_program) (defBody s__law_program) (defScope s__law_program) [] [] f fd) (C__law_fraction : Cal P w K mg base "_law_fraction" 2 ["row"] [] (sp__law_fraction K)) (C__law_take : Cal P w K mg base "_law_take" 1 ["row", "bound"] [] (sp__law_take)) (C__law_vector : Cal P w K mg base "_law_vector" 3 ["row", "count"] [] (sp__law_vector K)) : FnOk P w K mg base (L2.CX P w) 4 f fd ["row", "most"] (sp__law_program K) := by
  refine F.ok sc__law_program (fun vs H Q E h => ?_) (fun cdv A outer st H vs Q E hr h => ?_)
  · obtain ⟨_, rfl, _⟩ := h
    rfl
  · obtain ⟨d, rfl, hI, q⟩ := h
    refine ⟨_, PSs.nox (pss_cons (ps_set (i := 2) sc__law_program.nd rfl (Or.inl rfl) (pe_op op_add pe_int (pe_callC C__law_take hr (by decide) (by rfl) (pa_cons (pv 0) (pa_cons (pv 1) pa_nil))))) (pss_cons (ps_setLc (i := 4) (own := [("k", 3)]) (g := gName 3) (tt := tYes) rfl sc__law_program.nd rfl rfl (sw_true rfl rfl rfl rfl) (pi_range1 (by rfl) T.n_range (pa_cons (pv 2) pa_nil)) (blkOk_by (N := N__law_program) (sc := defScope s__law_program) (by decide +kernel)) (fun _ _ _ _ _ => (pg_name (i := 3) sc__law_program.nd rfl (by first | exact Or.inl rfl | exact Or.inr rfl))) (fun _ _ _ _ _ => pts_nil) (fun _ _ _ _ _ => (pe_cmpR (op_eqAK (K := K) rfl hr.units) (pe_callC C__law_take hr (by decide) (by rfl) (pa_cons (pv 0) (pa_cons pe_int pa_nil))) pe_int (nomark _)))) (pss_cons (ps_set (i := 5) sc__law_program.nd rfl (Or.inl rfl) (pe_callC C__law_vector hr (by decide) (by rfl) (pa_cons (pv 0) (pa_cons (pv 2) pa_nil)))) (pss_cons (ps_set (i := 6) sc__law_program.nd rfl (Or.inl rfl) (pe_lstN pa_nil)) (pss_cons (ps_for PassesOwn.never rfl (pi_range1 (by rfl) T.n_range (pa_cons (pe_callC C__law_take hr (by decide) (by rfl) (pa_cons (pv 0) (pa_cons pe_int pa_nil))) pa_nil)) (pg_name (i := 3) sc__law_program.nd rfl (Or.inl rfl)) (pss_cons (ps_set (i := 7) sc__law_program.nd rfl (Or.inl rfl) (pe_ix ix_seq (pe_lstN (pa_cons pe_str (pa_cons pe_str (pa_cons pe_str (pa_cons pe_str pa_nil))))) (pe_callC C__law_take hr (by decide) (by rfl) (pa_cons (pv 0) (pa_cons pe_int pa_nil))) (fun _ _ => rfl))) (pss_one (ps_expr (pe_bm PySem.F.plainAttrs_list PySem.F.slot_list_append PySem.F.type_list_append mt_append (pv 6) (pa_cons (pe_tupN (pa_cons (pe_callC C__law_vector hr (by decide) (by rfl) (pa_cons (pv 0) (pa_cons (pv 2) pa_nil))) (pa_cons (pv 7) (pa_cons (pe_callC C__law_fraction hr (by decide) (by rfl) (pa_cons (pv 0) pa_nil)) pa_nil)))) pa_nil)))))) (pss_one (ps_ret (pe_tupN (pa_cons (pv 2) (pa_cons (pv 4) (pa_cons (pv 5) (pa_cons (pv 6) pa_nil)))))))))))), ?_⟩
    walk_at "un"
    walk_at "go"
    refine ⟨d, 5, rfl, hI, by decide, fun H1 n0 s1 i1 n00 n05 => ?_⟩
    obtain ⟨n, hn⟩ : ∃ n : Nat, 1 + n0 = (n : Int) := ⟨(1 + n0).toNat, by omega⟩
    walk_at "go"
    rw [hn]
    refine lcOf ?_
    walk_at "it"
    walk_at "un"
    walk_at "go"
    refine ⟨by omega, by omega, fun f nf => ?_⟩
    rw [show ((n : Nat) : Int).toNat = n by omega]
    have hf : f ∉ [d] := ne1 i1 (Nw.of nf)
    refine LC.range (n := n) (fun i H' => SameS [d] H1 H' ∧ Ints H' d ∧ ∃ fs : List Bool, Cel K [f, d] H' f (fs.map PyData.bool) ∧ fs.length = i) ⟨sameS (sameNew nf), i1.mono (sameNew nf), [], Cel.new, rfl⟩ ?_ ?_
    · rintro i H2 hi ⟨s2, i2, fs, C2, lfs⟩
      dsimp only [wipe, tYes]
      walk_at "un"
      refine ⟨rfl, iteT ?_⟩
      walk_at "go"
      refine ⟨d, 4, rfl, i2, by decide, fun H3 x s3 i3 x0 x4 => ?_⟩
      walk_at "go"
      have C3 := C2.monoS s3 sub1 hf
      obtain ⟨acc, e1, e2, C4⟩ := C3.turn (y := .bl (decide (x = 1))) (d := .bool (decide (x = 1))) (List.mem_cons_self ..) (by rw [List.length_map]; omega) (.bl _)
      refine ⟨acc, e1, e2, (s2.trans s3).late nf, i3.stay (fun z => hf (List.mem_singleton.mpr z.symm)), fs ++ [decide (x = 1)], by rw [List.map_append]; exact C4, by rw [List.length_append, lfs]; rfl⟩
    rintro H2 ⟨s2, i2, fs, C2, lfs⟩
    have hF := C2.done sub1 hf
    walk_at "go"
    refine ⟨d, n, rfl, i2, by omega, fun H3 g gs s3 i3 hG nwg lgs bgs => ?_⟩
    have hF3 := hF.monoS s3
    walk_at "go"
    refine rdLstH (Nat.zero_le _) fun H4 r s4 nr hr4 => ?_
    have i4 := i3.mono s4
    have hr : r ∉ [d] := ne1 i3 (Nw.of nr)
    walk_at "un"
    refine forOf ?_
    walk_at "it"
    walk_at "un"
    walk_at "go"
    refine ⟨d, 4, rfl, i4, by decide, fun H5 m0 s5 i5 m00 m04 => ?_⟩
    obtain ⟨m, hm⟩ : ∃ m : Nat, m0 = (m : Int) := ⟨m0.toNat, by omega⟩
    subst hm
    refine ⟨_, rfl, by omega, by omega, ?_⟩
    rw [show ((m : Nat) : Int).toNat = m by omega]
    have C5 : Cel K [r, d] H5 r (([] : List Row).map rowD) := (show Cel K [r, d] H4 r [] from ⟨[], hr4, .nil⟩).monoS s5 sub1 hr
    have hG3 := hG
    refine FL.range (n := m) (fun i σ' H' => ∃ o3 o7 rs, σ' = [some (.ref d), some (.int 5), some (.int (n : Int)), o3, some (.ref f), some (.ref g), some (.ref r), o7] ∧ SameS [d] H3 H' ∧ Ints H' d ∧ Cel K [r, d] H' r (rs.map rowD) ∧ rs.length = i ∧ ∀ t ∈ rs, RwOk n t ∧ (∀ x ∈ t.ns, Bd 8 x) ∧ Bd 8 t.b) ⟨_, _, [], rfl, (sameS s4).trans s5, i5, C5, rfl, fun _ h => absurd h List.not_mem_nil⟩ ?_ ?_
    · rintro i σ' H6 hi ⟨o3, o7, rs, rfl, s6, i6, C6, lrs, brs⟩
      walk_at "un"
      walk_at "go"
      refine rdLstH (Nat.le_of_ble_eq_true rfl) fun H7 lw s7 nl hlw => ?_
      have i7 := i6.mono s7
      have nlw : lw ∉ [d] := ne1 i6 (Nw.of nl)
      walk_at "go"
      refine ⟨d, 4, rfl, i7, by decide, fun H8 x s8 i8 x0 x4 => ?_⟩
      have hlw8 := s8.but _ _ nlw hlw (fun _ z => by cases z)
      obtain ⟨wd, ew, hw⟩ : ∃ wd : Str, atI [V.str "at most", .str "at least", .str "at most", .str "exactly"] x = some (.str wd) ∧ (wd = "at least" ∨ wd = "at most" ∨ wd = "exactly") := by
        rcases (show x = 0 ∨ x = 1 ∨ x = 2 ∨ x = 3 by omega) with e | e | e | e
        · subst e
          exact ⟨_, rfl, .inr (.inl rfl)⟩
        · subst e
          exact ⟨_, rfl, .inl rfl⟩
        · subst e
          exact ⟨_, rfl, .inr (.inl rfl)⟩
        · subst e
          exact ⟨_, rfl, .inr (.inr rfl)⟩
      walk_at "go"
      refine rdIxL (.inl (.inl hlw8)) ew ?_
      have C8 := (C6.mono s7).monoS s8 sub1 hr
      obtain ⟨as, has⟩ := C8.ls
      walk_at "un"
      walk_at "go"
      refine ⟨.inl ⟨rfl, _, .inl (.inl has)⟩, ?_⟩
      walk_at "go"
      refine ⟨d, n, rfl, i8, by omega, fun H9 p ns s9 i9 hV nwp lns bns => ?_⟩
      walk_at "go"
      refine ⟨d, rfl, i9, fun H10 v b s10 i10 hv sm => ?_⟩
      have C9 := C8.monoS s9 sub1 hr
      have C10 := C9.monoS s10 sub1 hr
      have npr : p ≠ r := (nwp.ne has).symm
      have npd : p ≠ d := fun z => hV.notIn (List.mem_singleton.mpr z)
      have k9 := dp_in2 (ls2 C9.ls i9) npr npd hV.out
      have k10 := Kp.mono (s10.sub sub1) k9
      refine ⟨small_line (Nat.le_of_ble_eq_true rfl), fun tp ntp => ?_⟩
      have e11 := sameNew ntp (o := .tup [.ref p, .str wd, v])
      have k11 : Dp K (wo [r, d] (upd H10 tp (.tup [.ref p, .str wd, v]))) (.ref tp) (rowD ⟨ns, wd, b⟩) := Kp.newT (ls2 C10.ls i10) ntp (.cons k10 (.cons (.str _) (.cons (Kp.fr (ls2 C10.ls i10) hv) .nil)))
      have C11 := C10.mono e11
      have i11 := i10.mono e11
      generalize upd H10 tp (.tup [.ref p, .str wd, v]) = H11 at e11 k11 C11 i11 ⊢
      refine C11.app (d := rowD ⟨ns, wd, b⟩) (List.mem_cons_self ..) (by rw [List.length_map]; omega) k11 fun acc e1 C12 => ?_
      have s311 : SameS [d] H3 H11 := (((((s6.trans (sameS s7)).trans s8).trans s9).trans s10)).trans (sameS e11)
      refine ⟨_, _, rs ++ [⟨ns, wd, b⟩], rfl, late_nw s311 (Nw.of nr) (notTbl e1) i3.ls, i11.stay (fun z => hr (List.mem_singleton.mpr z.symm)), ?_, ?_, ?_⟩
      · rw [List.map_append]
        exact C12
      · rw [List.length_append, lrs]
        rfl
      · intro t ht
        rcases List.mem_append.mp ht with z | z
        · exact brs t z
        · rw [List.mem_singleton.mp z]
          exact ⟨⟨lns, hw⟩, bns, sm.bd (by decide) (by decide)⟩
    · rintro σ' H6 ⟨o3, o7, rs, rfl, s6, i6, C6, lrs, brs⟩
      walk_at "un"
      walk_at "go"
      refine ⟨small_line (Nat.le_of_ble_eq_true rfl), fun t nt => ?_⟩
      have e7 := sameNew nt (o := .tup [.int (n : Int), .ref f, .ref g, .ref r])
      have hR := (C6.done sub1 hr).monoS (sameS e7)
      refine q _ t f g r n fs gs rs ((((s1.trans s2).trans s3).trans s6).trans (sameS e7)) (i6.mono e7) (.inl (.inl upd_same)) ((hF3.monoS s6).monoS (sameS e7)) ((hG3.monoS s6).monoS (sameS e7)) hR ?_
      exact ⟨⟨by omega, lfs, lgs, by omega, fun t ht => (brs t ht).1⟩, by omega, by omega, by omega, bgs, fun t ht => (brs t ht).2⟩
/-! ### _law_row_holds -/
def sp__law_row_holds (K : PySem.W.Frag) : Sp := fun vs H Q E => ∃ (v1 v2 v3 : V) (r : Row) (ps : List Rat), vs = [v1, .str r.rel, v2, v3] ∧ Frs K H v1 r.ns ∧ Fr K H v2 r.b ∧ Frs K H v3 ps ∧ RwBd r ∧ (∀ x ∈ ps, Bd 110 x) ∧ r.ns.length ≤ 8 ∧ ∀ H', Same H H' → Q (.bl (rowHolds r ps)) H'
theorem ok__law_row_holds {f : Addr} {fd : FuncData} (T : Tx K mg) (F : FunD K "_law_row_holds" "_law_row_holds" (defArgs s__law_row_holds) (defBody s__law_row_holds) (defScope s__law_row_holds) [] [] f fd) (C__law_dot : Cal P w K mg base "_law_dot" 3 ["first", "second"] [] (sp__law_dot K)) (C__law_less : Cal P w K mg base "_law_less" 1 ["a", "b"] [] (sp__law_less K)) : FnOk P w K mg base (L2.CX P w) 4 f fd ["numbers", "word", "bound", "point"] (sp__law_row_holds K) := by
  refine F.ok sc__law_row_holds (fun vs H Q E h => ?_) (fun cdv A outer st H vs Q E hr h => ?_)
  · obtain ⟨_, _, _, _, _, rfl, _⟩ := h
    rfl
  · obtain ⟨v1, v2, v3, r, ps, rfl, h1, h2, h3, ⟨b1, b2⟩, bp, ln, q⟩ := h
    have bd := bd_dotR b1 bp
    refine ⟨_, PSs.nox (pss_cons (ps_set (i := 4) sc__law_row_holds.nd rfl (Or.inl rfl) (pe_callC C__law_dot hr (by decide) (by rfl) (pa_cons (pv 0) (pa_cons (pv 3) pa_nil)))) (pss_cons (ps_if (pt_cmpR (op_eqA hr.units) (pv 1) pe_str (nomark _)) (pss_one (ps_ret (pe_not (pe_callC C__law_less hr (by decide) (by rfl) (pa_cons (pv 4) (pa_cons (pv 2) pa_nil)))))) pss_nil) (pss_cons (ps_if (pt_cmpR (op_eqA hr.units) (pv 1) pe_str (nomark _)) (pss_one (ps_ret (pe_not (pe_callC C__law_less hr (by decide) (by rfl) (pa_cons (pv 2) (pa_cons (pv 4) pa_nil)))))) pss_nil) (pss_one (ps_ret (pe_cmpR (op_eqA hr.units) (pv 4) (pv 2) (nomark _))))))), ?_⟩
    walk_at "un"
    walk_at "go"
    refine ⟨v1, v3, r.ns, ps, 110, rfl, h1, h3, b1, bp, by omega, by omega, fun H1 o1 s1 g1 => ?_⟩
    have g2 := h2.mono s1
    have key : ∀ rel, agreeB rel (cmpR (dotR r.ns ps) r.b) = (if rel = "at least" then !decide (dotR r.ns ps < r.b) else if rel = "at most" then !decide (r.b < dotR r.ns ps) else decide (dotR r.ns ps = r.b)) := fun rel => by
      unfold agreeB
      generalize dotR r.ns ps = u
      split
      · rw [Bool.eq_iff_iff]
        simp only [decide_eq_true_eq, Bool.not_eq_true', decide_eq_false_iff_not]
        exact UbC.cmpGe.trans Rat.not_lt.symm
      · split
        · rw [Bool.eq_iff_iff]
          simp only [decide_eq_true_eq, Bool.not_eq_true', decide_eq_false_iff_not]
          exact UbC.cmpLe.trans Rat.not_lt.symm
        · rw [Bool.eq_iff_iff]
          simp only [decide_eq_true_eq]
          rcases cmpR_cases u r.b with ⟨h, e⟩ | ⟨h, e⟩ | ⟨h, e⟩ <;> rw [e]
          · exact ⟨fun z => absurd z (by decide), fun z => absurd h (by rw [z]; exact Rat.lt_irrefl)⟩
          · exact ⟨fun _ => h, fun _ => rfl⟩
          · exact ⟨fun z => absurd z (by decide), fun z => absurd h (by rw [z]; exact Rat.lt_irrefl)⟩
    unfold rowHolds at q
    rw [key] at q
    walk_at "go"
    refine ifD (fun e => ?_) (fun e => ?_)
    · rw [if_pos e] at q
      walk_at "go"
      refine ⟨_, _, _, _, _, _, rfl, g1, g2, bd, b2, by omega, ?_⟩
      walk_at "go"
      exact q _ s1
    · rw [if_neg e] at q
      walk_at "go"
      refine ifD (fun e => ?_) (fun e => ?_)
      · rw [if_pos e] at q
        walk_at "go"
        refine ⟨_, _, _, _, _, _, rfl, g2, g1, b2, bd, by omega, ?_⟩
        walk_at "go"
        exact q _ s1
      · rw [if_neg e] at q
        walk_at "go"
        refine rdEqFr g1 g2 ?_
        exact q _ s1
/-! ### _law_fits -/
def sp__law_fits (K : PySem.W.Frag) : Sp := fun vs H Q E => ∃ (t p f g r : Addr) (n : Nat) (fs : List Bool) (rs : List Row) (ps : List Rat), vs = [.ref t, .ref p] ∧ SqT K H t [.int (n : Int), .ref f, .ref g, .ref r] ∧ LL K H f (fs.map PyData.bool) ∧ LL K H r (rs.map rowD) ∧ LL K H p (ps.map frD) ∧ fs.length = n ∧ n ≤ 8 ∧ (∀ t ∈ rs, RwOk n t ∧ RwBd t) ∧ rs.length ≤ 100 ∧ (∀ x ∈ ps, Bd 110 x) ∧
  (fitsP n fs rs ps → ∀ H', Same H H' → Q (.bl true) H') ∧ (¬fitsP n fs rs ps → ∀ H', Same H H' → Q (.bl false) H')
theorem ok__law_fits {f : Addr} {fd : FuncData} (T : Tx K mg) (F : FunD K "_law_fits" "_law_fits" (defArgs s__law_fits) (defBody s__law_fits) (defScope s__law_fits) [] [] f fd) (C__law_row_holds : Cal P w K mg base "_law_row_holds" 4 ["numbers", "word", "bound", "point"] [] (sp__law_row_holds K)) : FnOk P w K mg base (L2.CX P w) 5 f fd ["program", "point"] (sp__law_fits K) := by
  refine F.ok sc__law_fits (fun vs H Q E h => ?_) (fun cdv A outer st H vs Q E hr h => ?_)
  · obtain ⟨_, _, _, _, _, _, _, _, _, rfl, _⟩ := h
    rfl
  · obtain ⟨t, p, f, g, r, n, fs, rs, ps, rfl, ht, hf, hrw, hp, lf, hn, hrs, lrs, bp, q1, q2⟩ := h
    obtain ⟨us, hu, huD⟩ := id hf
    obtain ⟨xs, hx, hxD⟩ := id hp
    obtain ⟨zs, hz, hzD⟩ := id hrw
    have lx := frs_len hxD
    have lz : zs.length = rs.length := (dpAll_len hzD).trans (List.length_map ..)
    have lu : us.length = fs.length := (dpAll_len huD).trans (List.length_map ..)
    refine ⟨_, PSs.nox (pss_cons (ps_asg (pv 0) (pg_tup rfl (pgs_cons (pg_name (i := 2) sc__law_fits.nd rfl (Or.inl rfl)) (pgs_cons (pg_name (i := 3) sc__law_fits.nd rfl (Or.inl rfl)) (pgs_cons (pg_name (i := 4) sc__law_fits.nd rfl (Or.inl rfl)) (pgs_cons (pg_name (i := 5) sc__law_fits.nd rfl (Or.inl rfl)) pgs_nil)))))) (pss_cons (ps_if (pt_cmpR (op_neA hr.units) (pe_callB cl_len (by rfl) T.n_len bb_len (pa_cons (pv 1) pa_nil)) (pv 2) (nomark _)) (pss_one (ps_ret pe_bl)) pss_nil) (pss_cons (ps_for PassesOwn.never rfl (pi_range1 (by rfl) T.n_range (pa_cons (pv 2) pa_nil)) (pg_name (i := 6) sc__law_fits.nd rfl (Or.inl rfl)) (pss_one (ps_if ((pw_and (pt_not (pt_truth (pe_ix ix_seq (pv 3) (pv 6) (fun _ _ => rfl)) (by intro _; rfl))) (pw_and1 (pt_cmpR op_lt (pe_ix ix_seq (pe_ix ix_seq (pv 1) (pv 6) (fun _ _ => rfl)) pe_int (fun _ _ => rfl)) pe_int (nomark _))))).pt (pss_one (ps_ret pe_bl)) pss_nil))) (pss_one (ps_ret (pe_callB (cr_all rfl) (by rfl) T.n_all bb_all (pa_cons (pe_lc (own := [("numbers", 7), ("word", 8), ("bound", 9)]) (g := gTup K 3 (gCons (gName 7) (gCons (gName 8) (gCons (gName 9) gNil)))) (tt := tYes) rfl sc__law_fits.nd (pi_list (pv 5)) (blkOk_by (N := N__law_fits) (sc := defScope s__law_fits) (by decide +kernel)) (fun _ _ _ _ _ => (pg_tup rfl (pgs_cons (pg_name (i := 7) sc__law_fits.nd rfl (by first | exact Or.inl rfl | exact Or.inr rfl)) (pgs_cons (pg_name (i := 8) sc__law_fits.nd rfl (by first | exact Or.inl rfl | exact Or.inr rfl)) (pgs_cons (pg_name (i := 9) sc__law_fits.nd rfl (by first | exact Or.inl rfl | exact Or.inr rfl)) pgs_nil))))) (fun _ _ _ _ _ => pts_nil) (fun _ _ _ _ _ => (pe_callC C__law_row_holds hr (by decide) (by rfl) (pa_cons (pv 7) (pa_cons (pv 8) (pa_cons (pv 9) (pa_cons (pv 1) pa_nil))))))) pa_nil))))))), ?_⟩
    walk_at "un"
    walk_at "go"
    refine ⟨t, _, rfl, ht, rfl, _, _, rfl, _, _, rfl, _, _, rfl, _, _, rfl, rfl, ?_⟩
    walk_at "un"
    walk_at "go"
    by_cases hln : ps.length = n
    case neg =>
      refine ifBT (by rw [decide_eq_false (by omega)]; rfl) ?_
      exact q2 (fun z => hln z.1.1) _ (fun _ _ h => h)
    refine ifNe (by omega) ?_
    refine forOf ?_
    walk_at "it"
    walk_at "un"
    walk_at "go"
    refine ⟨by omega, by omega, ?_⟩
    rw [show ((n : Nat) : Int).toNat = n by omega]
    refine FL.range (n := n) (fun i σ' H' => ∃ o6, σ' = [some (.ref t), some (.ref p), some (.int (n : Int)), some (.ref f), some (.ref g), some (.ref r), o6, none, none, none] ∧ H' = H ∧ ∀ j, j < i → fs.getD j false = true ∨ 0 ≤ ps.getD j 0) ⟨_, rfl, rfl, fun j hj => absurd hj (Nat.not_lt_zero _)⟩ ?_ ?_
    · rintro k σ' H' hk ⟨o6, rfl, rfl, inv⟩
      have hus : us[k]? = some us[k] := List.getElem?_eq_getElem (by omega)
      obtain ⟨b, eb, e⟩ := boolAt huD hus
      obtain ⟨vx, ex, hvx⟩ := frAt hxD (show k < ps.length by omega)
      have gb : fs.getD k false = b := by simp [List.getD, eb]
      have gr : ps.getD k 0 = ps[k] := by simp [List.getD, List.getElem?_eq_getElem (show k < ps.length by omega)]
      have step : (b = true ∨ 0 ≤ ps[k]) → ∀ j, j < k + 1 → fs.getD j false = true ∨ 0 ≤ ps.getD j 0 := fun hb j hj => by
        by_cases e : j = k
        · rw [e, gb, gr]
          exact hb
        · exact inv j (by omega)
      walk_at "un"
      walk_at "go"
      refine rdIxL (.inl (.inl hu)) (at_of (j := k) (by omega) (by rw [hus, e])) ?_
      refine ⟨b, rfl, ?_⟩
      cases b with
      | true => exact ifBF rfl ⟨_, rfl, rfl, step (.inl rfl)⟩
      | false =>
        refine ifBT rfl ?_
        walk_at "go"
        refine rdIxL (.inl (.inl hx)) (at_of (j := k) (by omega) ex) ?_
        walk_at "go"
        have hnum : ps[k].num < 0 ↔ ps[k] < 0 := by rw [← Int.not_le, Rat.num_nonneg, Rat.not_le]
        refine ifD (fun z => q2 (fun y => ?_) _ (fun _ _ h => h)) (fun z => ⟨_, rfl, rfl, step (.inr (Rat.not_lt.mp fun y => z (hnum.mpr y)))⟩)
        have y2 := y.1.2 k hk
        rw [gb, gr] at y2
        rcases y2 with y3 | y3
        · cases y3
        · exact absurd (hnum.mp z) (Rat.not_lt.mpr y3)
    · rintro σ' H' ⟨o6, rfl, rfl, inv⟩
      walk_at "un"
      walk_at "go"
      refine lcOf ?_
      walk_at "it"
      walk_at "un"
      refine ⟨_, rfl, r, rfl, ⟨_, .inl (.inl hz)⟩, fun D nD => ?_⟩
      refine LC.list (xs := zs) (fun i H2 => Same H' H2 ∧ H2 D = some (.lst (((rs.take i).map fun t => rowHolds t ps).map V.bl))) ⟨sameNew nD, upd_same⟩ (fun i H2 _ e => .inl (.inl (e.1 _ _ hz))) ?_ ?_
      · rintro i v H2 hv ⟨e2, hD2⟩
        obtain ⟨rw', er, hr2⟩ := rowsAt (Dp.monoAll e2 _ _ hzD) hv
        obtain ⟨tt, v1, v3, rfl, hS, h1, h3⟩ := rowGet hr2
        obtain ⟨R, B⟩ := hrs rw' (List.mem_of_getElem? er)
        have lr := R.len
        have hi := (List.getElem?_eq_some_iff.mp er).1
        dsimp only [wipe]
        walk_at "un"
        refine ⟨tt, _, rfl, hS, rfl, _, _, rfl, _, _, rfl, _, _, rfl, rfl, rfl, ?_⟩
        dsimp only [tYes]
        refine ifBT rfl ?_
        walk_at "go"
        refine ⟨v1, v3, .ref p, rw', ps, rfl, h1, h3, (hp.mono e2).dp, B, bp, by omega, fun H3 s3 => ?_⟩
        refine ⟨_, s3 _ _ hD2, ?_, sameLate' (e2.trans s3) nD, ?_⟩
        · rw [List.length_map, List.length_map, List.length_take]
          exact small1000 (by omega)
        · rw [upd_same, List.take_succ, er, List.map_append, List.map_append]
          rfl
      · rintro H2 ⟨e2, hD2⟩
        rw [List.take_of_length_le (by omega)] at hD2
        refine ⟨D, _, rfl, .inl (.inl hD2), ?_⟩
        cases hall : (rs.map fun t => rowHolds t ps).all id with
        | true =>
          refine q1 ⟨⟨hln, inv⟩, fun t' ht' => ?_⟩ _ e2
          exact List.all_eq_true.mp hall _ (List.mem_map.mpr ⟨t', ht', rfl⟩)
        | false =>
          refine q2 (fun z => ?_) _ e2
          have y : (rs.map fun t => rowHolds t ps).all id = true := List.all_eq_true.mpr fun b hb => by
            obtain ⟨t', ht', rfl⟩ := List.mem_map.mp hb
            exact z.2 t' ht'
          rw [hall] at y
          cases y
/-! ### _law_tight -/
theorem bd_mone {n : Nat} {s : Rat} (h : Bd n s) : Bd n ((-1) * s) := by
  rw [Rat.neg_mul, Rat.one_mul]
  exact bd_neg h
def sp__law_tight (K : PySem.W.Frag) : Sp := fun vs H Q E => ∃ (d t f g r : Addr) (n : Nat) (fs : List Bool) (gs : List Rat) (rs : List Row), vs = [.ref d, .ref t] ∧ Ints H d ∧ SqT K H t [.int (n : Int), .ref f, .ref g, .ref r] ∧ LL K (wo [d] H) r (rs.map rowD) ∧ PgD n fs gs rs ∧
  ∀ (H' : Hp) (p : Addr) (ps : List Rat), SameS [d] H H' → Ints H' d → LL K (wo [d] H') p (ps.map frD) → ps.length = n → (∀ x ∈ ps, Bd 110 x) → Q (.ref p) H'
theorem ok__law_tight {f : Addr} {fd : FuncData} (T : Tx K mg) (F : FunD K "_law_tight" "_law_tight" (defArgs s__law_tight) (defBody s__law_tight) (defScope s__law_tight) [] [] f fd) (C__law_dot : Cal P w K mg base "_law_dot" 3 ["first", "second"] [] (sp__law_dot K)) (C__law_lowest : Cal P w K mg base "_law_lowest" 1 ["p", "q"] [] (sp__law_lowest K)) (C__law_plus : Cal P w K mg base "_law_plus" 2 ["a", "b"] [] (sp__law_plus K)) (C__law_take : Cal P w K mg base "_law_take" 1 ["row", "bound"] [] (sp__law_take)) (C__law_times : Cal P w K mg base "_law_times" 2 ["a", "b"] [] (sp__law_times K)) : FnOk P w K mg base (L2.CX P w) 4 f fd ["row", "program"] (sp__law_tight K) := by
  refine F.ok sc__law_tight (fun vs H Q E h => ?_) (fun cdv A outer st H vs Q E hr h => ?_)
  · obtain ⟨_, _, _, _, _, _, _, _, _, rfl, _⟩ := h
    rfl
  · obtain ⟨d, t, f, g, r, n, fs, gs, rs, rfl, hI, ht, hR, M, q⟩ := h
    have n1 := M.n1
    have n5 := M.n5
    have r3 := M.r3
    refine ⟨_, PSs.nox (pss_cons (ps_asg (pv 1) (pg_tup rfl (pgs_cons (pg_name (i := 2) sc__law_tight.nd rfl (Or.inl rfl)) (pgs_cons (pg_name (i := 3) sc__law_tight.nd rfl (Or.inl rfl)) (pgs_cons (pg_name (i := 4) sc__law_tight.nd rfl (Or.inl rfl)) (pgs_cons (pg_name (i := 5) sc__law_tight.nd rfl (Or.inl rfl)) pgs_nil)))))) (pss_cons (ps_setLc (i := 7) (own := [("k", 6)]) (g := gName 6) (tt := tYes) rfl sc__law_tight.nd rfl rfl (sw_true rfl rfl rfl rfl) (pi_range1 (by rfl) T.n_range (pa_cons (pv 2) pa_nil)) (blkOk_by (N := N__law_tight) (sc := defScope s__law_tight) (by decide +kernel)) (fun _ _ _ _ _ => (pg_name (i := 6) sc__law_tight.nd rfl (by first | exact Or.inl rfl | exact Or.inr rfl))) (fun _ _ _ _ _ => pts_nil) (fun _ _ _ _ _ => (pe_callC C__law_lowest hr (by decide) (by rfl) (pa_cons (pe_callC C__law_take hr (by decide) (by rfl) (pa_cons (pv 0) (pa_cons pe_int pa_nil))) (pa_cons (pe_op op_add pe_int (pe_callC C__law_take hr (by decide) (by rfl) (pa_cons (pv 0) (pa_cons pe_int pa_nil)))) pa_nil))))) (pss_cons (ps_if (pt_truth (pv 5) (by intro _; rfl)) (pss_cons (ps_asg (pe_ix ix_seq (pv 5) (pe_callC C__law_take hr (by decide) (by rfl) (pa_cons (pv 0) (pa_cons (pe_callB cl_len (by rfl) T.n_len bb_len (pa_cons (pv 5) pa_nil)) pa_nil))) (fun _ _ => rfl)) (pg_tup rfl (pgs_cons (pg_name (i := 8) sc__law_tight.nd rfl (Or.inl rfl)) (pgs_cons (pg_name (i := 9) sc__law_tight.nd rfl (Or.inl rfl)) (pgs_cons (pg_name (i := 10) sc__law_tight.nd rfl (Or.inl rfl)) pgs_nil))))) (pss_cons (ps_set (i := 6) sc__law_tight.nd rfl (Or.inl rfl) (pe_callC C__law_take hr (by decide) (by rfl) (pa_cons (pv 0) (pa_cons (pv 2) pa_nil)))) (pss_one (ps_if (pt_cmpR (op_neA hr.units) (pe_ix ix_seq (pe_ix ix_seq (pv 8) (pv 6) (fun _ _ => rfl)) pe_int (fun _ _ => rfl)) pe_int (nomark _)) (pss_cons (ps_asg (pe_tupN (pa_cons pe_int (pa_cons pe_int pa_nil))) (pg_sub (pv 7) (pv 6) set_list)) (pss_cons (ps_set (i := 11) sc__law_tight.nd rfl (Or.inl rfl) (pe_callC C__law_plus hr (by decide) (by rfl) (pa_cons (pv 10) (pa_cons (pe_callC C__law_times hr (by decide) (by rfl) (pa_cons (pe_tupN (pa_cons (pe_un un_neg pe_int) (pa_cons pe_int pa_nil))) (pa_cons (pe_callC C__law_dot hr (by decide) (by rfl) (pa_cons (pv 8) (pa_cons (pv 7) pa_nil))) pa_nil))) pa_nil)))) (pss_cons (ps_set (i := 12) sc__law_tight.nd rfl (Or.inl rfl) (pe_callC C__law_lowest hr (by decide) (by rfl) (pa_cons (pe_op op_mulG (pe_ix ix_seq (pv 11) pe_int (fun _ _ => rfl)) (pe_ix ix_seq (pe_ix ix_seq (pv 8) (pv 6) (fun _ _ => rfl)) pe_int (fun _ _ => rfl))) (pa_cons (pe_op op_mulG (pe_ix ix_seq (pv 11) pe_int (fun _ _ => rfl)) (pe_callB cl_abs (by rfl) T.n_abs bb_abs (pa_cons (pe_ix ix_seq (pe_ix ix_seq (pv 8) (pv 6) (fun _ _ => rfl)) pe_int (fun _ _ => rfl)) pa_nil))) pa_nil)))) (pss_one (ps_asg (pe_tupN (pa_cons (pe_op op_mulG (pe_ix ix_seq (pv 12) pe_int (fun _ _ => rfl)) (pe_op op_sub pe_int (pe_op op_mulG pe_int (pe_callTy cl_int (by rfl) T.n_int bb_int (pa_cons (pe_cmpR op_lt (pe_ix ix_seq (pe_ix ix_seq (pv 8) (pv 6) (fun _ _ => rfl)) pe_int (fun _ _ => rfl)) pe_int (nomark _)) pa_nil))))) (pa_cons (pe_ix ix_seq (pv 12) pe_int (fun _ _ => rfl)) pa_nil))) (pg_sub (pv 7) (pv 6) set_list)))))) pss_nil)))) pss_nil) (pss_one (ps_ret (pv 7)))))), ?_⟩
    walk_at "un"
    walk_at "go"
    refine ⟨t, _, rfl, ht, rfl, _, _, rfl, _, _, rfl, _, _, rfl, _, _, rfl, rfl, ?_⟩
    walk_at "un"
    refine lcOf ?_
    walk_at "it"
    walk_at "un"
    walk_at "go"
    refine ⟨by omega, by omega, fun D nD => ?_⟩
    rw [show ((n : Nat) : Int).toNat = n by omega]
    have hD : D ∉ [d] := ne1 hI (Nw.of nD)
    refine LC.range (n := n) (fun i H' => SameS [d] H H' ∧ Ints H' d ∧ ∃ ps, Cel K [D, d] H' D (ps.map frD) ∧ ps.length = i ∧ ∀ x ∈ ps, Bd 8 x) ⟨sameS (sameNew nD), hI.mono (sameNew nD), [], Cel.new, rfl, fun _ h => absurd h List.not_mem_nil⟩ ?_ ?_
    · rintro i H1 hi ⟨s1, i1, ps, C1, lps, bps⟩
      dsimp only [wipe, tYes]
      walk_at "un"
      refine ⟨rfl, iteT ?_⟩
      walk_at "go"
      refine ⟨d, 5, rfl, i1, by decide, fun H2 a0 s2 i2 a00 a05 => ?_⟩
      walk_at "go"
      refine ⟨d, 2, rfl, i2, by decide, fun H3 b0 s3 i3 b00 b02 => ?_⟩
      walk_at "go"
      refine ⟨_, _, 3, rfl, by omega, by decide, by omega, fun H4 u s4 hu => ?_⟩
      have s14 : SameS [d] H1 H4 := (s2.trans s3).trans (sameS s4)
      have i4 := i3.mono s4
      have C4 := C1.monoS s14 sub1 hD
      have bu : Bd 8 (Rat.divInt a0 (1 + b0)) := (sm_divInt (a := 4) (b := 2) (by omega) (by omega) (by omega)).bd (by decide) (by decide)
      obtain ⟨acc, e1, e2, C5⟩ := C4.turn (d := frD (Rat.divInt a0 (1 + b0))) (List.mem_cons_self ..) (by rw [frsLen]; omega) (Kp.fr (ls2 C4.ls i4) hu)
      refine ⟨acc, e1, e2, (s1.trans s14).late nD, i4.stay (fun z => hD (List.mem_singleton.mpr z.symm)), ps ++ [Rat.divInt a0 (1 + b0)], by rw [List.map_append]; exact C5, by rw [List.length_append, lps]; rfl, fun x hx => ?_⟩
      rcases List.mem_append.mp hx with e | e
      · exact bps x e
      · rw [List.mem_singleton.mp e]
        exact bu
    rintro H1 ⟨s1, i1, ps, C1, lps, bps⟩
    have hRD : LL K (wo [D, d] H) r (rs.map rowD) := by
      rw [wo_cons nD]
      exact hR
    obtain ⟨zs, hz, hzD⟩ := id hRD
    have lz : zs.length = rs.length := (dpAll_len hzD).trans (List.length_map ..)
    have at1 : ∀ {H' : Hp}, SameS [d] H H' → H' r = some (.lst zs) := fun {H'} e => (wo_in ((SameS.sub e (sub1 (a := D))).wT.but _ _ hz (fun _ z => by cases z))).2
    have mvF : ∀ {H' : Hp} {v : V} {x : Rat}, SameS [d] H H' → Fr K (wo [D, d] H) v x → Fr K H' v x := fun {H' v x} e h => Kp.dp (Kp.mono (SameS.sub e (sub1 (a := D))) h)
    have hz1 := at1 s1
    walk_at "un"
    walk_at "go"
    refine truIf (.inl (.inl hz1)) (fun hnil => ?_) (fun hne => ?_)
    · walk_at "go"
      exact q _ D ps s1 i1 (C1.done sub1 hD) lps (fun x hx => (bps x hx).mono (by decide))
    have zpos : 0 < zs.length := List.length_pos_iff.mpr hne
    walk_at "go"
    refine ⟨d, (zs.length : Int), rfl, i1, by omega, fun H2 m0 s2 i2 m00 m01 => ?_⟩
    obtain ⟨m, hm⟩ : ∃ m : Nat, m0 = (m : Int) := ⟨m0.toNat, by omega⟩
    subst hm
    have hm : m < rs.length := by omega
    have s02 := s1.trans s2
    have ez : zs[m]? = some zs[m] := List.getElem?_eq_getElem (by omega)
    obtain ⟨rw', er, hr2⟩ := rowsAt hzD ez
    obtain ⟨tt, v1, v3, etv, hS2, h1, h3⟩ := rowGet hr2
    rw [etv] at ez
    have R := M.ok.ok rw' (List.mem_of_getElem? er)
    obtain ⟨B1, B2⟩ := M.br rw' (List.mem_of_getElem? er)
    have lr := R.len
    obtain ⟨na, ns, rfl, hSn, hDn⟩ := Frs.get h1
    have ln := frs_len hDn
    have mvS : ∀ {H' : Hp}, SameS [d] H H' → SqL K H' na ns := fun {H'} e => wo_seqH ((SameS.sub e (sub1 (a := D))).wT.seq hSn)
    have mvN : ∀ {H' : Hp}, SameS [d] H H' → Frs K H' (.ref na) rw'.ns := fun {H'} e => Kp.dp (Kp.mono (SameS.sub e (sub1 (a := D))) h1)
    walk_at "go"
    refine rdIxL (.inl (.inl (at1 s02))) (at_of (j := m) (by omega) ez) ?_
    refine ⟨tt, _, rfl, Same.tseq wo_same ((SameS.sub s02 (sub1 (a := D))).wT.tseq hS2), rfl, _, _, rfl, _, _, rfl, _, _, rfl, rfl, ?_⟩
    walk_at "un"
    walk_at "go"
    refine ⟨d, (n : Int), rfl, i2, by omega, fun H3 k0 s3 i3 k00 k01 => ?_⟩
    obtain ⟨k, hk⟩ : ∃ k : Nat, k0 = (k : Int) := ⟨k0.toNat, by omega⟩
    subst hk
    have hk : k < n := by omega
    obtain ⟨w1, f1, g1⟩ := frAt hDn (show k < rw'.ns.length by omega)
    have C3 := (C1.monoS s2 sub1 hD).monoS s3 sub1 hD
    have s13 : SameS [d] H H3 := s02.trans s3
    have g13 := mvF s13 g1
    walk_at "un"
    walk_at "go"
    refine rdIxL (mvS s13) (at_of (j := k) (by omega) f1) ?_
    walk_at "go"
    by_cases hnz : rw'.ns[k].num = 0
    · refine ifNe hnz ?_
      walk_at "go"
      exact q _ D ps s13 i3 (C3.done sub1 hD) lps (fun x hx => (bps x hx).mono (by decide))
    refine ifBT (by rw [decide_eq_false hnz]; rfl) ?_
    walk_at "go"
    rename_i H4 o4 s4 h4
    have h4 : Fr K H4 o4 0 := h4
    have C4 := C3.mono s4
    have i4 := i3.mono s4
    refine C4.setAt (d := frD 0) (k := k) (List.mem_cons_self ..) (by omega) (by rw [frsLen]; omega) (Kp.fr (ls2 C4.ls i4) h4) fun as has C5 => ?_
    have s05 : SameS [d] H (upd H4 D (.lst (as.set k o4))) := late_nw (s13.trans (sameS s4)) (Nw.of nD) (notTbl has) hI.ls
    have i5 : Ints (upd H4 D (.lst (as.set k o4))) d := i4.stay (fun z => hD (List.mem_singleton.mpr z.symm))
    have C5 : Cel K [D, d] (upd H4 D (.lst (as.set k o4))) D ((ps.set k 0).map frD) := by
      rw [List.map_set]
      exact C5
    generalize upd H4 D (.lst (as.set k o4)) = H5 at s05 i5 C5 ⊢
    have bp5 : ∀ x ∈ ps.set k 0, Bd 8 x := fun x hx => by
      rcases List.mem_or_eq_of_mem_set hx with z | z
      · exact bps x z
      · rw [z]
        exact bd_zero.mono (by decide)
    have l5 : (ps.set k 0).length = n := by rw [List.length_set]; exact lps
    generalize ps.set k 0 = p5 at C5 bp5 l5
    walk_at "go"
    rename_i H6 o6 s6 h6
    have h6 : Fr K H6 o6 (-1) := h6
    have s06 := s05.trans (sameS s6)
    refine ⟨.ref na, .ref D, rw'.ns, p5, 8, rfl, mvN s06, ((C5.done sub1 hD).out.mono s6).dp, B1, bp5, by omega, by omega, fun H7 o7 s7 h7 => ?_⟩
    have bdot : Bd 90 (dotR rw'.ns p5) := (bd_dotR B1 bp5).mono (by omega)
    refine ⟨_, _, -1, _, 1, 90, rfl, h6.mono s7, h7, ⟨by decide, by decide⟩, bdot, by decide, fun H8 o8 s8 h8 => ?_⟩
    have s08 := (s06.trans (sameS s7)).trans (sameS s8)
    refine ⟨_, _, _, _, 8, 90, rfl, mvF s08 h3, h8, B2, bd_mone bdot, by decide, fun H9 o9 s9 h9 => ?_⟩
    have s09 := s08.trans (sameS s9)
    have brest : Bd 99 (rw'.b + (-1) * dotR rw'.ns p5) := bd_add B2 (bd_mone bdot)
    generalize rw'.b + (-1) * dotR rw'.ns p5 = rest at h9 brest
    have g19 := mvF s09 g1
    walk_at "go"
    refine rdIxL (mvS s09) (at_of (j := k) (by omega) f1) ?_
    walk_at "go"
    obtain ⟨c1, c2'⟩ := brest
    have c2 : (rest.den : Int).natAbs < 2 ^ 99 := c2'
    obtain ⟨c3, c4'⟩ := B1 rw'.ns[k] (List.getElem_mem _)
    have c4 : (rw'.ns[k].den : Int).natAbs < 2 ^ 8 := c4'
    walk_at "go"
    have c5 : ((rw'.ns[k].num.natAbs : Nat) : Int).natAbs < 2 ^ 8 := by simpa using c3
    refine rdIxL (mvS s09) (at_of (j := k) (by omega) f1) ?_
    walk_at "go"
    have hq0 : 0 < (rest.den : Int) * ((rw'.ns[k].num.natAbs : Nat) : Int) := Int.mul_pos (den_p rest) (by omega)
    have m1 : (rest.num * (rw'.ns[k].den : Int)).natAbs < 2 ^ 107 := mul_lt c1 c4
    have m2 : ((rest.den : Int) * ((rw'.ns[k].num.natAbs : Nat) : Int)).natAbs < 2 ^ 107 := mul_lt c2 c5
    refine ⟨_, _, 107, rfl, m2, by decide, hq0, fun H10 u s10 hu => ?_⟩
    have bu : Bd 107 (Rat.divInt (rest.num * (rw'.ns[k].den : Int)) ((rest.den : Int) * ((rw'.ns[k].num.natAbs : Nat) : Int))) := bd_divInt (by omega) m1 m2
    generalize Rat.divInt (rest.num * (rw'.ns[k].den : Int)) ((rest.den : Int) * ((rw'.ns[k].num.natAbs : Nat) : Int)) = y at hu bu
    have s010 := s09.trans (sameS s10)
    have g110 := mvF s010 g1
    obtain ⟨c6, c7'⟩ := id bu
    have c7 : (y.den : Int).natAbs < 2 ^ 107 := c7'
    walk_at "go"
    refine rdIxL (mvS s010) (at_of (j := k) (by omega) f1) ?_
    walk_at "go"
    obtain ⟨sg, hsg, hw⟩ : ∃ sg : Int, (1 - 2 * if decide (rw'.ns[k].num < 0) = true then 1 else 0) = sg ∧ (sg = 1 ∨ sg = -1) := by
      by_cases hneg : rw'.ns[k].num < 0
      · exact ⟨-1, by rw [if_pos (decide_eq_true hneg)]; rfl, .inr rfl⟩
      · exact ⟨1, by rw [if_neg (by rw [decide_eq_false hneg]; decide)]; rfl, .inl rfl⟩
    rw [hsg]
    refine rdMul (mulW c6 (show sg.natAbs < 2 ^ 1 by rcases hw with e | e <;> rw [e] <;> decide) (by decide)) ?_
    walk_at "go"
    rename_i H11 o11 e11 h11
    obtain ⟨z, hz, bz⟩ : ∃ z : Rat, frD z = PyData.tuple [.int (y.num * sg), .int (y.den : Int)] ∧ Bd 107 z := by
      rcases hw with e | e
      · exact ⟨y, by rw [e, Int.mul_one]; rfl, bu⟩
      · refine ⟨-y, ?_, bd_neg bu⟩
        rw [e, Int.mul_neg, Int.mul_one]
        show PyData.tuple [.int (-y).num, .int ((-y).den : Int)] = _
        rw [Rat.neg_num, Rat.neg_den]
    have hT : Fr K H11 o11 z := by
      show Dp K _ _ (frD z)
      rw [hz]
      exact h11
    have C11 := (((((C5.mono s6).mono s7).mono s8).mono s9).mono s10).mono e11
    have i11 := (((((i5.mono s6).mono s7).mono s8).mono s9).mono s10).mono e11
    have s011 := s010.trans (sameS e11)
    refine C11.setAt (d := frD z) (k := k) (List.mem_cons_self ..) (by omega) (by rw [frsLen]; omega) (Kp.fr (ls2 C11.ls i11) hT) fun as2 has2 C12 => ?_
    have C12 : Cel K [D, d] (upd H11 D (.lst (as2.set k o11))) D ((p5.set k z).map frD) := by
      rw [List.map_set]
      exact C12
    walk_at "go"
    refine q _ D (p5.set k z) (late_nw s011 (Nw.of nD) (notTbl has2) hI.ls) (i11.stay (fun z => hD (List.mem_singleton.mpr z.symm))) (C12.done sub1 hD) (by rw [List.length_set]; exact l5) (fun x hx => ?_)
    rcases List.mem_or_eq_of_mem_set hx with e | e
    · exact (bp5 x e).mono (by decide)
    · rw [e]
      exact bz.mono (by decide)
/-! ### law -/
theorem rdNeSame {K : PySem.W.Frag} {H : Hp} {Q : VK} {x y : V} {d : PyData} (h1 : Dp K H x d) (h2 : Dp K H y d) (s : SeqAt.shaped d = true) (l : d.canLay0 = true) (q : Q (.bl false) H) : rNeA K x y H Q := .inr ⟨_, _, h1, h2, s, s, by rw [SeqAt.eqv_refl _ l]; exact q⟩
theorem canLay_bs : ∀ fs : List Bool, PyData.canLayAll0 (fs.map PyData.bool) = true
  | [] => rfl
  | b :: fs => by
    show (PyData.canLay0 (.bool b) && PyData.canLayAll0 (fs.map PyData.bool)) = true
    rw [canLay_bs fs]
    rfl
theorem depth_bs : ∀ fs : List Bool, PyData.depthAll (fs.map PyData.bool) ≤ 1
  | [] => Nat.zero_le _
  | b :: fs => by
    show max (PyData.depth (.bool b)) (PyData.depthAll (fs.map PyData.bool)) ≤ 1
    have h1 := depth_bs fs
    have h2 : PyData.depth (.bool b) = 0 := rfl
    omega
theorem shaped_bs (fs : List Bool) : SeqAt.shaped (.list (fs.map PyData.bool)) = true := by
  show (PyData.canLayAll0 (fs.map PyData.bool) && decide (PyData.depthAll (fs.map PyData.bool) + 1 ≤ 64)) = true
  rw [canLay_bs, decide_eq_true (by have := depth_bs fs; omega)]
  rfl
theorem canLay_rows {n : Nat} : ∀ rs : List Row, (∀ r ∈ rs, RwOk n r) → PyData.canLayAll0 (rs.map rowD) = true
  | [], _ => rfl
  | r :: rs, h => by
    show ((PyData.canLayAll0 (r.ns.map frD) && (PyData.canLay0 (.str r.rel) && (PyData.canLay0 (frD r.b) && true))) && PyData.canLayAll0 (rs.map rowD)) = true
    have e : PyData.canLay0 (.str r.rel) = true := by
      rcases (h r (List.mem_cons_self ..)).rel with e | e | e <;> rw [e] <;> decide +kernel
    rw [canLay_frs, canLay_rows rs (fun r hr => h r (List.mem_cons_of_mem _ hr)), e]
    rfl
theorem depth_rows : ∀ rs : List Row, PyData.depthAll (rs.map rowD) ≤ 3
  | [] => Nat.zero_le _
  | r :: rs => by
    show max ((max (PyData.depthAll (r.ns.map frD) + 1) (max 0 (max (PyData.depth (frD r.b)) 0))) + 1) (PyData.depthAll (rs.map rowD)) ≤ 3
    have h1 := depth_rows rs
    have h2 := depth_frs r.ns
    have h3 : PyData.depth (frD r.b) = 1 := rfl
    omega
theorem shaped_rows {n : Nat} (rs : List Row) (h : ∀ r ∈ rs, RwOk n r) : SeqAt.shaped (.list (rs.map rowD)) = true := by
  show (PyData.canLayAll0 (rs.map rowD) && decide (PyData.depthAll (rs.map rowD) + 1 ≤ 64)) = true
  rw [canLay_rows rs h, decide_eq_true (by have := depth_rows rs; omega)]
  rfl
def sp_law (K : PySem.W.Frag) : Sp := fun vs H Q _ => ∃ (a : Addr) (ns : List Int), vs = [.ref a] ∧ SqL K H a (ns.map V.int) ∧ ns.length ≤ 63 ∧ (∀ z ∈ ns, Builtin.Int.intBits z ≤ 1048576) ∧ (∀ p ∈ ([("keeps_signs", none)] : List He.Defn), GxR.TabG H (He.cT K p).2) ∧ ∀ H', Q (.bl true) H'
theorem PgS.monoT {K : PySem.W.Frag} {S : List Addr} {H H' : Hp} {a : Addr} {n : Nat} {f g r : Addr} {fs : List Bool} {gs : List Rat} {rs : List Row} (e : UbG.SameT H H') (h : PgS K S H a n f g r fs gs rs) : PgS K S H' a n f g r fs gs rs := by
  obtain ⟨dx, h1, h2, h3, h4⟩ := h
  exact ⟨dx, e.but _ _ h1 (fun _ z => by cases z), h2.monoS (sameTS e), h3.monoS (sameTS e), h4.monoS (sameTS e)⟩
theorem PgS.monoS {K : PySem.W.Frag} {S : List Addr} {H H' : Hp} {a : Addr} {n : Nat} {f g r : Addr} {fs : List Bool} {gs : List Rat} {rs : List Row} (e : SameS S H H') (l : Ls S H) (h : PgS K S H a n f g r fs gs rs) : PgS K S H' a n f g r fs gs rs := by
  obtain ⟨dx, h1, h2, h3, h4⟩ := h
  have na : a ∉ S := fun z => by
    obtain ⟨xs, hx⟩ := l a z
    rw [hx] at h1
    cases h1
  exact ⟨dx, e.but _ _ na h1 (fun _ z => by cases z), h2.monoS e, h3.monoS e, h4.monoS e⟩
theorem PgX.monoT {K : PySem.W.Frag} {H H' : Hp} {a : Addr} {n : Nat} {f g r : Addr} {fs : List Bool} {gs : List Rat} {rs : List Row} (e : UbG.SameT H H') (h : PgX K H a n f g r fs gs rs) : PgX K H' a n f g r fs gs rs := by
  obtain ⟨dx, h1, h2, h3, h4⟩ := h
  exact ⟨dx, e.but _ _ h1 (fun _ z => by cases z), h2.monoT e, h3.monoT e, h4.monoT e⟩
/-- what the law holds on to once the program is made and the given lists have been appended to -/
structure Hd8 (K : PySem.W.Frag) (S : List Addr) (d t am fa ga ra fp gp rp : Addr) (n : Nat) (fs : List Bool) (gs : List Rat) (rs : List Row) (H : Hp) : Prop where
  ls : Ls S H
  i : Ints H d
  P : PgS K S H am n fp gp rp fs gs rs
  F : LL K (wo S H) fa (fs.map PyData.bool)
  G : LL K (wo S H) ga (gs.map frD)
  R : LL K (wo S H) ra (rs.map rowD)
  T : GxR.TabG H (pKs K)
  t : SqT K H t [.int (n : Int), .ref fa, .ref ga, .ref ra]
theorem Hd8.mvS {K : PySem.W.Frag} {S : List Addr} {d t am fa ga ra fp gp rp : Addr} {n : Nat} {fs : List Bool} {gs : List Rat} {rs : List Row} {H H' : Hp} (h : Hd8 K S d t am fa ga ra fp gp rp n fs gs rs H) (e : SameS S H H') (i : Ints H' d) : Hd8 K S d t am fa ga ra fp gp rp n fs gs rs H' :=
  ⟨e.lsS h.ls, i, h.P.monoS e h.ls, h.F.monoS e, h.G.monoS e, h.R.monoS e, e.tab _ h.T, Same.tseq wo_same (UbG.SameT.tseq e.wT (wo_tseq h.ls h.t))⟩
theorem Hd8.mvT {K : PySem.W.Frag} {S : List Addr} {d t am fa ga ra fp gp rp : Addr} {n : Nat} {fs : List Bool} {gs : List Rat} {rs : List Row} {H H' : Hp} (h : Hd8 K S d t am fa ga ra fp gp rp n fs gs rs H) (e : UbG.SameT H H') : Hd8 K S d t am fa ga ra fp gp rp n fs gs rs H' :=
  h.mvS (sameTS e) (h.i.monoT e)
theorem Hd8.mv {K : PySem.W.Frag} {S : List Addr} {d t am fa ga ra fp gp rp : Addr} {n : Nat} {fs : List Bool} {gs : List Rat} {rs : List Row} {H H' : Hp} (h : Hd8 K S d t am fa ga ra fp gp rp n fs gs rs H) (e : Same H H') : Hd8 K S d t am fa ga ra fp gp rp n fs gs rs H' := h.mvT (UbG.sameT e)
theorem rdNeBq {K : PySem.W.Frag} {H : Hp} {Q : VK} {b : Bool} (q : Q (.bl false) H) : rNeA K (.bl b) (.bl b) H Q := .inl ⟨rfl, by
  have e : decide (V.bl b = V.bl b) = true := decide_eq_true rfl
  rw [e]
  exact q⟩
theorem fits_b {K : PySem.W.Frag} {H : Hp} {Q : VK} {E : XK} {a p : Addr} {n : Nat} {f g r : Addr} {fs : List Bool} {gs : List Rat} {rs : List Row} {ps : List Rat} {b : Bool} (hb : b = true ↔ fitsP n fs rs ps) (hX : PgX K H a n f g r fs gs rs) (M : PgOk n fs gs rs) (hp : LL K H p (ps.map frD)) (br : ∀ t ∈ rs, RwBd t) (bp : ∀ x ∈ ps, Bd 110 x) (hn : n ≤ 10) (hT : GxR.TabG H (pKs K))
    (q : ∀ H', UbG.SameT H H' → Q (.bl b) H') : sp_fits K [.ref a, .ref p] H Q E := by
  refine ⟨a, p, n, f, g, r, fs, gs, rs, ps, rfl, hX, M, hp, br, bp, hn, hT, fun h => ?_, fun h => ?_⟩
  · rw [← hb.mpr h]
    exact q
  · cases b with
    | true => exact absurd (hb.mp rfl) h
    | false => exact q
theorem law_fits_b {K : PySem.W.Frag} {H : Hp} {Q : VK} {E : XK} {t p f g r : Addr} {n : Nat} {fs : List Bool} {rs : List Row} {ps : List Rat} {b : Bool} (hb : b = true ↔ fitsP n fs rs ps) (ht : SqT K H t [.int (n : Int), .ref f, .ref g, .ref r]) (hf : LL K H f (fs.map PyData.bool)) (hr : LL K H r (rs.map rowD)) (hp : LL K H p (ps.map frD)) (lf : fs.length = n) (hn : n ≤ 8) (br : ∀ t ∈ rs, RwOk n t ∧ RwBd t) (lr : rs.length ≤ 100) (bp : ∀ x ∈ ps, Bd 110 x)
    (q : ∀ H', Same H H' → Q (.bl b) H') : sp__law_fits K [.ref t, .ref p] H Q E := by
  refine ⟨t, p, f, g, r, n, fs, rs, ps, rfl, ht, hf, hr, hp, lf, hn, br, lr, bp, fun h => ?_, fun h => ?_⟩
  · rw [← hb.mpr h]
    exact q
  · cases b with
    | true => exact absurd (hb.mp rfl) h
    | false => exact q
theorem catRows {K : PySem.W.Frag} {H : Hp} {Q : VK} {a b : Addr} {rs ts : List Row} (h1 : LL K H a (rs.map rowD)) (h2 : LL K H b (ts.map rowD)) (l : rs.length + ts.length ≤ 100) (q : ∀ p H', Same H H' → LL K H' p ((rs ++ ts).map rowD) → Q (.ref p) H') : rCat (.ref a) (.ref b) H Q := by
  obtain ⟨xs, hx, hxD⟩ := h1
  obtain ⟨ys, hy, hyD⟩ := h2
  have lx : xs.length = rs.length := (dpAll_len hxD).trans (List.length_map ..)
  have ly : ys.length = ts.length := (dpAll_len hyD).trans (List.length_map ..)
  refine ⟨a, b, xs, ys, rfl, rfl, hx, hy, small_line (by omega), fun p2 n2 => ?_⟩
  have e := sameNew n2 (o := .lst (xs ++ ys))
  exact q _ _ e ⟨_, upd_same, by rw [List.map_append]; exact dpAll_two_lists (Dp.monoAll e _ _ hxD) (Dp.monoAll e _ _ hyD)⟩
theorem ok_law {f : Addr} {fd : FuncData} (T : Tx K mg) (F : FunD K "law" "law" (defArgs s_law) (defBody s_law) (defScope s_law) [] [] f fd) (I_Program : UbC.CalI P w K mg base "Program" 2 1 ["free", "goal", "rows"] (sp_Program___init__ K)) (C__law_dot : Cal P w K mg base "_law_dot" 3 ["first", "second"] [] (sp__law_dot K)) (C__law_fits : Cal P w K mg base "_law_fits" 5 ["program", "point"] [] (sp__law_fits K)) (C__law_fraction : Cal P w K mg base "_law_fraction" 2 ["row"] [] (sp__law_fraction K)) (C__law_numbers : Cal P w K mg base "_law_numbers" 2 ["script", "count"] [] (sp__law_numbers K)) (C__law_program : Cal P w K mg base "_law_program" 4 ["row", "most"] [] (sp__law_program K)) (C__law_take : Cal P w K mg base "_law_take" 1 ["row", "bound"] [] (sp__law_take)) (C__law_tight : Cal P w K mg base "_law_tight" 4 ["row", "program"] [] (sp__law_tight K)) (C__law_vector : Cal P w K mg base "_law_vector" 3 ["row", "count"] [] (sp__law_vector K)) (C_fits : Cal P w K mg base "fits" 5 ["program", "point"] [] (sp_fits K)) (C_value_of : Cal P w K mg base "value_of" 4 ["program", "point"] [] (sp_value_of K)) (C_with_rows : Cal P w K mg base "with_rows" 4 ["program", "rows"] [] (sp_with_rows K)) : FnOk P w K mg base (L2.CX P w) 6 f fd ["script"] (sp_law K) := by
  refine F.ok sc_law (fun vs H Q E h => ?_) (fun cdv A outer st H vs Q E hr h => ?_)
  · obtain ⟨_, _, rfl, _⟩ := h
    rfl
  · obtain ⟨ad, cs, rfl, hS, hl, _, hT, q⟩ := h
    have hT1 : GxR.TabG H (pKs K) := hT _ (List.mem_singleton.mpr rfl)
    refine ⟨_, PSs.nox (pss_cons (ps_set (i := 1) sc_law.nd rfl (Or.inl rfl) (pe_callC C__law_numbers hr (by decide) (by rfl) (pa_cons (pv 0) (pa_cons pe_int pa_nil)))) (pss_cons (ps_set (i := 2) sc_law.nd rfl (Or.inl rfl) (pe_callC C__law_program hr (by decide) (by rfl) (pa_cons (pv 1) (pa_cons pe_int pa_nil)))) (pss_cons (ps_asg (pv 2) (pg_tup rfl (pgs_cons (pg_name (i := 3) sc_law.nd rfl (Or.inl rfl)) (pgs_cons (pg_name (i := 4) sc_law.nd rfl (Or.inl rfl)) (pgs_cons (pg_name (i := 5) sc_law.nd rfl (Or.inl rfl)) (pgs_cons (pg_name (i := 6) sc_law.nd rfl (Or.inl rfl)) pgs_nil)))))) (pss_cons (ps_set (i := 7) sc_law.nd rfl (Or.inl rfl) (pe_tupN (pa_cons (pe_callTy cl_list (by rfl) T.n_list bb_list (pa_cons (pv 4) pa_nil)) (pa_cons (pe_callTy cl_list (by rfl) T.n_list bb_list (pa_cons (pv 5) pa_nil)) (pa_cons (pe_lc (own := [("one", 15), ("word", 16), ("two", 17)]) (g := gTup K 3 (gCons (gName 15) (gCons (gName 16) (gCons (gName 17) gNil)))) (tt := tYes) rfl sc_law.nd (pi_list (pv 6)) (blkOk_by (N := N_law) (sc := defScope s_law) (by decide +kernel)) (fun _ _ _ _ _ => (pg_tup rfl (pgs_cons (pg_name (i := 15) sc_law.nd rfl (by first | exact Or.inl rfl | exact Or.inr rfl)) (pgs_cons (pg_name (i := 16) sc_law.nd rfl (by first | exact Or.inl rfl | exact Or.inr rfl)) (pgs_cons (pg_name (i := 17) sc_law.nd rfl (by first | exact Or.inl rfl | exact Or.inr rfl)) pgs_nil))))) (fun _ _ _ _ _ => pts_nil) (fun _ _ _ _ _ => (pe_tupN (pa_cons (pe_callTy (cl_listK (K := K) rfl) (by rfl) T.n_list bb_list (pa_cons (pv 15) pa_nil)) (pa_cons (pv 16) (pa_cons (pv 17) pa_nil)))))) pa_nil))))) (pss_cons (ps_set (i := 8) sc_law.nd rfl (Or.inl rfl) (UbC.pe_newC I_Program hr (by decide) (by rfl) passL (pa_cons (pv 3) pa_nil) (pk_cons (pe_ix ix_seq (pv 7) pe_int (fun _ _ => rfl)) (pk_cons (pe_ix ix_seq (pv 7) pe_int (fun _ _ => rfl)) (pk_cons (pe_ix ix_seq (pv 7) pe_int (fun _ _ => rfl)) pk_nil))))) (pss_cons (ps_if ((pw_or (pt_cmpR (op_neA hr.units) (pe_fld (pv 8) rfl) (pv 3) (nomark _)) (pw_or (pt_cmpR (op_neA hr.units) (pe_fld (pv 8) rfl) (pv 4) (nomark _)) (pw_or (pt_cmpR (op_neA hr.units) (pe_fld (pv 8) rfl) (pv 5) (nomark _)) (pw_or1 (pt_cmpR (op_neA hr.units) (pe_fld (pv 8) rfl) (pv 6) (nomark _))))))).pt (pss_one (ps_ret pe_bl)) pss_nil) (pss_cons (ps_expr (pe_bm PySem.F.plainAttrs_list PySem.F.slot_list_append PySem.F.type_list_append mt_append (pe_ix ix_seq (pv 7) pe_int (fun _ _ => rfl)) (pa_cons (pe_tupN (pa_cons pe_int (pa_cons pe_int pa_nil))) pa_nil))) (pss_cons (ps_expr (pe_bm PySem.F.plainAttrs_list PySem.F.slot_list_append PySem.F.type_list_append mt_append (pe_ix ix_seq (pv 7) pe_int (fun _ _ => rfl)) (pa_cons (pe_tupN (pa_cons (pe_lstN pa_nil) (pa_cons pe_str (pa_cons (pe_tupN (pa_cons pe_int (pa_cons pe_int pa_nil))) pa_nil)))) pa_nil))) (pss_cons (ps_set (i := 9) sc_law.nd rfl (Or.inl rfl) (pe_lstN (pa_cons (pe_callC C__law_tight hr (by decide) (by rfl) (pa_cons (pv 1) (pa_cons (pv 2) pa_nil))) (pa_cons (pe_callC C__law_vector hr (by decide) (by rfl) (pa_cons (pv 1) (pa_cons (pv 3) pa_nil))) (pa_cons (pe_callC C__law_vector hr (by decide) (by rfl) (pa_cons (pv 1) (pa_cons (pe_callC C__law_take hr (by decide) (by rfl) (pa_cons (pv 1) (pa_cons pe_int pa_nil))) pa_nil))) (pa_cons (pe_lstN pa_nil) pa_nil)))))) (pss_cons (ps_for PassesOwn.never rfl (pi_list (pv 9)) (pg_name (i := 10) sc_law.nd rfl (Or.inl rfl)) (pss_cons (ps_set (i := 11) sc_law.nd rfl (Or.inl rfl) (pe_callTy cl_list (by rfl) T.n_list bb_list (pa_cons (pv 10) pa_nil))) (pss_cons (ps_set (i := 12) sc_law.nd rfl (Or.inl rfl) (pe_callC C_fits hr (by decide) (by rfl) (pa_cons (pv 8) (pa_cons (pv 11) pa_nil)))) (pss_cons (ps_if ((pw_or (pt_cmpR (op_neA hr.units) (pv 12) (pe_callC C__law_fits hr (by decide) (by rfl) (pa_cons (pv 2) (pa_cons (pv 10) pa_nil))) (nomark _)) (pw_or1 (pt_cmpR (op_neA hr.units) (pv 11) (pv 10) (nomark _))))).pt (pss_one (ps_ret pe_bl)) pss_nil) (pss_one (ps_if ((pw_and (pt_cmpR (op_eqA hr.units) (pe_callB cl_len (by rfl) T.n_len bb_len (pa_cons (pv 10) pa_nil)) (pv 3) (nomark _)) (pw_and1 (pt_cmpR (op_neA hr.units) (pe_callC C_value_of hr (by decide) (by rfl) (pa_cons (pv 8) (pa_cons (pv 11) pa_nil))) (pe_callC C__law_dot hr (by decide) (by rfl) (pa_cons (pv 5) (pa_cons (pv 10) pa_nil))) (nomark _))))).pt (pss_one (ps_ret pe_bl)) pss_nil)))))) (pss_cons (ps_set (i := 13) sc_law.nd rfl (Or.inl rfl) (pe_lstN (pa_cons (pe_tupN (pa_cons (pe_callC C__law_vector hr (by decide) (by rfl) (pa_cons (pv 1) (pa_cons (pv 3) pa_nil))) (pa_cons pe_str (pa_cons (pe_callC C__law_fraction hr (by decide) (by rfl) (pa_cons (pv 1) pa_nil)) pa_nil)))) pa_nil))) (pss_cons (ps_set (i := 14) sc_law.nd rfl (Or.inl rfl) (pe_callC C_with_rows hr (by decide) (by rfl) (pa_cons (pv 8) (pa_cons (pe_callTy cl_list (by rfl) T.n_list bb_list (pa_cons (pv 13) pa_nil)) pa_nil)))) (pss_cons (ps_if ((pw_or (pt_cmpR (op_neA hr.units) (pe_fld (pv 8) rfl) (pv 6) (nomark _)) (pw_or (pt_cmpR (op_neA hr.units) (pe_fld (pv 14) rfl) (pe_op op_cat (pv 6) (pv 13)) (nomark _)) (pw_or (pt_cmpR (op_neA hr.units) (pe_fld (pv 14) rfl) (pv 5) (nomark _)) (pw_or1 (pt_cmpR (op_neA hr.units) (pe_fld (pv 14) rfl) (pv 4) (nomark _))))))).pt (pss_one (ps_ret pe_bl)) pss_nil) (pss_one (ps_ret (pe_cmpR (op_eqA hr.units) (pe_callC C_fits hr (by decide) (by rfl) (pa_cons (pv 14) (pa_cons (pe_ix ix_seq (pv 9) pe_int (fun _ _ => rfl)) pa_nil))) (pe_callC C__law_fits hr (by decide) (by rfl) (pa_cons (pe_tupN (pa_cons (pv 3) (pa_cons (pv 4) (pa_cons (pv 5) (pa_cons (pe_op op_cat (pv 6) (pv 13)) pa_nil))))) (pa_cons (pe_ix ix_seq (pv 9) pe_int (fun _ _ => rfl)) pa_nil))) (nomark _))))))))))))))))), ?_⟩
    walk_at "un"
    walk_at "go"
    refine ⟨ad, cs, 90, rfl, hS, hl, by decide, fun H1 d s1 nd hI => ?_⟩
    have hT1 := UbG.TabG.mono s1 hT1
    clear s1 hT hS hl nd
    walk_at "go"
    refine ⟨d, rfl, hI, fun H2 t fa ga ra n fs gs rs s2 i2 ht hF hG hR M => ?_⟩
    have hT1 := s2.tab _ hT1
    clear s2 hI
    walk_at "go"
    refine ⟨t, _, rfl, ht, rfl, _, _, rfl, _, _, rfl, _, _, rfl, _, _, rfl, rfl, ?_⟩
    walk_at "un"
    walk_at "go"
    have n5 := M.n5
    have r3 := M.r3
    obtain ⟨us, hu, huD⟩ := id hF
    have hu' := (wo_in hu).2
    refine rdListL (.inl (.inl hu')) fun f0 nf => ?_
    have e3 := sameNew nf (o := .lst us)
    have hf3 : upd H2 f0 (.lst us) f0 = some (.lst us) := upd_same
    have nfd : f0 ≠ d := (i2.ne nf).symm
    have hF := hF.monoS (sameS e3)
    have hG := hG.monoS (sameS e3)
    have hR := hR.monoS (sameS e3)
    have huD := Dp.monoAll (show Same (wo [d] H2) (wo [d] (upd H2 f0 (.lst us))) from fun b o h => by
      obtain ⟨n1, h1⟩ := wo_in h
      rw [wo_out n1]
      exact e3 _ _ h1) _ _ huD
    have hI := i2.mono e3
    have hT1 := UbG.TabG.mono e3 hT1
    have ht := Same.tseq e3 ht
    generalize upd H2 f0 (.lst us) = H3 at e3 hf3 hF hG hR huD hI hT1 ht ⊢
    obtain ⟨ws, hw, hwD⟩ := id hG
    walk_at "go"
    refine rdListL (.inl (.inl (wo_in hw).2)) fun g0 ng => ?_
    have e4 := sameNew ng (o := .lst ws)
    have hg4 : upd H3 g0 (.lst ws) g0 = some (.lst ws) := upd_same
    have ngd : g0 ≠ d := (hI.ne ng).symm
    have nfg : f0 ≠ g0 := fun z => by rw [z, ng] at hf3; cases hf3
    have w4 : wo [g0, d] (upd H3 g0 (.lst ws)) = wo [d] H3 := by rw [wo_upd (List.mem_cons_self ..), wo_cons ng]
    have hF4 : LL K (wo [g0, d] (upd H3 g0 (.lst ws))) fa (fs.map PyData.bool) := by rw [w4]; exact hF
    have hG4 : LL K (wo [g0, d] (upd H3 g0 (.lst ws))) ga (gs.map frD) := by rw [w4]; exact hG
    have hR4 : LL K (wo [g0, d] (upd H3 g0 (.lst ws))) ra (rs.map rowD) := by rw [w4]; exact hR
    have huD4 : DpAll K (wo [g0, d] (upd H3 g0 (.lst ws))) us (fs.map PyData.bool) := by rw [w4]; exact huD
    have hwD4 : DpAll K (wo [g0, d] (upd H3 g0 (.lst ws))) ws (gs.map frD) := by rw [w4]; exact hwD
    have hf4 := e4 _ _ hf3
    have hI4 := hI.mono e4
    have hT4 := UbG.TabG.mono e4 hT1
    have ht4 := Same.tseq e4 ht
    generalize upd H3 g0 (.lst ws) = H4 at e4 hg4 hF4 hG4 hR4 huD4 hwD4 hf4 hI4 hT4 ht4 ⊢
    clear w4 hF hG hR huD hwD hI hT1 ht e3 e4 hf3 hu hu' hw
    obtain ⟨xs, hx, hxD⟩ := id hR4
    have lx : xs.length = rs.length := (dpAll_len hxD).trans (List.length_map ..)
    have hx' := (wo_in hx).2
    refine lcOf ?_
    walk_at "it"
    walk_at "un"
    refine ⟨_, rfl, ra, rfl, ⟨_, .inl (.inl hx')⟩, fun D nD => ?_⟩
    have b0 : DpAll K (wo [D, g0, d] (upd H4 D (.lst []))) xs (rs.map rowD) := by
      rw [wo_upd (List.mem_cons_self ..), wo_cons nD]
      exact hxD
    have sbD : ∀ s ∈ [D], s ∈ [D, g0, d] := fun s hs => by
      rw [List.mem_singleton.mp hs]
      exact List.mem_cons_self ..
    have nrD : ra ≠ D := fun z => by rw [z, nD] at hx'; cases hx'
    have ls4 : Ls [g0, d] H4 := ls2 ⟨_, hg4⟩ hI4
    have nDs : D ∉ [g0, d] := ls4.new nD
    have lsD : ∀ {H' : Hp}, SameS [D] (upd H4 D (.lst [])) H' → (∃ ys, H' D = some (.lst ys)) → Ls [D, g0, d] H' := fun {H'} e C s hs => by
      rcases List.mem_cons.mp hs with z | z
      · rw [z]
        exact C
      · obtain ⟨ys, hy⟩ := ls4 s z
        have nsD : s ≠ D := fun w => by rw [w, nD] at hy; cases hy
        exact ⟨ys, e.but _ _ (fun w => nsD (List.mem_singleton.mp w)) ((upd_ne nsD).trans hy) fun _ z => by cases z⟩
    refine LC.list (xs := xs) (fun i H' => SameS [D] (upd H4 D (.lst [])) H' ∧ Cel K [D, g0, d] H' D ((rs.take i).map rowD)) ⟨SameS.refl _, Cel.new⟩ (fun i H' _ ⟨e, _⟩ => .inl (.inl (e.but _ _ (fun z => nrD (List.mem_singleton.mp z)) ((upd_ne nrD).trans hx') (fun _ z => by cases z)))) ?_ ?_
    · rintro i x H6 hx6 ⟨e6, C6⟩
      obtain ⟨rw', er, hr6⟩ := rowsAt (Kp.monoAll (SameS.sub e6 sbD) b0) hx6
      obtain ⟨t1, v1, v3, rfl, hS, h1, h3⟩ := rowGet hr6
      dsimp only [wipe]
      walk_at "un"
      obtain ⟨n1, zs, rfl, hS1, hD1⟩ := h1.get
      have ls6 := lsD e6 C6.ls
      refine ⟨t1, _, rfl, Same.tseq wo_same hS, rfl, _, _, rfl, _, _, rfl, _, _, rfl, rfl, rfl, ?_⟩
      dsimp only [tYes]
      refine ifBT rfl ?_
      walk_at "go"
      refine rdListL (wo_seqH hS1) fun q1 nq1 => ?_
      have e7 := sameNew nq1 (o := .lst zs)
      have k7 := Kp.newL ls6 nq1 hD1
      have h37 : Fr K (wo [D, g0, d] (upd H6 q1 (.lst zs))) v3 rw'.b := Kp.mono (sameS e7) h3
      have C7 := C6.mono e7
      have e67 := e6.trans (sameS e7)
      generalize upd H6 q1 (.lst zs) = H7 at e7 k7 h37 C7 e67 ⊢
      have ls7 := lsD e67 C7.ls
      walk_at "go"
      refine ⟨small_line (Nat.le_of_ble_eq_true rfl), fun tp ntp => ?_⟩
      have e8 := sameNew ntp (o := .tup [.ref q1, .str rw'.rel, v3])
      have k8 : Dp K (wo [D, g0, d] (upd H7 tp (.tup [.ref q1, .str rw'.rel, v3]))) (.ref tp) (rowD rw') := Kp.newT ls7 ntp (.cons k7 (.cons (.str _) (.cons h37 .nil)))
      have C8 := C7.mono e8
      have e68 := e67.trans (sameS e8)
      generalize upd H7 tp (.tup [.ref q1, .str rw'.rel, v3]) = H8 at k8 C8 e68 ⊢
      have hi := (List.getElem?_eq_some_iff.mp er).1
      obtain ⟨acc, e1, e2, C9⟩ := C8.turn (d := rowD rw') (List.mem_cons_self ..) (by rw [List.length_map, List.length_take]; omega) k8
      refine ⟨acc, e1, e2, SameS.set1 e68 e1, ?_⟩
      rw [List.take_succ, er, List.map_append]
      exact C9
    rintro H6 ⟨e6, C6⟩
    rw [List.take_of_length_le (by omega)] at C6
    have w46 : UbG.SameT (wo [g0, d] H4) (wo [D, g0, d] H6) := by
      have z := (SameS.sub e6 sbD).wT
      rw [wo_upd (List.mem_cons_self ..), wo_cons nD] at z
      exact z
    have s46 : UbG.SameT H4 H6 := SameS.toT (S := [D]) e6 (UbG.sameT (sameNew nD)) (fun x hx => by rw [List.mem_singleton.mp hx]; exact Nw.of nD)
    have hF6 := hF4.monoT w46
    have hG6 := hG4.monoT w46
    have hR6 := hR4.monoT w46
    have cf6 : Cel K [D, g0, d] H6 f0 (fs.map PyData.bool) := ⟨us, s46.but _ _ hf4 (fun _ z => by cases z), UbG.Dp.monoTAll w46 _ _ huD4⟩
    have cg6 : Cel K [D, g0, d] H6 g0 (gs.map frD) := ⟨ws, s46.but _ _ hg4 (fun _ z => by cases z), UbG.Dp.monoTAll w46 _ _ hwD4⟩
    have hI6 := hI4.monoT s46
    have hT6 := s46.tab _ hT4
    have ht6 := UbG.SameT.tseq s46 ht4
    have ls6 := lsD e6 C6.ls
    clear lsD sbD b0 hf4 hg4 huD4 hwD4 hF4 hG4 hR4 hx hxD hx' w46 s46 e6
    walk_at "go"
    refine ⟨small_line (Nat.le_of_ble_eq_true rfl), fun l nl => ?_⟩
    have e7 := sameNew nl (o := .tup [.ref f0, .ref g0, .ref D])
    have hl7 : upd H6 l (.tup [.ref f0, .ref g0, .ref D]) l = some (.tup [.ref f0, .ref g0, .ref D]) := upd_same
    have cf7 := cf6.mono e7
    have cg7 := cg6.mono e7
    have C7 := C6.mono e7
    have ls7 : Ls [D, g0, d] (upd H6 l (.tup [.ref f0, .ref g0, .ref D])) := fun s hs => by
      obtain ⟨ys, hy⟩ := ls6 s hs
      exact ⟨ys, e7 _ _ hy⟩
    generalize upd H6 l (.tup [.ref f0, .ref g0, .ref D]) = H7 at e7 hl7 cf7 cg7 C7 ls7 ⊢
    dsimp only [tMakeN, tCons, tOp, tVar, tC, tNil, List.getElem?_cons_zero, List.getElem?_cons_succ]
    walk_at "go"
    refine rdIxT (.inl (.inl hl7)) (i := 0) (v := .ref f0) (by rfl) ?_
    walk_at "go"
    refine rdIxT (.inl (.inl hl7)) (i := 1) (v := .ref g0) (by rfl) ?_
    walk_at "go"
    refine rdIxT (.inl (.inl hl7)) (i := 2) (v := .ref D) (by rfl) ?_
    refine ⟨rfl, rfl, fun am dx nx ndx hne => ⟨am, dx, n, f0, g0, D, fs, gs, rs, H7, [D, g0, d], ls7, rfl, SameT.late (SameT.late (UbG.SameT.refl H7) ndx) nx, nx, upd_same, cf7, cg7, C7, M.ok, fun H8 f' g' r' s8 hP nf' ng' nr' => ?_⟩⟩
    have s68 : UbG.SameT H6 H8 := (UbG.sameT e7).trans s8
    have w68 : UbG.SameT (wo [D, g0, d] H6) (wo [D, g0, d] H8) := (sameTS s68).wT
    have hF8 := hF6.monoT w68
    have hG8 := hG6.monoT w68
    have hR8 := hR6.monoT w68
    have hI8 := hI6.monoT s68
    have hT8 := s68.tab _ hT6
    have ht8 := UbG.SameT.tseq s68 ht6
    have hl8 : H8 l = some (.tup [.ref f0, .ref g0, .ref D]) := s8.but _ _ hl7 fun _ z => by cases z
    have cg8 := cg7.monoT s8
    have cD8 := C7.monoT s8
    clear cf7 cg7 C7 ls7 hl7 e7 cf6 cg6 C6 hI6 hT6 ht6 ls6 hF6 hG6 hR6 w68 s68 s8 nx ndx hne
    refine ⟨rfl, ?_⟩
    obtain ⟨dx', ha, hf', hg', hr'⟩ := id hP
    walk_at "go"
    dsimp only [tFld, tVar, List.getElem?_cons_zero, List.getElem?_cons_succ]
    walk_at "go"
    refine ⟨am, _, dx', _, .int (n : Int), rfl, ha, T.cl_Program, T.na_Program_variables, by rfl, ?_⟩
    walk_at "go"
    refine ifNe rfl ?_
    walk_at "go"
    refine ⟨am, _, dx', _, .ref f', rfl, ha, T.cl_Program, T.na_Program_free, by rfl, ?_⟩
    walk_at "go"
    refine rdNeSame hf'.out.dp hF8.out.dp (shaped_bs _) (canLay_bs _) ?_
    walk_at "go"
    refine ifBF rfl ?_
    walk_at "go"
    refine ⟨am, _, dx', _, .ref g', rfl, ha, T.cl_Program, T.na_Program_goal, by rfl, ?_⟩
    walk_at "go"
    refine rdNeSame hg'.out.dp hG8.out.dp (shaped_frs _) (canLay_frs _) ?_
    walk_at "go"
    refine ifBF rfl ?_
    walk_at "go"
    refine ⟨am, _, dx', _, .ref r', rfl, ha, T.cl_Program, T.na_Program_rows, by rfl, ?_⟩
    walk_at "go"
    refine rdNeSame hr'.out.dp hR8.out.dp (shaped_rows rs M.ok.ok) (canLay_rows rs M.ok.ok) ?_
    walk_at "go"
    refine ifBF rfl ?_
    walk_at "go"
    refine rdIxT (.inl (.inl hl8)) (i := 1) (v := .ref g0) (by rfl) ?_
    obtain ⟨ys1, hy1, hy1D⟩ := id cg8
    walk_at "go"
    refine ⟨.inl ⟨rfl, _, .inl (.inl hy1)⟩, ?_⟩
    walk_at "go"
    rename_i H9 o9 s9 h9
    have lsA : ∀ {H' : Hp}, (∃ ys, H' D = some (.lst ys)) → (∃ ys, H' g0 = some (.lst ys)) → Ints H' d → Ls [D, g0, d] H' := fun {H'} a b c s hs => by
      rcases List.mem_cons.mp hs with z | z
      · rw [z]
        exact a
      rcases List.mem_cons.mp z with z | z
      · rw [z]
        exact b
      · exact c.ls _ z
    have n1 : D ≠ g0 := fun z => nDs (by rw [z]; exact List.mem_cons_self ..)
    have n2 : d ≠ g0 := ngd.symm
    have n3 : d ≠ D := fun z => nDs (by rw [z]; exact List.mem_cons_of_mem _ (List.mem_cons_self ..))
    obtain ⟨zs3, hz3, hz3D⟩ := id cD8
    have ly1 : ys1.length ≤ 5000 := by
      have z := dpAll_len hy1D
      rw [List.length_map] at z
      have := M.ok.g
      omega
    have lz3 : zs3.length ≤ 5000 := by
      have z := dpAll_len hz3D
      rw [List.length_map] at z
      omega
    refine rdApp (s9 _ _ hy1) ly1 ?_
    have eA : SameS [D, g0, d] H8 (upd H9 g0 (.lst (ys1 ++ [o9]))) := (sameS s9).trans (sameS_upd (List.mem_cons_of_mem _ (List.mem_cons_self ..)) (notTbl (s9 _ _ hy1)))
    have hIA : Ints (upd H9 g0 (.lst (ys1 ++ [o9]))) d := (hI8.mono s9).stay n2
    have hlA : upd H9 g0 (.lst (ys1 ++ [o9])) l = some (.tup [.ref f0, .ref g0, .ref D]) := (upd_ne (fun z => by rw [z, hy1] at hl8; cases hl8)).trans (s9 _ _ hl8)
    have hzA : upd H9 g0 (.lst (ys1 ++ [o9])) D = some (.lst zs3) := (upd_ne n1).trans (s9 _ _ hz3)
    have hgA : ∃ ys, upd H9 g0 (.lst (ys1 ++ [o9])) g0 = some (.lst ys) := ⟨_, upd_same⟩
    generalize upd H9 g0 (.lst (ys1 ++ [o9])) = HA at eA hIA hlA hzA hgA ⊢
    walk_at "go"
    refine rdIxT (.inl (.inl hlA)) (i := 2) (v := .ref D) (by rfl) ?_
    walk_at "go"
    refine ⟨.inl ⟨rfl, _, .inl (.inl hzA)⟩, ?_⟩
    walk_at "go"
    refine rdLstH (Nat.le_of_ble_eq_true rfl) fun HB e sB ne he => ?_
    walk_at "go"
    rename_i HC oC sC hC
    refine ⟨small_line (Nat.le_of_ble_eq_true rfl), fun tp ntp => ?_⟩
    have sAC := (sB.trans sC).trans (sameNew ntp (o := .tup [.ref e, .str (Str.ofString "at most"), oC]))
    have hID := hIA.mono sAC
    have hzD := sAC _ _ hzA
    have hgD : ∃ ys, upd HC tp (.tup [.ref e, .str (Str.ofString "at most"), oC]) g0 = some (.lst ys) := by
      obtain ⟨ys, hy⟩ := hgA
      exact ⟨ys, sAC _ _ hy⟩
    have eD := eA.trans (sameS sAC)
    generalize upd HC tp (.tup [.ref e, .str (Str.ofString "at most"), oC]) = HD at sAC hID hzD hgD eD ⊢
    walk_at "go"
    refine rdApp hzD lz3 ?_
    have eE := eD.trans (sameS_upd (a := D) (xs := zs3 ++ [.ref tp]) (List.mem_cons_self ..) (notTbl hzD))
    have hIE : Ints (upd HD D (.lst (zs3 ++ [.ref tp]))) d := hID.stay n3
    have hgE : ∃ ys, upd HD D (.lst (zs3 ++ [.ref tp])) g0 = some (.lst ys) := by
      obtain ⟨ys, hy⟩ := hgD
      exact ⟨ys, (upd_ne n1.symm).trans hy⟩
    have lsE := lsA ⟨_, upd_same⟩ hgE hIE
    generalize upd HD D (.lst (zs3 ++ [.ref tp])) = HE at eE hIE lsE ⊢
    have ls8 : Ls [D, g0, d] H8 := lsA ⟨_, hz3⟩ ⟨_, hy1⟩ hI8
    have hh : Hd8 K [D, g0, d] d t am fa ga ra f' g' r' n fs gs rs HE := Hd8.mvS ⟨ls8, hI8, hP, hF8, hG8, hR8, hT8, ht8⟩ eE hIE
    have sbd : ∀ s ∈ [d], s ∈ [D, g0, d] := fun s hs => by
      rw [List.mem_singleton.mp hs]
      exact List.mem_cons_of_mem _ (List.mem_cons_of_mem _ (List.mem_cons_self ..))
    clear eE eD eA hgE hgD hzD hID sAC hC he ne sC sB ntp hzA hlA hIA hgA hIE lsE ls8 hP hF8 hG8 hR8 hT8 ht8 hI8 hz3D lz3 ly1 hy1D h9 s9 hl8 cg8 cD8 hz3 hy1 lsA ls4 hf' hg' hr' ha nf' ng' nr'
    refine ⟨_, rfl, _, rfl, ⟨d, t, fa, ga, ra, n, fs, gs, rs, rfl, hh.i, hh.t, hh.R.sub sbd, M, fun H1 p1 ps1 s1 hi1 hp1 l1 b1 => ?_⟩⟩
    have hh := hh.mvS (s1.sub sbd) hi1
    clear s1
    walk_at "go"
    refine ⟨d, n, rfl, hi1, by omega, fun H2 p2 ps2 s2 hi2 hp2 nw2 l2 b2 => ?_⟩
    have hh := hh.mvS (s2.sub sbd) hi2
    have hp1 := hp1.monoS s2
    clear s2 nw2 hi1
    walk_at "go"
    refine ⟨d, 7, rfl, hi2, by decide, fun H3 m0 s3 hi3 m00 m07 => ?_⟩
    obtain ⟨m, hm⟩ : ∃ m : Nat, m0 = (m : Int) := ⟨m0.toNat, by omega⟩
    subst hm
    refine ⟨d, m, rfl, hi3, by omega, fun H4 p3 ps3 s4 hi4 hp3 nw4 l3 b3 => ?_⟩
    have s24 := s3.trans s4
    have hh := hh.mvS (s24.sub sbd) hi4
    have hp1 := hp1.monoS s24
    have hp2 := hp2.monoS s24
    clear s24 s3 s4 nw4 hi2 hi3
    walk_at "go"
    refine rdLstH (Nat.le_of_ble_eq_true rfl) fun H5 p4 s5 np4 hp4 => ?_
    have hp40 : LL K (wo [d] H5) p4 (([] : List Rat).map frD) := ⟨[], by rw [wo_out (fun z => hi4.ne np4 (List.mem_singleton.mp z).symm)]; exact hp4, .nil⟩
    walk_at "go"
    refine rdLstH (Nat.le_of_ble_eq_true rfl) fun H6 pl s6 npl hpl => ?_
    have npld : pl ∉ [d] := Ls.new ((hi4.mono s5).ls) npl
    have s46 := s5.trans s6
    have hh := hh.mv s46
    have hp1 := hp1.monoS (sameS s46)
    have hp2 := hp2.monoS (sameS s46)
    have hp3 := hp3.monoS (sameS s46)
    have hp4 := hp40.monoS (sameS s6)
    have plan : ∀ tn, tn < 4 → ∃ (qa : Addr) (ys : List Rat), [V.ref p1, V.ref p2, V.ref p3, V.ref p4][tn]? = some (.ref qa) ∧ LL K (wo [d] H6) qa (ys.map frD) ∧ ys.length ≤ 1000 ∧ (∀ y ∈ ys, Bd 110 y) := by
      intro tn htn
      match tn, htn with
      | 0, _ => exact ⟨p1, ps1, rfl, hp1, by omega, b1⟩
      | 1, _ => exact ⟨p2, ps2, rfl, hp2, by omega, fun y hy => (b2 y hy).mono (by decide)⟩
      | 2, _ => exact ⟨p3, ps3, rfl, hp3, by omega, fun y hy => (b3 y hy).mono (by decide)⟩
      | 3, _ => exact ⟨p4, [], rfl, hp4, by decide, fun y hy => absurd hy List.not_mem_nil⟩
    walk_at "un"
    refine forOf ?_
    walk_at "it"
    walk_at "un"
    refine ⟨_, rfl, pl, rfl, ⟨_, .inl (.inl hpl)⟩, ?_⟩
    have rb : ∀ t ∈ rs, RwBd t := fun t ht => ⟨fun x hx => ((M.br t ht).1 x hx).mono (by decide), (M.br t ht).2.mono (by decide)⟩
    have rbo : ∀ t ∈ rs, RwOk n t ∧ RwBd t := fun t ht => ⟨M.ok.ok t ht, rb t ht⟩
    have gb : ∀ x ∈ gs, Bd 110 x := fun x hx => (M.bg x hx).mono (by decide)
    have lg := M.ok.g
    refine FL.list (xs := [V.ref p1, V.ref p2, V.ref p3, V.ref p4]) (fun i σ' H' => ∃ o10 o11 o12, σ' = [some (.ref ad), some (.ref d), some (.ref t), some (.int (n : Int)), some (.ref fa), some (.ref ga), some (.ref ra), some (.ref l), some (.ref am), some (.ref pl), o10, o11, o12, none, none, none, none, none] ∧ UbG.SameT H6 H') ⟨_, _, _, rfl, .refl _⟩ (fun i σ' H' _ ⟨_, _, _, _, e⟩ => UbG.SameT.seq e (.inl (.inl hpl))) ?_ ?_
    · rintro tn x σ' H7 hx ⟨o10, o11, o12, rfl, s7⟩
      have htn := (List.getElem?_eq_some_iff.mp hx).1
      obtain ⟨qa, ys, eqa, hY, ly, by'⟩ := plan tn htn
      rw [eqa] at hx
      cases hx
      have hh7 := hh.mvT s7
      have hY7 := hY.monoS (sameTS s7)
      obtain ⟨us7, hu7, huD7⟩ := id hY7
      walk_at "un"
      walk_at "go"
      refine rdListL (.inl (.inl (wo_in hu7).2)) fun gv ng => ?_
      have s8 := sameNew ng (o := .lst us7)
      have hgv : LL K (upd H7 gv (.lst us7)) gv (ys.map frD) := ⟨us7, upd_same, Dp.monoAll s8 _ _ (Dp.monoAll wo_same _ _ huD7)⟩
      have hh8 := hh7.mv s8
      have hY8 := hY7.monoS (sameS s8)
      have s68 := s7.trans (UbG.sameT s8)
      generalize upd H7 gv (.lst us7) = H8 at hgv hh8 hY8 s68 ⊢
      clear s7 s8 ng hY7 hh7 hu7 huD7
      walk_at "go"
      obtain ⟨b, hb⟩ : ∃ b : Bool, (b = true ↔ fitsP n fs rs ys) := ⟨@decide _ (Classical.propDecidable _), @decide_eq_true_iff _ (Classical.propDecidable _)⟩
      refine fits_b hb hh8.P.out M.ok hgv rb by' (by omega) hh8.T fun H9 s9 => ?_
      have hh9 := hh8.mvT s9
      have hY9 := hY8.monoS (sameTS s9)
      have hg9 := hgv.monoT s9
      walk_at "go"
      refine law_fits_b hb hh9.t hh9.F.out hh9.R.out hY9.out M.ok.f (by omega) rbo (by omega) by' fun H10 s10 => ?_
      have hh10 := hh9.mv s10
      have hY10 := hY9.monoS (sameS s10)
      have hg10 := hg9.mono s10
      have s610 := (s68.trans s9).trans (UbG.sameT s10)
      clear s9 s10 hg9 hY9 hh9 hgv hY8 hh8 s68
      refine rdNeBq ?_
      walk_at "go"
      refine ifBF rfl ?_
      walk_at "go"
      refine rdNeSame hg10.dp hY10.out.dp (shaped_frs _) (canLay_frs _) ?_
      walk_at "go"
      refine ifBF rfl ?_
      walk_at "go"
      obtain ⟨us10, hu10, huD10⟩ := id hY10.out
      have lu10 := frs_len huD10
      refine rdLenL (.inl (.inl hu10)) ?_
      walk_at "go"
      refine ifD (fun _ => ?_) (fun _ => ?_)
      · walk_at "go"
        refine ⟨am, gv, n, f', g', r', fs, gs, rs, ys, rfl, hh10.P.out, hg10, gb, by', by omega, fun H11 v s11 hv => ?_⟩
        walk_at "go"
        refine ⟨.ref ga, .ref qa, gs, ys, 110, rfl, (hh10.G.out.mono s11).dp, (hY10.out.mono s11).dp, gb, by', by omega, by omega, fun H12 x s12 hx => ?_⟩
        refine rdNeFr (hv.mono s12) hx ?_
        rw [decide_eq_true rfl]
        walk_at "go"
        refine ifBF rfl ?_
        exact ⟨_, _, _, rfl, s610.trans (UbG.sameT (s11.trans s12))⟩
      · refine ifBF rfl ?_
        exact ⟨_, _, _, rfl, s610⟩
    · rintro σ' H7 ⟨o10, o11, o12, rfl, s7⟩
      have hh7 := hh.mvT s7
      have hp1 := hp1.monoS (sameTS s7)
      have hpl7 := s7.but _ _ hpl fun _ z => by cases z
      clear s7 hh plan hp2 hp3 hp4 hpl
      walk_at "un"
      walk_at "go"
      refine ⟨d, n, rfl, hh7.i, by omega, fun H8 p5 ps5 s8 hi8 hp5 nw5 l5 b5 => ?_⟩
      have hh8 := hh7.mvS (s8.sub sbd) hi8
      have hp1 := hp1.monoS s8
      have hpl8 := s8.get hpl7 npld
      clear hh7 s8 hpl7 nw5
      walk_at "go"
      refine ⟨d, rfl, hi8, fun H9 v9 r9 s9 hi9 hv9 sm9 => ?_⟩
      have hh9 := hh8.mvS (s9.sub sbd) hi9
      have hp1 := hp1.monoS s9
      have hp5 := hp5.monoS s9
      have hpl9 := s9.get hpl8 npld
      clear hh8 s9 hpl8 hi8
      walk_at "go"
      refine ⟨small_line (Nat.le_of_ble_eq_true rfl), fun tp ntp => ?_⟩
      have sa := sameNew ntp (o := .tup [.ref p5, .str (Str.ofString "at least"), v9])
      have ktp : Dp K (wo [d] (upd H9 tp (.tup [.ref p5, .str (Str.ofString "at least"), v9]))) (.ref tp) (rowD ⟨ps5, "at least", r9⟩) := Kp.newT hi9.ls ntp (.cons hp5.dp (.cons (.str _) (.cons (Kp.fr hi9.ls hv9) .nil)))
      have hhA := hh9.mv sa
      have hp1 := hp1.monoS (sameS sa)
      have hplA := sa _ _ hpl9
      generalize upd H9 tp (.tup [.ref p5, .str (Str.ofString "at least"), v9]) = HA at sa ktp hhA hp1 hplA ⊢
      clear sa hh9 hpl9 ntp hp5 hv9
      walk_at "go"
      refine rdLstH (Nat.le_of_ble_eq_true rfl) fun HB mo sb nmo hmo => ?_
      have hhB := hhA.mv sb
      have hp1 := hp1.monoS (sameS sb)
      have hplB := sb _ _ hplA
      have kmo : LL K HB mo ([(⟨ps5, "at least", r9⟩ : Row)].map rowD) := ⟨_, hmo, .cons (Dp.mono sb _ _ (Dp.mono wo_same _ _ ktp)) .nil⟩
      clear sb hhA hplA nmo ktp
      obtain ⟨vs9, hmo, hmoD⟩ := id kmo
      walk_at "go"
      refine rdListL (.inl (.inl hmo)) fun q1 nq1 => ?_
      have sc := sameNew nq1 (o := .lst vs9)
      have kq1 : LL K (upd HB q1 (.lst vs9)) q1 ([(⟨ps5, "at least", r9⟩ : Row)].map rowD) := ⟨_, upd_same, Dp.monoAll sc _ _ hmoD⟩
      have hhC := hhB.mv sc
      have hp1 := hp1.monoS (sameS sc)
      have hplC := sc _ _ hplB
      have kmo := kmo.mono sc
      generalize upd HB q1 (.lst vs9) = HC at sc kq1 hhC hp1 hplC kmo ⊢
      clear sc hhB hplB nq1 hmo hmoD
      have M2 : PgOk n fs gs (rs ++ [(⟨ps5, "at least", r9⟩ : Row)]) := ⟨M.ok.hn, M.ok.f, M.ok.g, by rw [List.length_append]; show rs.length + 1 ≤ 100; omega, fun r hr => by
        rcases List.mem_append.mp hr with z | z
        · exact M.ok.ok r z
        · rw [List.mem_singleton.mp z]
          exact ⟨l5, .inl rfl⟩⟩
      have rb2 : ∀ t ∈ rs ++ [(⟨ps5, "at least", r9⟩ : Row)], RwBd t := fun t ht => by
        rcases List.mem_append.mp ht with z | z
        · exact rb t z
        · rw [List.mem_singleton.mp z]
          exact ⟨fun x hx => (b5 x hx).mono (by decide), (sm9.bd (n := 8) (by decide) (by decide)).mono (by decide)⟩
      have rbo2 : ∀ t ∈ rs ++ [(⟨ps5, "at least", r9⟩ : Row)], RwOk n t ∧ RwBd t := fun t ht => ⟨M2.ok t ht, rb2 t ht⟩
      generalize hrow : (⟨ps5, "at least", r9⟩ : Row) = row5 at M2 rb2 rbo2 kq1 kmo
      walk_at "go"
      refine ⟨am, q1, n, f', g', r', fs, gs, rs, [row5], rfl, hhC.P.out, kq1, M2, fun HD w f2 g2 r2 sd nw hX2 _ _ _ => ?_⟩
      have hhD := hhC.mvT sd
      have hp1 := hp1.monoS (sameTS sd)
      have hplD := sd.but _ _ hplC fun _ z => by cases z
      have kmo := kmo.monoT sd
      clear sd nw kq1 hhC hplC
      obtain ⟨dxm, ham, _, _, hrm⟩ := id hhD.P.out
      obtain ⟨dxw, haw, hfw, hgw, hrw⟩ := id hX2
      walk_at "go"
      dsimp only [tFld, tVar, List.getElem?_cons_zero, List.getElem?_cons_succ]
      walk_at "go"
      refine ⟨am, _, dxm, _, .ref r', rfl, ham, T.cl_Program, T.na_Program_rows, by rfl, ?_⟩
      walk_at "go"
      refine rdNeSame hrm.dp hhD.R.out.dp (shaped_rows rs M.ok.ok) (canLay_rows rs M.ok.ok) ?_
      walk_at "go"
      refine ifBF rfl ?_
      walk_at "go"
      refine ⟨w, _, dxw, _, .ref r2, rfl, haw, T.cl_Program, T.na_Program_rows, by rfl, ?_⟩
      walk_at "go"
      refine catRows hhD.R.out kmo (by simp only [List.length_cons, List.length_nil]; omega) fun c2 HE2 se hc2 => ?_
      have hhE := hhD.mv se
      have hp1 := hp1.monoS (sameS se)
      have hplE := se _ _ hplD
      have kmo := kmo.mono se
      have haw := se _ _ haw
      have hfw := hfw.mono se
      have hgw := hgw.mono se
      have hrw := hrw.mono se
      have hX2 := hX2.monoT (UbG.sameT se)
      clear se hhD hplD ham hrm
      walk_at "go"
      refine rdNeSame hrw.dp hc2.dp (shaped_rows _ M2.ok) (canLay_rows _ M2.ok) ?_
      walk_at "go"
      refine ifBF rfl ?_
      walk_at "go"
      refine ⟨w, _, dxw, _, .ref g2, rfl, haw, T.cl_Program, T.na_Program_goal, by rfl, ?_⟩
      walk_at "go"
      refine rdNeSame hgw.dp hhE.G.out.dp (shaped_frs _) (canLay_frs _) ?_
      walk_at "go"
      refine ifBF rfl ?_
      walk_at "go"
      refine ⟨w, _, dxw, _, .ref f2, rfl, haw, T.cl_Program, T.na_Program_free, by rfl, ?_⟩
      walk_at "go"
      refine rdNeSame hfw.dp hhE.F.out.dp (shaped_bs _) (canLay_bs _) ?_
      walk_at "go"
      refine ifBF rfl ?_
      walk_at "go"
      obtain ⟨b, hb⟩ : ∃ b : Bool, (b = true ↔ fitsP n fs (rs ++ [row5]) ps1) := ⟨@decide _ (Classical.propDecidable _), @decide_eq_true_iff _ (Classical.propDecidable _)⟩
      refine fits_b hb hX2 M2 hp1.out rb2 b1 (by omega) hhE.T fun HF sf => ?_
      have hhF := hhE.mvT sf
      have hp1 := hp1.monoS (sameTS sf)
      have hplF := sf.but _ _ hplE fun _ z => by cases z
      have kmo := kmo.monoT sf
      clear sf hhE hplE hX2 hrw hgw hfw haw hc2
      walk_at "go"
      refine catRows hhF.R.out kmo (by simp only [List.length_cons, List.length_nil]; omega) fun c3 HG sg hc3 => ?_
      have hhG := hhF.mv sg
      have hp1 := hp1.monoS (sameS sg)
      have hplG := sg _ _ hplF
      walk_at "go"
      refine ⟨small_line (Nat.le_of_ble_eq_true rfl), fun tq ntq => ?_⟩
      have sh := sameNew ntq (o := .tup [.int (n : Int), .ref fa, .ref ga, .ref c3])
      have hhH := hhG.mv sh
      have hp1 := hp1.monoS (sameS sh)
      have hplH := sh _ _ hplG
      have hc3 := hc3.mono sh
      have htq : SqT K (upd HG tq (.tup [.int (n : Int), .ref fa, .ref ga, .ref c3])) tq [.int (n : Int), .ref fa, .ref ga, .ref c3] := .inl (.inl upd_same)
      generalize upd HG tq (.tup [.int (n : Int), .ref fa, .ref ga, .ref c3]) = HH at sh hhH hp1 hplH hc3 htq ⊢
      walk_at "go"
      refine law_fits_b hb htq hhH.F.out hc3 hp1.out M.ok.f (by omega) rbo2 (by rw [List.length_append]; show rs.length + 1 ≤ 100; omega) b1 fun HI si => ?_
      refine rdEqB ?_
      rw [decide_eq_true rfl]
      exact q _
end
/-! ### the head: what the top holds, by names -/
def d_make : He.DefD := ⟨("make", none), "make", "make", defArgs s_make, defBody s_make, defScope s_make, [.int 1], []⟩
def d_add : He.DefD := ⟨("add", none), "add", "add", defArgs s_add, defBody s_add, defScope s_add, [], []⟩
def d_multiply : He.DefD := ⟨("multiply", none), "multiply", "multiply", defArgs s_multiply, defBody s_multiply, defScope s_multiply, [], []⟩
def d_sign : He.DefD := ⟨("sign", none), "sign", "sign", defArgs s_sign, defBody s_sign, defScope s_sign, [], []⟩
def d_compare : He.DefD := ⟨("compare", none), "compare", "compare", defArgs s_compare, defBody s_compare, defScope s_compare, [], []⟩
def d_dot : He.DefD := ⟨("dot", none), "dot", "dot", defArgs s_dot, defBody s_dot, defScope s_dot, [], []⟩
def d__check_size : He.DefD := ⟨("_check_size", none), "_check_size", "_check_size", defArgs s__check_size, defBody s__check_size, defScope s__check_size, [], []⟩
def d__check_form : He.DefD := ⟨("_check_form", none), "_check_form", "_check_form", defArgs s__check_form, defBody s__check_form, defScope s__check_form, [], []⟩
def d_Program___init__ : He.DefD := ⟨("Program", some "__init__"), "__init__", "Program.__init__", defArgs s_Program___init__, defBody s_Program___init__, defScope s_Program___init__, [], []⟩
def d_agrees : He.DefD := ⟨("agrees", none), "agrees", "agrees", defArgs s_agrees, defBody s_agrees, defScope s_agrees, [], []⟩
def d_keeps_signs : He.DefD := ⟨("keeps_signs", none), "keeps_signs", "keeps_signs", defArgs s_keeps_signs, defBody s_keeps_signs, defScope s_keeps_signs, [], []⟩
def d_fits_rows : He.DefD := ⟨("fits_rows", none), "fits_rows", "fits_rows", defArgs s_fits_rows, defBody s_fits_rows, defScope s_fits_rows, [], []⟩
def d_fits : He.DefD := ⟨("fits", none), "fits", "fits", defArgs s_fits, defBody s_fits, defScope s_fits, [], []⟩
def d_value_of : He.DefD := ⟨("value_of", none), "value_of", "value_of", defArgs s_value_of, defBody s_value_of, defScope s_value_of, [], []⟩
def d_with_rows : He.DefD := ⟨("with_rows", none), "with_rows", "with_rows", defArgs s_with_rows, defBody s_with_rows, defScope s_with_rows, [], []⟩
def d__law_mix : He.DefD := ⟨("_law_mix", none), "_law_mix", "_law_mix", defArgs s__law_mix, defBody s__law_mix, defScope s__law_mix, [], []⟩
def d__law_numbers : He.DefD := ⟨("_law_numbers", none), "_law_numbers", "_law_numbers", defArgs s__law_numbers, defBody s__law_numbers, defScope s__law_numbers, [], []⟩
def d__law_take : He.DefD := ⟨("_law_take", none), "_law_take", "_law_take", defArgs s__law_take, defBody s__law_take, defScope s__law_take, [], []⟩
def d__law_lowest : He.DefD := ⟨("_law_lowest", none), "_law_lowest", "_law_lowest", defArgs s__law_lowest, defBody s__law_lowest, defScope s__law_lowest, [], []⟩
def d__law_fraction : He.DefD := ⟨("_law_fraction", none), "_law_fraction", "_law_fraction", defArgs s__law_fraction, defBody s__law_fraction, defScope s__law_fraction, [], []⟩
def d__law_plus : He.DefD := ⟨("_law_plus", none), "_law_plus", "_law_plus", defArgs s__law_plus, defBody s__law_plus, defScope s__law_plus, [], []⟩
def d__law_times : He.DefD := ⟨("_law_times", none), "_law_times", "_law_times", defArgs s__law_times, defBody s__law_times, defScope s__law_times, [], []⟩
def d__law_less : He.DefD := ⟨("_law_less", none), "_law_less", "_law_less", defArgs s__law_less, defBody s__law_less, defScope s__law_less, [], []⟩
def d__law_dot : He.DefD := ⟨("_law_dot", none), "_law_dot", "_law_dot", defArgs s__law_dot, defBody s__law_dot, defScope s__law_dot, [], []⟩
def d__law_vector : He.DefD := ⟨("_law_vector", none), "_law_vector", "_law_vector", defArgs s__law_vector, defBody s__law_vector, defScope s__law_vector, [], []⟩
def d__law_program : He.DefD := ⟨("_law_program", none), "_law_program", "_law_program", defArgs s__law_program, defBody s__law_program, defScope s__law_program, [], []⟩
def d__law_row_holds : He.DefD := ⟨("_law_row_holds", none), "_law_row_holds", "_law_row_holds", defArgs s__law_row_holds, defBody s__law_row_holds, defScope s__law_row_holds, [], []⟩
def d__law_fits : He.DefD := ⟨("_law_fits", none), "_law_fits", "_law_fits", defArgs s__law_fits, defBody s__law_fits, defScope s__law_fits, [], []⟩
def d__law_tight : He.DefD := ⟨("_law_tight", none), "_law_tight", "_law_tight", defArgs s__law_tight, defBody s__law_tight, defScope s__law_tight, [], []⟩
def d_law : He.DefD := ⟨("law", none), "law", "law", defArgs s_law, defBody s_law, defScope s_law, [], []⟩
def fn : List He.DefD := [d_make, d_add, d_multiply, d_sign, d_compare, d_dot, d__check_size, d__check_form, d_Program___init__, d_agrees, d_keeps_signs, d_fits_rows, d_fits, d_value_of, d_with_rows, d__law_mix, d__law_numbers, d__law_take, d__law_lowest, d__law_fraction, d__law_plus, d__law_times, d__law_less, d__law_dot, d__law_vector, d__law_program, d__law_row_holds, d__law_fits, d__law_tight, d_law]
def fa : List He.Fa := ([.glo "make", .glo "add", .glo "multiply", .glo "sign", .glo "compare", .glo "dot", .glo "_check_size", .glo "_check_form", .glo "agrees", .glo "keeps_signs", .glo "fits_rows", .glo "fits", .glo "value_of", .glo "with_rows", .glo "_law_mix", .glo "_law_numbers", .glo "_law_take", .glo "_law_lowest", .glo "_law_fraction", .glo "_law_plus", .glo "_law_times", .glo "_law_less", .glo "_law_dot", .glo "_law_vector", .glo "_law_program", .glo "_law_row_holds", .glo "_law_fits", .glo "_law_tight", .glo "law", .glo "Program"] : List He.Fa) ++ ([.cls "Program", .mkr "Program", .noat "Program" "variables", .noat "Program" "free", .noat "Program" "goal", .noat "Program" "rows", .free "abs", .free "all", .free "int", .free "len", .free "list", .free "min", .free "range", .free "zip", .glo "ZeroDenominator", .exc "ZeroDenominator", .int "_MOST_VARIABLES" 160, .int "_MOST_ROWS" 400, .glo "_SIGNS"] : List He.Fa)
def ex (K : PySem.W.Frag) : Bool := (He.eqO (PySem.W.nsIn K mainGlobals "gcd") (some (some (.builtin "math.gcd"))) && (He.tupB K "_SIGNS" [.str "at least", .str "at most", .str "exactly"] && true))
def tf : List He.Defn := [("keeps_signs", none)]
abbrev R : PySem.W.OpenRow := PySem.W.OpenLaw.row PySem.Challenge.rw_unbent_k08_points_of_a_program
abbrev loose : List Str := (["gcd", "UnbentError", "TooLarge", "InvalidProgram", "ZeroDenominator", "make", "add", "multiply", "sign", "compare", "dot", "_MOST_VARIABLES", "_MOST_ROWS", "_SIGNS", "Program", "_check_size", "_check_form", "agrees", "keeps_signs", "fits_rows", "fits", "value_of", "with_rows", "_law_mix", "_law_numbers", "_law_take", "_law_fraction", "_law_lowest", "_law_plus", "_law_times"] : List Str) ++ (["_law_less", "_law_dot", "_law_is_fraction", "_law_are_fractions", "_law_vector", "_law_program", "_law_made", "_law_row_holds", "_law_fits", "_law_covers", "_law_goes", "_law_accepted", "_law_tight"] : List Str)
abbrev hk : PySem.W.Hook := He.hookX 5 fa fn [] tf ex
def ob (s : PySem.W.SharedT) : He.AlX := He.obsX 5 fa fn [] tf ex (HandSHeadRun.getT s)
theorem ob_eq (s : PySem.W.SharedT) : ob s = hk.obs s.abs := He.obsX_eq (HandSHeadRun.getT_eq s)
theorem run (w : World) : HandSHeadRun.RunEqI R (PySem.W.view R.prog [0, 47]) hk ob 4000 loose w := by
  unfold HandSHeadRun.RunEqI
  kernel_rfl
theorem facts {w : World} {K : PySem.W.Frag} {h : Heap} {mg : Str → Option Value} {f : Addr} (X : K.In h) (G : h.Ns mainGlobals mg) (hfa : mg ("law" : Str) = some (.ref f)) (c : He.SaysX fa fn [] tf ex w h K) (P : Program) :
    ∃ fd : FuncData, (∀ (s : Shared) (v : Value), BindsTo s fd ⟨[v], []⟩ [("script", v)]) ∧ ∀ base : Heap, K.In base → base.Ns mainGlobals mg → (∀ p ∈ tf, GxR.TabB base mg (He.cT K p).1 (He.cT K p).2) → FnOk P w K mg base (L2.CX P w) 6 f fd ["script"] (sp_law K) := by
  have cd := c.t.d
  have cm := c.more
  unfold ex at cm
  obtain ⟨cm0, cm⟩ := He.ba cm
  obtain ⟨cm1, cm⟩ := He.ba cm
  have T : Tx K mg := { n_abs := He.free_ok X G (cd.fact 36 rfl), n_all := He.free_ok X G (cd.fact 37 rfl), n_int := He.free_ok X G (cd.fact 38 rfl), n_len := He.free_ok X G (cd.fact 39 rfl), n_list := He.free_ok X G (cd.fact 40 rfl), n_min := He.free_ok X G (cd.fact 41 rfl), n_range := He.free_ok X G (cd.fact 42 rfl), n_zip := He.free_ok X G (cd.fact 43 rfl), g_gcd := PySem.W.mg_of X G (He.eqO_ok cm0), c__MOST_VARIABLES := He.int_ok X G (cd.fact 46 rfl), c__MOST_ROWS := He.int_ok X G (cd.fact 47 rfl), e_ZeroDenominator := ⟨He.glo_ok X G (cd.fact 44 rfl), (He.exc_ok (cd.fact 45 rfl)).1, (He.exc_ok (cd.fact 45 rfl)).2.1, (He.exc_ok (cd.fact 45 rfl)).2.2.1, (He.exc_ok (cd.fact 45 rfl)).2.2.2⟩, gc_Program := He.glo_ok X G (cd.fact 29 rfl), cl_Program := He.cls_ok (cd.fact 30 rfl), na_Program_variables := He.noat_ok (cd.fact 32 rfl), na_Program_free := He.noat_ok (cd.fact 33 rfl), na_Program_goal := He.noat_ok (cd.fact 34 rfl), na_Program_rows := He.noat_ok (cd.fact 35 rfl), c__SIGNS := ⟨He.glo_ok X G (cd.fact 48 rfl), fun H => He.tupB_ok cm1 H⟩ }
  obtain ⟨fd_make, F_make⟩ := cd.def_ 0 (d := d_make) rfl
  have m_make := He.glo_ok X G (cd.fact 0 (f := .glo "make") rfl)
  obtain ⟨fd_add, F_add⟩ := cd.def_ 1 (d := d_add) rfl
  have m_add := He.glo_ok X G (cd.fact 1 (f := .glo "add") rfl)
  obtain ⟨fd_multiply, F_multiply⟩ := cd.def_ 2 (d := d_multiply) rfl
  have m_multiply := He.glo_ok X G (cd.fact 2 (f := .glo "multiply") rfl)
  obtain ⟨fd_sign, F_sign⟩ := cd.def_ 3 (d := d_sign) rfl
  have m_sign := He.glo_ok X G (cd.fact 3 (f := .glo "sign") rfl)
  obtain ⟨fd_compare, F_compare⟩ := cd.def_ 4 (d := d_compare) rfl
  have m_compare := He.glo_ok X G (cd.fact 4 (f := .glo "compare") rfl)
  obtain ⟨fd_dot, F_dot⟩ := cd.def_ 5 (d := d_dot) rfl
  have m_dot := He.glo_ok X G (cd.fact 5 (f := .glo "dot") rfl)
  obtain ⟨fd__check_size, F__check_size⟩ := cd.def_ 6 (d := d__check_size) rfl
  have m__check_size := He.glo_ok X G (cd.fact 6 (f := .glo "_check_size") rfl)
  obtain ⟨fd__check_form, F__check_form⟩ := cd.def_ 7 (d := d__check_form) rfl
  have m__check_form := He.glo_ok X G (cd.fact 7 (f := .glo "_check_form") rfl)
  obtain ⟨fd_Program___init__, F_Program___init__⟩ := cd.def_ 8 (d := d_Program___init__) rfl
  obtain ⟨fd_agrees, F_agrees⟩ := cd.def_ 9 (d := d_agrees) rfl
  have m_agrees := He.glo_ok X G (cd.fact 8 (f := .glo "agrees") rfl)
  obtain ⟨fd_keeps_signs, F_keeps_signs⟩ := cd.def_ 10 (d := d_keeps_signs) rfl
  have m_keeps_signs := He.glo_ok X G (cd.fact 9 (f := .glo "keeps_signs") rfl)
  obtain ⟨fd_fits_rows, F_fits_rows⟩ := cd.def_ 11 (d := d_fits_rows) rfl
  have m_fits_rows := He.glo_ok X G (cd.fact 10 (f := .glo "fits_rows") rfl)
  obtain ⟨fd_fits, F_fits⟩ := cd.def_ 12 (d := d_fits) rfl
  have m_fits := He.glo_ok X G (cd.fact 11 (f := .glo "fits") rfl)
  obtain ⟨fd_value_of, F_value_of⟩ := cd.def_ 13 (d := d_value_of) rfl
  have m_value_of := He.glo_ok X G (cd.fact 12 (f := .glo "value_of") rfl)
  obtain ⟨fd_with_rows, F_with_rows⟩ := cd.def_ 14 (d := d_with_rows) rfl
  have m_with_rows := He.glo_ok X G (cd.fact 13 (f := .glo "with_rows") rfl)
  obtain ⟨fd__law_mix, F__law_mix⟩ := cd.def_ 15 (d := d__law_mix) rfl
  have m__law_mix := He.glo_ok X G (cd.fact 14 (f := .glo "_law_mix") rfl)
  obtain ⟨fd__law_numbers, F__law_numbers⟩ := cd.def_ 16 (d := d__law_numbers) rfl
  have m__law_numbers := He.glo_ok X G (cd.fact 15 (f := .glo "_law_numbers") rfl)
  obtain ⟨fd__law_take, F__law_take⟩ := cd.def_ 17 (d := d__law_take) rfl
  have m__law_take := He.glo_ok X G (cd.fact 16 (f := .glo "_law_take") rfl)
  obtain ⟨fd__law_lowest, F__law_lowest⟩ := cd.def_ 18 (d := d__law_lowest) rfl
  have m__law_lowest := He.glo_ok X G (cd.fact 17 (f := .glo "_law_lowest") rfl)
  obtain ⟨fd__law_fraction, F__law_fraction⟩ := cd.def_ 19 (d := d__law_fraction) rfl
  have m__law_fraction := He.glo_ok X G (cd.fact 18 (f := .glo "_law_fraction") rfl)
  obtain ⟨fd__law_plus, F__law_plus⟩ := cd.def_ 20 (d := d__law_plus) rfl
  have m__law_plus := He.glo_ok X G (cd.fact 19 (f := .glo "_law_plus") rfl)
  obtain ⟨fd__law_times, F__law_times⟩ := cd.def_ 21 (d := d__law_times) rfl
  have m__law_times := He.glo_ok X G (cd.fact 20 (f := .glo "_law_times") rfl)
  obtain ⟨fd__law_less, F__law_less⟩ := cd.def_ 22 (d := d__law_less) rfl
  have m__law_less := He.glo_ok X G (cd.fact 21 (f := .glo "_law_less") rfl)
  obtain ⟨fd__law_dot, F__law_dot⟩ := cd.def_ 23 (d := d__law_dot) rfl
  have m__law_dot := He.glo_ok X G (cd.fact 22 (f := .glo "_law_dot") rfl)
  obtain ⟨fd__law_vector, F__law_vector⟩ := cd.def_ 24 (d := d__law_vector) rfl
  have m__law_vector := He.glo_ok X G (cd.fact 23 (f := .glo "_law_vector") rfl)
  obtain ⟨fd__law_program, F__law_program⟩ := cd.def_ 25 (d := d__law_program) rfl
  have m__law_program := He.glo_ok X G (cd.fact 24 (f := .glo "_law_program") rfl)
  obtain ⟨fd__law_row_holds, F__law_row_holds⟩ := cd.def_ 26 (d := d__law_row_holds) rfl
  have m__law_row_holds := He.glo_ok X G (cd.fact 25 (f := .glo "_law_row_holds") rfl)
  obtain ⟨fd__law_fits, F__law_fits⟩ := cd.def_ 27 (d := d__law_fits) rfl
  have m__law_fits := He.glo_ok X G (cd.fact 26 (f := .glo "_law_fits") rfl)
  obtain ⟨fd__law_tight, F__law_tight⟩ := cd.def_ 28 (d := d__law_tight) rfl
  have m__law_tight := He.glo_ok X G (cd.fact 27 (f := .glo "_law_tight") rfl)
  obtain ⟨fd_law, F_law⟩ := cd.def_ 29 (d := d_law) rfl
  have m_law := He.glo_ok X G (cd.fact 28 (f := .glo "law") rfl)
  have e := hfa.symm.trans m_law
  cases e
  have bl := FunD.bindsA (ps := ["script"]) F_law fun _ _ _ _ _ _ us hl => match us, hl with | [_], _ => rfl
  refine ⟨fd_law, fun s v => bl s [v] rfl, fun base _ _ TBs => ?_⟩
  have G_make : FnOk P w K mg base (L2.CX P w) 1 (He.ga K "make") fd_make ["p", "q"] (sp_make K) := ok_make T F_make 
  have C_make : Cal P w K mg base "make" 1 ["p", "q"] [] (sp_make K) := by
    have F1 : FunD K "make" "make" (defArgs s_make) (defBody s_make) (defScope s_make) [V.int 1] [] (He.ga K "make") fd_make := F_make
    obtain ⟨ds, hd, hb⟩ := F1.binds1 (ps := ["p", "q"]) 2 1 (by simp) rfl (fun T kV doc pm an cdv ct us its hu hi => by
      match us, hu, its, hi with
      | [_, _], _, [_], _ =>
        refine ⟨_, rfl, ?_⟩
        rfl)
    exact ⟨_, _, ds, G_make, m_make, F_make.kp, hd, hb⟩
  have G_add : FnOk P w K mg base (L2.CX P w) 2 (He.ga K "add") fd_add ["a", "b"] (sp_add K) := ok_add T F_add C_make
  have C_add : Cal P w K mg base "add" 2 ["a", "b"] [] (sp_add K) := ⟨_, _, [], G_add, m_add, F_add.kp, .nil, F_add.bindsN fun _ _ _ _ _ _ us hl => match us, hl with | [_, _], _ => rfl⟩
  have G_multiply : FnOk P w K mg base (L2.CX P w) 2 (He.ga K "multiply") fd_multiply ["a", "b"] (sp_multiply K) := ok_multiply T F_multiply C_make
  have C_multiply : Cal P w K mg base "multiply" 2 ["a", "b"] [] (sp_multiply K) := ⟨_, _, [], G_multiply, m_multiply, F_multiply.kp, .nil, F_multiply.bindsN fun _ _ _ _ _ _ us hl => match us, hl with | [_, _], _ => rfl⟩
  have G_sign : FnOk P w K mg base (L2.CX P w) 1 (He.ga K "sign") fd_sign ["a"] (sp_sign K) := ok_sign T F_sign 
  have C_sign : Cal P w K mg base "sign" 1 ["a"] [] (sp_sign K) := ⟨_, _, [], G_sign, m_sign, F_sign.kp, .nil, F_sign.bindsN fun _ _ _ _ _ _ us hl => match us, hl with | [_], _ => rfl⟩
  have G_compare : FnOk P w K mg base (L2.CX P w) 2 (He.ga K "compare") fd_compare ["a", "b"] (sp_compare K) := ok_compare T F_compare C_sign
  have C_compare : Cal P w K mg base "compare" 2 ["a", "b"] [] (sp_compare K) := ⟨_, _, [], G_compare, m_compare, F_compare.kp, .nil, F_compare.bindsN fun _ _ _ _ _ _ us hl => match us, hl with | [_, _], _ => rfl⟩
  have G_dot : FnOk P w K mg base (L2.CX P w) 3 (He.ga K "dot") fd_dot ["first", "second"] (sp_dot K) := ok_dot T F_dot C_add C_multiply
  have C_dot : Cal P w K mg base "dot" 3 ["first", "second"] [] (sp_dot K) := ⟨_, _, [], G_dot, m_dot, F_dot.kp, .nil, F_dot.bindsN fun _ _ _ _ _ _ us hl => match us, hl with | [_, _], _ => rfl⟩
  have G__check_size : FnOk P w K mg base (L2.CX P w) 1 (He.ga K "_check_size") fd__check_size ["variables", "rows"] (sp__check_size K) := ok__check_size T F__check_size 
  have C__check_size : Cal P w K mg base "_check_size" 1 ["variables", "rows"] [] (sp__check_size K) := ⟨_, _, [], G__check_size, m__check_size, F__check_size.kp, .nil, F__check_size.bindsN fun _ _ _ _ _ _ us hl => match us, hl with | [_, _], _ => rfl⟩
  have G__check_form : FnOk P w K mg base (L2.CX P w) 1 (He.ga K "_check_form") fd__check_form ["variables", "free", "goal", "rows"] (sp__check_form K) := ok__check_form T F__check_form 
  have C__check_form : Cal P w K mg base "_check_form" 1 ["variables", "free", "goal", "rows"] [] (sp__check_form K) := ⟨_, _, [], G__check_form, m__check_form, F__check_form.kp, .nil, F__check_form.bindsN fun _ _ _ _ _ _ us hl => match us, hl with | [_, _, _, _], _ => rfl⟩
  have G_Program___init__ : FnOk P w K mg base (L2.CX P w) 2 (He.ma K (He.ga K "Program") "__init__") fd_Program___init__ ["self", "variables", "free", "goal", "rows"] (sp_Program___init__ K) := ok_Program___init__ T F_Program___init__ C__check_form C__check_size
  have I_Program : UbC.CalI P w K mg base "Program" 2 1 ["free", "goal", "rows"] (sp_Program___init__ K) := ⟨He.mkr_ok (cd.fact 31 (f := .mkr "Program") rfl), T.gc_Program, _, _, _, G_Program___init__, UbC.FunD_kbindsN F_Program___init__ 2 ["free", "goal", "rows"] fun _ _ _ _ _ _ us ws hu hw => match us, ws, hu, hw with | [_, _], [_, _, _], _, _ => rfl⟩
  have G_agrees : FnOk P w K mg base (L2.CX P w) 1 (He.ga K "agrees") fd_agrees ["relation", "order"] (sp_agrees) := ok_agrees T F_agrees 
  have C_agrees : Cal P w K mg base "agrees" 1 ["relation", "order"] [] (sp_agrees) := ⟨_, _, [], G_agrees, m_agrees, F_agrees.kp, .nil, F_agrees.bindsN fun _ _ _ _ _ _ us hl => match us, hl with | [_, _], _ => rfl⟩
  have G_keeps_signs : FnOk P w K mg base (L2.CX P w) 2 (He.ga K "keeps_signs") fd_keeps_signs ["program", "point"] (sp_keeps_signs K) := ok_keeps_signs T F_keeps_signs rfl (TBs (("keeps_signs", none) : He.Defn) (by unfold tf; simp)) 
  have C_keeps_signs : Cal P w K mg base "keeps_signs" 2 ["program", "point"] [] (sp_keeps_signs K) := ⟨_, _, [], G_keeps_signs, m_keeps_signs, F_keeps_signs.kp, .nil, F_keeps_signs.bindsN fun _ _ _ _ _ _ us hl => match us, hl with | [_, _], _ => rfl⟩
  have G_fits_rows : FnOk P w K mg base (L2.CX P w) 4 (He.ga K "fits_rows") fd_fits_rows ["program", "rows", "point"] (sp_fits_rows K) := ok_fits_rows T F_fits_rows C_agrees C_compare C_dot C_keeps_signs
  have C_fits_rows : Cal P w K mg base "fits_rows" 4 ["program", "rows", "point"] [] (sp_fits_rows K) := ⟨_, _, [], G_fits_rows, m_fits_rows, F_fits_rows.kp, .nil, F_fits_rows.bindsN fun _ _ _ _ _ _ us hl => match us, hl with | [_, _, _], _ => rfl⟩
  have G_fits : FnOk P w K mg base (L2.CX P w) 5 (He.ga K "fits") fd_fits ["program", "point"] (sp_fits K) := ok_fits T F_fits C_fits_rows
  have C_fits : Cal P w K mg base "fits" 5 ["program", "point"] [] (sp_fits K) := ⟨_, _, [], G_fits, m_fits, F_fits.kp, .nil, F_fits.bindsN fun _ _ _ _ _ _ us hl => match us, hl with | [_, _], _ => rfl⟩
  have G_value_of : FnOk P w K mg base (L2.CX P w) 4 (He.ga K "value_of") fd_value_of ["program", "point"] (sp_value_of K) := ok_value_of T F_value_of C_dot
  have C_value_of : Cal P w K mg base "value_of" 4 ["program", "point"] [] (sp_value_of K) := ⟨_, _, [], G_value_of, m_value_of, F_value_of.kp, .nil, F_value_of.bindsN fun _ _ _ _ _ _ us hl => match us, hl with | [_, _], _ => rfl⟩
  have G_with_rows : FnOk P w K mg base (L2.CX P w) 4 (He.ga K "with_rows") fd_with_rows ["program", "rows"] (sp_with_rows K) := ok_with_rows T F_with_rows I_Program
  have C_with_rows : Cal P w K mg base "with_rows" 4 ["program", "rows"] [] (sp_with_rows K) := ⟨_, _, [], G_with_rows, m_with_rows, F_with_rows.kp, .nil, F_with_rows.bindsN fun _ _ _ _ _ _ us hl => match us, hl with | [_, _], _ => rfl⟩
  have G__law_mix : FnOk P w K mg base (L2.CX P w) 1 (He.ga K "_law_mix") fd__law_mix ["number", "k"] (sp__law_mix) := ok__law_mix T F__law_mix 
  have C__law_mix : Cal P w K mg base "_law_mix" 1 ["number", "k"] [] (sp__law_mix) := ⟨_, _, [], G__law_mix, m__law_mix, F__law_mix.kp, .nil, F__law_mix.bindsN fun _ _ _ _ _ _ us hl => match us, hl with | [_, _], _ => rfl⟩
  have G__law_numbers : FnOk P w K mg base (L2.CX P w) 2 (He.ga K "_law_numbers") fd__law_numbers ["script", "count"] (sp__law_numbers K) := ok__law_numbers T F__law_numbers C__law_mix
  have C__law_numbers : Cal P w K mg base "_law_numbers" 2 ["script", "count"] [] (sp__law_numbers K) := ⟨_, _, [], G__law_numbers, m__law_numbers, F__law_numbers.kp, .nil, F__law_numbers.bindsN fun _ _ _ _ _ _ us hl => match us, hl with | [_, _], _ => rfl⟩
  have G__law_take : FnOk P w K mg base (L2.CX P w) 1 (He.ga K "_law_take") fd__law_take ["row", "bound"] (sp__law_take) := ok__law_take T F__law_take 
  have C__law_take : Cal P w K mg base "_law_take" 1 ["row", "bound"] [] (sp__law_take) := ⟨_, _, [], G__law_take, m__law_take, F__law_take.kp, .nil, F__law_take.bindsN fun _ _ _ _ _ _ us hl => match us, hl with | [_, _], _ => rfl⟩
  have G__law_lowest : FnOk P w K mg base (L2.CX P w) 1 (He.ga K "_law_lowest") fd__law_lowest ["p", "q"] (sp__law_lowest K) := ok__law_lowest T F__law_lowest 
  have C__law_lowest : Cal P w K mg base "_law_lowest" 1 ["p", "q"] [] (sp__law_lowest K) := ⟨_, _, [], G__law_lowest, m__law_lowest, F__law_lowest.kp, .nil, F__law_lowest.bindsN fun _ _ _ _ _ _ us hl => match us, hl with | [_, _], _ => rfl⟩
  have G__law_fraction : FnOk P w K mg base (L2.CX P w) 2 (He.ga K "_law_fraction") fd__law_fraction ["row"] (sp__law_fraction K) := ok__law_fraction T F__law_fraction C__law_lowest C__law_take
  have C__law_fraction : Cal P w K mg base "_law_fraction" 2 ["row"] [] (sp__law_fraction K) := ⟨_, _, [], G__law_fraction, m__law_fraction, F__law_fraction.kp, .nil, F__law_fraction.bindsN fun _ _ _ _ _ _ us hl => match us, hl with | [_], _ => rfl⟩
  have G__law_plus : FnOk P w K mg base (L2.CX P w) 2 (He.ga K "_law_plus") fd__law_plus ["a", "b"] (sp__law_plus K) := ok__law_plus T F__law_plus C__law_lowest
  have C__law_plus : Cal P w K mg base "_law_plus" 2 ["a", "b"] [] (sp__law_plus K) := ⟨_, _, [], G__law_plus, m__law_plus, F__law_plus.kp, .nil, F__law_plus.bindsN fun _ _ _ _ _ _ us hl => match us, hl with | [_, _], _ => rfl⟩
  have G__law_times : FnOk P w K mg base (L2.CX P w) 2 (He.ga K "_law_times") fd__law_times ["a", "b"] (sp__law_times K) := ok__law_times T F__law_times C__law_lowest
  have C__law_times : Cal P w K mg base "_law_times" 2 ["a", "b"] [] (sp__law_times K) := ⟨_, _, [], G__law_times, m__law_times, F__law_times.kp, .nil, F__law_times.bindsN fun _ _ _ _ _ _ us hl => match us, hl with | [_, _], _ => rfl⟩
  have G__law_less : FnOk P w K mg base (L2.CX P w) 1 (He.ga K "_law_less") fd__law_less ["a", "b"] (sp__law_less K) := ok__law_less T F__law_less 
  have C__law_less : Cal P w K mg base "_law_less" 1 ["a", "b"] [] (sp__law_less K) := ⟨_, _, [], G__law_less, m__law_less, F__law_less.kp, .nil, F__law_less.bindsN fun _ _ _ _ _ _ us hl => match us, hl with | [_, _], _ => rfl⟩
  have G__law_dot : FnOk P w K mg base (L2.CX P w) 3 (He.ga K "_law_dot") fd__law_dot ["first", "second"] (sp__law_dot K) := ok__law_dot T F__law_dot C__law_plus C__law_times
  have C__law_dot : Cal P w K mg base "_law_dot" 3 ["first", "second"] [] (sp__law_dot K) := ⟨_, _, [], G__law_dot, m__law_dot, F__law_dot.kp, .nil, F__law_dot.bindsN fun _ _ _ _ _ _ us hl => match us, hl with | [_, _], _ => rfl⟩
  have G__law_vector : FnOk P w K mg base (L2.CX P w) 3 (He.ga K "_law_vector") fd__law_vector ["row", "count"] (sp__law_vector K) := ok__law_vector T F__law_vector C__law_fraction
  have C__law_vector : Cal P w K mg base "_law_vector" 3 ["row", "count"] [] (sp__law_vector K) := ⟨_, _, [], G__law_vector, m__law_vector, F__law_vector.kp, .nil, F__law_vector.bindsN fun _ _ _ _ _ _ us hl => match us, hl with | [_, _], _ => rfl⟩
  have G__law_program : FnOk P w K mg base (L2.CX P w) 4 (He.ga K "_law_program") fd__law_program ["row", "most"] (sp__law_program K) := ok__law_program T F__law_program C__law_fraction C__law_take C__law_vector
  have C__law_program : Cal P w K mg base "_law_program" 4 ["row", "most"] [] (sp__law_program K) := ⟨_, _, [], G__law_program, m__law_program, F__law_program.kp, .nil, F__law_program.bindsN fun _ _ _ _ _ _ us hl => match us, hl with | [_, _], _ => rfl⟩
  have G__law_row_holds : FnOk P w K mg base (L2.CX P w) 4 (He.ga K "_law_row_holds") fd__law_row_holds ["numbers", "word", "bound", "point"] (sp__law_row_holds K) := ok__law_row_holds T F__law_row_holds C__law_dot C__law_less
  have C__law_row_holds : Cal P w K mg base "_law_row_holds" 4 ["numbers", "word", "bound", "point"] [] (sp__law_row_holds K) := ⟨_, _, [], G__law_row_holds, m__law_row_holds, F__law_row_holds.kp, .nil, F__law_row_holds.bindsN fun _ _ _ _ _ _ us hl => match us, hl with | [_, _, _, _], _ => rfl⟩
  have G__law_fits : FnOk P w K mg base (L2.CX P w) 5 (He.ga K "_law_fits") fd__law_fits ["program", "point"] (sp__law_fits K) := ok__law_fits T F__law_fits C__law_row_holds
  have C__law_fits : Cal P w K mg base "_law_fits" 5 ["program", "point"] [] (sp__law_fits K) := ⟨_, _, [], G__law_fits, m__law_fits, F__law_fits.kp, .nil, F__law_fits.bindsN fun _ _ _ _ _ _ us hl => match us, hl with | [_, _], _ => rfl⟩
  have G__law_tight : FnOk P w K mg base (L2.CX P w) 4 (He.ga K "_law_tight") fd__law_tight ["row", "program"] (sp__law_tight K) := ok__law_tight T F__law_tight C__law_dot C__law_lowest C__law_plus C__law_take C__law_times
  have C__law_tight : Cal P w K mg base "_law_tight" 4 ["row", "program"] [] (sp__law_tight K) := ⟨_, _, [], G__law_tight, m__law_tight, F__law_tight.kp, .nil, F__law_tight.bindsN fun _ _ _ _ _ _ us hl => match us, hl with | [_, _], _ => rfl⟩
  exact ok_law T F_law I_Program C__law_dot C__law_fits C__law_fraction C__law_numbers C__law_program C__law_take C__law_tight C__law_vector C_fits C_value_of C_with_rows
end UbK
open PySem PySem.W PySem.Calls PyProof.Rows
set_option maxHeartbeats 0 in
theorem PySem.Challenge.cw_unbent_k08_points_of_a_program_holds : PySem.Challenge.rw_unbent_k08_points_of_a_program.Holds := by
  w_on; o_law
  refine HandSHeadRun.head_imp (r := OpenLaw.row PySem.Challenge.rw_unbent_k08_points_of_a_program) (q := view (OpenLaw.row PySem.Challenge.rw_unbent_k08_points_of_a_program).prog [0, 47]) (H := UbK.hk) (ob := UbK.ob) (M := 4000) (loose := UbK.loose) (d := HandSHeadRun.topDef (OpenLaw.row PySem.Challenge.rw_unbent_k08_points_of_a_program).prog 47) (kwd := []) UbK.ob_eq UbK.run
    (by kernel_rfl) (by kernel_rfl) (by kernel_rfl) (by rfl) (by first | assumption | decide +kernel) (by decide +kernel) ⟨rfl, rfl, rfl, rfl, rfl, by decide +kernel⟩ ?hw ?hc
  case hw => w_witness2
  case hc =>
    refine UbG.endOfLawT (l := PySem.Challenge.rw_unbent_k08_points_of_a_program) (n := 63) (k := 6) (x := "script") rfl (by decide) (by kernel_rfl) ⟨rfl, by decide, by decide⟩ UbK.tf ?F
    intro w mg fa h Y G hmg0
    obtain ⟨K, KX, c⟩ := Y
    have hmg : mg ("law" : PySem.Str) = some (.ref fa) := by
      have e : (HandSHeadRun.topDef (OpenLaw.row PySem.Challenge.rw_unbent_k08_points_of_a_program).prog 47).name = ("law" : PySem.Str) := by kernel_rfl
      rw [← e]
      exact hmg0
    obtain ⟨fd, hb, hF⟩ := UbK.facts KX G hmg c (PySem.Challenge.rw_unbent_k08_points_of_a_program).prog
    exact ⟨K, fd, UbK.sp_law K, KX, c.hd, c.out, c.empty, hb, fun H a ns hl hz hT hS => ⟨a, ns, rfl, hS, hl, hz, hT, fun _ => rfl⟩, hF⟩
