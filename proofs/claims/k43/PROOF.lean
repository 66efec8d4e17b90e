import PyProof.Rows.All
import Wide.All
import OpenK.AllK
import Wide.FinOn
import HandS.ForMost
import HandS.ForExc
import HandS.Wide
import HandS.Gcd
import HandS.IsInst
import HandS.Defaults
import HandS.ExcIs
import HandS.Flow
import HandS.Small
import HandS.HeadHook4
import HandS.HeadEnd
import HandS.AnyAll
import HandS.GenList
import HandS.NestedK
import HandS.HeadWalk
import HandS.Rev
import HandS.Conv
import PyProof.StrLaws
import HandS.ExcInit
import HandS.FStr
import HandS.MakeKwOnly
import HandS.ExcField
import HandS.CallSlots
import HandS.MakeKw
import KE.KExcSuper
import HandS.Nested
import HandS.Head0
import HandS.Head1
import HandS.Head2
import HandS.HeadHook1
import HandS.HeadHook2
import HandS.HeadHook3
import HandS.Head3
import PySem.Challenge.RW_unbent_k43_whole_lies_of_one_number
set_option Elab.async false
set_option linter.all false
set_option maxRecDepth 100000
set_option maxHeartbeats 4000000
/-! Plain mathematics: Euclid by a bounded number of turns, fractions as Rat. -/
namespace UbM
/-- m turns of Euclid are enough for a, b -/
def Enough (m a b : Nat) : Prop := ∃ e, (b < 2 ^ e ∧ 2 * e + 1 ≤ m) ∨ (b < a ∧ a < 2 ^ (e + 1) ∧ 2 * e + 2 ≤ m)
theorem Enough.pos {m a b : Nat} (h : Enough m a b) : 0 < m := by
  obtain ⟨e, h | h⟩ := h <;> omega
theorem half_mod {a b : Nat} (hb : 0 < b) (h : b < a) : 2 * (a % b) < a := by
  have h1 := Nat.mod_lt a hb
  have h2 := Nat.div_add_mod a b
  have h3 : 1 ≤ a / b := (Nat.le_div_iff_mul_le hb).mpr (by omega)
  have h4 : b * 1 ≤ b * (a / b) := Nat.mul_le_mul_left b h3
  omega
theorem Enough.step {m a b : Nat} (hb : 0 < b) (h : Enough m a b) : Enough (m - 1) b (a % b) := by
  obtain ⟨e, ⟨h1, h2⟩ | ⟨h1, h2, h3⟩⟩ := h
  · cases e with
    | zero =>
      have : b < 1 := h1
      omega
    | succ e =>
      refine ⟨e, .inr ⟨Nat.mod_lt _ hb, h1, by omega⟩⟩
  · refine ⟨e, .inl ⟨?_, by omega⟩⟩
    have h4 := half_mod hb h1
    have h5 : 2 ^ (e + 1) = 2 ^ e * 2 := Nat.pow_succ ..
    omega
theorem enough_of {m a b e : Nat} (h : b < 2 ^ e) (hm : 2 * e + 1 ≤ m) : Enough m a b := ⟨e, .inl ⟨h, hm⟩⟩
/-! ### fractions -/
theorem int_gcd (p q : Int) : q.gcd p = Nat.gcd p.natAbs q.natAbs := by
  unfold Int.gcd
  exact Nat.gcd_comm ..
theorem num_pos {p q : Int} (h : 0 < q) : p / ((Nat.gcd p.natAbs q.natAbs : Nat) : Int) = (Rat.divInt p q).num := by
  rw [Rat.num_divInt, int_gcd, Int.sign_eq_one_of_pos h, Int.one_mul]
theorem den_pos {p q : Int} (h : 0 < q) : q / ((Nat.gcd p.natAbs q.natAbs : Nat) : Int) = ((Rat.divInt p q).den : Int) := by
  rw [Rat.den_divInt, if_neg (by omega), int_gcd]
  have e : (q.natAbs : Int) = q := by omega
  rw [Int.natCast_ediv, e]
theorem gcd_pos {p q : Int} (h : q ≠ 0) : 0 < Nat.gcd p.natAbs q.natAbs := Nat.gcd_pos_of_pos_right _ (by omega)
theorem fdiv_neg_dvd {a b : Int} (h : b ∣ a) : a.fdiv (-b) = -(a / b) := by
  obtain ⟨c, rfl⟩ := h
  by_cases hb : b = 0
  · subst hb
    simp
  · rw [Int.mul_ediv_cancel_left _ hb]
    have e : b * c = -b * -c := by rw [Int.neg_mul_neg]
    rw [e, Int.mul_fdiv_cancel_left _ (by omega)]
theorem dvd_l (p q : Int) : ((Nat.gcd p.natAbs q.natAbs : Nat) : Int) ∣ p := Int.ofNat_dvd_left.mpr (Nat.gcd_dvd_left ..)
theorem dvd_r (p q : Int) : ((Nat.gcd p.natAbs q.natAbs : Nat) : Int) ∣ q := Int.ofNat_dvd_left.mpr (Nat.gcd_dvd_right ..)
theorem num_neg {p q : Int} (h : q < 0) : p.fdiv (-((Nat.gcd p.natAbs q.natAbs : Nat) : Int)) = (Rat.divInt p q).num := by
  rw [fdiv_neg_dvd (dvd_l p q), Rat.num_divInt, int_gcd, Int.sign_eq_neg_one_of_neg h, Int.neg_one_mul, Int.neg_ediv_of_dvd (dvd_l p q)]
theorem den_neg {p q : Int} (h : q < 0) : q.fdiv (-((Nat.gcd p.natAbs q.natAbs : Nat) : Int)) = ((Rat.divInt p q).den : Int) := by
  rw [fdiv_neg_dvd (dvd_r p q), Rat.den_divInt, if_neg (by omega), int_gcd]
  have e : (q.natAbs : Int) = -q := by omega
  rw [Int.natCast_ediv, e, Int.neg_ediv_of_dvd (dvd_r p q)]
/-! ### sizes -/
def Bd (n : Nat) (r : Rat) : Prop := r.num.natAbs < 2 ^ n ∧ r.den < 2 ^ n
theorem bd_divInt {p q : Int} {n : Nat} (hq : q ≠ 0) (h1 : p.natAbs < 2 ^ n) (h2 : q.natAbs < 2 ^ n) : Bd n (Rat.divInt p q) := by
  constructor
  · by_cases h : 0 < q
    · rw [← num_pos h, Int.natAbs_ediv_of_dvd (dvd_l p q)]
      exact Nat.lt_of_le_of_lt (Nat.div_le_self ..) h1
    · rw [← num_neg (show q < 0 by omega), fdiv_neg_dvd (dvd_l p q), Int.natAbs_neg, Int.natAbs_ediv_of_dvd (dvd_l p q)]
      exact Nat.lt_of_le_of_lt (Nat.div_le_self ..) h1
  · rw [Rat.den_divInt, if_neg hq]
    exact Nat.lt_of_le_of_lt (Nat.div_le_self ..) h2
theorem Bd.mono {n m : Nat} {r : Rat} (h : Bd n r) (k : n ≤ m) : Bd m r := ⟨Nat.lt_of_lt_of_le h.1 (Nat.pow_le_pow_right (by decide) k), Nat.lt_of_lt_of_le h.2 (Nat.pow_le_pow_right (by decide) k)⟩
theorem mul_lt {i j : Int} {a b : Nat} (ha : i.natAbs < 2 ^ a) (hb : j.natAbs < 2 ^ b) : (i * j).natAbs < 2 ^ (a + b) := by
  rw [Int.natAbs_mul, Nat.pow_add]
  exact Nat.mul_lt_mul'' ha hb
theorem add_lt {i j : Int} {a b : Nat} (ha : i.natAbs < 2 ^ a) (hb : j.natAbs < 2 ^ b) : (i + j).natAbs < 2 ^ (max a b + 1) := by
  have h1 : (2 : Nat) ^ a ≤ 2 ^ (max a b) := Nat.pow_le_pow_right (by decide) (by omega)
  have h2 : (2 : Nat) ^ b ≤ 2 ^ (max a b) := Nat.pow_le_pow_right (by decide) (by omega)
  have h3 : (2 : Nat) ^ (max a b + 1) = 2 ^ (max a b) * 2 := Nat.pow_succ ..
  omega
theorem sub_lt {i j : Int} {a b : Nat} (ha : i.natAbs < 2 ^ a) (hb : j.natAbs < 2 ^ b) : (i - j).natAbs < 2 ^ (max a b + 1) := by
  have h1 : (2 : Nat) ^ a ≤ 2 ^ (max a b) := Nat.pow_le_pow_right (by decide) (by omega)
  have h2 : (2 : Nat) ^ b ≤ 2 ^ (max a b) := Nat.pow_le_pow_right (by decide) (by omega)
  have h3 : (2 : Nat) ^ (max a b + 1) = 2 ^ (max a b) * 2 := Nat.pow_succ ..
  omega
theorem den_ne (r : Rat) : (r.den : Int) ≠ 0 := by
  have := r.den_nz
  omega
theorem den_p (r : Rat) : (0 : Int) < r.den := by
  have := r.den_nz
  omega
theorem den_lt {r : Rat} {n : Nat} (h : Bd n r) : (r.den : Int).natAbs < 2 ^ n := h.2
theorem add_as (r s : Rat) : Rat.divInt (r.num * s.den + s.num * r.den) (r.den * s.den) = r + s := by
  rw [Rat.add_def', ← Rat.divInt_ofNat, Int.natCast_mul]
theorem sub_as (r s : Rat) : Rat.divInt (r.num * s.den - s.num * r.den) (r.den * s.den) = r - s := by
  rw [Rat.sub_def', ← Rat.divInt_ofNat, Int.natCast_mul]
theorem mul_as (r s : Rat) : Rat.divInt (r.num * s.num) (r.den * s.den) = r * s := by
  rw [Rat.mul_def', ← Rat.divInt_ofNat, Int.natCast_mul]
theorem div_as (r s : Rat) : Rat.divInt (r.num * s.den) (r.den * s.num) = r / s := by
  rw [Rat.div_def, Rat.inv_def]
  conv => rhs; rw [← Rat.num_divInt_den r]
  rw [Rat.divInt_mul_divInt]
theorem bd_add {r s : Rat} {a b : Nat} (hr : Bd a r) (hs : Bd b s) : Bd (a + b + 1) (r + s) := by
  rw [← add_as]
  refine bd_divInt (Int.mul_ne_zero (den_ne r) (den_ne s)) ?_ ?_
  · have := add_lt (mul_lt hr.1 (den_lt hs)) (mul_lt hs.1 (den_lt hr))
    rw [show max (a + b) (b + a) + 1 = a + b + 1 by omega] at this
    exact this
  · exact Nat.lt_of_lt_of_le (mul_lt (den_lt hr) (den_lt hs)) (Nat.pow_le_pow_right (by decide) (by omega))
theorem bd_sub {r s : Rat} {a b : Nat} (hr : Bd a r) (hs : Bd b s) : Bd (a + b + 1) (r - s) := by
  rw [← sub_as]
  refine bd_divInt (Int.mul_ne_zero (den_ne r) (den_ne s)) ?_ ?_
  · have := sub_lt (mul_lt hr.1 (den_lt hs)) (mul_lt hs.1 (den_lt hr))
    rw [show max (a + b) (b + a) + 1 = a + b + 1 by omega] at this
    exact this
  · exact Nat.lt_of_lt_of_le (mul_lt (den_lt hr) (den_lt hs)) (Nat.pow_le_pow_right (by decide) (by omega))
theorem bd_mul {r s : Rat} {a b : Nat} (hr : Bd a r) (hs : Bd b s) : Bd (a + b) (r * s) := by
  rw [← mul_as]
  exact bd_divInt (Int.mul_ne_zero (den_ne r) (den_ne s)) (mul_lt hr.1 hs.1) (mul_lt (den_lt hr) (den_lt hs))
theorem bd_neg {r : Rat} {a : Nat} (hr : Bd a r) : Bd a (-r) := ⟨by rw [Rat.neg_num, Int.natAbs_neg]; exact hr.1, hr.2⟩
theorem bd_div {r s : Rat} {a b : Nat} (hz : s ≠ 0) (hr : Bd a r) (hs : Bd b s) : Bd (a + b) (r / s) := by
  rw [← div_as]
  exact bd_divInt (Int.mul_ne_zero (den_ne r) fun h => hz (Rat.num_eq_zero.mp h)) (mul_lt hr.1 (den_lt hs)) (mul_lt (den_lt hr) hs.1)
/-! ### the order -/
/-- -1, 0, 1 as r is below, equal to, above s -/
def cmpR (r s : Rat) : Int := Int.sign (r.num * s.den - s.num * r.den)
theorem cmpR_lt {r s : Rat} (h : r < s) : cmpR r s = -1 := by
  have := (Rat.lt_iff r s).mp h
  exact Int.sign_eq_neg_one_of_neg (by omega)
theorem cmpR_gt {r s : Rat} (h : s < r) : cmpR r s = 1 := by
  have := (Rat.lt_iff s r).mp h
  exact Int.sign_eq_one_of_pos (by omega)
theorem cmpR_self (r : Rat) : cmpR r r = 0 := by
  unfold cmpR
  rw [Int.sub_self]
  rfl
theorem cmpR_cases (r s : Rat) : (r < s ∧ cmpR r s = -1) ∨ (r = s ∧ cmpR r s = 0) ∨ (s < r ∧ cmpR r s = 1) := by
  by_cases h : r = s
  · subst h
    exact .inr (.inl ⟨rfl, cmpR_self r⟩)
  · by_cases h2 : r < s
    · exact .inl ⟨h2, cmpR_lt h2⟩
    · have h3 : s < r := Rat.lt_of_le_of_ne (Rat.not_lt.mp h2) fun e => h e.symm
      exact .inr (.inr ⟨h3, cmpR_gt h3⟩)
theorem cmpR_swap (r s : Rat) : cmpR s r = -cmpR r s := by
  rcases cmpR_cases r s with ⟨h, e⟩ | ⟨h, e⟩ | ⟨h, e⟩
  · rw [e, cmpR_gt h]
    rfl
  · rw [e, h, cmpR_self]
    rfl
  · rw [e, cmpR_lt h]
theorem cmpR_add (r s t : Rat) : cmpR (r + t) (s + t) = cmpR r s := by
  rcases cmpR_cases r s with ⟨h, e⟩ | ⟨h, e⟩ | ⟨h, e⟩
  · rw [e, cmpR_lt (Rat.add_lt_add_right.mpr h)]
  · rw [e, h, cmpR_self]
  · rw [e, cmpR_gt (Rat.add_lt_add_right.mpr h)]
theorem cmpR_mul {r s t : Rat} (ht : 0 < t) : cmpR (r * t) (s * t) = cmpR r s := by
  rcases cmpR_cases r s with ⟨h, e⟩ | ⟨h, e⟩ | ⟨h, e⟩
  · rw [e, cmpR_lt ((Rat.mul_lt_mul_right ht).mpr h)]
  · rw [e, h, cmpR_self]
  · rw [e, cmpR_gt ((Rat.mul_lt_mul_right ht).mpr h)]
theorem neg_pos {t : Rat} (h : t < 0) : 0 < -t := by
  have := Rat.neg_lt_neg h
  rw [Rat.neg_zero] at this
  exact this
theorem cmpR_mul_neg {r s t : Rat} (ht : t < 0) : cmpR (r * t) (s * t) = -cmpR r s := by
  have h1 := cmpR_mul (r := r) (s := s) (neg_pos ht)
  rw [Rat.mul_neg, Rat.mul_neg] at h1
  rw [← h1, ← cmpR_swap]
  unfold cmpR
  rw [Rat.neg_num, Rat.neg_num, Rat.neg_den, Rat.neg_den, Int.neg_mul, Int.neg_mul]
  congr 1
  omega
theorem sign_as (d : Int) : (if decide (0 < d) = true then (1 : Int) else 0) - (if decide (d < 0) = true then (1 : Int) else 0) = Int.sign d := by
  rcases Int.lt_trichotomy d 0 with h | h | h
  · rw [decide_eq_true h, decide_eq_false (show ¬0 < d by omega), Int.sign_eq_neg_one_of_neg h]
    rfl
  · subst h
    rfl
  · rw [decide_eq_true h, decide_eq_false (show ¬d < 0 by omega), Int.sign_eq_one_of_pos h]
    rfl
theorem cmpR_zero (r : Rat) : cmpR r 0 = Int.sign r.num := by
  unfold cmpR
  rw [Rat.zero_num, Rat.zero_den]
  congr 1
  omega
theorem num_pos_iff {r : Rat} : 0 < r.num ↔ 0 < r := by
  have h := Rat.lt_iff 0 r
  rw [Rat.zero_num, Rat.zero_den] at h
  rw [h]
  omega
theorem num_neg_iff {r : Rat} : r.num < 0 ↔ r < 0 := by
  have h := Rat.lt_iff r 0
  rw [Rat.zero_num, Rat.zero_den] at h
  rw [h]
  omega
end UbM

namespace Ub
open PySem PySem.Spec PyProof.Rows L2 UbM
/-! ### heaps -/
theorem sameNew {H : Hp} {p : Addr} {o : HO} (h : H p = none) : Same H (upd H p o) := fun b x e => by
  rw [upd_ne (ne_of_none e h)]
  exact e
theorem Same.tseq {K : PySem.W.Frag} {H H' : Hp} {a : Addr} {xs : List V} (e : Same H H') (h : SqT K H a xs) : SqT K H' a xs := by
  rcases h with (h | ⟨o, h⟩) | h
  · exact .inl (.inl (e _ _ h))
  · exact .inl (.inr ⟨o, e _ _ h⟩)
  · exact .inr h
mutual
theorem Dp.mono {K : PySem.W.Frag} {H H' : Hp} (e : Same H H') : ∀ (d : PyData) (v : V), Dp K H v d → Dp K H' v d
  | .none, _, h => by cases h; exact .non
  | .bool b, _, h => by cases h; exact .bl b
  | .int i, _, h => by cases h; exact .int i
  | .str x, _, h => by cases h; exact .str x
  | .list ds, _, h => by
    cases h with
    | lst hs ha => exact .lst (Same.seq e hs) (Dp.monoAll e ds _ ha)
  | .tuple ds, _, h => by
    cases h with
    | tup hs ha => exact .tup (Same.tseq e hs) (Dp.monoAll e ds _ ha)
  | .dict _, _, h => by cases h
theorem Dp.monoAll {K : PySem.W.Frag} {H H' : Hp} (e : Same H H') : ∀ (ds : List PyData) (vs : List V), DpAll K H vs ds → DpAll K H' vs ds
  | [], _, h => by cases h; exact .nil
  | d :: ds, _, h => by
    cases h with
    | cons h1 h2 => exact .cons (Dp.mono e d _ h1) (Dp.monoAll e ds _ h2)
end
/-- a fraction as data -/
def frD (r : Rat) : PyData := .tuple [.int r.num, .int (r.den : Int)]
/-- v is the fraction r -/
def Fr (K : PySem.W.Frag) (H : Hp) (v : V) (r : Rat) : Prop := Dp K H v (frD r)
theorem Fr.mono {K : PySem.W.Frag} {H H' : Hp} {v : V} {r : Rat} (e : Same H H') (h : Fr K H v r) : Fr K H' v r := Dp.mono e _ _ h
theorem Fr.get {K : PySem.W.Frag} {H : Hp} {v : V} {r : Rat} (h : Fr K H v r) : ∃ a, v = .ref a ∧ SqT K H a [.int r.num, .int (r.den : Int)] := by
  unfold Fr frD at h
  cases h with
  | tup hs ha =>
    cases ha with
    | cons h1 h2 =>
      cases h2 with
      | cons h2 h3 =>
        cases h3
        cases h1
        cases h2
        exact ⟨_, rfl, hs⟩
theorem fr_of {K : PySem.W.Frag} {H : Hp} {a : Addr} {r : Rat} {p q : Int} (h : SqT K H a [.int p, .int q]) (hp : p = r.num) (hq : q = (r.den : Int)) : Fr K H (.ref a) r := by
  subst hp hq
  exact .tup h (.cons (.int _) (.cons (.int _) .nil))
theorem frNew {K : PySem.W.Frag} {H : Hp} {a : Addr} {r : Rat} {p q : Int} (hp : p = r.num) (hq : q = (r.den : Int)) : Fr K (upd H a (.tup [.int p, .int q])) (.ref a) r := fr_of (.inl (.inl upd_same)) hp hq
/-! ### operators on ints of any size that these laws meet -/
def CDivX (_ j : Int) : Prop := j ≠ 0 ∧ j.natAbs.log2 < 9000
theorem cdivX {i j : Int} {b : Nat} (h : j ≠ 0) (hb : j.natAbs < 2 ^ b) (h0 : 0 < b) (h9 : b ≤ 9000) : CDivX i j := ⟨h, Nat.lt_of_lt_of_le (PySem.Flt.log2_lt_of h0 hb) h9⟩
section
variable {X : Cx}
theorem op_fdivX : OpR X (binaryOp .FloorDiv) (rI CDivX fun i j => .int (i.fdiv j)) := opI fun i j _ _ _ _ _ hc q => floordiv_int hc.1 q (.inl (PyProof.noPylong_of_log2 hc.2))
end
/-- * of two ints: one below 2 ^ 64, or together below a million bits -/
def CMulG (i j : Int) : Prop := CMul i j ∨ CMulW i j
section
variable {X : Cx}
theorem op_mulG : OpR X (binaryOp .Mult) (rI CMulG fun i j => .int (i * j)) := opI fun _ _ _ _ _ _ _ hc q => mul_int q (by
  rcases hc with hc | hc
  · exact hc.ok
  · exact hc.ok)
end
theorem fdiv_pos {i j : Int} (h : 0 < j) : i.fdiv j = i / j := Int.fdiv_eq_ediv_of_nonneg i (by omega)
/-! ### calls of the program's own defs -/
/-- at the name x stands a def that keeps the promise sp, by at most level k; dvs: the defaults that fill up -/
structure Cal (P : Program) (w : World) (K : PySem.W.Frag) (mg : Str → Option Value) (base : Heap) (x : Str) (k : Nat) (ps : List Str) (dvs : List V) (sp : Sp) : Prop where
  ex : ∃ (f : Addr) (fd : FuncData) (ds : List Value), FnOk P w K mg base (L2.CX P w) k f fd ps sp ∧ mg x = some (.ref f) ∧ PySem.W.keepIn K (.ref f) = true ∧ Vals dvs ds ∧ Binds K fd ps ds
section
variable {X : Cx} {x : Str} {k j : Nat} {ps : List Str} {dvs : List V} {sp : Sp} {p pos : Pos} {e : Expr} {es : List Expr} {t : TA}
theorem pe_callC (C : Cal X.prog X.w X.K X.mg X.base x k ps dvs sp) (hr : Room j X.A) (hj : k ≤ j) (hg : Gl X x) (ha : PA X (e :: es) t) (hdb : (x == ("__debug__" : Str)) = false := by decide)
    (he : starEach (e :: es) X.env = (false, eval e X.env) :: starEach es X.env := by rfl) (hpl : (backTo pos (starEach es X.env)).any (·.1) = false := by rfl) :
    PE X (.Call (.Name x p) (e :: es) [] pos) (tCall sp dvs E0 t) := by
  obtain ⟨f, fd, ds, F, hm, hk, hd, hb⟩ := C.ex
  exact pe_call F (hr.mono hj) hg hm hk hb hd passL ha hdb he hpl
theorem pe_callC0 (C : Cal X.prog X.w X.K X.mg X.base x k ps dvs sp) (hr : Room j X.A) (hj : k ≤ j) (hg : Gl X x) (hdb : (x == ("__debug__" : Str)) = false := by decide) : PE X (.Call (.Name x p) [] [] pos) (tCall sp dvs E0 tNil) := by
  obtain ⟨f, fd, ds, F, hm, hk, hd, hb⟩ := C.ex
  exact pe_call0 F (hr.mono hj) hg hm hk hb hd passL hdb
/-- in a def that may raise: what the callee raises leaves it -/
theorem pe_callCX {E : XK} (C : Cal X.prog X.w X.K X.mg X.base x k ps dvs sp) (hr : Room j X.A) (hj : k ≤ j) (hg : Gl X x) (tk : Takes X (fun cls d _ H => E cls d H)) (ha : PA X (e :: es) t) (hdb : (x == ("__debug__" : Str)) = false := by decide)
    (he : starEach (e :: es) X.env = (false, eval e X.env) :: starEach es X.env := by rfl) (hpl : (backTo pos (starEach es X.env)).any (·.1) = false := by rfl) :
    PE X (.Call (.Name x p) (e :: es) [] pos) (tCall sp dvs E t) := by
  obtain ⟨f, fd, ds, F, hm, hk, hd, hb⟩ := C.ex
  exact pe_call F (hr.mono hj) hg hm hk hb hd (passes_call tk fun _ _ _ _ h => h) ha hdb he hpl
/-- in a try: what it raises goes to the clause -/
theorem pe_callCS {W : WX} (C : Cal X.prog X.w X.K X.mg X.base x k ps [] sp) (hr : Room j X.A) (hj : k ≤ j) (hg : Gl X x) (tk : Takes X W) (ha : PA X (e :: es) t) (hdb : (x == ("__debug__" : Str)) = false := by decide)
    (he : starEach (e :: es) X.env = (false, eval e X.env) :: starEach es X.env := by rfl) (hpl : (backTo pos (starEach es X.env)).any (·.1) = false := by rfl) :
    PE X (.Call (.Name x p) (e :: es) [] pos) (tCallS sp (WE W) t) := by
  obtain ⟨f, fd, ds, F, hm, hk, hd, hb⟩ := C.ex
  cases hd
  exact pe_callS F (hr.mono hj) hg hm hk hb (fun σ => passAt tk σ) ha hdb he hpl
end
theorem Cal.mono {P : Program} {w : World} {K : PySem.W.Frag} {mg : Str → Option Value} {base : Heap} {x : Str} {k : Nat} {ps : List Str} {dvs : List V} {sp sp' : Sp} (C : Cal P w K mg base x k ps dvs sp)
    (h : ∀ vs H Q E, sp' vs H Q E → sp vs H Q E) : Cal P w K mg base x k ps dvs sp' := by
  obtain ⟨f, fd, ds, F, r⟩ := C.ex
  exact ⟨f, fd, ds, F.imp h, r⟩
/-! ### own exceptions -/
section
variable {X : Cx} {C : Addr} {bmB : List Value} {B newId initId : String}
/-- X(), X an own exception class without own __init__ -/
theorem pmk_own0 {x : Str} {p pos : Pos} (F : ExcBaseFacts B newId initId bmB) (q : PySem.W.excIn X.K C bmB newId = true) (gC : X.mg x = some (.ref C)) (kC : PySem.W.keepIn X.K (.ref C) = true) (r : Raises X (.ref C)) (hg : Gl X x)
    (hdb : (x == ("__debug__" : Str)) = false := by decide) : PMk X (.Call (.Name x p) [] [] pos) (fun _ H Q => Q (.ref C) none H) := by
  intro pins s σ H Q I h
  refine wpAny_Call_Name_kw (ld_glob I hg gC ?_ hdb)
  refine PySem.W.callWith_K0 I.kIn kC ?_
  show wpAny _ _ (call (.ref C) []) _ _ _
  obtain ⟨bm, N, nm, qn, bs, hdct, sn, sub, ab, col, dd, k0, k1, k2, k3, k5, mN, hC, hN, hni, T⟩ := exc_obj I.kIn q
  refine wpAny_call_exc_subT F T hC hN hni (fun h' e hm => ?_) (Nat.zero_le _)
  exact mk_of I hm r h (I.hok.gone hm.new)
end
/-- what the top says of an own exception class without own __init__ -/
structure ExcK (K : PySem.W.Frag) (mg : Str → Option Value) (x : Str) : Prop where
  gC : mg x = some (.ref (He.ga K x))
  xC : PySem.W.excIn K (He.ga K x) He.veBase "ValueError.__new__" = true
  kC : PySem.W.keepIn K (.ref (He.ga K x)) = true
  bC : PySem.W.subIn K (.ref (He.ga K x)) (.type "BaseException") = some true
  tC : PySem.W.typeIn K (.ref (He.ga K x)) = some (.type "type")
section
variable {X : Cx} {x : Str} {p pos pos2 : Pos} {W : WX}
theorem ps_raise0 (hc : X.calm = true) (T : ExcK X.K X.mg x) (tk : Takes X W) (hg : Gl X x) (hdb : (x == ("__debug__" : Str)) = false := by decide) :
    PS X (.Raise (some (.Call (.Name x p) [] [] pos)) none pos2) (fun _ σ H => W (.ref (He.ga X.K x)) none σ H) := ps_raise hc tk (pmk_own0 PySem.F.excBase_ValueError T.xC T.gC T.kC (raises_own T.bC T.tC) hg hdb)
end
/-- what isinstance asks of an exception's class, as a test of K -/
def excCB (K : PySem.W.Frag) (D : Addr) : Bool :=
  He.eqO (PySem.W.findIn K (.ref D) "__getattribute__") (some (some (.builtin "BaseException.__getattribute__"))) && (He.eqO (PySem.W.findIn K (.ref D) "__getattr__") (some none) && (decide (PySem.W.subIn K (.ref D) (.type "BaseException") = some true) && (PySem.W.hasDictIn K D && (He.eqO (PySem.W.findIn K (.ref D) "__class__") (some (some (.builtin "object.__class__"))) &&
  (decide (PySem.W.specialIn K (.builtin "object.__class__") "__get__" = some (some (.builtin "getset_descriptor.__get__"))) && (decide (PySem.W.takesIn K (.builtin "object.__class__") = some true) && decide (PySem.W.mroIn K D (.type "object") = some true)))))))
theorem excCB_ok {K : PySem.W.Frag} {D : Addr} (h : excCB K D = true) : ExcC K D := by
  unfold excCB at h
  obtain ⟨h1, h⟩ := He.ba h
  obtain ⟨h2, h⟩ := He.ba h
  obtain ⟨h3, h⟩ := He.ba h
  obtain ⟨h4, h⟩ := He.ba h
  obtain ⟨h5, h⟩ := He.ba h
  obtain ⟨h6, h⟩ := He.ba h
  obtain ⟨h7, h8⟩ := He.ba h
  exact ⟨He.eqO_ok h1, He.eqO_ok h2, of_decide_eq_true h3, h4, He.eqO_ok h5, of_decide_eq_true h6, of_decide_eq_true h7, of_decide_eq_true h8⟩
/-- isinstance(e, c), e the caught exception, of the class at D -/
def rIsEx (K : PySem.W.Frag) (D a : Addr) (cls : Value) (d : Option Addr) : List V → Hp → VK → Prop := fun xs H Q => cls = .ref D ∧ d = none ∧ rIsE K D a xs H Q
theorem call_isEx {X : Cx} {a D : Addr} {oe : Obj} {pn : List (Addr × Obj)} {cls : Value} {d : Option Addr} (C : ExcC X.K D) (hz : Zc cls d oe) (hf : ∃ vs, oe.data = .fields vs) : CallR (X.suite a ((a, oe) :: pn)) (.builtin "isinstance") (rIsEx X.K D a cls d) := by
  intro pins s σ H xs us Q I r h
  obtain ⟨e1, e2, h⟩ := h
  subst e1 e2
  exact call_isE C hz hf pins s σ H xs us Q I r h
theorem rdIsEx {K : PySem.W.Frag} {D a : Addr} {H : Hp} {Q : VK} {c : V} {cv : Value} {b : Bool} (hc : ∀ u, RelV c u → u = cv) (k : PySem.W.kitOne K (.ref D) cv = some b) (q : Q (.bl b) H) : rIsEx K D a (.ref D) none [.ref a, c] H Q := ⟨rfl, rfl, c, cv, b, rfl, hc, k, q⟩
/-! ### words for readings -/
theorem bb_int : bootBuiltins "int" = some (.type "int") := by decide +kernel
theorem bb_abs : bootBuiltins "abs" = some (.builtin "abs") := by decide +kernel
theorem bb_list : bootBuiltins "list" = some (.type "list") := by decide +kernel
theorem bb_len : bootBuiltins "len" = some (.builtin "len") := by decide +kernel
theorem bb_isinstance : bootBuiltins "isinstance" = some (.builtin "isinstance") := by decide +kernel
theorem bb_tuple : bootBuiltins "tuple" = some (.type "tuple") := by decide +kernel
theorem bb_bool : bootBuiltins "bool" = some (.type "bool") := by decide +kernel
theorem bb_str : bootBuiltins "str" = some (.type "str") := by decide +kernel
theorem bb_ValueError : bootBuiltins "ValueError" = some (.type "ValueError") := by decide +kernel
theorem bb_min : bootBuiltins "min" = some (.builtin "min") := by decide +kernel
theorem bb_max : bootBuiltins "max" = some (.builtin "max") := by decide +kernel
theorem bb_sum : bootBuiltins "sum" = some (.builtin "sum") := by decide +kernel
theorem bb_any : bootBuiltins "any" = some (.builtin "any") := by decide +kernel
theorem bb_all : bootBuiltins "all" = some (.builtin "all") := by decide +kernel
theorem bb_sorted : bootBuiltins "sorted" = some (.builtin "sorted") := by decide +kernel
theorem bb_repr : bootBuiltins "repr" = some (.builtin "repr") := by decide +kernel
/-- isinstance of data -/
def tyD : PyData → String
  | .none => "NoneType"
  | .bool _ => "bool"
  | .int _ => "int"
  | .str _ => "str"
  | .list _ => "list"
  | .tuple _ => "tuple"
  | .dict _ => "dict"
theorem tyx {K : PySem.W.Frag} {H : Hp} {v : V} {d : PyData} (h : Dp K H v d) : TyX K H v (.type (tyD d)) := by
  cases h with
  | non => exact .base .non
  | bl b => exact .base (.bl b)
  | int i => exact .base (.int i)
  | str x => exact .base (.str x)
  | lst hs _ =>
    rcases hs with (hs | ⟨o, hs⟩) | ⟨o, its, n, hl, hc, _⟩
    · exact .base (.lst hs)
    · exact .base (.frz hs)
    · exact .kList hl hc
  | tup hs _ =>
    rcases hs with (hs | ⟨o, hs⟩) | ⟨o, its, n, hl, hc, _⟩
    · exact .base (.tup hs)
    · exact .fTuple hs
    · exact .kTuple hl hc
/-- isinstance(x, T): the answer by the data's type -/
theorem isiD {K : PySem.W.Frag} {H : Hp} {v : V} {d : PyData} {T : String} {b : Bool} {Q : VK} (h : Dp K H v d) (k : kitB (tyD d) T = some b) (q : Q (.bl b) H) : rIsi K [v, .ty T] H Q := ⟨v, .ty T, .type (tyD d), .type T, b, rfl, .ty T, tyx h, kit_ty k, q⟩
/-! ### readings, step by step: each name says which construct has come -/
theorem log2_le {x a : Nat} (h : x < 2 ^ a) : x.log2 ≤ a := by
  by_cases ha : a = 0
  · subst ha
    have : x = 0 := by omega
    subst this
    exact Nat.le_of_eq (by decide)
  · exact Nat.le_of_lt (PySem.Flt.log2_lt_of (by omega) h)
theorem mulW {i j : Int} {a b : Nat} (ha : i.natAbs < 2 ^ a) (hb : j.natAbs < 2 ^ b) (h : a + b ≤ 900000) : CMulG i j := .inr <| by
  have h1 := log2_le ha
  have h2 := log2_le hb
  unfold CMulW
  omega
theorem divX {i j : Int} {b : Nat} (h : j ≠ 0) (hb : j.natAbs < 2 ^ b) (h9 : b < 9000) : CDivX i j := ⟨h, Nat.lt_of_le_of_lt (log2_le hb) h9⟩
/-! named readings of built-in calls -/
def rInt1 : List V → Hp → VK → Prop := fun xs H Q => (∃ i, xs = [.int i] ∧ Q (.int i) H) ∨ ∃ k, xs = [.bl k] ∧ Q (.int (if k then 1 else 0)) H
def rStrI : List V → Hp → VK → Prop := fun xs H Q => ∃ i, xs = [.int i] ∧ i.natAbs.log2 < 1920 ∧ Q (.str (toString i)) H
def rMin2 : List V → Hp → VK → Prop := fun xs H Q => ∃ i j, xs = [.int i, .int j] ∧ Q (.int (if j < i then j else i)) H
def rAbs1 : List V → Hp → VK → Prop := fun xs H Q => ∃ i, xs = [.int i] ∧ Q (.int (if i < 0 then -i else i)) H
def rLenS (K : PySem.W.Frag) : List V → Hp → VK → Prop := fun xs H Q => ∃ p ys, xs = [.ref p] ∧ (SqL K H p ys ∨ SqT K H p ys) ∧ Q (.int ys.length) H
def rListOf (K : PySem.W.Frag) : List V → Hp → VK → Prop := fun xs H Q => ∃ p ys, xs = [.ref p] ∧ (SqL K H p ys ∨ SqT K H p ys) ∧ ∀ l, H l = none → Q (.ref l) (upd H l (.lst ys))
section
variable {X : Cx}
theorem cl_int : CallR X (.type "int") rInt1 := call_int1
theorem cl_str : CallR X (.type "str") rStrI := call_str_int
theorem cl_min2 (hc : X.calm = true) : CallR X (.builtin "min") rMin2 := call_min2 hc
theorem cl_abs : CallR X (.builtin "abs") rAbs1 := call_abs
theorem cl_len : CallR X (.builtin "len") (rLenS X.K) := call_len_seq
theorem cl_list : CallR X (.type "list") (rListOf X.K) := call_list_of
end
def rIsN1 : R2 := fun x y H Q => y = .non ∧ Q (.bl (decide (x = .non))) H
def rNotN1 : R2 := fun x y H Q => y = .non ∧ Q (.bl (!decide (x = .non))) H
section
variable {X : Cx}
theorem op_isNo : OpR X (compareOp .Is) rIsN1 := op_isN
theorem op_notNo : OpR X (compareOp .IsNot) rNotN1 := op_notN
end
/-- == and !=: of scalars, or of data -/
def rEqA (K : PySem.W.Frag) : R2 := fun x y H Q => rEq x y H Q ∨ rEqD K x y H Q
def rNeA (K : PySem.W.Frag) : R2 := fun x y H Q => rNe x y H Q ∨ rNeD K x y H Q
section
variable {X : Cx}
theorem op_eqA (hu : X.A.units + 64 < cLine) : OpR X (compareOp .Eq) (rEqA X.K) := fun pins s σ H x y v u Q I rx ry h => h.elim (op_eq pins s σ H x y v u Q I rx ry) (op_eqD hu pins s σ H x y v u Q I rx ry)
theorem op_neA (hu : X.A.units + 64 < cLine) : OpR X (compareOp .NotEq) (rNeA X.K) := fun pins s σ H x y v u Q I rx ry h => h.elim (op_ne pins s σ H x y v u Q I rx ry) (op_neD hu pins s σ H x y v u Q I rx ry)
end
/-! the same rules with the written part named (in a comprehension's element) -/
section
variable {X : Cx} {K : PySem.W.Frag}
theorem ix_seqK (h : X.K = K) : IxR X (rIx K) := by
  subst h
  exact ix_seq
theorem cl_lenK (h : X.K = K) : CallR X (.builtin "len") (rLenS K) := by
  subst h
  exact cl_len
theorem cl_listK (h : X.K = K) : CallR X (.type "list") (rListOf K) := by
  subst h
  exact cl_list
theorem op_eqAK (h : X.K = K) (hu : X.A.units + 64 < cLine) : OpR X (compareOp .Eq) (rEqA K) := by
  subst h
  exact op_eqA hu
theorem op_neAK (h : X.K = K) (hu : X.A.units + 64 < cLine) : OpR X (compareOp .NotEq) (rNeA K) := by
  subst h
  exact op_neA hu
theorem call_isiKK (h : X.K = K) : CallR X (.builtin "isinstance") (rIsi K) := by
  subst h
  exact call_isi
end
/-! a sequence whose first part meets again: what holds behind it is said once -/
def tSeqJ (t u : TS) : TS := fun D σ H => ∀ U : L2.St → Hp → Prop, (∀ σ' H', u D σ' H' → U σ' H') → t { D with nx := U } σ H
theorem pss_consJ {X : Cx} {st : Stmt} {rest : List Stmt} {t u : TS} (h1 : PS X st t) (h2 : PSs X rest u) : PSs X (st :: rest) (tSeqJ t u) := ⟨fun pins s σ H D I h => (pss_cons h1 h2).run pins s σ H D I (h _ fun _ _ x => x)⟩
theorem seqJ {t u : TS} {D : Ends} {σ : L2.St} {H : Hp} (R : L2.St → Hp → Prop) (h1 : ∀ U : L2.St → Hp → Prop, (∀ σ' H', R σ' H' → U σ' H') → t { D with nx := U } σ H) (h2 : ∀ σ' H', R σ' H' → u D σ' H') : tSeqJ t u D σ H := fun U hU => h1 U fun σ' H' r => hU _ _ (h2 σ' H' r)
section
variable {K : PySem.W.Frag} {H : Hp} {Q : VK} {σ : L2.St}
theorem rdV {i : Nat} {v : V} (h : σ[i]? = some (some v)) (q : Q v H) : tVar i σ H Q := ⟨v, h, q⟩
theorem rdAdd {i j : Int} (q : Q (.int (i + j)) H) : rI0 (fun i j => .int (i + j)) (.int i) (.int j) H Q := ⟨i, j, rfl, rfl, q⟩
theorem rdSub {i j : Int} (q : Q (.int (i - j)) H) : rI0 (fun i j => .int (i - j)) (.int i) (.int j) H Q := ⟨i, j, rfl, rfl, q⟩
theorem rdMul {i j : Int} (c : CMulG i j) (q : Q (.int (i * j)) H) : rI CMulG (fun i j => .int (i * j)) (.int i) (.int j) H Q := ⟨i, j, rfl, rfl, c, q⟩
theorem rdDiv {i j : Int} (c : CDivX i j) (q : Q (.int (i.fdiv j)) H) : rI CDivX (fun i j => .int (i.fdiv j)) (.int i) (.int j) H Q := ⟨i, j, rfl, rfl, c, q⟩
theorem rdDivP {i j : Int} {b : Nat} (h : 0 < j) (hb : j.natAbs < 2 ^ b) (h9 : b < 9000) (q : Q (.int (i / j)) H) : rI CDivX (fun i j => .int (i.fdiv j)) (.int i) (.int j) H Q := ⟨i, j, rfl, rfl, divX (by omega) hb h9, by show Q (.int (i.fdiv j)) H; rw [fdiv_pos h]; exact q⟩
theorem rdMod {i j : Int} (c : 0 < j) (q : Q (.int (i % j)) H) : rI (fun _ j => 0 < j) (fun i j => .int (i % j)) (.int i) (.int j) H Q := ⟨i, j, rfl, rfl, c, q⟩
theorem rdNeg {i : Int} (q : Q (.int (-i)) H) : rU (fun i => .int (-i)) (.int i) H Q := ⟨i, rfl, q⟩
theorem rdEqI {i j : Int} (q : Q (.bl (decide (i = j))) H) : rEqA K (.int i) (.int j) H Q := .inl <| ⟨rfl, by
  have e : decide (V.int i = V.int j) = decide (i = j) := by
    rw [dec_int]
    exact Bool.beq_eq_decide_eq ..
  rw [e]
  exact q⟩
theorem rdNeI {i j : Int} (q : Q (.bl (!decide (i = j))) H) : rNeA K (.int i) (.int j) H Q := .inl <| ⟨rfl, by
  have e : decide (V.int i = V.int j) = decide (i = j) := by
    rw [dec_int]
    exact Bool.beq_eq_decide_eq ..
  rw [e]
  exact q⟩
theorem rdLt {i j : Int} (q : Q (.bl (decide (i < j))) H) : rI0 (fun i j => .bl (decide (i < j))) (.int i) (.int j) H Q := ⟨i, j, rfl, rfl, q⟩
theorem rdGt {i j : Int} (q : Q (.bl (decide (j < i))) H) : rI0 (fun i j => .bl (decide (j < i))) (.int i) (.int j) H Q := ⟨i, j, rfl, rfl, q⟩
theorem rdLe {i j : Int} (q : Q (.bl (decide (i ≤ j))) H) : rI0 (fun i j => .bl (decide (i ≤ j))) (.int i) (.int j) H Q := ⟨i, j, rfl, rfl, q⟩
theorem rdGe {i j : Int} (q : Q (.bl (decide (j ≤ i))) H) : rI0 (fun i j => .bl (decide (j ≤ i))) (.int i) (.int j) H Q := ⟨i, j, rfl, rfl, q⟩
theorem rdPow {i j : Int} (c : CPow i j) (q : Q (.int (i ^ j.toNat)) H) : rI CPow (fun i j => .int (i ^ j.toNat)) (.int i) (.int j) H Q := ⟨i, j, rfl, rfl, c, q⟩
theorem rdInt {i : Int} (q : Q (.int i) H) : rInt1 [.int i] H Q := .inl ⟨i, rfl, q⟩
theorem rdMin2 {m n : Nat} (q : Q (.int ((min m n : Nat) : Int)) H) : rMin2 [.int (m : Int), .int (n : Int)] H Q := ⟨_, _, rfl, by
  have e : (if (n : Int) < m then (n : Int) else m) = ((min m n : Nat) : Int) := by split <;> omega
  rw [e]
  exact q⟩
theorem rdStrI {i : Int} {n : Nat} (h : i.natAbs < 2 ^ n) (hn : n < 1920) (q : Q (.str (toString i)) H) : rStrI [.int i] H Q := ⟨i, rfl, Nat.lt_of_le_of_lt (log2_le h) hn, q⟩
theorem rdIntB {b : Bool} (q : Q (.int (if b then 1 else 0)) H) : rInt1 [.bl b] H Q := .inr ⟨b, rfl, q⟩
theorem rdAbs {i : Int} (q : Q (.int (i.natAbs : Int)) H) : rAbs1 [.int i] H Q := ⟨i, rfl, by
  have e : (if i < 0 then -i else i) = (i.natAbs : Int) := by split <;> omega
  rw [e]
  exact q⟩
theorem rdLenT {a : Addr} {xs : List V} (h : SqT K H a xs) (q : Q (.int (xs.length : Int)) H) : rLenS K [.ref a] H Q := ⟨a, xs, rfl, .inr h, q⟩
theorem rdLenL {a : Addr} {xs : List V} (h : SqL K H a xs) (q : Q (.int (xs.length : Int)) H) : rLenS K [.ref a] H Q := ⟨a, xs, rfl, .inl h, q⟩
theorem rdListL {a : Addr} {xs : List V} (h : SqL K H a xs) (q : ∀ l, H l = none → Q (.ref l) (upd H l (.lst xs))) : rListOf K [.ref a] H Q := ⟨a, xs, rfl, .inl h, q⟩
theorem rdListT {a : Addr} {xs : List V} (h : SqT K H a xs) (q : ∀ l, H l = none → Q (.ref l) (upd H l (.lst xs))) : rListOf K [.ref a] H Q := ⟨a, xs, rfl, .inr h, q⟩
theorem rdIxT {a : Addr} {xs : List V} {i : Int} {v : V} (h : SqT K H a xs) (e : atI xs i = some v) (q : Q v H) : rIx K (.ref a) (.int i) H Q := .inr (.inl ⟨a, xs, i, v, rfl, rfl, h, e, q⟩)
theorem rdIxL {a : Addr} {xs : List V} {i : Int} {v : V} (h : SqL K H a xs) (e : atI xs i = some v) (q : Q v H) : rIx K (.ref a) (.int i) H Q := .inl ⟨a, xs, i, v, rfl, rfl, h, e, q⟩
theorem ixFr0 {x : V} {r : Rat} (h : Fr K H x r) (q : Q (.int r.num) H) : rIx K x (.int 0) H Q := by
  obtain ⟨a, rfl, hs⟩ := h.get
  exact rdIxT hs rfl q
theorem ixFr1 {x : V} {r : Rat} (h : Fr K H x r) (q : Q (.int (r.den : Int)) H) : rIx K x (.int 1) H Q := by
  obtain ⟨a, rfl, hs⟩ := h.get
  exact rdIxT hs rfl q
theorem dpPair {x : V} {p q : Int} (h : Dp K H x (.tuple [.int p, .int q])) : ∃ a, x = .ref a ∧ SqT K H a [.int p, .int q] := by
  cases h with
  | tup hs ha =>
    cases ha with
    | cons h1 h2 =>
      cases h2 with
      | cons h2 h3 =>
        cases h3
        cases h1
        cases h2
        exact ⟨_, rfl, hs⟩
theorem ixP0 {x : V} {p z : Int} (h : Dp K H x (.tuple [.int p, .int z])) (q : Q (.int p) H) : rIx K x (.int 0) H Q := by
  obtain ⟨a, rfl, hs⟩ := dpPair h
  exact rdIxT hs rfl q
theorem ixP1 {x : V} {p z : Int} (h : Dp K H x (.tuple [.int p, .int z])) (q : Q (.int z) H) : rIx K x (.int 1) H Q := by
  obtain ⟨a, rfl, hs⟩ := dpPair h
  exact rdIxT hs rfl q
theorem rdGcd {a b : Int} (q : Q (.int ((Nat.gcd a.natAbs b.natAbs : Nat) : Int)) H) : rGcd [.int a, .int b] H Q := ⟨a, b, rfl, q⟩
end
/-! loops, the ends by parts -/
theorem forRange {lo : Int} {n : Nat} {g : TG} {tb : TS} {nx : L2.St → Hp → Prop} {rt : VK} {σ : L2.St} {H : Hp} (Pv : Nat → L2.St → Hp → Prop) (h0 : Pv 0 σ H)
    (hs : ∀ i σ H, i < n → Pv i σ H → g (.int (lo + i)) σ H fun σ2 H2 => tb { nx := Pv (i + 1), rt := rt, ct := Pv (i + 1), bk := nx } σ2 H2) (hd : ∀ σ H, Pv n σ H → nx σ H) :
    ∃ W : Nat → Nat → L2.St → Hp → Prop, (∃ m, W 0 m σ H) ∧ ∀ i m σ H, W i m σ H →
      ((Itr lo n).stop i H ∧ nx σ H) ∨ ((Itr lo n).go i H ∧ ∃ N : L2.St → Hp → Prop, (∀ σ' H', N σ' H' → ∃ m', m' < m ∧ W (i + 1) m' σ' H') ∧ ∀ x H', (Itr lo n).yld i H x H' → g x σ H' fun σ2 H2 => tb { nx := N, rt := rt, ct := N, bk := nx } σ2 H2) :=
  for_range (D := { nx := nx, rt := rt }) Pv h0 hs hd
theorem forList {K : PySem.W.Frag} {a : Addr} {xs : List V} {g : TG} {tb : TS} {nx : L2.St → Hp → Prop} {rt : VK} {σ : L2.St} {H : Hp} (Pv : Nat → L2.St → Hp → Prop) (h0 : Pv 0 σ H) (hl : ∀ i σ H, i ≤ xs.length → Pv i σ H → SqL K H a xs)
    (hs : ∀ i x σ H, xs[i]? = some x → Pv i σ H → g x σ H fun σ2 H2 => tb { nx := Pv (i + 1), rt := rt, ct := Pv (i + 1), bk := nx } σ2 H2) (hd : ∀ σ H, Pv xs.length σ H → nx σ H) :
    ∃ W : Nat → Nat → L2.St → Hp → Prop, (∃ m, W 0 m σ H) ∧ ∀ i m σ H, W i m σ H →
      ((Itl K a).stop i H ∧ nx σ H) ∨ ((Itl K a).go i H ∧ ∃ N : L2.St → Hp → Prop, (∀ σ' H', N σ' H' → ∃ m', m' < m ∧ W (i + 1) m' σ' H') ∧ ∀ x H', (Itl K a).yld i H x H' → g x σ H' fun σ2 H2 => tb { nx := N, rt := rt, ct := N, bk := nx } σ2 H2) :=
  for_list (D := { nx := nx, rt := rt }) Pv h0 hl hs hd
theorem noExc {P : Program} {w : World} {H : Hp} {s : Shared} {e : Value} {s' : Shared} (z : L2.CX P w [] H s (fun _ _ _ => False) e s') : False := by
  obtain ⟨_, _, _, _, _, _, _, _, _, _, _, _, z⟩ := z
  exact z.elim
/-! ### isinstance of data, by the type -/
def dInt : PyData → Bool
  | .int _ => true
  | .bool _ => true
  | _ => false
def dBool : PyData → Bool
  | .bool _ => true
  | _ => false
def dStr : PyData → Bool
  | .str _ => true
  | _ => false
def dTup : PyData → Bool
  | .tuple _ => true
  | _ => false
def dLst : PyData → Bool
  | .list _ => true
  | _ => false
section
variable {K : PySem.W.Frag} {H : Hp} {Q : VK} {v : V} {d : PyData}
theorem isiInt (h : Dp K H v d) (q : Q (.bl (dInt d)) H) : rIsi K [v, .ty "int"] H Q := isiD h (by
  cases h with
  | non => exact (by decide +kernel : kitB "NoneType" "int" = some false)
  | bl b => exact (by decide +kernel : kitB "bool" "int" = some true)
  | int i => exact (by decide +kernel : kitB "int" "int" = some true)
  | str x => exact (by decide +kernel : kitB "str" "int" = some false)
  | lst h1 h2 => exact (by decide +kernel : kitB "list" "int" = some false)
  | tup h1 h2 => exact (by decide +kernel : kitB "tuple" "int" = some false)) q
theorem isiBool (h : Dp K H v d) (q : Q (.bl (dBool d)) H) : rIsi K [v, .ty "bool"] H Q := isiD h (by
  cases h with
  | non => exact (by decide +kernel : kitB "NoneType" "bool" = some false)
  | bl b => exact (by decide +kernel : kitB "bool" "bool" = some true)
  | int i => exact (by decide +kernel : kitB "int" "bool" = some false)
  | str x => exact (by decide +kernel : kitB "str" "bool" = some false)
  | lst h1 h2 => exact (by decide +kernel : kitB "list" "bool" = some false)
  | tup h1 h2 => exact (by decide +kernel : kitB "tuple" "bool" = some false)) q
theorem isiStr (h : Dp K H v d) (q : Q (.bl (dStr d)) H) : rIsi K [v, .ty "str"] H Q := isiD h (by
  cases h with
  | non => exact (by decide +kernel : kitB "NoneType" "str" = some false)
  | bl b => exact (by decide +kernel : kitB "bool" "str" = some false)
  | int i => exact (by decide +kernel : kitB "int" "str" = some false)
  | str x => exact (by decide +kernel : kitB "str" "str" = some true)
  | lst h1 h2 => exact (by decide +kernel : kitB "list" "str" = some false)
  | tup h1 h2 => exact (by decide +kernel : kitB "tuple" "str" = some false)) q
theorem isiTup (h : Dp K H v d) (q : Q (.bl (dTup d)) H) : rIsi K [v, .ty "tuple"] H Q := isiD h (by
  cases h with
  | non => exact (by decide +kernel : kitB "NoneType" "tuple" = some false)
  | bl b => exact (by decide +kernel : kitB "bool" "tuple" = some false)
  | int i => exact (by decide +kernel : kitB "int" "tuple" = some false)
  | str x => exact (by decide +kernel : kitB "str" "tuple" = some false)
  | lst h1 h2 => exact (by decide +kernel : kitB "list" "tuple" = some false)
  | tup h1 h2 => exact (by decide +kernel : kitB "tuple" "tuple" = some true)) q
theorem isiLst (h : Dp K H v d) (q : Q (.bl (dLst d)) H) : rIsi K [v, .ty "list"] H Q := isiD h (by
  cases h with
  | non => exact (by decide +kernel : kitB "NoneType" "list" = some false)
  | bl b => exact (by decide +kernel : kitB "bool" "list" = some false)
  | int i => exact (by decide +kernel : kitB "int" "list" = some false)
  | str x => exact (by decide +kernel : kitB "str" "list" = some false)
  | lst h1 h2 => exact (by decide +kernel : kitB "list" "list" = some true)
  | tup h1 h2 => exact (by decide +kernel : kitB "tuple" "list" = some false)) q
end
def dNon : PyData → Bool
  | .none => true
  | _ => false
section
variable {K : PySem.W.Frag} {H : Hp} {Q : VK} {v : V} {d : PyData}
theorem dNon_eq (h : Dp K H v d) : decide (v = .non) = dNon d := by cases h <;> rfl
theorem rdIsN (h : Dp K H v d) (q : Q (.bl (dNon d)) H) : rIsN1 v .non H Q := ⟨rfl, by rw [dNon_eq h]; exact q⟩
theorem rdNotN (h : Dp K H v d) (q : Q (.bl (!dNon d)) H) : rNotN1 v .non H Q := ⟨rfl, by rw [dNon_eq h]; exact q⟩
theorem rdEqB {i j : Bool} (q : Q (.bl (decide (i = j))) H) : rEqA K (.bl i) (.bl j) H Q := .inl <| ⟨rfl, by
  have e : decide (V.bl i = V.bl j) = decide (i = j) := by
    rw [dec_bl]
    exact Bool.beq_eq_decide_eq ..
  rw [e]
  exact q⟩
theorem rdEqS {i j : Str} (q : Q (.bl (decide (i = j))) H) : rEqA K (.str i) (.str j) H Q := .inl <| ⟨rfl, by
  have e : decide (V.str i = V.str j) = decide (i = j) := by
    rw [dec_str]
    exact Bool.beq_eq_decide_eq ..
  rw [e]
  exact q⟩
theorem rdNeS {i j : Str} (q : Q (.bl (!decide (i = j))) H) : rNeA K (.str i) (.str j) H Q := .inl <| ⟨rfl, by
  have e : decide (V.str i = V.str j) = decide (i = j) := by
    rw [dec_str]
    exact Bool.beq_eq_decide_eq ..
  rw [e]
  exact q⟩
end
/-- a display's reading, by name -/
def rTup : List V → Hp → VK → Prop := fun xs H Q => xs.length ≤ sizeLine ∧ ∀ p, H p = none → Q (.ref p) (upd H p (.tup xs))
def rLst : List V → Hp → VK → Prop := fun xs H Q => xs.length ≤ sizeLine ∧ ∀ p, H p = none → Q (.ref p) (upd H p (.lst xs))
def tTupN (t : TA) : TE := fun σ H Q => t σ H fun xs H1 => rTup xs H1 Q
def tLstN (t : TA) : TE := fun σ H Q => t σ H fun xs H1 => rLst xs H1 Q
/-! displays of data: what is laid is new -/
section
variable {K : PySem.W.Frag} {H : Hp} {Q : VK}
theorem rdTupD {xs : List V} {ds : List PyData} (h : DpAll K H xs ds) (hz : xs.length ≤ sizeLine) (q : ∀ H' v, Same H H' → Dp K H' v (.tuple ds) → Q v H') : rTup xs H Q :=
  ⟨hz, fun p np => q _ _ (sameNew np) (.tup (.inl (.inl upd_same)) (Dp.monoAll (sameNew np) _ _ h))⟩
theorem rdLstD {xs : List V} {ds : List PyData} (h : DpAll K H xs ds) (hz : xs.length ≤ sizeLine) (q : ∀ H' v, Same H H' → Dp K H' v (.list ds) → Q v H') : rLst xs H Q :=
  ⟨hz, fun p np => q _ _ (sameNew np) (.lst (.inl (.inl upd_same)) (Dp.monoAll (sameNew np) _ _ h))⟩
/-- a display, its list tracked -/
theorem rdLstH {xs : List V} (hz : xs.length ≤ sizeLine) (q : ∀ H' p, Same H H' → H p = none → H' p = some (.lst xs) → Q (.ref p) H') : rLst xs H Q :=
  ⟨hz, fun p np => q _ _ (sameNew np) np upd_same⟩
end
section
variable {X : Cx} {es : List Expr} {t : TA} {pos : Pos}
theorem pe_tupN {x1} (h : PA X es t) : PE X (.Tuple es x1 pos) (tTupN t) := pe_tup h
theorem pe_lstN (h : PA X es t) : PE X (.List es pos) (tLstN t) := pe_lst h
end
theorem small_line {n : Nat} (h : n ≤ 1000) : n ≤ sizeLine := Nat.le_of_lt (small1000 h)
theorem dpAll_len {K : PySem.W.Frag} {H : Hp} : ∀ {xs : List V} {ds : List PyData}, DpAll K H xs ds → xs.length = ds.length
  | _, _, .nil => rfl
  | _, _, .cons _ h2 => congrArg Nat.succ (dpAll_len h2)
theorem dpAll_two {K : PySem.W.Frag} {H : Hp} {xs : List V} {ds : List PyData} (h : DpAll K H xs ds) (l : ds.length = 2) : ∃ v1 v2 x y, xs = [v1, v2] ∧ ds = [x, y] ∧ Dp K H v1 x ∧ Dp K H v2 y := by
  match ds, h, l with
  | [x, y], .cons (v := v1) g1 (.cons (v := v2) g2 .nil), _ => exact ⟨v1, v2, x, y, rfl, rfl, g1, g2⟩
theorem dTup_of {K : PySem.W.Frag} {H : Hp} {v : V} {d : PyData} (h : Dp K H v d) (t : dTup d = true) : ∃ a xs ds, v = .ref a ∧ d = .tuple ds ∧ SqT K H a xs ∧ DpAll K H xs ds := by
  cases h with
  | tup h1 h2 => exact ⟨_, _, _, rfl, rfl, h1, h2⟩
  | _ => cases t
theorem dInt_of {K : PySem.W.Frag} {H : Hp} {v : V} {i : Int} (h : Dp K H v (.int i)) : v = .int i := by
  cases h
  rfl
/-- all items, as a conjunction -/
def allP {α : Type} (P : α → Prop) : List α → Prop
  | [] => True
  | x :: xs => P x ∧ allP P xs
theorem allP_get {α : Type} {P : α → Prop} : ∀ {xs : List α} {i : Nat} {x : α}, allP P xs → xs[i]? = some x → P x
  | [], _, _, _, h => by simp at h
  | y :: r, 0, x, a, h => by
    simp at h
    subst h
    exact a.1
  | y :: r, i + 1, x, a, h => allP_get (i := i) a.2 (by simpa using h)
theorem frD_int (p : Int) : frD (Rat.divInt p 1) = .tuple [.int p, .int 1] := by
  unfold frD
  rw [← num_pos (p := p) (q := 1) (by decide), ← den_pos (p := p) (q := 1) (by decide)]
  have e : Nat.gcd p.natAbs (1 : Int).natAbs = 1 := Nat.gcd_one_right _
  rw [e]
  simp
theorem fr_int {K : PySem.W.Frag} {H : Hp} {v : V} {p : Int} (h : Dp K H v (.tuple [.int p, .int 1])) : Fr K H v (Rat.divInt p 1) := by
  unfold Fr
  rw [frD_int]
  exact h
/-- the law's end, for defs that may raise (the wish of the caller: nothing is let out) -/
theorem endOfLaw {l : PySem.W.OpenLaw} {n k : Nat} {q : Program} {loose : List Str} {XP : (Str → Option Value) → Heap → Prop} {YP : World → Heap → Prop} {d : DefRec} {x : Str}
    (most : l.most = some n) (small : n ≤ sizeLine) (plain : d.params.defaults = []) (room : Room k callerA)
    (all : ∀ (w : World) (mg : Str → Option Value) (fa : Addr) (h : Heap), YP w h → h.Ns mainGlobals mg → mg d.name = some (.ref fa) → ∃ (K : PySem.W.Frag) (fd : FuncData) (sp : Sp), K.In h ∧
      (∀ (s : Shared) (u : Value), BindsTo s fd ⟨[u], []⟩ [(x, u)]) ∧ (∀ (H : Hp) (a : Addr) (ns : List Int), ns.length ≤ n → Only H → SqL K H a (ns.map V.int) → sp [.ref a] H (fun v _ => v = .bl true) E0) ∧
      ∀ base : Heap, K.In base → base.Ns mainGlobals mg → FnOk l.prog w K mg base (L2.CX l.prog w) k fa fd [x] sp) :
    PySem.W.WalkO q loose XP YP l.row.toRowW d [] (fun f vs => PySem.call f vs) := by
  refine Att.attach_call most plain fun w sA sB mg mb fa o pm cd doc a vs ns G Y h1 h2 h3 hm ha hi len hg => ?_
  obtain ⟨K, fd, sp, kin, bnd, want, ok⟩ := all w mg fa _ Y G.T.g hm
  refine law_call kin G.T.g G.T.b G.T.builtins G.T.nolimit hg ha hi (Nat.le_trans len small) room ok bnd (fun H o S => want H a ns len o S) fun H e s' => noExc
theorem shaped_fr (r : Rat) : SeqAt.shaped (frD r) = true := rfl
theorem eqv_fr (r s : Rat) : PyData.eqv (frD r) (frD s) = decide (r = s) := by
  have e : PyData.eqv (frD r) (frD s) = ((r.num == s.num) && (((r.den : Int) == (s.den : Int)) && true)) := rfl
  rw [e, Bool.and_true, Bool.eq_iff_iff, decide_eq_true_iff, Bool.and_eq_true, beq_iff_eq, beq_iff_eq]
  exact ⟨fun h => Rat.ext h.1 (by omega), fun h => by rw [h]; exact ⟨rfl, rfl⟩⟩
section
variable {K : PySem.W.Frag} {H : Hp} {Q : VK} {x y : V} {r s : Rat}
theorem rdEqFr (h1 : Fr K H x r) (h2 : Fr K H y s) (q : Q (.bl (decide (r = s))) H) : rEqA K x y H Q := .inr ⟨_, _, h1, h2, shaped_fr r, shaped_fr s, by rw [eqv_fr]; exact q⟩
theorem rdNeFr (h1 : Fr K H x r) (h2 : Fr K H y s) (q : Q (.bl (!decide (r = s))) H) : rNeA K x y H Q := .inr ⟨_, _, h1, h2, shaped_fr r, shaped_fr s, by rw [eqv_fr]; exact q⟩
end
theorem line2 : 2 ≤ sizeLine := by decide
theorem line1 : 1 ≤ sizeLine := by decide
theorem line3 : 3 ≤ sizeLine := by decide
theorem line4 : 4 ≤ sizeLine := by decide
/-- an if whose test is a Bool -/
theorem ifB {b : Bool} {A B : Prop} (h1 : b = true → A) (h2 : b = false → B) : if b = true then A else B := by
  cases b with
  | true => exact h1 rfl
  | false => exact iteF (h2 rfl)
theorem ifBF {b : Bool} {A B : Prop} (h : b = false) (q : B) : if b = true then A else B := by
  rw [h]
  exact iteF q
theorem ifNe {c : Prop} [Decidable c] {A B : Prop} (h : c) (q : B) : if (!decide c) = true then A else B := ifBF (by rw [decide_eq_true h]; rfl) q
theorem ifYes {c : Prop} [Decidable c] {A B : Prop} (h : c) (q : A) : if decide c = true then A else B := by
  rw [decide_eq_true h]
  exact iteT q
theorem ifNo {c : Prop} [Decidable c] {A B : Prop} (h : ¬c) (q : B) : if decide c = true then A else B := by
  rw [decide_eq_false h]
  exact iteF q
theorem ifP {c : Prop} [Decidable c] {A B : Prop} (h : c) (q : A) : if c then A else B := by
  rw [if_pos h]
  exact q
theorem ifN {c : Prop} [Decidable c] {A B : Prop} (h : ¬c) (q : B) : if c then A else B := by
  rw [if_neg h]
  exact q
theorem ifBT {b : Bool} {A B : Prop} (h : b = true) (q : A) : if b = true then A else B := by
  rw [h]
  exact iteT q
theorem ifD {c : Prop} [Decidable c] {A B : Prop} (h1 : c → A) (h2 : ¬c → B) : if decide c = true then A else B := by
  by_cases h : c
  · rw [decide_eq_true h]
    exact h1 h
  · rw [decide_eq_false h]
    exact iteF (h2 h)
end Ub

namespace Ub
open PySem PySem.Spec PyProof.Rows L2 UbM
/-! ### the law's deck: a list [cells, place, rest, seed] -/
/-- all stands but what is at d -/
def But (d : Addr) (H H' : Hp) : Prop := ∀ b o, b ≠ d → H b = some o → H' b = some o
/-- the deck at d, its cells at s -/
def DeckS (H : Hp) (d s : Addr) : Prop := ∃ (ns : List Int) (i r m : Int), H d = some (.lst [.ref s, .int i, .int r, .int m]) ∧ H s = some (.lst (ns.map V.int)) ∧ s ≠ d ∧ 0 ≤ i ∧ ns.length ≤ 63
/-- what a draw leaves: all but the deck's own list; the deck keeps its cells -/
structure SameX (d : Addr) (H H' : Hp) : Prop where
  but : But d H H'
  cells : ∀ s, DeckS H d s → DeckS H' d s
theorem SameX.refl {d : Addr} (H : Hp) : SameX d H H := ⟨fun _ _ _ h => h, fun _ h => h⟩
theorem SameX.trans {d : Addr} {H H1 H2 : Hp} (a : SameX d H H1) (b : SameX d H1 H2) : SameX d H H2 := ⟨fun c o n h => b.but c o n (a.but c o n h), fun s h => b.cells s (a.cells s h)⟩
theorem Same.x {d : Addr} {H H' : Hp} (a : Same H H') : SameX d H H' := ⟨fun b o _ h => a b o h, fun s ⟨ns, i, r, m, h1, h2, h3⟩ => ⟨ns, i, r, m, a _ _ h1, a _ _ h2, h3⟩⟩
theorem but_upd {d : Addr} {H : Hp} {o : HO} : But d H (upd H d o) := fun b x n h => by
  rw [upd_ne n]
  exact h
theorem sameX_deck {d s : Addr} {H : Hp} {i r m : Int} {j t k : Int} (h : H d = some (.lst [.ref s, .int j, .int t, .int k])) (hi : 0 ≤ i) : SameX d H (upd H d (.lst [.ref s, .int i, .int r, .int m])) :=
  ⟨but_upd, fun s' ⟨ns, i', r', m', h1, h2, h3, _, h5⟩ => by
    rw [h] at h1
    cases h1
    exact ⟨ns, i, r, m, upd_same, by rw [upd_ne h3]; exact h2, h3, hi, h5⟩⟩
structure Deck (H : Hp) (d : Addr) : Prop where
  ex : ∃ (s : Addr) (ns : List Int) (i r m : Int), H d = some (.lst [.ref s, .int i, .int r, .int m]) ∧ H s = some (.lst (ns.map V.int)) ∧ s ≠ d ∧ 0 ≤ i ∧ ns.length ≤ 63
theorem Deck.mono {H H' : Hp} {d : Addr} (D : Deck H d) (e : Same H H') : Deck H' d := by
  obtain ⟨s, ns, i, r, m, h1, h2, h3, h4, h5⟩ := D.ex
  exact ⟨s, ns, i, r, m, e _ _ h1, e _ _ h2, h3, h4, h5⟩
/-- no list in it -/
def noL : PyData → Bool
  | .none | .bool _ | .int _ | .str _ => true
  | .list _ | .dict _ => false
  | .tuple ds => decide (ds.length ≤ 1000) && noLs ds
where noLs : List PyData → Bool
  | [] => true
  | d :: ds => noL d && noLs ds
theorem tseqX {K : PySem.W.Frag} {H H' : Hp} {d a : Addr} {xs : List V} (e : But d H H') (hd : ∃ ys, H d = some (.lst ys)) (h : SqT K H a xs) : SqT K H' a xs := by
  obtain ⟨ys, hd⟩ := hd
  rcases h with (h | ⟨o, h⟩) | h
  · exact .inl (.inl (e _ _ (ne_of h hd (by intro z; cases z)) h))
  · exact .inl (.inr ⟨o, e _ _ (ne_of h hd (by intro z; cases z)) h⟩)
  · exact .inr h
mutual
theorem Dp.monoX {K : PySem.W.Frag} {H H' : Hp} {d : Addr} (e : But d H H') (hd : ∃ ys, H d = some (.lst ys)) : ∀ (dt : PyData) (v : V), noL dt = true → Dp K H v dt → Dp K H' v dt
  | .none, _, _, h => by cases h; exact .non
  | .bool b, _, _, h => by cases h; exact .bl b
  | .int i, _, _, h => by cases h; exact .int i
  | .str x, _, _, h => by cases h; exact .str x
  | .list ds, _, n, _ => by
    unfold noL at n
    cases n
  | .tuple ds, _, n, h => by
    cases h with
    | tup hs ha => exact .tup (tseqX e hd hs) (Dp.monoXAll e hd ds _ (by unfold noL at n; exact (Bool.and_eq_true_iff.mp n).2) ha)
  | .dict _, _, _, h => by cases h
theorem Dp.monoXAll {K : PySem.W.Frag} {H H' : Hp} {d : Addr} (e : But d H H') (hd : ∃ ys, H d = some (.lst ys)) : ∀ (ds : List PyData) (vs : List V), noL.noLs ds = true → DpAll K H vs ds → DpAll K H' vs ds
  | [], _, _, h => by cases h; exact .nil
  | dt :: ds, _, n, h => by
    unfold noL.noLs at n
    obtain ⟨n1, n2⟩ := Bool.and_eq_true_iff.mp n
    cases h with
    | cons h1 h2 => exact .cons (Dp.monoX e hd dt _ n1 h1) (Dp.monoXAll e hd ds _ n2 h2)
end
theorem Deck.lst {H : Hp} {d : Addr} (D : Deck H d) : ∃ ys, H d = some (.lst ys) := by
  obtain ⟨s, ns, i, r, m, h1, _⟩ := D.ex
  exact ⟨_, h1⟩
theorem Fr.monoX {K : PySem.W.Frag} {H H' : Hp} {d : Addr} {v : V} {r : Rat} (h : Fr K H v r) (e : SameX d H H') (D : Deck H d) : Fr K H' v r := Dp.monoX e.but D.lst _ _ rfl h
theorem Deck.cells {H : Hp} {d : Addr} (D : Deck H d) : ∃ s, DeckS H d s := by
  obtain ⟨s, ns, i, r, m, h⟩ := D.ex
  exact ⟨s, ns, i, r, m, h⟩
theorem DeckS.deck {H : Hp} {d s : Addr} (h : DeckS H d s) : Deck H d := by
  obtain ⟨ns, i, r, m, h⟩ := h
  exact ⟨s, ns, i, r, m, h⟩
/-- a list that was laid later than the deck is changed: the deck stands -/
theorem DeckS.upd {H H' : Hp} {d s a : Addr} {o : HO} (h0 : DeckS H d s) (h : DeckS H' d s) (ha : H a = none) : DeckS (upd H' a o) d s := by
  obtain ⟨_, _, _, _, g1, g2, _⟩ := h0
  obtain ⟨ns, i, r, m, h1, h2, h3⟩ := h
  exact ⟨ns, i, r, m, by rw [upd_ne (ne_of_none g1 ha)]; exact h1, by rw [upd_ne (ne_of_none g2 ha)]; exact h2, h3⟩
theorem SameX.upd {H H' : Hp} {d a : Addr} {o : HO} (h : SameX d H H') (ha : H a = none) : SameX d H (upd H' a o) := ⟨fun b x n e => by
  rw [upd_ne (ne_of_none e ha)]
  exact h.but _ _ n e, fun s hs => hs.upd (h.cells s hs) ha⟩
section
variable {K : PySem.W.Frag} {H : Hp} {Q : VK}
theorem rdSetL {p : Addr} {xs : List V} {k : Int} {j : Nat} {v : V} {Q : Hp → Prop} (h : H p = some (.lst xs)) (e : ixN xs.length k = some j) (q : Q (upd H p (.lst (xs.set j v)))) : rSetL (.ref p) (.int k) v H Q := ⟨p, xs, k, j, rfl, rfl, h, e, q⟩
theorem rdSetU {p : Addr} {xs : List V} {k : Int} {j : Nat} {v : V} {Q : Hp → Prop} (e : ixN xs.length k = some j) (q : Q (upd H p (.lst (xs.set j v)))) : rSetL (.ref p) (.int k) v (upd H p (.lst xs)) Q := ⟨p, xs, k, j, rfl, rfl, upd_same, e, by rw [upd_upd]; exact q⟩
end
theorem lt_pow {a b : Nat} (h : a ≤ b) : (2 : Nat) ^ a ≤ 2 ^ b := Nat.pow_le_pow_right (by decide) h
end Ub

namespace Ub
open PySem PySem.Spec PyProof.Rows L2 UbM
/-! ### lists of fractions -/
def sumR (rs : List Rat) : Rat := rs.foldl (· + ·) 0
theorem sumR_take {rs : List Rat} {i : Nat} {r : Rat} (h : rs[i]? = some r) : sumR (rs.take (i + 1)) = sumR (rs.take i) + r := by
  unfold sumR
  obtain ⟨hi, e⟩ := List.getElem?_eq_some_iff.mp h
  rw [List.take_succ_eq_append_getElem hi, List.foldl_append, e]
  rfl
theorem bd_zero : Bd 1 (0 : Rat) := ⟨by decide, by decide⟩
theorem bd_sum {n : Nat} : ∀ (rs : List Rat) (m : Nat) (r : Rat), Bd m r → (∀ x ∈ rs, Bd n x) → Bd (m + rs.length * (n + 1)) (rs.foldl (· + ·) r)
  | [], m, r, h, _ => by simpa using h
  | x :: rs, m, r, h, hx => by
    have h1 := bd_sum rs (m + n + 1) (r + x) (bd_add h (hx x (List.mem_cons_self ..))) fun y hy => hx y (List.mem_cons_of_mem _ hy)
    refine h1.mono ?_
    rw [List.length_cons, Nat.succ_mul]
    omega
theorem bd_sumR {n : Nat} {rs : List Rat} (h : ∀ x ∈ rs, Bd n x) : Bd (1 + rs.length * (n + 1)) (sumR rs) := bd_sum rs 1 0 bd_zero h
def dotR (rs ss : List Rat) : Rat := sumR (List.zipWith (· * ·) rs ss)
theorem zip_at {rs ss : List Rat} {i : Nat} {r s : Rat} (h1 : rs[i]? = some r) (h2 : ss[i]? = some s) : (List.zipWith (· * ·) rs ss)[i]? = some (r * s) := by
  rw [List.getElem?_zipWith, h1, h2]
theorem bd_zip {n : Nat} {rs ss : List Rat} (h1 : ∀ x ∈ rs, Bd n x) (h2 : ∀ x ∈ ss, Bd n x) : ∀ x ∈ List.zipWith (· * ·) rs ss, Bd (n + n) x := by
  intro x hx
  obtain ⟨i, hi, e⟩ := List.getElem_of_mem hx
  rw [List.getElem_zipWith] at e
  rw [← e]
  exact bd_mul (h1 _ (List.getElem_mem _)) (h2 _ (List.getElem_mem _))
theorem take_bd {n : Nat} {rs : List Rat} (h : ∀ x ∈ rs, Bd n x) (i : Nat) : ∀ x ∈ rs.take i, Bd n x := fun x hx => h x (List.mem_of_mem_take hx)
/-- the place of the first fraction that no later one is beaten by: w = -1 the least, w = 1 the greatest -/
def pick (w : Int) (rs : List Rat) : Nat → Option Nat
  | 0 => none
  | i + 1 => match pick w rs i with
    | none => some i
    | some j => if cmpR (rs.getD i 0) (rs.getD j 0) = w then some i else some j
theorem pick_lt {w : Int} {rs : List Rat} : ∀ {i j : Nat}, pick w rs i = some j → j < i
  | 0, j, h => by cases h
  | i + 1, j, h => by
    unfold pick at h
    split at h
    · cases h
      omega
    · rename_i j0 e
      have := pick_lt e
      split at h
      · cases h
        omega
      · cases h
        omega
def optV : Option Nat → V
  | none => .non
  | some k => .int (k : Int)
def optD : Option Nat → PyData
  | none => .none
  | some k => .int (k : Int)
theorem dp_opt {K : PySem.W.Frag} {H : Hp} (o : Option Nat) : Dp K H (optV o) (optD o) := by
  cases o with
  | none => exact .non
  | some k => exact .int _
theorem frs_get {K : PySem.W.Frag} {H : Hp} {xs : List V} : ∀ {rs : List Rat} {xs : List V} {i : Nat} {r : Rat}, DpAll K H xs (rs.map frD) → rs[i]? = some r → ∃ v, xs[i]? = some v ∧ Fr K H v r
  | [], _, _, _, _, h => by simp at h
  | r0 :: rs, _, 0, r, .cons h1 _, h => by
    simp at h
    subst h
    exact ⟨_, rfl, h1⟩
  | r0 :: rs, _, i + 1, r, .cons _ h2, h => by
    obtain ⟨v, e, q⟩ := frs_get (xs := []) (i := i) (r := r) h2 (by simpa using h)
    exact ⟨v, by simpa using e, q⟩
theorem frs_at {K : PySem.W.Frag} {H : Hp} : ∀ {rs : List Rat} {xs : List V} {i : Nat} {v : V}, DpAll K H xs (rs.map frD) → xs[i]? = some v → ∃ r, rs[i]? = some r ∧ Fr K H v r
  | [], _, _, _, h, e => by
    cases h
    simp at e
  | r0 :: rs, _, 0, v, .cons h1 _, h => by
    simp at h
    subst h
    exact ⟨_, rfl, h1⟩
  | r0 :: rs, _, i + 1, v, .cons _ h2, h => by
    obtain ⟨r, e, q⟩ := frs_at (i := i) (v := v) h2 (by simpa using h)
    exact ⟨r, by simpa using e, q⟩
/-- v is a list of the fractions rs -/
def Frs (K : PySem.W.Frag) (H : Hp) (v : V) (rs : List Rat) : Prop := Dp K H v (.list (rs.map frD))
theorem Frs.mono {K : PySem.W.Frag} {H H' : Hp} {v : V} {rs : List Rat} (e : Same H H') (h : Frs K H v rs) : Frs K H' v rs := Dp.mono e _ _ h
theorem Frs.get {K : PySem.W.Frag} {H : Hp} {v : V} {rs : List Rat} (h : Frs K H v rs) : ∃ a xs, v = .ref a ∧ SqL K H a xs ∧ DpAll K H xs (rs.map frD) := by
  unfold Frs at h
  cases h with
  | lst h1 h2 => exact ⟨_, _, rfl, h1, h2⟩
theorem frs_len {K : PySem.W.Frag} {H : Hp} {xs : List V} {rs : List Rat} (h : DpAll K H xs (rs.map frD)) : xs.length = rs.length := by
  have := dpAll_len h
  rw [List.length_map] at this
  exact this
theorem canLay_frs : ∀ rs : List Rat, PyData.canLayAll0 (rs.map frD) = true
  | [] => rfl
  | r :: rs => by
    show (PyData.canLay0 (frD r) && PyData.canLayAll0 (rs.map frD)) = true
    rw [canLay_frs rs]
    rfl
theorem depth_frs : ∀ rs : List Rat, PyData.depthAll (rs.map frD) ≤ 1
  | [] => Nat.zero_le _
  | r :: rs => by
    show max (PyData.depth (frD r)) (PyData.depthAll (rs.map frD)) ≤ 1
    have h1 := depth_frs rs
    have h2 : PyData.depth (frD r) = 1 := rfl
    omega
theorem shaped_frs (rs : List Rat) : SeqAt.shaped (.list (rs.map frD)) = true := by
  show (PyData.canLayAll0 (rs.map frD) && decide (PyData.depthAll (rs.map frD) + 1 ≤ 64)) = true
  rw [canLay_frs, decide_eq_true (by have := depth_frs rs; omega)]
  rfl
theorem noL_frs : ∀ rs : List Rat, noL.noLs (rs.map frD) = true
  | [] => rfl
  | r :: rs => by
    show (noL (frD r) && noL.noLs (rs.map frD)) = true
    rw [noL_frs rs]
    rfl
/-- a tracked list of fractions, apart from the deck -/
structure Own (K : PySem.W.Frag) (H : Hp) (d a : Addr) (rs : List Rat) : Prop where
  ex : ∃ xs, H a = some (.lst xs) ∧ a ≠ d ∧ DpAll K H xs (rs.map frD)
theorem Own.frs {K : PySem.W.Frag} {H : Hp} {d a : Addr} {rs : List Rat} (h : Own K H d a rs) : Frs K H (.ref a) rs := by
  obtain ⟨xs, h1, _, h2⟩ := h.ex
  exact .lst (.inl (.inl h1)) h2
theorem Own.monoX {K : PySem.W.Frag} {H H' : Hp} {d a : Addr} {rs : List Rat} (h : Own K H d a rs) (e : SameX d H H') (D : Deck H d) : Own K H' d a rs := by
  obtain ⟨xs, h1, h2, h3⟩ := h.ex
  exact ⟨xs, e.but _ _ h2 h1, h2, Dp.monoXAll e.but D.lst _ _ (noL_frs rs) h3⟩
theorem Own.mono {K : PySem.W.Frag} {H H' : Hp} {d a : Addr} {rs : List Rat} (h : Own K H d a rs) (e : Same H H') : Own K H' d a rs := by
  obtain ⟨xs, h1, h2, h3⟩ := h.ex
  exact ⟨xs, e _ _ h1, h2, Dp.monoAll e _ _ h3⟩
theorem tseq_upd {K : PySem.W.Frag} {H : Hp} {p a : Addr} {xs ys zs : List V} (h : SqT K H a xs) (hp : H p = some (.lst ys)) : SqT K (upd H p (.lst zs)) a xs := by
  rcases h with (h | ⟨o, h⟩) | h
  · exact .inl (.inl (by rw [upd_ne (ne_of h hp (by intro z; cases z))]; exact h))
  · exact .inl (.inr ⟨o, by rw [upd_ne (ne_of h hp (by intro z; cases z))]; exact h⟩)
  · exact .inr h
theorem Own.push {K : PySem.W.Frag} {H : Hp} {d a : Addr} {rs : List Rat} {v : V} {r : Rat} {xs : List V} (h1 : H a = some (.lst xs)) (h2 : a ≠ d) (h3 : DpAll K H xs (rs.map frD)) (hv : Fr K H v r) : Own K (upd H a (.lst (xs ++ [v]))) d a (rs ++ [r]) := by
  refine ⟨_, upd_same, h2, ?_⟩
  have e : But a H (upd H a (.lst (xs ++ [v]))) := but_upd
  have g := Dp.monoXAll e ⟨_, h1⟩ _ _ (noL_frs rs) h3
  have gv := Dp.monoX e ⟨_, h1⟩ (frD r) v rfl hv
  rw [List.map_append]
  exact app g gv
where
  app {K : PySem.W.Frag} {H : Hp} : ∀ {xs : List V} {ds : List PyData} {v : V} {d : PyData}, DpAll K H xs ds → Dp K H v d → DpAll K H (xs ++ [v]) (ds ++ [d])
    | _, _, _, _, .nil, h => .cons h .nil
    | _, _, _, _, .cons h1 h2, h => .cons h1 (app h2 h)
theorem dpAll_snoc {K : PySem.W.Frag} {H : Hp} {xs : List V} {ds : List PyData} {v : V} {d : PyData} (h : DpAll K H xs ds) (h2 : Dp K H v d) : DpAll K H (xs ++ [v]) (ds ++ [d]) := Own.push.app h h2
/-! ### loops over two lists, over a list with its places -/
theorem forZip {K : PySem.W.Frag} {a b : Addr} {xs ys : List V} {g : TG} {tb : TS} {nx : L2.St → Hp → Prop} {rt : VK} {σ : L2.St} {H : Hp} (Pv : Nat → L2.St → Hp → Prop) (h0 : Pv 0 σ H) (hl : ∀ i σ H, Pv i σ H → SqL K H a xs ∧ SqL K H b ys)
    (hs : ∀ i x y σ H T, xs[i]? = some x → ys[i]? = some y → Pv i σ H → H T = none → g (.ref T) σ (upd H T (.tup [x, y])) fun σ2 H2 => tb { nx := Pv (i + 1), rt := rt, ct := Pv (i + 1), bk := nx } σ2 H2) (hd : ∀ σ H, Pv (min xs.length ys.length) σ H → nx σ H) :
    ∃ W : Nat → Nat → L2.St → Hp → Prop, (∃ m, W 0 m σ H) ∧ ∀ i m σ H, W i m σ H →
      ((Itz K a b).stop i H ∧ nx σ H) ∨ ((Itz K a b).go i H ∧ ∃ N : L2.St → Hp → Prop, (∀ σ' H', N σ' H' → ∃ m', m' < m ∧ W (i + 1) m' σ' H') ∧ ∀ x H', (Itz K a b).yld i H x H' → g x σ H' fun σ2 H2 => tb { nx := N, rt := rt, ct := N, bk := nx } σ2 H2) := by
  refine ⟨fun i m σ H => m = min xs.length ys.length - i ∧ i ≤ min xs.length ys.length ∧ Pv i σ H, ⟨_, rfl, Nat.zero_le _, h0⟩, ?_⟩
  rintro i m σ H ⟨rfl, hi, p⟩
  obtain ⟨q1, q2⟩ := hl i σ H p
  by_cases hlt : i < min xs.length ys.length
  · have l1 : i < xs.length := by omega
    have l2 : i < ys.length := by omega
    refine .inr ⟨⟨xs, ys, xs[i], ys[i], q1, q2, List.getElem?_eq_getElem l1, List.getElem?_eq_getElem l2⟩, Pv (i + 1), fun σ' H' p' => ⟨_, ?_, rfl, hlt, p'⟩, fun x H' yl => ?_⟩
    · omega
    · obtain ⟨T, x1, y1, rfl, nT, rfl, f1, f2⟩ := yl
      exact hs i x1 y1 σ H T (f1 _ q1) (f2 _ q2) p nT
  · have e : i = min xs.length ys.length := by omega
    refine .inl ⟨⟨xs, ys, q1, q2, by omega⟩, hd σ H (e ▸ p)⟩
theorem forEnum {K : PySem.W.Frag} {a : Addr} {xs : List V} {g : TG} {tb : TS} {nx : L2.St → Hp → Prop} {rt : VK} {σ : L2.St} {H : Hp} (Pv : Nat → L2.St → Hp → Prop) (h0 : Pv 0 σ H) (hl : ∀ i σ H, Pv i σ H → SqL K H a xs)
    (hs : ∀ i x σ H T, xs[i]? = some x → Pv i σ H → H T = none → g (.ref T) σ (upd H T (.tup [.int (i : Nat), x])) fun σ2 H2 => tb { nx := Pv (i + 1), rt := rt, ct := Pv (i + 1), bk := nx } σ2 H2) (hd : ∀ σ H, Pv xs.length σ H → nx σ H) :
    ∃ W : Nat → Nat → L2.St → Hp → Prop, (∃ m, W 0 m σ H) ∧ ∀ i m σ H, W i m σ H →
      ((Ite K a).stop i H ∧ nx σ H) ∨ ((Ite K a).go i H ∧ ∃ N : L2.St → Hp → Prop, (∀ σ' H', N σ' H' → ∃ m', m' < m ∧ W (i + 1) m' σ' H') ∧ ∀ x H', (Ite K a).yld i H x H' → g x σ H' fun σ2 H2 => tb { nx := N, rt := rt, ct := N, bk := nx } σ2 H2) := by
  refine ⟨fun i m σ H => m = xs.length - i ∧ i ≤ xs.length ∧ Pv i σ H, ⟨_, rfl, Nat.zero_le _, h0⟩, ?_⟩
  rintro i m σ H ⟨rfl, hi, p⟩
  have q1 := hl i σ H p
  by_cases hlt : i < xs.length
  · refine .inr ⟨⟨xs, xs[i], q1, List.getElem?_eq_getElem hlt⟩, Pv (i + 1), fun σ' H' p' => ⟨_, ?_, rfl, hlt, p'⟩, fun x H' yl => ?_⟩
    · omega
    · obtain ⟨T, x1, rfl, nT, rfl, f1⟩ := yl
      exact hs i x1 σ H T (f1 _ q1) p nT
  · have e : i = xs.length := by omega
    refine .inl ⟨⟨xs, q1, by omega⟩, hd σ H (e ▸ p)⟩
end Ub

/-! any, all of a generator expression whose element may call defs: its own frame, its own context. -/
namespace UbG
open PySem PySem.Spec PyProof.Rows L2
/-- the expression's own scope: its names (with their places in N) are local or captured -/
structure GexOk (N : List Str) (sc scope : Scope) (own : List (Str × Nat)) : Prop where
  kind : scope.kind = .function
  co : scope.isCoroutine = false
  nocell : ∀ y ∈ scope.names, y.2 ≠ .cell
  dot : scope.names.lookup (".0" : Str) = some NameKind.local
  uniq : ∀ y ∈ scope.names, scope.names.lookup y.1 = some y.2
  ix : ∀ p ∈ own, N[p.2]? = some p.1
  free : ∀ y ∈ scope.names, y.2 = .free → sc.names.lookup y.1 = some .cell ∨ sc.names.lookup y.1 = some .free
  own : ∀ y ∈ scope.names, y.2 = .local → y.1 ∈ own.map (·.1) ∨ y.1 ∉ N
/-- the context of its frame -/
abbrev gex (X : Cx) (A : Around) (s : Shared) (H : Hp) (genv : Env) (fp : List Addr) (pn : List (Addr × Obj)) : Cx :=
  { X with A := A, s_0 := s, H_0 := H, env := genv, outer := X.stack, stack := genv :: X.stack, ex := fp, fn := fun _ => false, calm := true, pn := pn, xe := fun _ _ => False }
section
variable {X : Cx} {pins : List (Addr × Obj)} {σ : L2.St} {H : Hp} {s : Shared}
theorem Inv.same {s' : Shared} (I : Inv X pins σ H s) (hh : s'.heap = s.heap) (ho : s'.os = s.os) (hb : AllBare s'.gens) : Inv X pins σ H s' :=
  I.call' (ch := []) ho (by rw [hh]; exact Un.kept fun _ _ e => e) (by rw [hh]; exact I.hok) hb fun b z => absurd z (by simp)
theorem Inv.more {s' : Shared} (I : Inv X pins σ H s) (hh : ∀ b o, s.heap.get? b = some o → s'.heap.get? b = some o) (ho : s'.os = s.os) (hb : AllBare s'.gens) : Inv X pins σ H s' :=
  I.call' (ch := []) ho (Un.kept hh) (I.hok.kept hh) hb fun b z => absurd z (by simp)
theorem Inv.nofr (I : Inv X pins σ H s) {b : Addr} (hb : s.heap.objs.size ≤ b) : b ∉ frs X.stack := fun z => by
  rcases List.mem_cons.mp (I.stkSub _ z) with e | e
  · have h1 := I.lt
    rw [← e] at h1
    exact Nat.lt_irrefl _ (Nat.lt_of_lt_of_le h1 hb)
  · exact I.nofs hb e
theorem gex_start {scope : Scope} {own : List (Str × Nat)} {fp : List Addr} {A : Around} {genv : Env} {code : Value} {s5 : Shared} {m : Str → Option Value} {pn : List (Addr × Obj)} (I : Inv X pins σ H s) (ok : GexOk X.N X.env.scope scope own) (hN : X.N.Nodup)
    (hfp : ∀ b ∈ fp, FpOk X pins H b ∧ b < s.heap.objs.size) (hA : A.handled = none) (hfr : A.frames = some (genv :: X.stack)) (hg : genv = genEnv scope (cloFrom X.env.cells scope.names []) s.heap.objs.size code builtinsNs X.env)
    (os : s5.os = s.os) (bare : AllBare s5.gens) (kp : ∀ b o, s.heap.get? b = some o → s5.heap.get? b = some o) (ns : s5.heap.Ns s.heap.objs.size m)
    (hpn : ∀ p ∈ pn, s5.heap.get? p.1 = some p.2 ∧ s.heap.objs.size < p.1 ∧ ∀ v, p.2.data ≠ .cell v) : Inv (gex X A s H genv fp pn) [] (wipe σ (own.map (·.2))) H s5 := by
  have hfree : ∀ y ∈ scope.names, y.2 = .free → ∃ c, X.env.cells.lookup y.1 = some c := fun y hy e => by
    rcases ok.free y hy e with k | k
    · exact I.ok.has _ (.inl k)
    · exact I.ok.has _ (.inr k)
  have hL : genv.locals = s.heap.objs.size := by rw [hg]; rfl
  have hcl : genv.cells = cloFrom X.env.cells scope.names [] := by rw [hg]; rfl
  have hsc : genv.scope = scope := by rw [hg]; rfl
  have cm : ∀ {y c}, genv.cells.lookup y = some c → scope.names.lookup y = some .free ∧ X.env.cells.lookup y = some c ∧ c < s.heap.objs.size := fun {y c} e => by
    rw [hcl] at e
    rcases cloFrom_mem (PySem.mem_of_lookup e) with hm | ⟨h1, rfl⟩
    · cases hm
    · obtain ⟨c, hc⟩ := hfree _ h1 rfl
      rw [hc]
      obtain ⟨w, z⟩ := I.cell _ _ hc
      exact ⟨ok.uniq _ h1, rfl, z.lt⟩
  have look : ∀ {y}, scope.names.lookup y = some .free → ∃ c, genv.cells.lookup y = some c ∧ X.env.cells.lookup y = some c := fun {y} hl => by
    have hy : (y, NameKind.free) ∈ scope.names := PySem.mem_of_lookup hl
    obtain ⟨c', e'⟩ := mem_lookup (cloFrom_has (cells := X.env.cells) (acc := []) hy)
    rw [← hcl] at e'
    exact ⟨c', e', (cm e').2.1⟩
  have okG : (gex X A s H genv fp pn).Ok := by
    refine ⟨I.ok.mod, by show genv.scope.kind = _; rw [hsc]; exact ok.kind, by show genv.globals = _; rw [hg]; exact I.ok.glob, by show genv.builtins = _; rw [hg]; rfl, by show s.heap.objs.size ≤ genv.locals; rw [hL]; exact Nat.le_refl _,
      fun y z c e1 e2 => I.ok.inj y z c (cm e1).2.1 (cm e2).2.1, fun y hy => ?_, fun y c z e => ?_, fun _ => hA, hfr, .inr ⟨rfl, by show genv.frame = some genv.locals; rw [hg]; rfl⟩, fun b hb => ⟨?_, fun y c e z => (hfp b hb).1.2.2.2.2.1 y c (cm e).2.1 z⟩, I.bs, Nat.le_trans I.ok.bsz I.sz, fun b o e hb => ?_, fun b hb z => ?_, I.stack, I.stkFree⟩
    · show ∃ c, genv.cells.lookup y = some c
      rcases hy with hy | hy
      · have hy : genv.scope.names.lookup y = some .cell := hy
        rw [hsc] at hy
        exact absurd rfl (ok.nocell _ (PySem.mem_of_lookup hy))
      · have hy : genv.scope.names.lookup y = some .free := hy
        rw [hsc] at hy
        obtain ⟨c, h1, _⟩ := look hy
        exact ⟨c, h1⟩
    · cases z
    · show b ≠ genv.locals
      rw [hL]; exact Nat.ne_of_lt (hfp b hb).2
    · rcases (hfp b hb).1.2.2.2.1 with z | z
      · exact I.ok.noex b o e z
      · exact absurd (Nat.lt_of_lt_of_le (Heap.lt_size e) (Nat.le_trans I.ok.bsz z)) (Nat.lt_irrefl _)
    · rcases List.mem_cons.mp (I.stkSub b z) with z | z
      · exact (hfp b hb).1.2.1 z
      · exact (hfp b hb).1.2.2.1 z
  refine ⟨okG, os, bare, Un.kept kp, ⟨m, by show Heap.Ns _ genv.locals _; rw [hL]; exact ns, fun i y av e1 e2 e3 => ?_⟩, fun y c e => ?_, ?_, fun y c e => I.freeC y c (cm e).2.1, fun p hp => ?_, I.hok.kept kp, by rw [wipe_length]; exact I.len⟩
  · obtain ⟨e2, hne⟩ := wipe_some e2
    have hfr : scope.names.lookup y = some .free := by
      have e3 : Vis genv.scope y := e3
      rw [hsc] at e3
      rcases e3 with e3 | e3 | e3
      · rcases ok.own _ (PySem.mem_of_lookup e3) rfl with e' | e'
        · obtain ⟨p, hp, hpy⟩ := List.mem_map.mp e'
          have e3 := ok.ix p hp
          have : p.1 = y := hpy
          rw [this] at e3
          exact absurd (List.mem_map.mpr ⟨p, hp, nodup_ix hN e3 e1⟩) hne
        · exact absurd (List.mem_of_getElem? e1) e'
      · exact absurd rfl (ok.nocell _ (PySem.mem_of_lookup e3))
      · exact e3
    obtain ⟨m, hn, hl⟩ := I.loc
    have hvis : Vis X.env.scope y := (ok.free _ (PySem.mem_of_lookup hfr) rfl).elim (fun k => .inr (.inl k)) (fun k => .inr (.inr k))
    obtain ⟨w, r, q⟩ := hl i y av e1 e2 hvis
    refine ⟨w, r, .inr ⟨.inr (by show genv.scope.names.lookup y = _; rw [hsc]; exact hfr), ?_⟩⟩
    obtain ⟨c, h1, h2⟩ := look hfr
    rcases q with ⟨k, _⟩ | ⟨_, c', e', z⟩
    · have k : X.env.scope.names.lookup y = some .local := k
      rcases ok.free _ (PySem.mem_of_lookup hfr) rfl with k' | k' <;> rw [show X.env.scope.names.lookup y = _ from k'] at k <;> cases k
    · rw [h2] at e'; cases e'
      exact ⟨c, h1, z.keeps kp⟩
  · obtain ⟨w, z⟩ := I.cell y c (cm e).2.1
    exact ⟨w, z.keeps kp⟩
  · show H genv.locals = none
    rw [hL]; exact I.hok.fresh (Nat.le_refl _)
  · rw [List.append_nil] at hp
    obtain ⟨h1, h2, h3⟩ := hpn p hp
    refine ⟨h1, I.hok.fresh (Nat.le_of_lt h2), by show p.1 ≠ genv.locals; rw [hL]; exact Nat.ne_of_gt h2, Inv.nofr I (Nat.le_of_lt h2), h3⟩
end
/-- the end of its run -/
def GR (G : Cx) (fp : List Addr) (Qd : Hp → Prop) : GenEnd := fun n s₀ r s₁ => ((r = .ok (.ret .none) ∨ r = .ok .next) ∧ ∃ σ' H', Inv G [] σ' H' s₁ ∧ (∀ b ∈ fp, H' b = none) ∧ Qd H') ∨ ∃ e, r = .error e ∧ False
/-- a truth value is handed out; on stopv nobody asks further -/
def GY (G : Cx) (fp : List Addr) (stopv : Bool) (Qs : Hp → Prop) : Protocol := fun n s₀ v s kap =>
  ∃ b σ' H', v = .bool b ∧ Inv G [] σ' H' s ∧ (∀ b ∈ fp, H' b = none) ∧ (b = stopv → Qs H') ∧ (b ≠ stopv → ∀ s', s'.heap = s.heap → s'.os = s.os → AllBare s'.gens → kap (.send .none) s')
/-- what a turn is to give -/
def Turns (J : It) (g : TG) (te : TE) (vs : List Nat) (σw : L2.St) (stopv : Bool) (Qs Qd : Hp → Prop) (W : Nat → Nat → Hp → Prop) : Prop := ∀ i m H, W i m H →
  (J.stop i H ∧ Qd H) ∨ (J.go i H ∧ ∃ Nx : Hp → Prop, (∀ H', Nx H' → ∃ m', m' < m ∧ W (i + 1) m' H') ∧ ∀ x H', J.yld i H x H' → g x σw H' fun σ2 H2 => wipe σ2 vs = σw ∧ te σ2 H2 fun y H3 => ∃ b, y = .bl b ∧ (b = stopv → Qs H3) ∧ (b ≠ stopv → Nx H3))
theorem seg_gex {G : Cx} {Aw : Around} {tg iter elt : Expr} {scope : Scope} {pos : Pos} {J : It} {fp : List Addr} {it : Addr} {tn : Nat → Heap → Prop} {g : TG} {te : TE} {vs : List Nat} {σw : L2.St} {stopv : Bool} {Qs Qd : Hp → Prop} {W : Nat → Nat → Hp → Prop}
    (T : Turn G.prog G.w G.K tg J fp it tn) (hex : G.ex = fp) (hc : G.calm = true) (hxe : G.xe = fun _ _ => False) (hpn : ∀ b ∈ fp, ∀ p ∈ G.pn, p.1 ≠ b)
    (hA : Aw.over (.compLoop (.GeneratorExp elt [⟨tg, iter, [], 0⟩] scope pos) 0 (.ref it) .none G.env) [] = G.A) (hco : G.env.scope.isCoroutine = false)
    (pg : PG G tg g) (pe : PE G elt te) (turn : Turns J g te vs σw stopv Qs Qd W) :
    ∀ (n i m : Nat) (H : Hp) (s₀ s : Shared), m < n → W i m H → Inv G [] σw H s → tn i s.heap → (∀ b ∈ fp, H b = none) →
      Seg (model G.prog G.w) Aw (GR G fp Qd) (GY G fp stopv Qs) n s₀ (.compLoop (.GeneratorExp elt [⟨tg, iter, [], 0⟩] scope pos) 0 (.ref it) .none G.env)
        ((model G.prog G.w).den (.compLoop (.GeneratorExp elt [⟨tg, iter, [], 0⟩] scope pos) 0 (.ref it) .none G.env)) [] s := by
  have stat : ∀ {σ' : L2.St} {H' : Hp} {s' : Shared}, Inv G [] σ' H' s' → (∀ b ∈ fp, H' b = none) → ∀ b ∈ fp, FpOk G [] H' b := fun {σ' H' s'} I' hn b hb =>
    ⟨hn b hb, (I'.ok.exf b (by rw [hex]; exact hb)).1, I'.ok.exfs b (by rw [hex]; exact hb), .inl (by rw [hex]; exact hb), fun x c e => (I'.ok.exf b (by rw [hex]; exact hb)).2 x c e, fun p hp => by rw [List.append_nil] at hp; exact hpn b hb p hp⟩
  intro n
  induction n with
  | zero => intro i m H s₀ s hm; exact absurd hm (Nat.not_lt_zero _)
  | succ n ih =>
    intro i m H s₀ s hm w0 I st hn
    show Seg _ Aw _ _ _ s₀ _ ((compTurn (.GeneratorExp elt [⟨tg, iter, [], 0⟩] scope pos) 0 (.ref it) .none G.env).onRaise (leaving G.env)) [] s
    rw [compTurn_gen, Sem.onRaise_eq_wrap]
    refine seg_bind_wrap (wpAny_standAt ?_)
    rcases turn i m H w0 with ⟨stop, qd⟩ | ⟨go, Nx, hNx, step⟩
    · refine seg_bind_wrap ?_
      rw [hA]
      refine wpAny_mono (T.done G rfl rfl rfl hc i [] s σw H (fun _ _ => False) I (stat I hn) st stop) (fun r s6 ⟨hr, I6⟩ => ?_) fun _ _ z => z.elim
      subst hr
      exact seg_end (.ok .next) (.inl ⟨.inr rfl, σw, H, I6, hn, qd⟩)
    · refine seg_bind_wrap ?_
      rw [hA]
      refine wpAny_mono (T.item G rfl rfl rfl hc i [] s σw H (fun _ _ => False) I (stat I hn) st go) (fun r s6 ⟨u, hr, h6⟩ => ?_) fun _ _ z => z.elim
      subst hr
      refine seg_bind_wrap ?_
      rw [hA]
      refine wpAny_mono h6 (fun _ s7 ⟨x, H7, I7, r7, y7, st7, n7⟩ => ?_) fun _ _ z => z.elim
      have I7' := I7.pinned (stat I7 n7) (T.obj _ _ st7)
      refine seg_bind_wrap ?_
      rw [hA]
      refine wpAny_mono (pg.run _ s7 _ H7 x u _ I7' r7 (step x H7 y7)) (fun _ s8 ⟨σ8, H8, I8, hw8, q8⟩ => ?_) fun _ _ z => by rw [hxe] at z; exact z.elim
      refine seg_bind_wrap ?_
      simp only [List.forIn_nil]
      refine wpAny_pure ?_
      simp only [if_true]
      have hy : ∀ v, yieldOut G.env v = yieldValue v := fun v => by simp only [yieldOut, hco, Bool.false_eq_true, if_false]
      simp only [hy]
      rw [Sem.bind_eq_wrap', Sem.bind_eq_wrap', Sem.wrap_wrap, Sem.wrap_wrap]
      refine seg_wrap ?_
      rw [hA]
      refine wpAny_mono (pe.run _ s8 σ8 H8 _ I8 q8) (fun y s9 ⟨yv, H9, I9, r9, b, hb, hs, hnx⟩ => ?_) fun _ _ z => by rw [hxe] at z; exact z.elim
      subst hb
      have ey : y = Value.bool b := r9
      subst ey
      have pin' : ∀ b ∈ fp, ∀ o, s7.heap.get? b = some o → s9.heap.get? b = some o ∧ H9 b = none := fun b hb o e =>
        let z := I9.pin (b, o) (List.mem_append_right _ (List.mem_append_right _ (mem_pinsAt hb e)))
        ⟨z.1, z.2.1⟩
      have hl : σw.length = σ8.length := by rw [← hw8, wipe_length]
      have I10 : Inv G [] σw H9 s9 := (I9.unpinned (pins := [])).weak hl fun j v e => by
        rw [← hw8] at e
        exact (wipe_some e).1
      have n10 : ∀ b ∈ fp, H9 b = none := fun b hb => by
        obtain ⟨o, e, _⟩ := T.obj _ _ st7 b hb
        exact (pin' b hb o e).2
      have st10 : tn (i + 1) s9.heap := T.keep _ _ _ st7 fun b hb o e => (pin' b hb o e).1
      refine seg_at (seg_yield rfl rfl rfl ⟨b, σw, H9, rfl, I10, n10, hs, fun nb s' hh ho hbare => ?_⟩)
      obtain ⟨m', hm', w'⟩ := hNx H9 (hnx nb)
      refine seg_again rfl (ih (i + 1) m' H9 s' s' (by omega) w' (Inv.same I10 hh ho hbare) (by rw [hh]; exact st10) n10)
theorem seg_gex0 {G : Cx} {Aw : Around} {tg iter elt : Expr} {scope : Scope} {pos : Pos} {J : It} {fp : List Addr} {it : Addr} {tn : Nat → Heap → Prop} {n : Nat} {s₀ s : Shared} {R : GenEnd} {Y : Protocol}
    (T : Turn G.prog G.w G.K tg J fp it tn) (st : tn 0 s.heap)
    (loop : Seg (model G.prog G.w) Aw R Y n s₀ (.compLoop (.GeneratorExp elt [⟨tg, iter, [], 0⟩] scope pos) 0 (.ref it) .none G.env)
        ((model G.prog G.w).den (.compLoop (.GeneratorExp elt [⟨tg, iter, [], 0⟩] scope pos) 0 (.ref it) .none G.env)) [] s) :
    Seg (model G.prog G.w) Aw R Y n s₀ (.compStart (.GeneratorExp elt [⟨tg, iter, [], 0⟩] scope pos) 0 (.ref it) .none G.env)
        ((model G.prog G.w).den (.compStart (.GeneratorExp elt [⟨tg, iter, [], 0⟩] scope pos) 0 (.ref it) .none G.env)) [] s := by
  show Seg _ Aw _ _ _ s₀ _ ((compStart (.GeneratorExp elt [⟨tg, iter, [], 0⟩] scope pos) 0 (.ref it) .none G.env).onRaise (leaving G.env)) [] s
  unfold compStart
  rw [Sem.onRaise_eq_wrap]
  show Seg _ Aw _ _ _ s₀ _ ((ask >>= _).wrap _ _ _ _) [] s
  refine seg_bind_wrap (wpAny_askSetting ?_)
  split
  · exact seg_again rfl loop
  · first
      | exact seg_bind_wrap (wpAny_rule (seg_bind_wrap (wpAny_standAt (seg_bind_wrap (T.self _ 0 s _ _ st (seg_again rfl loop))))))
      | (refine seg_bind_wrap (wpAny_rule ?_); show Seg _ Aw _ _ _ s₀ _ ((standAt iter.pos >>= _).wrap _ _ _ _) [] s; exact seg_bind_wrap (wpAny_standAt (seg_bind_wrap (T.self _ 0 s _ _ st (seg_again rfl loop)))))
/-- the generator, not begun or asleep, at most n turns left -/
def GAt (G : Cx) (A : Around) (fp : List Addr) (stopv : Bool) (Qs Qd : Hp → Prop) (a : Addr) (g : Nat) (n : Nat) (s : Shared) : Prop :=
  s.heap.IsGen a g ∧ s.heap.NoLimit ∧ AllBare s.gens ∧ ∃ gs, s.gens[g]? = some gs ∧ ∀ s'', s''.heap = s.heap → s''.os = s.os → AllBare s''.gens → gs.Goes (model G.prog G.w) A (GR G fp Qd) (GY G fp stopv Qs) n (.send .none) s''
section
variable {G : Cx} {A : Around} {fp : List Addr} {Qs Qd : Hp → Prop} {a : Addr} {g : Nat} {R : Result → Shared → Prop}
theorem all_loop (hh : A.handled = none) (hd : A.depth < recursionLimit) (hgen : ∀ σ' H' s', Inv G [] σ' H' s' → s'.heap.IsGen a g)
    (hend : ∀ s' σ' H', Inv G [] σ' H' s' → (∀ b ∈ fp, H' b = none) → Qd H' → R (.ok (.ret (.bool true))) s')
    (hstop : ∀ s' σ' H', Inv G [] σ' H' s' → (∀ b ∈ fp, H' b = none) → Qs H' → R (.ok (.ret (.bool false))) s') :
    ∀ (n : Nat) (s : Shared), GAt G A.in1.in1 fp false Qs Qd a g n s → codeAny (model G.prog G.w) A (.builtin "all.loop" ⟨[.ref a], []⟩) R s := by
  have goes : ∀ {gs : GenState} {B : Around} {n : Nat} {r : Resume} {s : Shared}, gs.Goes (model G.prog G.w) B (GR G fp Qd) (GY G fp false Qs) n r s →
      gs.Goes (model G.prog G.w) B (fun n s₀ r s1 => ((r = .ok (.ret .none) ∨ r = .ok .next) ∧ (∃ σ' H', Inv G [] σ' H' s1 ∧ (∀ b ∈ fp, H' b = none) ∧ Qd H')) ∨ ∃ e, r = .error e ∧ (fun (_ : Value) (_ : Shared) => False) e s1) (GY G fp false Qs) n r s := fun h => h
  intro n
  induction n with
  | zero =>
    rintro s ⟨hg, hl, hb, gs, hgs, hgo⟩
    refine codeAny_builtin F.entry_all_loop ?_
    rw [Around.under_plainId F.plain_all_loop _]
    show wpAny _ A.in1 (pyNext (.ref a) >>= _) _ _ s
    refine wpAny_bind (next_genG (A := A.in1) hh hl hd hg hgs (goes (hgo _ rfl rfl (allBare_setGen hb rfl))) (fun v s₁ gs' hbare hv => ?_) (fun s₁ hp h' hk => ?_) fun e s₁ he => he.elim)
    · obtain ⟨b, σ', H', rfl, I', n', hs, hk⟩ := hv
      refine wpAny_bind (wpAny_holding (wpAny_truthy_bool ?_))
      refine wpAny_bind (wpAny_letGo ?_)
      cases b with
      | true => exact (hk (by decide) _ rfl rfl I'.bare).elim
      | false =>
        simp only [Bool.false_eq_true, if_false]
        exact wpAny_bind (wpAny_rule (wpAny_pure (hstop _ σ' H' (Inv.same I' rfl rfl (allBare_setGen I'.bare hbare)) n' (hs rfl))))
    · obtain ⟨σ', H', I', n', hq⟩ := hp
      refine wpAny_bind (wpAny_rule (wpAny_pure ?_))
      exact hend _ σ' H' (Inv.more I' hk rfl (allBare_setGen I'.bare rfl)) n' hq
  | succ n ih =>
    rintro s ⟨hg, hl, hb, gs, hgs, hgo⟩
    have hgl : g < s.gens.size := (Array.getElem?_eq_some_iff.mp hgs).1
    refine codeAny_builtin F.entry_all_loop ?_
    rw [Around.under_plainId F.plain_all_loop _]
    show wpAny _ A.in1 (pyNext (.ref a) >>= _) _ _ s
    refine wpAny_bind (GenW.wpAny_gsz (n := g + 1) hgl (next_genG (A := A.in1) hh hl hd hg hgs (goes (hgo _ rfl rfl (allBare_setGen hb rfl))) (fun v s₁ gs' hbare hv => ?_) (fun s₁ hp h' hk => ?_) fun e s₁ he => he.elim))
    · intro hsz
      obtain ⟨b, σ', H', rfl, I', n', hs, hk⟩ := hv
      refine wpAny_bind (wpAny_holding (wpAny_truthy_bool ?_))
      refine wpAny_bind (wpAny_letGo ?_)
      cases b with
      | true =>
        simp only [if_true]
        have hsz1 : g < s₁.gens.size := by
          have q : (s₁.setGen g gs').gens.size = s₁.gens.size := GenW.setGen_size _ _ _
          have hsz' : g + 1 ≤ (s₁.setGen g gs').gens.size := hsz
          omega
        refine wpAny_pure ⟨plainId_quiet F.plain_all_loop _, ih (s₁.setGen g gs') ⟨hgen σ' H' s₁ I', I'.nolimit, allBare_setGen I'.bare hbare, gs', setGen_at hsz1, fun s'' h1 h2 h3 => ?_⟩⟩
        exact hk (by decide) s'' h1 h2 h3
      | false =>
        simp only [Bool.false_eq_true, if_false]
        exact wpAny_bind (wpAny_rule (wpAny_pure (hstop _ σ' H' (Inv.same I' rfl rfl (allBare_setGen I'.bare hbare)) n' (hs rfl))))
    · intro hsz
      obtain ⟨σ', H', I', n', hq⟩ := hp
      refine wpAny_bind (wpAny_rule (wpAny_pure ?_))
      exact hend _ σ' H' (Inv.more I' hk rfl (allBare_setGen I'.bare rfl)) n' hq
theorem any_loop (hh : A.handled = none) (hd : A.depth < recursionLimit) (hgen : ∀ σ' H' s', Inv G [] σ' H' s' → s'.heap.IsGen a g)
    (hend : ∀ s' σ' H', Inv G [] σ' H' s' → (∀ b ∈ fp, H' b = none) → Qd H' → R (.ok (.ret (.bool false))) s')
    (hstop : ∀ s' σ' H', Inv G [] σ' H' s' → (∀ b ∈ fp, H' b = none) → Qs H' → R (.ok (.ret (.bool true))) s') :
    ∀ (n : Nat) (s : Shared), GAt G A.in1.in1 fp true Qs Qd a g n s → codeAny (model G.prog G.w) A (.builtin "any.loop" ⟨[.ref a], []⟩) R s := by
  have goes : ∀ {gs : GenState} {B : Around} {n : Nat} {r : Resume} {s : Shared}, gs.Goes (model G.prog G.w) B (GR G fp Qd) (GY G fp true Qs) n r s →
      gs.Goes (model G.prog G.w) B (fun n s₀ r s1 => ((r = .ok (.ret .none) ∨ r = .ok .next) ∧ (∃ σ' H', Inv G [] σ' H' s1 ∧ (∀ b ∈ fp, H' b = none) ∧ Qd H')) ∨ ∃ e, r = .error e ∧ (fun (_ : Value) (_ : Shared) => False) e s1) (GY G fp true Qs) n r s := fun h => h
  intro n
  induction n with
  | zero =>
    rintro s ⟨hg, hl, hb, gs, hgs, hgo⟩
    refine codeAny_builtin F.entry_any_loop ?_
    rw [Around.under_plainId F.plain_any_loop _]
    show wpAny _ A.in1 (pyNext (.ref a) >>= _) _ _ s
    refine wpAny_bind (next_genG (A := A.in1) hh hl hd hg hgs (goes (hgo _ rfl rfl (allBare_setGen hb rfl))) (fun v s₁ gs' hbare hv => ?_) (fun s₁ hp h' hk => ?_) fun e s₁ he => he.elim)
    · obtain ⟨b, σ', H', rfl, I', n', hs, hk⟩ := hv
      refine wpAny_bind (wpAny_holding (wpAny_truthy_bool ?_))
      refine wpAny_bind (wpAny_letGo ?_)
      cases b with
      | false => exact (hk (by decide) _ rfl rfl I'.bare).elim
      | true =>
        simp only [if_true]
        exact wpAny_bind (wpAny_rule (wpAny_pure (hstop _ σ' H' (Inv.same I' rfl rfl (allBare_setGen I'.bare hbare)) n' (hs rfl))))
    · obtain ⟨σ', H', I', n', hq⟩ := hp
      refine wpAny_bind (wpAny_rule (wpAny_pure ?_))
      exact hend _ σ' H' (Inv.more I' hk rfl (allBare_setGen I'.bare rfl)) n' hq
  | succ n ih =>
    rintro s ⟨hg, hl, hb, gs, hgs, hgo⟩
    have hgl : g < s.gens.size := (Array.getElem?_eq_some_iff.mp hgs).1
    refine codeAny_builtin F.entry_any_loop ?_
    rw [Around.under_plainId F.plain_any_loop _]
    show wpAny _ A.in1 (pyNext (.ref a) >>= _) _ _ s
    refine wpAny_bind (GenW.wpAny_gsz (n := g + 1) hgl (next_genG (A := A.in1) hh hl hd hg hgs (goes (hgo _ rfl rfl (allBare_setGen hb rfl))) (fun v s₁ gs' hbare hv => ?_) (fun s₁ hp h' hk => ?_) fun e s₁ he => he.elim))
    · intro hsz
      obtain ⟨b, σ', H', rfl, I', n', hs, hk⟩ := hv
      refine wpAny_bind (wpAny_holding (wpAny_truthy_bool ?_))
      refine wpAny_bind (wpAny_letGo ?_)
      cases b with
      | false =>
        simp only [Bool.false_eq_true, if_false]
        have hsz1 : g < s₁.gens.size := by
          have q : (s₁.setGen g gs').gens.size = s₁.gens.size := GenW.setGen_size _ _ _
          have hsz' : g + 1 ≤ (s₁.setGen g gs').gens.size := hsz
          omega
        refine wpAny_pure ⟨plainId_quiet F.plain_any_loop _, ih (s₁.setGen g gs') ⟨hgen σ' H' s₁ I', I'.nolimit, allBare_setGen I'.bare hbare, gs', setGen_at hsz1, fun s'' h1 h2 h3 => ?_⟩⟩
        exact hk (by decide) s'' h1 h2 h3
      | true =>
        simp only [if_true]
        exact wpAny_bind (wpAny_rule (wpAny_pure (hstop _ σ' H' (Inv.same I' rfl rfl (allBare_setGen I'.bare hbare)) n' (hs rfl))))
    · intro hsz
      obtain ⟨σ', H', I', n', hq⟩ := hp
      refine wpAny_bind (wpAny_rule (wpAny_pure ?_))
      exact hend _ σ' H' (Inv.more I' hk rfl (allBare_setGen I'.bare rfl)) n' hq
theorem call_all_gen {G : Cx} {A : Around} {fp : List Addr} {Qs Qd : Hp → Prop} {a : Addr} {g n : Nat} {s : Shared} {Q E : Value → Shared → Prop} (hh : A.handled = none) (hd : A.depth < recursionLimit) (hgen : ∀ σ' H' s', Inv G [] σ' H' s' → s'.heap.IsGen a g)
    (hG : GAt G A.in1.in1 fp false Qs Qd a g n s) (hend : ∀ s' σ' H', Inv G [] σ' H' s' → (∀ b ∈ fp, H' b = none) → Qd H' → Q (.bool true) s')
    (hstop : ∀ s' σ' H', Inv G [] σ' H' s' → (∀ b ∈ fp, H' b = none) → Qs H' → Q (.bool false) s') : wpAny (model G.prog G.w) A (call (.builtin "all") [.ref a]) Q E s := by
  refine call_function_tree F.kind_all F.plain_all F.entry_all (F.args_all1 _) ?_
  unfold Builtin.«all»
  refine wpAny_bind (m := oneArg "all" _) (wpAny_pure ?_)
  refine wpAny_bind (wpAny_pyIter_gen hG.1 ?_)
  exact wpAny_pure ⟨plainId_quiet F.plain_all_loop _, all_loop hh hd hgen hend hstop n s hG⟩
theorem call_any_gen {G : Cx} {A : Around} {fp : List Addr} {Qs Qd : Hp → Prop} {a : Addr} {g n : Nat} {s : Shared} {Q E : Value → Shared → Prop} (hh : A.handled = none) (hd : A.depth < recursionLimit) (hgen : ∀ σ' H' s', Inv G [] σ' H' s' → s'.heap.IsGen a g)
    (hG : GAt G A.in1.in1 fp true Qs Qd a g n s) (hend : ∀ s' σ' H', Inv G [] σ' H' s' → (∀ b ∈ fp, H' b = none) → Qd H' → Q (.bool false) s')
    (hstop : ∀ s' σ' H', Inv G [] σ' H' s' → (∀ b ∈ fp, H' b = none) → Qs H' → Q (.bool true) s') : wpAny (model G.prog G.w) A (call (.builtin "any") [.ref a]) Q E s := by
  refine call_function_tree F.kind_any F.plain_any F.entry_any (F.args_any1 _) ?_
  unfold Builtin.«any»
  refine wpAny_bind (m := oneArg "any" _) (wpAny_pure ?_)
  refine wpAny_bind (wpAny_pyIter_gen hG.1 ?_)
  exact wpAny_pure ⟨plainId_quiet F.plain_any_loop _, any_loop hh hd hgen hend hstop n s hG⟩
end
section
variable {X : Cx} {pins : List (Addr × Obj)} {σ : L2.St} {H : Hp} {s : Shared}
/-- the generator is made -/
theorem gex_made {c P : Addr} {tg elt iter : Expr} {gpos : Pos} {scope : Scope} {own : List (Str × Nat)} {k : Nat} {g : TG} {te : TE} {wi : TI} {stopv : Bool} {Qs Qd : Hp → Prop}
    (hr : Room (k + 1) X.A) (hN : X.N.Nodup) (TB : GxR.TabB X.base X.mg c P) (hcode : X.env.code = .ref c) (ok : GexOk X.N X.env.scope scope own) (hi : PI X tg iter wi)
    (hpe : ∀ (A : Around) (s : Shared) (H : Hp) (C : Addr) (code : Value) (fp : List Addr) (pn : List (Addr × Obj)), Room k A → let G := gex X A s H (genEnv scope (cloFrom X.env.cells scope.names []) C code builtinsNs X.env) fp pn
      PG G tg g ∧ PE G elt te)
    (hs : ∀ v, genFold iter X.env v = pure v) (I : Inv X pins σ H s)
    (h : wi σ H fun J H1 => GxR.TabG H1 P ∧ ∀ H2, GxR.Tabbed P H1 H2 → ∃ W : Nat → Nat → Hp → Prop, (∃ m, W 0 m H2) ∧ Turns J g te (own.map (·.2)) (wipe σ (own.map (·.2))) stopv Qs Qd W) :
    wpAny (model X.prog X.w) X.A (eval (.GeneratorExp elt [⟨tg, iter, [], 0⟩] scope gpos) X.env) (fun v s5 => ∃ (A' : Around) (sG : Shared) (HG : Hp) (genv : Env) (fp : List Addr) (pn : List (Addr × Obj)) (a : Addr) (gn n : Nat),
      v = .ref a ∧ GAt (gex X A' sG HG genv fp pn) X.A.in1.in1 fp stopv Qs Qd a gn n s5 ∧ (∀ σ' H' s', Inv (gex X A' sG HG genv fp pn) [] σ' H' s' → s'.heap.IsGen a gn) ∧
      (∀ σ' H' s', Inv (gex X A' sG HG genv fp pn) [] σ' H' s' → (∀ b ∈ fp, H' b = none) → Inv X pins σ H' s')) X.xe s := by
  have hfree : ∀ y ∈ scope.names, y.2 = .free → ∃ c, X.env.cells.lookup y.1 = some c := fun y hy e => by
    rcases ok.free y hy e with k | k
    · exact I.ok.has _ (.inl k)
    · exact I.ok.has _ (.inr k)
  refine wpAny_GeneratorExp_make ok.co (closure_ok hfree) ok.nocell ok.dot ok.kind (by have := hr.dp; omega) ?_ hs
  refine thn (hi.run pins s σ H _ I h) fun xv s1 hx => thn hx fun itv s2 h2 => ?_
  obtain ⟨it, fp, tn, J, H1, rfl, I2, T, st2, f2, ⟨ps, hP, ht⟩, q⟩ := h2
  have hPs : s2.heap.get? P = some { cls := .none, data := .fields ps } := I2.hok P _ hP
  have cd : PySem.W.CodeHd s2.heap c P := TB.code.keeps I2.bk
  have lim2 : s2.heap.NoLimit := I2.nolimit
  have cont : ∀ (code : Value) (h3 : Heap) (tk : Nat) (ps' : Array Value), Heap.ExtBut P s2.heap h3 → s2.heap.objs.size ≤ h3.objs.size → h3.get? P = some { cls := .none, data := .fields ps' } → (∃ more, ps' = ps ++ more) → TriplesOk ps'.toList →
      wpAny (model X.prog X.w) X.A (builtinsFor X.env.globals X.env.builtins) (fun bi s₄ =>
        ∀ h', h'.Ns s₄.heap.objs.size (fun y => if y = ".0" then some (.ref it) else none) → Heap.SameBut s₄.heap.objs.size (s₄.heap.push { cls := .type "frame", data := .dict #[] }) h' →
          (fun v s5 => ∃ (A' : Around) (sG : Shared) (HG : Hp) (genv : Env) (fp : List Addr) (pn : List (Addr × Obj)) (a : Addr) (gn n : Nat),
            v = .ref a ∧ GAt (gex X A' sG HG genv fp pn) X.A.in1.in1 fp stopv Qs Qd a gn n s5 ∧ (∀ σ' H' s', Inv (gex X A' sG HG genv fp pn) [] σ' H' s' → s'.heap.IsGen a gn) ∧
            (∀ σ' H' s', Inv (gex X A' sG HG genv fp pn) [] σ' H' s' → (∀ b ∈ fp, H' b = none) → Inv X pins σ H' s')) (Value.ref h'.objs.size) { s₄ with
            gens := s₄.gens.push (.fresh (.compStart (.GeneratorExp elt [⟨tg, iter, [], 0⟩] scope gpos) 0 (.ref it) .none (genEnv scope (cloFrom X.env.cells scope.names []) s₄.heap.objs.size code bi X.env))),
            toks := s₄.toks + 1 + 1 + 1,
            heap := h'.push { cls := .type "generator", data := .fields #[.int s₄.gens.size 0, .str "<genexpr>" (s₄.toks + 1), .str (X.env.qual ++ "<genexpr>") (s₄.toks + 1 + 1)] } }) X.xe { s2 with heap := h3, toks := tk } := by
    intro code h3 tk ps' hx hsz hP3 ⟨more, hmore⟩ ht3
    subst hmore
    obtain ⟨bm, ob, e1, e2, e3, e4, e5, e6, e7, e8⟩ := TB.bm
    have keep3 : ∀ b u, b ≠ P → s2.heap.get? b = some u → h3.get? b = some u := fun b u hb e => hx b u hb e
    refine wpAny_builtinsFor (m := X.mg) (by rw [I2.ok.glob]; exact (I2.mod.glob.keeps I2.bk).extBut hx TB.gP) e1 e2 (keep3 _ _ e4 (I2.bk _ _ e5)) e6 e7 e8 ?_
    intro h' hn' hs'
    have I3 : Inv X pins σ (upd H1 P (.tbl (ps ++ more))) { s2 with heap := h3, toks := tk } := GxR.inv_tab (g' := s2.gens) (d' := s2.drawn) I2 hP keep3 hP3 I2.bare
    have hT2 : GxR.Tabbed P H1 (upd H1 P (.tbl (ps ++ more))) := ⟨⟨ps ++ more, upd_same, ht3⟩, fun b hb => upd_ne hb⟩
    obtain ⟨W, ⟨m0, w0⟩, turn⟩ := q _ hT2
    have hsz' : h'.objs.size = h3.objs.size + 1 := by rw [hs'.1, Heap.size_push]
    have keep' : ∀ b o, h3.get? b = some o → h'.get? b = some o := fun b o e => hs'.extBut b o (Nat.ne_of_lt (Heap.lt_size e)) (Heap.get?_push_of_some _ e)
    have nP : ∀ b ∈ fp, b ≠ P := fun b hb z => by
      have := (f2 b hb).1
      rw [z, hP] at this
      cases this
    have sz : ∀ b ∈ fp, b < h3.objs.size := fun b hb => by
      obtain ⟨o, e, _⟩ := T.obj _ _ st2 b hb
      exact Heap.lt_size (keep3 b o (nP b hb) e)
    have f3 : ∀ b ∈ fp, FpOk X pins (upd H1 P (.tbl (ps ++ more))) b ∧ b < ({ s2 with heap := h3, toks := tk } : Shared).heap.objs.size := fun b hb =>
      ⟨⟨by rw [upd_ne (nP b hb)]; exact (f2 b hb).1, (f2 b hb).2⟩, sz b hb⟩
    generalize hgo : ({ cls := .type "generator", data := .fields #[.int s2.gens.size 0, .str "<genexpr>" (tk + 1), .str (X.env.qual ++ "<genexpr>") (tk + 1 + 1)] } : Obj) = go
    have hgen : ∀ h : Heap, h.get? h'.objs.size = some go → h.IsGen h'.objs.size s2.gens.size := fun h e => ⟨go, _, _, e, by rw [← hgo], by rw [← hgo], by rw [← hgo]⟩
    have hpush : (h'.push go).get? h'.objs.size = some go := by
      rw [← hgo]
      exact Heap.get?_push_size _ rfl
    have hgd : ∀ v, go.data ≠ .cell v := fun v z => by rw [← hgo] at z; cases z
    have keep5 : ∀ b o, h3.get? b = some o → (h'.push go).get? b = some o := fun b o e => Heap.get?_push_of_some _ (keep' b o e)
    have st5 : tn 0 (h'.push go) := T.keep _ _ _ st2 fun b hb o e => keep5 b o (keep3 b o (nP b hb) e)
    obtain ⟨genv, hge⟩ : ∃ genv, genv = genEnv scope (cloFrom X.env.cells scope.names []) h3.objs.size code builtinsNs X.env := ⟨_, rfl⟩
    obtain ⟨A', hA'⟩ : ∃ A', A' = X.A.in1.in1.over (.compLoop (.GeneratorExp elt [⟨tg, iter, [], 0⟩] scope gpos) 0 (.ref it) .none genv) [] := ⟨_, rfl⟩
    have roomA : Room k A' := by
      rw [hA']
      refine ⟨hr.hd, ?_, ?_⟩
      · have := hr.dp
        show X.A.depth + 1 + 3 * k + 5 < _
        omega
      · have := hr.un
        show X.A.units + 1 + 1 + 3 + 16 * k + 200 < _
        omega
    have frA : A'.frames = some (genv :: X.stack) := by
      rw [hA']
      show pushEnvs [genv] X.A.frames = _
      rw [I.ok.frames]
      rfl
    obtain ⟨pg, pe⟩ := hpe A' { s2 with heap := h3, toks := tk } (upd H1 P (.tbl (ps ++ more))) h3.objs.size code fp [(h'.objs.size, go)] roomA
    rw [← hge] at pg pe
    have lim5 : (h'.push go).NoLimit := I3.nolimit.keeps keep5
    refine ⟨A', { s2 with heap := h3, toks := tk }, upd H1 P (.tbl (ps ++ more)), genv, fp, [(h'.objs.size, go)], h'.objs.size, s2.gens.size, m0 + 1, rfl, ?_, fun σ' H' s' I' => hgen _ (I'.pin (h'.objs.size, go) (List.mem_append_left _ (List.mem_singleton.mpr rfl))).1, fun σ' H' s' I' n' => ?_⟩
    · refine ⟨hgen _ hpush, lim5, AllBare.push I2.bare rfl, _, Array.getElem?_push_size .., fun s'' hh ho hb => ⟨rfl, ?_⟩⟩
      show Seg _ _ _ _ _ _ (.compStart (.GeneratorExp elt [⟨tg, iter, [], 0⟩] scope gpos) 0 (.ref it) .none (genEnv scope (cloFrom X.env.cells scope.names []) h3.objs.size code builtinsNs X.env)) _ _ _
      rw [← hge]
      have IG : Inv (gex X A' { s2 with heap := h3, toks := tk } (upd H1 P (.tbl (ps ++ more))) genv fp [(h'.objs.size, go)]) [] (wipe σ (own.map (·.2))) (upd H1 P (.tbl (ps ++ more))) s'' := by
        refine gex_start (m := fun y => if y = ".0" then some (.ref it) else none) I3 ok hN f3 (by rw [hA']; exact hr.hd) frA hge ho hb (by rw [hh]; exact keep5) (by rw [hh]; exact hn'.push _) fun p hp => ?_
        rw [List.mem_singleton.mp hp, hh]
        refine ⟨hpush, ?_, hgd⟩
        show h3.objs.size < h'.objs.size
        omega
      refine seg_gex0 (G := gex X A' { s2 with heap := h3, toks := tk } (upd H1 P (.tbl (ps ++ more))) genv fp [(h'.objs.size, go)]) T (by rw [hh]; exact st5) ?_
      refine seg_gex (G := gex X A' { s2 with heap := h3, toks := tk } (upd H1 P (.tbl (ps ++ more))) genv fp [(h'.objs.size, go)]) T rfl rfl rfl (fun b hb p hp => ?_) hA'.symm (by show genv.scope.isCoroutine = false; rw [hge]; exact ok.co) pg pe turn (m0 + 1) 0 m0 _ _ _ (Nat.lt_succ_self _) w0 IG (by rw [hh]; exact st5) fun b hb => (f3 b hb).1.1
      rw [List.mem_singleton.mp hp]
      show h'.objs.size ≠ b
      exact Nat.ne_of_gt (by rw [hsz']; exact Nat.lt_succ_of_lt (sz b hb))
    · exact I3.call' (ch := fp) I'.os I'.base I'.hok I'.bare fun b hb => ⟨(f3 b hb).1.2.2.2.1, (f3 b hb).1.2.1, (f3 b hb).1.2.2.2.2.1, (f3 b hb).1.2.2.2.2.2⟩
  refine ⟨lim2, ?_⟩
  cases hf : codeAmong gpos ps.toList with
  | none =>
    refine wpAny_genexprCodeX hcode (cd.code hPs ht) (cd.tab hPs) hf fun c' h' tk hx hge hlt hco' _ htab' _ => ?_
    obtain ⟨o1, vs, f1, tf, fl, tg, inF, tx, tt, op, _, _, _, _, _, _, _, _, _, htr, _⟩ := hco'
    exact cont _ h' tk _ hx (Nat.le_trans hge (Nat.le_of_lt hlt)) htab'.2 ⟨_, rfl⟩ htr
  | some cv =>
    refine wpAny_genexprCode_hit hcode (cd.code hPs ht) hf ?_
    exact cont cv s2.heap s2.toks ps (Heap.ExtBut.refl _ _) (Nat.le_refl _) hPs ⟨#[], by simp⟩ ht
/-- all(test for tg in iter), any(..): behind it the def's table may have grown -/
def tAllG (P : Addr) (wi : TI) (g : TG) (te : TE) (vs : List Nat) : TE := fun σ H Q => wi σ H fun J H1 => GxR.TabG H1 P ∧ ∀ H2, GxR.Tabbed P H1 H2 → ∃ W : Nat → Nat → Hp → Prop, (∃ m, W 0 m H2) ∧ Turns J g te vs (wipe σ vs) false (fun H' => Q (.bl false) H') (fun H' => Q (.bl true) H') W
def tAnyG (P : Addr) (wi : TI) (g : TG) (te : TE) (vs : List Nat) : TE := fun σ H Q => wi σ H fun J H1 => GxR.TabG H1 P ∧ ∀ H2, GxR.Tabbed P H1 H2 → ∃ W : Nat → Nat → Hp → Prop, (∃ m, W 0 m H2) ∧ Turns J g te vs (wipe σ vs) true (fun H' => Q (.bl true) H') (fun H' => Q (.bl false) H') W
section
variable {c P : Addr} {tg elt iter : Expr} {p pos gpos : Pos} {scope : Scope} {own : List (Str × Nat)} {k : Nat} {g : TG} {te : TE} {wi : TI}
theorem pe_allG (hr : Room (k + 1) X.A) (hN : X.N.Nodup) (hg : Gl X "all") (hm : X.mg "all" = none) (hb : bootBuiltins "all" = some (.builtin "all")) (TB : GxR.TabB X.base X.mg c P) (hcode : X.env.code = .ref c) (ok : GexOk X.N X.env.scope scope own) (hi : PI X tg iter wi)
    (hpe : ∀ (A : Around) (s : Shared) (H : Hp) (C : Addr) (code : Value) (fp : List Addr) (pn : List (Addr × Obj)), Room k A → let G := gex X A s H (genEnv scope (cloFrom X.env.cells scope.names []) C code builtinsNs X.env) fp pn
      PG G tg g ∧ PE G elt te)
    (hs : ∀ v, genFold iter X.env v = pure v)
    (he : starEach [.GeneratorExp elt [⟨tg, iter, [], 0⟩] scope gpos] X.env = (false, eval (.GeneratorExp elt [⟨tg, iter, [], 0⟩] scope gpos) X.env) :: starEach [] X.env := by rfl) :
    PE X (.Call (.Name "all" p) [.GeneratorExp elt [⟨tg, iter, [], 0⟩] scope gpos] [] pos) (tAllG P wi g te (own.map (·.2))) := by
  refine ⟨fun pins s σ H Q I h => ?_⟩
  refine wpAny_Call_Name_kw (ld_blt I hg hm hb ?_)
  refine PyProof.Rows.callWith_builtin1 ?_ he (by rfl)
  rw [he]
  show wpAny _ _ (spliced ((false, eval (.GeneratorExp elt [⟨tg, iter, [], 0⟩] scope gpos) X.env) :: backTo pos (starEach [] X.env))) _ _ s
  refine Calls.spliced_cons (thn (gex_made (stopv := false) hr hN TB hcode ok hi hpe hs I h) fun v s5 ⟨A', sG, HG, genv, fp, pn, a, gn, n, hv, hG, hgen, back⟩ => ?_)
  subst hv
  refine Calls.spliced_nil ?_
  exact call_all_gen (G := gex X A' sG HG genv fp pn) hr.hd (by have := hr.dp; omega) hgen hG (fun s' σ' H' I' n' q => ⟨.bl true, H', back σ' H' s' I' n', rfl, q⟩) fun s' σ' H' I' n' q => ⟨.bl false, H', back σ' H' s' I' n', rfl, q⟩
theorem pe_anyG (hr : Room (k + 1) X.A) (hN : X.N.Nodup) (hg : Gl X "any") (hm : X.mg "any" = none) (hb : bootBuiltins "any" = some (.builtin "any")) (TB : GxR.TabB X.base X.mg c P) (hcode : X.env.code = .ref c) (ok : GexOk X.N X.env.scope scope own) (hi : PI X tg iter wi)
    (hpe : ∀ (A : Around) (s : Shared) (H : Hp) (C : Addr) (code : Value) (fp : List Addr) (pn : List (Addr × Obj)), Room k A → let G := gex X A s H (genEnv scope (cloFrom X.env.cells scope.names []) C code builtinsNs X.env) fp pn
      PG G tg g ∧ PE G elt te)
    (hs : ∀ v, genFold iter X.env v = pure v)
    (he : starEach [.GeneratorExp elt [⟨tg, iter, [], 0⟩] scope gpos] X.env = (false, eval (.GeneratorExp elt [⟨tg, iter, [], 0⟩] scope gpos) X.env) :: starEach [] X.env := by rfl) :
    PE X (.Call (.Name "any" p) [.GeneratorExp elt [⟨tg, iter, [], 0⟩] scope gpos] [] pos) (tAnyG P wi g te (own.map (·.2))) := by
  refine ⟨fun pins s σ H Q I h => ?_⟩
  refine wpAny_Call_Name_kw (ld_blt I hg hm hb ?_)
  refine PyProof.Rows.callWith_builtin1 ?_ he (by rfl)
  rw [he]
  show wpAny _ _ (spliced ((false, eval (.GeneratorExp elt [⟨tg, iter, [], 0⟩] scope gpos) X.env) :: backTo pos (starEach [] X.env))) _ _ s
  refine Calls.spliced_cons (thn (gex_made (stopv := true) hr hN TB hcode ok hi hpe hs I h) fun v s5 ⟨A', sG, HG, genv, fp, pn, a, gn, n, hv, hG, hgen, back⟩ => ?_)
  subst hv
  refine Calls.spliced_nil ?_
  exact call_any_gen (G := gex X A' sG HG genv fp pn) hr.hd (by have := hr.dp; omega) hgen hG (fun s' σ' H' I' n' q => ⟨.bl false, H', back σ' H' s' I' n', rfl, q⟩) fun s' σ' H' I' n' q => ⟨.bl true, H', back σ' H' s' I' n', rfl, q⟩
end
end
/-! ### heaps: the defs' tables may grow -/
structure SameT (H H' : Hp) : Prop where
  but : ∀ b o, H b = some o → (∀ ps, o ≠ .tbl ps) → H' b = some o
  tab : ∀ P, GxR.TabG H P → GxR.TabG H' P
theorem SameT.refl (H : Hp) : SameT H H := ⟨fun _ _ h _ => h, fun _ h => h⟩
theorem SameT.trans {H H1 H2 : Hp} (a : SameT H H1) (b : SameT H1 H2) : SameT H H2 := ⟨fun c o h n => b.but c o (a.but c o h n) n, fun P h => b.tab P (a.tab P h)⟩
theorem TabG.mono {H H' : Hp} {P : Addr} (e : Same H H') (h : GxR.TabG H P) : GxR.TabG H' P := by
  obtain ⟨ps, h1, h2⟩ := h
  exact ⟨ps, e _ _ h1, h2⟩
theorem sameT {H H' : Hp} (e : Same H H') : SameT H H' := ⟨fun b o h _ => e b o h, fun _ h => TabG.mono e h⟩
theorem tabbedT {H H' : Hp} {P : Addr} (hP : GxR.TabG H P) (t : GxR.Tabbed P H H') : SameT H H' := by
  obtain ⟨ps, h1, h2⟩ := hP
  refine ⟨fun b o h n => ?_, fun Q h => ?_⟩
  · rw [t.2 b fun z => by rw [z, h1] at h; cases h; exact n ps rfl]
    exact h
  · by_cases hQ : Q = P
    · rw [hQ]
      exact t.1
    · obtain ⟨qs, g1, g2⟩ := h
      exact ⟨qs, by rw [t.2 Q hQ]; exact g1, g2⟩
section
variable {K : PySem.W.Frag} {H H' : Hp}
theorem SameT.seq {a : Addr} {xs : List V} (e : SameT H H') (h : SqL K H a xs) : SqL K H' a xs := by
  rcases h with (h | ⟨o, h⟩) | h
  · exact .inl (.inl (e.but _ _ h fun _ z => by cases z))
  · exact .inl (.inr ⟨o, e.but _ _ h fun _ z => by cases z⟩)
  · exact .inr h
theorem SameT.tseq {a : Addr} {xs : List V} (e : SameT H H') (h : SqT K H a xs) : SqT K H' a xs := by
  rcases h with (h | ⟨o, h⟩) | h
  · exact .inl (.inl (e.but _ _ h fun _ z => by cases z))
  · exact .inl (.inr ⟨o, e.but _ _ h fun _ z => by cases z⟩)
  · exact .inr h
mutual
theorem Dp.monoT (e : SameT H H') : ∀ (d : PyData) (v : V), Dp K H v d → Dp K H' v d
  | .none, _, h => by cases h; exact .non
  | .bool b, _, h => by cases h; exact .bl b
  | .int i, _, h => by cases h; exact .int i
  | .str x, _, h => by cases h; exact .str x
  | .list ds, _, h => by
    cases h with
    | lst hs ha => exact .lst (SameT.seq e hs) (Dp.monoTAll e ds _ ha)
  | .tuple ds, _, h => by
    cases h with
    | tup hs ha => exact .tup (SameT.tseq e hs) (Dp.monoTAll e ds _ ha)
  | .dict _, _, h => by cases h
theorem Dp.monoTAll (e : SameT H H') : ∀ (ds : List PyData) (vs : List V), DpAll K H vs ds → DpAll K H' vs ds
  | [], _, h => by cases h; exact .nil
  | d :: ds, _, h => by
    cases h with
    | cons h1 h2 => exact .cons (Dp.monoT e d _ h1) (Dp.monoTAll e ds _ h2)
end
theorem Fr.monoT {v : V} {r : Rat} (e : SameT H H') (h : Ub.Fr K H v r) : Ub.Fr K H' v r := Dp.monoT e _ _ h
theorem Frs.monoT {v : V} {rs : List Rat} (e : SameT H H') (h : Ub.Frs K H v rs) : Ub.Frs K H' v rs := Dp.monoT e _ _ h
end
/-! ### turns over a list, a range, two lists -/
section
variable {K : PySem.W.Frag} {g : TG} {te : TE} {vs : List Nat} {σw : L2.St} {stopv : Bool} {Qs Qd : Hp → Prop} {H2 : Hp}
theorem turnsL {a : Addr} {xs : List V} (Pv : Nat → Hp → Prop) (h0 : Pv 0 H2) (hl : ∀ i H, i ≤ xs.length → Pv i H → SqL K H a xs)
    (hs : ∀ i x H, xs[i]? = some x → Pv i H → g x σw H fun σ2 H2 => wipe σ2 vs = σw ∧ te σ2 H2 fun y H3 => ∃ b, y = .bl b ∧ (b = stopv → Qs H3) ∧ (b ≠ stopv → Pv (i + 1) H3)) (hd : ∀ H, Pv xs.length H → Qd H) :
    ∃ W : Nat → Nat → Hp → Prop, (∃ m, W 0 m H2) ∧ Turns (Itl K a) g te vs σw stopv Qs Qd W := by
  refine ⟨fun i m H => m = xs.length - i ∧ i ≤ xs.length ∧ Pv i H, ⟨xs.length, by simp, Nat.zero_le _, h0⟩, ?_⟩
  rintro i m H ⟨rfl, hi, p⟩
  have q := hl i H hi p
  by_cases hlt : i < xs.length
  · refine .inr ⟨⟨xs, xs[i], q, by simp [hlt]⟩, Pv (i + 1), fun H' p' => ⟨xs.length - (i + 1), by omega, rfl, hlt, p'⟩, fun x H' y => ?_⟩
    obtain ⟨e, y⟩ := y
    subst e
    exact hs i x _ (y xs q) p
  · have e : i = xs.length := by omega
    subst e
    exact .inl ⟨⟨xs, q, Nat.le_refl _⟩, hd H p⟩
theorem turnsZ {a c : Addr} {xs ys : List V} (Pv : Nat → Hp → Prop) (h0 : Pv 0 H2) (hl : ∀ i H, Pv i H → SqL K H a xs ∧ SqL K H c ys)
    (hs : ∀ i x y T H, xs[i]? = some x → ys[i]? = some y → H T = none → Pv i H → g (.ref T) σw (upd H T (.tup [x, y])) fun σ2 H2 => wipe σ2 vs = σw ∧ te σ2 H2 fun y H3 => ∃ b, y = .bl b ∧ (b = stopv → Qs H3) ∧ (b ≠ stopv → Pv (i + 1) H3)) (hd : ∀ H, Pv (min xs.length ys.length) H → Qd H) :
    ∃ W : Nat → Nat → Hp → Prop, (∃ m, W 0 m H2) ∧ Turns (Itz K a c) g te vs σw stopv Qs Qd W := by
  refine ⟨fun i m H => m = min xs.length ys.length - i ∧ i ≤ min xs.length ys.length ∧ Pv i H, ⟨min xs.length ys.length, by simp, Nat.zero_le _, h0⟩, ?_⟩
  rintro i m H ⟨rfl, hi, p⟩
  obtain ⟨q1, q2⟩ := hl i H p
  by_cases hlt : i < min xs.length ys.length
  · have h1 : i < xs.length := by omega
    have h2 : i < ys.length := by omega
    refine .inr ⟨⟨xs, ys, xs[i], ys[i], q1, q2, by simp [h1], by simp [h2]⟩, Pv (i + 1), fun H' p' => ⟨min xs.length ys.length - (i + 1), by omega, rfl, by omega, p'⟩, fun v H' y => ?_⟩
    obtain ⟨T, x, y, rfl, nT, rfl, hx, hy⟩ := y
    exact hs i x y T H (hx xs q1) (hy ys q2) nT p
  · have e : i = min xs.length ys.length := by omega
    subst e
    exact .inl ⟨⟨xs, ys, q1, q2, by omega⟩, hd H p⟩
end
/-! ### defs with a table, the law's end -/
def dT (x : String) : He.Defn := (Str.ofString x, none)
section
variable {P : Program} {w : World} {K : PySem.W.Frag} {mg : Str → Option Value} {base : Heap} {x qual : Str} {params : Arguments} {body : List Stmt} {scope : Scope} {dvs : List V} {kws : List (Str × V)} {f : Addr} {fd : FuncData}
theorem FunD.okT {CX : CXT} {N ps : List Str} {k : Nat} {sp : Sp} {p : He.Defn} (F : FunD K x qual params body scope dvs kws f fd) (hf : f = He.fAd K p) (S : FnScope N ps scope) (len : ∀ vs H Q E, sp vs H Q E → vs.length = ps.length)
    (hbody : ∀ (A : Around) (outer : List Env) (s : Shared) (H : Hp) (vs : List V) (Q : VK) (E : XK), Room k (A.deeper (envOfC qual scope s.heap.objs.size f (.ref (He.cT K p).1))) → sp vs H Q E →
      ∃ t, PSs (cxOf CX P w K mg base N qual scope f (.ref (He.cT K p).1) A outer s H E) body t ∧ t { nx := fun _ H' => Q .non H', rt := Q } (start N vs) H) : FnOk P w K mg base CX (k + 1) f fd ps sp := by
  obtain ⟨oc, od, dV, kV, doc, pm, an, cdv, ct, osl, rfl, lk, hcd, _, _⟩ := F.ex
  obtain ⟨c, hc⟩ := He.codeIn_ref hcd
  subst hc
  have e : (He.cT K p).1 = c := He.codeOf_eq (by rw [← hf]; exact lk) rfl
  refine fn_of lk hcd S len fun A outer s H vs Q E hr hsp => ?_
  have h := hbody A outer s H vs Q E (by rw [e]; exact hr) hsp
  rw [e] at h
  exact h
end
theorem endOfLawT {l : PySem.W.OpenLaw} {n k : Nat} {q : Program} {loose : List Str} {XP : (Str → Option Value) → Heap → Prop} {YP : World → Heap → Prop} {d : DefRec} {x : Str}
    (most : l.most = some n) (small : n ≤ sizeLine) (plain : d.params.defaults = []) (room : Room k callerA) (tf : List He.Defn)
    (all : ∀ (w : World) (mg : Str → Option Value) (fa : Addr) (h : Heap), YP w h → h.Ns mainGlobals mg → mg d.name = some (.ref fa) → ∃ (K : PySem.W.Frag) (fd : FuncData) (sp : Sp), K.In h ∧
      (∀ p ∈ tf, PySem.W.codeHdIn K (He.cT K p).1 (He.cT K p).2 = true) ∧ (∀ p ∈ tf, K.lookup (He.cT K p).2 = none) ∧ (∀ p ∈ tf, h.get? (He.cT K p).2 = some { cls := .none, data := .fields #[] }) ∧
      (∀ (s : Shared) (u : Value), BindsTo s fd ⟨[u], []⟩ [(x, u)]) ∧ (∀ (H : Hp) (a : Addr) (ns : List Int), ns.length ≤ n → (∀ z ∈ ns, Builtin.Int.intBits z ≤ 1048576) → (∀ p ∈ tf, GxR.TabG H (He.cT K p).2) → SqL K H a (ns.map V.int) → sp [.ref a] H (fun v _ => v = .bl true) E0) ∧
      ∀ base : Heap, K.In base → base.Ns mainGlobals mg → (∀ p ∈ tf, GxR.TabB base mg (He.cT K p).1 (He.cT K p).2) → FnOk l.prog w K mg base (L2.CX l.prog w) k fa fd [x] sp) :
    PySem.W.WalkO q loose XP YP l.row.toRowW d [] (fun f vs => PySem.call f vs) := by
  refine LamX.walk_ofTsE (CX := fun w => L2.CX l.prog w) (x := x) most small plain room (fun w mg fa h Y hn hm => ?_) fun w H s e s' z => Ub.noExc z
  obtain ⟨K, fd, sp, kin, hd, out, emp, bnd, want, ok⟩ := all w mg fa h Y hn hm
  refine ⟨K, kin, fd, tf.map (He.cT K), sp, fun p hp => ?_, fun p hp => ?_, fun p hp => ?_, bnd, fun H a ns hl hb hT hS => want H a ns hl hb (fun p hp => ?_) hS, fun base k2 g2 tb => ok base k2 g2 fun p hp => ?_⟩
  · obtain ⟨q, hq, rfl⟩ := List.mem_map.mp hp
    exact emp q hq
  · obtain ⟨q, hq, rfl⟩ := List.mem_map.mp hp
    exact out q hq
  · obtain ⟨q, hq, rfl⟩ := List.mem_map.mp hp
    exact PySem.W.codeHd_of_K kin (hd q hq)
  · exact ⟨#[], hT _ (List.mem_map.mpr ⟨p, hp, rfl⟩), True.intro⟩
  · obtain ⟨a, b, c⟩ := tb _ (List.mem_map.mpr ⟨p, hp, rfl⟩)
    exact ⟨a, b, c⟩
def gexC (N : List Str) (sc scope : Scope) (own : List (Str × Nat)) : Bool :=
  decide (scope.kind = .function) && (decide (scope.isCoroutine = false) && (scope.names.all (fun y => decide (y.2 ≠ .cell)) && (decide (scope.names.lookup (".0" : Str) = some NameKind.local) && (scope.names.all (fun y => decide (scope.names.lookup y.1 = some y.2)) &&
    (own.all (fun p => decide (N[p.2]? = some p.1)) && (scope.names.all (fun y => decide (y.2 = .free → (sc.names.lookup y.1 = some .cell ∨ sc.names.lookup y.1 = some .free))) && scope.names.all (fun y => decide (y.2 = .local → (y.1 ∈ own.map (·.1) ∨ y.1 ∉ N)))))))))
theorem gexOk_by {N : List Str} {sc scope : Scope} {own : List (Str × Nat)} (h : gexC N sc scope own = true) : GexOk N sc scope own := by
  unfold gexC at h
  simp only [Bool.and_eq_true, List.all_eq_true, decide_eq_true_eq] at h
  obtain ⟨h1, h2, h3, h4, h5, h6, h7, h8⟩ := h
  exact ⟨h1, h2, h3, h4, h5, h6, h7, h8⟩
theorem bb_all : bootBuiltins "all" = some (.builtin "all") := by kernel_rfl
theorem bb_any : bootBuiltins "any" = some (.builtin "any") := by kernel_rfl
/-! ### list(reversed(x)), x a list -/
section
open RT
variable {prog : Program} {w : World} {A : Around} {E : Value → Shared → Prop} {s : Shared}
theorem call_list_revI {it l : Addr} {items : Array Value} {Q : Value → Shared → Prop} (hh : A.handled = none) (hit : s.heap.IsRevIter it l ((items.size : Int) - 1)) (hl : s.heap.IsList l items) (hne : l ≠ it) (hn : items.size ≤ sizeLine)
    (hQ : ∀ (h' : Heap) (tk : Nat) (acc : Array Value) (c' : Nat), (∀ b o, b ≠ it → s.heap.get? b = some o → h'.get? b = some o) → h'.get? s.heap.objs.size = some (lstObj acc c') → ItemsOf (fun i v => items[items.size - 1 - i]? = some v) acc items.size → Q (.ref s.heap.objs.size) { s with heap := h', toks := tk }) :
    wpAny (model prog w) A (call (.type "list") [.ref it]) Q E s := by
  have W := (Walks.listRev (prog := prog) (w := w) (A := A.in1.in1) hh it l hne items).toS
  obtain ⟨oi, hoi, _⟩ := id hit
  obtain ⟨ol, hol, _⟩ := id hl
  have hSi : s.heap.objs.size ≠ it := Nat.ne_of_gt (Heap.lt_size hoi)
  have hSl : s.heap.objs.size ≠ l := Nat.ne_of_gt (Heap.lt_size hol)
  have hSf : s.heap.objs.size ∉ [it, l] := by simp only [List.mem_cons, List.not_mem_nil, or_false, not_or]; exact ⟨hSi, hSl⟩
  refine callType_codes (Q₁ := fun obj s₁ => obj = .ref s.heap.objs.size ∧ s₁ = { s with heap := s.heap.push { cls := .type "list", data := .seq #[] } }) F.called_list (F.typeCall_list_1 _) F.entry_list_init
    (code_list_new _ ⟨rfl, rfl⟩) fun obj s₁ h₁ => ?_
  obtain ⟨rfl, rfl⟩ := h₁
  have hS : (s.heap.push { cls := .type "list", data := .seq #[] }).get? s.heap.objs.size = some { cls := .type "list", data := .seq #[] } := Heap.get?_push_size _ rfl
  refine ⟨⟨_, hS, rfl⟩, F.args_list_init_2 _ _, ?_⟩
  show wpAny _ A.in1.in1 (do let old ← Builtin.List.listItems (.ref s.heap.objs.size); Builtin.List.listUpdate (.ref s.heap.objs.size) (fun _ => #[]); letGo old.toList.reverse; Builtin.List.listExtendWith (.ref s.heap.objs.size) (.ref it) .none) _ _ _
  refine wpAny_bind ?_
  unfold Builtin.List.listItems
  refine wpAny_bind (wpAny_seqItems hS rfl (wpAny_pure ?_))
  show wpAny _ A.in1.in1 (updateSeq s.heap.objs.size (fun _ => #[]) >>= fun _ => letGo (#[] : Array Value).toList.reverse >>= fun _ => Builtin.List.listExtendWith (.ref s.heap.objs.size) (.ref it) .none) _ _ _
  refine wpAny_bind (wpAny_updateSeq hS rfl ?_)
  have hS2 := Heap.get?_update_self (Obj.mapSeq (fun _ => (#[] : Array Value))) hS rfl
  refine wpAny_bind (wpAny_letGo ?_)
  have kp : ∀ b o, s.heap.get? b = some o → ((s.heap.push { cls := .type "list", data := .seq #[] }).update s.heap.objs.size (Obj.mapSeq (fun _ => (#[] : Array Value)))).get? b = some o := fun b o e =>
    (Heap.get?_update_other _ _ (Ne.symm (Nat.ne_of_lt (Heap.lt_size e)))).trans (Heap.get?_push_of_some _ e)
  generalize ((s.heap.push { cls := .type "list", data := .seq #[] }).update s.heap.objs.size (Obj.mapSeq (fun _ => (#[] : Array Value)))) = h2 at hS2 kp ⊢
  have hit1 : h2.IsRevIter it l ((items.size : Int) - 1) := hit.at fun o e => kp it o e
  have hl1 : h2.IsList l items := hl.at fun o e => kp l o e
  have hT : ({ s with heap := h2 } : Shared).TypeIs (.ref it) "list_reverseiterator" := Heap.IsRevIter.typeIs (s := { s with heap := h2 }) hit1
  have h1 : Builtin.List.listSameRef (.ref s.heap.objs.size) (.ref it) = false := by simp [Builtin.List.listSameRef, hSi]
  unfold Builtin.List.listExtendWith
  refine wpAny_bind (wpAny_typeOf hT ?_)
  rw [if_neg (by rw [h1]; decide)]
  refine wpAny_bind (wpAny_pyIter_revIter (s := { s with heap := h2 }) hit1 ?_)
  refine wpAny_bind (wpAny_holding ?_)
  unfold Builtin.List.listLengthHint
  refine wpAny_bind (wpAny_specialOf hT nolen_lri ?_)
  show wpAny _ A.in1.in1 (specialOf (Value.ref it) (Str.ofString "__length_hint__") >>= _) _ _ _
  refine wpAny_bind (wpAny_specialOf hT hint_lri ?_)
  generalize hid : ("list_reverseiterator.__length_hint__" : String) = id0
  wp_delta
  rw [show splitId id0 = some ("list_reverseiterator", "__length_hint__") from by subst hid; decide +kernel]
  subst hid
  refine wpAny_bind (wpAny_isInstance (b := true) hT (by rw [isSubtype_type]; kernel_rfl) ?_)
  refine wpAny_pure ?_
  rw [if_neg (by decide)]
  have e0 : ((items.size : Nat) : Int) - 1 - ((0 : Nat) : Int) = (items.size : Int) - 1 := by omega
  refine wpAny_pure ⟨plainId_quiet F.plain_extend_loop _, codeAny_extend_loopS W hn _ hSf _ items.size 0 _ _ _ rfl (Nat.zero_le _) ⟨Nat.zero_le _, by rw [e0]; exact hit1, hl1⟩ hS2 (ItemsOf.nil _) fun s' acc' c' hm hS' hacc => ?_⟩
  rw [Moved.eq_with hm]
  refine ⟨rfl, hQ s'.heap s'.toks acc' c' (fun b o hb e => hm.heap b o (fun hmem => ?_) (kp b o e)) hS' hacc⟩
  rcases List.mem_cons.mp hmem with e' | hmem
  · exact absurd (Heap.lt_size e) (by rw [e']; exact Nat.lt_irrefl _)
  · exact hb (List.mem_singleton.mp hmem)
end
def tListRev (K : PySem.W.Frag) (te : TE) : TE := fun σ H Q => te σ H fun v H1 => ∃ (a : Addr) (xs : List V), v = .ref a ∧ SqL K H1 a xs ∧ ∀ q, H1 q = none → Q (.ref q) (upd H1 q (.lst xs.reverse))
theorem pe_listRev {X : Cx} {e : Expr} {te : TE} {p p2 pos pos2 : Pos} (hc : X.calm = true) (hg : Gl X "list") (hm : X.mg "list" = none) (hb : bootBuiltins "list" = some (.type "list")) (hg2 : Gl X "reversed") (hm2 : X.mg "reversed" = none) (he : PE X e te)
    (hs : starEach [e] X.env = (false, eval e X.env) :: starEach [] X.env := by rfl)
    (hs2 : starEach [.Call (.Name "reversed" p2) [e] [] pos2] X.env = (false, eval (.Call (.Name "reversed" p2) [e] [] pos2) X.env) :: starEach [] X.env := by rfl) :
    PE X (.Call (.Name "list" p) [.Call (.Name "reversed" p2) [e] [] pos2] [] pos) (tListRev X.K te) := by
  refine ⟨fun pins s σ H Q I h => ?_⟩
  refine Call_ (ld_blt I hg hm hb (PyProof.Rows.callWith_type1 (args_cons (Call_ (ld_blt I hg2 hm2 PyProof.Rows.boot_reversed (PyProof.Rows.callWith_type1 (args_cons (thn (he.run pins s σ H _ I h) fun u s1 ⟨v, H1, I1, r1, q1⟩ => args_nil ?_) hs) hs rfl))) hs2) hs2 rfl))
  obtain ⟨a, xs, ev, hq, q⟩ := q1
  subst ev
  obtain rfl : u = Value.ref a := r1
  obtain ⟨its, rv, p', hz⟩ := I1.list hq
  refine call_reversed_list p'.isList (args_nil ?_)
  have k0 : ∀ b o, s1.heap.get? b = some o → (s1.heap.push (revObj a ((its.toArray.size : Int) - 1))).get? b = some o := fun b o e => Heap.get?_push_of_some _ e
  have I2 : L2.Inv X pins σ H1 { s1 with heap := s1.heap.push (revObj a ((its.toArray.size : Int) - 1)) } := I1.kept (t' := s1.toks) k0
  obtain ⟨f0, f1, f2, f3, f4, f5⟩ := I1.fpOk (H' := H1) (b := s1.heap.objs.size) (Nat.le_refl _) (I1.hok.fresh (Nat.le_refl _))
  have hl := p'.isList
  obtain ⟨ol, hol, _⟩ := id hl
  have hne : a ≠ s1.heap.objs.size := Nat.ne_of_lt (Heap.lt_size hol)
  have hn : its.toArray.size ≤ sizeLine := by rw [List.size_toArray, ← rv.length]; exact hz
  refine call_list_revI (s := { s1 with heap := s1.heap.push (revObj a ((its.toArray.size : Int) - 1)) }) (I1.ok.hd hc) ⟨_, Heap.get?_push_size _ rfl, rfl, rfl⟩ (hl.push _) hne hn fun h' tk acc c' hk hS hi => ?_
  have I3 : L2.Inv X pins σ H1 { s1 with heap := h', toks := tk } := I2.turned (t' := tk) (fun b o hb e => hk b o hb e) f0 f1 f3 f4 f5
  have nS : H1 (s1.heap.push (revObj a ((its.toArray.size : Int) - 1))).objs.size = none := I2.hok.fresh (Nat.le_refl _)
  refine ⟨.ref (s1.heap.push (revObj a ((its.toArray.size : Int) - 1))).objs.size, upd H1 _ (.lst xs.reverse), Inv.drained (sc := { s1 with heap := s1.heap.push (revObj a ((its.toArray.size : Int) - 1)) }) (ex := [s1.heap.objs.size]) I2 (Nat.le_refl _) (by rw [List.length_reverse]; exact hz) hS (RT.vals_rev rv hi) ?_ rfl I1.bare ?_ I3.hok nS, rfl, q _ nS⟩
  · intro b hb
    rw [List.mem_singleton.mp hb]
    exact ⟨f3, f1, f4, f5⟩
  · refine ⟨fun b o e n hb hx => hk b o (fun z => hx (List.mem_singleton.mpr z)) e, fun b o e n hb hx => ⟨o.slots, hk b o (fun z => hx (List.mem_singleton.mpr z)) e⟩, fun b o e n hx => n, fun b o e hx => ⟨o, hk b o (fun z => hx (List.mem_singleton.mpr z)) e⟩, fun _ _ z => z, fun _ _ _ z => z, fun b ps z => ⟨#[], by rw [z]; simp⟩⟩
/-- isinstance of an exception that has one of two classes -/
def rIsEx2 (K : PySem.W.Frag) (D1 D2 a : Addr) (cls : Value) (d : Option Addr) : List V → Hp → VK → Prop := fun xs H Q => Ub.rIsEx K D1 a cls d xs H Q ∨ Ub.rIsEx K D2 a cls d xs H Q
theorem call_isEx2 {X : Cx} {a D1 D2 : Addr} {oe : Obj} {pn : List (Addr × Obj)} {cls : Value} {d : Option Addr} (C1 : ExcC X.K D1) (C2 : ExcC X.K D2) (hz : Zc cls d oe) (hf : ∃ vs, oe.data = .fields vs) : CallR (X.suite a ((a, oe) :: pn)) (.builtin "isinstance") (rIsEx2 X.K D1 D2 a cls d) := by
  intro pins s σ H xs us Q I r h
  exact h.elim (Ub.call_isEx C1 hz hf pins s σ H xs us Q I r) (Ub.call_isEx C2 hz hf pins s σ H xs us Q I r)
/-- what is never reached needs no rule -/
def tNo : TS := fun _ _ _ => False
def tNoE : TE := fun _ _ _ => False
theorem ps_no {X : Cx} {st : Stmt} : PS X st tNo := ⟨fun _ _ _ _ _ _ h => h.elim⟩
theorem pe_no {X : Cx} {e : Expr} : PE X e tNoE := ⟨fun _ _ _ _ _ _ h => h.elim⟩
end UbG

namespace UbR
open PySem PySem.Spec PyProof.Rows L2 UbM Ub
/-! ### lists that change: all other data stand apart from them -/
/-- the heap without the cells in S -/
def wo (S : List Addr) (H : Hp) : Hp := fun b => if b ∈ S then none else H b
theorem wo_in {S : List Addr} {H : Hp} {b : Addr} {o : HO} (h : wo S H b = some o) : b ∉ S ∧ H b = some o := by
  unfold wo at h
  by_cases hb : b ∈ S
  · rw [if_pos hb] at h
    cases h
  · rw [if_neg hb] at h
    exact ⟨hb, h⟩
theorem wo_out {S : List Addr} {H : Hp} {b : Addr} (hb : b ∉ S) : wo S H b = H b := by
  unfold wo
  rw [if_neg hb]
theorem wo_same {S : List Addr} {H : Hp} : Same (wo S H) H := fun b o h => (wo_in h).2
theorem wo_upd {S : List Addr} {H : Hp} {a : Addr} {o : HO} (ha : a ∈ S) : wo S (upd H a o) = wo S H := by
  funext b
  unfold wo
  by_cases hb : b ∈ S
  · rw [if_pos hb, if_pos hb]
  · rw [if_neg hb, if_neg hb, upd_ne (show b ≠ a from fun z => hb (by rw [z]; exact ha))]
theorem wo_sub {S S' : List Addr} {H : Hp} (h : ∀ s ∈ S, s ∈ S') : Same (wo S' H) (wo S H) := fun b o e => by
  obtain ⟨h1, h2⟩ := wo_in e
  rw [wo_out fun z => h1 (h b z)]
  exact h2
/-- all stands but the lists in S; tables may grow -/
structure SameS (S : List Addr) (H H' : Hp) : Prop where
  but : ∀ b o, b ∉ S → H b = some o → (∀ ps, o ≠ .tbl ps) → H' b = some o
  tab : ∀ P, GxR.TabG H P → GxR.TabG H' P
  ls : ∀ s, s ∈ S → (∃ xs, H s = some (.lst xs)) → ∃ xs, H' s = some (.lst xs)
/-- the cells in S are lists -/
def Ls (S : List Addr) (H : Hp) : Prop := ∀ s, s ∈ S → ∃ xs, H s = some (.lst xs)
theorem SameS.refl {S : List Addr} (H : Hp) : SameS S H H := ⟨fun _ _ _ h _ => h, fun _ h => h, fun _ _ h => h⟩
theorem SameS.trans {S : List Addr} {H H1 H2 : Hp} (a : SameS S H H1) (b : SameS S H1 H2) : SameS S H H2 :=
  ⟨fun c o n h t => b.but c o n (a.but c o n h t) t, fun P h => b.tab P (a.tab P h), fun s hs h => b.ls s hs (a.ls s hs h)⟩
theorem sameTS {S : List Addr} {H H' : Hp} (e : UbG.SameT H H') : SameS S H H' := ⟨fun b o _ h t => e.but b o h t, e.tab, fun s _ ⟨xs, h⟩ => ⟨xs, e.but _ _ h fun _ z => by cases z⟩⟩
theorem sameS {S : List Addr} {H H' : Hp} (e : Same H H') : SameS S H H' := sameTS (UbG.sameT e)
theorem SameS.sub {S S' : List Addr} {H H' : Hp} (e : SameS S H H') (h : ∀ s ∈ S, s ∈ S') : SameS S' H H' :=
  ⟨fun b o n g t => e.but b o (fun z => n (h b z)) g t, e.tab, fun s _ ⟨xs, g⟩ => by
    by_cases hs : s ∈ S
    · exact e.ls s hs ⟨xs, g⟩
    · exact ⟨xs, e.but _ _ hs g fun _ z => by cases z⟩⟩
theorem sameS_upd {S : List Addr} {H : Hp} {a : Addr} {xs : List V} (ha : a ∈ S) (h : ∀ ps, H a ≠ some (.tbl ps)) : SameS S H (upd H a (.lst xs)) := by
  refine ⟨fun b o n e _ => ?_, fun P ⟨ps, e, t⟩ => ⟨ps, ?_, t⟩, fun s _ ⟨ys, e⟩ => ?_⟩
  · rw [upd_ne (show b ≠ a from fun z => n (by rw [z]; exact ha))]
    exact e
  · rw [upd_ne (show P ≠ a from fun z => h ps (by rw [← z]; exact e))]
    exact e
  · by_cases hs : s = a
    · rw [hs]
      exact ⟨xs, upd_same⟩
    · exact ⟨ys, by rw [upd_ne hs]; exact e⟩
theorem notTbl {H : Hp} {a : Addr} {xs : List V} (h : H a = some (.lst xs)) : ∀ ps, H a ≠ some (.tbl ps) := fun ps z => by
  rw [h] at z
  cases z
theorem notTbl0 {H : Hp} {a : Addr} (h : H a = none) : ∀ ps, H a ≠ some (.tbl ps) := fun ps z => by
  rw [h] at z
  cases z
theorem SameS.wT {S : List Addr} {H H' : Hp} (e : SameS S H H') : UbG.SameT (wo S H) (wo S H') := by
  refine ⟨fun b o h t => ?_, fun P ⟨ps, h, t⟩ => ?_⟩
  · obtain ⟨h1, h2⟩ := wo_in h
    rw [wo_out h1]
    exact e.but b o h1 h2 t
  · obtain ⟨h1, h2⟩ := wo_in h
    obtain ⟨qs, g, t2⟩ := e.tab P ⟨ps, h2, t⟩
    exact ⟨qs, by rw [wo_out h1]; exact g, t2⟩
theorem SameS.lsS {S : List Addr} {H H' : Hp} (e : SameS S H H') (h : Ls S H) : Ls S H' := fun s hs => e.ls s hs (h s hs)
theorem SameS.get {S : List Addr} {H H' : Hp} {a : Addr} {xs : List V} (e : SameS S H H') (h : H a = some (.lst xs)) (ha : a ∉ S) : H' a = some (.lst xs) := e.but _ _ ha h fun _ z => by cases z
theorem SameS.seqL {K : PySem.W.Frag} {S : List Addr} {H H' : Hp} {a : Addr} {xs : List V} (e : SameS S H H') (h : SqL K (wo S H) a xs) : SqL K (wo S H') a xs := UbG.SameT.seq e.wT h
section
variable {K : PySem.W.Frag} {S S' : List Addr} {H H' : Hp} {v : V} {d : PyData}
theorem Kp.mono (e : SameS S H H') (h : Dp K (wo S H) v d) : Dp K (wo S H') v d := UbG.Dp.monoT e.wT _ _ h
theorem Kp.monoAll {vs : List V} {ds : List PyData} (e : SameS S H H') (h : DpAll K (wo S H) vs ds) : DpAll K (wo S H') vs ds := UbG.Dp.monoTAll e.wT _ _ h
theorem Kp.dp (h : Dp K (wo S H) v d) : Dp K H v d := Dp.mono wo_same _ _ h
theorem Kp.dpAll {vs : List V} {ds : List PyData} (h : DpAll K (wo S H) vs ds) : DpAll K H vs ds := Dp.monoAll wo_same _ _ h
theorem Kp.sub (i : ∀ s ∈ S, s ∈ S') (h : Dp K (wo S' H) v d) : Dp K (wo S H) v d := Dp.mono (wo_sub i) _ _ h
theorem Kp.subAll {vs : List V} {ds : List PyData} (i : ∀ s ∈ S, s ∈ S') (h : DpAll K (wo S' H) vs ds) : DpAll K (wo S H) vs ds := Dp.monoAll (wo_sub i) _ _ h
theorem wo_tseq {a : Addr} {xs : List V} (l : Ls S H) (h : SqT K H a xs) : SqT K (wo S H) a xs := by
  have go : ∀ o, H a = some o → (∀ ys, o ≠ .lst ys) → wo S H a = some o := fun o e n => by
    rw [wo_out fun z => ?_]
    · exact e
    · obtain ⟨ys, g⟩ := l _ z
      rw [g] at e
      cases e
      exact n ys rfl
  rcases h with (h | ⟨o, h⟩) | h
  · exact .inl (.inl (go _ h fun _ z => by cases z))
  · exact .inl (.inr ⟨o, go _ h fun _ z => by cases z⟩)
  · exact .inr h
mutual
theorem Kp.ofNoL (l : Ls S H) : ∀ (d : PyData) (v : V), noL d = true → Dp K H v d → Dp K (wo S H) v d
  | .none, _, _, h => by cases h; exact .non
  | .bool b, _, _, h => by cases h; exact .bl b
  | .int i, _, _, h => by cases h; exact .int i
  | .str x, _, _, h => by cases h; exact .str x
  | .list ds, _, n, _ => by
    unfold noL at n
    cases n
  | .tuple ds, _, n, h => by
    cases h with
    | tup hs ha => exact .tup (wo_tseq l hs) (Kp.ofNoLAll l ds _ (by unfold noL at n; exact (Bool.and_eq_true_iff.mp n).2) ha)
  | .dict _, _, _, h => by cases h
theorem Kp.ofNoLAll (l : Ls S H) : ∀ (ds : List PyData) (vs : List V), noL.noLs ds = true → DpAll K H vs ds → DpAll K (wo S H) vs ds
  | [], _, _, h => by cases h; exact .nil
  | dt :: ds, _, n, h => by
    unfold noL.noLs at n
    obtain ⟨n1, n2⟩ := Bool.and_eq_true_iff.mp n
    cases h with
    | cons h1 h2 => exact .cons (Kp.ofNoL l dt _ n1 h1) (Kp.ofNoLAll l ds _ n2 h2)
end
theorem Kp.fr {r : Rat} (l : Ls S H) (h : Fr K H v r) : Fr K (wo S H) v r := Kp.ofNoL l _ _ rfl h
/-- what is new is in no cell -/
theorem Ls.new {p : Addr} (l : Ls S H) (np : H p = none) : p ∉ S := fun z => by
  obtain ⟨xs, h⟩ := l p z
  rw [np] at h
  cases h
theorem wo_new {p : Addr} {o : HO} (hp : p ∉ S) : wo S (upd H p o) = upd (wo S H) p o := by
  funext b
  by_cases hb : b = p
  · rw [hb, wo_out hp, upd_same, upd_same]
  · rw [upd_ne hb]
    unfold wo
    by_cases hs : b ∈ S
    · rw [if_pos hs, if_pos hs]
    · rw [if_neg hs, if_neg hs, upd_ne hb]
theorem wo_none {p : Addr} (np : H p = none) : wo S H p = none := by
  cases e : wo S H p with
  | none => rfl
  | some o =>
    rw [(wo_in e).2] at np
    cases np
/-- a new list, a new tuple of data that stand apart -/
theorem Kp.newL {p : Addr} {xs : List V} {ds : List PyData} (l : Ls S H) (np : H p = none) (h : DpAll K (wo S H) xs ds) : Dp K (wo S (upd H p (.lst xs))) (.ref p) (.list ds) := by
  rw [wo_new (l.new np)]
  exact .lst (.inl (.inl upd_same)) (Dp.monoAll (sameNew (wo_none np)) _ _ h)
theorem Kp.newT {p : Addr} {xs : List V} {ds : List PyData} (l : Ls S H) (np : H p = none) (h : DpAll K (wo S H) xs ds) : Dp K (wo S (upd H p (.tup xs))) (.ref p) (.tuple ds) := by
  rw [wo_new (l.new np)]
  exact .tup (.inl (.inl upd_same)) (Dp.monoAll (sameNew (wo_none np)) _ _ h)
/-- a cell whose items stand apart from it, at its end: data -/
theorem Kp.done {a : Addr} {xs : List V} {ds : List PyData} (h : H a = some (.lst xs)) (ha : a ∉ S) (hD : DpAll K (wo (a :: S) H) xs ds) : Dp K (wo S H) (.ref a) (.list ds) :=
  .lst (.inl (.inl (by rw [wo_out ha]; exact h))) (Kp.subAll (fun s hs => List.mem_cons_of_mem _ hs) hD)
theorem Kp.lst {a : Addr} {ds : List PyData} (h : Dp K (wo S H) (.ref a) (.list ds)) : ∃ xs, SqL K (wo S H) a xs ∧ DpAll K (wo S H) xs ds := by
  cases h with
  | lst h1 h2 => exact ⟨_, h1, h2⟩
theorem wo_seqH {a : Addr} {xs : List V} (h : SqL K (wo S H) a xs) : SqL K H a xs := Same.seq wo_same h
theorem Kp.setAll {vs : List V} {ds : List PyData} {v : V} {d : PyData} : ∀ {vs : List V} {ds : List PyData} (i : Nat), DpAll K H vs ds → Dp K H v d → DpAll K H (vs.set i v) (ds.set i d)
  | _, _, _, .nil, _ => .nil
  | _, _, 0, .cons _ h2, h => .cons h h2
  | _, _, i + 1, .cons h1 h2, h => .cons h1 (Kp.setAll (vs := []) (ds := []) i h2 h)
end
/-! ### the law's row of numbers -/
/-- a list of whole numbers stands at d -/
def Ints (H : Hp) (d : Addr) : Prop := ∃ ns : List Int, H d = some (.lst (ns.map V.int))
theorem Ints.monoT {H H' : Hp} {d : Addr} (e : UbG.SameT H H') (h : Ints H d) : Ints H' d := by
  obtain ⟨ns, h⟩ := h
  exact ⟨ns, e.but _ _ h fun _ z => by cases z⟩
theorem Ints.mono {H H' : Hp} {d : Addr} (e : Same H H') (h : Ints H d) : Ints H' d := h.monoT (UbG.sameT e)
theorem Ints.monoS {S : List Addr} {H H' : Hp} {d : Addr} (e : SameS S H H') (hd : d ∉ S) (h : Ints H d) : Ints H' d := by
  obtain ⟨ns, h⟩ := h
  exact ⟨ns, e.get h hd⟩
theorem Ints.stay {H : Hp} {d a : Addr} {o : HO} (h : Ints H d) (n : d ≠ a) : Ints (upd H a o) d := by
  obtain ⟨ns, h⟩ := h
  exact ⟨ns, by rw [upd_ne n]; exact h⟩
theorem Ints.ls {H : Hp} {d : Addr} (h : Ints H d) : Ls [d] H := fun s hs => by
  obtain ⟨ns, h⟩ := h
  rw [List.mem_singleton.mp hs]
  exact ⟨_, h⟩
theorem Ints.ne {H : Hp} {d a : Addr} (h : Ints H d) (na : H a = none) : d ≠ a := fun z => by
  obtain ⟨ns, h⟩ := h
  rw [z, na] at h
  cases h
theorem rdApp {H : Hp} {Q : VK} {d : Addr} {xs : List V} {x : V} (h : H d = some (.lst xs)) (hz : xs.length ≤ 5000) (q : Q .non (upd H d (.lst (xs ++ [x])))) : rAppend (.ref d) [x] H Q :=
  ⟨d, _, _, rfl, rfl, h, Nat.lt_of_le_of_lt hz (by decide), q⟩
/-- small fractions -/
def Sm (a b : Nat) (r : Rat) : Prop := r.num.natAbs ≤ a ∧ r.den ≤ b
theorem Sm.bd {a b n : Nat} {r : Rat} (h : Sm a b r) (ha : a < 2 ^ n) (hb : b < 2 ^ n) : Bd n r := ⟨Nat.lt_of_le_of_lt h.1 ha, Nat.lt_of_le_of_lt h.2 hb⟩
theorem Sm.mono {a b a' b' : Nat} {r : Rat} (h : Sm a b r) (ha : a ≤ a') (hb : b ≤ b') : Sm a' b' r := ⟨Nat.le_trans h.1 ha, Nat.le_trans h.2 hb⟩
theorem sm_divInt {p q : Int} {a b : Nat} (hq : 0 < q) (h1 : p.natAbs ≤ a) (h2 : q.natAbs ≤ b) : Sm a b (Rat.divInt p q) := by
  have e1 := num_pos (p := p) hq
  have e2 := den_pos (p := p) hq
  refine ⟨?_, ?_⟩
  · rw [← e1, Int.natAbs_ediv_of_dvd (dvd_l p q)]
    exact Nat.le_trans (Nat.div_le_self ..) h1
  · have : ((Rat.divInt p q).den : Int).natAbs ≤ b := by
      rw [← e2, Int.natAbs_ediv_of_dvd (dvd_r p q)]
      exact Nat.le_trans (Nat.div_le_self ..) h2
    exact this
theorem mapInt_at {ns : List Int} {i : Nat} {x : V} (h : (ns.map V.int)[i]? = some x) : ∃ z, x = .int z ∧ ns[i]? = some z := by
  rw [List.getElem?_map] at h
  cases e : ns[i]? with
  | none =>
    rw [e] at h
    cases h
  | some z =>
    rw [e] at h
    cases h
    exact ⟨z, rfl, rfl⟩
/-! ### real lists (of this run) of data -/
def LL (K : PySem.W.Frag) (H : Hp) (a : Addr) (ds : List PyData) : Prop := ∃ xs, H a = some (.lst xs) ∧ DpAll K H xs ds
section
variable {K : PySem.W.Frag} {S S' : List Addr} {H H' : Hp} {a : Addr} {ds : List PyData}
theorem LL.dp (h : LL K H a ds) : Dp K H (.ref a) (.list ds) := by
  obtain ⟨xs, h1, h2⟩ := h
  exact .lst (.inl (.inl h1)) h2
theorem LL.monoT (e : UbG.SameT H H') (h : LL K H a ds) : LL K H' a ds := by
  obtain ⟨xs, h1, h2⟩ := h
  exact ⟨xs, e.but _ _ h1 (fun _ z => by cases z), UbG.Dp.monoTAll e _ _ h2⟩
theorem LL.mono (e : Same H H') (h : LL K H a ds) : LL K H' a ds := h.monoT (UbG.sameT e)
theorem LL.monoS (e : SameS S H H') (h : LL K (wo S H) a ds) : LL K (wo S H') a ds := h.monoT e.wT
theorem LL.out (h : LL K (wo S H) a ds) : LL K H a ds := h.mono wo_same
theorem LL.sub (i : ∀ s ∈ S, s ∈ S') (h : LL K (wo S' H) a ds) : LL K (wo S H) a ds := h.mono (wo_sub i)
theorem LL.notIn (h : LL K (wo S H) a ds) : a ∉ S := by
  obtain ⟨xs, h1, h2⟩ := h
  exact (wo_in h1).1
theorem LL.at {i : Nat} {d : PyData} (h : LL K H a ds) (e : ds[i]? = some d) : ∃ xs v, H a = some (.lst xs) ∧ xs[i]? = some v ∧ Dp K H v d := by
  obtain ⟨xs, h1, h2⟩ := h
  obtain ⟨v, h3, h4⟩ := go h2 e
  exact ⟨xs, v, h1, h3, h4⟩
where
  go {K : PySem.W.Frag} {H : Hp} : ∀ {xs : List V} {ds : List PyData} {i : Nat} {d : PyData}, DpAll K H xs ds → ds[i]? = some d → ∃ v, xs[i]? = some v ∧ Dp K H v d
    | _, _, _, _, .nil, h => by simp at h
    | _, _, 0, _, .cons h1 _, h => by
      simp at h
      subst h
      exact ⟨_, rfl, h1⟩
    | _, _, i + 1, d, .cons _ h2, h => by
      obtain ⟨v, e, q⟩ := LL.at.go (i := i) (d := d) h2 (by simpa using h)
      exact ⟨v, by simpa using e, q⟩
theorem LL.newS {p : Addr} {xs : List V} (l : Ls S H) (np : H p = none) (h : DpAll K (wo S H) xs ds) : LL K (wo S (upd H p (.lst xs))) p ds := by
  rw [wo_new (l.new np)]
  exact ⟨xs, upd_same, Dp.monoAll (sameNew (wo_none np)) _ _ h⟩
theorem LL.done {xs : List V} (h : H a = some (.lst xs)) (ha : a ∉ S) (hD : DpAll K (wo (a :: S) H) xs ds) : LL K (wo S H) a ds :=
  ⟨xs, by rw [wo_out ha]; exact h, Kp.subAll (fun s hs => List.mem_cons_of_mem _ hs) hD⟩
end
/-! ### cells: lists that grow or change, their items apart from all cells in S -/
def Cel (K : PySem.W.Frag) (S : List Addr) (H : Hp) (a : Addr) (ds : List PyData) : Prop := ∃ xs, H a = some (.lst xs) ∧ DpAll K (wo S H) xs ds
theorem SameS.late {S : List Addr} {H H' : Hp} {D : Addr} {o : HO} (e : SameS S H H') (nD : H D = none) : SameS S H (upd H' D o) :=
  ⟨fun b x n h t => by rw [upd_ne (ne_of_none h nD)]; exact e.but b x n h t, fun P g => by
    obtain ⟨ps, h, _⟩ := id g
    obtain ⟨qs, h2, t2⟩ := e.tab P g
    exact ⟨qs, by rw [upd_ne (ne_of_none h nD)]; exact h2, t2⟩, fun s hs ⟨xs, h⟩ => by
    obtain ⟨ys, g⟩ := e.ls s hs ⟨xs, h⟩
    exact ⟨ys, by rw [upd_ne (ne_of_none h nD)]; exact g⟩⟩
theorem SameT.late {H H' : Hp} {D : Addr} {o : HO} (e : UbG.SameT H H') (nD : H D = none) : UbG.SameT H (upd H' D o) :=
  ⟨fun b x h t => by rw [upd_ne (ne_of_none h nD)]; exact e.but b x h t, fun P g => by
    obtain ⟨ps, h, _⟩ := id g
    obtain ⟨qs, h2, t2⟩ := e.tab P g
    exact ⟨qs, by rw [upd_ne (ne_of_none h nD)]; exact h2, t2⟩⟩
section
variable {K : PySem.W.Frag} {S S' : List Addr} {H H' : Hp} {a b : Addr} {ds es : List PyData} {o : HO}
theorem Cel.new {p : Addr} : Cel K S (upd H p (.lst [])) p [] := ⟨[], upd_same, .nil⟩
theorem Cel.monoS (e : SameS S' H H') (i : ∀ s ∈ S', s ∈ S) (ha : a ∉ S') (h : Cel K S H a ds) : Cel K S H' a ds := by
  obtain ⟨xs, h1, h2⟩ := h
  exact ⟨xs, e.get h1 ha, Kp.monoAll (e.sub i) h2⟩
theorem Cel.monoT (e : UbG.SameT H H') (h : Cel K S H a ds) : Cel K S H' a ds := h.monoS (S' := []) (sameTS e) (fun _ z => absurd z (List.not_mem_nil)) (List.not_mem_nil)
theorem Cel.mono (e : Same H H') (h : Cel K S H a ds) : Cel K S H' a ds := h.monoT (UbG.sameT e)
theorem Cel.ls (h : Cel K S H a ds) : ∃ xs, H a = some (.lst xs) := by
  obtain ⟨xs, h1, _⟩ := h
  exact ⟨xs, h1⟩
theorem Cel.turn {y : V} {d : PyData} (h : Cel K S H a ds) (ha : a ∈ S) (hz : ds.length ≤ 5000) (hy : Dp K (wo S H) y d) : ∃ acc, H a = some (.lst acc) ∧ acc.length < sizeLine ∧ Cel K S (upd H a (.lst (acc ++ [y]))) a (ds ++ [d]) := by
  obtain ⟨xs, h1, h2⟩ := h
  exact ⟨xs, h1, Nat.lt_of_le_of_lt (by rw [dpAll_len h2]; exact hz) (by decide), _, upd_same, by rw [wo_upd ha]; exact dpAll_snoc h2 hy⟩
theorem Cel.app {y : V} {d : PyData} {Q : VK} (h : Cel K S H a ds) (ha : a ∈ S) (hz : ds.length ≤ 5000) (hy : Dp K (wo S H) y d) (q : ∀ acc, H a = some (.lst acc) → Cel K S (upd H a (.lst (acc ++ [y]))) a (ds ++ [d]) → Q .non (upd H a (.lst (acc ++ [y])))) : rAppend (.ref a) [y] H Q := by
  obtain ⟨xs, h1, h2⟩ := h
  exact rdApp h1 (by rw [dpAll_len h2]; exact hz) (q _ h1 ⟨_, upd_same, by rw [wo_upd ha]; exact dpAll_snoc h2 hy⟩)
theorem Cel.done (h : Cel K S H a ds) (i : ∀ s ∈ S', s ∈ S) (ha : a ∉ S') : LL K (wo S' H) a ds := by
  obtain ⟨xs, h1, h2⟩ := h
  exact ⟨xs, by rw [wo_out ha]; exact h1, Kp.subAll i h2⟩
theorem Cel.stay (h : Cel K S H b es) (ha : a ∈ S) (n : b ≠ a) : Cel K S (upd H a o) b es := by
  obtain ⟨xs, h1, h2⟩ := h
  exact ⟨xs, by rw [upd_ne n]; exact h1, by rw [wo_upd ha]; exact h2⟩
theorem LL.stay (h : LL K (wo S H) b es) (ha : a ∈ S) : LL K (wo S (upd H a o)) b es := by
  rw [wo_upd ha]
  exact h
theorem Kp.stay {v : V} {d : PyData} (h : Dp K (wo S H) v d) (ha : a ∈ S) : Dp K (wo S (upd H a o)) v d := by
  rw [wo_upd ha]
  exact h
end
section
variable {K : PySem.W.Frag} {S S' : List Addr} {H H' : Hp} {a b : Addr} {ds es : List PyData} {o : HO}
theorem ixN_of {n j : Nat} (hj : j < n) : ixN n (j : Int) = some j := by
  unfold ixN
  rw [if_pos (by omega), if_pos (by omega)]
  simp
theorem Cel.setAt {v : V} {d : PyData} {k : Nat} {z : Int} {Q : Hp → Prop} (h : Cel K S H a ds) (ha : a ∈ S) (hz : z = (k : Int)) (hk : k < ds.length) (hv : Dp K (wo S H) v d) (q : ∀ xs, H a = some (.lst xs) → Cel K S (upd H a (.lst (xs.set k v))) a (ds.set k d) → Q (upd H a (.lst (xs.set k v)))) : rSetL (.ref a) (.int z) v H Q := by
  obtain ⟨xs, h1, h2⟩ := h
  subst hz
  exact rdSetL h1 (ixN_of (by rw [dpAll_len h2]; exact hk)) (q xs h1 ⟨_, upd_same, by rw [wo_upd ha]; exact Kp.setAll (vs := []) (ds := []) k h2 hv⟩)
theorem Cel.ix {d : PyData} {k : Nat} {z : Int} {Q : VK} (h : Cel K S H a ds) (hz : z = (k : Int)) (e : ds[k]? = some d) (q : ∀ v, Dp K (wo S H) v d → Q v H) : rIx K (.ref a) (.int z) H Q := by
  obtain ⟨xs, h1, h2⟩ := h
  obtain ⟨v, h3, h4⟩ := LL.at.go h2 e
  exact rdIxL (.inl (.inl h1)) (at_of hz h3) (q v h4)
theorem LL.ix {d : PyData} {k : Nat} {z : Int} {Q : VK} (h : LL K (wo S H) a ds) (hz : z = (k : Int)) (e : ds[k]? = some d) (q : ∀ v, Dp K (wo S H) v d → Q v H) : rIx K (.ref a) (.int z) H Q := by
  obtain ⟨xs, v, h1, h3, h4⟩ := h.at e
  exact rdIxL (.inl (.inl (wo_in h1).2)) (at_of hz h3) (q v h4)
/-- a new list of fractions stands apart from all older cells -/
theorem frsApart {rs : List Rat} {xs : List V} (l : Ls S H') (h : H' a = some (.lst xs)) (ha : a ∉ S) (hD : DpAll K H' xs (rs.map frD)) : LL K (wo S H') a (rs.map frD) :=
  ⟨xs, by rw [wo_out ha]; exact h, Kp.ofNoLAll l _ _ (noL_frs rs) hD⟩
end
/-- whole numbers from 0 on, as values -/
def natV (t : Nat) : V := .int (t : Int)
theorem natV_at {ts : List Nat} {i : Nat} {x : V} (h : (ts.map natV)[i]? = some x) : ∃ t, x = .int (t : Nat) ∧ ts[i]? = some t := by
  rw [List.getElem?_map] at h
  cases e : ts[i]? with
  | none =>
    rw [e] at h
    cases h
  | some z =>
    rw [e] at h
    cases h
    exact ⟨z, rfl, rfl⟩
theorem natV_get {ts : List Nat} {i t : Nat} (h : ts[i]? = some t) : (ts.map natV)[i]? = some (.int (t : Nat)) := by
  rw [List.getElem?_map, h]
  rfl
/-- of m + 1 numbers below m two are the same -/
theorem pigeon : ∀ (m : Nat) (g : Nat → Nat), (∀ i, i ≤ m → g i < m) → ∃ i j, i < j ∧ j ≤ m ∧ g i = g j
  | 0, g, h => absurd (h 0 (Nat.le_refl _)) (Nat.not_lt_zero _)
  | m + 1, g, h => by
    by_cases he : ∃ i, i ≤ m ∧ g i = g (m + 1)
    · obtain ⟨i, hi, e⟩ := he
      exact ⟨i, m + 1, by omega, Nat.le_refl _, e⟩
    · have hne : ∀ i, i ≤ m → g i ≠ g (m + 1) := fun i hi e => he ⟨i, hi, e⟩
      have hv := h (m + 1) (Nat.le_refl _)
      obtain ⟨i, j, hij, hj, e⟩ := pigeon m (fun i => if g i < g (m + 1) then g i else g i - 1) (fun i hi => by
        have h1 := h i (by omega)
        have h2 := hne i hi
        show (if g i < g (m + 1) then g i else g i - 1) < m
        split <;> omega)
      refine ⟨i, j, hij, by omega, ?_⟩
      have h1 := hne i (by omega)
      have h2 := hne j hj
      have e' : (if g i < g (m + 1) then g i else g i - 1) = (if g j < g (m + 1) then g j else g j - 1) := e
      split at e' <;> split at e' <;> omega
/-- fractions over one denominator -/
def Sz (D N : Nat) (r : Rat) : Prop := ∃ k : Int, r = Rat.divInt k D ∧ k.natAbs ≤ N
theorem div_plus {a s n : Int} : Rat.divInt a n + Rat.divInt s n = Rat.divInt (a + s) n := by
  rw [Rat.divInt_eq_div, Rat.divInt_eq_div, Rat.divInt_eq_div, Rat.div_def, Rat.div_def, Rat.div_def, ← Rat.add_mul, Rat.intCast_add]
theorem Sz.add {D N M : Nat} {r s : Rat} (h1 : Sz D N r) (h2 : Sz D M s) : Sz D (N + M) (r + s) := by
  obtain ⟨a, rfl, ha⟩ := h1
  obtain ⟨b, rfl, hb⟩ := h2
  exact ⟨a + b, div_plus, by omega⟩
theorem div_neg (a n : Int) : -Rat.divInt a n = Rat.divInt (-a) n := by
  rw [Rat.divInt_eq_div, Rat.divInt_eq_div, Rat.div_def, Rat.div_def, Rat.intCast_neg, Rat.neg_mul]
theorem Sz.neg {D N : Nat} {r : Rat} (h : Sz D N r) : Sz D N (-r) := by
  obtain ⟨a, rfl, ha⟩ := h
  exact ⟨-a, div_neg a D, by omega⟩
theorem Sz.sub {D N M : Nat} {r s : Rat} (h1 : Sz D N r) (h2 : Sz D M s) : Sz D (N + M) (r - s) := by
  rw [Rat.sub_eq_add_neg]
  exact h1.add h2.neg
theorem Sz.mono {D N M : Nat} {r : Rat} (h : Sz D N r) (l : N ≤ M) : Sz D M r := by
  obtain ⟨a, e, ha⟩ := h
  exact ⟨a, e, by omega⟩
theorem Sz.mul {D E N M : Nat} {r s : Rat} (h1 : Sz D N r) (h2 : Sz E M s) : Sz (D * E) (N * M) (r * s) := by
  obtain ⟨a, rfl, ha⟩ := h1
  obtain ⟨b, rfl, hb⟩ := h2
  refine ⟨a * b, ?_, ?_⟩
  · rw [Rat.divInt_mul_divInt]
    push_cast
    rfl
  · rw [Int.natAbs_mul]
    exact Nat.mul_le_mul ha hb
theorem Sz.zero {D N : Nat} : Sz D N 0 := ⟨0, by rw [Rat.zero_divInt], Nat.zero_le _⟩
theorem Sz.sum {D N : Nat} : ∀ (rs : List Rat) (M : Nat) (r : Rat), Sz D M r → (∀ x ∈ rs, Sz D N x) → Sz D (M + rs.length * N) (rs.foldl (· + ·) r)
  | [], M, r, h, _ => by simpa using h
  | x :: rs, M, r, h, hx => by
    have h1 := Sz.sum rs (M + N) (r + x) (h.add (hx x (List.mem_cons_self ..))) fun y hy => hx y (List.mem_cons_of_mem _ hy)
    refine h1.mono ?_
    rw [List.length_cons, Nat.succ_mul]
    omega
theorem Sz.bd {D N n : Nat} {r : Rat} (h : Sz D N r) (h0 : 0 < D) (h1 : D < 2 ^ n) (h2 : N < 2 ^ n) : Bd n r := by
  obtain ⟨a, rfl, ha⟩ := h
  exact bd_divInt (by omega) (by omega) (by omega)
theorem Sz.of {D a b : Nat} {r : Rat} (h : Sm a b r) (hd : r.den ∣ D) (h0 : 0 < D) : Sz D (a * D) r := by
  obtain ⟨c, hc⟩ := hd
  refine ⟨r.num * (c : Int), ?_, ?_⟩
  · have hc0 : (c : Int) ≠ 0 := by
      intro z
      have : c = 0 := by omega
      subst this
      omega
    rw [hc]
    push_cast
    rw [Rat.divInt_mul_right hc0, Rat.num_divInt_den]
  · rw [Int.natAbs_mul]
    have h1 : (c : Int).natAbs ≤ D := by
      have : c ≤ r.den * c := Nat.le_mul_of_pos_left _ r.den_pos
      omega
    exact Nat.mul_le_mul h.1 h1
/-! ### what is new -/
def Nw (H : Hp) (a : Addr) : Prop := ∀ o, H a = some o → ∃ ps, o = .tbl ps
theorem Nw.of {H : Hp} {a : Addr} (h : H a = none) : Nw H a := fun o e => by
  rw [h] at e
  cases e
theorem Nw.back {H H1 : Hp} {a : Addr} (e : UbG.SameT H H1) (h : Nw H1 a) : Nw H a := fun o g => by
  by_cases ht : ∃ ps, o = .tbl ps
  · exact ht
  · exact h o (e.but _ _ g fun ps z => ht ⟨ps, z⟩)
theorem Nw.backS {S : List Addr} {H H1 : Hp} {a : Addr} (e : SameS S H H1) (l : Ls S H) (h : Nw H1 a) : Nw H a := fun o g => by
  by_cases ht : ∃ ps, o = .tbl ps
  · exact ht
  · by_cases hs : a ∈ S
    · obtain ⟨xs, hx⟩ := e.ls a hs (l a hs)
      obtain ⟨ps, z⟩ := h _ hx
      cases z
    · exact h o (e.but _ _ hs g fun ps z => ht ⟨ps, z⟩)
theorem Nw.ne {H : Hp} {a b : Addr} {xs : List V} (h : Nw H a) (hb : H b = some (.lst xs)) : b ≠ a := fun z => by
  obtain ⟨ps, e⟩ := h _ (z ▸ hb)
  cases e
theorem Nw.notIn {S : List Addr} {H : Hp} {a : Addr} (h : Nw H a) (l : Ls S H) : a ∉ S := fun z => by
  obtain ⟨xs, e⟩ := l a z
  exact h.ne e rfl
theorem late_nw {S : List Addr} {H H' : Hp} {p : Addr} {xs : List V} (e : SameS S H H') (n : Nw H p) (h : ∀ ps, H' p ≠ some (.tbl ps)) (l : Ls S H) : SameS S H (upd H' p (.lst xs)) :=
  ⟨fun b o m g t => by
    have hb : b ≠ p := fun z => by
      obtain ⟨ps, q⟩ := n o (z ▸ g)
      exact t ps q
    rw [upd_ne hb]
    exact e.but b o m g t, fun P g => by
    obtain ⟨qs, g1, t1⟩ := e.tab P g
    exact ⟨qs, by rw [upd_ne (show P ≠ p from fun z => h qs (z ▸ g1))]; exact g1, t1⟩, fun s hs hl => by
    obtain ⟨ys, g⟩ := e.ls s hs hl
    exact ⟨ys, by rw [upd_ne (show s ≠ p from fun z => (n.notIn l) (z ▸ hs))]; exact g⟩⟩
theorem wo_nones {S : List Addr} {H : Hp} (h : ∀ s ∈ S, H s = none) : wo S H = H := by
  funext b
  unfold wo
  by_cases hb : b ∈ S
  · rw [if_pos hb, h b hb]
  · rw [if_neg hb]
theorem SameS.toT {S : List Addr} {H H4 H' : Hp} (e : SameS S H4 H') (s : UbG.SameT H H4) (h : ∀ x ∈ S, Nw H x) : UbG.SameT H H' :=
  ⟨fun b o g t => e.but _ _ (fun z => by
    obtain ⟨ps, q⟩ := h b z o g
    exact t ps q) (s.but _ _ g t) t, fun P g => e.tab P (s.tab P g)⟩
theorem wo_cons {S : List Addr} {H : Hp} {a : Addr} (h : H a = none) : wo (a :: S) H = wo S H := by
  funext b
  unfold wo
  by_cases hb : b ∈ S
  · rw [if_pos hb, if_pos (List.mem_cons_of_mem _ hb)]
  · rw [if_neg hb]
    by_cases e : b = a
    · rw [if_pos (by rw [e]; exact List.mem_cons_self ..), e, h]
    · rw [if_neg (fun z => (List.mem_cons.mp z).elim e hb)]
theorem dpAll_rep {K : PySem.W.Frag} {H : Hp} {v : V} {d : PyData} (h : Dp K H v d) : ∀ n, DpAll K H (List.replicate n v) (List.replicate n d)
  | 0 => .nil
  | n + 1 => .cons h (dpAll_rep h n)
theorem rgV_nat (n : Nat) : rgV 0 (n : Int) = (List.range n).map natV := by
  unfold rgV natV
  simp
theorem rng_at {n i : Nat} {x : V} (h : ((List.range n).map natV)[i]? = some x) : x = .int (i : Nat) ∧ i < n := by
  obtain ⟨t, rfl, e⟩ := natV_at h
  have hi := (List.getElem?_eq_some_iff.mp e).1
  rw [List.length_range] at hi
  rw [List.getElem?_range hi] at e
  cases e
  exact ⟨rfl, hi⟩
theorem rng_len (n : Nat) : ((List.range n).map natV).length = n := by rw [List.length_map, List.length_range]
/-! ### truth of lists, slices -/
theorem truNot {K : PySem.W.Frag} {H : Hp} {p : Addr} {xs : List V} {A B : Prop} (h : SqL K H p xs) (h1 : xs = [] → A) (h2 : xs ≠ [] → B) : ∃ k, TruV K (.ref p) H k ∧ if (!k) = true then A else B := by
  cases xs with
  | nil => exact ⟨false, .inl ⟨_, h, rfl⟩, iteT (h1 rfl)⟩
  | cons x xs => exact ⟨true, .inl ⟨_, h, rfl⟩, iteF (h2 (by simp))⟩
theorem truIf {K : PySem.W.Frag} {H : Hp} {p : Addr} {xs : List V} {A B : Prop} (h : SqL K H p xs) (h1 : xs = [] → B) (h2 : xs ≠ [] → A) : ∃ k, TruV K (.ref p) H k ∧ if k = true then A else B := by
  cases xs with
  | nil => exact ⟨false, .inl ⟨_, h, rfl⟩, iteF (h1 rfl)⟩
  | cons x xs => exact ⟨true, .inl ⟨_, h, rfl⟩, iteT (h2 (by simp))⟩
theorem cut_all {xs : List V} {n : Nat} (h : xs.length ≤ n) : cutV xs none (some (n : Int)) = xs := by
  have e0 : HT.sIx xs.length 0 none = 0 := rfl
  have e1 : HT.sIx xs.length xs.length (some (n : Int)) = xs.length := by
    rw [HT.sIx_nat]
    omega
  unfold cutV
  rw [e0, e1]
  simp
theorem rdSlL {K : PySem.W.Frag} {H : Hp} {Q : VK} {a : Addr} {xs ys : List V} {lo hi : Option Int} (h : SqL K H a xs) (e : cutV xs lo hi = ys) (q : ∀ p, H p = none → Q (.ref p) (upd H p (.lst ys))) : rSlL K (.ref a) lo hi H Q :=
  ⟨a, xs, rfl, h, fun p np => by rw [e]; exact q p np⟩
theorem cut_last {xs : List V} : cutV xs none (some (-1)) = xs.dropLast := by
  have e0 : HT.sIx xs.length 0 none = 0 := rfl
  have e1 : HT.sIx xs.length xs.length (some (-1)) = xs.length - 1 := by
    show (if (-1 : Int) < 0 then ((-1 : Int) + (xs.length : Int)).toNat else min (-1 : Int).toNat xs.length) = xs.length - 1
    rw [if_pos (by decide)]
    omega
  unfold cutV
  rw [e0, e1, List.drop_zero, Nat.sub_zero, List.dropLast_eq_take]
theorem dpAll_take {K : PySem.W.Frag} {H : Hp} : ∀ {xs : List V} {ds : List PyData} (i : Nat), DpAll K H xs ds → DpAll K H (xs.take i) (ds.take i)
  | _, _, 0, _ => .nil
  | _, _, i + 1, .nil => .nil
  | _, _, i + 1, .cons h1 h2 => .cons h1 (dpAll_take i h2)
theorem dpAll_drop {K : PySem.W.Frag} {H : Hp} : ∀ {xs : List V} {ds : List PyData} (i : Nat), DpAll K H xs ds → DpAll K H (xs.drop i) (ds.drop i)
  | _, _, 0, h => h
  | _, _, i + 1, .nil => .nil
  | _, _, i + 1, .cons _ h2 => dpAll_drop i h2
theorem pi_listK {X : Cx} {K : PySem.W.Frag} {tg e : Expr} {te : TE} (h : X.K = K) (he : PE X e te) : PI X tg e (iList K te) := by
  subst h
  exact pi_list he
/-! ### comprehensions and loops, their parts kept -/
def LC (J : It) (g : TG) (tt : TT) (te : TE) (vs : List Nat) (σ : L2.St) (H1 : Hp) (D : Addr) (Qd : Hp → Prop) : Prop := ∃ W : Nat → Nat → Hp → Prop, (∃ m, W 0 m (upd H1 D (.lst []))) ∧ ∀ i m H, W i m H →
  (J.stop i H ∧ Qd H) ∨ (J.go i H ∧ ∃ Nx : Hp → Prop, (∀ H', Nx H' → ∃ m', m' < m ∧ W (i + 1) m' H') ∧ ∀ x H', J.yld i H x H' → g x (wipe σ vs) H' fun σ2 H2 => wipe σ2 vs = wipe σ vs ∧ tt σ2 H2 fun b H3 =>
    if b = true then te σ2 H3 fun y H4 => ∃ acc, H4 D = some (.lst acc) ∧ acc.length < sizeLine ∧ Nx (upd H4 D (.lst (acc ++ [y]))) else Nx H3)
theorem lcOf {wi : TI} {g : TG} {tt : TT} {te : TE} {vs : List Nat} {σ : L2.St} {H : Hp} {Q : VK} (h : wi σ H fun J H1 => ∀ D, H1 D = none → LC J g tt te vs σ H1 D (Q (.ref D))) : tLc wi g tt te vs σ H Q := h
def FL (J : It) (g : TG) (tb : TS) (D : Ends) (σ : L2.St) (H1 : Hp) : Prop := ∃ W : Nat → Nat → L2.St → Hp → Prop, (∃ m, W 0 m σ H1) ∧ ∀ i m σ H, W i m σ H →
  (J.stop i H ∧ D.nx σ H) ∨ (J.go i H ∧ ∃ N : L2.St → Hp → Prop, (∀ σ' H', N σ' H' → ∃ m', m' < m ∧ W (i + 1) m' σ' H') ∧ ∀ x H', J.yld i H x H' → g x σ H' fun σ2 H2 => tb { D with nx := N, ct := N, bk := D.nx } σ2 H2)
theorem forOf {wi : TI} {g : TG} {tb : TS} {D : Ends} {σ : L2.St} {H : Hp} (h : wi σ H fun J H1 => FL J g tb D σ H1) : tFor wi g tb D σ H := h
theorem FL.range {lo : Int} {n : Nat} {g : TG} {tb : TS} {D : Ends} {σ : L2.St} {H : Hp} (Pv : Nat → L2.St → Hp → Prop) (h0 : Pv 0 σ H)
    (hs : ∀ i σ H, i < n → Pv i σ H → g (.int (lo + i)) σ H fun σ2 H2 => tb { D with nx := Pv (i + 1), ct := Pv (i + 1), bk := D.nx } σ2 H2) (hd : ∀ σ H, Pv n σ H → D.nx σ H) : FL (Itr lo n) g tb D σ H := for_range Pv h0 hs hd
theorem FL.list {K : PySem.W.Frag} {a : Addr} {xs : List V} {g : TG} {tb : TS} {D : Ends} {σ : L2.St} {H : Hp} (Pv : Nat → L2.St → Hp → Prop) (h0 : Pv 0 σ H) (hl : ∀ i σ H, i ≤ xs.length → Pv i σ H → SqL K H a xs)
    (hs : ∀ i x σ H, xs[i]? = some x → Pv i σ H → g x σ H fun σ2 H2 => tb { D with nx := Pv (i + 1), ct := Pv (i + 1), bk := D.nx } σ2 H2) (hd : ∀ σ H, Pv xs.length σ H → D.nx σ H) : FL (Itl K a) g tb D σ H := for_list Pv h0 hl hs hd
theorem FL.enum {K : PySem.W.Frag} {a : Addr} {xs : List V} {g : TG} {tb : TS} {D : Ends} {σ : L2.St} {H : Hp} (Pv : Nat → L2.St → Hp → Prop) (h0 : Pv 0 σ H) (hl : ∀ i σ H, Pv i σ H → SqL K H a xs)
    (hs : ∀ i x σ H T, xs[i]? = some x → Pv i σ H → H T = none → g (.ref T) σ (upd H T (.tup [.int (i : Nat), x])) fun σ2 H2 => tb { D with nx := Pv (i + 1), ct := Pv (i + 1), bk := D.nx } σ2 H2) (hd : ∀ σ H, Pv xs.length σ H → D.nx σ H) : FL (Ite K a) g tb D σ H := forEnum Pv h0 hl hs hd
theorem FL.zip {K : PySem.W.Frag} {a b : Addr} {xs ys : List V} {g : TG} {tb : TS} {D : Ends} {σ : L2.St} {H : Hp} (Pv : Nat → L2.St → Hp → Prop) (h0 : Pv 0 σ H) (hl : ∀ i σ H, Pv i σ H → SqL K H a xs ∧ SqL K H b ys)
    (hs : ∀ i x y σ H T, xs[i]? = some x → ys[i]? = some y → Pv i σ H → H T = none → g (.ref T) σ (upd H T (.tup [x, y])) fun σ2 H2 => tb { D with nx := Pv (i + 1), ct := Pv (i + 1), bk := D.nx } σ2 H2) (hd : ∀ σ H, Pv (min xs.length ys.length) σ H → D.nx σ H) : FL (Itz K a b) g tb D σ H := forZip Pv h0 hl hs hd
theorem LC.range {lo : Int} {n : Nat} {g : TG} {tt : TT} {te : TE} {vs : List Nat} {σ : L2.St} {H1 : Hp} {D : Addr} {Qd : Hp → Prop} (Pv : Nat → Hp → Prop) (h0 : Pv 0 (upd H1 D (.lst [])))
    (hs : ∀ i H, i < n → Pv i H → g (.int (lo + i)) (wipe σ vs) H fun σ2 H2 => wipe σ2 vs = wipe σ vs ∧ tt σ2 H2 fun b H3 =>
      if b = true then te σ2 H3 fun y H4 => ∃ acc, H4 D = some (.lst acc) ∧ acc.length < sizeLine ∧ Pv (i + 1) (upd H4 D (.lst (acc ++ [y]))) else Pv (i + 1) H3) (hd : ∀ H, Pv n H → Qd H) : LC (Itr lo n) g tt te vs σ H1 D Qd := lc_range Pv h0 hs hd
theorem LC.list {K : PySem.W.Frag} {a : Addr} {xs : List V} {g : TG} {tt : TT} {te : TE} {vs : List Nat} {σ : L2.St} {H1 : Hp} {D : Addr} {Qd : Hp → Prop} (Pv : Nat → Hp → Prop) (h0 : Pv 0 (upd H1 D (.lst []))) (hl : ∀ i H, i ≤ xs.length → Pv i H → SqL K H a xs)
    (hs : ∀ i x H, xs[i]? = some x → Pv i H → g x (wipe σ vs) H fun σ2 H2 => wipe σ2 vs = wipe σ vs ∧ tt σ2 H2 fun b H3 =>
      if b = true then te σ2 H3 fun y H4 => ∃ acc, H4 D = some (.lst acc) ∧ acc.length < sizeLine ∧ Pv (i + 1) (upd H4 D (.lst (acc ++ [y]))) else Pv (i + 1) H3) (hd : ∀ H, Pv xs.length H → Qd H) : LC (Itl K a) g tt te vs σ H1 D Qd := lc_list Pv h0 hl hs hd
theorem LC.zip {K : PySem.W.Frag} {a b : Addr} {xs ys : List V} {g : TG} {tt : TT} {te : TE} {vs : List Nat} {σ : L2.St} {H1 : Hp} {D : Addr} {Qd : Hp → Prop} (Pv : Nat → Hp → Prop) (h0 : Pv 0 (upd H1 D (.lst []))) (hl : ∀ i H, Pv i H → SqL K H a xs ∧ SqL K H b ys)
    (hs : ∀ i x y T H, xs[i]? = some x → ys[i]? = some y → H T = none → Pv i H → g (.ref T) (wipe σ vs) (upd H T (.tup [x, y])) fun σ2 H2 => wipe σ2 vs = wipe σ vs ∧ tt σ2 H2 fun b H3 =>
      if b = true then te σ2 H3 fun y H4 => ∃ acc, H4 D = some (.lst acc) ∧ acc.length < sizeLine ∧ Pv (i + 1) (upd H4 D (.lst (acc ++ [y]))) else Pv (i + 1) H3) (hd : ∀ H, Pv (min xs.length ys.length) H → Qd H) : LC (Itz K a b) g tt te vs σ H1 D Qd := by
  refine ⟨fun i m H => m = min xs.length ys.length - i ∧ i ≤ min xs.length ys.length ∧ Pv i H, ⟨_, rfl, Nat.zero_le _, h0⟩, ?_⟩
  rintro i m H ⟨rfl, hi, p⟩
  obtain ⟨q1, q2⟩ := hl i H p
  by_cases hlt : i < min xs.length ys.length
  · have l1 : i < xs.length := by omega
    have l2 : i < ys.length := by omega
    refine .inr ⟨⟨xs, ys, xs[i], ys[i], q1, q2, List.getElem?_eq_getElem l1, List.getElem?_eq_getElem l2⟩, Pv (i + 1), fun H' p' => ⟨_, ?_, rfl, hlt, p'⟩, fun x H' yl => ?_⟩
    · omega
    · obtain ⟨T, x1, y1, rfl, nT, rfl, f1, f2⟩ := yl
      exact hs i x1 y1 T H (f1 _ q1) (f2 _ q2) nT p
  · have e : i = min xs.length ys.length := by omega
    refine .inl ⟨⟨xs, ys, q1, q2, by omega⟩, hd H (e ▸ p)⟩
end UbR

/-! Menus: lists of lists of fractions, gains, honest payments. -/
namespace UbR
open PySem PySem.Spec PyProof.Rows L2 UbM Ub
def rowD (r : List Rat) : PyData := .list (r.map frD)
def mD (W : List (List Rat)) : List PyData := W.map rowD
theorem mD_len (W : List (List Rat)) : (mD W).length = W.length := List.length_map ..
theorem mD_at {W : List (List Rat)} {i : Nat} {r : List Rat} (h : W[i]? = some r) : (mD W)[i]? = some (rowD r) := by
  unfold mD
  rw [List.getElem?_map, h]
  rfl
/-- W and L fit together: kinds, o outcomes -/
structure Men (W L : List (List Rat)) (o : Nat) : Prop where
  len : L.length = W.length
  pos : 1 ≤ W.length
  most : W.length ≤ 4
  op : 1 ≤ o
  om : o ≤ 3
  w : ∀ r ∈ W, r.length = o
  l : ∀ r ∈ L, r.length = o
  wb : ∀ r ∈ W, ∀ x ∈ r, Sm 100 30 x
  lb : ∀ r ∈ L, ∀ x ∈ r, Sm 3 3 x
theorem LL.len {K : PySem.W.Frag} {H : Hp} {a : Addr} {xs : List V} {ds : List PyData} (h : DpAll K H xs ds) : xs.length = ds.length := dpAll_len h
theorem rowAt {K : PySem.W.Frag} {H : Hp} {xs : List V} {W : List (List Rat)} {i : Nat} (h : DpAll K H xs (mD W)) (hi : i < W.length) : ∃ v, xs[i]? = some v ∧ Frs K H v W[i] := by
  obtain ⟨v, h1, h2⟩ := LL.at.go (i := i) h (mD_at (List.getElem?_eq_getElem hi))
  exact ⟨v, h1, h2⟩
/-- the gain of kind k from the lot of kind j -/
def gainR (W L : List (List Rat)) (k j : Nat) : Rat := dotR (W.getD k []) (L.getD j []) - dotR (W.getD k []) (L.getD k [])
theorem getD_at {W : List (List Rat)} {i : Nat} (h : i < W.length) : W.getD i [] = W[i] := by
  rw [List.getD_eq_getElem?_getD, List.getElem?_eq_getElem h]
  rfl
theorem Men.wB {W L : List (List Rat)} {o : Nat} (M : Men W L o) {i : Nat} (h : i < W.length) : ∀ r ∈ W[i], Bd 7 r := fun r hr => (M.wb _ (List.getElem_mem h) r hr).bd (by decide) (by decide)
theorem Men.lB {W L : List (List Rat)} {o : Nat} (M : Men W L o) {i : Nat} (h : i < L.length) : ∀ r ∈ L[i], Bd 7 r := fun r hr => (M.lb _ (List.getElem_mem h) r hr).bd (by decide) (by decide)
theorem bd_dot {W L : List (List Rat)} {o k j : Nat} (M : Men W L o) (hk : k < W.length) (hj : j < L.length) : Bd 60 (dotR W[k] L[j]) := by
  have h := bd_sumR (bd_zip (M.wB hk) (M.lB hj))
  refine h.mono ?_
  have h1 := M.w _ (List.getElem_mem hk)
  have h2 := M.om
  have h3 : (List.zipWith (· * ·) W[k] L[j]).length ≤ 3 := by
    rw [List.length_zipWith]
    omega
  have := Nat.mul_le_mul_right (7 + 7 + 1) h3
  omega
/-- the gain of a cycle -/
def cycR (W L : List (List Rat)) (cs : List Nat) : Rat := sumR (List.zipWith (gainR W L) cs (cs.drop 1 ++ cs.take 1))
theorem cut_from {xs : List V} {n : Nat} : cutV xs (some (n : Int)) none = xs.drop n := by
  have e0 : HT.sIx xs.length 0 (some (n : Int)) = min n xs.length := HT.sIx_nat ..
  have e1 : HT.sIx xs.length xs.length none = xs.length := rfl
  unfold cutV
  rw [e0, e1]
  by_cases h : n ≤ xs.length
  · rw [Nat.min_eq_left h, List.take_of_length_le (by rw [List.length_drop]; exact Nat.le_refl _)]
  · rw [Nat.min_eq_right (by omega), List.drop_of_length_le (Nat.le_refl _), List.drop_of_length_le (by omega)]
    simp
theorem cut_to {xs : List V} {n : Nat} : cutV xs none (some (n : Int)) = xs.take n := by
  have e0 : HT.sIx xs.length 0 none = 0 := rfl
  have e1 : HT.sIx xs.length xs.length (some (n : Int)) = min n xs.length := HT.sIx_nat ..
  unfold cutV
  rw [e0, e1, List.drop_zero, Nat.sub_zero]
  by_cases h : n ≤ xs.length
  · rw [Nat.min_eq_left h]
  · rw [Nat.min_eq_right (by omega), List.take_of_length_le (Nat.le_refl _), List.take_of_length_le (by omega)]
/-- honest payments -/
def HonP (W L : List (List Rat)) (ps : List Rat) : Prop := ps.length = W.length ∧ ps.getD 0 1 = 0 ∧ ∀ k, k < W.length → ∀ j, j < W.length → gainR W L k j ≤ ps.getD j 0 - ps.getD k 0
theorem bd_gain {W L : List (List Rat)} {o k j : Nat} (M : Men W L o) (hk : k < W.length) (hj : j < W.length) : Bd 121 (gainR W L k j) := by
  have m2 := M.len
  unfold gainR
  rw [getD_at hk, getD_at (show j < L.length by omega), getD_at (show k < L.length by omega)]
  exact bd_sub (bd_dot M hk (by omega)) (bd_dot M hk (by omega))
theorem getR_at {ps : List Rat} {i : Nat} {d : Rat} (h : i < ps.length) : ps.getD i d = ps[i] := by
  rw [List.getD_eq_getElem?_getD, List.getElem?_eq_getElem h]
  rfl
theorem frAt {K : PySem.W.Frag} {H : Hp} {xs : List V} {ps : List Rat} {i : Nat} (h : DpAll K H xs (ps.map frD)) (hi : i < ps.length) : ∃ v, xs[i]? = some v ∧ Fr K H v ps[i] := frs_get (xs := []) h (List.getElem?_eq_getElem hi)
theorem cmp_gt {r s : Rat} : 0 < cmpR r s ↔ s < r := by
  rcases cmpR_cases r s with ⟨h, e⟩ | ⟨h, e⟩ | ⟨h, e⟩ <;> rw [e]
  · exact ⟨fun z => absurd z (by decide), fun z => absurd (Rat.le_of_lt h) (Rat.not_le.mpr z)⟩
  · exact ⟨fun z => absurd z (by decide), fun z => absurd z (by rw [h]; exact Rat.lt_irrefl)⟩
  · exact ⟨fun _ => h, fun _ => by decide⟩
theorem frsLen (rs : List Rat) : (rs.map frD).length = rs.length := List.length_map ..
theorem frsAt {rs : List Rat} {i : Nat} {r : Rat} (h : rs[i]? = some r) : (rs.map frD)[i]? = some (frD r) := by
  rw [List.getElem?_map, h]
  rfl
theorem mem_set {α : Type} {l : List α} {i : Nat} {x y : α} {P : α → Prop} (h : ∀ z ∈ l, P z) (hx : P x) (hy : y ∈ l.set i x) : P y := by
  rcases List.mem_or_eq_of_mem_set hy with e | e
  · exact h _ e
  · rw [e]
    exact hx
/-- one denominator for all gains of a menu, and a bound of their numerators -/
abbrev d30 : Nat := 2329089562800
theorem dvd30 : ∀ d : Nat, d ≤ 30 → 0 < d → d ∣ d30 := by decide
theorem dvd6 : ∀ d : Nat, d ≤ 3 → 0 < d → d ∣ 6 := by decide
abbrev dG : Nat := d30 * 6
abbrev nG : Nat := 6 * ((100 * d30) * (3 * 6))
theorem sz_dot {W L : List (List Rat)} {o k j : Nat} (M : Men W L o) (hk : k < W.length) (hj : j < L.length) : Sz dG (3 * ((100 * d30) * (3 * 6))) (dotR W[k] L[j]) := by
  have h3 : (List.zipWith (· * ·) W[k] L[j]).length ≤ 3 := by
    rw [List.length_zipWith]
    have h1 := M.w _ (List.getElem_mem hk)
    have h2 := M.om
    omega
  have h := Sz.sum (D := dG) (N := (100 * d30) * (3 * 6)) (List.zipWith (· * ·) W[k] L[j]) 0 0 Sz.zero fun x hx => by
    obtain ⟨i, hi, e⟩ := List.getElem_of_mem hx
    rw [List.getElem_zipWith] at e
    rw [← e]
    have a1 := M.wb _ (List.getElem_mem hk) _ (List.getElem_mem (l := W[k]) (n := i) (by rw [List.length_zipWith] at hi; omega))
    have a2 := M.lb _ (List.getElem_mem hj) _ (List.getElem_mem (l := L[j]) (n := i) (by rw [List.length_zipWith] at hi; omega))
    exact (Sz.of a1 (dvd30 _ a1.2 (Rat.den_pos _)) (by decide)).mul (Sz.of a2 (dvd6 _ a2.2 (Rat.den_pos _)) (by decide))
  refine Sz.mono h ?_
  have := Nat.mul_le_mul_right ((100 * d30) * (3 * 6)) h3
  omega
theorem sz_gain {W L : List (List Rat)} {o k j : Nat} (M : Men W L o) (hk : k < W.length) (hj : j < W.length) : Sz dG nG (gainR W L k j) := by
  have m2 := M.len
  unfold gainR
  rw [getD_at hk, getD_at (show j < L.length by omega), getD_at (show k < L.length by omega)]
  exact ((sz_dot M hk (by omega)).sub (sz_dot M hk (by omega))).mono (by decide)
/-- all gains of a menu -/
def gains (W L : List (List Rat)) : List (List Rat) := (List.range W.length).map fun k => (List.range W.length).map fun j => gainR W L k j
def bG : Nat := nG + 4 * (4 * 4 * nG)
theorem mem_gains {W L : List (List Rat)} {row : List Rat} (h : row ∈ gains W L) : ∃ k, k < W.length ∧ row = (List.range W.length).map fun j => gainR W L k j := by
  obtain ⟨k, hk, e⟩ := List.mem_map.mp h
  exact ⟨k, List.mem_range.mp hk, e.symm⟩
theorem range_at {n i : Nat} (h : i < n) : (List.range n)[i]? = some i := by
  rw [List.getElem?_range h]
theorem take_range {α : Type} (f : Nat → α) {n i : Nat} (h : i < n) : ((List.range n).map f).take (i + 1) = ((List.range n).map f).take i ++ [f i] := by
  rw [List.take_add_one, List.getElem?_map, range_at h]
  rfl
theorem sub1 {a d : Addr} : ∀ s ∈ [d], s ∈ [a, d] := fun s hs => List.mem_cons_of_mem _ hs
theorem ls2 {H : Hp} {a d : Addr} (h1 : ∃ xs, H a = some (.lst xs)) (h2 : Ints H d) : Ls [a, d] H := fun s hs => by
  rcases List.mem_cons.mp hs with e | e
  · rw [e]
    exact h1
  · rw [List.mem_singleton.mp e]
    exact h2.ls d (List.mem_singleton.mpr rfl)
theorem ne1 {H : Hp} {a d : Addr} (h : Ints H d) (n : Nw H a) : a ∉ [d] := fun z => by
  obtain ⟨ns, e⟩ := h
  exact n.ne e (List.mem_singleton.mp z).symm
/-- the payments as they grow at p -/
structure DrI (K : PySem.W.Frag) (H : Hp) (d : Addr) (H' : Hp) (p : Addr) (rs : List Rat) : Prop where
  s : SameS [d] H H'
  i : Ints H' d
  n : Nw H p
  c : Cel K [p, d] H' p (rs.map frD)
  b : ∀ r ∈ rs, Sm 100 30 r
theorem DrI.ls {K : PySem.W.Frag} {H H' : Hp} {d p : Addr} {rs : List Rat} (h : DrI K H d H' p rs) : Ls [p, d] H' := fun s hs => by
  rcases List.mem_cons.mp hs with e | e
  · rw [e]
    exact h.c.ls
  · rw [e |> List.mem_singleton.mp]
    exact h.i.ls d (List.mem_singleton.mpr rfl)
theorem DrI.ne {K : PySem.W.Frag} {H H' : Hp} {d p : Addr} {rs : List Rat} (h : DrI K H d H' p rs) (h0 : Ints H d) : d ≠ p := by
  obtain ⟨ns, e⟩ := h0
  exact h.n.ne e
theorem DrI.mono {K : PySem.W.Frag} {H H' H2 : Hp} {d p : Addr} {rs : List Rat} (h : DrI K H d H' p rs) (h0 : Ints H d) (e : SameS [d] H' H2) (i : Ints H2 d) : DrI K H d H2 p rs :=
  ⟨h.s.trans e, i, h.n, h.c.monoS e (fun s hs => List.mem_cons_of_mem _ hs) (fun z => h.ne h0 (List.mem_singleton.mp z).symm), h.b⟩
theorem DrI.push {K : PySem.W.Frag} {H H' : Hp} {d p : Addr} {rs : List Rat} {v : V} {r : Rat} {Q : VK} (h : DrI K H d H' p rs) (h0 : Ints H d) (hz : rs.length ≤ 5000) (hv : Fr K H' v r) (hb : Sm 100 30 r) (q : ∀ H2, DrI K H d H2 p (rs ++ [r]) → Q .non H2) : rAppend (.ref p) [v] H' Q := by
  obtain ⟨ys, hy⟩ := h.c.ls
  refine h.c.app (d := frD r) (List.mem_cons_self ..) (by rw [frsLen]; exact hz) (Kp.fr h.ls hv) fun acc ha hC => q _ ⟨late_nw h.s h.n (notTbl hy) h0.ls, h.i.stay (h.ne h0), h.n, ?_, fun x hx => ?_⟩
  · rw [List.map_append]
    exact hC
  · rcases List.mem_append.mp hx with e | e
    · exact h.b x e
    · rw [List.mem_singleton.mp e]
      exact hb
end UbR

namespace UbC
open PySem PySem.Spec PyProof.Rows L2 Ub UbM
/-! ### own exceptions with their own __init__ -/
/-- the base of own errors: B.__init__ is ValueError's -/
def baseB (K : PySem.W.Frag) (B : Addr) : Bool :=
  decide (PySem.W.specialIn K (.ref B) "__getattribute__" = some (some (.builtin "type.__getattribute__"))) && (PySem.W.readsIn K B (.type "type") && (match PySem.W.findCls K (.ref B) (.type "type") "__init__" with
    | some (.val (.builtin n)) => decide (n = "ValueError.__init__")
    | _ => false))
structure BaseC (K : PySem.W.Frag) (B : Addr) : Prop where
  ga : PySem.W.specialIn K (.ref B) "__getattribute__" = some (some (.builtin "type.__getattribute__"))
  rd : PySem.W.readsIn K B (.type "type") = true
  fi : PySem.W.findCls K (.ref B) (.type "type") "__init__" = some (.val (.builtin "ValueError.__init__"))
theorem baseB_ok {K : PySem.W.Frag} {B : Addr} (h : baseB K B = true) : BaseC K B := by
  unfold baseB at h
  obtain ⟨h1, h⟩ := He.ba h
  obtain ⟨h2, h3⟩ := He.ba h
  refine ⟨of_decide_eq_true h1, h2, ?_⟩
  split at h3
  · rename_i n e
    have en : n = "ValueError.__init__" := of_decide_eq_true h3
    rw [e, en]
  · cases h3
section
variable {X : Cx} {e : Expr} {es : List Expr} {ta : TA} {x : Str} {p1 p2 pos : Pos} {B : Addr}
/-- B.__init__(self, ..) -/
theorem pe_binit {pl : Sem Bool} (T : BaseC X.K B) (hg : Gl X x) (hm : X.mg x = some (.ref B)) (ha : PA X (e :: es) ta) (hdb : (x == ("__debug__" : Str)) = false := by decide)
    (hc : eval (.Call (.Attribute (.Name x p1) "__init__" p2) (e :: es) [] pos) X.env = (do
      let ov ← eval (.Name x p1) X.env
      standAt p2.atName
      let (f, first) ← holding [ov] (getMethod ov "__init__" pl)
      callWith pos f first (backTo pos (starEach (e :: es) X.env)) (backToKw pos (keywordEach [] X.env))) := by rfl)
    (he : starEach (e :: es) X.env = (false, eval e X.env) :: starEach es X.env := by rfl) (hpl : (backTo pos (starEach es X.env)).any (·.1) = false := by rfl) :
    PE X (.Call (.Attribute (.Name x p1) "__init__" p2) (e :: es) [] pos) (tVeI X.K ta) := by
  refine ⟨fun pins s σ H Q I h => ?_⟩
  refine PySem.W.methodCall_KW (ld_glob I hg hm ?_ hdb) hc
  refine PySem.W.method_cls I.kIn T.ga (PySem.W.cls_value I.kIn T.rd T.fi (by decide +kernel) ?_)
  show wpAny _ _ (callWith pos (Value.builtin "ValueError.__init__") [] (backTo pos (starEach (e :: es) X.env)) []) _ _ _
  refine PyProof.Rows.callWith_method1 (thn (ha.run pos pins _ σ H _ (I.tok _) h) fun us s1 ⟨vs, H1, I1, r1, a, C, ws, ev, hl, T', ea, q⟩ => ?_) he hpl
  subst ev
  cases r1 with
  | @cons _ u0 _ ur ra rw' =>
    obtain rfl : u0 = Value.ref a := ra
    have hlen : ur.length ≤ sizeLine := by
      rw [← Paired.length rw', sizeLine_eq]
      omega
    exact oinit_ok T' I1 ea hlen fun s' J => ⟨.non, H1, J, rfl, q⟩
end
/-- the class object of an own exception -/
def oexB (K : PySem.W.Frag) (C : Addr) : Bool := (match K.lookup C with
  | some ⟨.type "type", _, .cls cd, sl⟩ => (match cd.mro, sl.toList with
    | .ref C' :: bm, [_, _, _, _, some (.builtin n), _] => decide (C' = C) && (decide (n = "ValueError.__new__") && (!cd.hasDel && (cd.hasDict && PySem.HandSPX.refsVE bm)))
    | _, _ => false)
  | _ => false) && (He.eqO (PySem.W.findIn K (.ref C) "__setattr__") (some (some (.builtin "object.__setattr__"))) && (decide (PySem.W.subIn K (.ref C) (.type "BaseException") = some true) && (decide (PySem.W.typeIn K (.ref C) = some (.type "type")) && (PySem.W.keepIn K (.ref C) &&
   (He.eqO (PySem.W.findIn K (.ref C) "__init__") (some (some (.ref (He.ma K C "__init__")))) && decide (PySem.W.typeIn K (.ref (He.ma K C "__init__")) = some (.type "function")))))))
/-- an own exception class with its own __init__ -/
structure OexI (K : PySem.W.Frag) (C : Addr) : Prop where
  oex : OexC K C
  ini : PySem.W.findIn K (.ref C) "__init__" = some (some (.ref (He.ma K C "__init__")))
  ty : PySem.W.typeIn K (.ref (He.ma K C "__init__")) = some (.type "function")
theorem oexB_ok {K : PySem.W.Frag} {C : Addr} (h : oexB K C = true) : OexI K C := by
  unfold oexB at h
  obtain ⟨q, h⟩ := He.ba h
  obtain ⟨h2, h⟩ := He.ba h
  obtain ⟨h3, h⟩ := He.ba h
  obtain ⟨h4, h⟩ := He.ba h
  obtain ⟨h5, h⟩ := He.ba h
  obtain ⟨h6, h7⟩ := He.ba h
  refine ⟨⟨?_, He.eqO_ok h2, of_decide_eq_true h3, of_decide_eq_true h4, h5⟩, He.eqO_ok h6, of_decide_eq_true h7⟩
  split at q
  · rename_i dd cd sl ho
    split at q
    · rename_i C' bm k0 k1 k2 k3 n k5 hm hs
      obtain ⟨q1, q⟩ := He.ba q
      obtain ⟨q2, q⟩ := He.ba q
      obtain ⟨q3, q⟩ := He.ba q
      obtain ⟨q4, q5⟩ := He.ba q
      have e1 := of_decide_eq_true q1
      have e2 := of_decide_eq_true q2
      subst e1 e2
      obtain ⟨nm, bs, mro, ns, qn, hd, sn, sub, ab, col, del⟩ := cd
      dsimp only at hm q3 q4
      have q3' : del = false := by
        cases del
        · rfl
        · cases q3
      subst hm q3' q4
      have hsl : sl = #[k0, k1, k2, k3, some (.builtin "ValueError.__new__"), k5] := by
        obtain ⟨l⟩ := sl
        simp only at hs
        rw [hs]
      subst hsl
      exact ⟨nm, qn, ns, bs, bm, sn, sub, ab, col, dd, k0, k1, k2, k3, k5, ho, q5⟩
    · cases q
  · cases q
/-- what such an __init__ leaves: the fields fl of the values, in the instance's dict -/
def spEI (C : Addr) (fl : List V → List (Str × V)) (ok : List V → Prop) : Sp := fun vs H Q _ => ∃ (a : Addr) (us : List V), vs = .ref a :: us ∧ ok us ∧ H a = some (exo a C none) ∧ ∀ d, H d = none → d ≠ a → Q .non (upd (upd H d (exd d (fl us))) a (exo a C (some d)))
/-- a text of at most 1000 signs -/
def okT : List V → Prop := fun us => ∃ y : Str, us = [.str y] ∧ y.length ≤ 1000
def fl1 (f : Str) : List V → List (Str × V) := fun us => us.map fun v => (f, v)
theorem okT_len {us : List V} (h : okT us) : us.length = 1 := by
  obtain ⟨y, rfl, _⟩ := h
  rfl
theorem rdMkO {C : Addr} {fl : List V → List (Str × V)} {ok : List V → Prop} {us : List V} {H1 : Hp} {Q : XK} (hl : us.length ≤ 1000) (hk : ok us) (q : ∀ d, H1 d = none → Q (.ref C) (some d) (upd H1 d (.xd (fl us)))) :
    us.length ≤ 1000 ∧ ∀ a, H1 a = none → spEI C fl ok (.ref a :: (us ++ [])) (upd H1 a (exo a C none)) (fun v H2 => v = .non ∧ ∃ (d : Addr) (fs : List (Str × V)), H2 a = some (exo a C (some d)) ∧ H2 d = some (exd d fs) ∧ H1 d = none ∧ Q (.ref C) (some d) (upd (del H2 a) d (.xd fs))) (fun _ _ _ => False) := by
  refine ⟨hl, fun a na => ⟨a, us, by rw [List.append_nil], hk, upd_same, fun d nd hda => ?_⟩⟩
  have hd : H1 d = none := by
    rw [upd_ne hda] at nd
    exact nd
  refine ⟨rfl, d, fl us, upd_same, ?_, hd, ?_⟩
  · rw [upd_ne hda, upd_same]
  have e : upd (del (upd (upd (upd H1 a (exo a C none)) d (exd d (fl us))) a (exo a C (some d))) a) d (.xd (fl us)) = upd H1 d (.xd (fl us)) := by
    funext b
    by_cases hb : b = d
    · rw [hb, upd_same, upd_same]
    · rw [upd_ne hb, upd_ne hb]
      by_cases ha : b = a
      · rw [ha, del_same, na]
      · rw [del_ne ha, upd_ne ha, upd_ne hb, upd_ne ha]
  rw [e]
  exact q d hd
theorem flen {p y : Str} (hp : p.length ≤ 1000) (hy : y.length ≤ 1000) : (Str.empty ++ p ++ y).length ≤ sizeLine := by
  have e : (Str.empty ++ p ++ y).length = p.length + y.length := by rw [Str.length_append, Str.length_append, show Str.empty.length = 0 from rfl, Nat.zero_add]
  rw [e, sizeLine_eq]
  omega
theorem flen0 {p : Str} (hp : p.length ≤ 1000) : (Str.empty ++ p).length ≤ sizeLine := by
  have e : (Str.empty ++ p).length = p.length := by rw [Str.length_append, show Str.empty.length = 0 from rfl, Nat.zero_add]
  rw [e, sizeLine_eq]
  omega
theorem cutF {xs : List V} {n : Nat} : cutV xs (some (n : Int)) none = xs.drop n := by
  have e0 : HT.sIx xs.length 0 (some (n : Int)) = min n xs.length := HT.sIx_nat ..
  have e1 : HT.sIx xs.length xs.length none = xs.length := rfl
  unfold cutV
  rw [e0, e1]
  by_cases h : n ≤ xs.length
  · rw [Nat.min_eq_left h, List.take_of_length_le (by rw [List.length_drop]; exact Nat.le_refl _)]
  · rw [Nat.min_eq_right (by omega), List.drop_of_length_le (Nat.le_refl _), List.drop_of_length_le (by omega)]
    simp
theorem cutT {xs : List V} {n : Nat} : cutV xs none (some (n : Int)) = xs.take n := by
  have e0 : HT.sIx xs.length 0 none = 0 := rfl
  have e1 : HT.sIx xs.length xs.length (some (n : Int)) = min n xs.length := HT.sIx_nat ..
  unfold cutV
  rw [e0, e1, List.drop_zero, Nat.sub_zero]
  by_cases h : n ≤ xs.length
  · rw [Nat.min_eq_left h]
  · rw [Nat.min_eq_right (by omega), List.take_of_length_le (Nat.le_refl _), List.take_of_length_le (by omega)]
theorem rdRaise {C : Addr} {f z : Str} {σ : L2.St} {H : Hp} {Q : XK} (hz : z.length ≤ 1000) (q : ∀ d H', Same H H' → Q (.ref C) (some d) H') : tMkO C (spEI C (fl1 f) okT) [] (tCons (tC (.str z)) tNil) σ H Q :=
  rdMkO (Nat.le_of_ble_eq_true rfl) ⟨z, rfl, hz⟩ fun d nd => q d _ (sameNew nd)
theorem cmpGe {r s : Rat} : 0 ≤ cmpR r s ↔ s ≤ r := by
  rcases cmpR_cases r s with ⟨h, e⟩ | ⟨h, e⟩ | ⟨h, e⟩ <;> rw [e]
  · exact ⟨fun z => absurd z (by decide), fun z => absurd h (Rat.not_lt.mpr z)⟩
  · exact ⟨fun _ => by rw [h]; exact Rat.le_refl, fun _ => by decide⟩
  · exact ⟨fun _ => Rat.le_of_lt h, fun _ => by decide⟩
theorem cmpLe {r s : Rat} : cmpR r s ≤ 0 ↔ r ≤ s := by
  rcases cmpR_cases r s with ⟨h, e⟩ | ⟨h, e⟩ | ⟨h, e⟩ <;> rw [e]
  · exact ⟨fun _ => Rat.le_of_lt h, fun _ => by decide⟩
  · exact ⟨fun _ => by rw [h]; exact Rat.le_refl, fun _ => by decide⟩
  · exact ⟨fun z => absurd z (by decide), fun z => absurd h (Rat.not_lt.mpr z)⟩
theorem cmpGt {r s : Rat} : 0 < cmpR r s ↔ s < r := by
  rcases cmpR_cases r s with ⟨h, e⟩ | ⟨h, e⟩ | ⟨h, e⟩ <;> rw [e]
  · exact ⟨fun z => absurd z (by decide), fun z => absurd (Rat.le_of_lt h) (Rat.not_le.mpr z)⟩
  · exact ⟨fun z => absurd z (by decide), fun z => absurd z (by rw [h]; exact Rat.lt_irrefl)⟩
  · exact ⟨fun _ => h, fun _ => by decide⟩
theorem cmpLt {r s : Rat} : cmpR r s < 0 ↔ r < s := by
  rw [← Int.not_le, cmpGe, Rat.not_le]
/-- at the name x stands an own exception class whose __init__ keeps sp -/
structure CalX (P : Program) (w : World) (K : PySem.W.Frag) (mg : Str → Option Value) (base : Heap) (x : Str) (k : Nat) (sp : Sp) : Prop where
  oex : OexI K (He.ga K x)
  gC : mg x = some (.ref (He.ga K x))
  ini : ∃ (fd : FuncData) (ps : List Str), FnOk P w K mg base (L2.CX P w) k (He.ma K (He.ga K x) "__init__") fd ps sp ∧ Binds K fd ps []
section
variable {X : Cx} {W : WX} {x : Str} {k j : Nat} {sp : Sp} {e : Expr} {es : List Expr} {ta : TA} {p pos pos2 : Pos}
/-- raise X(e, ..) -/
theorem ps_raiseC (hc : X.calm = true) (tk : Takes X W) (C : CalX X.prog X.w X.K X.mg X.base x k sp) (hr : Room j X.A) (hj : k + 1 ≤ j) (hg : Gl X x) (ha : PA X (e :: es) ta) (hdb : (x == ("__debug__" : Str)) = false := by decide)
    (he : starEach (e :: es) X.env = (false, eval e X.env) :: starEach es X.env := by rfl) (hpl : (backTo pos (starEach es X.env)).any (·.1) = false := by rfl) :
    PS X (.Raise (some (.Call (.Name x p) (e :: es) [] pos)) none pos2) (fun _ σ H => tMkO (He.ga X.K x) sp [] ta σ H fun cls d H' => W cls d σ H') := by
  obtain ⟨fd, ps, F, hb⟩ := C.ini
  exact ps_raise hc tk (pmk_oex C.oex.oex C.oex.ini C.oex.ty F (hr.mono hj) hb .nil (passes_call tk fun _ _ _ _ h => h.elim) hg C.gC ha hdb he hpl)
end
/-! ### instances -/
section
variable {K : PySem.W.Frag} {x qual : Str} {params : Arguments} {body : List Stmt} {scope : Scope} {kws : List (Str × V)} {f : Addr} {fd : FuncData} {ps : List Str}
/-- m(e, .., k = v, ..), no defaults at all -/
theorem FunD_kbindsN (F : FunD K x qual params body scope [] kws f fd) (n : Nat) (ks : List Str)
    (h : ∀ (kV doc pm : Value) (an : Option Addr) (cdv ct : Value) (us ws : List Value), us.length = n → ws.length = ks.length → bindArgs (PySem.W.fnOf x qual params body scope .none kV doc pm an cdv ct) ⟨us, ks.zip ws⟩ = pure (ps.zip (us ++ ws))) :
    KBn K fd ps n ks (fun us ws => us ++ ws) (fun vs zs => vs ++ zs) := by
  obtain ⟨oc, od, dV, kV, doc, pm, an, cdv, ct, osl, rfl, lk, hcd, hD, hK⟩ := F.ex
  rcases hD with ⟨_, rfl⟩ | ⟨e, _⟩
  · exact ⟨fun s us ws X l1 l2 => .of_eq (h kV doc pm an cdv ct us ws l1 l2), fun r1 r2 => r1.append r2⟩
  · exact absurd rfl e
end
/-- in a try: C(e, .., k = v, ..) -/
def tMakeNS (C : Addr) (n m : Nat) (sp : Sp) (gV : List V → List V → List V) (E : L2.St → XK) (t tk : TA) : TE := fun σ H Q => t σ H fun vs H1 => tk σ H1 fun zs H2 => vs.length = n ∧ zs.length = m ∧
  ∀ x dx, H2 x = none → H2 dx = none → dx ≠ x → sp (gV (.ref x :: vs) zs) (upd (upd H2 dx (.own x)) x (.ins C dx [])) (fun v H3 => v = .non ∧ Q (.ref x) H3) (E σ)
section
variable {X : Cx} {CX : CXT} {k n : Nat} {f C : Addr} {fd : FuncData} {ps ks : List Str} {sp : Sp} {E : L2.St → XK} {x m : Str} {p pos apos : Pos} {e o : Expr} {es : List Expr} {kws : List Keyword} {to : TE} {t tk : TA} {g : List Value → List Value → List Value} {gV : List V → List V → List V} {ds : List Value} {dvs : List V}
theorem run_makeNS {pins : List (Addr × Obj)} {σ : L2.St} {H : Hp} {s : Shared} {Q : VK} {us ws : List Value} {vs zs : List V} (M : Mk X.K C f) (F : FnOk X.prog X.w X.K X.mg X.base CX k f fd ps sp) (hr : Room (k + 1) X.A) (hb : KBn X.K fd ps (n + 1) ks g gV)
    (hx : PassesAt CX X σ (E σ)) (I : Inv X pins σ H s) (r : Vals vs us) (rz : Vals zs ws) (l1 : vs.length = n) (l2 : zs.length = ks.length)
    (h : ∀ x dx, H x = none → H dx = none → dx ≠ x → sp (gV (.ref x :: vs) zs) (upd (upd H dx (.own x)) x (.ins C dx [])) (fun v H2 => v = .non ∧ Q (.ref x) H2) (E σ)) :
    wpAny (model X.prog X.w) X.A (call (.ref C) us (ks.zip ws)) (EP X pins σ Q) X.xe s := by
  have hq := h (s.heap.objs.size + 1) s.heap.objs.size (I.hok.fresh (Nat.le_succ _)) (I.hok.fresh (Nat.le_refl _)) (Nat.ne_of_lt (Nat.lt_succ_self _))
  have I2 := Inv.made (C := C) I
  have r1 : Vals (V.ref (s.heap.objs.size + 1) :: vs) (Value.ref (s.heap.objs.size + 1) :: us) := .cons rfl r
  have r2 := hb.rel r1 rz
  have e1 : (Value.ref (s.heap.objs.size + 1) :: us).length = n + 1 := r1.length.symm.trans (congrArg Nat.succ l1)
  have e2 : ws.length = ks.length := rz.length.symm.trans l2
  refine wpAny_call (make_map (f := f) I.kIn M.makes M.init (beq_iff_eq.mp M.fn) (codeAny_mono (F.run _ X.stack _ _ ⟨Value.ref (s.heap.objs.size + 1) :: us, ks.zip ws⟩ (g (Value.ref (s.heap.objs.size + 1) :: us) ws) _ _ (E σ) (hr.make C us (ks.zip ws))
    (I2.env0.make C us (ks.zip ws)) (hb.to _ (Value.ref (s.heap.objs.size + 1) :: us) ws I2.kIn e1 e2) r2 hq) fun r s' hq' => ?_))
  cases r with
  | error e => exact hx pins _ _ e s' I2 hq'
  | ok fl =>
    cases fl with
    | ret u =>
      obtain ⟨v, H', I3, rv, ev, q3⟩ := I2.after hq'
      subst ev
      exact ⟨rv, ⟨V.ref (s.heap.objs.size + 1), H', I3, rfl, q3⟩⟩
    | next => exact False.elim hq'
    | brk => exact False.elim hq'
    | cont => exact False.elim hq'
theorem pe_makeNS (M : Mk X.K C f) (F : FnOk X.prog X.w X.K X.mg X.base CX k f fd ps sp) (hr : Room (k + 1) X.A) (hg : Gl X x) (hm : X.mg x = some (.ref C)) (hb : KBn X.K fd ps (n + 1) ks g gV) (hx : ∀ σ, PassesAt CX X σ (E σ))
    (ha : PA X (e :: es) t) (hkw : PK X kws tk) (hall : (backToKw pos (keywordEach kws X.env)).all (·.1.isSome) = true := by rfl) (hks : (backToKw pos (keywordEach kws X.env)).filterMap (·.1) = ks := by rfl)
    (hdb : (x == ("__debug__" : Str)) = false := by decide) (he : starEach (e :: es) X.env = (false, eval e X.env) :: starEach es X.env := by rfl)
    (hpl : ((backTo pos (starEach (e :: es) X.env)).any (·.1) || (backToKw pos (keywordEach kws X.env)).any (·.1.isNone)) = false := by rfl) :
    PE X (.Call (.Name x p) (e :: es) kws pos) (tMakeNS C n ks.length sp gV E t tk) := by
  refine ⟨fun pins s σ H Q I h => ?_⟩
  refine wpAny_Call_Name_kw (ld_glob I hg hm ?_ hdb)
  refine PySem.W.callWith_KW (h₀ := X.base) I.ok.mod.kin M.kp hall (thn (ha.run pos pins s σ H _ I h) fun us s1 ⟨vs, H1, I1, r, q⟩ => ?_) hpl he
  refine thn (hkw.run pos pins s1 σ H1 _ I1 q) fun ws s2 ⟨zs, H2, I2, rz, l1, l2, q2⟩ => ⟨I2.kIn, ?_⟩
  rw [hks]
  exact run_makeNS M F hr hb (hx σ) I2 r rz l1 l2 q2
/-- in a try: o.m(e, ..) -/
def tMethS (C : Addr) (m : Str) (sp : Sp) (dvs : List V) (E : L2.St → XK) (ta : TE) (t : TA) : TE := fun σ H Q => ta σ H fun x H1 => ∃ a dx fs, x = .ref a ∧ H1 a = some (.ins C dx fs) ∧ fs.lookup m = none ∧
  t σ H1 fun vs H2 => sp (x :: (vs ++ dvs)) H2 Q (E σ)
theorem pe_methS {pl : Sem Bool} (he : PE X o to) (c : Cls X.K C) (hm : Meth X.K C m f) (F : FnOk X.prog X.w X.K X.mg X.base CX k f fd ps sp) (hr : Room k X.A) (hb : Binds X.K fd ps ds) (hd : Vals dvs ds) (hx : ∀ σ, PassesAt CX X σ (E σ)) (ha : PA X (e :: es) t)
    (hst : starEach (e :: es) X.env = (false, eval e X.env) :: starEach es X.env := by rfl) (hpl : (backTo pos (starEach es X.env)).any (·.1) = false := by rfl)
    (ht : eval (.Call (.Attribute o m apos) (e :: es) [] pos) X.env = (do
      let ov ← eval o X.env
      standAt apos.atName
      let (f, first) ← holding [ov] (getMethod ov m pl)
      callWith pos f first (backTo pos (starEach (e :: es) X.env)) (backToKw pos (keywordEach [] X.env))) := by rfl) :
    PE X (.Call (.Attribute o m apos) (e :: es) [] pos) (tMethS C m sp dvs E to t) := by
  refine ⟨fun pins s σ H Q I h => ?_⟩
  refine PySem.W.methodCall_KW (pl := pl) (thn (he.run pins s σ H _ I h) fun u s1 ⟨x, H1, I1, rx, a, dx, fs, ex, ea, l, q⟩ => ?_) ht
  subst ex
  obtain rfl : u = Value.ref a := rx
  refine getmeth_ok I1 ea c hm l ?_
  refine PySem.W.callWith_K (first := [.ref a]) (h₀ := X.base) I.ok.mod.kin hm.kp (thn (ha.run pos pins s1 σ H1 _ I1 q) fun us s2 ⟨vs, H2, I2, r, q2⟩ => ⟨I2.kIn, ?_⟩) hst hpl
  exact run_fnSD (us := .ref a :: us) (vs := .ref a :: vs) F hr hb hd (hx σ) I2 (.cons rfl r) q2
end
/-- at the name x stands a class whose method m keeps sp -/
structure CalM (P : Program) (w : World) (K : PySem.W.Frag) (mg : Str → Option Value) (base : Heap) (x m : Str) (k : Nat) (ps : List Str) (dvs : List V) (sp : Sp) : Prop where
  cls : Cls K (He.ga K x)
  meth : Meth K (He.ga K x) m (He.ma K (He.ga K x) m)
  run : ∃ (fd : FuncData) (ds : List Value), FnOk P w K mg base (L2.CX P w) k (He.ma K (He.ga K x) m) fd ps sp ∧ Vals dvs ds ∧ Binds K fd ps ds
/-- at the name x stands a class whose __init__ keeps sp; n values and the keywords ks -/
structure CalI (P : Program) (w : World) (K : PySem.W.Frag) (mg : Str → Option Value) (base : Heap) (x : Str) (k n : Nat) (ks : List Str) (sp : Sp) : Prop where
  mkr : Mk K (He.ga K x) (He.ma K (He.ga K x) "__init__")
  gC : mg x = some (.ref (He.ga K x))
  run : ∃ (fd : FuncData) (ps : List Str) (g : List Value → List Value → List Value), FnOk P w K mg base (L2.CX P w) k (He.ma K (He.ga K x) "__init__") fd ps sp ∧ KBn K fd ps (n + 1) ks g (fun vs zs => vs ++ zs)
section
variable {X : Cx} {W : WX} {x m : Str} {k j n : Nat} {ks ps : List Str} {dvs : List V} {sp : Sp} {E : XK} {p pos apos : Pos} {e o : Expr} {es : List Expr} {kws : List Keyword} {to : TE} {t tk : TA}
theorem pe_newC (C : CalI X.prog X.w X.K X.mg X.base x k n ks sp) (hr : Room j X.A) (hj : k + 1 ≤ j) (hg : Gl X x) (hx : Passes (L2.CX X.prog X.w) X E) (ha : PA X (e :: es) t) (hkw : PK X kws tk)
    (hall : (backToKw pos (keywordEach kws X.env)).all (·.1.isSome) = true := by rfl) (hks : (backToKw pos (keywordEach kws X.env)).filterMap (·.1) = ks := by rfl)
    (hdb : (x == ("__debug__" : Str)) = false := by decide) (he : starEach (e :: es) X.env = (false, eval e X.env) :: starEach es X.env := by rfl)
    (hpl : ((backTo pos (starEach (e :: es) X.env)).any (·.1) || (backToKw pos (keywordEach kws X.env)).any (·.1.isNone)) = false := by rfl) :
    PE X (.Call (.Name x p) (e :: es) kws pos) (tMakeN (He.ga X.K x) n ks.length sp (fun vs zs => vs ++ zs) E t tk) := by
  obtain ⟨fd, ps, g, F, hb⟩ := C.run
  exact pe_makeN C.mkr F (hr.mono hj) hg C.gC hb hx ha hkw hall hks hdb he hpl
theorem pe_newCS {K : PySem.W.Frag} (hK : X.K = K) (C : CalI X.prog X.w X.K X.mg X.base x k n ks sp) (hr : Room j X.A) (hj : k + 1 ≤ j) (hg : Gl X x) (tk' : Takes X W) (ha : PA X (e :: es) t) (hkw : PK X kws tk)
    (hall : (backToKw pos (keywordEach kws X.env)).all (·.1.isSome) = true := by rfl) (hks : (backToKw pos (keywordEach kws X.env)).filterMap (·.1) = ks := by rfl)
    (hdb : (x == ("__debug__" : Str)) = false := by decide) (he : starEach (e :: es) X.env = (false, eval e X.env) :: starEach es X.env := by rfl)
    (hpl : ((backTo pos (starEach (e :: es) X.env)).any (·.1) || (backToKw pos (keywordEach kws X.env)).any (·.1.isNone)) = false := by rfl) :
    PE X (.Call (.Name x p) (e :: es) kws pos) (tMakeNS (He.ga K x) n ks.length sp (fun vs zs => vs ++ zs) (WE W) t tk) := by
  subst hK
  obtain ⟨fd, ps, g, F, hb⟩ := C.run
  exact pe_makeNS C.mkr F (hr.mono hj) hg C.gC hb (fun σ => passAt tk' σ) ha hkw hall hks hdb he hpl
theorem pe_methC {pl : Sem Bool} (C : CalM X.prog X.w X.K X.mg X.base x m k ps dvs sp) (hr : Room j X.A) (hj : k ≤ j) (hx : Passes (L2.CX X.prog X.w) X E) (he : PE X o to) (ha : PA X (e :: es) t)
    (hst : starEach (e :: es) X.env = (false, eval e X.env) :: starEach es X.env := by rfl) (hpl : (backTo pos (starEach es X.env)).any (·.1) = false := by rfl)
    (ht : eval (.Call (.Attribute o m apos) (e :: es) [] pos) X.env = (do
      let ov ← eval o X.env
      standAt apos.atName
      let (f, first) ← holding [ov] (getMethod ov m pl)
      callWith pos f first (backTo pos (starEach (e :: es) X.env)) (backToKw pos (keywordEach [] X.env))) := by rfl) :
    PE X (.Call (.Attribute o m apos) (e :: es) [] pos) (tMeth (He.ga X.K x) m sp dvs E to t) := by
  obtain ⟨fd, ds, F, hd, hb⟩ := C.run
  exact pe_meth he C.cls C.meth F (hr.mono hj) hb hd hx ha hst hpl ht
theorem pe_methC0 {pl : Sem Bool} (C : CalM X.prog X.w X.K X.mg X.base x m k ps dvs sp) (hr : Room j X.A) (hj : k ≤ j) (hx : Passes (L2.CX X.prog X.w) X E) (he : PE X o to)
    (ht : eval (.Call (.Attribute o m apos) [] [] pos) X.env = (do
      let ov ← eval o X.env
      standAt apos.atName
      let (f, first) ← holding [ov] (getMethod ov m pl)
      callWith pos f first (backTo pos (starEach [] X.env)) (backToKw pos (keywordEach [] X.env))) := by rfl) :
    PE X (.Call (.Attribute o m apos) [] [] pos) (tMeth (He.ga X.K x) m sp dvs E to tNil) := by
  obtain ⟨fd, ds, F, hd, hb⟩ := C.run
  exact pe_meth0 he C.cls C.meth F (hr.mono hj) hb hd hx ht
theorem pe_methCS {pl : Sem Bool} {K : PySem.W.Frag} (hK : X.K = K) (C : CalM X.prog X.w X.K X.mg X.base x m k ps dvs sp) (hr : Room j X.A) (hj : k ≤ j) (tk' : Takes X W) (he : PE X o to) (ha : PA X (e :: es) t)
    (hst : starEach (e :: es) X.env = (false, eval e X.env) :: starEach es X.env := by rfl) (hpl : (backTo pos (starEach es X.env)).any (·.1) = false := by rfl)
    (ht : eval (.Call (.Attribute o m apos) (e :: es) [] pos) X.env = (do
      let ov ← eval o X.env
      standAt apos.atName
      let (f, first) ← holding [ov] (getMethod ov m pl)
      callWith pos f first (backTo pos (starEach (e :: es) X.env)) (backToKw pos (keywordEach [] X.env))) := by rfl) :
    PE X (.Call (.Attribute o m apos) (e :: es) [] pos) (tMethS (He.ga K x) m sp dvs (WE W) to t) := by
  subst hK
  obtain ⟨fd, ds, F, hd, hb⟩ := C.run
  exact pe_methS he C.cls C.meth F (hr.mono hj) hb hd (fun σ => passAt tk' σ) ha hst hpl ht
end
end UbC

namespace UbZ
open PySem PySem.Spec PyProof.Rows L2 Ub UbM
/-! ### zip of three lists -/
abbrev Is3 (h : Heap) (T : Addr) (a b c : Value) : Prop := h.get? T = some { cls := .type "tuple", data := .seq #[a, b, c] }
theorem typeCall3 (a b c : Value) : checkTypeCall "zip" ⟨[a, b, c], []⟩ = pure () := by kernel_rfl
theorem newCall3 (a b c : Value) : checkBuiltinCall "zip.__new__" ⟨[.type "zip", a, b, c], []⟩ = pure () := by kernel_rfl
theorem initArgs4 (a b c d : Value) : argsOk "object.__init__" ⟨[a, b, c, d], []⟩ := by
  unfold argsOk
  rw [signature?_of (id := "object.__init__") (n := ['_', '_', 't', 'i', 'n', 'i', '_', '_']) (o := ['t', 'c', 'e', 'j', 'b', 'o']) (by kernel_rfl) F.owner_object]
  kernel_rfl
structure Apart (z TI TO i1 i2 i3 l1 l2 l3 : Addr) : Prop where
  TIz : TI ≠ z
  TOz : TO ≠ z
  i1z : i1 ≠ z
  i2z : i2 ≠ z
  i3z : i3 ≠ z
  TITO : TI ≠ TO
  TIi1 : TI ≠ i1
  TIi2 : TI ≠ i2
  TIi3 : TI ≠ i3
  TOi1 : TO ≠ i1
  TOi2 : TO ≠ i2
  TOi3 : TO ≠ i3
  i12 : i1 ≠ i2
  i13 : i1 ≠ i3
  i23 : i2 ≠ i3
  m1 : l1 ≠ z ∧ l1 ≠ TO ∧ l1 ≠ i1 ∧ l1 ≠ i2 ∧ l1 ≠ i3
  m2 : l2 ≠ z ∧ l2 ≠ TO ∧ l2 ≠ i1 ∧ l2 ≠ i2 ∧ l2 ≠ i3
  m3 : l3 ≠ z ∧ l3 ≠ TO ∧ l3 ≠ i1 ∧ l3 ≠ i2 ∧ l3 ≠ i3
section
variable {prog : Program} {w : World} {A : Around} {E : Value → Shared → Prop} {s : Shared}
/-- the heap where only the working objects of the zip have changed -/
def Kept (z TO i1 i2 i3 : Addr) (h h' : Heap) : Prop := ∀ c o, c ≠ z → c ≠ TO → c ≠ i1 → c ≠ i2 → c ≠ i3 → h.get? c = some o → h'.get? c = some o
theorem upd3 {T : Addr} {a b c x : Value} {k : Nat} {Q : Unit → Shared → Prop} (hT : Is3 s.heap T a b c)
    (h : ∀ h', h'.get? T = some { cls := .type "tuple", data := .seq ((#[a, b, c] : Array Value).setIfInBounds k x) } → Heap.SameBut T s.heap h' → Q () { s with heap := h' }) :
    wpAny (model prog w) A (updateSeq T (·.setIfInBounds k x)) Q E s := by
  refine wpAny_updateSeq hT rfl (h _ ?_ (Heap.SameBut.update ..))
  rw [Heap.get?_update_self _ hT rfl]
  simp [Obj.mapSeq]
variable {z TI TO i1 i2 i3 l1 l2 l3 : Addr} {k1 k2 k3 : Nat} {xs ys zs : Array Value} {x y u a b c : Value}
theorem next_item {Q : Value → Shared → Prop} (D : Apart z TI TO i1 i2 i3 l1 l2 l3)
    (hz : IsZip s.heap z TI TO .none) (hTI : Is3 s.heap TI (.ref i1) (.ref i2) (.ref i3)) (hTO : Is3 s.heap TO a b c)
    (h1 : s.heap.IsListIter i1 l1 k1) (h2 : s.heap.IsListIter i2 l2 k2) (h3 : s.heap.IsListIter i3 l3 k3) (hl1 : s.heap.IsList l1 xs) (hl2 : s.heap.IsList l2 ys) (hl3 : s.heap.IsList l3 zs) (hx : xs[k1]? = some x) (hy : ys[k2]? = some y) (hu : zs[k3]? = some u)
    (hQ : ∀ h', IsZip h' z TI TO (rawInt s.heap.objs.size) → Is3 h' TO x y u → h'.IsListIter i1 l1 (k1 + 1) → h'.IsListIter i2 l2 (k2 + 1) → h'.IsListIter i3 l3 (k3 + 1) → Is3 h' s.heap.objs.size x y u → h'.objs.size = s.heap.objs.size + 1 →
      Kept z TO i1 i2 i3 s.heap h' → Q (.ref s.heap.objs.size) { s with heap := h' }) :
    wpAny (model prog w) A (Builtin.«zip.__next__» ⟨[.ref z], []⟩) (fun fin s' => ∃ v, fin = .done (.ret v) ∧ Q v s') E s := by
  show wpAny _ _ (field (.ref z) 2 >>= _) _ _ _
  refine wpAny_bind (wpAny_field hz rfl (x := .bool false) rfl ?_)
  show wpAny _ _ (field (.ref z) 3 >>= _) _ _ _
  refine wpAny_bind (wpAny_field hz rfl (x := .ref TI) rfl ?_)
  refine wpAny_bind (wpAny_seqItems hTI rfl ?_)
  show wpAny _ _ (Builtin.SmallTypes.ownedTupleIsFree (.ref z) >>= _) _ _ _
  refine wpAny_bind ?_
  unfold Builtin.SmallTypes.ownedTupleIsFree
  refine wpAny_bind (wpAny_field hz rfl (x := .none) rfl (wpAny_pure ?_))
  simp only [if_true]
  refine wpAny_bind (wpAny_rule ?_)
  refine wpAny_bind (wpAny_field hz rfl (x := .ref TO) rfl ?_)
  refine wpAny_bind (wpAny_setField_rec hz (by simp) fun hA zA sA => ?_)
  replace zA : IsZip hA z TI TO .ellipsis := zA
  refine wpAny_bind ?_
  simp only [List.zipIdx_cons, List.zipIdx_nil, List.forIn_cons, List.forIn_nil]
  -- the first
  refine wpAny_bind (wpAny_bind (wpAny_onRaise ?_))
  show wpAny _ _ (Builtin.SmallTypes.nextOf (.ref i1) >>= _) _ _ _
  refine wpAny_bind (wpAny_nextOf_list_item (h1.extBut sA.extBut D.i1z) (hl1.extBut sA.extBut D.m1.1) hx fun hB g1 sB => wpAny_pure ?_)
  have tB : Is3 hB TO a b c := sB.extBut _ _ D.TOi1 (sA.extBut _ _ D.TOz hTO)
  have zB : IsZip hB z TI TO .ellipsis := sB.extBut _ _ D.i1z.symm zA
  have kB : Kept z TO i1 i2 i3 s.heap hB := fun d o d1 d2 d3 d4 d5 e => sB.extBut _ _ d3 (sA.extBut _ _ d1 e)
  have jB2 : hB.IsListIter i2 l2 k2 := (h2.extBut sA.extBut D.i2z).extBut sB.extBut D.i12.symm
  have jB3 : hB.IsListIter i3 l3 k3 := (h3.extBut sA.extBut D.i3z).extBut sB.extBut D.i13.symm
  have nB : hB.objs.size = s.heap.objs.size := by rw [sB.1, sA.1]
  refine wpAny_bind (wpAny_seqItems tB rfl ?_)
  refine wpAny_bind (upd3 tB fun hC tC sC => ?_)
  replace tC : Is3 hC TO x b c := tC
  refine wpAny_bind (wpAny_letGo (wpAny_pure ?_))
  -- the second
  refine wpAny_bind (wpAny_bind (wpAny_onRaise ?_))
  show wpAny _ _ (Builtin.SmallTypes.nextOf (.ref i2) >>= _) _ _ _
  have kC : Kept z TO i1 i2 i3 s.heap hC := fun d o d1 d2 d3 d4 d5 e => sC.extBut _ _ d2 (kB d o d1 d2 d3 d4 d5 e)
  have q2 : hC.IsList l2 ys := hl2.at fun o e => kC _ o D.m2.1 D.m2.2.1 D.m2.2.2.1 D.m2.2.2.2.1 D.m2.2.2.2.2 e
  refine wpAny_bind (wpAny_nextOf_list_item (jB2.extBut sC.extBut D.TOi2.symm) q2 hy fun hD g2 sD => wpAny_pure ?_)
  have tD : Is3 hD TO x b c := sD.extBut _ _ D.TOi2 tC
  have zD : IsZip hD z TI TO .ellipsis := sD.extBut _ _ D.i2z.symm (sC.extBut _ _ D.TOz.symm zB)
  have kD : Kept z TO i1 i2 i3 s.heap hD := fun d o d1 d2 d3 d4 d5 e => sD.extBut _ _ d4 (kC d o d1 d2 d3 d4 d5 e)
  have jD1 : hD.IsListIter i1 l1 (k1 + 1) := (g1.extBut sC.extBut D.TOi1.symm).extBut sD.extBut D.i12
  have jD3 : hD.IsListIter i3 l3 k3 := (jB3.extBut sC.extBut D.TOi3.symm).extBut sD.extBut D.i23.symm
  have nD : hD.objs.size = s.heap.objs.size := by rw [sD.1, sC.1, nB]
  refine wpAny_bind (wpAny_seqItems tD rfl ?_)
  refine wpAny_bind (upd3 tD fun hF tF sF => ?_)
  replace tF : Is3 hF TO x y c := tF
  refine wpAny_bind (wpAny_letGo (wpAny_pure ?_))
  -- the third
  refine wpAny_bind (wpAny_bind (wpAny_onRaise ?_))
  show wpAny _ _ (Builtin.SmallTypes.nextOf (.ref i3) >>= _) _ _ _
  have kF : Kept z TO i1 i2 i3 s.heap hF := fun d o d1 d2 d3 d4 d5 e => sF.extBut _ _ d2 (kD d o d1 d2 d3 d4 d5 e)
  have q3 : hF.IsList l3 zs := hl3.at fun o e => kF _ o D.m3.1 D.m3.2.1 D.m3.2.2.1 D.m3.2.2.2.1 D.m3.2.2.2.2 e
  refine wpAny_bind (wpAny_nextOf_list_item (jD3.extBut sF.extBut D.TOi3.symm) q3 hu fun hG g3 sG => wpAny_pure ?_)
  have tG : Is3 hG TO x y c := sG.extBut _ _ D.TOi3 tF
  have zG : IsZip hG z TI TO .ellipsis := sG.extBut _ _ D.i3z.symm (sF.extBut _ _ D.TOz.symm zD)
  have kG : Kept z TO i1 i2 i3 s.heap hG := fun d o d1 d2 d3 d4 d5 e => sG.extBut _ _ d5 (kF d o d1 d2 d3 d4 d5 e)
  have jG1 : hG.IsListIter i1 l1 (k1 + 1) := (jD1.extBut sF.extBut D.TOi1.symm).extBut sG.extBut D.i13
  have jG2 : hG.IsListIter i2 l2 (k2 + 1) := (g2.extBut sF.extBut D.TOi2.symm).extBut sG.extBut D.i23
  have nG : hG.objs.size = s.heap.objs.size := by rw [sG.1, sF.1, nD]
  refine wpAny_bind (wpAny_seqItems tG rfl ?_)
  refine wpAny_bind (upd3 tG fun hM tM sM => ?_)
  replace tM : Is3 hM TO x y u := tM
  refine wpAny_bind (wpAny_letGo (wpAny_pure (wpAny_pure ?_)))
  refine wpAny_bind (wpAny_seqItems tM rfl ?_)
  refine wpAny_bind (wpAny_newTuple ?_)
  have zM : IsZip hM z TI TO .ellipsis := sM.extBut _ _ D.TOz.symm zG
  have kM : Kept z TO i1 i2 i3 s.heap hM := fun d o d1 d2 d3 d4 d5 e => sM.extBut _ _ d2 (kG d o d1 d2 d3 d4 d5 e)
  have jM1 : hM.IsListIter i1 l1 (k1 + 1) := jG1.extBut sM.extBut D.TOi1.symm
  have jM2 : hM.IsListIter i2 l2 (k2 + 1) := jG2.extBut sM.extBut D.TOi2.symm
  have jM3 : hM.IsListIter i3 l3 (k3 + 1) := g3.extBut sM.extBut D.TOi3.symm
  have nM : hM.objs.size = s.heap.objs.size := by rw [sM.1, nG]
  have zlt : z < hM.objs.size := Heap.lt_size zM
  show wpAny _ _ (Builtin.SmallTypes.ownedTupleHandOut (.ref z) (.ref hM.objs.size) >>= _) _ _ _
  refine wpAny_bind ?_
  unfold Builtin.SmallTypes.ownedTupleHandOut
  have zN : IsZip (hM.push { cls := .type "tuple", data := .seq #[x, y, u] }) z TI TO .ellipsis := Heap.get?_push_of_some _ zM
  refine wpAny_bind (wpAny_setField_rec zN (by simp) fun hR zR sR => ?_)
  replace zR : IsZip hR z TI TO (rawInt hM.objs.size) := zR
  refine wpAny_setField_rec zR (by simp) fun hS zS sS => ?_
  replace zS : IsZip hS z TI TO (rawInt hM.objs.size) := zS
  have up : ∀ d o, d ≠ z → hM.get? d = some o → hS.get? d = some o := fun d o d1 e => sS.extBut _ _ d1 (sR.extBut _ _ d1 (Heap.get?_push_of_some _ e))
  have tS : Is3 hS hM.objs.size x y u := sS.extBut _ _ (Nat.ne_of_gt zlt) (sR.extBut _ _ (Nat.ne_of_gt zlt) (Heap.get?_push_size _ rfl))
  have nS : hS.objs.size = hM.objs.size + 1 := by rw [sS.1, sR.1, Heap.size_push]
  rw [nM] at zS tS nS
  refine wpAny_pure ⟨_, rfl, ?_⟩
  show Q (.ref hM.objs.size) _
  rw [nM]
  exact hQ hS zS (up _ _ D.TOz tM) (jM1.at fun o e => up _ o D.i1z e) (jM2.at fun o e => up _ o D.i2z e) (jM3.at fun o e => up _ o D.i3z e) tS nS fun d o d1 d2 d3 d4 d5 e => up d o d1 (kM d o d1 d2 d3 d4 d5 e)
theorem next_end {Q : Fin → Shared → Prop} (hh : A.handled = none) (D : Apart z TI TO i1 i2 i3 l1 l2 l3)
    (hz : IsZip s.heap z TI TO .none) (hTI : Is3 s.heap TI (.ref i1) (.ref i2) (.ref i3)) (hTO : Is3 s.heap TO a b c)
    (h1 : s.heap.IsListIter i1 l1 k1) (h2 : s.heap.IsListIter i2 l2 k2) (h3 : s.heap.IsListIter i3 l3 k3) (hl1 : s.heap.IsList l1 xs) (hl2 : s.heap.IsList l2 ys) (hl3 : s.heap.IsList l3 zs)
    (hend : xs[k1]? = none ∨ ys[k2]? = none ∨ zs[k3]? = none)
    (hE : ∀ h' e, Kept z TO i1 i2 i3 s.heap h' → (∃ o, h'.get? e = some o ∧ o.cls = .type "StopIteration") → E (.ref e) { s with heap := h' }) :
    wpAny (model prog w) A (Builtin.«zip.__next__» ⟨[.ref z], []⟩) Q E s := by
  show wpAny _ _ (field (.ref z) 2 >>= _) _ _ _
  refine wpAny_bind (wpAny_field hz rfl (x := .bool false) rfl ?_)
  show wpAny _ _ (field (.ref z) 3 >>= _) _ _ _
  refine wpAny_bind (wpAny_field hz rfl (x := .ref TI) rfl ?_)
  refine wpAny_bind (wpAny_seqItems hTI rfl ?_)
  show wpAny _ _ (Builtin.SmallTypes.ownedTupleIsFree (.ref z) >>= _) _ _ _
  refine wpAny_bind ?_
  unfold Builtin.SmallTypes.ownedTupleIsFree
  refine wpAny_bind (wpAny_field hz rfl (x := .none) rfl (wpAny_pure ?_))
  simp only [if_true]
  refine wpAny_bind (wpAny_rule ?_)
  refine wpAny_bind (wpAny_field hz rfl (x := .ref TO) rfl ?_)
  refine wpAny_bind (wpAny_setField_rec hz (by simp) fun hA zA sA => ?_)
  replace zA : IsZip hA z TI TO .ellipsis := zA
  refine wpAny_bind ?_
  simp only [List.zipIdx_cons, List.zipIdx_nil, List.forIn_cons, List.forIn_nil]
  have out : ∀ (h h2 : Heap) (e : Addr), IsZip h z TI TO .ellipsis → Kept z TO i1 i2 i3 s.heap h → (∃ o, h.get? e = some o ∧ o.cls = .type "StopIteration") → Heap.SameBut z h h2 → E (.ref e) { s with heap := h2 } := fun h h2 e hzz hk he hs => by
    obtain ⟨o, ho, hc⟩ := he
    have hez : e ≠ z := fun x => by
      subst x
      rw [hzz] at ho
      cases ho
      simp at hc
    exact hE h2 e (fun d o d1 d2 d3 d4 d5 x => hs.extBut _ _ d1 (hk d o d1 d2 d3 d4 d5 x)) ⟨o, hs.extBut _ _ hez ho, hc⟩
  refine wpAny_bind (wpAny_bind (wpAny_onRaise ?_))
  show wpAny _ _ (Builtin.SmallTypes.nextOf (.ref i1) >>= _) _ _ _
  cases hx : xs[k1]? with
  | none =>
    refine wpAny_bind (wpAny_nextOf_list_end hh (h1.extBut sA.extBut D.i1z) (hl1.extBut sA.extBut D.m1.1) hx fun hB e sB he => ?_)
    have zB : IsZip hB z TI TO .ellipsis := sB _ _ D.i1z.symm zA
    exact wpAny_setField_rec zB (by simp) fun hC _ sC => out hB hC e zB (fun d o d1 d2 d3 d4 d5 x => sB _ _ d3 (sA.extBut _ _ d1 x)) he sC
  | some x =>
    refine wpAny_bind (wpAny_nextOf_list_item (h1.extBut sA.extBut D.i1z) (hl1.extBut sA.extBut D.m1.1) hx fun hB g1 sB => wpAny_pure ?_)
    have tB : Is3 hB TO a b c := sB.extBut _ _ D.TOi1 (sA.extBut _ _ D.TOz hTO)
    have zB : IsZip hB z TI TO .ellipsis := sB.extBut _ _ D.i1z.symm zA
    have kB : Kept z TO i1 i2 i3 s.heap hB := fun d o d1 d2 d3 d4 d5 e => sB.extBut _ _ d3 (sA.extBut _ _ d1 e)
    have jB2 : hB.IsListIter i2 l2 k2 := (h2.extBut sA.extBut D.i2z).extBut sB.extBut D.i12.symm
    have jB3 : hB.IsListIter i3 l3 k3 := (h3.extBut sA.extBut D.i3z).extBut sB.extBut D.i13.symm
    refine wpAny_bind (wpAny_seqItems tB rfl ?_)
    refine wpAny_bind (upd3 tB fun hC tC sC => ?_)
    replace tC : Is3 hC TO x b c := tC
    refine wpAny_bind (wpAny_letGo (wpAny_pure ?_))
    refine wpAny_bind (wpAny_bind (wpAny_onRaise ?_))
    show wpAny _ _ (Builtin.SmallTypes.nextOf (.ref i2) >>= _) _ _ _
    have kC : Kept z TO i1 i2 i3 s.heap hC := fun d o d1 d2 d3 d4 d5 e => sC.extBut _ _ d2 (kB d o d1 d2 d3 d4 d5 e)
    have zC : IsZip hC z TI TO .ellipsis := sC.extBut _ _ D.TOz.symm zB
    have q2 : hC.IsList l2 ys := hl2.at fun o e => kC _ o D.m2.1 D.m2.2.1 D.m2.2.2.1 D.m2.2.2.2.1 D.m2.2.2.2.2 e
    cases hy : ys[k2]? with
    | none =>
      refine wpAny_bind (wpAny_nextOf_list_end hh (jB2.extBut sC.extBut D.TOi2.symm) q2 hy fun hD e sD he => ?_)
      have zD : IsZip hD z TI TO .ellipsis := sD _ _ D.i2z.symm zC
      exact wpAny_setField_rec zD (by simp) fun hF _ sF => out hD hF e zD (fun d o d1 d2 d3 d4 d5 x => sD _ _ d4 (kC d o d1 d2 d3 d4 d5 x)) he sF
    | some y =>
      have hu : zs[k3]? = none := by
        rcases hend with h | h | h
        · rw [hx] at h; cases h
        · rw [hy] at h; cases h
        · exact h
      refine wpAny_bind (wpAny_nextOf_list_item (jB2.extBut sC.extBut D.TOi2.symm) q2 hy fun hD g2 sD => wpAny_pure ?_)
      have tD : Is3 hD TO x b c := sD.extBut _ _ D.TOi2 tC
      have zD : IsZip hD z TI TO .ellipsis := sD.extBut _ _ D.i2z.symm zC
      have kD : Kept z TO i1 i2 i3 s.heap hD := fun d o d1 d2 d3 d4 d5 e => sD.extBut _ _ d4 (kC d o d1 d2 d3 d4 d5 e)
      have jD3 : hD.IsListIter i3 l3 k3 := (jB3.extBut sC.extBut D.TOi3.symm).extBut sD.extBut D.i23.symm
      refine wpAny_bind (wpAny_seqItems tD rfl ?_)
      refine wpAny_bind (upd3 tD fun hF tF sF => ?_)
      refine wpAny_bind (wpAny_letGo (wpAny_pure ?_))
      refine wpAny_bind (wpAny_bind (wpAny_onRaise ?_))
      show wpAny _ _ (Builtin.SmallTypes.nextOf (.ref i3) >>= _) _ _ _
      have kF : Kept z TO i1 i2 i3 s.heap hF := fun d o d1 d2 d3 d4 d5 e => sF.extBut _ _ d2 (kD d o d1 d2 d3 d4 d5 e)
      have zF : IsZip hF z TI TO .ellipsis := sF.extBut _ _ D.TOz.symm zD
      have q3 : hF.IsList l3 zs := hl3.at fun o e => kF _ o D.m3.1 D.m3.2.1 D.m3.2.2.1 D.m3.2.2.2.1 D.m3.2.2.2.2 e
      refine wpAny_bind (wpAny_nextOf_list_end hh (jD3.extBut sF.extBut D.TOi3.symm) q3 hu fun hG e sG he => ?_)
      have zG : IsZip hG z TI TO .ellipsis := sG _ _ D.i3z.symm zF
      exact wpAny_setField_rec zG (by simp) fun hM _ sM => out hG hM e zG (fun d o d1 d2 d3 d4 d5 x => sG _ _ d5 (kF d o d1 d2 d3 d4 d5 x)) he sM
theorem pyNext_item {Q : Option Value → Shared → Prop} (D : Apart z TI TO i1 i2 i3 l1 l2 l3)
    (hz : IsZip s.heap z TI TO .none) (hTI : Is3 s.heap TI (.ref i1) (.ref i2) (.ref i3)) (hTO : Is3 s.heap TO a b c)
    (h1 : s.heap.IsListIter i1 l1 k1) (h2 : s.heap.IsListIter i2 l2 k2) (h3 : s.heap.IsListIter i3 l3 k3) (hl1 : s.heap.IsList l1 xs) (hl2 : s.heap.IsList l2 ys) (hl3 : s.heap.IsList l3 zs) (hx : xs[k1]? = some x) (hy : ys[k2]? = some y) (hu : zs[k3]? = some u)
    (hQ : ∀ h', IsZip h' z TI TO (rawInt s.heap.objs.size) → Is3 h' TO x y u → h'.IsListIter i1 l1 (k1 + 1) → h'.IsListIter i2 l2 (k2 + 1) → h'.IsListIter i3 l3 (k3 + 1) → Is3 h' s.heap.objs.size x y u → h'.objs.size = s.heap.objs.size + 1 →
      Kept z TO i1 i2 i3 s.heap h' → Q (some (.ref s.heap.objs.size)) { s with heap := h' }) :
    wpAny (model prog w) A (pyNext (.ref z)) Q E s := by
  have hT : s.TypeIs (.ref z) "zip" := ⟨_, hz, rfl⟩
  unfold pyNext
  exact wpAny_bind (wpAny_attempt (wpAny_callSpecial?_slot (name := Str.ofString "__next__") hT F.slot_zip_next
    (wpAny_call_entry F.slot_zip_next hT F.entry_zip_next
      (next_item D hz hTI hTO h1 h2 h3 hl1 hl2 hl3 hx hy hu fun h' a1 a2 a3 a4 a5 a6 a7 a8 => wpAny_pure (hQ h' a1 a2 a3 a4 a5 a6 a7 a8)) (F.args_zip_next_1 _))))
theorem pyNext_end {Q : Option Value → Shared → Prop} (hh : A.handled = none) (D : Apart z TI TO i1 i2 i3 l1 l2 l3)
    (hz : IsZip s.heap z TI TO .none) (hTI : Is3 s.heap TI (.ref i1) (.ref i2) (.ref i3)) (hTO : Is3 s.heap TO a b c)
    (h1 : s.heap.IsListIter i1 l1 k1) (h2 : s.heap.IsListIter i2 l2 k2) (h3 : s.heap.IsListIter i3 l3 k3) (hl1 : s.heap.IsList l1 xs) (hl2 : s.heap.IsList l2 ys) (hl3 : s.heap.IsList l3 zs)
    (hend : xs[k1]? = none ∨ ys[k2]? = none ∨ zs[k3]? = none) (hQ : ∀ h', Kept z TO i1 i2 i3 s.heap h' → Q none { s with heap := h' }) : wpAny (model prog w) A (pyNext (.ref z)) Q E s := by
  have hT : s.TypeIs (.ref z) "zip" := ⟨_, hz, rfl⟩
  unfold pyNext
  refine wpAny_bind (wpAny_attempt (wpAny_callSpecial?_slot (name := Str.ofString "__next__") hT F.slot_zip_next
    (wpAny_call_entry F.slot_zip_next hT F.entry_zip_next (next_end hh D hz hTI hTO h1 h2 h3 hl1 hl2 hl3 hend fun h' e hk he => ?_) (F.args_zip_next_1 _))))
  obtain ⟨o, ho, hc⟩ := he
  refine wpAny_bind (wpAny_isInstance (T := "StopIteration") (b := true) ⟨o, ho, hc⟩ isSubtype_stop ?_)
  exact wpAny_pure (hQ _ hk)
end
/-! ### the call -/
abbrev it0 (l : Addr) : Obj := { cls := .type "list_iterator", data := .fields #[.ref l, .int 0 0] }
abbrev z1 (h : Heap) (l1 : Addr) : Heap := h.push (it0 l1)
abbrev z2 (h : Heap) (l1 l2 : Addr) : Heap := (z1 h l1).push (it0 l2)
abbrev z3 (h : Heap) (l1 l2 l3 : Addr) : Heap := (z2 h l1 l2).push (it0 l3)
abbrev z4 (h : Heap) (l1 l2 l3 : Addr) : Heap := (z3 h l1 l2 l3).push { cls := .type "tuple", data := .seq #[.ref h.objs.size, .ref (z1 h l1).objs.size, .ref (z2 h l1 l2).objs.size] }
abbrev z5 (h : Heap) (l1 l2 l3 : Addr) : Heap := (z4 h l1 l2 l3).push { cls := .type "tuple", data := .seq #[.none, .none, .none] }
abbrev z6 (h : Heap) (l1 l2 l3 : Addr) : Heap := (z5 h l1 l2 l3).push { cls := .type "zip", data := .fields #[.none, .bool false, .bool false, .ref (z3 h l1 l2 l3).objs.size, .ref (z4 h l1 l2 l3).objs.size] }
theorem meets3 (l1 l2 l3 : Addr) (xs ys zs : Array Value) :
    Meets (Builtin.«zip.__new__» ⟨[.type "zip", .ref l1, .ref l2, .ref l3], []⟩) (fun _ R s => s.heap.IsList l1 xs ∧ s.heap.IsList l2 ys ∧ s.heap.IsList l3 zs ∧
      R (.ok (.ret (.ref (z5 s.heap l1 l2 l3).objs.size))) { s with heap := z6 s.heap l1 l2 l3 }) :=
  .of_wp fun prog w A R s h => by
    obtain ⟨hp, g, d, tk, os⟩ := s
    obtain ⟨hl1, hl2, hl3, h⟩ := h
    have hsub := sub_zip
    have hL1 : Heap.IsList (Shared.heap ⟨hp, g, d, tk, os⟩) l1 xs := hl1
    have hL2 : Heap.IsList (Shared.heap ⟨z1 hp l1, g, d, tk, os⟩) l2 ys := Heap.IsList.push hl2 _
    have hL3 : Heap.IsList (Shared.heap ⟨z2 hp l1 l2, g, d, tk, os⟩) l3 zs := Heap.IsList.push (Heap.IsList.push hl3 _) _
    wp_walk using wpAny_pyIter_list hL1, wpAny_pyIter_list hL2, wpAny_pyIter_list hL3
    exact ⟨_, rfl, h⟩
section
variable {prog : Program} {w : World} {A : Around} {E : Value → Shared → Prop} {s : Shared}
theorem call3 {l1 l2 l3 : Addr} {xs ys zs : Array Value} {Q : Value → Shared → Prop} (hl1 : s.heap.IsList l1 xs) (hl2 : s.heap.IsList l2 ys) (hl3 : s.heap.IsList l3 zs)
    (h : ∀ h', IsZip h' (s.heap.objs.size + 5) (s.heap.objs.size + 3) (s.heap.objs.size + 4) .none → Is3 h' (s.heap.objs.size + 3) (.ref s.heap.objs.size) (.ref (s.heap.objs.size + 1)) (.ref (s.heap.objs.size + 2)) →
      Is3 h' (s.heap.objs.size + 4) .none .none .none → h'.IsListIter s.heap.objs.size l1 0 → h'.IsListIter (s.heap.objs.size + 1) l2 0 → h'.IsListIter (s.heap.objs.size + 2) l3 0 →
      (∀ c o, s.heap.get? c = some o → h'.get? c = some o) → Q (.ref (s.heap.objs.size + 5)) { s with heap := h' }) :
    wpAny (model prog w) A (call (.type "zip") [.ref l1, .ref l2, .ref l3]) Q E s := by
  refine callType_new F.called_zip (by decide) (typeCall3 _ _ _) (newCall3 _ _ _) (fun obj => initArgs4 obj _ _ _) F.entry_zip_new
    (meets3 l1 l2 l3 xs ys zs) ⟨hl1, hl2, hl3, ?_⟩
  have n1 : (z1 s.heap l1).objs.size = s.heap.objs.size + 1 := Heap.size_push ..
  have n2 : (z2 s.heap l1 l2).objs.size = s.heap.objs.size + 2 := by rw [Heap.size_push, n1]
  have n3 : (z3 s.heap l1 l2 l3).objs.size = s.heap.objs.size + 3 := by rw [Heap.size_push, n2]
  have n4 : (z4 s.heap l1 l2 l3).objs.size = s.heap.objs.size + 4 := by rw [Heap.size_push, n3]
  have n5 : (z5 s.heap l1 l2 l3).objs.size = s.heap.objs.size + 5 := by rw [Heap.size_push, n4]
  have p1 : ∀ {h : Heap} {o : Obj} {d : Addr} {v : Obj}, h.get? d = some v → (h.push o).get? d = some v := fun e => Heap.get?_push_of_some _ e
  have g6 : (z6 s.heap l1 l2 l3).get? (z5 s.heap l1 l2 l3).objs.size = some _ := Heap.get?_push_size _ rfl
  have g5 : (z6 s.heap l1 l2 l3).get? (z4 s.heap l1 l2 l3).objs.size = some _ := p1 (Heap.get?_push_size _ rfl)
  have g4 : (z6 s.heap l1 l2 l3).get? (z3 s.heap l1 l2 l3).objs.size = some _ := p1 (p1 (Heap.get?_push_size _ rfl))
  have g3 : (z6 s.heap l1 l2 l3).get? (z2 s.heap l1 l2).objs.size = some _ := p1 (p1 (p1 (Heap.get?_push_size _ rfl)))
  have g2 : (z6 s.heap l1 l2 l3).get? (z1 s.heap l1).objs.size = some _ := p1 (p1 (p1 (p1 (Heap.get?_push_size _ rfl))))
  have g1 : (z6 s.heap l1 l2 l3).get? s.heap.objs.size = some _ := p1 (p1 (p1 (p1 (p1 (Heap.get?_push_size _ rfl)))))
  show _ ∧ _
  rw [n3, n4, n5] at g6
  rw [n1, n2, n3] at g4
  rw [n4] at g5
  rw [n1] at g2
  rw [n2] at g3
  rw [n5]
  exact ⟨⟨_, g6, rfl⟩, h _ g6 g4 g5 ⟨_, g1, rfl, rfl⟩ ⟨_, g2, rfl, rfl⟩ ⟨_, g3, rfl, rfl⟩ fun c o x => p1 (p1 (p1 (p1 (p1 (p1 x)))))⟩
end
/-! ### the loop -/
def It3 (K : PySem.W.Frag) (a b c : Addr) : It :=
  ⟨fun i H => ∃ (xs ys zs : List V) (x y z : V), SqL K H a xs ∧ SqL K H b ys ∧ SqL K H c zs ∧ xs[i]? = some x ∧ ys[i]? = some y ∧ zs[i]? = some z,
    fun i H v H' => ∃ T x y z, v = .ref T ∧ H T = none ∧ H' = upd H T (.tup [x, y, z]) ∧ (∀ xs, SqL K H a xs → xs[i]? = some x) ∧ (∀ ys, SqL K H b ys → ys[i]? = some y) ∧ ∀ zs, SqL K H c zs → zs[i]? = some z,
    fun i H => ∃ xs ys zs : List V, SqL K H a xs ∧ SqL K H b ys ∧ SqL K H c zs ∧ (xs.length ≤ i ∨ ys.length ≤ i ∨ zs.length ≤ i)⟩
theorem turn3 {P : Program} {w : World} {K : PySem.W.Frag} {elts : List Expr} {kk : Nat} {tpos : Pos} {a b c z TI TO i1 i2 i3 : Addr} (D : Apart z TI TO i1 i2 i3 a b c) :
    Turn P w K (.Tuple elts kk tpos) (It3 K a b c) [z, TI, TO, i1, i2, i3] z (fun i h => IsZip h z TI TO .none ∧ Is3 h TI (.ref i1) (.ref i2) (.ref i3) ∧ (∃ x y u, Is3 h TO x y u) ∧ h.IsListIter i1 a i ∧ h.IsListIter i2 b i ∧ h.IsListIter i3 c i) where
  mem := by simp
  obj := fun i h st d hd => by
    obtain ⟨hz, hTI, ⟨x, y, u, hTO⟩, ⟨o1, e1, _, d1⟩, ⟨o2, e2, _, d2⟩, ⟨o3, e3, _, d3⟩⟩ := st
    have e' : d = z ∨ d = TI ∨ d = TO ∨ d = i1 ∨ d = i2 ∨ d = i3 := by simpa using hd
    rcases e' with q | q | q | q | q | q
    · rw [q]; exact ⟨_, hz, fun v q => nomatch q⟩
    · rw [q]; exact ⟨_, hTI, fun v q => nomatch q⟩
    · rw [q]; exact ⟨_, hTO, fun v q => nomatch q⟩
    · rw [q]; exact ⟨o1, e1, fun v q => by rw [d1] at q; cases q⟩
    · rw [q]; exact ⟨o2, e2, fun v q => by rw [d2] at q; cases q⟩
    · rw [q]; exact ⟨o3, e3, fun v q => by rw [d3] at q; cases q⟩
  keep := fun i h h' st k => by
    obtain ⟨hz, hTI, ⟨x, y, u, hTO⟩, h1, h2, h3⟩ := st
    exact ⟨k z (by simp) _ hz, k TI (by simp) _ hTI, ⟨x, y, u, k TO (by simp) _ hTO⟩, h1.at fun o q => k i1 (by simp) o q, h2.at fun o q => k i2 (by simp) o q, h3.at fun o q => k i3 (by simp) o q⟩
  item := by
    intro X hP hw hK hc i pins s σ H E I hf st hg
    subst hP hw hK
    obtain ⟨hz, hTI, ⟨x0, y0, u0, hTO⟩, h1, h2, h3⟩ := st
    obtain ⟨xs, ys, zs, x, y, u, hqx, hqy, hqz, hx, hy, hu⟩ := hg
    obtain ⟨its, rv, p, _⟩ := I.list hqx
    obtain ⟨its2, rv2, p2, _⟩ := I.list hqy
    obtain ⟨its3, rv3, p3, _⟩ := I.list hqz
    obtain ⟨v1, e1, r1⟩ := rv.get hx
    obtain ⟨v2, e2, r2⟩ := rv2.get hy
    obtain ⟨v3, e3, r3⟩ := rv3.get hu
    have hzl : z < s.heap.objs.size := Heap.lt_size hz
    refine pyNext_item D hz hTI hTO h1 h2 h3 p.isList p2.isList p3.isList (x := v1) (y := v2) (u := v3) (by simpa using e1) (by simpa using e2) (by simpa using e3) fun h' z' TO' h1' h2' h3' hT hsz hk => ?_
    refine ⟨_, rfl, wpAny_letOwnedTupleGo_zip (s := { s with heap := h' }) z' fun h'' z'' sb => ?_⟩
    have hT2 : h''.get? s.heap.objs.size = some { cls := .type "tuple", data := .seq #[v1, v2, v3] } := (sb.2 _ (Nat.ne_of_gt hzl)).trans hT
    have new : ObjOk X.prog X.w (upd H s.heap.objs.size (.tup [x, y, u])) h'' s.heap.objs.size (.tup [x, y, u]) :=
      ⟨by show 3 ≤ sizeLine; decide, [v1, v2, v3], .cons r1 (.cons r2 (.cons r3 .nil)), ⟨_, hT2, rfl, _, rfl⟩⟩
    have I1 : Inv X pins σ (upd H s.heap.objs.size (.tup [x, y, u])) { s with heap := h'' } :=
      I.turnedNew (t' := s.toks) (ch := [z, TI, TO, i1, i2, i3]) (fun d o hb q => (sb.2 d (fun q' => hb (by simp [q']))).trans (hk d o (fun q' => hb (by simp [q'])) (fun q' => hb (by simp [q'])) (fun q' => hb (by simp [q'])) (fun q' => hb (by simp [q'])) (fun q' => hb (by simp [q'])) q)) hf (Nat.le_refl _) new
    refine ⟨.ref s.heap.objs.size, _, I1, rfl, ⟨_, x, y, u, rfl, I.hok.fresh (Nat.le_refl _), rfl, fun l hl => by rw [I.list_inj hl hqx]; exact hx, fun l hl => by rw [I.list_inj hl hqy]; exact hy, fun l hl => by rw [I.list_inj hl hqz]; exact hu⟩, ⟨z'', ?_, ⟨v1, v2, v3, ?_⟩, ?_, ?_, ?_⟩, fun d hdm => ?_⟩
    · exact (sb.2 _ D.TIz).trans (hk _ _ D.TIz D.TITO D.TIi1 D.TIi2 D.TIi3 hTI)
    · exact (sb.2 _ D.TOz).trans TO'
    · exact h1'.at fun o q => (sb.2 _ D.i1z).trans q
    · exact h2'.at fun o q => (sb.2 _ D.i2z).trans q
    · exact h3'.at fun o q => (sb.2 _ D.i3z).trans q
    · have hlt : d < s.heap.objs.size := by
        have e' : d = z ∨ d = TI ∨ d = TO ∨ d = i1 ∨ d = i2 ∨ d = i3 := by simpa using hdm
        rcases e' with q | q | q | q | q | q
        · rw [q]; exact hzl
        · rw [q]; exact Heap.lt_size hTI
        · rw [q]; exact Heap.lt_size hTO
        · rw [q]; obtain ⟨_, e1, _⟩ := h1; exact Heap.lt_size e1
        · rw [q]; obtain ⟨_, e2, _⟩ := h2; exact Heap.lt_size e2
        · rw [q]; obtain ⟨_, e3, _⟩ := h3; exact Heap.lt_size e3
      rw [upd_ne (Nat.ne_of_lt hlt)]
      exact (hf d hdm).1
  done := by
    intro X hP hw hK hc i pins s σ H E I hf st hg
    subst hP hw hK
    obtain ⟨hz, hTI, ⟨x0, y0, u0, hTO⟩, h1, h2, h3⟩ := st
    obtain ⟨xs, ys, zs, hqx, hqy, hqz, hend⟩ := hg
    obtain ⟨its, rv, p, _⟩ := I.list hqx
    obtain ⟨its2, rv2, p2, _⟩ := I.list hqy
    obtain ⟨its3, rv3, p3, _⟩ := I.list hqz
    have l1 := rv.length
    have l2 := rv2.length
    have l3 := rv3.length
    have he : its.toArray[i]? = none ∨ its2.toArray[i]? = none ∨ its3.toArray[i]? = none := by
      rcases hend with q | q | q
      · exact .inl (by simp; omega)
      · exact .inr (.inl (by simp; omega))
      · exact .inr (.inr (by simp; omega))
    exact pyNext_end (I.ok.hd hc) D hz hTI hTO h1 h2 h3 p.isList p2.isList p3.isList he fun h' hk => ⟨rfl, I.turnedL (t' := s.toks) (ch := [z, TI, TO, i1, i2, i3]) (fun d o hb q =>
      hk d o (fun q' => hb (by simp [q'])) (fun q' => hb (by simp [q'])) (fun q' => hb (by simp [q'])) (fun q' => hb (by simp [q'])) (fun q' => hb (by simp [q'])) q) hf⟩
  self := fun A i s Q E st h => wpAny_pyIter_zip st.1 h
theorem ne' {a b : Nat} (h : a < b ∨ b < a) : ¬(a = b) := by omega
theorem apart3 (n a b c : Nat) (la : a < n) (lb : b < n) (lc : c < n) : Apart (n + 5 : Nat) (n + 3 : Nat) (n + 4 : Nat) (n : Nat) (n + 1 : Nat) (n + 2 : Nat) (a : Nat) (b : Nat) (c : Nat) :=
  ⟨ne' (by omega), ne' (by omega), ne' (by omega), ne' (by omega), ne' (by omega), ne' (by omega), ne' (by omega), ne' (by omega), ne' (by omega), ne' (by omega), ne' (by omega), ne' (by omega), ne' (by omega), ne' (by omega), ne' (by omega),
    ⟨ne' (by omega), ne' (by omega), ne' (by omega), ne' (by omega), ne' (by omega)⟩, ⟨ne' (by omega), ne' (by omega), ne' (by omega), ne' (by omega), ne' (by omega)⟩, ⟨ne' (by omega), ne' (by omega), ne' (by omega), ne' (by omega), ne' (by omega)⟩⟩
def iZip3 (K : PySem.W.Frag) (ta : TA) : TI := fun σ H R => ta σ H fun vs H1 => ∃ a b c xs ys zs, vs = [.ref a, .ref b, .ref c] ∧ SqL K H1 a xs ∧ SqL K H1 b ys ∧ SqL K H1 c zs ∧ R (It3 K a b c) H1
theorem pi_zip3 {X : Cx} {e e2 e3 : Expr} {ta : TA} {p pos tpos : Pos} {elts : List Expr} {kk : Nat} (hg : Gl X "zip") (hm : X.mg "zip" = none) (ha : PA X [e, e2, e3] ta)
    (hs : starEach [e, e2, e3] X.env = (false, eval e X.env) :: starEach [e2, e3] X.env := by rfl) (hpl : (backTo pos (starEach [e2, e3] X.env)).any (·.1) = false := by rfl) :
    PI X (.Tuple elts kk tpos) (.Call (.Name "zip" p) [e, e2, e3] [] pos) (iZip3 X.K ta) := by
  refine ⟨fun pins s σ H R I h => ?_⟩
  refine Call_ (ld_blt I hg hm PyProof.Rows.boot_zip (PyProof.Rows.callWith_type1 (thn (ha.run pos pins s σ H _ I h) fun us s1 ⟨vs, H1, I1, r1, q1⟩ => ?_) hs hpl))
  obtain ⟨a, b, c, xs, ys, zs, ex, hqx, hqy, hqz, q⟩ := q1
  subst ex
  cases r1 with
  | cons r rr =>
    cases rr with
    | cons r' rr =>
      cases rr with
      | cons r'' rr =>
        cases rr
        cases r
        cases r'
        cases r''
        obtain ⟨its, rv, p1, _⟩ := I1.list hqx
        obtain ⟨its2, rv2, p2, _⟩ := I1.list hqy
        obtain ⟨its3, rv3, p3, _⟩ := I1.list hqz
        have la : a < s1.heap.objs.size := p1.lt
        have lb : b < s1.heap.objs.size := p2.lt
        have lc : c < s1.heap.objs.size := p3.lt
        refine call3 p1.isList p2.isList p3.isList fun h' hz hTI hTO h1 h2 h3 hk => wpAny_pyIter_zip hz ?_
        have I2 : Inv X pins σ H1 { s1 with heap := h' } := I1.kept (t' := s1.toks) hk
        have D := apart3 s1.heap.objs.size a b c la lb lc
        refine ⟨s1.heap.objs.size + 5, [s1.heap.objs.size + 5, s1.heap.objs.size + 3, s1.heap.objs.size + 4, s1.heap.objs.size, s1.heap.objs.size + 1, s1.heap.objs.size + 2], _, _, H1, rfl, I2, turn3 D, ⟨hz, hTI, ⟨_, _, _, hTO⟩, h1, h2, h3⟩, fun d hdm => ?_, q⟩
        have hle : s1.heap.objs.size ≤ d := by
          have e' : d = s1.heap.objs.size + 5 ∨ d = s1.heap.objs.size + 3 ∨ d = s1.heap.objs.size + 4 ∨ d = s1.heap.objs.size ∨ d = s1.heap.objs.size + 1 ∨ d = s1.heap.objs.size + 2 := by simpa using hdm
          rcases e' with z | z | z | z | z | z
          · rw [z]; exact Nat.le_add_right _ _
          · rw [z]; exact Nat.le_add_right _ _
          · rw [z]; exact Nat.le_add_right _ _
          · rw [z]; exact Nat.le_refl _
          · rw [z]; exact Nat.le_add_right _ _
          · rw [z]; exact Nat.le_add_right _ _
        exact I1.fpOk hle (I1.hok.fresh hle)
theorem FLzip3 {K : PySem.W.Frag} {a b c : Addr} {xs ys zs : List V} {g : TG} {tb : TS} {D : Ends} {σ : L2.St} {H : Hp} (Pv : Nat → L2.St → Hp → Prop) (h0 : Pv 0 σ H) (hl : ∀ i σ H, Pv i σ H → SqL K H a xs ∧ SqL K H b ys ∧ SqL K H c zs)
    (hs : ∀ i x y z σ H T, xs[i]? = some x → ys[i]? = some y → zs[i]? = some z → Pv i σ H → H T = none → g (.ref T) σ (upd H T (.tup [x, y, z])) fun σ2 H2 => tb { D with nx := Pv (i + 1), ct := Pv (i + 1), bk := D.nx } σ2 H2)
    (hd : ∀ σ H, Pv (min xs.length (min ys.length zs.length)) σ H → D.nx σ H) : UbR.FL (It3 K a b c) g tb D σ H := by
  refine ⟨fun i m σ H => m = min xs.length (min ys.length zs.length) - i ∧ i ≤ min xs.length (min ys.length zs.length) ∧ Pv i σ H, ⟨_, rfl, Nat.zero_le _, h0⟩, ?_⟩
  rintro i m σ H ⟨rfl, hi, p⟩
  obtain ⟨q1, q2, q3⟩ := hl i σ H p
  by_cases hlt : i < min xs.length (min ys.length zs.length)
  · have h1 : i < xs.length := by omega
    have h2 : i < ys.length := by omega
    have h3 : i < zs.length := by omega
    refine .inr ⟨⟨xs, ys, zs, xs[i], ys[i], zs[i], q1, q2, q3, by simp [h1], by simp [h2], by simp [h3]⟩, Pv (i + 1), fun σ' H' p' => ⟨_, by omega, rfl, by omega, p'⟩, fun v H' y => ?_⟩
    obtain ⟨T, x, y, z, rfl, nT, rfl, hx, hy, hz⟩ := y
    exact hs i x y z σ H T (hx xs q1) (hy ys q2) (hz zs q3) p nT
  · have e : i = min xs.length (min ys.length zs.length) := by omega
    subst e
    exact .inl ⟨⟨xs, ys, zs, q1, q2, q3, by omega⟩, hd σ H p⟩
end UbZ

namespace UbS
open PySem PySem.Spec PyProof.Rows L2 Ub UbM NdefX
/-! ### super().__init__(..) of an own exception -/
abbrev mwV (x : Addr) : Obj := PySem.W.kxs_mw "ValueError.__init__" x
/-- what stands behind super() in the class at C -/
structure SupC (K : PySem.W.Frag) (C : Addr) : Prop where
  ho : PySem.W.nsIn K cStatics "thirdparty.any" = some none
  fi : PySem.W.ks_superIn K C C "__init__" = some (some (.builtin "ValueError.__init__"))
  sv : PySem.W.subIn K (.ref C) (.type "ValueError") = some true
  ss : PySem.W.mroIn K C (.ref C) = some true
def supB (K : PySem.W.Frag) (C : Addr) : Bool := He.eqO (PySem.W.nsIn K cStatics "thirdparty.any") (some none) && (He.eqO (PySem.W.ks_superIn K C C "__init__") (some (some (.builtin "ValueError.__init__"))) && (decide (PySem.W.subIn K (.ref C) (.type "ValueError") = some true) && decide (PySem.W.mroIn K C (.ref C) = some true)))
theorem supB_ok {K : PySem.W.Frag} {C : Addr} (h : supB K C = true) : SupC K C := by
  unfold supB at h
  obtain ⟨h1, h⟩ := He.ba h
  obtain ⟨h2, h⟩ := He.ba h
  obtain ⟨h3, h4⟩ := He.ba h
  exact ⟨He.eqO_ok h1, He.eqO_ok h2, of_decide_eq_true h3, of_decide_eq_true h4⟩
section
variable {X : Cx} {pins : List (Addr × Obj)} {σ : L2.St} {H : Hp} {s : Shared} {a C u : Addr} {E : Value → Shared → Prop}
theorem sinit_ok {us : List Value} {Q : Value → Shared → Prop} (T : OexC X.K C) (I : Inv X pins σ H s) (hu : s.heap.get? u = some (mwV a)) (e : H a = some (exo a C none)) (hl : us.length ≤ sizeLine) (h : ∀ s', Inv X pins σ H s' → Q .none s') :
    wpAny (model X.prog X.w) X.A (call (.ref u) us) Q E s := by
  obtain ⟨nm, q, N, bs, bm, sn, sub, ab, col, dd, k0, k1, k2, k3, k5, hC, hbm⟩ := T.cls
  obtain ⟨t1, ho⟩ := exo_at I.hok e
  have hCh := I.kIn _ _ hC
  obtain ⟨hp, g, d, t, os⟩ := s
  refine wpAny_call (codeAny_of_tree ?_)
  show wpAny _ X.A.in1 (callAny (.ref u) ⟨us, []⟩) _ _ _
  simp only [callAny]
  refine wpAny_bind (wpAny_load hu ?_)
  simp only [mwV, PySem.W.kxs_mw, show (Value.type "method-wrapper" == Value.type "method" || Value.type "method-wrapper" == Value.type "builtin_function_or_method" || Value.type "method-wrapper" == Value.type "method-wrapper") = true by decide, if_true]
  refine PySem.W.KFB.if_so (by decide) ?_
  refine wpAny_bind (PySem.W.check_bound_init F.excBase_ValueError.toExcCallFacts hCh ho rfl ?_)
  refine wpAny_bind (wpAny_pure (wpAny_pure ?_))
  refine ⟨plainId_quiet F.excBase_ValueError.init.plain _, codeAny_builtin F.excBase_ValueError.initEntry ?_⟩
  refine PySem.W.exc_init_tree (cls := .ref C) (t0 := t1) (dv := none) (c2 := .none) (c3 := .none) (b4 := .bool false) ho hl (fun h' k hx _ => ?_)
  have J := I.write (t' := t) (x := a) (e := a) (o := exo a C none) (by rw [e]; exact True.intro) (.inl rfl) k ⟨_, hx⟩ (exo_ok hx)
  have eu : upd H a (exo a C none) = H := by
    funext b
    by_cases hb : b = a
    · rw [hb, upd_same, e]
    · rw [upd_ne hb]
  rw [eu] at J
  exact h _ J
end
/-- a method whose text says super(), of the class at C -/
structure FunS (K : PySem.W.Frag) (C : Addr) (file : Str) (x qual : Str) (params : Arguments) (body : List Stmt) (scope : Scope) (f : Addr) (fd : FuncData) : Prop where
  ex : ∃ (oc : Value) (od : Option Addr) (doc pm : Value) (an : Option Addr) (cda cc : Addr) (ct : Value) (osl : Array (Option Value)),
    fd = PySem.W.fnX x qual params body scope [("__class__", cc)] .none .none doc pm an (.ref cda) ct ∧ K.lookup f = some ⟨oc, od, .func fd, osl⟩ ∧ PySem.W.codeIn K (.ref cda) qual = true ∧
    (∃ (c1 : Value) (d1 : Option Addr) (vs : Array Value) (s1 : Array (Option Value)) (tf : Tok), K.lookup cda = some ⟨c1, d1, .fields vs, s1⟩ ∧ vs[2]? = some (.str file tf)) ∧
    ∃ (c2 : Value) (d2 : Option Addr) (s2 : Array (Option Value)), K.lookup cc = some ⟨c2, d2, .cell (some (.ref C)), s2⟩
theorem FunS.bindsN {K : PySem.W.Frag} {C : Addr} {file x qual : Str} {params : Arguments} {body : List Stmt} {scope : Scope} {f : Addr} {fd : FuncData} {ps : List Str} (F : FunS K C file x qual params body scope f fd)
    (h : ∀ (cc : Addr) (doc pm : Value) (an : Option Addr) (cdv ct : Value) (us : List Value), us.length = ps.length → bindArgs (PySem.W.fnX x qual params body scope [("__class__", cc)] .none .none doc pm an cdv ct) ⟨us, []⟩ = pure (ps.zip us)) : Binds K fd ps [] := by
  obtain ⟨oc, od, doc, pm, an, cda, cc, ct, osl, rfl, _⟩ := F.ex
  exact .all (h cc doc pm an (.ref cda) ct)
abbrev nfS (x qual : Str) (params : Arguments) (body : List Stmt) (scope : Scope) (cc cda : Addr) : NF := ⟨x, qual, params, body, scope, [("__class__", cc)], cda⟩
abbrev supStmt (p0 p1 p2 p3 p4 : Pos) (e : Expr) : Stmt := .Expr (.Call (.Attribute (.Call (.Name "super" p0) [] [] p1) "__init__" p2) [e] [] p3) p4
section
variable {P : Program} {w : World} {K : PySem.W.Frag} {mg : Str → Option Value} {base : Heap} {CX : CXT} {N ps : List Str} {k : Nat} {sp : Sp} {C f : Addr} {fd : FuncData} {file x qual : Str} {params : Arguments} {rest : List Stmt} {scope : Scope} {e : Expr} {p0 p1 p2 p3 p4 : Pos} {self : Str}
theorem FunS.ok {pl : Sem Bool} (F : FunS K C file x qual params (supStmt p0 p1 p2 p3 p4 e :: rest) scope f fd) (B : SupC K C) (T : OexC K C) (hsup : mg "super" = none) (hfile : (P.main.file == file) = true) (htop : (P.main.scope.names.lookup ("super" : Str)).isSome = false)
    (S : NScope N ps ["__class__"] scope) (hks : scope.names.lookup ("super" : Str) = some .globalImplicit) (hN : N[0]? = some self) (hself : ps[0]? = some self) (hp : ((params.posonlyargs ++ params.args).head?).map (·.arg) = some self)
    (hi : ∀ cc cda L, interactive (envF (nfS x qual params (supStmt p0 p1 p2 p3 p4 e :: rest) scope cc cda) f L) = false)
    (hs : ∀ cc cda L, swapsWith (.Call (.Attribute (.Call (.Name "super" p0) [] [] p1) "__init__" p2) [e] [] p3) none p4.line (envF (nfS x qual params (supStmt p0 p1 p2 p3 p4 e :: rest) scope cc cda) f L) = pure false)
    (he : ∀ cc cda L, eval (.Call (.Attribute (.Call (.Name "super" p0) [] [] p1) "__init__" p2) [e] [] p3) (envF (nfS x qual params (supStmt p0 p1 p2 p3 p4 e :: rest) scope cc cda) f L) = (do
      let ov ← attributeBase (.Call (.Name "super" p0) [] [] p1) "__init__" (envF (nfS x qual params (supStmt p0 p1 p2 p3 p4 e :: rest) scope cc cda) f L) (eval (.Call (.Name "super" p0) [] [] p1) (envF (nfS x qual params (supStmt p0 p1 p2 p3 p4 e :: rest) scope cc cda) f L))
      standAt p2.atName
      let (f', first) ← holding [ov] (getMethod ov "__init__" pl)
      callWith p3 f' first (backTo p3 (starEach [e] (envF (nfS x qual params (supStmt p0 p1 p2 p3 p4 e :: rest) scope cc cda) f L))) []))
    (hst : ∀ cc cda L, starEach [e] (envF (nfS x qual params (supStmt p0 p1 p2 p3 p4 e :: rest) scope cc cda) f L) = (false, eval e (envF (nfS x qual params (supStmt p0 p1 p2 p3 p4 e :: rest) scope cc cda) f L)) :: starEach [] (envF (nfS x qual params (supStmt p0 p1 p2 p3 p4 e :: rest) scope cc cda) f L))
    (len : ∀ vs H Q E, sp vs H Q E → vs.length = ps.length)
    (hb : ∀ (cc cda : Addr) (A : Around) (outer : List Env) (s : Shared) (H : Hp) (vs : List V) (Q : VK) (E : XK), Room k (A.deeper (envF (nfS x qual params (supStmt p0 p1 p2 p3 p4 e :: rest) scope cc cda) f s.heap.objs.size)) → sp vs H Q E →
      ∃ (te : TA) (ts : TS) (a : Addr) (us : List V), vs = .ref a :: us ∧ H a = some (exo a C none) ∧ PA (ncx CX P w K mg base N (nfS x qual params (supStmt p0 p1 p2 p3 p4 e :: rest) scope cc cda) f A outer s H E) [e] te ∧
        PSs (ncx CX P w K mg base N (nfS x qual params (supStmt p0 p1 p2 p3 p4 e :: rest) scope cc cda) f A outer s H E) rest ts ∧
        te (startF N vs [some (.ref C)]) H (fun us H1 => us.length ≤ 1000 ∧ H1 a = some (exo a C none) ∧ ts { nx := fun _ H' => Q .non H', rt := Q } (startF N vs [some (.ref C)]) H1)) :
    FnOk P w K mg base CX (k + 1) f fd ps sp := by
  refine ⟨len, fun A outer s H args us vs Q E hr e0 hbd r hsp => ?_⟩
  obtain ⟨oc, od, doc, pm, an, cda, cc, ct, osl, rfl, lk, hcd, ⟨c1, d1, vz, s1, tf, lkc, hv2⟩, c2, d2, s2, lkcc⟩ := F.ex
  have hl := len _ _ _ _ hsp
  have KX : K.In s.heap := e0.mod.kin.keeps fun b o e => (e0.bs b o e).1
  have lim : s.heap.NoLimit := e0.mod.nolimit.keeps fun b o e => (e0.bs b o e).1
  refine codeAny_call_function hr.depth (KX _ _ lk) rfl S.co S.gen rfl (PySem.W.codeRec_of KX hcd) (hbd _ _ _ _ ?_)
  refine wpAny_newFunctionEnv S.nocell (fun ⟨n, _⟩ hy => S.par n (List.of_mem_zip hy).1) (fun h₁ hns hsb => ⟨lim.fresh _ hsb, ?_⟩) S.kind
  show codeAny _ _ (.func (supStmt p0 p1 p2 p3 p4 e :: rest) (envF (nfS x qual params (supStmt p0 p1 p2 p3 p4 e :: rest) scope cc cda) f s.heap.objs.size)) _ _
  refine ks_codeAny_funcAt ?_
  have kp : ∀ b o, s.heap.get? b = some o → h₁.get? b = some o := fun b o e => hsb.extBut b o (Nat.ne_of_lt (Heap.lt_size e)) (Heap.get?_push_of_some _ e)
  have bcc := e0.bs _ _ (e0.mod.kin _ _ lkcc)
  have Cl : CellsAt [("__class__", cc)] ["__class__"] [some (.ref C)] s.heap H := by
    have key : ∀ {y : Str} {c : Addr}, List.lookup y [(("__class__" : Str), cc)] = some c → y = "__class__" ∧ c = cc := fun {y c} hy => by
      have hm := PySem.mem_of_lookup hy
      rcases List.mem_cons.mp hm with z | z
      · cases z
        exact ⟨rfl, rfl⟩
      · cases z
    refine ⟨rfl, fun y c hy => ?_, fun x y c hx hy => (key hx).1.trans (key hy).1.symm, fun i y hy => ?_⟩
    · obtain ⟨_, rfl⟩ := key hy
      exact ⟨bcc.2, _, _, bcc.1, rfl⟩
    · cases i with
      | succ i => cases hy
      | zero =>
        cases hy
        refine ⟨cc, rfl, fun v hv => ?_⟩
        cases hv
        exact ⟨.ref C, rfl, _, bcc.1, rfl⟩
  obtain ⟨te, ts, a, us', rfl, ha, hte, hts, q⟩ := hb cc cda A outer s H vs Q E (hr.deeper _) hsp
  have I0 : Inv (ncx CX P w K mg base N (nfS x qual params (supStmt p0 p1 p2 p3 p4 e :: rest) scope cc cda) f A outer s H E) [] (startF N (.ref a :: us') [some (.ref C)]) H { s with heap := h₁, toks := s.toks + (ps.zip us).length } := inv_startN S hr.hd e0 hl r Cl hns kp
  obtain ⟨t1, ho⟩ := exo_at I0.hok ha
  have hkc : scope.names.lookup ("__class__" : Str) = some .free := S.frk _ (List.mem_singleton.mpr rfl)
  obtain ⟨ar, har, hself'⟩ := Option.map_eq_some_iff.mp hp
  have hka : scope.names.lookup ar.arg = some .local := by
    rw [hself']
    exact S.par _ (List.mem_of_getElem? hself)
  have K1 : K.In h₁ := I0.kIn
  obtain ⟨mb, hmb, hmb'⟩ := I0.mod.blt
  have hv : (ps.zip us).reverse.lookup ar.arg = some (.ref a) := by
    rw [hself']
    have ndP : ps.Nodup := by
      have q := S.nd.sublist (List.take_sublist (ps.length + 1) N)
      rw [show N.take (ps.length + 1) = ps ++ [("__class__" : Str)] from S.pre] at q
      exact (List.nodup_append.mp q).1
    obtain ⟨u0, hu0, ru0⟩ := r.get (i := 0) (x := .ref a) rfl
    have e1 : u0 = .ref a := ru0
    rw [e1] at hu0
    exact zip_look ndP hself hu0
  obtain ⟨nm, qq, NN, bs, bm, sn, sub, ab, col, dd, k0, k1, k2, k3, k5, hC, hbm⟩ := T.cls
  have hCh := K1 _ _ hC
  refine ks_wpAt_execs_cons (ks_wpAt_Expr_any ?_ (hi _ _ _) (hs _ _ _))
  refine ks_wpAt_MethodCall ?_ (he _ _ _)
  refine ks_wpAt_super_base hks hkc rfl rfl (K1 _ _ lk) rfl har rfl (K1 _ _ lkc) rfl hv2 hfile htop ?_
  refine PySem.W.ks_loadName_global S.kind hks (PySem.Calls.loadGlobal_builtin (I0.mod.glob.keeps I0.bk) hsup (hmb.keeps I0.bk) ((hmb' _ (by decide)).trans (by kernel_rfl : bootBuiltins "super" = some (.type "super"))) ⟨rfl, ?_⟩)
  refine wpAny_loadName_free S.kind hkc rfl ⟨_, K1 _ _ lkcc, rfl⟩ ?_
  refine wpAny_loadName_local S.kind hka hns hv ?_
  refine ks_wpAny_isType_cls hCh rfl ⟨rfl, ?_⟩
  refine ks_wpAny_call_super hCh rfl ho rfl (fun c e => by cases e) (PySem.W.looks_mroIn K1 B.ss) (fun h' hso k => ?_)
  have I1 : Inv (ncx CX P w K mg base N (nfS x qual params (supStmt p0 p1 p2 p3 p4 e :: rest) scope cc cda) f A outer s H E) [] (startF N (.ref a :: us') [some (.ref C)]) H { s with heap := h', toks := s.toks + (ps.zip us).length } := I0.kept k
  have K2 : K.In h' := I1.kIn
  cases hcl : PySem.W.clsIn K C with
  | none =>
    have z := B.fi
    unfold PySem.W.ks_superIn at z
    rw [hcl] at z
    cases z
  | some cd =>
    have hf := B.fi
    unfold PySem.W.ks_superIn at hf
    rw [hcl] at hf
    have IA : PySem.W.InstAt h' a { cls := .ref C, dict := none, data := .fields #[.ref t1, .none, .none, .none, .bool false, .none] } C none := ⟨k _ _ ho, rfl, rfl, trivial⟩
    refine PySem.W.kxs_getMethod PySem.W.kxs_ValueError hso (PySem.W.looks_opaque K2 B.ho) (l₀ := cd.mro) (fun A Q E s k q => wpAny_bind ((PySem.W.looks_clsIn K2 hcl) A _ E s k (wpAny_pure q))) rfl K2 hf (IA.type.andThen (PySem.W.looks_subIn K2 B.sv)) (PySem.W.ks_ne K2 IA hcl) rfl ?_
    have hpush : ∀ b o, h'.get? b = some o → (h'.push (mwV a)).get? b = some o := fun b o e => Heap.get?_push_of_some _ e
    have hu : (h'.push (mwV a)).get? h'.objs.size = some (mwV a) := Heap.get?_push_at rfl rfl
    have nu : h'.objs.size ≠ s.heap.objs.size := fun z => absurd I1.lt (by
      show ¬ s.heap.objs.size < h'.objs.size
      rw [z]
      exact Nat.lt_irrefl _)
    have hH : H h'.objs.size = none := I1.hok.fresh (Nat.le_refl _)
    have nfs := I1.nofs (Nat.le_refl h'.objs.size)
    have I3 : Inv (ncx CX P w K mg base N (nfS x qual params (supStmt p0 p1 p2 p3 p4 e :: rest) scope cc cda) f A outer s H E) [(h'.objs.size, mwV a)] (startF N (.ref a :: us') [some (.ref C)]) H { s with heap := h'.push (mwV a), toks := s.toks + (ps.zip us).length + 1 } :=
      { (I1.kept (t' := s.toks + (ps.zip us).length + 1) hpush) with
        pin := fun p hp => by
          have hp : p ∈ ([] : List (Addr × Obj)) ++ [(h'.objs.size, mwV a)] := hp
          rw [List.nil_append] at hp
          obtain rfl := List.mem_singleton.mp hp
          exact ⟨hu, hH, nu, nfs, fun v z => by cases z⟩ }
    have bn : base.get? h'.objs.size = none := by
      cases z : base.get? h'.objs.size with
      | none => rfl
      | some o => exact absurd (Heap.lt_size (k _ _ (kp _ _ (e0.bs _ _ z).1))) (Nat.lt_irrefl _)
    refine PySem.W.kxs_callWith1 (i := "ValueError.__init__") (x := a) (h₀ := base) (L := s.heap.objs.size) (news := [(h'.objs.size, mwV a)]) (fun p hp => by
      obtain rfl := List.mem_singleton.mp hp
      exact ⟨hu, nu, bn⟩) (List.mem_singleton.mpr rfl) (thn (hte.run p3 [(h'.objs.size, mwV a)] _ _ _ _ I3 q) fun us2 s2 ⟨ws, H1, I4, r4, hl4, ha4, q4⟩ => ?_) (hst _ _ _) rfl
    have hp4 := (I4.pin (h'.objs.size, mwV a) (by
      show _ ∈ ([] : List (Addr × Obj)) ++ [(h'.objs.size, mwV a)]
      simp)).1
    refine ⟨hp4, sinit_ok T I4 hp4 ha4 (by
      rw [← r4.length, sizeLine_eq]
      omega) fun s' J => ?_⟩
    have J2 : Inv (ncx CX P w K mg base N (nfS x qual params (supStmt p0 p1 p2 p3 p4 e :: rest) scope cc cda) f A outer s H E) [] (startF N (.ref a :: us') [some (.ref C)]) H1 s' :=
      { J with pin := fun p hp => absurd (show p ∈ ([] : List (Addr × Obj)) ++ [] from hp) (by simp) }
    refine wpAt_of_wpAny (wpAny_mono (hts.run [] s' _ H1 _ J2 q4) (fun fl s' hs => ?_) fun e s' hs => hs)
    have fin : ∀ {σ' : L2.St} {H' : Hp} {v : V} {u : Value}, Inv (ncx CX P w K mg base N (nfS x qual params (supStmt p0 p1 p2 p3 p4 e :: rest) scope cc cda) f A outer s H E) [] σ' H' s' → L2.RelV v u → Q v H' → CE outer P w H s Q u s' :=
      fun {σ' H' v u} J rv q => ⟨v, H', J.os, J.bare, J.base, J.hok, rv, q⟩
    cases fl with
    | ret u =>
      obtain ⟨v, σ', H', J, rv, q⟩ := hs
      exact fin J rv q
    | next =>
      obtain ⟨σ', H', J, q⟩ := hs
      exact fin (v := V.non) (u := Value.none) J rfl q
    | brk =>
      obtain ⟨_, _, _, q⟩ := hs
      exact False.elim q
    | cont =>
      obtain ⟨_, _, _, q⟩ := hs
      exact False.elim q
end
/-! ### the Hook: the table cStatics too, and the methods that say super() -/
abbrev FnWS : Type := Option (Str × Str × Arguments × FuncBody × Scope × Addr × List Str × Addr)
def fnWS (K : PySem.W.Frag) (d : He.DefD) : FnWS := match K.lookup (He.fAd K d.at_) with
  | some ⟨_, _, .func fd, _⟩ => some (fd.name, fd.qualname, fd.params, fd.body, fd.scope, fd.globals, fd.closure.map (·.1), fd.builtins)
  | _ => none
def valS (d : He.DefD) : FnWS := some (d.name, d.qual, d.params, .stmts d.body, d.scope, mainGlobals, ["__class__"], builtinsNs)
def fileB (K : PySem.W.Frag) (file : Str) (cd : Value) : Bool := match cd with
  | .ref c => (match K.lookup c with
    | some ⟨_, _, .fields vs, _⟩ => (match (vs[2]? : Option Value) with
      | some (.str y _) => decide (y = file)
      | _ => false)
    | _ => false)
  | _ => false
def cellB (K : PySem.W.Frag) (C : Addr) (cl : List (Str × Addr)) : Bool := match cl with
  | [(_, cc)] => (match K.lookup cc with
    | some ⟨_, _, .cell (some (.ref D)), _⟩ => decide (D = C)
    | _ => false)
  | _ => false
def supDefB (K : PySem.W.Frag) (file : Str) (d : He.DefD) : Bool := match K.lookup (He.fAd K d.at_) with
  | some ⟨_, _, .func fd, _⟩ => PySem.W.codeIn K fd.code d.qual && (decide (fd.defaults = .none) && (decide (fd.kwdefaults = .none) && (fileB K file fd.code && cellB K (He.ga K d.at_.1) fd.closure)))
  | _ => false
theorem fileB_ok {K : PySem.W.Frag} {file : Str} {cd : Value} (h : fileB K file cd = true) : ∃ cda, cd = .ref cda ∧ ∃ (c1 : Value) (d1 : Option Addr) (vs : Array Value) (s1 : Array (Option Value)) (tf : Tok), K.lookup cda = some ⟨c1, d1, .fields vs, s1⟩ ∧ vs[2]? = some (.str file tf) := by
  unfold fileB at h
  split at h
  · rename_i c
    split at h
    · rename_i vs _ ho
      split at h
      · rename_i y t hv
        have e := of_decide_eq_true h
        subst e
        exact ⟨c, rfl, _, _, vs, _, t, ho, hv⟩
      · cases h
    · cases h
  · cases h
theorem cellB_ok {K : PySem.W.Frag} {C : Addr} {cl : List (Str × Addr)} (h : cellB K C cl = true) : ∃ n cc, cl = [(n, cc)] ∧ ∃ (c2 : Value) (d2 : Option Addr) (s2 : Array (Option Value)), K.lookup cc = some ⟨c2, d2, .cell (some (.ref C)), s2⟩ := by
  unfold cellB at h
  split at h
  · rename_i n cc
    split at h
    · rename_i D _ ho
      have e := of_decide_eq_true h
      subst e
      exact ⟨n, cc, rfl, _, _, _, ho⟩
    · cases h
  · cases h
theorem funS_of {K : PySem.W.Frag} {file : Str} {d : He.DefD} (e : fnWS K d = valS d) (c : supDefB K file d = true) : ∃ fd, FunS K (He.ga K d.at_.1) file d.name d.qual d.params d.body d.scope (He.fAd K d.at_) fd := by
  unfold supDefB at c
  unfold fnWS at e
  split at c
  · rename_i oc od fd osl ho
    rw [ho] at e
    obtain ⟨c1, c⟩ := He.ba c
    obtain ⟨c2, c⟩ := He.ba c
    obtain ⟨c3, c⟩ := He.ba c
    obtain ⟨c4, c5⟩ := He.ba c
    obtain ⟨cda, e4, r4⟩ := fileB_ok c4
    obtain ⟨n, cc, e5, r5⟩ := cellB_ok c5
    refine ⟨fd, ?_⟩
    obtain ⟨nm, qn, ps, bd, sc, gl, cl, dv, kv, doc, pm, an, cd, ct, bl⟩ := fd
    dsimp only at e c1 c2 c3 e4 e5
    have e := Option.some.inj e
    have e2 := of_decide_eq_true c2
    have e3 := of_decide_eq_true c3
    subst e4 e5 e2 e3
    have e : (nm, qn, ps, bd, sc, gl, [n], bl) = (d.name, d.qual, d.params, FuncBody.stmts d.body, d.scope, mainGlobals, [("__class__" : Str)], builtinsNs) := e
    simp only [Prod.mk.injEq, List.cons.injEq, and_true] at e
    obtain ⟨z1, z2, z3, z4, z5, z6, z7, z8⟩ := e
    subst z1 z2 z3 z4 z5 z6 z7 z8
    exact ⟨_, _, _, _, _, cda, cc, _, _, rfl, ho, c1, r4, r5⟩
  · cases c
abbrev AlS : Type := He.AlX × List FnWS
def asS (g : Addr → Option Obj) (n : Nat) : List Addr := He.asD g n ++ [cStatics]
def obsK (fa : List He.Fa) (fn : List He.DefD) (tf : List He.Defn) (fs : List He.DefD) (ex : PySem.W.Frag → Bool) (g : Addr → Option Obj) (K : PySem.W.Frag) : AlS := ((He.obsT fa fn [] K, ex K && He.tabsB g tf K), fs.map fun d => fnWS K d)
def obsS (n : Nat) (fa : List He.Fa) (fn : List He.DefD) (tf : List He.Defn) (fs : List He.DefD) (ex : PySem.W.Frag → Bool) (g : Addr → Option Obj) : AlS := obsK fa fn tf fs ex g (He.frT g (asS g n))
def valSS (fn : List He.DefD) (fs : List He.DefD) (w : World) : AlS := (He.valX fn [] w, fs.map valS)
structure SaysS (fa : List He.Fa) (fn : List He.DefD) (tf : List He.Defn) (fs : List He.DefD) (ex : PySem.W.Frag → Bool) (w : World) (h : Heap) (K : PySem.W.Frag) : Prop where
  x : He.SaysX fa fn [] tf ex w h K
  s : fs.map (fun d => fnWS K d) = fs.map valS
theorem SaysS.def_ {fa : List He.Fa} {fn fs : List He.DefD} {tf : List He.Defn} {ex : PySem.W.Frag → Bool} {w : World} {h : Heap} {K : PySem.W.Frag} (c : SaysS fa fn tf fs ex w h K) (i : Nat) {d : He.DefD} (hd : fs[i]? = some d) : fnWS K d = valS d := by
  have e2 : (fs.map fun d => fnWS K d)[i]? = (fs.map valS)[i]? := by rw [c.s]
  rw [List.getElem?_map, List.getElem?_map, hd] at e2
  exact Option.some.inj e2
theorem saysS_of {n : Nat} {fa : List He.Fa} {fn fs : List He.DefD} {tf : List He.Defn} {ex : PySem.W.Frag → Bool} {w : World} {h : Heap} (e : obsS n fa fn tf fs ex h.get? = valSS fn fs w) : SaysS fa fn tf fs ex w h (He.frT h.get? (asS h.get? n)) := by
  have e0 : (He.obsT fa fn [] (He.frT h.get? (asS h.get? n)), ex (He.frT h.get? (asS h.get? n)) && He.tabsB h.get? tf (He.frT h.get? (asS h.get? n))) = He.valX fn [] w := congrArg (fun z : AlS => z.1) e
  have e3 : fs.map (fun d => fnWS (He.frT h.get? (asS h.get? n)) d) = fs.map valS := congrArg (fun z : AlS => z.2) e
  have e1 : He.obsT fa fn [] (He.frT h.get? (asS h.get? n)) = He.valT fn [] w := congrArg (fun z : He.AlX => z.1) e0
  have e2 : (ex (He.frT h.get? (asS h.get? n)) && He.tabsB h.get? tf (He.frT h.get? (asS h.get? n))) = true := congrArg (fun z : He.AlX => z.2) e0
  obtain ⟨h1, h2⟩ := He.ba e2
  have tab : ∀ p ∈ tf, PySem.W.codeHdIn (He.frT h.get? (asS h.get? n)) (He.cT (He.frT h.get? (asS h.get? n)) p).1 (He.cT (He.frT h.get? (asS h.get? n)) p).2 = true ∧ ∃ o, h.get? (He.cT (He.frT h.get? (asS h.get? n)) p).2 = some o ∧ He.emptyTab o = true := fun p hp => by
    obtain ⟨h3, h4⟩ := He.ba (List.all_eq_true.mp h2 p hp)
    refine ⟨h3, ?_⟩
    split at h4
    · rename_i o q
      exact ⟨o, q, h4⟩
    · cases h4
  refine ⟨⟨e1, h1, fun p hp => (tab p hp).1, fun p hp => ?_, fun p hp => ?_⟩, e3⟩
  · obtain ⟨_, o, q, z⟩ := tab p hp
    exact He.frT_none q z
  · obtain ⟨_, o, q, z⟩ := tab p hp
    rw [q, He.emptyTab_eq z]
def hookS (n : Nat) (fa : List He.Fa) (fn : List He.DefD) (tf : List He.Defn) (fs : List He.DefD) (ex : PySem.W.Frag → Bool) : PySem.W.Hook where
  α := AlS
  obs := fun s => obsS n fa fn tf fs ex s.heap.get?
  val := fun w => valSS fn fs w
  says := fun w h => ∃ K : PySem.W.Frag, K.In h ∧ SaysS fa fn tf fs ex w h K
  of := fun _ _ e => ⟨_, He.frT_in, saysS_of e⟩
  keeps := fun _ _ _ ⟨K, hK, c⟩ k => ⟨K, PySem.W.Frag.In.keeps hK k, ⟨⟨c.x.t, c.x.more, c.x.hd, c.x.out, fun p hp => k _ _ (c.x.empty p hp)⟩, c.s⟩⟩
theorem obsS_eq {n : Nat} {fa : List He.Fa} {fn fs : List He.DefD} {tf : List He.Defn} {ex : PySem.W.Frag → Bool} {g : Addr → Option Obj} {s : Shared} (h : ∀ a, g a = s.heap.get? a) : obsS n fa fn tf fs ex g = (hookS n fa fn tf fs ex).obs s := by
  have e : g = s.heap.get? := funext h
  rw [e] <;> rfl
end UbS

namespace UbK
open PySem PySem.Spec PyProof.Rows L2 Ub UbM UbR
def topS (i : Nat) : Stmt := PySem.Challenge.pw_unbent_k43_whole_lies_of_one_number.main.body.getD i (.Pass ⟨0, 0, 0, 0⟩)
def topM (i j : Nat) : Stmt := match topS i with
  | .ClassDef _ _ _ body _ _ _ _ _ _ _ => body.getD j (.Pass ⟨0, 0, 0, 0⟩)
  | _ => .Pass ⟨0, 0, 0, 0⟩
abbrev s_InvalidThresholds___init__ : Stmt := topM 4 0
abbrev N_InvalidThresholds___init__ : List Str := ["self", "reason", "__class__"]
theorem sc_InvalidThresholds___init__ : NdefX.NScope N_InvalidThresholds___init__ ["self", "reason"] ["__class__"] (defScope s_InvalidThresholds___init__) := NdefX.nscope_by (by decide +kernel)
abbrev s_make : Stmt := topS 7
abbrev N_make : List Str := ["p", "q", "common"]
theorem sc_make : FnScope N_make ["p", "q"] (defScope s_make) := ⟨rfl, rfl, rfl, by decide +kernel, rfl, by decide +kernel, by decide +kernel⟩
abbrev s_add : Stmt := topS 8
abbrev N_add : List Str := ["a", "b"]
theorem sc_add : FnScope N_add ["a", "b"] (defScope s_add) := ⟨rfl, rfl, rfl, by decide +kernel, rfl, by decide +kernel, by decide +kernel⟩
abbrev s_subtract : Stmt := topS 9
abbrev N_subtract : List Str := ["a", "b"]
theorem sc_subtract : FnScope N_subtract ["a", "b"] (defScope s_subtract) := ⟨rfl, rfl, rfl, by decide +kernel, rfl, by decide +kernel, by decide +kernel⟩
abbrev s_multiply : Stmt := topS 10
abbrev N_multiply : List Str := ["a", "b"]
theorem sc_multiply : FnScope N_multiply ["a", "b"] (defScope s_multiply) := ⟨rfl, rfl, rfl, by decide +kernel, rfl, by decide +kernel, by decide +kernel⟩
abbrev s_divide : Stmt := topS 11
abbrev N_divide : List Str := ["a", "b"]
theorem sc_divide : FnScope N_divide ["a", "b"] (defScope s_divide) := ⟨rfl, rfl, rfl, by decide +kernel, rfl, by decide +kernel, by decide +kernel⟩
abbrev s_sign : Stmt := topS 12
abbrev N_sign : List Str := ["a"]
theorem sc_sign : FnScope N_sign ["a"] (defScope s_sign) := ⟨rfl, rfl, rfl, by decide +kernel, rfl, by decide +kernel, by decide +kernel⟩
abbrev s_compare : Stmt := topS 13
abbrev N_compare : List Str := ["a", "b"]
theorem sc_compare : FnScope N_compare ["a", "b"] (defScope s_compare) := ⟨rfl, rfl, rfl, by decide +kernel, rfl, by decide +kernel, by decide +kernel⟩
abbrev s__law_mix : Stmt := topS 20
abbrev N__law_mix : List Str := ["number", "k"]
theorem sc__law_mix : FnScope N__law_mix ["number", "k"] (defScope s__law_mix) := ⟨rfl, rfl, rfl, by decide +kernel, rfl, by decide +kernel, by decide +kernel⟩
abbrev s__law_numbers : Stmt := topS 21
abbrev N__law_numbers : List Str := ["script", "count", "row", "base", "cell", "rest", "k"]
theorem sc__law_numbers : FnScope N__law_numbers ["script", "count"] (defScope s__law_numbers) := ⟨rfl, rfl, rfl, by decide +kernel, rfl, by decide +kernel, by decide +kernel⟩
abbrev s__law_take : Stmt := topS 22
abbrev N__law_take : List Str := ["row", "bound"]
theorem sc__law_take : FnScope N__law_take ["row", "bound"] (defScope s__law_take) := ⟨rfl, rfl, rfl, by decide +kernel, rfl, by decide +kernel, by decide +kernel⟩
abbrev s__law_lowest : Stmt := topS 24
abbrev N__law_lowest : List Str := ["p", "q", "first", "second", "k"]
theorem sc__law_lowest : FnScope N__law_lowest ["p", "q"] (defScope s__law_lowest) := ⟨rfl, rfl, rfl, by decide +kernel, rfl, by decide +kernel, by decide +kernel⟩
abbrev s__law_fraction : Stmt := topS 23
abbrev N__law_fraction : List Str := ["row", "choice"]
theorem sc__law_fraction : FnScope N__law_fraction ["row"] (defScope s__law_fraction) := ⟨rfl, rfl, rfl, by decide +kernel, rfl, by decide +kernel, by decide +kernel⟩
abbrev s__law_plus : Stmt := topS 25
abbrev N__law_plus : List Str := ["a", "b"]
theorem sc__law_plus : FnScope N__law_plus ["a", "b"] (defScope s__law_plus) := ⟨rfl, rfl, rfl, by decide +kernel, rfl, by decide +kernel, by decide +kernel⟩
abbrev s__law_times : Stmt := topS 26
abbrev N__law_times : List Str := ["a", "b"]
theorem sc__law_times : FnScope N__law_times ["a", "b"] (defScope s__law_times) := ⟨rfl, rfl, rfl, by decide +kernel, rfl, by decide +kernel, by decide +kernel⟩
abbrev s__law_less : Stmt := topS 27
abbrev N__law_less : List Str := ["a", "b"]
theorem sc__law_less : FnScope N__law_less ["a", "b"] (defScope s__law_less) := ⟨rfl, rfl, rfl, by decide +kernel, rfl, by decide +kernel, by decide +kernel⟩
abbrev s__law_minus : Stmt := topS 29
abbrev N__law_minus : List Str := ["a", "b"]
theorem sc__law_minus : FnScope N__law_minus ["a", "b"] (defScope s__law_minus) := ⟨rfl, rfl, rfl, by decide +kernel, rfl, by decide +kernel, by decide +kernel⟩
abbrev s_Thresholds___init__ : Stmt := topM 16 0
abbrev N_Thresholds___init__ : List Str := ["self", "low", "high", "cuts", "shares", "ends", "start", "end"]
theorem sc_Thresholds___init__ : FnScope N_Thresholds___init__ ["self", "low", "high", "cuts", "shares"] (defScope s_Thresholds___init__) := ⟨rfl, rfl, rfl, by decide +kernel, rfl, by decide +kernel, by decide +kernel⟩
abbrev s__gain : Stmt := topS 17
abbrev N__gain : List Str := ["more", "dearer", "number"]
theorem sc__gain : FnScope N__gain ["more", "dearer", "number"] (defScope s__gain) := ⟨rfl, rfl, rfl, by decide +kernel, rfl, by decide +kernel, by decide +kernel⟩
abbrev s__gainer : Stmt := topS 18
abbrev N__gainer : List Str := ["more", "dearer", "start", "end", "nothing"]
theorem sc__gainer : FnScope N__gainer ["more", "dearer", "start", "end"] (defScope s__gainer) := ⟨rfl, rfl, rfl, by decide +kernel, rfl, by decide +kernel, by decide +kernel⟩
abbrev s_Thresholds_lie : Stmt := topM 16 4
abbrev N_Thresholds_lie : List Str := ["self", "payments", "ends", "i", "share", "j", "start", "more", "dearer", "true"]
theorem sc_Thresholds_lie : FnScope N_Thresholds_lie ["self", "payments"] (defScope s_Thresholds_lie) := ⟨rfl, rfl, rfl, by decide +kernel, rfl, by decide +kernel, by decide +kernel⟩
abbrev s__law_steps : Stmt := topS 30
abbrev N__law_steps : List Str := ["row", "low", "points", "k", "shares"]
theorem sc__law_steps : FnScope N__law_steps ["row"] (defScope s__law_steps) := ⟨rfl, rfl, rfl, by decide +kernel, rfl, by decide +kernel, by decide +kernel⟩
abbrev s__law_piece : Stmt := topS 31
abbrev N__law_piece : List Str := ["points", "number", "found", "k"]
theorem sc__law_piece : FnScope N__law_piece ["points", "number"] (defScope s__law_piece) := ⟨rfl, rfl, rfl, by decide +kernel, rfl, by decide +kernel, by decide +kernel⟩
abbrev s__law_has : Stmt := topS 32
abbrev N__law_has : List Str := ["points", "shares", "payments", "number", "told", "piece"]
theorem sc__law_has : FnScope N__law_has ["points", "shares", "payments", "number", "told"] (defScope s__law_has) := ⟨rfl, rfl, rfl, by decide +kernel, rfl, by decide +kernel, by decide +kernel⟩
abbrev s__law_tolls : Stmt := topS 33
abbrev N__law_tolls : List Str := ["points", "shares", "tolls", "k"]
theorem sc__law_tolls : FnScope N__law_tolls ["points", "shares"] (defScope s__law_tolls) := ⟨rfl, rfl, rfl, by decide +kernel, rfl, by decide +kernel, by decide +kernel⟩
abbrev s__law_refused : Stmt := topS 34
abbrev N__law_refused : List Str := ["made", "payments"]
theorem sc__law_refused : FnScope N__law_refused ["made", "payments"] (defScope s__law_refused) := ⟨rfl, rfl, rfl, by decide +kernel, rfl, by decide +kernel, by decide +kernel⟩
abbrev s__law_numbers_in : Stmt := topS 35
abbrev N__law_numbers_in : List Str := ["row", "points", "numbers", "k", "step", "part"]
theorem sc__law_numbers_in : FnScope N__law_numbers_in ["row", "points"] (defScope s__law_numbers_in) := ⟨rfl, rfl, rfl, by decide +kernel, rfl, by decide +kernel, by decide +kernel⟩
abbrev s__law_lie_right : Stmt := topS 36
abbrev N__law_lie_right : List Str := ["points", "shares", "payments", "lie", "true", "told", "gain", "number", "own", "other"]
theorem sc__law_lie_right : FnScope N__law_lie_right ["points", "shares", "payments", "lie"] (defScope s__law_lie_right) := ⟨rfl, rfl, rfl, by decide +kernel, rfl, by decide +kernel, by decide +kernel⟩
abbrev s_law : Stmt := topS 37
abbrev N_law : List Str := ["script", "row", "points", "shares", "tolls", "made", "k", "ascending", "extra", "near", "plans", "numbers", "turn", "payments", "given", "lie", "number", "own", "told", "toll"]
theorem sc_law : FnScope N_law ["script"] (defScope s_law) := ⟨rfl, rfl, rfl, by decide +kernel, rfl, by decide +kernel, by decide +kernel⟩
/-! ### words of my own for readings -/
local macro_rules | `(tactic| walk_at "un") => `(tactic| try dsimp only [L2.start, tVar, tC, tOp, tUn, tTest, tB, tAnd, tOr, tNot, tAndV, tOrV, tNotV, tIf, tNext, tSeq, tBreak, tCont, tDrop, tRet, tRetN, tIfS, tNever, gName, gNil, gCons, gSub, tAsg, tPar, tSl, tPart, tNoPart, tNil, tCons, tCall, tCallS, tCB, tBM, tBM0, tChain, tTupN, tLstN, gTup, Cx.nox, Cx.wish, cxOf, List.map, List.replicate, List.length, List.cons_append, List.nil_append, List.set, List.getElem?_cons_zero, List.getElem?_cons_succ, Nat.reduceAdd, Nat.reduceSub, N_InvalidThresholds___init__, N_make, N_add, N_subtract, N_multiply, N_divide, N_sign, N_compare, N__law_mix, N__law_numbers, N__law_take, N__law_lowest, N__law_fraction, N__law_plus, N__law_times, N__law_less, N__law_minus, N_Thresholds___init__, N__gain, N__gainer, N_Thresholds_lie, N__law_steps, N__law_piece, N__law_has, N__law_tolls, N__law_refused, N__law_numbers_in, N__law_lie_right, N_law])
local macro_rules | `(tactic| walk_at "dp") => `(tactic| first | assumption | exact .int _ | exact .bl _ | exact .str _ | exact .non | exact Ub.Dp.mono (by assumption) _ _ (by walk_at "dp"))
local macro_rules | `(tactic| walk_at "fr") => `(tactic| first | assumption | exact Ub.Fr.mono (by assumption) (by walk_at "fr"))
local macro_rules | `(tactic| walk_at "dps") => `(tactic| first | exact .nil | (refine' .cons ?j1 ?j2; (case j1 => walk_at "dp"); (case j2 => walk_at "dps")))
local macro_rules | `(tactic| walk_at "st") => `(tactic| first
  | (with_reducible refine ⟨_, rfl, ?_⟩)
  | (with_reducible refine rdAdd ?_)
  | (with_reducible refine rdSub ?_)
  | (with_reducible refine rdNeg ?_)
  | (with_reducible refine rdEqI ?_)
  | (with_reducible refine rdNeI ?_)
  | (with_reducible refine rdLt ?_)
  | (with_reducible refine rdGt ?_)
  | (with_reducible refine rdLe ?_)
  | (with_reducible refine rdGe ?_)
  | (with_reducible refine rdInt ?_)
  | (with_reducible refine rdIntB ?_)
  | (with_reducible refine rdAbs ?_)
  | (with_reducible refine rdGcd ?_)
  | (with_reducible refine rdEqB ?_)
  | (with_reducible refine rdEqS ?_)
  | (with_reducible refine rdNeS ?_)
  | ((with_reducible refine' ixFr0 ?k1 ?_); (case k1 => walk_at "fr"))
  | ((with_reducible refine' ixFr1 ?k1 ?_); (case k1 => walk_at "fr"))
  | ((with_reducible refine' ixP0 ?k1 ?_); (case k1 => walk_at "dp"))
  | ((with_reducible refine' ixP1 ?k1 ?_); (case k1 => walk_at "dp"))
  | ((with_reducible refine' rdIsN ?k1 ?_); (case k1 => walk_at "dp"))
  | ((with_reducible refine' rdNotN ?k1 ?_); (case k1 => walk_at "dp"))
  | ((with_reducible refine' isiInt ?k1 ?_); (case k1 => walk_at "dp"))
  | ((with_reducible refine' isiBool ?k1 ?_); (case k1 => walk_at "dp"))
  | ((with_reducible refine' isiStr ?k1 ?_); (case k1 => walk_at "dp"))
  | ((with_reducible refine' isiTup ?k1 ?_); (case k1 => walk_at "dp"))
  | ((with_reducible refine' isiLst ?k1 ?_); (case k1 => walk_at "dp"))
  | ((with_reducible refine' rdIxL ?k1 ?k2 ?_); (case k1 => first | assumption | exact .inl (.inl (by assumption)) | exact .inl (.inl upd_same)); (case k2 => exact rfl))
  | ((with_reducible refine' rdMul ?k1 ?_); (case k1 => first | exact .inl (.inr ⟨by decide, by decide⟩) | exact .inl (.inl ⟨by decide, by decide⟩) | exact mulW (by assumption) (by assumption) (by omega)))
  | ((with_reducible refine' rdLenL ?k1 ?_); (case k1 => first | assumption | exact .inl (.inl (by assumption))))
  | ((with_reducible refine' rdLenT ?k1 ?_); (case k1 => first | assumption | exact .inl (.inl (by assumption))))
  | (with_reducible refine rdMin2 ?_)
  | ((with_reducible refine' rdTupD (K := ‹PySem.W.Frag›) ?k1 ?k2 (fun _ _ _ _ => ?_)); (case k1 => walk_at "dps"); (case k2 => exact small_line (Nat.le_of_ble_eq_true rfl)))
  | (with_reducible refine ⟨_, by rfl, ?_⟩))
local macro_rules | `(tactic| walk_at "go") => `(tactic| repeat walk_at "st")
local macro_rules | `(tactic| walk_at "for") => `(tactic| try dsimp only [tFor, iRng1, iRng2, iList, iTup, tCons, tC, tNil, tVar, tOp, tCB, tUn, List.getElem?_cons_zero, List.getElem?_cons_succ])
local macro_rules | `(tactic| walk_at "ew") => `(tactic| (simp only [dInt, dBool, dStr, dTup, dLst, dNon, Bool.not_true, Bool.not_false, reduceIte, Bool.false_eq_true, Bool.true_eq_false, decide_true, decide_false, Bool.not_not, if_true, if_false, decide_eq_true_eq, true_and, and_true]))
local macro_rules | `(tactic| walk_at "ev") => `(tactic| try walk_at "ew")
local macro_rules | `(tactic| walk_at "gv") => `(tactic| repeat first | walk_at "st" | walk_at "ew")
local macro_rules | `(tactic| walk_at "it") => `(tactic| try dsimp only [iRng1, iRng2, iList, iTup, iZip, iEnum])
/-- what stands at the module's names -/
structure Tx (K : PySem.W.Frag) (mg : Str → Option Value) : Prop where
  n_abs : mg "abs" = none
  n_any : mg "any" = none
  n_enumerate : mg "enumerate" = none
  n_int : mg "int" = none
  n_isinstance : mg "isinstance" = none
  n_len : mg "len" = none
  n_list : mg "list" = none
  n_range : mg "range" = none
  n_super : mg "super" = none
  n_tuple : mg "tuple" = none
  n_zip : mg "zip" = none
  g_gcd : mg "gcd" = some (.builtin "math.gcd")
  c__MOST_CUTS : ∃ t, mg "_MOST_CUTS" = some (.int 7 t)
  e_ZeroDenominator : ExcK K mg "ZeroDenominator"
  m_InvalidThresholds_InvalidThresholds : PySem.W.exmOne K (.ref (He.ga K "InvalidThresholds")) (.ref (He.ga K "InvalidThresholds")) = some true
  gc_InvalidThresholds : mg "InvalidThresholds" = some (.ref (He.ga K "InvalidThresholds"))
  gc_Thresholds : mg "Thresholds" = some (.ref (He.ga K "Thresholds"))
  x_InvalidThresholds : UbC.OexI K (He.ga K "InvalidThresholds")
  cl_Thresholds : Cls K (He.ga K "Thresholds")
  na_InvalidThresholds_reason : PySem.W.findIn K (.ref (He.ga K "InvalidThresholds")) "reason" = some none
  na_Thresholds_low : PySem.W.findIn K (.ref (He.ga K "Thresholds")) "low" = some none
  na_Thresholds_high : PySem.W.findIn K (.ref (He.ga K "Thresholds")) "high" = some none
  na_Thresholds_cuts : PySem.W.findIn K (.ref (He.ga K "Thresholds")) "cuts" = some none
  na_Thresholds_shares : PySem.W.findIn K (.ref (He.ga K "Thresholds")) "shares" = some none
section
variable {P : Program} {w : World} {K : PySem.W.Frag} {mg : Str → Option Value} {base : Heap}
/-! ### InvalidThresholds___init__ -/
abbrev sp_InvalidThresholds___init__ (K : PySem.W.Frag) : Sp := UbC.spEI (He.ga K "InvalidThresholds") (UbC.fl1 "reason") UbC.okT
theorem ok_InvalidThresholds___init__ {f : Addr} {fd : FuncData} {file : Str} (T : Tx K mg) (F : UbS.FunS K (He.ga K "InvalidThresholds") file "__init__" "InvalidThresholds.__init__" (defArgs s_InvalidThresholds___init__) (defBody s_InvalidThresholds___init__) (defScope s_InvalidThresholds___init__) f fd) (B : UbS.SupC K (He.ga K "InvalidThresholds")) (hfile : (P.main.file == file) = true) (htop : (P.main.scope.names.lookup ("super" : Str)).isSome = false) : FnOk P w K mg base (L2.CX P w) 1 f fd ["self", "reason"] (sp_InvalidThresholds___init__ K) := by
  refine UbS.FunS.ok F B T.x_InvalidThresholds.oex T.n_super hfile htop sc_InvalidThresholds___init__ (by rfl) (by rfl) (by rfl) (by rfl) (fun _ _ _ => rfl) (fun _ _ _ => rfl) (fun _ _ _ => rfl) (fun _ _ _ => rfl) (fun vs H Q E h => ?_) (fun cc cda A outer s H vs Q E hr h => ?_)
  · obtain ⟨_, _, rfl, h, _⟩ := h
    obtain ⟨_, rfl, _⟩ := h
    rfl
  · obtain ⟨a, us, rfl, ⟨y, rfl, hy⟩, ha, q⟩ := h
    refine ⟨_, _, a, _, rfl, ha, (pa_cons (pe_joined (PJ.cons pe_str (PJ.cons (pe_fmt (pv 1)) PJ.nil))) pa_nil), (pss_one (ps_ost (pv 0) (pv 1))), ?_⟩
    walk_at "un"
    dsimp only [NdefX.startF, tOst, tCons, tVar, tC, tNil, tFmt, tJs, List.map_cons, List.map_nil, List.length_cons, List.length_nil, List.replicate, List.cons_append, List.nil_append, List.append_nil, List.getElem?_cons_zero, List.getElem?_cons_succ]
    walk_at "go"
    refine ⟨UbC.flen0 (by decide +kernel), _, rfl, .inl ⟨y, rfl, by rw [sizeLine_eq]; omega, y, rfl, UbC.flen (by decide +kernel) hy, Nat.le_of_ble_eq_true rfl, ha, .str y, rfl, .ref a, rfl, a, _, rfl, T.x_InvalidThresholds.oex, T.na_InvalidThresholds_reason, .inl ⟨ha, fun d nd hd => q d nd hd⟩⟩⟩
/-! ### make -/
/-- make(p, q): the fraction p / q; for q = 0 the error (E) -/
def sp_make (K : PySem.W.Frag) : Sp := fun vs H Q E => ∃ (p q : Int) (n : Nat), vs = [.int p, .int q] ∧ q.natAbs < 2 ^ n ∧ n < 9000 ∧ (q = 0 → E (.ref (He.ga K "ZeroDenominator")) none H) ∧ (q ≠ 0 → ∀ H' v, Same H H' → Fr K H' v (Rat.divInt p q) → Q v H')
theorem gcd_le_r {p q : Int} (h : q ≠ 0) : ((Nat.gcd p.natAbs q.natAbs : Nat) : Int).natAbs ≤ q.natAbs := Nat.le_of_dvd (by omega) (Nat.gcd_dvd_right ..)
theorem ok_make {f : Addr} {fd : FuncData} (T : Tx K mg) (F : FunD K "make" "make" (defArgs s_make) (defBody s_make) (defScope s_make) [V.int 1] [] f fd) : FnOk P w K mg base (L2.CX P w) 1 f fd ["p", "q"] (sp_make K) := by
  refine F.ok sc_make (fun vs H Q E h => ?_) (fun cdv A outer s H vs Q E hr h => ?_)
  · obtain ⟨_, _, _, rfl, _⟩ := h
    rfl
  · obtain ⟨p, q, n, rfl, hn, hn9, k0, k1⟩ := h
    refine ⟨_, (pss_cons (ps_if (pt_cmpR (op_eqA hr.units) (pv 1) pe_int (nomark _)) (pss_one (ps_raise0 rfl T.e_ZeroDenominator (takes_of rfl rfl rfl rfl) (by rfl))) pss_nil) (pss_cons (ps_set (i := 2) sc_make.nd rfl (Or.inl rfl) (pe_callBfun cr_gcd (by rfl) T.g_gcd (pa_cons (pv 0) (pa_cons (pv 1) pa_nil)))) (pss_cons (ps_if (pt_cmpR op_lt (pv 1) pe_int (nomark _)) (pss_one (ps_set (i := 2) sc_make.nd rfl (Or.inl rfl) (pe_un un_neg (pv 2)))) pss_nil) (pss_one (ps_ret (pe_tupN (pa_cons (pe_op op_fdivX (pv 0) (pv 2)) (pa_cons (pe_op op_fdivX (pv 1) (pv 2)) pa_nil)))))))), ?_⟩
    walk_at "un"
    walk_at "go"
    refine ifD (fun e => k0 e) (fun e => ?_)
    have hg := gcd_pos (p := p) e
    have hl := gcd_le_r (p := p) e
    have hb : ((Nat.gcd p.natAbs q.natAbs : Nat) : Int).natAbs < 2 ^ n := Nat.lt_of_le_of_lt hl hn
    walk_at "go"
    refine ifD (fun c => ?_) (fun c => ?_)
    · have hb2 : (-((Nat.gcd p.natAbs q.natAbs : Nat) : Int)).natAbs < 2 ^ n := by
        rw [Int.natAbs_neg]
        exact hb
      walk_at "go"
      refine rdDiv (divX (by omega) hb2 hn9) ?_
      walk_at "go"
      refine rdDiv (divX (by omega) hb2 hn9) ⟨line2, fun a na => ?_⟩
      exact k1 e _ _ (sameNew na) (frNew (num_neg c) (den_neg c))
    · have c2 : 0 < q := by omega
      walk_at "go"
      refine rdDivP (by omega) hb hn9 ?_
      walk_at "go"
      refine rdDivP (by omega) hb hn9 ⟨line2, fun a na => ?_⟩
      exact k1 e _ _ (sameNew na) (frNew (num_pos c2) (den_pos c2))
/-! ### add -/
def sp_add (K : PySem.W.Frag) : Sp := fun vs H Q _ => ∃ (v u : V) (r s : Rat) (m n : Nat), vs = [v, u] ∧ Fr K H v r ∧ Fr K H u s ∧ Bd m r ∧ Bd n s ∧ m + n < 8999 ∧ ∀ H' x, Same H H' → Fr K H' x (r + s) → Q x H'
theorem ok_add {f : Addr} {fd : FuncData} (T : Tx K mg) (F : FunD K "add" "add" (defArgs s_add) (defBody s_add) (defScope s_add) [] [] f fd) (C_make : Cal P w K mg base "make" 1 ["p", "q"] [] (sp_make K)) : FnOk P w K mg base (L2.CX P w) 2 f fd ["a", "b"] (sp_add K) := by
  refine F.ok sc_add (fun vs H Q E h => ?_) (fun cdv A outer st H vs Q E hr h => ?_)
  · obtain ⟨_, _, _, _, _, _, rfl, _⟩ := h
    rfl
  · obtain ⟨v, u, r, s, m, n, rfl, hv, hu, ⟨h1, h2'⟩, ⟨h3, h4'⟩, hmn, q⟩ := h
    have h2 : (r.den : Int).natAbs < 2 ^ m := h2'
    have h4 : (s.den : Int).natAbs < 2 ^ n := h4'
    refine ⟨_, PSs.nox (pss_one (ps_ret (pe_callC C_make hr (by decide) (by rfl) (pa_cons (pe_op op_add (pe_op op_mulG (pe_ix ix_seq (pv 0) pe_int (fun _ _ => rfl)) (pe_ix ix_seq (pv 1) pe_int (fun _ _ => rfl))) (pe_op op_mulG (pe_ix ix_seq (pv 1) pe_int (fun _ _ => rfl)) (pe_ix ix_seq (pv 0) pe_int (fun _ _ => rfl)))) (pa_cons (pe_op op_mulG (pe_ix ix_seq (pv 0) pe_int (fun _ _ => rfl)) (pe_ix ix_seq (pv 1) pe_int (fun _ _ => rfl))) pa_nil))))), ?_⟩
    walk_at "un"
    walk_at "go"
    refine ⟨_, _, m + n, rfl, mul_lt h2 h4, by omega, fun e => absurd e (Int.mul_ne_zero (den_ne r) (den_ne s)), fun _ H' x sm hx => ?_⟩
    rw [add_as] at hx
    exact q _ _ sm hx
/-! ### subtract -/
def sp_subtract (K : PySem.W.Frag) : Sp := fun vs H Q _ => ∃ (v u : V) (r s : Rat) (m n : Nat), vs = [v, u] ∧ Fr K H v r ∧ Fr K H u s ∧ Bd m r ∧ Bd n s ∧ m + n < 8999 ∧ ∀ H' x, Same H H' → Fr K H' x (r - s) → Q x H'
theorem ok_subtract {f : Addr} {fd : FuncData} (T : Tx K mg) (F : FunD K "subtract" "subtract" (defArgs s_subtract) (defBody s_subtract) (defScope s_subtract) [] [] f fd) (C_make : Cal P w K mg base "make" 1 ["p", "q"] [] (sp_make K)) : FnOk P w K mg base (L2.CX P w) 2 f fd ["a", "b"] (sp_subtract K) := by
  refine F.ok sc_subtract (fun vs H Q E h => ?_) (fun cdv A outer st H vs Q E hr h => ?_)
  · obtain ⟨_, _, _, _, _, _, rfl, _⟩ := h
    rfl
  · obtain ⟨v, u, r, s, m, n, rfl, hv, hu, ⟨h1, h2'⟩, ⟨h3, h4'⟩, hmn, q⟩ := h
    have h2 : (r.den : Int).natAbs < 2 ^ m := h2'
    have h4 : (s.den : Int).natAbs < 2 ^ n := h4'
    refine ⟨_, PSs.nox (pss_one (ps_ret (pe_callC C_make hr (by decide) (by rfl) (pa_cons (pe_op op_sub (pe_op op_mulG (pe_ix ix_seq (pv 0) pe_int (fun _ _ => rfl)) (pe_ix ix_seq (pv 1) pe_int (fun _ _ => rfl))) (pe_op op_mulG (pe_ix ix_seq (pv 1) pe_int (fun _ _ => rfl)) (pe_ix ix_seq (pv 0) pe_int (fun _ _ => rfl)))) (pa_cons (pe_op op_mulG (pe_ix ix_seq (pv 0) pe_int (fun _ _ => rfl)) (pe_ix ix_seq (pv 1) pe_int (fun _ _ => rfl))) pa_nil))))), ?_⟩
    walk_at "un"
    walk_at "go"
    refine ⟨_, _, m + n, rfl, mul_lt h2 h4, by omega, fun e => absurd e (Int.mul_ne_zero (den_ne r) (den_ne s)), fun _ H' x sm hx => ?_⟩
    rw [sub_as] at hx
    exact q _ _ sm hx
/-! ### multiply -/
def sp_multiply (K : PySem.W.Frag) : Sp := fun vs H Q _ => ∃ (v u : V) (r s : Rat) (m n : Nat), vs = [v, u] ∧ Fr K H v r ∧ Fr K H u s ∧ Bd m r ∧ Bd n s ∧ m + n < 8999 ∧ ∀ H' x, Same H H' → Fr K H' x (r * s) → Q x H'
theorem ok_multiply {f : Addr} {fd : FuncData} (T : Tx K mg) (F : FunD K "multiply" "multiply" (defArgs s_multiply) (defBody s_multiply) (defScope s_multiply) [] [] f fd) (C_make : Cal P w K mg base "make" 1 ["p", "q"] [] (sp_make K)) : FnOk P w K mg base (L2.CX P w) 2 f fd ["a", "b"] (sp_multiply K) := by
  refine F.ok sc_multiply (fun vs H Q E h => ?_) (fun cdv A outer st H vs Q E hr h => ?_)
  · obtain ⟨_, _, _, _, _, _, rfl, _⟩ := h
    rfl
  · obtain ⟨v, u, r, s, m, n, rfl, hv, hu, ⟨h1, h2'⟩, ⟨h3, h4'⟩, hmn, q⟩ := h
    have h2 : (r.den : Int).natAbs < 2 ^ m := h2'
    have h4 : (s.den : Int).natAbs < 2 ^ n := h4'
    refine ⟨_, PSs.nox (pss_one (ps_ret (pe_callC C_make hr (by decide) (by rfl) (pa_cons (pe_op op_mulG (pe_ix ix_seq (pv 0) pe_int (fun _ _ => rfl)) (pe_ix ix_seq (pv 1) pe_int (fun _ _ => rfl))) (pa_cons (pe_op op_mulG (pe_ix ix_seq (pv 0) pe_int (fun _ _ => rfl)) (pe_ix ix_seq (pv 1) pe_int (fun _ _ => rfl))) pa_nil))))), ?_⟩
    walk_at "un"
    walk_at "go"
    refine ⟨_, _, m + n, rfl, mul_lt h2 h4, by omega, fun e => absurd e (Int.mul_ne_zero (den_ne r) (den_ne s)), fun _ H' x sm hx => ?_⟩
    rw [mul_as] at hx
    exact q _ _ sm hx
/-! ### divide -/
/-- divide: for s = 0 the error -/
def sp_divide (K : PySem.W.Frag) : Sp := fun vs H Q E => ∃ (v u : V) (r s : Rat) (m n : Nat), vs = [v, u] ∧ Fr K H v r ∧ Fr K H u s ∧ Bd m r ∧ Bd n s ∧ m + n < 8999 ∧ (s = 0 → E (.ref (He.ga K "ZeroDenominator")) none H) ∧ (s ≠ 0 → ∀ H' x, Same H H' → Fr K H' x (r / s) → Q x H')
theorem ok_divide {f : Addr} {fd : FuncData} (T : Tx K mg) (F : FunD K "divide" "divide" (defArgs s_divide) (defBody s_divide) (defScope s_divide) [] [] f fd) (C_make : Cal P w K mg base "make" 1 ["p", "q"] [] (sp_make K)) : FnOk P w K mg base (L2.CX P w) 2 f fd ["a", "b"] (sp_divide K) := by
  refine F.ok sc_divide (fun vs H Q E h => ?_) (fun cdv A outer st H vs Q E hr h => ?_)
  · obtain ⟨_, _, _, _, _, _, rfl, _⟩ := h
    rfl
  · obtain ⟨v, u, r, s, m, n, rfl, hv, hu, ⟨h1, h2'⟩, ⟨h3, h4'⟩, hmn, k0, q⟩ := h
    have h2 : (r.den : Int).natAbs < 2 ^ m := h2'
    have h4 : (s.den : Int).natAbs < 2 ^ n := h4'
    refine ⟨_, (pss_one (ps_ret (pe_callCX C_make hr (by decide) (by rfl) (takes_of rfl rfl rfl rfl) (pa_cons (pe_op op_mulG (pe_ix ix_seq (pv 0) pe_int (fun _ _ => rfl)) (pe_ix ix_seq (pv 1) pe_int (fun _ _ => rfl))) (pa_cons (pe_op op_mulG (pe_ix ix_seq (pv 0) pe_int (fun _ _ => rfl)) (pe_ix ix_seq (pv 1) pe_int (fun _ _ => rfl))) pa_nil))))), ?_⟩
    walk_at "un"
    walk_at "go"
    refine ⟨_, _, m + n, rfl, mul_lt h2 h3, by omega, fun e => k0 ?_, fun e H' x sm hx => ?_⟩
    · rcases Int.mul_eq_zero.mp e with e | e
      · exact absurd e (den_ne r)
      · exact Rat.num_eq_zero.mp e
    · rw [div_as] at hx
      exact q (fun z => e (by rw [z]; simp)) _ _ sm hx
/-! ### sign -/
def sp_sign (K : PySem.W.Frag) : Sp := fun vs H Q _ => ∃ (v : V) (p q : Int), vs = [v] ∧ Dp K H v (.tuple [.int p, .int q]) ∧ Q (.int (Int.sign p)) H
theorem rd_sign {K : PySem.W.Frag} {H : Hp} {Q : VK} {E : XK} {v : V} {p z : Int} (h : Dp K H v (.tuple [.int p, .int z])) (q : Q (.int (Int.sign p)) H) : sp_sign K [v] H Q E := ⟨v, p, z, rfl, h, q⟩
theorem ok_sign {f : Addr} {fd : FuncData} (T : Tx K mg) (F : FunD K "sign" "sign" (defArgs s_sign) (defBody s_sign) (defScope s_sign) [] [] f fd) : FnOk P w K mg base (L2.CX P w) 1 f fd ["a"] (sp_sign K) := by
  refine F.ok sc_sign (fun vs H Q E h => ?_) (fun cdv A outer st H vs Q E hr h => ?_)
  · obtain ⟨_, _, _, rfl, _⟩ := h
    rfl
  · obtain ⟨v, p, z, rfl, ha, q⟩ := h
    refine ⟨_, PSs.nox (pss_cons (ps_if (pt_cmpR op_gt (pe_ix ix_seq (pv 0) pe_int (fun _ _ => rfl)) pe_int (nomark _)) (pss_one (ps_ret pe_int)) pss_nil) (pss_one (ps_ret (pe_ifExp (pt_cmpR op_lt (pe_ix ix_seq (pv 0) pe_int (fun _ _ => rfl)) pe_int (nomark _)) (pe_un un_neg pe_int) pe_int)))), ?_⟩
    walk_at "un"
    walk_at "go"
    refine ifD (fun c => ?_) (fun c => ?_)
    · rw [Int.sign_eq_one_of_pos c] at q
      exact q
    · walk_at "go"
      refine ifD (fun c2 => ?_) (fun c2 => ?_)
      · rw [Int.sign_eq_neg_one_of_neg c2] at q
        walk_at "go"
        exact q
      · have : p = 0 := by omega
        subst this
        exact q
/-! ### compare -/
def sp_compare (K : PySem.W.Frag) : Sp := fun vs H Q _ => ∃ (v u : V) (r s : Rat) (m n : Nat), vs = [v, u] ∧ Fr K H v r ∧ Fr K H u s ∧ Bd m r ∧ Bd n s ∧ m + n < 8999 ∧ ∀ H', Same H H' → Q (.int (cmpR r s)) H'
theorem rd_compare {K : PySem.W.Frag} {H : Hp} {Q : VK} {E : XK} {v u : V} {r s : Rat} {m n : Nat} (hv : Fr K H v r) (hu : Fr K H u s) (bm : Bd m r) (bn : Bd n s) (hmn : m + n < 8999) (q : ∀ H', Same H H' → Q (.int (cmpR r s)) H') : sp_compare K [v, u] H Q E := ⟨v, u, r, s, m, n, rfl, hv, hu, bm, bn, hmn, q⟩
theorem ok_compare {f : Addr} {fd : FuncData} (T : Tx K mg) (F : FunD K "compare" "compare" (defArgs s_compare) (defBody s_compare) (defScope s_compare) [] [] f fd) (C_sign : Cal P w K mg base "sign" 1 ["a"] [] (sp_sign K)) : FnOk P w K mg base (L2.CX P w) 2 f fd ["a", "b"] (sp_compare K) := by
  refine F.ok sc_compare (fun vs H Q E h => ?_) (fun cdv A outer st H vs Q E hr h => ?_)
  · obtain ⟨_, _, _, _, _, _, rfl, _⟩ := h
    rfl
  · obtain ⟨v, u, r, s, m, n, rfl, hv, hu, ⟨h1, h2'⟩, ⟨h3, h4'⟩, hmn, q⟩ := h
    have h2 : (r.den : Int).natAbs < 2 ^ m := h2'
    have h4 : (s.den : Int).natAbs < 2 ^ n := h4'
    refine ⟨_, PSs.nox (pss_one (ps_ret (pe_callC C_sign hr (by decide) (by rfl) (pa_cons (pe_tupN (pa_cons (pe_op op_sub (pe_op op_mulG (pe_ix ix_seq (pv 0) pe_int (fun _ _ => rfl)) (pe_ix ix_seq (pv 1) pe_int (fun _ _ => rfl))) (pe_op op_mulG (pe_ix ix_seq (pv 1) pe_int (fun _ _ => rfl)) (pe_ix ix_seq (pv 0) pe_int (fun _ _ => rfl)))) (pa_cons (pe_op op_mulG (pe_ix ix_seq (pv 0) pe_int (fun _ _ => rfl)) (pe_ix ix_seq (pv 1) pe_int (fun _ _ => rfl))) pa_nil))) pa_nil)))), ?_⟩
    walk_at "un"
    walk_at "go"
    rename_i H1 t1 s1 g1
    exact rd_sign g1 (q _ s1)
/-! ### _law_mix -/
/-- the law's mixing: some whole number -/
def sp__law_mix : Sp := fun vs H Q _ => ∃ (x k : Int), vs = [.int x, .int k] ∧ 0 ≤ k ∧ k ≤ 1000 ∧ ∀ z, Q (.int z) H
theorem ok__law_mix {f : Addr} {fd : FuncData} (T : Tx K mg) (F : FunD K "_law_mix" "_law_mix" (defArgs s__law_mix) (defBody s__law_mix) (defScope s__law_mix) [] [] f fd) : FnOk P w K mg base (L2.CX P w) 1 f fd ["number", "k"] sp__law_mix := by
  refine F.ok sc__law_mix (fun vs H Q E h => ?_) (fun cdv A outer st H vs Q E hr h => ?_)
  · obtain ⟨_, _, rfl, _⟩ := h
    rfl
  · obtain ⟨x, k, rfl, h0, h1, q⟩ := h
    refine ⟨_, PSs.nox (pss_one (ps_ret (pe_op op_mod (pe_op op_mulG (pe_op op_mod (pe_callTy cl_int (by rfl) T.n_int bb_int (pa_cons (pe_op op_mulG (pe_op op_add (pe_op op_add (pe_op op_mod (pe_callTy cl_int (by rfl) T.n_int bb_int (pa_cons (pv 0) pa_nil)) pe_int) (pe_op op_mulG pe_int (pv 1))) pe_int) pe_int) pa_nil)) pe_int) pe_int) pe_int))), ?_⟩
    walk_at "un"
    walk_at "go"
    refine rdMod (by decide) ?_
    walk_at "go"
    refine rdMod (by decide) ?_
    walk_at "go"
    refine rdMod (by decide) ?_
    exact q _
/-! ### _law_numbers -/
/-- the row of numbers: some whole numbers, in a new list -/
def sp__law_numbers (K : PySem.W.Frag) : Sp := fun vs H Q _ => ∃ (a : Addr) (ns : List Int) (c : Nat), vs = [.ref a, .int (c : Int)] ∧ SqL K H a (ns.map V.int) ∧ ns.length ≤ 63 ∧ c ≤ 200 ∧ ∀ H' d, Same H H' → H d = none → Ints H' d → Q (.ref d) H'
theorem sameLate' {H H' : Hp} {d : Addr} {o : HO} (e : Same H H') (nd : H d = none) : Same H (upd H' d o) := fun b x h => by
  rw [upd_ne (ne_of_none h nd)]
  exact e b x h
theorem rdAppJ {H : Hp} {Q : VK} {d : Addr} {ms : List Int} {x : Int} (h : H d = some (.lst (ms.map V.int))) (hz : ms.length ≤ 5000) (q : Q .non (upd H d (.lst ((ms ++ [x]).map V.int)))) : rAppend (.ref d) [.int x] H Q :=
  rdApp h (by rw [List.length_map]; exact hz) (by rw [List.map_append] at q; exact q)
theorem ok__law_numbers {f : Addr} {fd : FuncData} (T : Tx K mg) (F : FunD K "_law_numbers" "_law_numbers" (defArgs s__law_numbers) (defBody s__law_numbers) (defScope s__law_numbers) [] [] f fd) (C__law_mix : Cal P w K mg base "_law_mix" 1 ["number", "k"] [] (sp__law_mix)) : FnOk P w K mg base (L2.CX P w) 2 f fd ["script", "count"] (sp__law_numbers K) := by
  refine F.ok sc__law_numbers (fun vs H Q E h => ?_) (fun cdv A outer st H vs Q E hr h => ?_)
  · obtain ⟨_, _, _, rfl, _⟩ := h
    rfl
  · obtain ⟨a, ns, c, rfl, hS, hl, hc, q⟩ := h
    refine ⟨_, PSs.nox (pss_cons (ps_set (i := 2) sc__law_numbers.nd rfl (Or.inl rfl) (pe_lstN pa_nil)) (pss_cons (ps_set (i := 3) sc__law_numbers.nd rfl (Or.inl rfl) pe_int) (pss_cons (ps_for PassesOwn.never rfl (pi_list (pe_slice sl_list (pv 0) po_none (po_some pe_int))) (pg_name (i := 4) sc__law_numbers.nd rfl (Or.inl rfl)) (pss_cons (ps_set (i := 3) sc__law_numbers.nd rfl (Or.inl rfl) (pe_op op_add (pv 3) (pv 4))) (pss_one (ps_if (pt_cmpR op_ge (pv 4) pe_int (nomark _)) (pss_cons (ps_set (i := 5) sc__law_numbers.nd rfl (Or.inl rfl) (pv 4)) (pss_one (ps_for PassesOwn.never rfl (pi_range1 (by rfl) T.n_range (pa_cons pe_int pa_nil)) (pg_name (i := 6) sc__law_numbers.nd rfl (Or.inl rfl)) (pss_cons (ps_expr (pe_bm PySem.F.plainAttrs_list PySem.F.slot_list_append PySem.F.type_list_append mt_append (pv 2) (pa_cons (pe_op op_mod (pe_callTy cl_int (by rfl) T.n_int bb_int (pa_cons (pv 5) pa_nil)) pe_int) pa_nil))) (pss_cons (ps_set (i := 5) sc__law_numbers.nd rfl (Or.inl rfl) (pe_op op_fdivX (pv 5) pe_int)) (pss_one (ps_if (pt_cmpR (op_eqA hr.units) (pv 5) pe_int (nomark _)) (pss_one ps_break) pss_nil))))))) (pss_one (ps_expr (pe_bm PySem.F.plainAttrs_list PySem.F.slot_list_append PySem.F.type_list_append mt_append (pv 2) (pa_cons (pe_callC C__law_mix hr (by decide) (by rfl) (pa_cons (pe_callC C__law_mix hr (by decide) (by rfl) (pa_cons (pv 4) (pa_cons pe_int pa_nil))) (pa_cons pe_int pa_nil))) pa_nil)))))))) (pss_cons (ps_for PassesOwn.never rfl (pi_range1 (by rfl) T.n_range (pa_cons (pv 1) pa_nil)) (pg_name (i := 6) sc__law_numbers.nd rfl (Or.inl rfl)) (pss_one (ps_expr (pe_bm PySem.F.plainAttrs_list PySem.F.slot_list_append PySem.F.type_list_append mt_append (pv 2) (pa_cons (pe_callC C__law_mix hr (by decide) (by rfl) (pa_cons (pe_callC C__law_mix hr (by decide) (by rfl) (pa_cons (pe_op op_add (pv 3) (pe_op op_mulG pe_int (pv 6))) (pa_cons (pe_op op_add pe_int (pv 6)) pa_nil))) (pa_cons pe_int pa_nil))) pa_nil))))) (pss_cons (ps_expr (pe_bm0 PySem.F.plainAttrs_list PySem.F.slot_list_reverse PySem.F.type_list_reverse mt_reverse (pv 2))) (pss_one (ps_ret (pv 2)))))))), ?_⟩
    walk_at "un"
    walk_at "go"
    refine rdLstH (Nat.zero_le _) fun H1 d s1 nd hd => ?_
    walk_at "go"
    refine forOf ?_
    walk_at "it"
    walk_at "un"
    walk_at "go"
    refine rdSlL (s1.seq hS) (cut_all (n := 63) (by rw [List.length_map]; exact hl)) fun p np => ?_
    have s2 : Same H (upd H1 p (.lst (ns.map V.int))) := s1.trans (sameNew np)
    have npd : p ≠ d := fun z => by rw [z, hd] at np; cases np
    refine ⟨p, rfl, ⟨_, .inl (.inl upd_same)⟩, ?_⟩
    refine FL.list (xs := ns.map V.int) (fun i σ' H' => ∃ (b : Int) (o2 o3 o4 : Option V), σ' = [some (.ref a), some (.int (c : Int)), some (.ref d), some (.int b), o2, o3, o4] ∧ Same H H' ∧ H' p = some (.lst (ns.map V.int)) ∧ ∃ ms : List Int, H' d = some (.lst (ms.map V.int)) ∧ ms.length ≤ 61 * i)
      ⟨0, _, _, _, rfl, s2, upd_same, [], by rw [upd_ne npd.symm]; exact hd, Nat.zero_le _⟩ (fun i σ' H' _ ⟨_, _, _, _, _, _, e, _⟩ => .inl (.inl e)) ?_ ?_
    · rintro i x σ' H2 hi ⟨b, o2, o3, o4, rfl, s3, hp, ms, hms, hlm⟩
      have hi' : i < ns.length := by
        have := (List.getElem?_eq_some_iff.mp hi).1
        rw [List.length_map] at this
        exact this
      obtain ⟨z, rfl, hz⟩ := mapInt_at hi
      walk_at "un"
      walk_at "go"
      refine ifD (fun hbig => ?_) (fun hbig => ?_)
      · walk_at "go"
        refine forOf ?_
        walk_at "it"
        walk_at "un"
        refine ⟨_, rfl, by decide, by decide, ?_⟩
        refine FL.range (n := 60) (fun j σ' H' => ∃ (r : Int) (o4 : Option V), σ' = [some (.ref a), some (.int (c : Int)), some (.ref d), some (.int (b + z)), some (.int z), some (.int r), o4] ∧ Same H H' ∧ H' p = some (.lst (ns.map V.int)) ∧ ∃ ms : List Int, H' d = some (.lst (ms.map V.int)) ∧ ms.length ≤ 61 * i + j) ⟨_, o4, rfl, s3, hp, ms, hms, hlm⟩ ?_ ?_
        · rintro j σ' H4 hj ⟨r, o5, rfl, s4, hp4, ms4, hms4, hlm4⟩
          walk_at "un"
          walk_at "go"
          refine ⟨.inl ⟨rfl, _, .inl (.inl hms4)⟩, ?_⟩
          walk_at "go"
          refine rdMod (by decide) ?_
          refine rdAppJ hms4 (by omega) ?_
          walk_at "go"
          refine rdDivP (b := 10) (by decide) (by decide) (by decide) ?_
          walk_at "go"
          have s5 : ∀ xs, Same H (upd H4 d (.lst xs)) := fun xs => sameLate' s4 nd
          have hp5 : ∀ xs, upd H4 d (.lst xs) p = some (.lst (ns.map V.int)) := fun xs => by rw [upd_ne npd]; exact hp4
          refine ifD (fun cc => ?_) (fun cc => ?_)
          · refine ⟨b + z, _, _, _, rfl, s5 _, hp5 _, _, upd_same, ?_⟩
            rw [List.length_append]
            show ms4.length + 1 ≤ _
            omega
          · refine ⟨_, _, rfl, s5 _, hp5 _, _, upd_same, ?_⟩
            rw [List.length_append]
            show ms4.length + 1 ≤ _
            omega
        · rintro σ' H4 ⟨r, o5, rfl, s4, hp4, ms4, hms4, hlm4⟩
          exact ⟨_, _, _, _, rfl, s4, hp4, ms4, hms4, by omega⟩
      · walk_at "go"
        refine ⟨.inl ⟨rfl, _, .inl (.inl hms)⟩, ?_⟩
        walk_at "go"
        refine ⟨z, 3, rfl, by decide, by decide, fun z1 => ?_⟩
        refine ⟨z1, 5, rfl, by decide, by decide, fun z2 => ?_⟩
        refine rdAppJ hms (by omega) ?_
        refine ⟨_, _, _, _, rfl, sameLate' s3 nd, by rw [upd_ne npd]; exact hp, _, upd_same, ?_⟩
        rw [List.length_append]
        show ms.length + 1 ≤ _
        omega
    · rintro σ' H2 ⟨b, o2, o3, o4, rfl, s3, _, ms, hms, hlm⟩
      rw [List.length_map] at hlm
      walk_at "un"
      refine forOf ?_
      walk_at "it"
      walk_at "un"
      walk_at "go"
      refine ⟨by omega, by omega, ?_⟩
      rw [show ((c : Nat) : Int).toNat = c by omega]
      refine FL.range (n := c) (fun j σ' H' => ∃ (o4 : Option V), σ' = [some (.ref a), some (.int (c : Int)), some (.ref d), some (.int b), o2, o3, o4] ∧ Same H H' ∧ ∃ ms : List Int, H' d = some (.lst (ms.map V.int)) ∧ ms.length ≤ 61 * ns.length + j) ⟨o4, rfl, s3, ms, hms, hlm⟩ ?_ ?_
      · rintro j σ' H4 hj ⟨o5, rfl, s4, ms4, hms4, hlm4⟩
        walk_at "un"
        walk_at "go"
        refine ⟨.inl ⟨rfl, _, .inl (.inl hms4)⟩, ?_⟩
        walk_at "go"
        refine ⟨_, _, rfl, by omega, by omega, fun z1 => ?_⟩
        refine ⟨z1, 17, rfl, by decide, by decide, fun z2 => ?_⟩
        refine rdAppJ hms4 (by omega) ?_
        refine ⟨_, rfl, sameLate' s4 nd, _, upd_same, ?_⟩
        rw [List.length_append]
        show ms4.length + 1 ≤ _
        omega
      · rintro σ' H4 ⟨o5, rfl, s4, ms4, hms4, hlm4⟩
        walk_at "un"
        walk_at "go"
        refine ⟨.inl ⟨rfl, _, .inl (.inl hms4)⟩, d, ms4.map V.int, rfl, rfl, hms4, ?_⟩
        rw [← List.map_reverse]
        exact ⟨_, rfl, q _ _ (sameLate' s4 nd) nd ⟨_, upd_same⟩⟩
/-! ### _law_take -/
/-- the next number: any below the bound -/
def sp__law_take : Sp := fun vs H Q _ => ∃ (d : Addr) (m : Int), vs = [.ref d, .int m] ∧ Ints H d ∧ 0 < m ∧ ∀ H' x, SameS [d] H H' → Ints H' d → 0 ≤ x → x < m → Q (.int x) H'
theorem ok__law_take {f : Addr} {fd : FuncData} (T : Tx K mg) (F : FunD K "_law_take" "_law_take" (defArgs s__law_take) (defBody s__law_take) (defScope s__law_take) [] [] f fd) : FnOk P w K mg base (L2.CX P w) 1 f fd ["row", "bound"] sp__law_take := by
  refine F.ok sc__law_take (fun vs H Q E h => ?_) (fun cdv A outer st H vs Q E hr h => ?_)
  · obtain ⟨_, _, rfl, _⟩ := h
    rfl
  · obtain ⟨d, m, rfl, hI, hm, q⟩ := h
    obtain ⟨ns, hd⟩ := id hI
    refine ⟨_, PSs.nox (pss_cons (ps_if (pt_not (pt_truth (pv 0) (by intro _; rfl))) (pss_one (ps_ret pe_int)) pss_nil) (pss_one (ps_ret (pe_op op_mod (pe_callTy cl_int (by rfl) T.n_int bb_int (pa_cons (pe_bm0 PySem.F.plainAttrs_list PySem.F.slot_list_pop PySem.F.type_list_pop mt_pop (pv 0)) pa_nil)) (pv 1))))), ?_⟩
    walk_at "un"
    walk_at "go"
    refine truNot (.inl (.inl hd)) (fun c => ?_) (fun c => ?_)
    · exact q _ _ (SameS.refl _) hI (by decide) hm
    · have hne : ns ≠ [] := fun z => c (by rw [z]; rfl)
      have hl : 0 < ns.length := List.length_pos_iff.mpr hne
      walk_at "go"
      refine ⟨.inl ⟨rfl, _, .inl (.inl hd)⟩, d, ns.map V.int, .int ns[ns.length - 1], rfl, rfl, hd, by rw [List.length_map, List.getElem?_map, List.getElem?_eq_getElem (by omega)]; rfl, ?_⟩
      walk_at "go"
      refine rdMod hm ?_
      rw [← List.map_dropLast]
      exact q _ _ (sameS_upd (List.mem_singleton.mpr rfl) (notTbl hd)) ⟨_, upd_same⟩ (Int.emod_nonneg _ (by omega)) (Int.emod_lt_of_pos _ hm)
/-! ### _law_lowest -/
/-- the law's own fraction p / q, q above 0 -/
def sp__law_lowest (K : PySem.W.Frag) : Sp := fun vs H Q E => ∃ (p q : Int) (n : Nat), vs = [.int p, .int q] ∧ q.natAbs < 2 ^ n ∧ n < 2400 ∧ 0 < q ∧ ∀ H' v, Same H H' → Fr K H' v (Rat.divInt p q) → Q v H'
theorem ok__law_lowest {f : Addr} {fd : FuncData} (T : Tx K mg) (F : FunD K "_law_lowest" "_law_lowest" (defArgs s__law_lowest) (defBody s__law_lowest) (defScope s__law_lowest) [] [] f fd) : FnOk P w K mg base (L2.CX P w) 1 f fd ["p", "q"] (sp__law_lowest K) := by
  refine F.ok sc__law_lowest (fun vs H Q E h => ?_) (fun cdv A outer s H vs Q E hr h => ?_)
  · obtain ⟨_, _, _, rfl, _⟩ := h
    rfl
  · obtain ⟨p, q, n, rfl, hn, hn9, c2, k1⟩ := h
    have e : q ≠ 0 := by omega
    have hg := gcd_pos (p := p) e
    have hl : ((Nat.gcd p.natAbs q.natAbs : Nat) : Int).natAbs ≤ q.natAbs := Nat.le_of_dvd (by omega) (Nat.gcd_dvd_right ..)
    have hb : ((Nat.gcd p.natAbs q.natAbs : Nat) : Int).natAbs < 2 ^ n := Nat.lt_of_le_of_lt hl hn
    refine ⟨_, PSs.nox (pss_cons (ps_par (i := 2) (j := 3) (by rfl) sc__law_lowest.nd rfl rfl (by decide) rfl rfl (pa_cons (pe_callB cl_abs (by rfl) T.n_abs bb_abs (pa_cons (pv 0) pa_nil)) (pa_cons (pv 1) pa_nil)) (by rfl)) (pss_cons (ps_for PassesOwn.never rfl (pi_range1 (by rfl) T.n_range (pa_cons pe_int pa_nil)) (pg_name (i := 4) sc__law_lowest.nd rfl (Or.inl rfl)) (pss_cons (ps_if (pt_cmpR (op_eqA hr.units) (pv 3) pe_int (nomark _)) (pss_one ps_break) pss_nil) (pss_one (ps_par (i := 2) (j := 3) (by rfl) sc__law_lowest.nd rfl rfl (by decide) rfl rfl (pa_cons (pv 3) (pa_cons (pe_op op_mod (pe_callTy cl_int (by rfl) T.n_int bb_int (pa_cons (pv 2) pa_nil)) (pv 3)) pa_nil)) (by rfl))))) (pss_cons (ps_if (pt_cmpR (op_eqA hr.units) (pv 2) pe_int (nomark _)) (pss_one (ps_ret (pe_tupN (pa_cons pe_int (pa_cons pe_int pa_nil))))) pss_nil) (pss_one (ps_ret (pe_tupN (pa_cons (pe_op op_fdivX (pv 0) (pv 2)) (pa_cons (pe_op op_fdivX (pv 1) (pv 2)) pa_nil)))))))), ?_⟩
    walk_at "un"
    walk_at "go"
    refine ⟨_, _, rfl, ?_⟩
    walk_at "un"
    refine forOf ?_
    walk_at "it"
    walk_at "un"
    refine ⟨_, rfl, by decide, by decide, ?_⟩
    refine FL.range (n := 5000) (fun i σ' H' => ∃ (x y : Nat) (o1 : Option V), σ' = [some (.int p), some (.int q), some (.int (x : Int)), some (.int (y : Int)), o1] ∧ Nat.gcd x y = Nat.gcd p.natAbs q.natAbs ∧ Enough (5000 - i) x y ∧ H' = H) ⟨p.natAbs, q.natAbs, none, ?_, rfl, enough_of hn (by omega), rfl⟩ ?_ ?_
    · rw [show ((q.natAbs : Nat) : Int) = q from Int.natAbs_of_nonneg (by omega)]
    · rintro i σ' H' hi ⟨x, y, o1, rfl, hgx, hen, rfl⟩
      walk_at "un"
      walk_at "go"
      refine ifD (fun c => ?_) (fun c => ?_)
      · have : y = 0 := by omega
        subst this
        rw [Nat.gcd_zero_right] at hgx
        subst hgx
        walk_at "go"
        refine ifD (fun c0 => absurd c0 (by omega)) (fun _ => ?_)
        walk_at "go"
        refine rdDivP (by omega) hb (by omega) ?_
        walk_at "go"
        refine rdDivP (by omega) hb (by omega) ⟨line2, fun a na => ?_⟩
        exact k1 _ _ (sameNew na) (frNew (num_pos c2) (den_pos c2))
      · walk_at "go"
        refine rdMod (by omega) ?_
        refine ⟨_, _, rfl, ?_⟩
        walk_at "un"
        refine ⟨y, x % y, _, by rw [Int.natCast_emod], ?_, ?_, rfl⟩
        · rw [← hgx, Nat.gcd_comm x y, Nat.gcd_rec y x, Nat.gcd_comm]
        · have h1 := hen.step (by omega)
          rw [show 5000 - i - 1 = 5000 - (i + 1) by omega] at h1
          exact h1
    · rintro σ' H' ⟨x, y, o1, rfl, hgx, hen, rfl⟩
      have := hen.pos
      omega
/-! ### _law_fraction -/
/-- a drawn fraction -/
def sp__law_fraction (K : PySem.W.Frag) : Sp := fun vs H Q _ => ∃ (d : Addr), vs = [.ref d] ∧ Ints H d ∧ ∀ H' v r, SameS [d] H H' → Ints H' d → Fr K H' v r → Sm 100 30 r → Q v H'
theorem ok__law_fraction {f : Addr} {fd : FuncData} (T : Tx K mg) (F : FunD K "_law_fraction" "_law_fraction" (defArgs s__law_fraction) (defBody s__law_fraction) (defScope s__law_fraction) [] [] f fd) (C__law_lowest : Cal P w K mg base "_law_lowest" 1 ["p", "q"] [] (sp__law_lowest K)) (C__law_take : Cal P w K mg base "_law_take" 1 ["row", "bound"] [] (sp__law_take)) : FnOk P w K mg base (L2.CX P w) 2 f fd ["row"] (sp__law_fraction K) := by
  refine F.ok sc__law_fraction (fun vs H Q E h => ?_) (fun cdv A outer st H vs Q E hr h => ?_)
  · obtain ⟨_, rfl, _⟩ := h
    rfl
  · obtain ⟨d, rfl, hI, q⟩ := h
    refine ⟨_, PSs.nox (pss_cons (ps_set (i := 1) sc__law_fraction.nd rfl (Or.inl rfl) (pe_callC C__law_take hr (by decide) (by rfl) (pa_cons (pv 0) (pa_cons pe_int pa_nil)))) (pss_cons (ps_if (pt_cmpR op_lt (pv 1) pe_int (nomark _)) (pss_one (ps_ret (pe_tupN (pa_cons (pe_op op_sub (pe_callC C__law_take hr (by decide) (by rfl) (pa_cons (pv 0) (pa_cons pe_int pa_nil))) pe_int) (pa_cons pe_int pa_nil))))) pss_nil) (pss_cons (ps_if (pt_cmpR op_lt (pv 1) pe_int (nomark _)) (pss_one (ps_ret (pe_callC C__law_lowest hr (by decide) (by rfl) (pa_cons (pe_op op_sub (pe_callC C__law_take hr (by decide) (by rfl) (pa_cons (pv 0) (pa_cons pe_int pa_nil))) pe_int) (pa_cons (pe_op op_add pe_int (pe_callC C__law_take hr (by decide) (by rfl) (pa_cons (pv 0) (pa_cons pe_int pa_nil)))) pa_nil))))) pss_nil) (pss_cons (ps_if (pt_cmpR (op_eqA hr.units) (pv 1) pe_int (nomark _)) (pss_one (ps_ret (pe_tupN (pa_cons pe_int (pa_cons pe_int pa_nil))))) pss_nil) (pss_one (ps_ret (pe_callC C__law_lowest hr (by decide) (by rfl) (pa_cons (pe_op op_sub (pe_callC C__law_take hr (by decide) (by rfl) (pa_cons (pv 0) (pa_cons pe_int pa_nil))) pe_int) (pa_cons (pe_op op_add pe_int (pe_callC C__law_take hr (by decide) (by rfl) (pa_cons (pv 0) (pa_cons pe_int pa_nil)))) pa_nil))))))))), ?_⟩
    walk_at "un"
    walk_at "go"
    refine ⟨d, 8, rfl, hI, by decide, fun H1 c s1 hI c0 c8 => ?_⟩
    walk_at "go"
    refine ifD (fun c4 => ?_) (fun c4 => ?_)
    · walk_at "go"
      refine ⟨d, 7, rfl, hI, by decide, fun H2 p s2 hI p0 p7 => ?_⟩
      walk_at "go"
      rename_i H3 t s3 g
      exact q _ _ (Rat.divInt (p - 2) 1) ((s1.trans s2).trans (sameS s3)) (hI.mono s3) (fr_int g) (sm_divInt (by decide) (by omega) (by decide))
    · walk_at "go"
      refine ifD (fun c6 => ?_) (fun c6 => ?_)
      · walk_at "go"
        refine ⟨d, 13, rfl, hI, by decide, fun H2 p s2 hI p0 p7 => ?_⟩
        walk_at "go"
        refine ⟨d, 4, rfl, hI, by decide, fun H3 k s3 hI k0 k4 => ?_⟩
        walk_at "go"
        refine ⟨_, _, 6, rfl, by omega, by decide, by omega, fun H4 v s4 hv => ?_⟩
        exact q _ _ _ (((s1.trans s2).trans s3).trans (sameS s4)) (hI.mono s4) hv (sm_divInt (by omega) (by omega) (by omega))
      · walk_at "go"
        refine ifD (fun c7 => ?_) (fun c7 => ?_)
        · walk_at "go"
          rename_i H3 t s3 g
          exact q _ _ (Rat.divInt 0 1) (s1.trans (sameS s3)) (hI.mono s3) (fr_int g) (sm_divInt (by decide) (by decide) (by decide))
        · walk_at "go"
          refine ⟨d, 200, rfl, hI, by decide, fun H2 p s2 hI p0 p7 => ?_⟩
          walk_at "go"
          refine ⟨d, 30, rfl, hI, by decide, fun H3 k s3 hI k0 k4 => ?_⟩
          walk_at "go"
          refine ⟨_, _, 6, rfl, by omega, by decide, by omega, fun H4 v s4 hv => ?_⟩
          exact q _ _ _ (((s1.trans s2).trans s3).trans (sameS s4)) (hI.mono s4) hv (sm_divInt (by omega) (by omega) (by omega))
/-! ### _law_plus -/
def sp__law_plus (K : PySem.W.Frag) : Sp := fun vs H Q _ => ∃ (v u : V) (r s : Rat) (m n : Nat), vs = [v, u] ∧ Fr K H v r ∧ Fr K H u s ∧ Bd m r ∧ Bd n s ∧ m + n < 2399 ∧ ∀ H' x, Same H H' → Fr K H' x (r + s) → Q x H'
theorem ok__law_plus {f : Addr} {fd : FuncData} (T : Tx K mg) (F : FunD K "_law_plus" "_law_plus" (defArgs s__law_plus) (defBody s__law_plus) (defScope s__law_plus) [] [] f fd) (C__law_lowest : Cal P w K mg base "_law_lowest" 1 ["p", "q"] [] (sp__law_lowest K)) : FnOk P w K mg base (L2.CX P w) 2 f fd ["a", "b"] (sp__law_plus K) := by
  refine F.ok sc__law_plus (fun vs H Q E h => ?_) (fun cdv A outer st H vs Q E hr h => ?_)
  · obtain ⟨_, _, _, _, _, _, rfl, _⟩ := h
    rfl
  · obtain ⟨v, u, r, s, m, n, rfl, hv, hu, ⟨h1, h2'⟩, ⟨h3, h4'⟩, hmn, q⟩ := h
    have h2 : (r.den : Int).natAbs < 2 ^ m := h2'
    have h4 : (s.den : Int).natAbs < 2 ^ n := h4'
    refine ⟨_, PSs.nox (pss_one (ps_ret (pe_callC C__law_lowest hr (by decide) (by rfl) (pa_cons (pe_op op_add (pe_op op_mulG (pe_ix ix_seq (pv 0) pe_int (fun _ _ => rfl)) (pe_ix ix_seq (pv 1) pe_int (fun _ _ => rfl))) (pe_op op_mulG (pe_ix ix_seq (pv 1) pe_int (fun _ _ => rfl)) (pe_ix ix_seq (pv 0) pe_int (fun _ _ => rfl)))) (pa_cons (pe_op op_mulG (pe_ix ix_seq (pv 0) pe_int (fun _ _ => rfl)) (pe_ix ix_seq (pv 1) pe_int (fun _ _ => rfl))) pa_nil))))), ?_⟩
    walk_at "un"
    walk_at "go"
    refine ⟨_, _, m + n, rfl, mul_lt h2 h4, by omega, Int.mul_pos (den_p r) (den_p s), fun H' x sm hx => ?_⟩
    rw [add_as] at hx
    exact q _ _ sm hx
/-! ### _law_times -/
def sp__law_times (K : PySem.W.Frag) : Sp := fun vs H Q _ => ∃ (v u : V) (r s : Rat) (m n : Nat), vs = [v, u] ∧ Fr K H v r ∧ Fr K H u s ∧ Bd m r ∧ Bd n s ∧ m + n < 2399 ∧ ∀ H' x, Same H H' → Fr K H' x (r * s) → Q x H'
theorem ok__law_times {f : Addr} {fd : FuncData} (T : Tx K mg) (F : FunD K "_law_times" "_law_times" (defArgs s__law_times) (defBody s__law_times) (defScope s__law_times) [] [] f fd) (C__law_lowest : Cal P w K mg base "_law_lowest" 1 ["p", "q"] [] (sp__law_lowest K)) : FnOk P w K mg base (L2.CX P w) 2 f fd ["a", "b"] (sp__law_times K) := by
  refine F.ok sc__law_times (fun vs H Q E h => ?_) (fun cdv A outer st H vs Q E hr h => ?_)
  · obtain ⟨_, _, _, _, _, _, rfl, _⟩ := h
    rfl
  · obtain ⟨v, u, r, s, m, n, rfl, hv, hu, ⟨h1, h2'⟩, ⟨h3, h4'⟩, hmn, q⟩ := h
    have h2 : (r.den : Int).natAbs < 2 ^ m := h2'
    have h4 : (s.den : Int).natAbs < 2 ^ n := h4'
    refine ⟨_, PSs.nox (pss_one (ps_ret (pe_callC C__law_lowest hr (by decide) (by rfl) (pa_cons (pe_op op_mulG (pe_ix ix_seq (pv 0) pe_int (fun _ _ => rfl)) (pe_ix ix_seq (pv 1) pe_int (fun _ _ => rfl))) (pa_cons (pe_op op_mulG (pe_ix ix_seq (pv 0) pe_int (fun _ _ => rfl)) (pe_ix ix_seq (pv 1) pe_int (fun _ _ => rfl))) pa_nil))))), ?_⟩
    walk_at "un"
    walk_at "go"
    refine ⟨_, _, m + n, rfl, mul_lt h2 h4, by omega, Int.mul_pos (den_p r) (den_p s), fun H' x sm hx => ?_⟩
    rw [mul_as] at hx
    exact q _ _ sm hx
/-! ### _law_less -/
/-- one fraction below another -/
def sp__law_less (K : PySem.W.Frag) : Sp := fun vs H Q _ => ∃ (v u : V) (r s : Rat) (m n : Nat), vs = [v, u] ∧ Fr K H v r ∧ Fr K H u s ∧ Bd m r ∧ Bd n s ∧ m + n < 8999 ∧ Q (.bl (decide (r < s))) H
theorem less_as (r s : Rat) : decide (r.num * (s.den : Int) < s.num * (r.den : Int)) = decide (r < s) := by
  rw [Bool.eq_iff_iff, decide_eq_true_iff, decide_eq_true_iff, Rat.lt_iff]
theorem ok__law_less {f : Addr} {fd : FuncData} (T : Tx K mg) (F : FunD K "_law_less" "_law_less" (defArgs s__law_less) (defBody s__law_less) (defScope s__law_less) [] [] f fd) : FnOk P w K mg base (L2.CX P w) 1 f fd ["a", "b"] (sp__law_less K) := by
  refine F.ok sc__law_less (fun vs H Q E h => ?_) (fun cdv A outer st H vs Q E hr h => ?_)
  · obtain ⟨_, _, _, _, _, _, rfl, _⟩ := h
    rfl
  · obtain ⟨v, u, r, s, m, n, rfl, hv, hu, ⟨h1, h2'⟩, ⟨h3, h4'⟩, hmn, q⟩ := h
    have h2 : (r.den : Int).natAbs < 2 ^ m := h2'
    have h4 : (s.den : Int).natAbs < 2 ^ n := h4'
    refine ⟨_, PSs.nox (pss_one (ps_ret (pe_cmpR op_lt (pe_op op_mulG (pe_ix ix_seq (pv 0) pe_int (fun _ _ => rfl)) (pe_ix ix_seq (pv 1) pe_int (fun _ _ => rfl))) (pe_op op_mulG (pe_ix ix_seq (pv 1) pe_int (fun _ _ => rfl)) (pe_ix ix_seq (pv 0) pe_int (fun _ _ => rfl))) (nomark _)))), ?_⟩
    walk_at "un"
    walk_at "go"
    rw [less_as]
    exact q
/-! ### _law_minus -/
def sp__law_minus (K : PySem.W.Frag) : Sp := fun vs H Q _ => ∃ (v u : V) (r s : Rat) (m n : Nat), vs = [v, u] ∧ Fr K H v r ∧ Fr K H u s ∧ Bd m r ∧ Bd n s ∧ m + n < 2390 ∧ ∀ H' x, Same H H' → Fr K H' x (r - s) → Q x H'
theorem bd_mone {n : Nat} {s : Rat} (h : Bd n s) : Bd n ((-1) * s) := by
  rw [Rat.neg_mul, Rat.one_mul]
  exact bd_neg h
theorem ok__law_minus {f : Addr} {fd : FuncData} (T : Tx K mg) (F : FunD K "_law_minus" "_law_minus" (defArgs s__law_minus) (defBody s__law_minus) (defScope s__law_minus) [] [] f fd) (C__law_plus : Cal P w K mg base "_law_plus" 2 ["a", "b"] [] (sp__law_plus K)) (C__law_times : Cal P w K mg base "_law_times" 2 ["a", "b"] [] (sp__law_times K)) : FnOk P w K mg base (L2.CX P w) 3 f fd ["a", "b"] (sp__law_minus K) := by
  refine F.ok sc__law_minus (fun vs H Q E h => ?_) (fun cdv A outer st H vs Q E hr h => ?_)
  · obtain ⟨_, _, _, _, _, _, rfl, _⟩ := h
    rfl
  · obtain ⟨v, u, r, s, m, n, rfl, hv, hu, b1, b2, hmn, q⟩ := h
    refine ⟨_, PSs.nox (pss_one (ps_ret (pe_callC C__law_plus hr (by decide) (by rfl) (pa_cons (pv 0) (pa_cons (pe_callC C__law_times hr (by decide) (by rfl) (pa_cons (pe_tupN (pa_cons (pe_un un_neg pe_int) (pa_cons pe_int pa_nil))) (pa_cons (pv 1) pa_nil))) pa_nil))))), ?_⟩
    walk_at "un"
    walk_at "go"
    rename_i H1 x1 s1 g1
    have g2 : Fr K H1 x1 (-1) := g1
    refine ⟨_, _, -1, s, 1, n, rfl, g2, hu.mono s1, ⟨by decide, by decide⟩, b2, by omega, fun H2 x2 s2 hx => ?_⟩
    refine ⟨_, _, r, _, m, n, rfl, (hv.mono s1).mono s2, hx, b1, bd_mone b2, by omega, fun H3 x3 s3 hx3 => ?_⟩
    rw [Rat.neg_mul, Rat.one_mul, ← Rat.sub_eq_add_neg] at hx3
    exact q _ _ ((s1.trans s2).trans s3) hx3
/-! ### Thresholds___init__ -/
abbrev pTh (K : PySem.W.Frag) : Addr := (He.cT K (("Thresholds", some "__init__") : He.Defn)).2
/-- ascending -/
def incr (es : List Rat) : Prop := ∀ i, i + 1 < es.length → es.getD i 0 < es.getD (i + 1) 0
def okTh (lo hi : Rat) (cs ss : List Rat) : Prop := incr (lo :: cs ++ [hi]) ∧ cs.length ≤ 7 ∧ ss.length = cs.length + 1
/-- at a: a rule of one number -/
def ThX (K : PySem.W.Frag) (H : Hp) (a : Addr) (lo hi : Rat) (c s : Addr) (cs ss : List Rat) : Prop := ∃ (dx : Addr) (v1 v2 : V), H a = some (.ins (He.ga K "Thresholds") dx [("low", v1), ("high", v2), ("cuts", .ref c), ("shares", .ref s)]) ∧ Fr K H v1 lo ∧ Fr K H v2 hi ∧ LL K H c (cs.map frD) ∧ LL K H s (ss.map frD)
def sp_Thresholds___init__ (K : PySem.W.Frag) : Sp := fun vs H Q E => ∃ (a dx : Addr) (v1 v2 : V) (c s : Addr) (lo hi : Rat) (cs ss : List Rat) (H0 : Hp), vs = [.ref a, v1, v2, .ref c, .ref s] ∧ UbG.SameT H0 H ∧ H0 a = none ∧ H a = some (.ins (He.ga K "Thresholds") dx []) ∧
  Fr K H0 v1 lo ∧ Fr K H0 v2 hi ∧ LL K H0 c (cs.map frD) ∧ LL K H0 s (ss.map frD) ∧ cs.length ≤ 20 ∧ ss.length ≤ 20 ∧ (∀ x ∈ lo :: cs ++ [hi], Bd 200 x) ∧ GxR.TabG H0 (pTh K) ∧
  (okTh lo hi cs ss → ∀ H' c' s' xs zs, UbG.SameT H0 H' → H' a = some (.ins (He.ga K "Thresholds") dx [("low", v1), ("high", v2), ("cuts", .ref c'), ("shares", .ref s')]) → H0 c = some (.lst xs) → H' c' = some (.lst xs) → H0 s = some (.lst zs) → H' s' = some (.lst zs) → Nw H0 c' → Nw H0 s' → Q .non H') ∧
  (¬okTh lo hi cs ss → ∀ H' d, UbG.SameT H0 H' → E (.ref (He.ga K "InvalidThresholds")) (some d) H')
theorem ok_Thresholds___init__ {f : Addr} {fd : FuncData} (T : Tx K mg) (F : FunD K "__init__" "Thresholds.__init__" (defArgs s_Thresholds___init__) (defBody s_Thresholds___init__) (defScope s_Thresholds___init__) [] [] f fd) (hf : f = He.fAd K (("Thresholds", some "__init__") : He.Defn)) (TB : GxR.TabB base mg (He.cT K (("Thresholds", some "__init__") : He.Defn)).1 (He.cT K (("Thresholds", some "__init__") : He.Defn)).2) (X_InvalidThresholds : UbC.CalX P w K mg base "InvalidThresholds" 1 (sp_InvalidThresholds___init__ K)) (C_compare : Cal P w K mg base "compare" 2 ["a", "b"] [] (sp_compare K)) : FnOk P w K mg base (L2.CX P w) 4 f fd ["self", "low", "high", "cuts", "shares"] (sp_Thresholds___init__ K) := by
  refine UbG.FunD.okT F hf sc_Thresholds___init__ (fun vs H Q E h => ?_) (fun A outer st H vs Q E hr h => ?_)
  · obtain ⟨_, _, _, _, _, _, _, _, _, _, _, rfl, _⟩ := h
    rfl
  · obtain ⟨a, dx, v1, v2, c, s, lo, hi, cs, ss, H0, rfl, s0, na, ha, h1, h2, hc, hs, lc, ls, hb, hT, q1, q2⟩ := h
    refine ⟨_, (pss_cons (ps_set (i := 5) sc_Thresholds___init__.nd rfl (Or.inl rfl) (pe_op op_cat (pe_op op_cat (pe_lstN (pa_cons (pv 1) pa_nil)) (pe_callTy cl_list (by rfl) T.n_list bb_list (pa_cons (pv 3) pa_nil))) (pe_lstN (pa_cons (pv 2) pa_nil)))) (pss_cons (ps_if (pt_val (UbG.pe_anyG (c := (He.cT K (("Thresholds", some "__init__") : He.Defn)).1) (P := (He.cT K (("Thresholds", some "__init__") : He.Defn)).2) (k := 2) (own := [("start", 6), ("end", 7)]) (g := gTup K 2 (gCons (gName 6) (gCons (gName 7) gNil))) hr sc_Thresholds___init__.nd (by rfl) T.n_any UbG.bb_any TB rfl (UbG.gexOk_by (N := N_Thresholds___init__) (sc := defScope s_Thresholds___init__) (by decide +kernel)) (pi_zip (by rfl) T.n_zip (pa_cons (pv 5) (pa_cons (pe_slice sl_list (pv 5) (po_some pe_int) po_none) pa_nil))) (fun _ _ _ _ _ _ _ hrG => ⟨(pg_tup rfl (pgs_cons (pg_name (i := 6) sc_Thresholds___init__.nd rfl (by first | exact Or.inl rfl | exact Or.inr rfl)) (pgs_cons (pg_name (i := 7) sc_Thresholds___init__.nd rfl (by first | exact Or.inl rfl | exact Or.inr rfl)) pgs_nil))), (pe_cmpR op_ge (pe_callC C_compare hrG (by decide) (by rfl) (pa_cons (pv 6) (pa_cons (pv 7) pa_nil))) pe_int (nomark _))⟩) (fun _ => rfl))) (pss_one (UbC.ps_raiseC rfl (takes_of rfl rfl rfl rfl) X_InvalidThresholds hr (by decide) (by rfl) (pa_cons pe_str pa_nil))) pss_nil) (pss_cons (ps_if (pt_cmpR op_gt (pe_callB cl_len (by rfl) T.n_len bb_len (pa_cons (pv 3) pa_nil)) (pe_glob (v := .int 7) (by rfl) T.c__MOST_CUTS.choose_spec ⟨_, rfl⟩) (nomark _)) (pss_one (UbC.ps_raiseC rfl (takes_of rfl rfl rfl rfl) X_InvalidThresholds hr (by decide) (by rfl) (pa_cons pe_str pa_nil))) pss_nil) (pss_cons (ps_if (pt_cmpR (op_neA hr.units) (pe_callB cl_len (by rfl) T.n_len bb_len (pa_cons (pv 4) pa_nil)) (pe_op op_add (pe_callB cl_len (by rfl) T.n_len bb_len (pa_cons (pv 3) pa_nil)) pe_int) (nomark _)) (pss_one (UbC.ps_raiseC rfl (takes_of rfl rfl rfl rfl) X_InvalidThresholds hr (by decide) (by rfl) (pa_cons pe_str pa_nil))) pss_nil) (pss_cons (ps_fld (pv 0) (pv 1) (by rfl)) (pss_cons (ps_fld (pv 0) (pv 2) (by rfl)) (pss_cons (ps_fld (pv 0) (pe_callTy cl_list (by rfl) T.n_list bb_list (pa_cons (pv 3) pa_nil)) (by rfl)) (pss_one (ps_fld (pv 0) (pe_callTy cl_list (by rfl) T.n_list bb_list (pa_cons (pv 4) pa_nil)) (by rfl)))))))))), ?_⟩
    walk_at "un"
    walk_at "go"
    obtain ⟨xs, hcx0, hcD0⟩ := id hc
    obtain ⟨zs, hsx0, hsD0⟩ := id hs
    have hcx : H c = some (.lst xs) := s0.but _ _ hcx0 fun _ z => by cases z
    have hsx : H s = some (.lst zs) := s0.but _ _ hsx0 fun _ z => by cases z
    have hcD := UbG.Dp.monoTAll s0 _ _ hcD0
    have hsD := UbG.Dp.monoTAll s0 _ _ hsD0
    have lx := frs_len hcD
    have lz := frs_len hsD
    refine ⟨small_line (Nat.le_of_ble_eq_true rfl), fun p1 np1 => ?_⟩
    walk_at "go"
    have e1 : Same H (upd H p1 (.lst [v1])) := sameNew np1
    refine rdListL (.inl (.inl (e1 _ _ hcx))) fun p2 np2 => ?_
    have e2 := e1.trans (sameNew np2 (o := .lst xs))
    refine ⟨p1, p2, [v1], xs, rfl, rfl, sameNew np2 _ _ upd_same, upd_same, small_line (by simp only [List.length_cons, List.length_nil]; omega), fun p3 np3 => ?_⟩
    have e3 := e2.trans (sameNew np3 (o := .lst ([v1] ++ xs)))
    walk_at "go"
    refine ⟨small_line (Nat.le_of_ble_eq_true rfl), fun p4 np4 => ?_⟩
    have e4 := e3.trans (sameNew np4 (o := .lst [v2]))
    refine ⟨p3, p4, [v1] ++ xs, [v2], rfl, rfl, sameNew np4 _ _ upd_same, upd_same, small_line (by simp only [List.length_cons, List.length_nil, List.length_append]; omega), fun p5 np5 => ?_⟩
    have e5 := e4.trans (sameNew np5 (o := .lst ([v1] ++ xs ++ [v2])))
    have hE : upd (upd (upd (upd (upd H p1 (.lst [v1])) p2 (.lst xs)) p3 (.lst ([v1] ++ xs))) p4 (.lst [v2])) p5 (.lst ([v1] ++ xs ++ [v2])) p5 = some (.lst ([v1] ++ xs ++ [v2])) := upd_same
    generalize upd (upd (upd (upd (upd H p1 (.lst [v1])) p2 (.lst xs)) p3 (.lst ([v1] ++ xs))) p4 (.lst [v2])) p5 (.lst ([v1] ++ xs ++ [v2])) = H1 at e5 hE ⊢
    clear e1 e2 e3 e4 np1 np2 np3 np4 np5
    have s1 : UbG.SameT H0 H1 := s0.trans (UbG.sameT e5)
    have e01 := e5
    have hED : DpAll K H1 ([v1] ++ xs ++ [v2]) ((lo :: cs ++ [hi]).map frD) := by
      have d0 : DpAll K H1 [v1] [frD lo] := .cons (UbG.Fr.monoT s1 h1) .nil
      have d1 : DpAll K H1 (v1 :: xs) (frD lo :: cs.map frD) := .cons (UbG.Fr.monoT s1 h1) (Dp.monoAll e5 _ _ hcD)
      have := dpAll_snoc d1 (UbG.Fr.monoT s1 h2)
      rw [show (lo :: cs ++ [hi]).map frD = (frD lo :: cs.map frD) ++ [frD hi] by simp]
      exact this
    generalize hes : [v1] ++ xs ++ [v2] = es at hE hED ⊢
    generalize hrs : lo :: cs ++ [hi] = rs at hb hED
    have les : es.length = rs.length := frs_len hED
    have lrs : rs.length = cs.length + 2 := by rw [← hrs]; simp
    dsimp only [UbG.tAnyG, iZip, tVar, tOp, tTest]
    walk_at "un"
    walk_at "go"
    refine rdSlL (ys := es.drop 1) (.inl (.inl hE)) (UbC.cutF (n := 1)) fun p6 np6 => ?_
    have s2 := s1.trans (UbG.sameT (sameNew np6 (o := .lst (es.drop 1))))
    refine ⟨p5, p6, es, es.drop 1, rfl, .inl (.inl (sameNew np6 _ _ hE)), .inl (.inl upd_same), s2.tab _ hT, fun H2 tb => ?_⟩
    have s3 := UbG.tabbedT (s2.tab _ hT) tb
    have e3 : UbG.SameT H1 H2 := (UbG.sameT (sameNew np6 (o := .lst (es.drop 1)))).trans s3
    have hD2 : DpAll K H2 es (rs.map frD) := UbG.Dp.monoTAll e3 _ _ hED
    have q5 : H2 p5 = some (.lst es) := e3.but _ _ hE fun _ z => by cases z
    have q6 : H2 p6 = some (.lst (es.drop 1)) := s3.but _ _ upd_same fun _ z => by cases z
    refine UbG.turnsZ (xs := es) (ys := es.drop 1) (fun i H' => Same H2 H' ∧ ∀ j, j < i → rs.getD j 0 < rs.getD (j + 1) 0) ⟨fun _ _ h => h, fun j hj => absurd hj (Nat.not_lt_zero _)⟩
      (fun i H' e => ⟨.inl (.inl (e.1 _ _ q5)), .inl (.inl (e.1 _ _ q6))⟩) ?_ ?_
    · rintro i x y Tp H3 hx hy nT ⟨e4, inc⟩
      rw [List.getElem?_drop] at hy
      obtain ⟨r, er, hr1⟩ := frs_at (Dp.monoAll e4 _ _ hD2) hx
      obtain ⟨r', er', hr2⟩ := frs_at (Dp.monoAll e4 _ _ hD2) hy
      have e5 : Same H3 (upd H3 Tp (.tup [x, y])) := sameNew nT
      walk_at "un"
      refine ⟨Tp, [x, y], rfl, .inl (.inl upd_same), rfl, x, [y], rfl, y, [], rfl, rfl, rfl, ?_⟩
      refine ⟨_, rfl, _, rfl, ?_⟩
      have hi : i + 1 < rs.length := by
        have := (List.getElem?_eq_some_iff.mp er').1
        omega
      have er2 : rs[i + 1]? = some r' := by rw [Nat.add_comm]; exact er'
      refine rd_compare (hr1.mono e5) (hr2.mono e5) (hb r (List.mem_of_getElem? er)) (hb r' (List.mem_of_getElem? er')) (by decide) fun H4 s4 => ?_
      walk_at "go"
      have g1 : rs.getD i 0 = r := by simp [List.getD, er]
      have g2 : rs.getD (i + 1) 0 = r' := by simp [List.getD, er2]
      have e6 : Same H2 H4 := (e4.trans e5).trans s4
      refine ⟨fun hb => ?_, fun hb => ?_⟩
      · have hge : ¬rs.getD i 0 < rs.getD (i + 1) 0 := by
          rw [g1, g2]
          intro z
          exact absurd (UbC.cmpGe.mp (of_decide_eq_true hb)) (Rat.not_le.mpr z)
        walk_at "un"
        walk_at "gv"
        dsimp only [tMkO]
        refine UbC.rdRaise (by decide +kernel) fun d H5 s5 => ?_
        refine q2 (fun ok => ?_) _ _ ((s2.trans s3).trans (UbG.sameT (e6.trans s5)))
        have z := ok.1
        rw [hrs] at z
        exact hge (z i hi)
      · refine ⟨e6, fun j hj => ?_⟩
        by_cases e : j = i
        · rw [e, g1, g2]
          refine Rat.not_le.mp fun z => hb (decide_eq_true ?_)
          exact UbC.cmpGe.mpr z
        · exact inc j (by omega)
    · rintro H3 ⟨e4, inc⟩
      have lm : min es.length (es.drop 1).length = rs.length - 1 := by rw [List.length_drop]; omega
      rw [lm] at inc
      have hinc : incr rs := fun j hj => inc j (by omega)
      have s5 : UbG.SameT H0 H3 := (s2.trans s3).trans (UbG.sameT e4)
      have h15 : UbG.SameT H H3 := ((UbG.sameT e01).trans e3).trans (UbG.sameT e4)
      have c3 : H3 c = some (.lst xs) := h15.but _ _ hcx fun _ z => by cases z
      have d3 : H3 s = some (.lst zs) := h15.but _ _ hsx fun _ z => by cases z
      have a3 : H3 a = some (.ins (He.ga K "Thresholds") dx []) := h15.but _ _ ha fun _ z => by cases z
      walk_at "un"
      walk_at "go"
      refine ifBF rfl ?_
      walk_at "go"
      refine ifD (fun many => ?_) (fun few => ?_)
      · dsimp only [tMkO]
        refine UbC.rdRaise (by decide +kernel) fun d H5 s6 => ?_
        exact q2 (fun ok => by have := ok.2.1; omega) _ _ (s5.trans (UbG.sameT s6))
      walk_at "go"
      by_cases hz : ss.length = cs.length + 1
      · refine ifNe (by omega) ?_
        dsimp only [sFld, tVar, tCB, tCons, tNil, tSeq, List.getElem?_cons_zero, List.getElem?_cons_succ]
        walk_at "go"
        have nca : c ≠ a := fun z => by rw [z, a3] at c3; cases c3
        have nsa : s ≠ a := fun z => by rw [z, a3] at d3; cases d3
        refine ⟨a, _, dx, [], rfl, a3, T.cl_Thresholds, T.na_Thresholds_low, by decide, ?_⟩
        walk_at "go"
        refine ⟨a, _, dx, [("low", v1)], rfl, upd_same, T.cl_Thresholds, T.na_Thresholds_high, by simp, ?_⟩
        walk_at "go"
        have s6 : UbG.SameT H0 _ := SameT.late (o := .ins (He.ga K "Thresholds") dx [("low", v1), ("high", v2)]) (SameT.late (o := .ins (He.ga K "Thresholds") dx [("low", v1)]) s5 na) na
        generalize hA : upd (upd H3 a (.ins (He.ga K "Thresholds") dx [("low", v1)])) a (.ins (He.ga K "Thresholds") dx [("low", v1), ("high", v2)]) = HA at s6
        have cA : HA c = some (.lst xs) := by rw [← hA, upd_ne nca, upd_ne nca]; exact c3
        have dA : HA s = some (.lst zs) := by rw [← hA, upd_ne nsa, upd_ne nsa]; exact d3
        have aA : HA a = some (.ins (He.ga K "Thresholds") dx [("low", v1), ("high", v2)]) := by rw [← hA]; exact upd_same
        refine show rListOf K [V.ref c] (upd (upd H3 a (.ins (He.ga K "Thresholds") dx [("low", v1)])) a (.ins (He.ga K "Thresholds") dx [("low", v1), ("high", v2)])) _ from ?_
        rw [hA]
        refine rdListL (.inl (.inl cA)) fun l1 n1 => ?_
        have na1 : a ≠ l1 := fun z => by rw [z, n1] at aA; cases aA
        have s7 : UbG.SameT H0 (upd HA l1 (.lst xs)) := s6.trans (UbG.sameT (sameNew n1))
        walk_at "go"
        refine ⟨a, _, dx, [("low", v1), ("high", v2)], rfl, (upd_ne na1).trans aA, T.cl_Thresholds, T.na_Thresholds_cuts, by simp, ?_⟩
        walk_at "go"
        have s8 : UbG.SameT H0 _ := SameT.late (o := .ins (He.ga K "Thresholds") dx [("low", v1), ("high", v2), ("cuts", .ref l1)]) s7 na
        generalize hB : upd (upd HA l1 (.lst xs)) a (.ins (He.ga K "Thresholds") dx [("low", v1), ("high", v2), ("cuts", .ref l1)]) = HB at s8
        have cB : HB l1 = some (.lst xs) := by rw [← hB, upd_ne (Ne.symm na1)]; exact upd_same
        have dB : HB s = some (.lst zs) := by
          have : s ≠ l1 := fun z => by rw [z, n1] at dA; cases dA
          rw [← hB, upd_ne nsa, upd_ne this]; exact dA
        have aB : HB a = some (.ins (He.ga K "Thresholds") dx [("low", v1), ("high", v2), ("cuts", .ref l1)]) := by rw [← hB]; exact upd_same
        refine show rListOf K [V.ref s] (upd (upd HA l1 (.lst xs)) a (.ins (He.ga K "Thresholds") dx [("low", v1), ("high", v2), ("cuts", .ref l1)])) _ from ?_
        rw [hB]
        refine rdListL (.inl (.inl dB)) fun l2 n2 => ?_
        have na2 : a ≠ l2 := fun z => by rw [z, n2] at aB; cases aB
        have n12 : l1 ≠ l2 := fun z => by rw [z, n2] at cB; cases cB
        have s9 : UbG.SameT H0 (upd HB l2 (.lst zs)) := s8.trans (UbG.sameT (sameNew n2))
        walk_at "go"
        refine ⟨a, _, dx, [("low", v1), ("high", v2), ("cuts", .ref l1)], rfl, (upd_ne na2).trans aB, T.cl_Thresholds, T.na_Thresholds_shares, by simp, ?_⟩
        have s10 : UbG.SameT H0 (upd (upd HB l2 (.lst zs)) a (.ins (He.ga K "Thresholds") dx [("low", v1), ("high", v2), ("cuts", .ref l1), ("shares", .ref l2)])) := SameT.late s9 na
        refine q1 ⟨by rw [hrs]; exact hinc, by omega, hz⟩ _ l1 l2 xs zs s10 upd_same hcx0 ?_ hsx0 ?_ (Nw.back s6 (Nw.of n1)) (Nw.back s8 (Nw.of n2))
        · rw [upd_ne (Ne.symm na1), upd_ne n12]; exact cB
        · rw [upd_ne (Ne.symm na2)]; exact upd_same
      · refine ifBT (by rw [decide_eq_false (by omega)]; rfl) ?_
        dsimp only [tMkO]
        refine UbC.rdRaise (by decide +kernel) fun d H5 s6 => ?_
        exact q2 (fun ok => hz ok.2.2) _ _ (s5.trans (UbG.sameT s6))
/-! ### _gain -/
/-- a gain: the number times what more is had, minus what more is paid -/
def sp__gain (K : PySem.W.Frag) : Sp := fun vs H Q E => ∃ (v1 v2 v3 : V) (m d x : Rat) (a b c : Nat), vs = [v1, v2, v3] ∧ Fr K H v1 m ∧ Fr K H v2 d ∧ Fr K H v3 x ∧ Bd a m ∧ Bd b d ∧ Bd c x ∧ a + b + c < 8990 ∧ ∀ H' v, Same H H' → Fr K H' v (x * m - d) → Q v H'
theorem ok__gain {f : Addr} {fd : FuncData} (T : Tx K mg) (F : FunD K "_gain" "_gain" (defArgs s__gain) (defBody s__gain) (defScope s__gain) [] [] f fd) (C_multiply : Cal P w K mg base "multiply" 2 ["a", "b"] [] (sp_multiply K)) (C_subtract : Cal P w K mg base "subtract" 2 ["a", "b"] [] (sp_subtract K)) : FnOk P w K mg base (L2.CX P w) 3 f fd ["more", "dearer", "number"] (sp__gain K) := by
  refine F.ok sc__gain (fun vs H Q E h => ?_) (fun cdv A outer st H vs Q E hr h => ?_)
  · obtain ⟨_, _, _, _, _, _, _, _, _, rfl, _⟩ := h
    rfl
  · obtain ⟨v1, v2, v3, m, d, x, a, b, c, rfl, h1, h2, h3, b1, b2, b3, hl, q⟩ := h
    refine ⟨_, PSs.nox (pss_one (ps_ret (pe_callC C_subtract hr (by decide) (by rfl) (pa_cons (pe_callC C_multiply hr (by decide) (by rfl) (pa_cons (pv 2) (pa_cons (pv 0) pa_nil))) (pa_cons (pv 1) pa_nil))))), ?_⟩
    walk_at "un"
    walk_at "go"
    refine ⟨_, _, _, _, c, a, rfl, h3, h1, b3, b1, by omega, fun H1 v4 s1 h4 => ?_⟩
    walk_at "go"
    exact ⟨_, _, _, _, c + a, b, rfl, h4, h2.mono s1, bd_mul b3 b1, b2, by omega, fun H2 v5 s2 h5 => q _ _ (s1.trans s2) h5⟩
/-! ### _gainer -/
theorem mid_gain {m d s e : Rat} (h1 : s * m - d ≤ 0) (h2 : 0 < e * m - d) (h3 : s < e) : m ≠ 0 ∧ s ≤ (d / m + e) / 2 ∧ (d / m + e) / 2 < e ∧ 0 < (d / m + e) / 2 * m - d := by
  have hm : 0 < m := by
    have p : 0 < (e - s) * m := by
      have e1 : (e - s) * m = e * m - s * m := by rw [Rat.sub_eq_add_neg, Rat.add_mul, Rat.neg_mul, Rat.sub_eq_add_neg]
      rw [e1]
      generalize e * m = u at *
      generalize s * m = v at *
      grind
    refine Rat.not_le.mp fun z => ?_
    have q : (e - s) * m ≤ 0 := by
      have y := Rat.mul_nonneg (a := e - s) (b := -m) (by grind) (by grind)
      rw [Rat.mul_neg] at y
      grind
    exact absurd p (Rat.not_lt.mpr q)
  have n0 : m ≠ 0 := fun z => by rw [z] at hm; exact absurd hm Rat.lt_irrefl
  have dm : d / m * m = d := by rw [Rat.div_def, Rat.mul_assoc, Rat.inv_mul_cancel _ n0, Rat.mul_one]
  have l1 : s ≤ d / m := by
    refine Rat.not_lt.mp fun z => ?_
    have y := Rat.mul_pos (a := s - d / m) (b := m) (by generalize d / m = u at *; grind) hm
    rw [Rat.sub_eq_add_neg, Rat.add_mul, Rat.neg_mul, dm] at y
    generalize s * m = u at *
    grind
  have l2 : d / m < e := by
    refine Rat.not_le.mp fun z => ?_
    have y := Rat.mul_nonneg (a := d / m - e) (b := m) (by generalize d / m = u at *; grind) (Rat.le_of_lt hm)
    rw [Rat.sub_eq_add_neg, Rat.add_mul, Rat.neg_mul, dm] at y
    generalize e * m = u at *
    grind
  have hh : ∀ x : Rat, x / 2 + x / 2 = x := fun x => by grind
  refine ⟨n0, ?_, ?_, ?_⟩
  · have := hh (d / m + e)
    generalize (d / m + e) / 2 = x at *
    generalize d / m = u at *
    grind
  · have := hh (d / m + e)
    generalize (d / m + e) / 2 = x at *
    generalize d / m = u at *
    grind
  · have y := hh (d / m + e)
    have y2 : (d / m + e) / 2 * m + (d / m + e) / 2 * m = d + e * m := by rw [← Rat.add_mul, y, Rat.add_mul, dm]
    generalize (d / m + e) / 2 * m = x at *
    generalize e * m = u at *
    grind
/-- a number of the piece from s to e that gains, if there is one -/
def sp__gainer (K : PySem.W.Frag) : Sp := fun vs H Q E => ∃ (v1 v2 v3 v4 : V) (m d s e : Rat) (a b c : Nat), vs = [v1, v2, v3, v4] ∧ Fr K H v1 m ∧ Fr K H v2 d ∧ Fr K H v3 s ∧ Fr K H v4 e ∧ Bd a m ∧ Bd b d ∧ Bd c s ∧ Bd c e ∧ a + b + c < 4000 ∧ s < e ∧
  (s * m - d ≤ 0 → e * m - d ≤ 0 → ∀ H', Same H H' → Q .non H') ∧ (∀ H' v x, Same H H' → Fr K H' v x → s ≤ x → x < e → 0 < x * m - d → Bd (a + b + c + 4) x → Q v H')
theorem ok__gainer {f : Addr} {fd : FuncData} (T : Tx K mg) (F : FunD K "_gainer" "_gainer" (defArgs s__gainer) (defBody s__gainer) (defScope s__gainer) [] [] f fd) (C__gain : Cal P w K mg base "_gain" 3 ["more", "dearer", "number"] [] (sp__gain K)) (C_add : Cal P w K mg base "add" 2 ["a", "b"] [] (sp_add K)) (C_divide : Cal P w K mg base "divide" 2 ["a", "b"] [] (sp_divide K)) (C_sign : Cal P w K mg base "sign" 1 ["a"] [] (sp_sign K)) : FnOk P w K mg base (L2.CX P w) 4 f fd ["more", "dearer", "start", "end"] (sp__gainer K) := by
  refine F.ok sc__gainer (fun vs H Q E h => ?_) (fun cdv A outer st H vs Q E hr h => ?_)
  · obtain ⟨_, _, _, _, _, _, _, _, _, _, _, rfl, _⟩ := h
    rfl
  · obtain ⟨v1, v2, v3, v4, m, d, s, e, a, b, c, rfl, h1, h2, h3, h4, b1, b2, b3, b4, hl, hse, q1, q2⟩ := h
    refine ⟨_, PSs.nox (pss_cons (ps_if (pt_cmpR op_gt (pe_callC C_sign hr (by decide) (by rfl) (pa_cons (pe_callC C__gain hr (by decide) (by rfl) (pa_cons (pv 0) (pa_cons (pv 1) (pa_cons (pv 2) pa_nil)))) pa_nil)) pe_int (nomark _)) (pss_one (ps_ret (pv 2))) pss_nil) (pss_cons (ps_if (pt_cmpR op_le (pe_callC C_sign hr (by decide) (by rfl) (pa_cons (pe_callC C__gain hr (by decide) (by rfl) (pa_cons (pv 0) (pa_cons (pv 1) (pa_cons (pv 3) pa_nil)))) pa_nil)) pe_int (nomark _)) (pss_one (ps_ret pe_non)) pss_nil) (pss_cons (ps_set (i := 4) sc__gainer.nd rfl (Or.inl rfl) (pe_callC C_divide hr (by decide) (by rfl) (pa_cons (pv 1) (pa_cons (pv 0) pa_nil)))) (pss_one (ps_ret (pe_callC C_divide hr (by decide) (by rfl) (pa_cons (pe_callC C_add hr (by decide) (by rfl) (pa_cons (pv 4) (pa_cons (pv 3) pa_nil))) (pa_cons (pe_tupN (pa_cons pe_int (pa_cons pe_int pa_nil))) pa_nil)))))))), ?_⟩
    walk_at "un"
    walk_at "go"
    refine ⟨_, _, _, _, _, _, a, b, c, rfl, h1, h2, h3, b1, b2, b3, by omega, fun H1 g1 s1 hg1 => ?_⟩
    walk_at "go"
    refine rd_sign hg1 ?_
    walk_at "go"
    refine ifD (fun hp => ?_) (fun hn => ?_)
    · have hp : 0 < s * m - d := by
        rw [← cmpR_zero] at hp
        exact UbC.cmpGt.mp hp
      walk_at "go"
      exact q2 _ _ s s1 (h3.mono s1) Rat.le_refl hse hp (b3.mono (by omega))
    · have hn : s * m - d ≤ 0 := by
        rw [← cmpR_zero] at hn
        exact Rat.not_lt.mp fun z => hn (UbC.cmpGt.mpr z)
      walk_at "go"
      refine ⟨_, _, _, _, _, _, a, b, c, rfl, h1.mono s1, h2.mono s1, h4.mono s1, b1, b2, b4, by omega, fun H2 g2 s2 hg2 => ?_⟩
      walk_at "go"
      refine rd_sign hg2 ?_
      walk_at "go"
      have s12 := s1.trans s2
      refine ifD (fun hz => ?_) (fun hz => ?_)
      · rw [← cmpR_zero] at hz
        walk_at "go"
        exact q1 hn (UbC.cmpLe.mp hz) _ s12
      · have hz : 0 < e * m - d := by
          rw [← cmpR_zero] at hz
          exact Rat.not_le.mp fun z => hz (UbC.cmpLe.mpr z)
        obtain ⟨n0, m1, m2, m3⟩ := mid_gain hn hz hse
        walk_at "go"
        have bn := bd_div n0 b2 b1
        refine ⟨_, _, d, m, b, a, rfl, h2.mono s12, h1.mono s12, b2, b1, by omega, fun z => absurd z n0, fun _ H3 g3 s3 hg3 => ?_⟩
        walk_at "go"
        have s13 := s12.trans s3
        refine ⟨_, _, _, _, b + a, c, rfl, hg3, h4.mono s13, bn, b4, by omega, fun H4 g4 s4 hg4 => ?_⟩
        walk_at "go"
        rename_i H5 o5 s5 h5
        have h5 : Fr K H5 o5 2 := h5
        have b2' : Bd 2 (2 : Rat) := ⟨by decide, by decide⟩
        have n2 : (2 : Rat) ≠ 0 := by decide
        refine ⟨_, _, _, 2, b + a + c + 1, 2, rfl, hg4.mono s5, h5, bd_add bn b4, b2', by omega, fun z => absurd z n2, fun _ H6 g6 s6 hg6 => ?_⟩
        exact q2 _ _ _ (((s13.trans s4).trans s5).trans s6) hg6 m1 m2 m3 ((bd_div n2 (bd_add bn b4) b2').mono (by omega))
/-! ### Thresholds_lie -/
theorem getD_at1 {rs : List Rat} {i : Nat} {r : Rat} (h : rs[i]? = some r) : rs.getD i 0 = r := by simp [List.getD, h]
/-- what a told piece j gains for a number of the piece i -/
def gainR (ss ys : List Rat) (i j : Nat) (x : Rat) : Rat := x * (ss.getD j 0 - ss.getD i 0) - (ys.getD j 0 - ys.getD i 0)
/-- no number gains at the ends of its piece -/
def noLie (es ss ys : List Rat) : Prop := ∀ i j, i < ss.length → j < ss.length → gainR ss ys i j (es.getD i 0) ≤ 0 ∧ gainR ss ys i j (es.getD (i + 1) 0) ≤ 0
def sp_Thresholds_lie (K : PySem.W.Frag) : Sp := fun vs H Q E => ∃ (a p : Addr) (lo hi : Rat) (c s : Addr) (cs ss ys : List Rat) (b : Nat), vs = [.ref a, .ref p] ∧ ThX K H a lo hi c s cs ss ∧ LL K H p (ys.map frD) ∧ ss.length = cs.length + 1 ∧ ss.length ≤ 8 ∧ ys.length ≤ 10 ∧ (∀ x ∈ ss, Bd 3 x) ∧ (∀ x ∈ lo :: cs ++ [hi], Bd 23 x) ∧ (∀ x ∈ ys, Bd b x) ∧ b ≤ 1000 ∧ incr (lo :: cs ++ [hi]) ∧
  (ys.length = ss.length → noLie (lo :: cs ++ [hi]) ss ys → ∀ H', Same H H' → Q .non H') ∧
  (ys.length = ss.length → ∀ i j x H' t v1 v2 v3, i < ss.length → j < ss.length → (lo :: cs ++ [hi]).getD i 0 ≤ x → x < (lo :: cs ++ [hi]).getD (i + 1) 0 → 0 < gainR ss ys i j x → Bd (2 * b + 40) x → Same H H' → SqT K H' t [v1, v2, v3] → Fr K H' v1 x → Fr K H' v2 ((lo :: cs ++ [hi]).getD j 0) → Fr K H' v3 (gainR ss ys i j x) → Q (.ref t) H') ∧
  (ys.length ≠ ss.length → ∀ H' d, UbG.SameT H H' → E (.ref (He.ga K "InvalidThresholds")) (some d) H')
theorem cutI {xs : List V} (h : 1 ≤ xs.length) : cutV xs none (some (-1)) = xs.dropLast := by
  have e0 : HT.sIx xs.length 0 none = 0 := rfl
  have e1 : HT.sIx xs.length xs.length (some (-1)) = xs.length - 1 := by
    have z := HT.clip_eq (-1) xs.length xs.length
    rw [if_pos (by decide)] at z
    omega
  unfold cutV
  rw [e0, e1, List.dropLast_eq_take, List.drop_zero, Nat.sub_zero]
theorem ok_Thresholds_lie {f : Addr} {fd : FuncData} (T : Tx K mg) (F : FunD K "lie" "Thresholds.lie" (defArgs s_Thresholds_lie) (defBody s_Thresholds_lie) (defScope s_Thresholds_lie) [] [] f fd) (X_InvalidThresholds : UbC.CalX P w K mg base "InvalidThresholds" 1 (sp_InvalidThresholds___init__ K)) (C__gain : Cal P w K mg base "_gain" 3 ["more", "dearer", "number"] [] (sp__gain K)) (C__gainer : Cal P w K mg base "_gainer" 4 ["more", "dearer", "start", "end"] [] (sp__gainer K)) (C_subtract : Cal P w K mg base "subtract" 2 ["a", "b"] [] (sp_subtract K)) : FnOk P w K mg base (L2.CX P w) 5 f fd ["self", "payments"] (sp_Thresholds_lie K) := by
  refine F.ok sc_Thresholds_lie (fun vs H Q E h => ?_) (fun cdv A outer st H vs Q E hr h => ?_)
  · obtain ⟨_, _, _, _, _, _, _, _, _, _, rfl, _⟩ := h
    rfl
  · obtain ⟨a, p, lo, hi, c, s, cs, ss, ys, b, rfl, ⟨dx, v1, v2, ha, h1, h2, ⟨xs, hc, hcD⟩, ⟨zs, hs, hsD⟩⟩, ⟨us, hp, hpD⟩, l1, l2, l3, bs, be, by', bb, inc, q1, q2, q3⟩ := h
    have lx := frs_len hcD
    have lz := frs_len hsD
    have lu := frs_len hpD
    refine ⟨_, (pss_cons (ps_if (pt_cmpR (op_neA hr.units) (pe_callB cl_len (by rfl) T.n_len bb_len (pa_cons (pv 1) pa_nil)) (pe_callB cl_len (by rfl) T.n_len bb_len (pa_cons (pe_fld (pv 0) rfl) pa_nil)) (nomark _)) (pss_one (UbC.ps_raiseC rfl (takes_of rfl rfl rfl rfl) X_InvalidThresholds hr (by decide) (by rfl) (pa_cons pe_str pa_nil))) pss_nil) (pss_cons (ps_set (i := 2) sc_Thresholds_lie.nd rfl (Or.inl rfl) (pe_op op_cat (pe_op op_cat (pe_lstN (pa_cons (pe_fld (pv 0) rfl) pa_nil)) (pe_fld (pv 0) rfl)) (pe_lstN (pa_cons (pe_fld (pv 0) rfl) pa_nil)))) (pss_cons (ps_for PassesOwn.leaving rfl (pi_enum (by rfl) T.n_enumerate (pa_cons (pe_fld (pv 0) rfl) pa_nil)) (pg_tup rfl (pgs_cons (pg_name (i := 3) sc_Thresholds_lie.nd rfl (Or.inl rfl)) (pgs_cons (pg_name (i := 4) sc_Thresholds_lie.nd rfl (Or.inl rfl)) pgs_nil))) (pss_one (ps_for PassesOwn.leaving rfl (pi_enum (by rfl) T.n_enumerate (pa_cons (pe_slice sl_list (pv 2) po_none (po_some (pe_un un_neg pe_int))) pa_nil)) (pg_tup rfl (pgs_cons (pg_name (i := 5) sc_Thresholds_lie.nd rfl (Or.inl rfl)) (pgs_cons (pg_name (i := 6) sc_Thresholds_lie.nd rfl (Or.inl rfl)) pgs_nil))) (pss_cons (ps_set (i := 7) sc_Thresholds_lie.nd rfl (Or.inl rfl) (pe_callC C_subtract hr (by decide) (by rfl) (pa_cons (pe_ix ix_seq (pe_fld (pv 0) rfl) (pv 5) (fun _ _ => rfl)) (pa_cons (pv 4) pa_nil)))) (pss_cons (ps_set (i := 8) sc_Thresholds_lie.nd rfl (Or.inl rfl) (pe_callC C_subtract hr (by decide) (by rfl) (pa_cons (pe_ix ix_seq (pv 1) (pv 5) (fun _ _ => rfl)) (pa_cons (pe_ix ix_seq (pv 1) (pv 3) (fun _ _ => rfl)) pa_nil)))) (pss_cons (ps_set (i := 9) sc_Thresholds_lie.nd rfl (Or.inl rfl) (pe_callC C__gainer hr (by decide) (by rfl) (pa_cons (pv 7) (pa_cons (pv 8) (pa_cons (pe_ix ix_seq (pv 2) (pv 3) (fun _ _ => rfl)) (pa_cons (pe_ix ix_seq (pv 2) (pe_op op_add (pv 3) pe_int) (fun _ _ => rfl)) pa_nil)))))) (pss_one (ps_if (pt_cmpR op_notNo (pv 9) pe_non (nomark _)) (pss_one (ps_ret (pe_tupN (pa_cons (pv 9) (pa_cons (pv 6) (pa_cons (pe_callC C__gain hr (by decide) (by rfl) (pa_cons (pv 7) (pa_cons (pv 8) (pa_cons (pv 9) pa_nil)))) pa_nil)))))) pss_nil)))))))) (pss_one (ps_ret pe_non))))), ?_⟩
    walk_at "un"
    walk_at "go"
    dsimp only [tFld, tVar, List.getElem?_cons_zero, List.getElem?_cons_succ]
    walk_at "go"
    refine ⟨a, _, dx, _, .ref s, rfl, ha, T.cl_Thresholds, T.na_Thresholds_shares, by rfl, ?_⟩
    walk_at "go"
    by_cases hz : ys.length = ss.length
    case neg =>
      refine ifBT (by rw [decide_eq_false (by omega)]; rfl) ?_
      dsimp only [tMkO]
      exact UbC.rdRaise (by decide +kernel) fun d H5 s6 => q3 hz _ _ (UbG.sameT s6)
    refine ifNe (by omega) ?_
    walk_at "go"
    refine ⟨a, _, dx, _, v1, rfl, ha, T.cl_Thresholds, T.na_Thresholds_low, by rfl, ?_⟩
    refine rdLstH line1 fun H1 p1 s1 n1 hp1 => ?_
    walk_at "go"
    refine ⟨a, _, dx, _, .ref c, rfl, s1 _ _ ha, T.cl_Thresholds, T.na_Thresholds_cuts, by rfl, ?_⟩
    refine ⟨p1, c, [v1], xs, rfl, rfl, hp1, s1 _ _ hc, small_line (by simp only [List.length_cons, List.length_nil]; omega), fun p2 n2 => ?_⟩
    have hp2 : upd H1 p2 (.lst ([v1] ++ xs)) p2 = some (.lst ([v1] ++ xs)) := upd_same
    have s2 := s1.trans (sameNew n2 (o := .lst ([v1] ++ xs)))
    generalize upd H1 p2 (.lst ([v1] ++ xs)) = H2 at hp2 s2 ⊢
    clear n2 n1 hp1 s1
    walk_at "go"
    refine ⟨a, _, dx, _, v2, rfl, s2 _ _ ha, T.cl_Thresholds, T.na_Thresholds_high, by rfl, ?_⟩
    refine rdLstH line1 fun H3 p3 s3 n3 hp3 => ?_
    refine ⟨p2, p3, [v1] ++ xs, [v2], rfl, rfl, s3 _ _ hp2, hp3, small_line (by simp only [List.length_cons, List.length_nil, List.length_append]; omega), fun p4 n4 => ?_⟩
    have hp4 : upd H3 p4 (.lst ([v1] ++ xs ++ [v2])) p4 = some (.lst ([v1] ++ xs ++ [v2])) := upd_same
    have s4 := (s2.trans s3).trans (sameNew n4 (o := .lst ([v1] ++ xs ++ [v2])))
    generalize upd H3 p4 (.lst ([v1] ++ xs ++ [v2])) = H4 at hp4 s4 ⊢
    clear n4 n3 hp3 s3 s2 hp2
    have hED : DpAll K H4 ([v1] ++ xs ++ [v2]) ((lo :: cs ++ [hi]).map frD) := by
      have d1 : DpAll K H4 (v1 :: xs) (frD lo :: cs.map frD) := .cons (h1.mono s4) (Dp.monoAll s4 _ _ hcD)
      have := dpAll_snoc d1 (h2.mono s4)
      rw [show (lo :: cs ++ [hi]).map frD = (frD lo :: cs.map frD) ++ [frD hi] by simp]
      exact this
    generalize hes : [v1] ++ xs ++ [v2] = es at hp4 hED
    have lrs : (lo :: cs ++ [hi]).length = cs.length + 2 := by simp
    generalize lo :: cs ++ [hi] = rs at *
    have les := frs_len hED
    have hsD4 := Dp.monoAll s4 _ _ hsD
    have hpD4 := Dp.monoAll s4 _ _ hpD
    have ha4 := s4 _ _ ha
    have hs4 := s4 _ _ hs
    have hu4 := s4 _ _ hp
    refine forOf ?_
    dsimp only [iEnum, tCons, tFld, tVar, tNil, List.getElem?_cons_zero, List.getElem?_cons_succ]
    walk_at "it"
    walk_at "go"
    refine ⟨a, _, dx, _, .ref s, rfl, ha4, T.cl_Thresholds, T.na_Thresholds_shares, by rfl, ?_⟩
    refine ⟨s, zs, rfl, .inl (.inl hs4), ?_⟩
    refine FL.enum (xs := zs) (fun i σ' H' => ∃ o3 o4 o5 o6 o7 o8 o9, σ' = [some (.ref a), some (.ref p), some (.ref p4), o3, o4, o5, o6, o7, o8, o9] ∧ Same H4 H' ∧ ∀ i', i' < i → ∀ j, j < ss.length → gainR ss ys i' j (rs.getD i' 0) ≤ 0 ∧ gainR ss ys i' j (rs.getD (i' + 1) 0) ≤ 0)
      ⟨_, _, _, _, _, _, _, rfl, fun _ _ h => h, fun i' h => absurd h (Nat.not_lt_zero _)⟩ (fun i σ' H' ⟨_, _, _, _, _, _, _, _, e, _⟩ => .inl (.inl (e _ _ hs4))) ?_ ?_
    · rintro i x σ' H5 T' hx ⟨o3, o4, o5, o6, o7, o8, o9, rfl, s5, K5⟩ nT
      have hi : i < ss.length := by
        have := (List.getElem?_eq_some_iff.mp hx).1
        omega
      obtain ⟨vi, e1, hvi⟩ := frAt hsD4 hi
      rw [hx] at e1
      cases e1
      have s6 := s5.trans (sameNew nT (o := .tup [.int (i : Nat), x]))
      walk_at "un"
      refine ⟨T', _, rfl, .inl (.inl upd_same), rfl, _, _, rfl, _, _, rfl, rfl, ?_⟩
      generalize upd H5 T' (.tup [.int (i : Nat), x]) = H6 at s6 ⊢
      clear s5 nT
      walk_at "un"
      refine forOf ?_
      walk_at "it"
      walk_at "un"
      walk_at "go"
      refine rdSlL (ys := es.dropLast) (.inl (.inl (s6 _ _ hp4))) (cutI (by omega)) fun p7 n7 => ?_
      have hp7 : upd H6 p7 (.lst es.dropLast) p7 = some (.lst es.dropLast) := upd_same
      have s7 := s6.trans (sameNew n7 (o := .lst es.dropLast))
      generalize upd H6 p7 (.lst es.dropLast) = H7 at hp7 s7 ⊢
      clear n7 s6
      refine ⟨p7, es.dropLast, rfl, .inl (.inl hp7), ?_⟩
      refine FL.enum (xs := es.dropLast) (fun j σ' H' => ∃ o5 o6 o7 o8 o9, σ' = [some (.ref a), some (.ref p), some (.ref p4), some (.int (i : Nat)), some x, o5, o6, o7, o8, o9] ∧ Same H7 H' ∧ ∀ j', j' < j → gainR ss ys i j' (rs.getD i 0) ≤ 0 ∧ gainR ss ys i j' (rs.getD (i + 1) 0) ≤ 0)
        ⟨_, _, _, _, _, rfl, fun _ _ h => h, fun j' h => absurd h (Nat.not_lt_zero _)⟩ (fun j σ' H' ⟨_, _, _, _, _, _, e, _⟩ => .inl (.inl (e _ _ hp7))) ?_ ?_
      · rintro j y σ' H8 T2 hy ⟨o5, o6, o7, o8, o9, rfl, s8, K8⟩ nT2
        have hj : j < ss.length := by
          have := (List.getElem?_eq_some_iff.mp hy).1
          rw [List.length_dropLast] at this
          omega
        have hyj : es[j]? = some y := by
          rw [List.getElem?_dropLast, if_pos (by omega)] at hy
          exact hy
        obtain ⟨vj, e2, hvj⟩ := frAt hED (show j < rs.length by omega)
        rw [hyj] at e2
        cases e2
        have s9 := (s7.trans s8).trans (sameNew nT2 (o := .tup [.int (j : Nat), y]))
        walk_at "un"
        refine ⟨T2, _, rfl, .inl (.inl upd_same), rfl, _, _, rfl, _, _, rfl, rfl, ?_⟩
        generalize hH9 : upd H8 T2 (.tup [.int (j : Nat), y]) = H9 at s9 ⊢
        have s89 : Same H8 H9 := by
          rw [← hH9]
          exact sameNew nT2
        clear hH9 nT2
        obtain ⟨w1, f1, g1⟩ := frAt hsD4 hj
        obtain ⟨w2, f2, g2⟩ := frAt hpD4 (show j < ys.length by omega)
        obtain ⟨w3, f3, g3⟩ := frAt hpD4 (show i < ys.length by omega)
        obtain ⟨w4, f4, g4⟩ := frAt hED (show i < rs.length by omega)
        obtain ⟨w5, f5, g5⟩ := frAt hED (show i + 1 < rs.length by omega)
        walk_at "un"
        dsimp only [tFld, tVar, List.getElem?_cons_zero, List.getElem?_cons_succ]
        walk_at "go"
        refine ⟨a, _, dx, _, .ref s, rfl, s9 _ _ ha4, T.cl_Thresholds, T.na_Thresholds_shares, by rfl, ?_⟩
        walk_at "go"
        refine rdIxL (.inl (.inl (s9 _ _ hs4))) (at_of (j := j) (by omega) f1) ?_
        walk_at "go"
        refine ⟨_, _, _, _, 3, 3, rfl, g1.mono s9, hvi.mono s9, bs _ (List.getElem_mem _), bs _ (List.getElem_mem _), by decide, fun H10 m1 s10 hm1 => ?_⟩
        walk_at "go"
        have s010 := s9.trans s10
        refine rdIxL (.inl (.inl (s010 _ _ hu4))) (at_of (j := j) (by omega) f2) ?_
        walk_at "go"
        refine rdIxL (.inl (.inl (s010 _ _ hu4))) (at_of (j := i) (by omega) f3) ?_
        refine ⟨_, _, _, _, b, b, rfl, g2.mono s010, g3.mono s010, by' _ (List.getElem_mem _), by' _ (List.getElem_mem _), by omega, fun H11 d1 s11 hd1 => ?_⟩
        walk_at "go"
        have s011 := s010.trans s11
        refine rdIxL (.inl (.inl (s011 _ _ hp4))) (at_of (j := i) (by omega) f4) ?_
        walk_at "go"
        refine rdIxL (.inl (.inl (s011 _ _ hp4))) (at_of (j := i + 1) (by omega) f5) ?_
        have bm : Bd 7 (ss[j] - ss[i]) := bd_sub (bs _ (List.getElem_mem _)) (bs _ (List.getElem_mem _))
        have bd : Bd (b + b + 1) (ys[j] - ys[i]) := bd_sub (by' _ (List.getElem_mem _)) (by' _ (List.getElem_mem _))
        have gE : ∀ x, gainR ss ys i j x = x * (ss[j] - ss[i]) - (ys[j] - ys[i]) := fun x => by
          unfold gainR
          rw [getD_at1 (List.getElem?_eq_getElem hj), getD_at1 (List.getElem?_eq_getElem hi), getD_at1 (List.getElem?_eq_getElem (show j < ys.length by omega)), getD_at1 (List.getElem?_eq_getElem (show i < ys.length by omega))]
        have r0 : rs.getD i 0 = rs[i] := getD_at1 (List.getElem?_eq_getElem (by omega))
        have r1 : rs.getD (i + 1) 0 = rs[i + 1] := getD_at1 (List.getElem?_eq_getElem (by omega))
        have rj : rs.getD j 0 = rs[j] := getD_at1 (List.getElem?_eq_getElem (by omega))
        have hlt : rs[i] < rs[i + 1] := by
          have z := inc i (by omega)
          rw [r0, r1] at z
          exact z
        refine ⟨_, _, _, _, ss[j] - ss[i], ys[j] - ys[i], rs[i], rs[i + 1], 7, b + b + 1, 23, rfl, hm1.mono s11, hd1, g4.mono s011, g5.mono s011, bm, bd, be _ (List.getElem_mem _), be _ (List.getElem_mem _), by omega, hlt, fun n1 n2 H12 s12 => ?_, fun H12 t x s12 hx x1 x2 x3 bx => ?_⟩
        · walk_at "go"
          refine ⟨rfl, ?_⟩
          walk_at "go"
          refine ifBF rfl ?_
          refine ⟨_, _, _, _, _, rfl, ((((s8.trans s89).trans s10).trans s11).trans s12), fun j' hj' => ?_⟩
          by_cases ej : j' = j
          · rw [ej, r0, r1, gE, gE]
            exact ⟨n1, n2⟩
          · exact K8 j' (by omega)
        · walk_at "go"
          refine ifBT rfl ?_
          walk_at "go"
          refine ⟨_, _, _, _, _, _, 7, b + b + 1, 7 + (b + b + 1) + 23 + 4, rfl, (hm1.mono s11).mono s12, hd1.mono s12, hx, bm, bd, bx, by omega, fun H13 g s13 hg => ?_⟩
          refine ⟨small_line (Nat.le_of_ble_eq_true rfl), fun tp ntp => ?_⟩
          have s14 := sameNew ntp (o := .tup [t, y, g])
          have s413 := (s011.trans s12).trans s13
          refine q2 hz i j _ _ tp t y g hi hj (by rw [r0]; exact x1) (by rw [r1]; exact x2) (by rw [gE]; exact x3) (bx.mono (by omega)) ((s4.trans s413).trans s14) (.inl (.inl upd_same)) ((hx.mono s13).mono s14) (by rw [rj]; exact (hvj.mono s413).mono s14) (by rw [gE]; exact hg.mono s14)
      · rintro σ' H8 ⟨o5, o6, o7, o8, o9, rfl, s8, K8⟩
        refine ⟨_, _, _, _, _, _, _, rfl, s7.trans s8, fun i' hi' j hj => ?_⟩
        by_cases ei : i' = i
        · rw [ei]
          exact K8 j (by rw [List.length_dropLast]; omega)
        · exact K5 i' (by omega) j hj
    · rintro σ' H5 ⟨o3, o4, o5, o6, o7, o8, o9, rfl, s5, K5⟩
      walk_at "un"
      exact q1 hz (fun i j hi hj => K5 i (by omega) j hj) _ (s4.trans s5)
/-! ### _law_steps -/
/-- ascending by more than 1/1000 -/
def gapP (es : List Rat) : Prop := ∀ i, i + 1 < es.length → es.getD i 0 + Rat.divInt 1 1000 ≤ es.getD (i + 1) 0
/-- a drawn rule: its ends and cuts, its shares -/
structure Stp (ps ss : List Rat) : Prop where
  l2 : 2 ≤ ps.length
  l5 : ps.length ≤ 5
  ls : ss.length + 1 = ps.length
  inc : incr ps
  bp : ∀ x ∈ ps, Bd 40 x
  bs : ∀ x ∈ ss, Bd 40 x
  gap : gapP ps
  bp2 : ∀ x ∈ ps, Bd 23 x
  bs2 : ∀ x ∈ ss, Bd 3 x
def sp__law_steps (K : PySem.W.Frag) : Sp := fun vs H Q E => ∃ (d : Addr), vs = [.ref d] ∧ Ints H d ∧ ∀ (H' : Hp) (t a b : Addr) (ps ss : List Rat), SameS [d] H H' → Ints H' d → SqT K H' t [.ref a, .ref b] → LL K (wo [d] H') a (ps.map frD) → LL K (wo [d] H') b (ss.map frD) → Stp ps ss → Q (.ref t) H'
theorem incr_one (x : Rat) : incr [x] := fun i h => by
  simp only [List.length_cons, List.length_nil] at h
  omega
theorem getD_at0 {rs : List Rat} {i : Nat} {r : Rat} (h : rs[i]? = some r) : rs.getD i 0 = r := by simp [List.getD, h]
theorem incr_push {ps : List Rat} {x : Rat} {k : Nat} (h : incr ps) (l : ps.length = k + 1) (hx : ps.getD k 0 < x) : incr (ps ++ [x]) := fun i hi => by
  rw [List.length_append, List.length_cons, List.length_nil] at hi
  by_cases e : i = k
  · subst e
    have e1 : (ps ++ [x]).getD i 0 = ps.getD i 0 := by
      rw [List.getD_eq_getElem?_getD, List.getElem?_append_left (by omega), ← List.getD_eq_getElem?_getD]
    have e2 : (ps ++ [x]).getD (i + 1) 0 = x := by
      rw [List.getD_eq_getElem?_getD, List.getElem?_append_right (by omega), show i + 1 - ps.length = 0 by omega]
      rfl
    rw [e1, e2]
    exact hx
  · have e1 : (ps ++ [x]).getD i 0 = ps.getD i 0 := by
      rw [List.getD_eq_getElem?_getD, List.getElem?_append_left (by omega), ← List.getD_eq_getElem?_getD]
    have e2 : (ps ++ [x]).getD (i + 1) 0 = ps.getD (i + 1) 0 := by
      rw [List.getD_eq_getElem?_getD, List.getElem?_append_left (by omega), ← List.getD_eq_getElem?_getD]
    rw [e1, e2]
    exact h i (by omega)
theorem gap_one (x : Rat) : gapP [x] := fun i h => by
  simp only [List.length_cons, List.length_nil] at h
  omega
theorem gap_push {ps : List Rat} {x : Rat} {k : Nat} (h : gapP ps) (l : ps.length = k + 1) (hx : ps.getD k 0 + Rat.divInt 1 1000 ≤ x) : gapP (ps ++ [x]) := fun i hi => by
  rw [List.length_append, List.length_cons, List.length_nil] at hi
  by_cases e : i = k
  · subst e
    have e1 : (ps ++ [x]).getD i 0 = ps.getD i 0 := by
      rw [List.getD_eq_getElem?_getD, List.getElem?_append_left (by omega), ← List.getD_eq_getElem?_getD]
    have e2 : (ps ++ [x]).getD (i + 1) 0 = x := by
      rw [List.getD_eq_getElem?_getD, List.getElem?_append_right (by omega), show i + 1 - ps.length = 0 by omega]
      rfl
    rw [e1, e2]
    exact hx
  · have e1 : (ps ++ [x]).getD i 0 = ps.getD i 0 := by
      rw [List.getD_eq_getElem?_getD, List.getElem?_append_left (by omega), ← List.getD_eq_getElem?_getD]
    have e2 : (ps ++ [x]).getD (i + 1) 0 = ps.getD (i + 1) 0 := by
      rw [List.getD_eq_getElem?_getD, List.getElem?_append_left (by omega), ← List.getD_eq_getElem?_getD]
    rw [e1, e2]
    exact h i (by omega)
theorem milli_pos : (0 : Rat) < Rat.divInt 1 1000 := by decide +kernel
theorem gap_incr {ps : List Rat} (h : gapP ps) : incr ps := fun i hi => by
  have := h i hi
  have := milli_pos
  generalize Rat.divInt 1 1000 = e at *
  grind
theorem div_pos' {a b : Int} (ha : 0 < a) (hb : 0 < b) : (0 : Rat) < Rat.divInt a b := Rat.not_le.mp fun z => by
  have h1 : (0 : Rat) ≤ -Rat.divInt a b := by grind
  rw [div_neg, Rat.divInt_nonneg_iff_of_pos_right hb] at h1
  omega
theorem ok__law_steps {f : Addr} {fd : FuncData} (T : Tx K mg) (F : FunD K "_law_steps" "_law_steps" (defArgs s__law_steps) (defBody s__law_steps) (defScope s__law_steps) [] [] f fd) (C__law_fraction : Cal P w K mg base "_law_fraction" 2 ["row"] [] (sp__law_fraction K)) (C__law_less : Cal P w K mg base "_law_less" 1 ["a", "b"] [] (sp__law_less K)) (C__law_lowest : Cal P w K mg base "_law_lowest" 1 ["p", "q"] [] (sp__law_lowest K)) (C__law_plus : Cal P w K mg base "_law_plus" 2 ["a", "b"] [] (sp__law_plus K)) (C__law_take : Cal P w K mg base "_law_take" 1 ["row", "bound"] [] (sp__law_take)) : FnOk P w K mg base (L2.CX P w) 3 f fd ["row"] (sp__law_steps K) := by
  refine F.ok sc__law_steps (fun vs H Q E h => ?_) (fun cdv A outer st H vs Q E hr h => ?_)
  · obtain ⟨_, rfl, _⟩ := h
    rfl
  · obtain ⟨d, rfl, hI, q⟩ := h
    refine ⟨_, PSs.nox (pss_cons (ps_set (i := 1) sc__law_steps.nd rfl (Or.inl rfl) (pe_callC C__law_fraction hr (by decide) (by rfl) (pa_cons (pv 0) pa_nil))) (pss_cons (ps_set (i := 2) sc__law_steps.nd rfl (Or.inl rfl) (pe_lstN (pa_cons (pv 1) pa_nil))) (pss_cons (ps_for PassesOwn.never rfl (pi_range1 (by rfl) T.n_range (pa_cons (pe_op op_add pe_int (pe_callC C__law_take hr (by decide) (by rfl) (pa_cons (pv 0) (pa_cons pe_int pa_nil)))) pa_nil)) (pg_name (i := 3) sc__law_steps.nd rfl (Or.inl rfl)) (pss_one (ps_expr (pe_bm PySem.F.plainAttrs_list PySem.F.slot_list_append PySem.F.type_list_append mt_append (pv 2) (pa_cons (pe_callC C__law_plus hr (by decide) (by rfl) (pa_cons (pe_ix ix_seq (pv 2) (pv 3) (fun _ _ => rfl)) (pa_cons (pe_callC C__law_lowest hr (by decide) (by rfl) (pa_cons (pe_op op_add pe_int (pe_callC C__law_take hr (by decide) (by rfl) (pa_cons (pv 0) (pa_cons pe_int pa_nil)))) (pa_cons (pe_op op_add pe_int (pe_callC C__law_take hr (by decide) (by rfl) (pa_cons (pv 0) (pa_cons pe_int pa_nil)))) pa_nil))) pa_nil))) pa_nil))))) (pss_cons (ps_set (i := 4) sc__law_steps.nd rfl (Or.inl rfl) (pe_lstN pa_nil)) (pss_cons (ps_for PassesOwn.never rfl (pi_range1 (by rfl) T.n_range (pa_cons (pe_op op_sub (pe_callB cl_len (by rfl) T.n_len bb_len (pa_cons (pv 2) pa_nil)) pe_int) pa_nil)) (pg_name (i := 3) sc__law_steps.nd rfl (Or.inl rfl)) (pss_one (ps_expr (pe_bm PySem.F.plainAttrs_list PySem.F.slot_list_append PySem.F.type_list_append mt_append (pv 4) (pa_cons (pe_callC C__law_lowest hr (by decide) (by rfl) (pa_cons (pe_op op_sub (pe_callC C__law_take hr (by decide) (by rfl) (pa_cons (pv 0) (pa_cons pe_int pa_nil))) pe_int) (pa_cons (pe_op op_add pe_int (pe_callC C__law_take hr (by decide) (by rfl) (pa_cons (pv 0) (pa_cons pe_int pa_nil)))) pa_nil))) pa_nil))))) (pss_consJ (ps_if (pt_cmpR (op_eqA hr.units) (pe_callC C__law_take hr (by decide) (by rfl) (pa_cons (pv 0) (pa_cons pe_int pa_nil))) pe_int (nomark _)) (pss_one (ps_for PassesOwn.never rfl (pi_range2 (by rfl) T.n_range (pa_cons pe_int (pa_cons (pe_callB cl_len (by rfl) T.n_len bb_len (pa_cons (pv 4) pa_nil)) pa_nil))) (pg_name (i := 3) sc__law_steps.nd rfl (Or.inl rfl)) (pss_one (ps_if (pt_val (pe_callC C__law_less hr (by decide) (by rfl) (pa_cons (pe_ix ix_seq (pv 4) (pv 3) (fun _ _ => rfl)) (pa_cons (pe_ix ix_seq (pv 4) (pe_op op_sub (pv 3) pe_int) (fun _ _ => rfl)) pa_nil)))) (pss_one (ps_asg (pe_ix ix_seq (pv 4) (pe_op op_sub (pv 3) pe_int) (fun _ _ => rfl)) (pg_sub (pv 4) (pv 3) set_list))) pss_nil)))) pss_nil) (pss_one (ps_ret (pe_tupN (pa_cons (pv 2) (pa_cons (pv 4) pa_nil))))))))))), ?_⟩
    walk_at "un"
    walk_at "go"
    refine ⟨d, rfl, hI, fun H1 lo r0 s1 i1 hlo b0 => ?_⟩
    walk_at "go"
    refine rdLstH line1 fun H2 p s2 np hp => ?_
    have i2 := i1.mono s2
    have s02 : SameS [d] H H2 := s1.trans (sameS s2)
    have hpd : p ∉ [d] := ne1 i1 (Nw.of np)
    walk_at "un"
    walk_at "go"
    refine forOf ?_
    walk_at "it"
    walk_at "un"
    walk_at "go"
    refine ⟨d, 4, rfl, i2, by decide, fun H3 m0 s3 i3 m00 m04 => ?_⟩
    obtain ⟨m, hm⟩ : ∃ m : Nat, 1 + m0 = (m : Int) := ⟨(1 + m0).toNat, by omega⟩
    walk_at "go"
    rw [hm]
    refine ⟨by omega, by omega, ?_⟩
    rw [show ((m : Nat) : Int).toNat = m by omega]
    have C3 : Cel K [p, d] H3 p ([r0].map frD) := by
      have c2 : Cel K [p, d] H2 p ([r0].map frD) := ⟨[lo], hp, .cons (Kp.fr (ls2 ⟨_, hp⟩ i2) (hlo.mono s2)) .nil⟩
      exact c2.monoS s3 sub1 hpd
    refine FL.range (n := m) (fun i σ' H' => ∃ (o3 o4 : Option V) (ps : List Rat), σ' = [some (.ref d), some lo, some (.ref p), o3, o4] ∧ SameS [d] H1 H' ∧ Ints H' d ∧ Cel K [p, d] H' p (ps.map frD) ∧ ps.length = i + 1 ∧ gapP ps ∧ ∀ x ∈ ps, Bd (7 + 4 * i) x) ⟨_, _, [r0], rfl, (sameS s2).trans s3, i3, C3, rfl, gap_one r0, fun x hx => ?_⟩ ?_ ?_
    · rw [List.mem_singleton.mp hx]
      exact b0.bd (by decide) (by decide)
    · rintro k σ' H4 hk ⟨o3, o4, ps, rfl, s4, i4, C4, lp, inc, bp⟩
      obtain ⟨x, hx⟩ : ∃ x, ps[k]? = some x := ⟨ps[k]'(by omega), List.getElem?_eq_getElem (by omega)⟩
      walk_at "un"
      walk_at "go"
      obtain ⟨zs, hzs⟩ := C4.ls
      refine ⟨.inl ⟨rfl, _, .inl (.inl hzs)⟩, ?_⟩
      walk_at "go"
      refine C4.ix (k := k) (by omega) (by rw [List.getElem?_map, hx]; rfl) fun v hv => ?_
      walk_at "go"
      refine ⟨d, 6, rfl, i4, by decide, fun H5 a0 s5 i5 a00 a06 => ?_⟩
      walk_at "go"
      refine ⟨d, 3, rfl, i5, by decide, fun H6 c0 s6 i6 c00 c03 => ?_⟩
      walk_at "go"
      have hv6 := Kp.mono ((s5.trans s6).sub sub1) hv
      refine ⟨_, _, 3, rfl, by omega, by decide, by omega, fun H7 u s7 hu => ?_⟩
      have bx : Bd (7 + 4 * k) x := bp x (List.mem_of_getElem? hx)
      have bu : Sm 6 3 (Rat.divInt (1 + a0) (1 + c0)) := sm_divInt (by omega) (by omega) (by omega)
      have pu : (0 : Rat) < Rat.divInt (1 + a0) (1 + c0) := by
        exact div_pos' (by omega) (by omega)
      refine ⟨_, _, x, _, 7 + 4 * k, 3, rfl, Fr.mono s7 (Kp.dp hv6), hu, bx, bu.bd (by decide) (by decide), by omega, fun H8 y s8 hy => ?_⟩
      walk_at "go"
      have s48 : SameS [d] H4 H8 := ((s5.trans s6).trans (sameS s7)).trans (sameS s8)
      have i8 := (i6.mono s7).mono s8
      have C8 := C4.monoS s48 sub1 hpd
      refine C8.app (d := frD (x + Rat.divInt (1 + a0) (1 + c0))) (List.mem_cons_self ..) (by rw [frsLen]; omega) (Kp.fr (ls2 C8.ls i8) hy) fun acc e1 C9 => ?_
      have s28 : SameS [d] H1 H8 := s4.trans s48
      refine ⟨_, _, ps ++ [x + Rat.divInt (1 + a0) (1 + c0)], rfl, late_nw s28 (Nw.of np) (notTbl e1) i1.ls, i8.stay (fun z => hpd (List.mem_singleton.mpr z.symm)), ?_, ?_, ?_, ?_⟩
      · rw [List.map_append]
        exact C9
      · rw [List.length_append, lp]; rfl
      · refine gap_push inc lp ?_
        rw [getD_at0 hx]
        have z : Rat.divInt 1 1000 ≤ Rat.divInt (1 + a0) (1 + c0) := (Rat.le_iff_sub_nonneg _ _).mpr (by
          rw [Rat.divInt_sub_divInt _ _ (by omega) (by decide), Rat.divInt_nonneg_iff_of_pos_right (by omega)]
          omega)
        exact Rat.add_le_add_left.mpr z
      · intro z hz
        rcases List.mem_append.mp hz with e | e
        · exact (bp z e).mono (by omega)
        · rw [List.mem_singleton.mp e]
          exact (bd_add bx (bu.bd (n := 3) (by decide) (by decide))).mono (by omega)
    · rintro σ' H4 ⟨o3, o4, ps, rfl, s4, i4, C4, lp, inc, bp⟩
      walk_at "un"
      have LP := C4.done sub1 hpd
      have s04 : SameS [d] H H4 := s1.trans s4
      have nwp : Nw H p := (Nw.of np).backS s1 hI.ls
      refine rdLstH (Nat.zero_le _) fun H5 b s5 nb hb => ?_
      have i5 := i4.mono s5
      have hbd : b ∉ [d] := ne1 i4 (Nw.of nb)
      have s05 : SameS [d] H H5 := s04.trans (sameS s5)
      have LP5 := LP.monoS (sameS (S := [d]) s5)
      obtain ⟨xs, hpx, hpD⟩ := id LP5.out
      have lx := frs_len hpD
      walk_at "un"
      refine forOf ?_
      walk_at "it"
      walk_at "un"
      walk_at "go"
      refine ⟨by omega, by omega, ?_⟩
      rw [show ((xs.length : Nat) - 1 : Int).toNat = m by omega]
      refine FL.range (n := m) (fun i σ' H' => ∃ (o3 : Option V) (ss : List Rat), σ' = [some (.ref d), some lo, some (.ref p), o3, some (.ref b)] ∧ SameS [d] H4 H' ∧ Ints H' d ∧ Cel K [b, d] H' b (ss.map frD) ∧ ss.length = i ∧ ∀ x ∈ ss, Bd 3 x) ⟨_, [], rfl, sameS s5, i5, ⟨[], hb, .nil⟩, rfl, fun x hx => absurd hx List.not_mem_nil⟩ ?_ ?_
      · rintro k σ' H6 hk ⟨o3, ss, rfl, s6, i6, C6, lss, bss⟩
        walk_at "un"
        walk_at "go"
        obtain ⟨zs, hzs⟩ := C6.ls
        refine ⟨.inl ⟨rfl, _, .inl (.inl hzs)⟩, ?_⟩
        walk_at "go"
        refine ⟨d, 7, rfl, i6, by decide, fun H7 a0 s7 i7 a00 a07 => ?_⟩
        walk_at "go"
        refine ⟨d, 3, rfl, i7, by decide, fun H8 c0 s8 i8 c00 c03 => ?_⟩
        walk_at "go"
        refine ⟨_, _, 3, rfl, by omega, by decide, by omega, fun H9 u s9 hu => ?_⟩
        have bu : Sm 6 3 (Rat.divInt (a0 - 1) (1 + c0)) := sm_divInt (by omega) (by omega) (by omega)
        have s69 : SameS [d] H6 H9 := (s7.trans s8).trans (sameS s9)
        have i9 := i8.mono s9
        have C9 := C6.monoS s69 sub1 hbd
        refine C9.app (d := frD (Rat.divInt (a0 - 1) (1 + c0))) (List.mem_cons_self ..) (by rw [frsLen]; omega) (Kp.fr (ls2 C9.ls i9) hu) fun acc e1 C10 => ?_
        refine ⟨_, ss ++ [Rat.divInt (a0 - 1) (1 + c0)], rfl, late_nw (s6.trans s69) (Nw.of nb) (notTbl e1) i4.ls, i9.stay (fun z => hbd (List.mem_singleton.mpr z.symm)), ?_, ?_, ?_⟩
        · rw [List.map_append]
          exact C10
        · rw [List.length_append, lss]; rfl
        · intro z hz
          rcases List.mem_append.mp hz with e | e
          · exact bss z e
          · rw [List.mem_singleton.mp e]
            exact bu.bd (by decide) (by decide)
      · rintro σ' H6 ⟨o3, ss, rfl, s6, i6, C6, lss, bss⟩
        have stp : ∀ ss' : List Rat, ss'.length = m → (∀ x ∈ ss', Bd 3 x) → Stp ps ss' := fun ss' l1 l2 => ⟨by omega, by omega, by omega, gap_incr inc, fun x hx => (bp x hx).mono (by omega), fun x hx => (l2 x hx).mono (by decide), inc, fun x hx => (bp x hx).mono (by omega), l2⟩
        refine seqJ (fun σ' H' => ∃ (o3 : Option V) (ss : List Rat), σ' = [some (.ref d), some lo, some (.ref p), o3, some (.ref b)] ∧ SameS [d] H4 H' ∧ Ints H' d ∧ Cel K [b, d] H' b (ss.map frD) ∧ ss.length = m ∧ ∀ x ∈ ss, Bd 3 x) (fun U hU => ?_) ?_
        · walk_at "un"
          walk_at "go"
          refine ⟨d, 2, rfl, i6, by decide, fun H7 t0 s7 i7 t00 t02 => ?_⟩
          walk_at "go"
          have C7 := C6.monoS s7 sub1 hbd
          have s47 : SameS [d] H4 H7 := s6.trans s7
          refine ifD (fun _ => ?_) (fun _ => hU _ _ ⟨_, ss, rfl, s47, i7, C7, lss, bss⟩)
          obtain ⟨zs, hzs⟩ := C7.ls
          have lz : zs.length = m := by
            obtain ⟨zs', h1, h2⟩ := C7
            rw [hzs] at h1
            cases h1
            rw [frs_len h2, lss]
          walk_at "un"
          refine forOf ?_
          walk_at "it"
          walk_at "un"
          refine ⟨_, rfl, ?_⟩
          refine rdLenL (.inl (.inl hzs)) ?_
          refine ⟨1, (zs.length : Int), rfl, ⟨by omega, by omega, by omega, by omega⟩, ?_⟩
          rw [show ((zs.length : Int) - 1).toNat = m - 1 by omega]
          refine FL.range (n := m - 1) (fun i σ' H' => ∃ (o3 : Option V) (ss : List Rat), σ' = [some (.ref d), some lo, some (.ref p), o3, some (.ref b)] ∧ SameS [d] H4 H' ∧ Ints H' d ∧ Cel K [b, d] H' b (ss.map frD) ∧ ss.length = m ∧ ∀ x ∈ ss, Bd 3 x) ⟨_, ss, rfl, s47, i7, C7, lss, bss⟩ ?_ ?_
          · rintro k σ' H8 hk ⟨o3, ss, rfl, s8, i8, C8, lss, bss⟩
            obtain ⟨x, hx⟩ : ∃ x, ss[k + 1]? = some x := ⟨ss[k + 1]'(by omega), List.getElem?_eq_getElem (by omega)⟩
            obtain ⟨y, hy⟩ : ∃ y, ss[k]? = some y := ⟨ss[k]'(by omega), List.getElem?_eq_getElem (by omega)⟩
            walk_at "un"
            walk_at "go"
            refine C8.ix (k := k + 1) (by omega) (by rw [List.getElem?_map, hx]; rfl) fun v hv => ?_
            walk_at "go"
            refine C8.ix (k := k) (by omega) (by rw [List.getElem?_map, hy]; rfl) fun u hu => ?_
            refine ⟨_, _, x, y, 3, 3, rfl, Kp.dp hv, Kp.dp hu, bss x (List.mem_of_getElem? hx), bss y (List.mem_of_getElem? hy), by decide, ?_⟩
            walk_at "go"
            refine ifD (fun _ => ?_) (fun _ => ⟨_, ss, rfl, s8, i8, C8, lss, bss⟩)
            walk_at "go"
            refine C8.ix (k := k) (by omega) (by rw [List.getElem?_map, hy]; rfl) fun u2 hu2 => ?_
            walk_at "go"
            refine C8.setAt (d := frD y) (k := k + 1) (List.mem_cons_self ..) (by omega) (by rw [frsLen]; omega) hu2 fun xs hxs C9 => ?_
            refine ⟨_, ss.set (k + 1) y, rfl, late_nw s8 (Nw.of nb) (notTbl hxs) i4.ls, i8.stay (fun z => hbd (List.mem_singleton.mpr z.symm)), by rw [List.map_set]; exact C9, by rw [List.length_set]; exact lss, fun z hz => ?_⟩
            rcases List.mem_or_eq_of_mem_set hz with e | e
            · exact bss z e
            · rw [e]
              exact bss y (List.mem_of_getElem? hy)
          · rintro σ' H8 ⟨o3, ss, rfl, s8, i8, C8, lss, bss⟩
            exact hU _ _ ⟨_, ss, rfl, s8, i8, C8, lss, bss⟩
        · rintro σ' H8 ⟨o3, ss, rfl, s8, i8, C8, lss, bss⟩
          walk_at "un"
          walk_at "go"
          refine ⟨line2, fun t nt => ?_⟩
          have st : Same H8 (upd H8 t (.tup [.ref p, .ref b])) := sameNew nt
          have LP8 := (LP.monoS s8).monoS (sameS (S := [d]) st)
          have LB8 := (C8.done sub1 hbd).monoS (sameS (S := [d]) st)
          exact q _ t p b ps ss ((s04.trans s8).trans (sameS st)) (i8.mono st) (.inl (.inl upd_same)) LP8 LB8 (stp ss lss bss)
/-! ### _law_piece -/
/-- the piece of a number: how many cuts are not greater -/
def pieceR (cs : List Rat) (r : Rat) : Nat := (cs.filter fun c => decide (c ≤ r)).length
theorem ThX.monoT {K : PySem.W.Frag} {H H' : Hp} {a c s : Addr} {lo hi : Rat} {cs ss : List Rat} (e : UbG.SameT H H') (h : ThX K H a lo hi c s cs ss) : ThX K H' a lo hi c s cs ss := by
  obtain ⟨dx, v1, v2, h1, h2, h3, h4, h5⟩ := h
  exact ⟨dx, v1, v2, e.but _ _ h1 (fun _ z => by cases z), UbG.Fr.monoT e h2, UbG.Fr.monoT e h3, h4.monoT e, h5.monoT e⟩
def cutsOf (ps : List Rat) : List Rat := (ps.drop 1).dropLast
theorem cutsOf_len (ps : List Rat) : (cutsOf ps).length = ps.length - 2 := by
  unfold cutsOf
  rw [List.length_dropLast, List.length_drop]
  omega
theorem cutsOf_at {ps : List Rat} {i : Nat} (h : i + 2 < ps.length) : (cutsOf ps)[i]? = ps[i + 1]? := by
  unfold cutsOf
  rw [List.getElem?_dropLast, if_pos (by rw [List.length_drop]; omega), List.getElem?_drop, Nat.add_comm 1 i]
theorem incr_le {ps : List Rat} (h : incr ps) : ∀ (j i : Nat), i ≤ j → j < ps.length → ps.getD i 0 ≤ ps.getD j 0
  | 0, i, hi, hj => by rw [Nat.le_zero.mp hi]; exact Rat.le_refl
  | j + 1, i, hi, hj => by
    by_cases e : i = j + 1
    · rw [e]; exact Rat.le_refl
    · exact Rat.le_trans (incr_le h j i (by omega) (by omega)) (Rat.le_of_lt (h j hj))
theorem pieceR_all {ps : List Rat} {r : Rat} {i : Nat} (h : incr ps) (hi : i + 2 < ps.length) (hr : ps.getD (i + 1) 0 ≤ r) : pieceR ((cutsOf ps).take (i + 1)) r = i + 1 := by
  unfold pieceR
  rw [List.filter_eq_self.mpr (fun x hx => ?_), List.length_take, cutsOf_len]
  · omega
  · obtain ⟨k, hk, e⟩ := List.getElem_of_mem hx
    rw [List.length_take, cutsOf_len] at hk
    have e2 : (cutsOf ps)[k]? = some x := by
      rw [List.getElem_take] at e
      rw [← e]
      exact List.getElem?_eq_getElem _
    rw [cutsOf_at (by omega)] at e2
    have e3 := getD_at0 e2
    rw [decide_eq_true_eq, ← e3]
    exact Rat.le_trans (incr_le h (i + 1) (k + 1) (by omega) (by omega)) hr
theorem pieceR_skip {ps : List Rat} {r : Rat} {i : Nat} (hi : i + 2 < ps.length) (hr : r < ps.getD (i + 1) 0) : pieceR ((cutsOf ps).take (i + 1)) r = pieceR ((cutsOf ps).take i) r := by
  unfold pieceR
  have e : (cutsOf ps)[i]? = some (ps.getD (i + 1) 0) := by
    rw [cutsOf_at hi, List.getD_eq_getElem?_getD, List.getElem?_eq_getElem (by omega)]
    rfl
  rw [List.take_succ, e, List.filter_append]
  have ng : ¬ps.getD (i + 1) 0 ≤ r := Rat.not_le.mpr hr
  generalize ps.getD (i + 1) 0 = y at ng
  simp [List.filter, ng]
def sp__law_piece (K : PySem.W.Frag) : Sp := fun vs H Q E => ∃ (a : Addr) (v : V) (r : Rat) (ps : List Rat), vs = [.ref a, v] ∧ LL K H a (ps.map frD) ∧ Fr K H v r ∧ Bd 400 r ∧ (∀ x ∈ ps, Bd 200 x) ∧ 2 ≤ ps.length ∧ ps.length ≤ 20 ∧ incr ps ∧ Q (.int (pieceR (cutsOf ps) r : Int)) H
theorem ok__law_piece {f : Addr} {fd : FuncData} (T : Tx K mg) (F : FunD K "_law_piece" "_law_piece" (defArgs s__law_piece) (defBody s__law_piece) (defScope s__law_piece) [] [] f fd) (C__law_less : Cal P w K mg base "_law_less" 1 ["a", "b"] [] (sp__law_less K)) : FnOk P w K mg base (L2.CX P w) 2 f fd ["points", "number"] (sp__law_piece K) := by
  refine F.ok sc__law_piece (fun vs H Q E h => ?_) (fun cdv A outer st H vs Q E hr h => ?_)
  · obtain ⟨_, _, _, _, rfl, _⟩ := h
    rfl
  · obtain ⟨a, v, r, ps, rfl, ⟨xs, ha, hA⟩, hv, b1, b2, l2, l20, inc, q⟩ := h
    have lx := frs_len hA
    refine ⟨_, PSs.nox (pss_cons (ps_set (i := 2) sc__law_piece.nd rfl (Or.inl rfl) pe_int) (pss_cons (ps_for PassesOwn.never rfl (pi_range2 (by rfl) T.n_range (pa_cons pe_int (pa_cons (pe_op op_sub (pe_callB cl_len (by rfl) T.n_len bb_len (pa_cons (pv 0) pa_nil)) pe_int) pa_nil))) (pg_name (i := 3) sc__law_piece.nd rfl (Or.inl rfl)) (pss_one (ps_if (pt_not (pt_val (pe_callC C__law_less hr (by decide) (by rfl) (pa_cons (pv 1) (pa_cons (pe_ix ix_seq (pv 0) (pv 3) (fun _ _ => rfl)) pa_nil))))) (pss_one (ps_set (i := 2) sc__law_piece.nd rfl (Or.inl rfl) (pv 3))) pss_nil))) (pss_one (ps_ret (pv 2))))), ?_⟩
    walk_at "un"
    refine forOf ?_
    walk_at "it"
    walk_at "un"
    refine ⟨_, rfl, ?_⟩
    refine rdLenL (.inl (.inl ha)) ?_
    refine rdSub ?_
    refine ⟨1, (xs.length : Int) - 1, rfl, ⟨by omega, by omega, by omega, by omega⟩, ?_⟩
    rw [show ((xs.length : Int) - 1 - 1).toNat = ps.length - 2 by omega]
    refine FL.range (n := ps.length - 2) (fun i σ' H' => H' = H ∧ ∃ o3, σ' = [some (.ref a), some v, some (.int (pieceR ((cutsOf ps).take i) r : Int)), o3]) ⟨rfl, _, rfl⟩ ?_ ?_
    · rintro k σ' H' hk ⟨rfl, o3, rfl⟩
      obtain ⟨x, ex, hx⟩ := frAt hA (show k + 1 < ps.length by omega)
      walk_at "un"
      walk_at "go"
      refine rdIxL (.inl (.inl ha)) (at_of (j := k + 1) (by omega) ex) ?_
      refine ⟨_, _, r, _, 400, 200, rfl, hv, hx, b1, b2 _ (List.getElem_mem _), by decide, ?_⟩
      walk_at "go"
      have g : ps.getD (k + 1) 0 = ps[k + 1] := getD_at0 (List.getElem?_eq_getElem _)
      by_cases hlt : r < ps[k + 1]
      · refine ifBF (by rw [decide_eq_true hlt]; rfl) ?_
        refine ⟨rfl, some (.int (1 + (k : Int))), ?_⟩
        rw [pieceR_skip (by omega) (by rw [g]; exact hlt)]
      · refine ifBT (by rw [decide_eq_false hlt]; rfl) ?_
        walk_at "go"
        refine ⟨rfl, some (.int (1 + (k : Int))), ?_⟩
        rw [pieceR_all inc (by omega) (by rw [g]; exact Rat.not_lt.mp hlt), show (1 : Int) + (k : Nat) = ((k + 1 : Nat) : Int) by omega]
    · rintro σ' H' ⟨rfl, o3, rfl⟩
      walk_at "un"
      walk_at "go"
      rw [List.take_of_length_le (by rw [cutsOf_len]; exact Nat.le_refl _)]
      exact q
/-! ### _law_has -/
/-- what a number has at a told one -/
def hasR (ps ss ys : List Rat) (x t : Rat) : Rat := x * ss.getD (pieceR (cutsOf ps) t) 0 - ys.getD (pieceR (cutsOf ps) t) 0
theorem pieceR_le {ps : List Rat} {r : Rat} : pieceR (cutsOf ps) r ≤ ps.length - 2 := by
  have := List.length_filter_le (fun c => decide (c ≤ r)) (cutsOf ps)
  rw [cutsOf_len] at this
  exact this
def sp__law_has (K : PySem.W.Frag) : Sp := fun vs H Q E => ∃ (a b p : Addr) (v u : V) (x t : Rat) (ps ss ys : List Rat), vs = [.ref a, .ref b, .ref p, v, u] ∧ LL K H a (ps.map frD) ∧ LL K H b (ss.map frD) ∧ LL K H p (ys.map frD) ∧ Stp ps ss ∧ ys.length = ss.length ∧ (∀ y ∈ ys, Bd 110 y) ∧ Fr K H v x ∧ Fr K H u t ∧ Bd 300 x ∧ Bd 300 t ∧ ∀ H' o, Same H H' → Fr K H' o (hasR ps ss ys x t) → Q o H'
theorem ok__law_has {f : Addr} {fd : FuncData} (T : Tx K mg) (F : FunD K "_law_has" "_law_has" (defArgs s__law_has) (defBody s__law_has) (defScope s__law_has) [] [] f fd) (C__law_minus : Cal P w K mg base "_law_minus" 3 ["a", "b"] [] (sp__law_minus K)) (C__law_piece : Cal P w K mg base "_law_piece" 2 ["points", "number"] [] (sp__law_piece K)) (C__law_times : Cal P w K mg base "_law_times" 2 ["a", "b"] [] (sp__law_times K)) : FnOk P w K mg base (L2.CX P w) 4 f fd ["points", "shares", "payments", "number", "told"] (sp__law_has K) := by
  refine F.ok sc__law_has (fun vs H Q E h => ?_) (fun cdv A outer st H vs Q E hr h => ?_)
  · obtain ⟨_, _, _, _, _, _, _, _, _, _, rfl, _⟩ := h
    rfl
  · obtain ⟨a, b, p, v, u, x, t, ps, ss, ys, rfl, hP, hS, ⟨us, hu, huD⟩, S, ly, by', hv, ht, bx, bt, q⟩ := h
    obtain ⟨zs, hz, hzD⟩ := id hS
    have lz := frs_len hzD
    have lu := frs_len huD
    have l2 := S.l2
    have l5 := S.l5
    have l3 := S.ls
    refine ⟨_, PSs.nox (pss_cons (ps_set (i := 5) sc__law_has.nd rfl (Or.inl rfl) (pe_callC C__law_piece hr (by decide) (by rfl) (pa_cons (pv 0) (pa_cons (pv 4) pa_nil)))) (pss_one (ps_ret (pe_callC C__law_minus hr (by decide) (by rfl) (pa_cons (pe_callC C__law_times hr (by decide) (by rfl) (pa_cons (pv 3) (pa_cons (pe_ix ix_seq (pv 1) (pv 5) (fun _ _ => rfl)) pa_nil))) (pa_cons (pe_ix ix_seq (pv 2) (pv 5) (fun _ _ => rfl)) pa_nil)))))), ?_⟩
    walk_at "un"
    walk_at "go"
    have hle := pieceR_le (ps := ps) (r := t)
    refine ⟨a, u, t, ps, rfl, hP, ht, bt.mono (by decide), fun x hx => (S.bp x hx).mono (by decide), l2, by omega, S.inc, ?_⟩
    unfold hasR at q
    generalize pieceR (cutsOf ps) t = n at hle q ⊢
    obtain ⟨w1, f1, g1⟩ := frAt hzD (show n < ss.length by omega)
    obtain ⟨w2, f2, g2⟩ := frAt huD (show n < ys.length by omega)
    rw [getD_at0 (List.getElem?_eq_getElem (show n < ss.length by omega)), getD_at0 (List.getElem?_eq_getElem (show n < ys.length by omega))] at q
    walk_at "go"
    refine rdIxL (.inl (.inl hz)) (at_of (j := n) (by omega) f1) ?_
    refine ⟨_, _, _, _, 300, 3, rfl, hv, g1, bx, S.bs2 _ (List.getElem_mem _), by decide, fun H1 o1 s1 h1 => ?_⟩
    walk_at "go"
    refine rdIxL (.inl (.inl (s1 _ _ hu))) (at_of (j := n) (by omega) f2) ?_
    exact ⟨_, _, _, _, 303, 110, rfl, h1, g2.mono s1, bd_mul bx (S.bs2 _ (List.getElem_mem _)), by' _ (List.getElem_mem _), by decide, fun H2 o2 s2 h2 => q _ _ (s1.trans s2) h2⟩
/-! ### _law_tolls -/
/-- the tolls: each is the one before and the cut times the difference of the shares -/
def tollN (cs ss : List Rat) : Nat → Rat
  | 0 => 0
  | k + 1 => tollN cs ss k + cs.getD k 0 * (ss.getD (k + 1) 0 - ss.getD k 0)
def tollsR (cs ss : List Rat) : List Rat := (List.range ss.length).map (tollN cs ss)
theorem bd_toll {cs ss : List Rat} (h1 : ∀ x ∈ cs, Bd 40 x) (h2 : ∀ x ∈ ss, Bd 40 x) : ∀ k, k < ss.length → k ≤ cs.length → Bd (1 + k * 130) (tollN cs ss k)
  | 0, _, _ => bd_zero
  | k + 1, hk, hc => by
    have b0 := bd_toll h1 h2 k (by omega) (by omega)
    obtain ⟨x, hx⟩ : ∃ x, cs[k]? = some x := ⟨cs[k]'(by omega), List.getElem?_eq_getElem (by omega)⟩
    obtain ⟨y, hy⟩ : ∃ y, ss[k]? = some y := ⟨ss[k]'(by omega), List.getElem?_eq_getElem (by omega)⟩
    obtain ⟨z, hz⟩ : ∃ z, ss[k + 1]? = some z := ⟨ss[k + 1]'(by omega), List.getElem?_eq_getElem (by omega)⟩
    unfold tollN
    rw [getD_at0 hx, getD_at0 hy, getD_at0 hz]
    have b1 : Bd 81 (z - y) := bd_sub (h2 z (List.mem_of_getElem? hz)) (h2 y (List.mem_of_getElem? hy))
    exact (bd_add b0 (bd_mul (h1 x (List.mem_of_getElem? hx)) b1)).mono (by omega)
def sp__law_tolls (K : PySem.W.Frag) : Sp := fun vs H Q E => ∃ (a b : Addr) (ps ss : List Rat), vs = [.ref a, .ref b] ∧ LL K H a (ps.map frD) ∧ LL K H b (ss.map frD) ∧ Stp ps ss ∧ ∀ H' t, Same H H' → LL K H' t ((tollsR (cutsOf ps) ss).map frD) → Q (.ref t) H'
theorem ok__law_tolls {f : Addr} {fd : FuncData} (T : Tx K mg) (F : FunD K "_law_tolls" "_law_tolls" (defArgs s__law_tolls) (defBody s__law_tolls) (defScope s__law_tolls) [] [] f fd) (C__law_minus : Cal P w K mg base "_law_minus" 3 ["a", "b"] [] (sp__law_minus K)) (C__law_plus : Cal P w K mg base "_law_plus" 2 ["a", "b"] [] (sp__law_plus K)) (C__law_times : Cal P w K mg base "_law_times" 2 ["a", "b"] [] (sp__law_times K)) : FnOk P w K mg base (L2.CX P w) 4 f fd ["points", "shares"] (sp__law_tolls K) := by
  refine F.ok sc__law_tolls (fun vs H Q E h => ?_) (fun cdv A outer st H vs Q E hr h => ?_)
  · obtain ⟨_, _, _, _, rfl, _⟩ := h
    rfl
  · obtain ⟨a, b, ps, ss, rfl, hP, hS, S, q⟩ := h
    refine ⟨_, PSs.nox (pss_cons (ps_set (i := 2) sc__law_tolls.nd rfl (Or.inl rfl) (pe_lstN (pa_cons (pe_tupN (pa_cons pe_int (pa_cons pe_int pa_nil))) pa_nil))) (pss_cons (ps_for PassesOwn.never rfl (pi_range2 (by rfl) T.n_range (pa_cons pe_int (pa_cons (pe_callB cl_len (by rfl) T.n_len bb_len (pa_cons (pv 1) pa_nil)) pa_nil))) (pg_name (i := 3) sc__law_tolls.nd rfl (Or.inl rfl)) (pss_one (ps_expr (pe_bm PySem.F.plainAttrs_list PySem.F.slot_list_append PySem.F.type_list_append mt_append (pv 2) (pa_cons (pe_callC C__law_plus hr (by decide) (by rfl) (pa_cons (pe_ix ix_seq (pv 2) (pe_op op_sub (pv 3) pe_int) (fun _ _ => rfl)) (pa_cons (pe_callC C__law_times hr (by decide) (by rfl) (pa_cons (pe_ix ix_seq (pv 0) (pv 3) (fun _ _ => rfl)) (pa_cons (pe_callC C__law_minus hr (by decide) (by rfl) (pa_cons (pe_ix ix_seq (pv 1) (pv 3) (fun _ _ => rfl)) (pa_cons (pe_ix ix_seq (pv 1) (pe_op op_sub (pv 3) pe_int) (fun _ _ => rfl)) pa_nil))) pa_nil))) pa_nil))) pa_nil))))) (pss_one (ps_ret (pv 2))))), ?_⟩
    walk_at "un"
    walk_at "go"
    rename_i H1 t1 s1 g1
    have g1 : Fr K H1 t1 0 := g1
    obtain ⟨xs, ha, hA⟩ := id (hP.mono s1)
    obtain ⟨zs, hb, hB⟩ := id (hS.mono s1)
    have lx := frs_len hA
    have lz := frs_len hB
    have l2 := S.l2
    have l5 := S.l5
    have l3 := S.ls
    have bc : ∀ x ∈ cutsOf ps, Bd 40 x := fun x hx => S.bp x (List.mem_of_mem_drop (List.dropLast_subset _ hx))
    refine rdLstH line1 fun H2 t s2 nt ht => ?_
    refine forOf ?_
    walk_at "it"
    walk_at "un"
    refine ⟨_, rfl, ?_⟩
    refine rdLenL (.inl (.inl (s2 _ _ hb))) ?_
    refine ⟨1, (zs.length : Int), rfl, ⟨by omega, by omega, by omega, by omega⟩, ?_⟩
    rw [show ((zs.length : Int) - 1).toNat = ss.length - 1 by omega]
    have C0 : Cel K [t] H2 t (((List.range 1).map (tollN (cutsOf ps) ss)).map frD) := by
      refine ⟨[t1], ht, .cons (Kp.fr (fun s hs => by rw [List.mem_singleton.mp hs]; exact ⟨_, ht⟩) (Fr.mono s2 g1)) .nil⟩
    refine FL.range (n := ss.length - 1) (fun i σ' H' => ∃ o3, σ' = [some (.ref a), some (.ref b), some (.ref t), o3] ∧ Same H1 H' ∧ Cel K [t] H' t (((List.range (i + 1)).map (tollN (cutsOf ps) ss)).map frD)) ⟨_, rfl, s2, C0⟩ ?_ ?_
    · rintro k σ' H3 hk ⟨o3, rfl, s3, C3⟩
      obtain ⟨ys, hys⟩ := C3.ls
      obtain ⟨vx, ex, hx⟩ := frAt hA (show k + 1 < ps.length by omega)
      obtain ⟨vy, ey, hy⟩ := frAt hB (show k < ss.length by omega)
      obtain ⟨vz, ez, hz⟩ := frAt hB (show k + 1 < ss.length by omega)
      walk_at "un"
      walk_at "go"
      refine ⟨.inl ⟨rfl, _, .inl (.inl hys)⟩, ?_⟩
      walk_at "go"
      refine C3.ix (k := k) (d := frD (tollN (cutsOf ps) ss k)) (by omega) (by simp) fun v hv => ?_
      walk_at "go"
      refine rdIxL (.inl (.inl (s3 _ _ ha))) (at_of (j := k + 1) (by omega) ex) ?_
      walk_at "go"
      refine rdIxL (.inl (.inl (s3 _ _ hb))) (at_of (j := k + 1) (by omega) ez) ?_
      walk_at "go"
      refine rdIxL (.inl (.inl (s3 _ _ hb))) (at_of (j := k) (by omega) ey) ?_
      refine ⟨_, _, _, _, 40, 40, rfl, Fr.mono s3 hz, Fr.mono s3 hy, S.bs _ (List.getElem_mem _), S.bs _ (List.getElem_mem _), by decide, fun H4 v4 s4 h4 => ?_⟩
      have bd1 : Bd 81 (ss[k + 1] - ss[k]) := bd_sub (S.bs _ (List.getElem_mem _)) (S.bs _ (List.getElem_mem _))
      refine ⟨_, _, _, _, 40, 81, rfl, Fr.mono (s3.trans s4) hx, h4, S.bp _ (List.getElem_mem _), bd1, by decide, fun H5 v5 s5 h5 => ?_⟩
      have bt := bd_toll bc S.bs k (by omega) (by rw [cutsOf_len]; omega)
      refine ⟨_, _, _, _, 1 + k * 130, 121, rfl, Fr.mono (s4.trans s5) (Kp.dp hv), h5, bt, (bd_mul (S.bp _ (List.getElem_mem _)) bd1).mono (by decide), by omega, fun H6 v6 s6 h6 => ?_⟩
      walk_at "go"
      have C6 := ((C3.mono s4).mono s5).mono s6
      have en : tollN (cutsOf ps) ss k + ps[k + 1] * (ss[k + 1] - ss[k]) = tollN (cutsOf ps) ss (k + 1) := by
        have e1 : (cutsOf ps).getD k 0 = ps[k + 1] := getD_at0 (by rw [cutsOf_at (by omega)]; exact List.getElem?_eq_getElem _)
        have e2 : ss.getD k 0 = ss[k] := getD_at0 (List.getElem?_eq_getElem _)
        have e3 : ss.getD (k + 1) 0 = ss[k + 1] := getD_at0 (List.getElem?_eq_getElem _)
        show _ = tollN (cutsOf ps) ss k + (cutsOf ps).getD k 0 * (ss.getD (k + 1) 0 - ss.getD k 0)
        rw [e1, e2, e3]
      rw [en] at h6
      refine C6.app (d := frD (tollN (cutsOf ps) ss (k + 1))) (List.mem_cons_self ..) (by rw [frsLen, List.length_map, List.length_range]; omega) (Kp.fr (fun s hs => by rw [List.mem_singleton.mp hs]; exact C6.ls) h6) fun acc e1 C7 => ?_
      refine ⟨_, rfl, sameLate' (((s3.trans s4).trans s5).trans s6) nt, ?_⟩
      rw [List.range_succ, List.map_append, List.map_append]
      exact C7
    · rintro σ' H3 ⟨o3, rfl, s3, C3⟩
      walk_at "un"
      walk_at "go"
      rw [show ss.length - 1 + 1 = ss.length by omega] at C3
      exact q _ _ (s1.trans s3) (C3.done (S' := []) (fun _ h => absurd h List.not_mem_nil) List.not_mem_nil).out
/-! ### _law_refused -/
def sp__law_refused (K : PySem.W.Frag) : Sp := fun vs H Q E => ∃ (a p : Addr) (lo hi : Rat) (c s : Addr) (cs ss ys : List Rat) (b : Nat), vs = [.ref a, .ref p] ∧ ThX K H a lo hi c s cs ss ∧ LL K H p (ys.map frD) ∧ ss.length = cs.length + 1 ∧ ss.length ≤ 8 ∧ ys.length ≤ 10 ∧ (∀ x ∈ ss, Bd 3 x) ∧ (∀ x ∈ lo :: cs ++ [hi], Bd 23 x) ∧ (∀ x ∈ ys, Bd b x) ∧ b ≤ 1000 ∧ incr (lo :: cs ++ [hi]) ∧ ys.length ≠ ss.length ∧ ∀ H', UbG.SameT H H' → Q (.bl true) H'
theorem ok__law_refused {f : Addr} {fd : FuncData} (T : Tx K mg) (F : FunD K "_law_refused" "_law_refused" (defArgs s__law_refused) (defBody s__law_refused) (defScope s__law_refused) [] [] f fd) (M_Thresholds_lie : UbC.CalM P w K mg base "Thresholds" "lie" 5 ["self", "payments"] [] (sp_Thresholds_lie K)) : FnOk P w K mg base (L2.CX P w) 6 f fd ["made", "payments"] (sp__law_refused K) := by
  refine F.ok sc__law_refused (fun vs H Q E h => ?_) (fun cdv A outer st H vs Q E hr h => ?_)
  · obtain ⟨_, _, _, _, _, _, _, _, _, _, rfl, _⟩ := h
    rfl
  · obtain ⟨a, p, lo, hi, c, s, cs, ss, ys, b, rfl, hX, hp, l1, l2, l3, bs, be, by', bb, inc, no, q⟩ := h
    obtain ⟨dx, v1, v2, g1, g2⟩ := id hX
    refine ⟨_, PSs.nox (pss_cons (ps_try_only rfl rfl ⟨rfl, by decide, .inl T.gc_InvalidThresholds⟩ takes0 (fun W pn xe tk _ => (pss_one (ps_expr (by exact (UbC.pe_methCS (K := K) rfl M_Thresholds_lie hr (by decide) tk (by exact (pv 0)) (by exact (pa_cons (pv 1) pa_nil))))))) (fun a oe cls d pn hz hf => (pss_one (ps_ret pe_bl)))) (pss_one (ps_ret pe_bl))), ?_⟩
    walk_at "un"
    dsimp only [UbC.tMethS, tCons, tVar, tNil, List.getElem?_cons_zero, List.getElem?_cons_succ]
    walk_at "go"
    refine ⟨a, dx, _, rfl, g1, by rfl, .ref p, rfl, ?_⟩
    refine ⟨a, p, lo, hi, c, s, cs, ss, ys, b, rfl, hX, hp, l1, l2, l3, bs, be, by', bb, inc, fun y => absurd y no, fun y => absurd y no, fun _ H' d' s' => ?_⟩
    refine ⟨true, T.m_InvalidThresholds_InvalidThresholds, fun _ a na => ?_, fun q => nomatch q⟩
    walk_at "un"
    walk_at "go"
    exact q _ s'
/-! ### _law_numbers_in -/
theorem noLs_frs : ∀ rs : List Rat, noL.noLs (rs.map frD) = true
  | [] => rfl
  | r :: rs => by
    show (noL (frD r) && noL.noLs (rs.map frD)) = true
    rw [noLs_frs rs]
    rfl
theorem Fr.monoS1 {K : PySem.W.Frag} {H H' : Hp} {d : Addr} {v : V} {r : Rat} (e : SameS [d] H H') (i : Ints H d) (h : Fr K H v r) : Fr K H' v r := Kp.dp (Kp.mono e (Kp.fr i.ls h))
theorem in_step {a b p lo hi : Rat} (h0 : 0 ≤ p) (h1 : p ≤ 1) (hab : a ≤ b) (hl : lo ≤ a) (hh : b ≤ hi) : lo ≤ a + p * (b - a) ∧ a + p * (b - a) ≤ hi := by
  have q0 : 0 ≤ p * (b - a) := Rat.mul_nonneg h0 (by grind)
  have q1 : 0 ≤ (1 - p) * (b - a) := Rat.mul_nonneg (by grind) (by grind)
  have e : (1 - p) * (b - a) = (b - a) - p * (b - a) := by rw [Rat.sub_eq_add_neg, Rat.add_mul, Rat.neg_mul, Rat.one_mul, ← Rat.sub_eq_add_neg]
  rw [e] at q1
  generalize p * (b - a) = u at *
  exact ⟨by grind, by grind⟩
def sp__law_numbers_in (K : PySem.W.Frag) : Sp := fun vs H Q E => ∃ (d a : Addr) (ps ss : List Rat), vs = [.ref d, .ref a] ∧ Ints H d ∧ LL K (wo [d] H) a (ps.map frD) ∧ Stp ps ss ∧ ∀ (H' : Hp) (p : Addr) (ns : List Rat), SameS [d] H H' → Ints H' d → LL K (wo [d] H') p (ns.map frD) → (∀ x ∈ ns, ps.getD 0 0 ≤ x ∧ x ≤ ps.getD (ps.length - 1) 0 ∧ Bd 100 x) → ns.length ≤ 20 → Q (.ref p) H'
theorem ok__law_numbers_in {f : Addr} {fd : FuncData} (T : Tx K mg) (F : FunD K "_law_numbers_in" "_law_numbers_in" (defArgs s__law_numbers_in) (defBody s__law_numbers_in) (defScope s__law_numbers_in) [] [] f fd) (C__law_lowest : Cal P w K mg base "_law_lowest" 1 ["p", "q"] [] (sp__law_lowest K)) (C__law_minus : Cal P w K mg base "_law_minus" 3 ["a", "b"] [] (sp__law_minus K)) (C__law_plus : Cal P w K mg base "_law_plus" 2 ["a", "b"] [] (sp__law_plus K)) (C__law_take : Cal P w K mg base "_law_take" 1 ["row", "bound"] [] (sp__law_take)) (C__law_times : Cal P w K mg base "_law_times" 2 ["a", "b"] [] (sp__law_times K)) : FnOk P w K mg base (L2.CX P w) 4 f fd ["row", "points"] (sp__law_numbers_in K) := by
  refine F.ok sc__law_numbers_in (fun vs H Q E h => ?_) (fun cdv A outer st H vs Q E hr h => ?_)
  · obtain ⟨_, _, _, _, rfl, _⟩ := h
    rfl
  · obtain ⟨d, a, ps, ss, rfl, hI, hP, S, q⟩ := h
    have l2 := S.l2
    have l5 := S.l5
    obtain ⟨xs, hx, hxD⟩ := id hP
    have lx := frs_len hxD
    refine ⟨_, PSs.nox (pss_cons (ps_set (i := 2) sc__law_numbers_in.nd rfl (Or.inl rfl) (pe_callTy cl_list (by rfl) T.n_list bb_list (pa_cons (pv 1) pa_nil))) (pss_cons (ps_for PassesOwn.never rfl (pi_range1 (by rfl) T.n_range (pa_cons (pe_op op_sub (pe_callB cl_len (by rfl) T.n_len bb_len (pa_cons (pv 1) pa_nil)) pe_int) pa_nil)) (pg_name (i := 3) sc__law_numbers_in.nd rfl (Or.inl rfl)) (pss_cons (ps_set (i := 4) sc__law_numbers_in.nd rfl (Or.inl rfl) (pe_callC C__law_minus hr (by decide) (by rfl) (pa_cons (pe_ix ix_seq (pv 1) (pe_op op_add (pv 3) pe_int) (fun _ _ => rfl)) (pa_cons (pe_ix ix_seq (pv 1) (pv 3) (fun _ _ => rfl)) pa_nil)))) (pss_cons (ps_set (i := 5) sc__law_numbers_in.nd rfl (Or.inl rfl) (pe_callC C__law_lowest hr (by decide) (by rfl) (pa_cons (pe_callC C__law_take hr (by decide) (by rfl) (pa_cons (pv 0) (pa_cons pe_int pa_nil))) (pa_cons pe_int pa_nil)))) (pss_cons (ps_expr (pe_bm PySem.F.plainAttrs_list PySem.F.slot_list_append PySem.F.type_list_append mt_append (pv 2) (pa_cons (pe_callC C__law_plus hr (by decide) (by rfl) (pa_cons (pe_ix ix_seq (pv 1) (pv 3) (fun _ _ => rfl)) (pa_cons (pe_callC C__law_times hr (by decide) (by rfl) (pa_cons (pv 5) (pa_cons (pv 4) pa_nil))) pa_nil))) pa_nil))) (pss_one (ps_expr (pe_bm PySem.F.plainAttrs_list PySem.F.slot_list_append PySem.F.type_list_append mt_append (pv 2) (pa_cons (pe_callC C__law_plus hr (by decide) (by rfl) (pa_cons (pe_ix ix_seq (pv 1) (pv 3) (fun _ _ => rfl)) (pa_cons (pe_callC C__law_times hr (by decide) (by rfl) (pa_cons (pe_tupN (pa_cons pe_int (pa_cons pe_int pa_nil))) (pa_cons (pv 4) pa_nil))) pa_nil))) pa_nil)))))))) (pss_one (ps_ret (pv 2))))), ?_⟩
    walk_at "un"
    walk_at "go"
    have hx0 : H a = some (.lst xs) := (wo_in hx).2
    refine rdListL (.inl (.inl hx0)) fun p np => ?_
    have s1 : Same H (upd H p (.lst xs)) := sameNew np
    have hp1 : upd H p (.lst xs) p = some (.lst xs) := upd_same
    have i1 := hI.mono s1
    have hpd : p ∉ [d] := ne1 hI (Nw.of np)
    have C1 : Cel K [p, d] (upd H p (.lst xs)) p (ps.map frD) := ⟨xs, hp1, Kp.ofNoLAll (ls2 ⟨_, hp1⟩ i1) _ _ (noLs_frs ps) (Dp.monoAll s1 _ _ (Kp.dpAll hxD))⟩
    generalize upd H p (.lst xs) = H1 at s1 hp1 i1 C1 ⊢
    walk_at "un"
    refine forOf ?_
    walk_at "it"
    walk_at "un"
    refine ⟨_, rfl, ?_⟩
    refine rdLenL (.inl (.inl (s1 _ _ hx0))) ?_
    refine rdSub ?_
    refine ⟨(xs.length : Int) - 1, rfl, by omega, by omega, ?_⟩
    rw [show ((xs.length : Int) - 1).toNat = ps.length - 1 by omega]
    have bin : ∀ x ∈ ps, ps.getD 0 0 ≤ x ∧ x ≤ ps.getD (ps.length - 1) 0 ∧ Bd 100 x := fun x hx => by
      obtain ⟨k, hk, e⟩ := List.getElem_of_mem hx
      have z1 := incr_le S.inc k 0 (Nat.zero_le _) hk
      have z2 := incr_le S.inc (ps.length - 1) k (by omega) (by omega)
      rw [getD_at0 (i := k) (List.getElem?_eq_getElem hk), e] at z1 z2
      exact ⟨z1, z2, (S.bp x hx).mono (by decide)⟩
    refine FL.range (n := ps.length - 1) (fun i σ' H' => ∃ o3 o4 o5 ns, σ' = [some (.ref d), some (.ref a), some (.ref p), o3, o4, o5] ∧ SameS [d] H H' ∧ Ints H' d ∧ Cel K [p, d] H' p (ns.map frD) ∧ ns.length = ps.length + 2 * i ∧ ∀ x ∈ ns, ps.getD 0 0 ≤ x ∧ x ≤ ps.getD (ps.length - 1) 0 ∧ Bd 100 x) ⟨_, _, _, ps, rfl, sameS s1, i1, C1, rfl, bin⟩ ?_ ?_
    · rintro k σ' H2 hk ⟨o3, o4, o5, ns, rfl, s2, i2, C2, ln, hn⟩
      obtain ⟨xs2, hx2, hxD2⟩ := hP.monoS s2
      have lx2 := frs_len hxD2
      obtain ⟨vx, ex, hvx⟩ := frAt (Kp.dpAll hxD2) (show k < ps.length by omega)
      obtain ⟨vy, ey, hvy⟩ := frAt (Kp.dpAll hxD2) (show k + 1 < ps.length by omega)
      have bx := S.bp2 ps[k] (List.getElem_mem _)
      have by' := S.bp2 ps[k + 1] (List.getElem_mem _)
      walk_at "un"
      walk_at "go"
      refine rdIxL (.inl (.inl (wo_in hx2).2)) (at_of (j := k + 1) (by omega) ey) ?_
      walk_at "go"
      refine rdIxL (.inl (.inl (wo_in hx2).2)) (at_of (j := k) (by omega) ex) ?_
      refine ⟨_, _, _, _, 23, 23, rfl, hvy, hvx, by', bx, by decide, fun H3 st s3 hst => ?_⟩
      walk_at "go"
      refine ⟨d, 12, rfl, i2.mono s3, by decide, fun H4 a0 s4 i4 a00 a12 => ?_⟩
      walk_at "go"
      refine ⟨_, _, 4, rfl, by decide, by decide, by decide, fun H5 u s5 hu => ?_⟩
      walk_at "go"
      have i5 := i4.mono s5
      have s35 : SameS [d] H3 H5 := s4.trans (sameS s5)
      have s05 : SameS [d] H H5 := (s2.trans (sameS s3)).trans s35
      have C5 := C2.monoS ((sameS s3).trans s35) sub1 hpd
      have hst5 : Fr K H5 st (ps[k + 1] - ps[k]) := Fr.monoS1 s35 (i2.mono s3) hst
      obtain ⟨as5, has5⟩ := C5.ls
      obtain ⟨xs5, hx5, hxD5⟩ := hP.monoS s05
      have lx5 := frs_len hxD5
      obtain ⟨w1, f1, g1⟩ := frAt (Kp.dpAll hxD5) (show k < ps.length by omega)
      have bst : Bd 47 (ps[k + 1] - ps[k]) := bd_sub by' bx
      have bu : Bd 4 (Rat.divInt a0 12) := (sm_divInt (a := 12) (b := 12) (by decide) (by omega) (by decide)).bd (by decide) (by decide)
      have hml : ps.getD 0 0 ≤ ps[k] := (bin _ (List.getElem_mem _)).1
      have hmh : ps[k + 1] ≤ ps.getD (ps.length - 1) 0 := (bin _ (List.getElem_mem _)).2.1
      have hlt : ps[k] ≤ ps[k + 1] := by
        have z := S.inc k (by omega)
        rw [getD_at0 (List.getElem?_eq_getElem (show k < ps.length by omega)), getD_at0 (List.getElem?_eq_getElem (show k + 1 < ps.length by omega))] at z
        exact Rat.le_of_lt z
      have pp0 : 0 ≤ Rat.divInt a0 12 := (Rat.divInt_nonneg_iff_of_pos_right (by decide)).mpr a00
      have pp1 : Rat.divInt a0 12 ≤ 1 := (Rat.le_iff_sub_nonneg _ _).mpr (by
        rw [show (1 : Rat) = Rat.divInt 1 1 from rfl, Rat.divInt_sub_divInt _ _ (by decide) (by decide), Rat.divInt_nonneg_iff_of_pos_right (by decide)]
        omega)
      obtain ⟨m1, m2⟩ := in_step pp0 pp1 hlt hml hmh
      obtain ⟨m3, m4⟩ := in_step (p := Rat.divInt 99 100) (by decide +kernel) (by decide +kernel) hlt hml hmh
      have b99 : Bd 7 (Rat.divInt 99 100) := ⟨by decide, by decide⟩
      refine ⟨.inl ⟨rfl, _, .inl (.inl has5)⟩, ?_⟩
      walk_at "go"
      refine rdIxL (.inl (.inl (wo_in hx5).2)) (at_of (j := k) (by omega) f1) ?_
      walk_at "go"
      refine ⟨_, _, _, _, 4, 47, rfl, hu, hst5, bu, bst, by decide, fun H6 o6 s6 h6 => ?_⟩
      refine ⟨_, _, _, _, 23, 51, rfl, g1.mono s6, h6, bx, bd_mul bu bst, by decide, fun H7 o7 s7 h7 => ?_⟩
      have s67 := s6.trans s7
      have C7 := C5.mono s67
      have i7 := i5.mono s67
      have k7 : Fr K (wo [p, d] H7) st (ps[k + 1] - ps[k]) := Kp.fr (ls2 C7.ls i7) (hst5.mono s67)
      refine C7.app (d := frD (ps[k] + Rat.divInt a0 12 * (ps[k + 1] - ps[k]))) (List.mem_cons_self ..) (by rw [frsLen]; omega) (Kp.fr (ls2 C7.ls i7) h7) fun acc e1 C8 => ?_
      have s08 : SameS [d] H (upd H7 p (.lst (acc ++ [o7]))) := late_nw (s05.trans (sameS s67)) (Nw.of np) (notTbl e1) hI.ls
      have i8 : Ints (upd H7 p (.lst (acc ++ [o7]))) d := i7.stay (fun z => hpd (List.mem_singleton.mpr z.symm))
      have k8 : Fr K (wo [p, d] (upd H7 p (.lst (acc ++ [o7])))) st (ps[k + 1] - ps[k]) := Kp.stay k7 (List.mem_cons_self ..)
      have C8 : Cel K [p, d] (upd H7 p (.lst (acc ++ [o7]))) p ((ns ++ [ps[k] + Rat.divInt a0 12 * (ps[k + 1] - ps[k])]).map frD) := by
        rw [List.map_append]
        exact C8
      have hst8 := Kp.dp k8
      generalize upd H7 p (.lst (acc ++ [o7])) = H8 at s08 i8 C8 hst8 ⊢
      have hst8 : Fr K H8 st (ps[k + 1] - ps[k]) := hst8
      clear k8 k7 C7 i7 h7 h6 s6 s7 s67 C5 i5 s05 s35 hst5 e1
      obtain ⟨as8, has8⟩ := C8.ls
      obtain ⟨xs8, hx8, hxD8⟩ := hP.monoS s08
      have lx8 := frs_len hxD8
      obtain ⟨w2, f2, g2⟩ := frAt (Kp.dpAll hxD8) (show k < ps.length by omega)
      walk_at "un"
      walk_at "go"
      refine ⟨.inl ⟨rfl, _, .inl (.inl has8)⟩, ?_⟩
      walk_at "go"
      refine rdIxL (.inl (.inl (wo_in hx8).2)) (at_of (j := k) (by omega) f2) ?_
      walk_at "go"
      rename_i H9 o9 s9 h9
      have h9 : Fr K H9 o9 (Rat.divInt 99 100) := h9
      refine ⟨_, _, _, _, 7, 47, rfl, h9, hst8.mono s9, b99, bst, by decide, fun H10 o10 s10 h10 => ?_⟩
      refine ⟨_, _, _, _, 23, 54, rfl, g2.mono (s9.trans s10), h10, bx, bd_mul b99 bst, by decide, fun H11 o11 s11 h11 => ?_⟩
      have s811 := (s9.trans s10).trans s11
      have C11 := C8.mono s811
      have i11 := i8.mono s811
      refine C11.app (d := frD (ps[k] + Rat.divInt 99 100 * (ps[k + 1] - ps[k]))) (List.mem_cons_self ..) (by rw [frsLen, List.length_append]; simp only [List.length_cons, List.length_nil]; omega) (Kp.fr (ls2 C11.ls i11) h11) fun acc2 e2 C12 => ?_
      refine ⟨_, _, _, (ns ++ [ps[k] + Rat.divInt a0 12 * (ps[k + 1] - ps[k])]) ++ [ps[k] + Rat.divInt 99 100 * (ps[k + 1] - ps[k])], rfl, late_nw (s08.trans (sameS s811)) (Nw.of np) (notTbl e2) hI.ls, i11.stay (fun z => hpd (List.mem_singleton.mpr z.symm)), ?_, ?_, ?_⟩
      · rw [List.map_append]
        exact C12
      · rw [List.length_append, List.length_append, ln]
        simp only [List.length_cons, List.length_nil]
        omega
      · intro x hx
        rcases List.mem_append.mp hx with hx | hx
        · rcases List.mem_append.mp hx with hx | hx
          · exact hn x hx
          · rw [List.mem_singleton.mp hx]
            exact ⟨m1, m2, (bd_add bx (bd_mul bu bst)).mono (by decide)⟩
        · rw [List.mem_singleton.mp hx]
          exact ⟨m3, m4, (bd_add bx (bd_mul b99 bst)).mono (by decide)⟩
    · rintro σ' H2 ⟨o3, o4, o5, ns, rfl, s2, i2, C2, ln, hn⟩
      walk_at "un"
      walk_at "go"
      exact q _ p ns s2 i2 (C2.done sub1 hpd) hn (by omega)
/-! ### _law_lie_right -/
theorem at_last {xs : List V} {x : V} {n : Nat} (l : xs.length = n + 1) (h : xs[n]? = some x) : atI xs (-1) = some x := by
  have e : ixN xs.length (-1) = some n := by
    unfold ixN
    simp
    omega
  unfold atI
  rw [e]
  exact h
theorem pieceR_at {ps : List Rat} {r : Rat} {i : Nat} (h : incr ps) (hi : i + 1 < ps.length) (h1 : ps.getD i 0 ≤ r) (h2 : r < ps.getD (i + 1) 0) : pieceR (cutsOf ps) r = i := by
  have base : pieceR ((cutsOf ps).take i) r = i := by
    cases i with
    | zero => rfl
    | succ k => exact pieceR_all h (by omega) h1
  have up : ∀ m, i ≤ m → m ≤ ps.length - 2 → pieceR ((cutsOf ps).take m) r = i := by
    intro m
    induction m with
    | zero =>
      intro hm _
      have e : i = 0 := by omega
      rw [e] at base ⊢
      exact base
    | succ m ih =>
      intro hm hm2
      by_cases e : i = m + 1
      · rw [← e]
        exact base
      · rw [pieceR_skip (by omega) (Rat.not_le.mp fun z => absurd (Rat.le_trans (incr_le h (m + 1) (i + 1) (by omega) (by omega)) z) (Rat.not_le.mpr h2))]
        exact ih (by omega) (by omega)
  have z := up (ps.length - 2) (by omega) (Nat.le_refl _)
  rw [List.take_of_length_le (by rw [cutsOf_len]; exact Nat.le_refl _)] at z
  exact z
def sp__law_lie_right (K : PySem.W.Frag) : Sp := fun vs H Q E => ∃ (a b p t : Addr) (v1 v2 v3 : V) (x : Rat) (i j : Nat) (ps ss ys : List Rat), vs = [.ref a, .ref b, .ref p, .ref t] ∧ LL K H a (ps.map frD) ∧ LL K H b (ss.map frD) ∧ LL K H p (ys.map frD) ∧ Stp ps ss ∧ ys.length = ss.length ∧ (∀ y ∈ ys, Bd 110 y) ∧
  SqT K H t [v1, v2, v3] ∧ Fr K H v1 x ∧ Fr K H v2 (ps.getD j 0) ∧ Fr K H v3 (gainR ss ys i j x) ∧ i < ss.length ∧ j < ss.length ∧ ps.getD i 0 ≤ x ∧ x < ps.getD (i + 1) 0 ∧ 0 < gainR ss ys i j x ∧ Bd 300 x ∧ ∀ H', Same H H' → Q (.bl true) H'
theorem ok__law_lie_right {f : Addr} {fd : FuncData} (T : Tx K mg) (F : FunD K "_law_lie_right" "_law_lie_right" (defArgs s__law_lie_right) (defBody s__law_lie_right) (defScope s__law_lie_right) [] [] f fd) (C__law_has : Cal P w K mg base "_law_has" 4 ["points", "shares", "payments", "number", "told"] [] (sp__law_has K)) (C__law_less : Cal P w K mg base "_law_less" 1 ["a", "b"] [] (sp__law_less K)) (C__law_minus : Cal P w K mg base "_law_minus" 3 ["a", "b"] [] (sp__law_minus K)) : FnOk P w K mg base (L2.CX P w) 5 f fd ["points", "shares", "payments", "lie"] (sp__law_lie_right K) := by
  refine F.ok sc__law_lie_right (fun vs H Q E h => ?_) (fun cdv A outer st H vs Q E hr h => ?_)
  · obtain ⟨_, _, _, _, _, _, _, _, _, _, _, _, _, rfl, _⟩ := h
    rfl
  · obtain ⟨a, b, p, t, v1, v2, v3, x, i, j, ps, ss, ys, rfl, hP, hS, hY, S, ly, by', ht, h1, h2, h3, hi, hj, x1, x2, x3, bx, q⟩ := h
    have l2 := S.l2
    have l5 := S.l5
    have l3 := S.ls
    obtain ⟨xs, hx, hxD⟩ := id hP
    have lx := frs_len hxD
    refine ⟨_, PSs.nox (pss_cons (ps_if ((pw_or (pt_not (pt_val (pe_callB call_isi (by rfl) T.n_isinstance bb_isinstance (pa_cons (pv 3) (pa_cons (pe_bltn (v := .ty "tuple") (by rfl) T.n_tuple bb_tuple rfl) pa_nil))))) (pw_or1 (pt_cmpR (op_neA hr.units) (pe_callB cl_len (by rfl) T.n_len bb_len (pa_cons (pv 3) pa_nil)) pe_int (nomark _))))).pt (pss_one (ps_ret pe_bl)) pss_nil) (pss_cons (ps_asg (pv 3) (pg_tup rfl (pgs_cons (pg_name (i := 4) sc__law_lie_right.nd rfl (Or.inl rfl)) (pgs_cons (pg_name (i := 5) sc__law_lie_right.nd rfl (Or.inl rfl)) (pgs_cons (pg_name (i := 6) sc__law_lie_right.nd rfl (Or.inl rfl)) pgs_nil))))) (pss_cons (ps_for PassesOwn.never rfl (pi_list (pe_lstN (pa_cons (pv 4) (pa_cons (pv 5) pa_nil)))) (pg_name (i := 7) sc__law_lie_right.nd rfl (Or.inl rfl)) (pss_one (ps_if ((pw_or (pt_val (pe_callC C__law_less hr (by decide) (by rfl) (pa_cons (pv 7) (pa_cons (pe_ix ix_seq (pv 0) pe_int (fun _ _ => rfl)) pa_nil)))) (pw_or1 (pt_val (pe_callC C__law_less hr (by decide) (by rfl) (pa_cons (pe_ix ix_seq (pv 0) (pe_un un_neg pe_int) (fun _ _ => rfl)) (pa_cons (pv 7) pa_nil))))))).pt (pss_one (ps_ret pe_bl)) pss_nil))) (pss_cons (ps_set (i := 8) sc__law_lie_right.nd rfl (Or.inl rfl) (pe_callC C__law_has hr (by decide) (by rfl) (pa_cons (pv 0) (pa_cons (pv 1) (pa_cons (pv 2) (pa_cons (pv 4) (pa_cons (pv 4) pa_nil))))))) (pss_cons (ps_set (i := 9) sc__law_lie_right.nd rfl (Or.inl rfl) (pe_callC C__law_has hr (by decide) (by rfl) (pa_cons (pv 0) (pa_cons (pv 1) (pa_cons (pv 2) (pa_cons (pv 4) (pa_cons (pv 5) pa_nil))))))) (pss_one (ps_ret (pe_and (pe_cmpR op_gt (pe_ix ix_seq (pv 6) pe_int (fun _ _ => rfl)) pe_int (nomark _)) (pe_one (pe_cmpR (op_eqA hr.units) (pe_callC C__law_minus hr (by decide) (by rfl) (pa_cons (pv 9) (pa_cons (pv 8) pa_nil))) (pv 6) (nomark _))))))))))), ?_⟩
    walk_at "un"
    walk_at "go"
    refine isiTup (d := .tuple [frD x, frD (ps.getD j 0), frD (gainR ss ys i j x)]) (.tup ht (.cons h1 (.cons h2 (.cons h3 .nil)))) ?_
    walk_at "go"
    refine ifBF rfl ?_
    walk_at "go"
    refine ifNe rfl ?_
    walk_at "go"
    refine ⟨t, _, rfl, ht, rfl, _, _, rfl, _, _, rfl, _, _, rfl, rfl, ?_⟩
    walk_at "un"
    refine forOf ?_
    walk_at "it"
    walk_at "un"
    walk_at "go"
    refine rdLstH (Nat.le_of_ble_eq_true rfl) fun H1 lp s1 nl hlp => ?_
    refine ⟨lp, rfl, ⟨_, .inl (.inl hlp)⟩, ?_⟩
    have hn : ps[0] = ps.getD 0 0 := (getD_at0 (List.getElem?_eq_getElem (by omega))).symm
    have hw : ps[ps.length - 1] = ps.getD (ps.length - 1) 0 := (getD_at0 (List.getElem?_eq_getElem (by omega))).symm
    have bw : ∀ k, k < ps.length → Bd 300 (ps.getD k 0) := fun k hk => by
      rw [getD_at0 (List.getElem?_eq_getElem hk)]
      exact (S.bp _ (List.getElem_mem _)).mono (by decide)
    have hin : ∀ r ∈ [x, ps.getD j 0], ps.getD 0 0 ≤ r ∧ r ≤ ps.getD (ps.length - 1) 0 ∧ Bd 300 r := fun r hr => by
      rcases List.mem_cons.mp hr with rfl | hr
      · exact ⟨Rat.le_trans (incr_le S.inc i 0 (Nat.zero_le _) (by omega)) x1, Rat.le_of_lt (Rat.not_le.mp fun z => absurd (Rat.le_trans (incr_le S.inc (ps.length - 1) (i + 1) (by omega) (by omega)) z) (Rat.not_le.mpr x2)), bx⟩
      · rw [List.mem_singleton.mp hr]
        exact ⟨incr_le S.inc j 0 (Nat.zero_le _) (by omega), incr_le S.inc (ps.length - 1) j (by omega) (by omega), bw j (by omega)⟩
    obtain ⟨w0, f0, g0⟩ := frAt hxD (show 0 < ps.length by omega)
    obtain ⟨w9, f9, g9⟩ := frAt hxD (show ps.length - 1 < ps.length by omega)
    rw [hn] at g0
    rw [hw] at g9
    have hD1 : DpAll K H1 [v1, v2] ([x, ps.getD j 0].map frD) := .cons (h1.mono s1) (.cons (h2.mono s1) .nil)
    refine FL.list (xs := [v1, v2]) (fun k σ' H' => ∃ o7, σ' = [some (.ref a), some (.ref b), some (.ref p), some (.ref t), some v1, some v2, some v3, o7, none, none] ∧ H' = H1) ⟨_, rfl, rfl⟩ (fun k σ' H' _ ⟨_, _, e⟩ => by rw [e]; exact .inl (.inl hlp)) ?_ ?_
    · rintro k v σ' H' hv ⟨o7, rfl, rfl⟩
      obtain ⟨r, er, hr⟩ := frs_at hD1 hv
      obtain ⟨z1, z2, z3⟩ := hin r (List.mem_of_getElem? er)
      walk_at "un"
      walk_at "go"
      refine rdIxL (.inl (.inl (s1 _ _ hx))) (at_of (j := 0) (by omega) f0) ?_
      refine ⟨_, _, _, _, 300, 300, rfl, hr, g0.mono s1, z3, bw 0 (by omega), by decide, ?_⟩
      walk_at "go"
      refine ifD (fun z => absurd z (Rat.not_lt.mpr z1)) (fun _ => ?_)
      walk_at "go"
      refine rdIxL (.inl (.inl (s1 _ _ hx))) (at_last (n := ps.length - 1) (by omega) f9) ?_
      walk_at "go"
      refine ⟨_, _, _, _, 300, 300, rfl, g9.mono s1, hr, bw _ (by omega), z3, by decide, ?_⟩
      walk_at "go"
      refine ifD (fun z => absurd z (Rat.not_lt.mpr z2)) (fun _ => ?_)
      exact ⟨_, rfl, rfl⟩
    · rintro σ' H' ⟨o7, rfl, rfl⟩
      walk_at "un"
      walk_at "go"
      have px : pieceR (cutsOf ps) x = i := pieceR_at S.inc (by omega) x1 x2
      have pj : pieceR (cutsOf ps) (ps.getD j 0) = j := pieceR_at S.inc (by omega) Rat.le_refl (S.inc j (by omega))
      refine ⟨a, b, p, v1, v1, x, x, ps, ss, ys, rfl, hP.mono s1, hS.mono s1, hY.mono s1, S, ly, by', h1.mono s1, h1.mono s1, bx, bx, fun H2 o2 s2 g2 => ?_⟩
      walk_at "go"
      have s12 := s1.trans s2
      refine ⟨a, b, p, v1, v2, x, _, ps, ss, ys, rfl, hP.mono s12, hS.mono s12, hY.mono s12, S, ly, by', h1.mono s12, h2.mono s12, bx, bw j (by omega), fun H3 o3 s3 g3 => ?_⟩
      have s13 := s12.trans s3
      have h33 : Fr K H3 v3 (gainR ss ys i j x) := h3.mono s13
      have bs : ∀ k, k < ss.length → Bd 3 (ss.getD k 0) := fun k hk => by
        rw [getD_at0 (List.getElem?_eq_getElem hk)]
        exact S.bs2 _ (List.getElem_mem _)
      have by2 : ∀ k, k < ss.length → Bd 110 (ys.getD k 0) := fun k hk => by
        rw [getD_at0 (List.getElem?_eq_getElem (show k < ys.length by omega))]
        exact by' _ (List.getElem_mem _)
      unfold hasR at g2 g3
      rw [px] at g2
      rw [pj] at g3
      have bi : Bd 414 (x * ss.getD i 0 - ys.getD i 0) := bd_sub (bd_mul bx (bs i hi)) (by2 i hi)
      have bj : Bd 414 (x * ss.getD j 0 - ys.getD j 0) := bd_sub (bd_mul bx (bs j hj)) (by2 j hj)
      have e : x * ss.getD j 0 - ys.getD j 0 - (x * ss.getD i 0 - ys.getD i 0) = gainR ss ys i j x := by
        unfold gainR
        have m : x * (ss.getD j 0 - ss.getD i 0) = x * ss.getD j 0 - x * ss.getD i 0 := by rw [Rat.sub_eq_add_neg, Rat.mul_add, Rat.mul_neg, ← Rat.sub_eq_add_neg]
        rw [m]
        generalize x * ss.getD j 0 = u1
        generalize x * ss.getD i 0 = u2
        grind
      walk_at "go"
      refine ifD (fun _ => ?_) (fun z => absurd (by
        have y := UbC.cmpGt.mpr x3
        rw [cmpR_zero] at y
        exact Int.sign_pos_iff.mp y) z)
      walk_at "go"
      refine ⟨_, _, _, _, 414, 414, rfl, g3, g2.mono s3, bj, bi, by decide, fun H4 o4 s4 g4 => ?_⟩
      rw [e] at g4
      walk_at "go"
      refine rdEqFr g4 (h33.mono s4) ?_
      rw [decide_eq_true rfl]
      exact q _ (s13.trans s4)
/-! ### law -/
theorem cutM {xs : List V} (h : 2 ≤ xs.length) : cutV xs (some 1) (some (-1)) = (xs.drop 1).dropLast := by
  have e0 : HT.sIx xs.length 0 (some 1) = 1 := by
    have z := HT.clip_eq 1 xs.length 0
    rw [if_neg (by decide)] at z
    omega
  have e1 : HT.sIx xs.length xs.length (some (-1)) = xs.length - 1 := by
    have z := HT.clip_eq (-1) xs.length xs.length
    rw [if_pos (by decide)] at z
    omega
  unfold cutV
  rw [e0, e1, List.dropLast_eq_take, List.length_drop]
theorem dpAll_init {K : PySem.W.Frag} {H : Hp} {xs : List V} {ds : List PyData} (h : DpAll K H xs ds) : DpAll K H xs.dropLast ds.dropLast := by
  have l := dpAll_len h
  rw [List.dropLast_eq_take, List.dropLast_eq_take, l]
  exact dpAll_take _ h
theorem ends_eq {ps : List Rat} (h : 2 ≤ ps.length) : ps[0] :: cutsOf ps ++ [ps[ps.length - 1]] = ps := by
  unfold cutsOf
  match ps, h with
  | x :: r, h =>
    have hr : r ≠ [] := fun z => by rw [z] at h; simp at h
    have e : (x :: r)[(x :: r).length - 1] = r.getLast hr := by
      rw [List.getLast_eq_getElem]
      simp only [List.length_cons, Nat.add_sub_cancel]
      have hl : 0 < r.length := List.length_pos_iff.mpr hr
      obtain ⟨n, hn⟩ : ∃ n, r.length = n + 1 := ⟨r.length - 1, by omega⟩
      simp only [hn, Nat.add_sub_cancel, List.getElem_cons_succ]
    rw [e]
    show x :: (r.dropLast ++ [r.getLast hr]) = x :: r
    rw [List.dropLast_concat_getLast hr]
theorem rdNeSame {K : PySem.W.Frag} {H : Hp} {Q : VK} {x y : V} {d : PyData} (h1 : Dp K H x d) (h2 : Dp K H y d) (s : SeqAt.shaped d = true) (l : d.canLay0 = true) (q : Q (.bl false) H) : rNeA K x y H Q := .inr ⟨_, _, h1, h2, s, s, by rw [SeqAt.eqv_refl _ l]; exact q⟩
theorem SameT.lateN {H H' : Hp} {p : Addr} {xs ys : List V} (e : UbG.SameT H H') (n : Nw H p) (hp : H' p = some (.lst ys)) : UbG.SameT H (upd H' p (.lst xs)) :=
  ⟨fun b o g t => by
    have hb : b ≠ p := fun z => by
      obtain ⟨ps, q⟩ := n o (z ▸ g)
      exact t ps q
    rw [upd_ne hb]
    exact e.but b o g t, fun P g => by
    obtain ⟨qs, g1, t1⟩ := e.tab P g
    exact ⟨qs, by rw [upd_ne (fun z => by rw [z, hp] at g1; cases g1)]; exact g1, t1⟩⟩
theorem rdNeB {K : PySem.W.Frag} {H : Hp} {Q : VK} {i j : Bool} (q : Q (.bl (!decide (i = j))) H) : rNeA K (.bl i) (.bl j) H Q := .inl <| ⟨rfl, by
  have e : decide (V.bl i = V.bl j) = decide (i = j) := by
    rw [dec_bl]
    exact Bool.beq_eq_decide_eq ..
  rw [e]
  exact q⟩
/-! ### no lie gains -/
theorem gain_lin {m d x u v : Rat} (h1 : u * m - d ≤ 0) (h2 : v * m - d ≤ 0) (a : u ≤ x) (b : x ≤ v) : x * m - d ≤ 0 := by
  have h : 0 ≤ m ∨ 0 ≤ -m := by
    rcases Rat.le_total (a := 0) (b := m) with z | z
    · exact .inl z
    · exact .inr (by grind)
  rcases h with z | z
  · have p := Rat.mul_nonneg (a := v - x) (b := m) (by grind) z
    rw [Rat.sub_eq_add_neg, Rat.add_mul, Rat.neg_mul] at p
    generalize x * m = e1 at *
    generalize v * m = e2 at *
    grind
  · have p := Rat.mul_nonneg (a := x - u) (b := -m) (by grind) z
    rw [Rat.sub_eq_add_neg, Rat.add_mul, Rat.neg_mul, Rat.mul_neg, Rat.mul_neg] at p
    generalize x * m = e1 at *
    generalize u * m = e2 at *
    grind
theorem noLie_in {es ss ys : List Rat} (h : noLie es ss ys) {i j : Nat} (hi : i < ss.length) (hj : j < ss.length) {x : Rat} (a : es.getD i 0 ≤ x) (b : x ≤ es.getD (i + 1) 0) : gainR ss ys i j x ≤ 0 := by
  obtain ⟨h1, h2⟩ := h i j hi hj
  unfold gainR at *
  exact gain_lin h1 h2 a b
def ascP (es : List Rat) : Prop := ∀ i, i + 1 < es.length → es.getD i 0 ≤ es.getD (i + 1) 0
theorem noLie_asc {es ss ys : List Rat} (hE : incr es) (l : es.length = ss.length + 1) (h : noLie es ss ys) : ascP ss := fun i hi => by
  have h1 := (h i (i + 1) (by omega) hi).2
  have h2 := (h (i + 1) i hi (by omega)).2
  have h3 := hE (i + 1) (by omega)
  unfold gainR at h1 h2
  generalize es.getD (i + 1) 0 = u at *
  generalize es.getD (i + 1 + 1) 0 = v at *
  generalize ss.getD i 0 = s at *
  generalize ss.getD (i + 1) 0 = t at *
  generalize ys.getD i 0 = y at *
  generalize ys.getD (i + 1) 0 = z at *
  refine Rat.not_lt.mp fun w => ?_
  have p := Rat.mul_pos (a := v - u) (b := s - t) (by grind) (by grind)
  have e1 : (v - u) * (s - t) = v * (s - t) + u * (t - s) := by
    have q : u * (t - s) = -(u * (s - t)) := by rw [← Rat.mul_neg]; congr 1; grind
    rw [q, Rat.sub_eq_add_neg v u, Rat.add_mul, Rat.neg_mul]
  rw [e1] at p
  generalize v * (s - t) = e2 at *
  generalize u * (t - s) = e3 at *
  grind
theorem toll_up {ps ss : List Rat} (hP : incr ps) (l : ss.length + 1 = ps.length) (hA : ascP ss) {i : Nat} {x : Rat} (b : x ≤ ps.getD (i + 1) 0) : ∀ j, i ≤ j → j < ss.length → x * (ss.getD j 0 - ss.getD i 0) - (tollN (cutsOf ps) ss j - tollN (cutsOf ps) ss i) ≤ 0
  | 0, h, _ => by
    have e : i = 0 := by omega
    rw [e, show ss.getD 0 0 - ss.getD 0 0 = 0 by grind, Rat.mul_zero]
    grind
  | j + 1, h, hj => by
    by_cases e : i = j + 1
    · rw [e, show ss.getD (j + 1) 0 - ss.getD (j + 1) 0 = 0 by grind, Rat.mul_zero]
      grind
    · have ih := toll_up hP l hA b j (by omega) (by omega)
      have hc : (cutsOf ps).getD j 0 = ps.getD (j + 1) 0 := by
        rw [List.getD_eq_getElem?_getD, cutsOf_at (by omega), ← List.getD_eq_getElem?_getD]
      have z1 := incr_le hP (j + 1) (i + 1) (by omega) (by omega)
      have z2 := hA j hj
      show x * (ss.getD (j + 1) 0 - ss.getD i 0) - (tollN (cutsOf ps) ss j + (cutsOf ps).getD j 0 * (ss.getD (j + 1) 0 - ss.getD j 0) - tollN (cutsOf ps) ss i) ≤ 0
      rw [hc]
      generalize ps.getD (j + 1) 0 = c at *
      generalize ps.getD (i + 1) 0 = c2 at *
      generalize tollN (cutsOf ps) ss j = t1 at *
      generalize tollN (cutsOf ps) ss i = t2 at *
      generalize ss.getD (j + 1) 0 = s3 at *
      generalize ss.getD j 0 = s2 at *
      generalize ss.getD i 0 = s1 at *
      have p := Rat.mul_nonneg (a := c - x) (b := s3 - s2) (by grind) (by grind)
      have e1 : (c - x) * (s3 - s2) = c * (s3 - s2) - x * (s3 - s2) := by rw [Rat.sub_eq_add_neg c x, Rat.add_mul, Rat.neg_mul, ← Rat.sub_eq_add_neg]
      have e2 : x * (s3 - s1) = x * (s3 - s2) + x * (s2 - s1) := by rw [← Rat.mul_add]; congr 1; grind
      rw [e1] at p
      rw [e2]
      generalize c * (s3 - s2) = e3 at *
      generalize x * (s3 - s2) = e4 at *
      generalize x * (s2 - s1) = e5 at *
      grind
theorem toll_down {ps ss : List Rat} (hP : incr ps) (l : ss.length + 1 = ps.length) (hA : ascP ss) {x : Rat} {i : Nat} (hi : i < ss.length) (a : ps.getD i 0 ≤ x) : ∀ k j, j + k = i → x * (ss.getD j 0 - ss.getD i 0) - (tollN (cutsOf ps) ss j - tollN (cutsOf ps) ss i) ≤ 0
  | 0, j, h => by
    have e : j = i := by omega
    rw [e, show ss.getD i 0 - ss.getD i 0 = 0 by grind, Rat.mul_zero]
    grind
  | k + 1, j, h => by
    have ih := toll_down hP l hA hi a k (j + 1) (by omega)
    have hc : (cutsOf ps).getD j 0 = ps.getD (j + 1) 0 := by
      rw [List.getD_eq_getElem?_getD, cutsOf_at (by omega), ← List.getD_eq_getElem?_getD]
    have z1 := incr_le hP i (j + 1) (by omega) (by omega)
    have z2 := hA j (by omega)
    have ih : x * (ss.getD (j + 1) 0 - ss.getD i 0) - (tollN (cutsOf ps) ss j + (cutsOf ps).getD j 0 * (ss.getD (j + 1) 0 - ss.getD j 0) - tollN (cutsOf ps) ss i) ≤ 0 := ih
    rw [hc] at ih
    generalize ps.getD (j + 1) 0 = c at *
    generalize ps.getD i 0 = c2 at *
    generalize tollN (cutsOf ps) ss j = t1 at *
    generalize tollN (cutsOf ps) ss i = t2 at *
    generalize ss.getD (j + 1) 0 = s3 at *
    generalize ss.getD j 0 = s2 at *
    generalize ss.getD i 0 = s1 at *
    have p := Rat.mul_nonneg (a := x - c) (b := s3 - s2) (by grind) (by grind)
    have e1 : (x - c) * (s3 - s2) = x * (s3 - s2) - c * (s3 - s2) := by rw [Rat.sub_eq_add_neg x c, Rat.add_mul, Rat.neg_mul, ← Rat.sub_eq_add_neg]
    have e2 : x * (s3 - s1) = x * (s3 - s2) + x * (s2 - s1) := by rw [← Rat.mul_add]; congr 1; grind
    rw [e1] at p
    rw [e2] at ih
    generalize c * (s3 - s2) = e3 at *
    generalize x * (s3 - s2) = e4 at *
    generalize x * (s2 - s1) = e5 at *
    grind
theorem tollsR_at {cs ss : List Rat} {k : Nat} (h : k < ss.length) : (tollsR cs ss).getD k 0 = tollN cs ss k := by
  unfold tollsR
  rw [List.getD_eq_getElem?_getD, List.getElem?_map, List.getElem?_range h]
  rfl
theorem tolls_noLie {ps ss : List Rat} (hP : incr ps) (l : ss.length + 1 = ps.length) (hA : ascP ss) {ys : List Rat} {e : Rat} (hy : ∀ k, k < ss.length → ys.getD k 0 = tollN (cutsOf ps) ss k + e) : noLie ps ss ys := fun i j hi hj => by
  have key : ∀ x, ps.getD i 0 ≤ x → x ≤ ps.getD (i + 1) 0 → gainR ss ys i j x ≤ 0 := fun x a b => by
    unfold gainR
    rw [hy i hi, hy j hj]
    have h : x * (ss.getD j 0 - ss.getD i 0) - (tollN (cutsOf ps) ss j - tollN (cutsOf ps) ss i) ≤ 0 := by
      rcases Nat.le_total i j with z | z
      · exact toll_up hP l hA b j z hj
      · exact toll_down hP l hA hi a (i - j) j (by omega)
    generalize x * (ss.getD j 0 - ss.getD i 0) = u at *
    generalize tollN (cutsOf ps) ss j = t1 at *
    generalize tollN (cutsOf ps) ss i = t2 at *
    grind
  exact ⟨key _ Rat.le_refl (Rat.le_of_lt (hP i (by omega))), key _ (Rat.le_of_lt (hP i (by omega))) Rat.le_refl⟩
theorem piece_find {ps : List Rat} {x : Rat} (h0 : ps.getD 0 0 ≤ x) : ∀ m, m + 1 < ps.length → x < ps.getD (m + 1) 0 → ∃ i, i + 1 < ps.length ∧ ps.getD i 0 ≤ x ∧ x < ps.getD (i + 1) 0
  | 0, hm, h => ⟨0, hm, h0, h⟩
  | m + 1, hm, h => by
    rcases Classical.em (ps.getD (m + 1) 0 ≤ x) with z | z
    · exact ⟨m + 1, hm, z, h⟩
    · exact piece_find h0 m (by omega) (Rat.not_le.mp z)
theorem piece_in {ps : List Rat} (hP : incr ps) (l : 2 ≤ ps.length) {x : Rat} (h0 : ps.getD 0 0 ≤ x) (h1 : x ≤ ps.getD (ps.length - 1) 0) : pieceR (cutsOf ps) x + 1 < ps.length ∧ ps.getD (pieceR (cutsOf ps) x) 0 ≤ x ∧ x ≤ ps.getD (pieceR (cutsOf ps) x + 1) 0 := by
  obtain ⟨n, hn⟩ : ∃ n, ps.length = n + 2 := ⟨ps.length - 2, by omega⟩
  rw [show ps.length - 1 = n + 1 by omega] at h1
  rcases Classical.em (x < ps.getD (n + 1) 0) with z | z
  · obtain ⟨i, hi, a, b⟩ := piece_find h0 n (by omega) z
    rw [pieceR_at hP hi a b]
    exact ⟨hi, a, Rat.le_of_lt b⟩
  · have e : x = ps.getD (n + 1) 0 := Rat.le_antisymm h1 (Rat.not_lt.mp z)
    have hp : pieceR (cutsOf ps) x = n := by
      unfold pieceR
      rw [List.filter_eq_self.mpr (fun c hc => ?_), cutsOf_len]
      · omega
      obtain ⟨k, hk, ec⟩ := List.getElem_of_mem hc
      rw [cutsOf_len] at hk
      have e2 : (cutsOf ps)[k]? = some c := by
        rw [← ec]
        exact List.getElem?_eq_getElem _
      rw [cutsOf_at (by omega)] at e2
      have y := incr_le hP (n + 1) (k + 1) (by omega) (by omega)
      rw [getD_at0 e2, ← e] at y
      exact decide_eq_true y
    rw [hp]
    refine ⟨by omega, ?_, by rw [e]; exact Rat.le_refl⟩
    rw [e]
    exact Rat.le_of_lt (hP n (by omega))
theorem bd_toll2 {cs ss : List Rat} (h1 : ∀ x ∈ cs, Bd 23 x) (h2 : ∀ x ∈ ss, Bd 3 x) : ∀ k, k < ss.length → k ≤ cs.length → Bd (1 + k * 31) (tollN cs ss k)
  | 0, _, _ => bd_zero
  | k + 1, hk, hc => by
    have b0 := bd_toll2 h1 h2 k (by omega) (by omega)
    obtain ⟨x, hx⟩ : ∃ x, cs[k]? = some x := ⟨cs[k]'(by omega), List.getElem?_eq_getElem (by omega)⟩
    obtain ⟨y, hy⟩ : ∃ y, ss[k]? = some y := ⟨ss[k]'(by omega), List.getElem?_eq_getElem (by omega)⟩
    obtain ⟨z, hz⟩ : ∃ z, ss[k + 1]? = some z := ⟨ss[k + 1]'(by omega), List.getElem?_eq_getElem (by omega)⟩
    unfold tollN
    rw [getD_at0 hx, getD_at0 hy, getD_at0 hz]
    have b1 : Bd 7 (z - y) := bd_sub (h2 z (List.mem_of_getElem? hz)) (h2 y (List.mem_of_getElem? hy))
    exact (bd_add b0 (bd_mul (h1 x (List.mem_of_getElem? hx)) b1)).mono (by omega)
theorem bd_tolls {ps ss : List Rat} (S : Stp ps ss) : ∀ y ∈ tollsR (cutsOf ps) ss, Bd 94 y := fun y hy => by
  have l5 := S.l5
  have l3 := S.ls
  unfold tollsR at hy
  obtain ⟨k, hk, rfl⟩ := List.mem_map.mp hy
  have hk := List.mem_range.mp hk
  exact (bd_toll2 (cs := cutsOf ps) (fun x hx => S.bp2 x (List.mem_of_mem_drop (List.dropLast_subset _ hx))) S.bs2 k hk (by rw [cutsOf_len]; omega)).mono (by omega)
theorem has_le {ps ss ys : List Rat} {x t : Rat} (h : gainR ss ys (pieceR (cutsOf ps) x) (pieceR (cutsOf ps) t) x ≤ 0) : hasR ps ss ys x t ≤ hasR ps ss ys x x := by
  unfold gainR at h
  unfold hasR
  generalize pieceR (cutsOf ps) x = i at *
  generalize pieceR (cutsOf ps) t = j at *
  have m : x * (ss.getD j 0 - ss.getD i 0) = x * ss.getD j 0 - x * ss.getD i 0 := by rw [Rat.sub_eq_add_neg, Rat.mul_add, Rat.mul_neg, ← Rat.sub_eq_add_neg]
  rw [m] at h
  generalize x * ss.getD j 0 = u1 at *
  generalize x * ss.getD i 0 = u2 at *
  grind
theorem bd_has {ps ss ys : List Rat} {x t : Rat} (S : Stp ps ss) (ly : ys.length = ss.length) (by' : ∀ y ∈ ys, Bd 110 y) (bx : Bd 300 x) : Bd 414 (hasR ps ss ys x t) := by
  have hle := pieceR_le (ps := ps) (r := t)
  have l2 := S.l2
  have l3 := S.ls
  unfold hasR
  generalize pieceR (cutsOf ps) t = n at *
  rw [getD_at0 (List.getElem?_eq_getElem (show n < ss.length by omega)), getD_at0 (List.getElem?_eq_getElem (show n < ys.length by omega))]
  exact bd_sub (bd_mul bx (S.bs2 _ (List.getElem_mem _))) (by' _ (List.getElem_mem _))
theorem ll_ne {K : PySem.W.Frag} {H : Hp} {t d : Addr} {rs : List Rat} (h : LL K H t (rs.map frD)) (l : 0 < rs.length) (i : Ints H d) : t ≠ d := fun e => by
  obtain ⟨ns, hn⟩ := i
  obtain ⟨xs, h1, h2⟩ := h
  rw [e, hn] at h1
  cases h1
  match rs, l, ns, h2 with
  | r :: rs, _, n :: ns, h2 =>
    cases h2 with
    | cons z _ => cases z
theorem ll_mv {K : PySem.W.Frag} {H H' : Hp} {a d : Addr} {rs : List Rat} (e : SameS [d] H H') (i : Ints H d) (n : a ≠ d) (h : LL K H a (rs.map frD)) : LL K H' a (rs.map frD) := by
  obtain ⟨xs, h1, h2⟩ := h
  have w : LL K (wo [d] H) a (rs.map frD) := ⟨xs, by rw [wo_out (fun z => n (List.mem_singleton.mp z))]; exact h1, Kp.ofNoLAll i.ls _ _ (noLs_frs rs) h2⟩
  exact (w.monoS e).out
theorem ll_w {K : PySem.W.Frag} {H : Hp} {a d : Addr} {rs : List Rat} (i : Ints H d) (n : a ≠ d) (h : LL K H a (rs.map frD)) : LL K (wo [d] H) a (rs.map frD) := by
  obtain ⟨xs, h1, h2⟩ := h
  exact ⟨xs, by rw [wo_out (fun z => n (List.mem_singleton.mp z))]; exact h1, Kp.ofNoLAll i.ls _ _ (noLs_frs rs) h2⟩
theorem thx_mv {K : PySem.W.Frag} {H H' : Hp} {a c s d : Addr} {lo hi : Rat} {cs ss : List Rat} (e : SameS [d] H H') (i : Ints H d) (nc : c ≠ d) (ns : s ≠ d) (h : ThX K H a lo hi c s cs ss) : ThX K H' a lo hi c s cs ss := by
  obtain ⟨dx, v1, v2, h1, h2, h3, h4, h5⟩ := h
  have na : a ∉ [d] := fun z => by
    rw [List.mem_singleton.mp z] at h1
    obtain ⟨ns, hn⟩ := i
    rw [h1] at hn
    cases hn
  exact ⟨dx, v1, v2, e.but _ _ na h1 (fun _ z => by cases z), Fr.monoS1 e i h2, Fr.monoS1 e i h3, ll_mv e i nc h4, ll_mv e i ns h5⟩
def sp_law (K : PySem.W.Frag) : Sp := fun vs H Q _ => ∃ (a : Addr) (ns : List Int), vs = [.ref a] ∧ SqL K H a (ns.map V.int) ∧ ns.length ≤ 63 ∧ (∀ z ∈ ns, Builtin.Int.intBits z ≤ 1048576) ∧ (∀ p ∈ ([("Thresholds", some "__init__")] : List He.Defn), GxR.TabG H (He.cT K p).2) ∧ ∀ H', Q (.bl true) H'
theorem ok_law {f : Addr} {fd : FuncData} (T : Tx K mg) (F : FunD K "law" "law" (defArgs s_law) (defBody s_law) (defScope s_law) [] [] f fd) (I_Thresholds : UbC.CalI P w K mg base "Thresholds" 4 2 ["cuts", "shares"] (sp_Thresholds___init__ K)) (M_Thresholds_lie : UbC.CalM P w K mg base "Thresholds" "lie" 5 ["self", "payments"] [] (sp_Thresholds_lie K)) (C__law_fraction : Cal P w K mg base "_law_fraction" 2 ["row"] [] (sp__law_fraction K)) (C__law_has : Cal P w K mg base "_law_has" 4 ["points", "shares", "payments", "number", "told"] [] (sp__law_has K)) (C__law_less : Cal P w K mg base "_law_less" 1 ["a", "b"] [] (sp__law_less K)) (C__law_lie_right : Cal P w K mg base "_law_lie_right" 5 ["points", "shares", "payments", "lie"] [] (sp__law_lie_right K)) (C__law_numbers : Cal P w K mg base "_law_numbers" 2 ["script", "count"] [] (sp__law_numbers K)) (C__law_numbers_in : Cal P w K mg base "_law_numbers_in" 4 ["row", "points"] [] (sp__law_numbers_in K)) (C__law_plus : Cal P w K mg base "_law_plus" 2 ["a", "b"] [] (sp__law_plus K)) (C__law_refused : Cal P w K mg base "_law_refused" 6 ["made", "payments"] [] (sp__law_refused K)) (C__law_steps : Cal P w K mg base "_law_steps" 3 ["row"] [] (sp__law_steps K)) (C__law_take : Cal P w K mg base "_law_take" 1 ["row", "bound"] [] (sp__law_take)) (C__law_tolls : Cal P w K mg base "_law_tolls" 4 ["points", "shares"] [] (sp__law_tolls K)) : FnOk P w K mg base (L2.CX P w) 7 f fd ["script"] (sp_law K) := by
  refine F.ok sc_law (fun vs H Q E h => ?_) (fun cdv A outer st H vs Q E hr h => ?_)
  · obtain ⟨_, _, rfl, _⟩ := h
    rfl
  · obtain ⟨ad, cs, rfl, hS, hl, _, hT, q⟩ := h
    have hT1 : GxR.TabG H (pTh K) := hT _ (List.mem_singleton.mpr rfl)
    refine ⟨_, PSs.nox (pss_cons (ps_set (i := 1) sc_law.nd rfl (Or.inr rfl) (pe_callC C__law_numbers hr (by decide) (by rfl) (pa_cons (pv 0) (pa_cons pe_int pa_nil)))) (pss_cons (ps_asg (pe_callC C__law_steps hr (by decide) (by rfl) (pa_cons (pv 1) pa_nil)) (pg_tup rfl (pgs_cons (pg_name (i := 2) sc_law.nd rfl (Or.inl rfl)) (pgs_cons (pg_name (i := 3) sc_law.nd rfl (Or.inr rfl)) pgs_nil)))) (pss_cons (ps_set (i := 4) sc_law.nd rfl (Or.inl rfl) (pe_callC C__law_tolls hr (by decide) (by rfl) (pa_cons (pv 2) (pa_cons (pv 3) pa_nil)))) (pss_cons (ps_set (i := 5) sc_law.nd rfl (Or.inl rfl) (UbC.pe_newC I_Thresholds hr (by decide) (by rfl) passL (pa_cons (pe_ix ix_seq (pv 2) pe_int (fun _ _ => rfl)) (pa_cons (pe_ix ix_seq (pv 2) (pe_un un_neg pe_int) (fun _ _ => rfl)) pa_nil)) (pk_cons (pe_slice sl_list (pv 2) (po_some pe_int) (po_some (pe_un un_neg pe_int))) (pk_cons (pe_callTy cl_list (by rfl) T.n_list bb_list (pa_cons (pv 3) pa_nil)) pk_nil)))) (pss_cons (ps_set (i := 7) sc_law.nd rfl (Or.inl rfl) (pe_not (pe_callB (cr_any rfl) (by rfl) T.n_any bb_any (pa_cons (pe_lc (own := [("k", 6)]) (g := gName 6) (tt := tYes) rfl sc_law.nd (pi_range2 (by rfl) T.n_range (pa_cons pe_int (pa_cons (pe_callB cl_len (by rfl) T.n_len bb_len (pa_cons (pv 3) pa_nil)) pa_nil))) (blkOk_by (N := N_law) (sc := defScope s_law) (by decide +kernel)) (fun _ _ _ _ _ => (pg_name (i := 6) sc_law.nd rfl (by first | exact Or.inl rfl | exact Or.inr rfl))) (fun _ _ _ _ _ => pts_nil) (fun _ _ _ _ _ => (pe_callC C__law_less hr (by decide) (by rfl) (pa_cons (pe_ix (ix_seqK (K := K) rfl) (pv 3) (pv 6) (fun _ _ => rfl)) (pa_cons (pe_ix (ix_seqK (K := K) rfl) (pv 3) (pe_op op_sub (pv 6) pe_int) (fun _ _ => rfl)) pa_nil))))) pa_nil)))) (pss_cons (ps_set (i := 8) sc_law.nd rfl (Or.inr rfl) (pe_callC C__law_fraction hr (by decide) (by rfl) (pa_cons (pv 1) pa_nil))) (pss_cons (ps_set (i := 9) sc_law.nd rfl (Or.inl rfl) (pe_callTy cl_list (by rfl) T.n_list bb_list (pa_cons (pv 4) pa_nil))) (pss_cons (ps_set (i := 6) sc_law.nd rfl (Or.inl rfl) (pe_callC C__law_take hr (by decide) (by rfl) (pa_cons (pv 1) (pa_cons (pe_callB cl_len (by rfl) T.n_len bb_len (pa_cons (pv 9) pa_nil)) pa_nil)))) (pss_cons (ps_asg (pe_callC C__law_plus hr (by decide) (by rfl) (pa_cons (pe_ix ix_seq (pv 9) (pv 6) (fun _ _ => rfl)) (pa_cons (pe_ix ix_seq (pe_lstN (pa_cons (pe_tupN (pa_cons pe_int (pa_cons pe_int pa_nil))) (pa_cons (pe_tupN (pa_cons (pe_un un_neg pe_int) (pa_cons pe_int pa_nil))) (pa_cons (pe_tupN (pa_cons pe_int (pa_cons pe_int pa_nil))) (pa_cons (pe_tupN (pa_cons (pe_un un_neg pe_int) (pa_cons pe_int pa_nil))) pa_nil))))) (pe_callC C__law_take hr (by decide) (by rfl) (pa_cons (pv 1) (pa_cons pe_int pa_nil))) (fun _ _ => rfl)) pa_nil))) (pg_sub (pv 9) (pv 6) set_list)) (pss_cons (ps_set (i := 10) sc_law.nd rfl (Or.inl rfl) (pe_lstN (pa_cons (pv 4) (pa_cons (pe_lc (own := [("toll", 19)]) (g := gName 19) (tt := tYes) rfl sc_law.nd (pi_list (pv 4)) (blkOk_by (N := N_law) (sc := defScope s_law) (by decide +kernel)) (fun _ _ _ _ _ => (pg_name (i := 19) sc_law.nd rfl (by first | exact Or.inl rfl | exact Or.inr rfl))) (fun _ _ _ _ _ => pts_nil) (fun _ _ _ _ _ => (pe_callC C__law_plus hr (by decide) (by rfl) (pa_cons (pv 19) (pa_cons (pv 8) pa_nil))))) (pa_cons (pv 9) (pa_cons (pe_lc (own := [("toll", 19)]) (g := gName 19) (tt := tYes) rfl sc_law.nd (pi_list (pv 4)) (blkOk_by (N := N_law) (sc := defScope s_law) (by decide +kernel)) (fun _ _ _ _ _ => (pg_name (i := 19) sc_law.nd rfl (by first | exact Or.inl rfl | exact Or.inr rfl))) (fun _ _ _ _ _ => pts_nil) (fun _ _ _ _ _ => (pe_callC C__law_fraction hr (by decide) (by rfl) (pa_cons (pv 1) pa_nil)))) pa_nil)))))) (pss_cons (ps_set (i := 11) sc_law.nd rfl (Or.inl rfl) (pe_callC C__law_numbers_in hr (by decide) (by rfl) (pa_cons (pv 1) (pa_cons (pv 2) pa_nil)))) (pss_cons (ps_for PassesOwn.never rfl (pi_range1 (by rfl) T.n_range (pa_cons pe_int pa_nil)) (pg_name (i := 12) sc_law.nd rfl (Or.inl rfl)) (pss_cons (ps_set (i := 13) sc_law.nd rfl (Or.inl rfl) (pe_ix ix_seq (pv 10) (pv 12) (fun _ _ => rfl))) (pss_cons (ps_set (i := 14) sc_law.nd rfl (Or.inl rfl) (pe_callTy cl_list (by rfl) T.n_list bb_list (pa_cons (pv 13) pa_nil))) (pss_cons (ps_set (i := 15) sc_law.nd rfl (Or.inl rfl) (UbC.pe_methC M_Thresholds_lie hr (by decide) passL (pv 5) (pa_cons (pv 14) pa_nil))) (pss_consJ (ps_if ((pw_or (pt_cmpR (op_neA hr.units) (pv 14) (pv 13) (nomark _)) (pw_or ((pw_and (pt_cmpR op_lt (pv 12) pe_int (nomark _)) (pw_and1 (pt_cmpR (op_neA hr.units) (pe_cmpR op_isNo (pv 15) pe_non (nomark _)) (pv 7) (nomark _))))).pt (pw_or1 ((pw_and (pt_cmpR op_isNo (pv 15) pe_non (nomark _)) (pw_and1 (pt_not (pt_truth (pv 7) (by intro _; rfl)))))).pt)))).pt (pss_one (ps_ret pe_bl)) pss_nil) (pss_one (ps_if (pt_cmpR op_notNo (pv 15) pe_non (nomark _)) (pss_one (ps_if (pt_not (pt_val (pe_callC C__law_lie_right hr (by decide) (by rfl) (pa_cons (pv 2) (pa_cons (pv 3) (pa_cons (pv 13) (pa_cons (pv 15) pa_nil))))))) (pss_one (ps_ret pe_bl)) pss_nil)) (pss_one (ps_for PassesOwn.never rfl (pi_list (pv 11)) (pg_name (i := 16) sc_law.nd rfl (Or.inl rfl)) (pss_cons (ps_set (i := 17) sc_law.nd rfl (Or.inl rfl) (pe_callC C__law_has hr (by decide) (by rfl) (pa_cons (pv 2) (pa_cons (pv 3) (pa_cons (pv 13) (pa_cons (pv 16) (pa_cons (pv 16) pa_nil))))))) (pss_one (ps_for PassesOwn.never rfl (pi_list (pv 2)) (pg_name (i := 18) sc_law.nd rfl (Or.inl rfl)) (pss_one (ps_if (pt_val (pe_callC C__law_less hr (by decide) (by rfl) (pa_cons (pv 17) (pa_cons (pe_callC C__law_has hr (by decide) (by rfl) (pa_cons (pv 2) (pa_cons (pv 3) (pa_cons (pv 13) (pa_cons (pv 16) (pa_cons (pv 18) pa_nil)))))) pa_nil)))) (pss_one (ps_ret pe_bl)) pss_nil)))))))))))))) (pss_one (ps_ret (pe_and (pe_callC C__law_refused hr (by decide) (by rfl) (pa_cons (pv 5) (pa_cons (pe_op op_cat (pv 4) (pe_lstN (pa_cons (pe_tupN (pa_cons pe_int (pa_cons pe_int pa_nil))) pa_nil))) pa_nil))) (pe_one (pe_callC C__law_refused hr (by decide) (by rfl) (pa_cons (pv 5) (pa_cons (pe_slice sl_list (pv 4) po_none (po_some (pe_un un_neg pe_int))) pa_nil))))))))))))))))))), ?_⟩
    walk_at "un"
    walk_at "go"
    refine ⟨ad, cs, 90, rfl, hS, hl, by decide, fun H1 d s1 nd hI => ?_⟩
    have hT1 := UbG.TabG.mono s1 hT1
    clear s1 hT hS hl nd
    walk_at "go"
    refine ⟨d, rfl, hI, fun H2 t pa sa ps ss s2 i2 ht hP hSS S => ?_⟩
    have hT1 := s2.tab _ hT1
    clear s2 hI
    have l2 := S.l2
    have l5 := S.l5
    have l3 := S.ls
    have p0 : 0 < ps.length := by omega
    have p9 : ps.length - 1 < ps.length := by omega
    walk_at "go"
    refine ⟨t, _, rfl, ht, rfl, _, _, rfl, _, _, rfl, rfl, ?_⟩
    clear ht
    walk_at "un"
    walk_at "go"
    have npa : pa ≠ d := fun z => hP.notIn (List.mem_singleton.mpr z)
    have nsa : sa ≠ d := fun z => hSS.notIn (List.mem_singleton.mpr z)
    refine ⟨pa, sa, ps, ss, rfl, hP.out, hSS.out, S, fun H3 ta s3 hTo => ?_⟩
    have hP := hP.out.mono s3
    have hSS := hSS.out.mono s3
    have hI := i2.mono s3
    have hT1 := UbG.TabG.mono s3 hT1
    have nta : ta ≠ d := ll_ne hTo (by unfold tollsR; rw [List.length_map, List.length_range]; omega) hI
    clear s3 i2
    obtain ⟨xs, hx, hxD⟩ := id hP
    obtain ⟨zs, hz, hzD⟩ := id hSS
    have lx := frs_len hxD
    have lz := frs_len hzD
    obtain ⟨v0, e0, h0⟩ := frAt hxD (show 0 < ps.length by omega)
    obtain ⟨v9, e9, h9⟩ := frAt hxD (show ps.length - 1 < ps.length by omega)
    dsimp only [tMakeN, tCons, tOp, tVar, tC, tNil, tSl, tPart, tCB, tUn, List.getElem?_cons_zero, List.getElem?_cons_succ]
    walk_at "go"
    refine rdIxL (.inl (.inl hx)) (at_of (j := 0) (by omega) e0) ?_
    walk_at "go"
    refine rdIxL (.inl (.inl hx)) (at_last (n := ps.length - 1) (by omega) e9) ?_
    walk_at "go"
    refine rdSlL (ys := (xs.drop 1).dropLast) (.inl (.inl hx)) (cutM (by omega)) fun p1 n1 => ?_
    have hyD : DpAll K H3 (xs.drop 1).dropLast ((cutsOf ps).map frD) := by
      rw [show (cutsOf ps).map frD = ((ps.map frD).drop 1).dropLast by unfold cutsOf; rw [List.map_dropLast, List.map_drop]]
      exact dpAll_init (dpAll_drop 1 hxD)
    generalize hys : (xs.drop 1).dropLast = ys at hyD ⊢
    have s1 := sameNew n1 (o := .lst ys)
    have hp1 : upd H3 p1 (.lst ys) p1 = some (.lst ys) := upd_same
    generalize upd H3 p1 (.lst ys) = H4 at s1 hp1 ⊢
    walk_at "go"
    refine rdListL (.inl (.inl (s1 _ _ hz))) fun s0 ns => ?_
    have s2 := s1.trans (sameNew ns (o := .lst zs))
    have hs0 : upd H4 s0 (.lst zs) s0 = some (.lst zs) := upd_same
    have hp5 := sameNew ns (o := .lst zs) _ _ hp1
    generalize upd H4 s0 (.lst zs) = H6 at s2 hs0 hp5 ⊢
    clear ns n1 s1 hp1
    have hI := hI.mono s2
    have hee := ends_eq l2
    refine ⟨rfl, rfl, fun am dx nx ndx hne => ⟨am, dx, v0, v9, p1, s0, ps[0], ps[ps.length - 1], cutsOf ps, ss, H6, rfl, SameT.late (SameT.late (UbG.SameT.refl H6) ndx) nx, nx, upd_same, h0.mono s2, h9.mono s2,
      ⟨ys, hp5, Dp.monoAll s2 _ _ hyD⟩, ⟨zs, hs0, Dp.monoAll s2 _ _ hzD⟩, by rw [cutsOf_len]; omega, by omega, fun y hy => (S.bp y (by rw [hee] at hy; exact hy)).mono (by decide), UbG.TabG.mono s2 hT1, fun ok H7 c1 s1 ys' zs' t7 ha7 ex hc7 ez hs7 nwc nws => ?_,
      fun no => absurd ⟨by rw [hee]; exact S.inc, by rw [cutsOf_len]; omega, by rw [cutsOf_len]; omega⟩ no⟩⟩
    rw [hp5] at ex
    rw [hs0] at ez
    cases ex
    cases ez
    refine ⟨rfl, ?_⟩
    have t2 : UbG.SameT H3 H7 := (UbG.sameT s2).trans t7
    have nc1 : c1 ≠ d := by
      obtain ⟨ms, hm⟩ := hI
      exact (nwc.ne hm).symm
    have ns1 : s1 ≠ d := by
      obtain ⟨ms, hm⟩ := hI
      exact (nws.ne hm).symm
    have hI := hI.monoT t7
    have hX : ThX K H7 am ps[0] ps[ps.length - 1] c1 s1 (cutsOf ps) ss := ⟨dx, v0, v9, ha7, UbG.Fr.monoT t2 h0, UbG.Fr.monoT t2 h9, ⟨ys, hc7, UbG.Dp.monoTAll t2 _ _ hyD⟩, ⟨zs, hs7, UbG.Dp.monoTAll t2 _ _ hzD⟩⟩
    have hP := hP.monoT t2
    have hSS := hSS.monoT t2
    have hTo := hTo.monoT t2
    have hT1 := t2.tab _ hT1
    obtain ⟨zs, hz, hzD⟩ := id hSS
    have lz := frs_len hzD
    refine lcOf ?_
    walk_at "it"
    walk_at "un"
    refine ⟨_, rfl, ?_⟩
    refine rdLenL (.inl (.inl hz)) ?_
    refine ⟨1, (zs.length : Int), rfl, ⟨by omega, by omega, by omega, by omega⟩, fun D nD => ?_⟩
    rw [show ((zs.length : Int) - 1).toNat = ss.length - 1 by omega]
    refine LC.range (n := ss.length - 1) (fun i H' => Same H7 H' ∧ H' D = some (.lst (((List.range i).map fun k => decide (ss.getD (k + 1) 0 < ss.getD k 0)).map V.bl))) ⟨sameNew nD, upd_same⟩ ?_ ?_
    · rintro i H11 hi ⟨s11, hD11⟩
      obtain ⟨vx, ex, hvx⟩ := frAt hzD (show i + 1 < ss.length by omega)
      obtain ⟨vy, ey, hvy⟩ := frAt hzD (show i < ss.length by omega)
      dsimp only [wipe]
      walk_at "un"
      refine ⟨rfl, ?_⟩
      dsimp only [tYes]
      refine ifBT rfl ?_
      walk_at "un"
      walk_at "go"
      refine rdIxL (.inl (.inl (s11 _ _ hz))) (at_of (j := i + 1) (by omega) ex) ?_
      walk_at "go"
      refine rdIxL (.inl (.inl (s11 _ _ hz))) (at_of (j := i) (by omega) ey) ?_
      refine ⟨_, _, _, _, 40, 40, rfl, hvx.mono s11, hvy.mono s11, S.bs _ (List.getElem_mem _), S.bs _ (List.getElem_mem _), by decide, ?_⟩
      refine ⟨_, hD11, ?_, sameLate' s11 nD, ?_⟩
      · rw [List.length_map, List.length_map, List.length_range]
        exact small1000 (by omega)
      rw [upd_same, List.range_succ, List.map_append, List.map_append]
      have g1 : ss.getD (i + 1) 0 = ss[i + 1] := getD_at0 (List.getElem?_eq_getElem _)
      have g2 : ss.getD i 0 = ss[i] := getD_at0 (List.getElem?_eq_getElem _)
      simp only [List.map_cons, List.map_nil, g1, g2]
    rintro H8 ⟨s8, hD8⟩
    refine ⟨D, _, rfl, .inl (.inl hD8), ?_⟩
    obtain ⟨c, hc, hA⟩ : ∃ c : Bool, (((List.range (ss.length - 1)).map fun k => decide (ss.getD (k + 1) 0 < ss.getD k 0)).any id) = !c ∧ (c = true ↔ ascP ss) := by
      rcases Classical.em (ascP ss) with ha | ha
      · refine ⟨true, List.any_eq_false.mpr (fun x hx => ?_), fun _ => ha, fun _ => rfl⟩
        obtain ⟨k, hk, rfl⟩ := List.mem_map.mp hx
        have := ha k (by have := List.mem_range.mp hk; omega)
        simp only [id, decide_eq_true_eq]
        exact Rat.not_lt.mpr this
      · refine ⟨false, List.any_eq_true.mpr ?_, fun z => by (cases z), fun z => absurd z ha⟩
        refine Classical.byContradiction fun z => ha fun k hk => Rat.not_lt.mp fun y => z ⟨_, List.mem_map.mpr ⟨k, List.mem_range.mpr (by omega), rfl⟩, decide_eq_true y⟩
    rw [hc]
    walk_at "go"
    rw [Bool.not_not]
    have hP := hP.mono s8
    have hSS := hSS.mono s8
    have hTo := hTo.mono s8
    have hX := hX.monoT (UbG.sameT s8)
    have hI := hI.mono s8
    have hT1 := UbG.TabG.mono s8 hT1
    clear hD8 nD hc
    refine ⟨d, rfl, hI, fun H9 vE rE s9 hI9 hE smE => ?_⟩
    have hP := ll_mv s9 hI npa hP
    have hSS := ll_mv s9 hI nsa hSS
    have hTo := ll_mv s9 hI nta hTo
    have hX := thx_mv s9 hI nc1 ns1 hX
    have hT1 := s9.tab _ hT1
    have hI := hI9
    clear s9 hI9
    obtain ⟨us, hu, huD⟩ := id hTo
    have lu := frs_len huD
    have lt : (tollsR (cutsOf ps) ss).length = ss.length := by unfold tollsR; rw [List.length_map, List.length_range]
    have bT : ∀ y ∈ tollsR (cutsOf ps) ss, Bd 94 y := bd_tolls S
    generalize hTR : tollsR (cutsOf ps) ss = tR at hTo huD lu lt bT
    walk_at "go"
    refine rdListL (.inl (.inl hu)) fun nr nn => ?_
    have s10 := sameNew nn (o := .lst us)
    have hnr : upd H9 nr (.lst us) nr = some (.lst us) := upd_same
    have nnr : nr ≠ d := (hI.ne nn).symm
    have nw9 : Nw H9 nr := Nw.of nn
    have hN : LL K (upd H9 nr (.lst us)) nr (tR.map frD) := ⟨us, hnr, Dp.monoAll s10 _ _ huD⟩
    have hI10 := hI.mono s10
    have hE10 := hE.mono s10
    generalize upd H9 nr (.lst us) = H10 at s10 hnr hN hI10 hE10 ⊢
    walk_at "go"
    refine ⟨d, (us.length : Int), rfl, hI10, by omega, fun H11 k0 s11 hI11 k00 k01 => ?_⟩
    obtain ⟨k, hk⟩ : ∃ k : Nat, k0 = (k : Int) := ⟨k0.toNat, by omega⟩
    subst hk
    have hk : k < ss.length := by omega
    have s911 : SameS [d] H9 H11 := (sameS s10).trans s11
    have hN11 := ll_mv s11 hI10 nnr hN
    have hE11 := Fr.monoS1 s11 hI10 hE10
    obtain ⟨ws, hw, hwD⟩ := id hN11
    have lw := frs_len hwD
    obtain ⟨vk, ek, hvk⟩ := frAt hwD (show k < tR.length by omega)
    walk_at "go"
    refine rdIxL (.inl (.inl hw)) (at_of (j := k) (by omega) ek) ?_
    walk_at "go"
    rename_i A1 o1 t1 g1 A2 o2 t2 g2 A3 o3 t3 g3 A4 o4 t4 g4
    have tA := ((t1.trans t2).trans t3).trans t4
    have hB : DpAll K A4 [o1, o2, o3, o4] ([Rat.divInt 1 1, Rat.divInt (-1) 1, Rat.divInt 1 5, Rat.divInt (-1) 9].map frD) :=
      .cons (Dp.mono ((t2.trans t3).trans t4) _ _ g1) (.cons (Dp.mono (t3.trans t4) _ _ g2) (.cons (Dp.mono t4 _ _ g3) (.cons g4 .nil)))
    have hI4 := hI11.mono tA
    refine rdLstH (Nat.le_of_ble_eq_true rfl) fun H12 lq s12 nl hlq => ?_
    have nlq : lq ≠ d := (hI4.ne nl).symm
    have hL : LL K H12 lq ([Rat.divInt 1 1, Rat.divInt (-1) 1, Rat.divInt 1 5, Rat.divInt (-1) 9].map frD) := ⟨_, hlq, Dp.monoAll s12 _ _ hB⟩
    have hI12 := hI4.mono s12
    walk_at "go"
    refine ⟨d, 4, rfl, hI12, by decide, fun H13 m0 s13 hI13 m00 m04 => ?_⟩
    obtain ⟨m, hm⟩ : ∃ m : Nat, m0 = (m : Int) := ⟨m0.toNat, by omega⟩
    subst hm
    have hL13 := ll_mv s13 hI12 nlq hL
    have s1113 : SameS [d] H11 H13 := (sameS (tA.trans s12)).trans s13
    have hvk13 := Fr.monoS1 s1113 hI11 hvk
    have hN13 := ll_mv s1113 hI11 nnr hN11
    obtain ⟨qs, hq, hqD⟩ := id hL13
    have lq4 := frs_len hqD
    obtain ⟨vm, em, hvm⟩ := frAt hqD (show m < [Rat.divInt 1 1, Rat.divInt (-1) 1, Rat.divInt 1 5, Rat.divInt (-1) 9].length by simp only [List.length_cons, List.length_nil]; omega)
    have bm : Bd 4 ([Rat.divInt 1 1, Rat.divInt (-1) 1, Rat.divInt 1 5, Rat.divInt (-1) 9][m]'(by simp only [List.length_cons, List.length_nil]; omega)) := by
      have z : ∀ r ∈ [Rat.divInt 1 1, Rat.divInt (-1) 1, Rat.divInt 1 5, Rat.divInt (-1) 9], Bd 4 r := by
        intro r hr
        rcases List.mem_cons.mp hr with rfl | hr
        · exact ⟨by decide, by decide⟩
        rcases List.mem_cons.mp hr with rfl | hr
        · exact ⟨by decide, by decide⟩
        rcases List.mem_cons.mp hr with rfl | hr
        · exact ⟨by decide, by decide⟩
        · rw [List.mem_singleton.mp hr]
          exact ⟨by decide, by decide⟩
      exact z _ (List.getElem_mem _)
    generalize [Rat.divInt 1 1, Rat.divInt (-1) 1, Rat.divInt 1 5, Rat.divInt (-1) 9][m]'(by simp only [List.length_cons, List.length_nil]; omega) = rm at hvm bm
    walk_at "go"
    refine rdIxL (.inl (.inl hq)) (at_of (j := m) (by simp only [List.length_cons, List.length_nil] at lq4; omega) em) ?_
    have bk : Bd 94 tR[k] := bT _ (List.getElem_mem _)
    generalize tR[k] = rk at hvk hvk13 bk
    refine ⟨_, _, _, _, 94, 4, rfl, hvk13, hvm, bk, bm, by decide, fun H14 x14 s14 h14 => ?_⟩
    have hI14 := hI13.mono s14
    obtain ⟨w4, hw4, hwD4⟩ := id (hN13.mono s14)
    have C14 : Cel K [nr, d] H14 nr (tR.map frD) := ⟨w4, hw4, Kp.ofNoLAll (ls2 ⟨_, hw4⟩ hI14) _ _ (noLs_frs tR) hwD4⟩
    walk_at "go"
    refine C14.setAt (d := frD (rk + rm)) (k := k) (List.mem_cons_self ..) rfl (by rw [frsLen]; omega) (Kp.fr (ls2 C14.ls hI14) h14) fun xs5 hxs5 C15 => ?_
    have s915 : SameS [d] H9 (upd H14 nr (.lst (xs5.set k x14))) := late_nw ((s911.trans s1113).trans (sameS s14)) nw9 (notTbl hxs5) hI.ls
    have hI15 : Ints (upd H14 nr (.lst (xs5.set k x14))) d := hI14.stay (Ne.symm nnr)
    have hN15 : LL K (upd H14 nr (.lst (xs5.set k x14))) nr ((tR.set k (rk + rm)).map frD) := by
      rw [List.map_set]
      exact (C15.done sub1 (fun z => nnr (List.mem_singleton.mp z))).out
    generalize upd H14 nr (.lst (xs5.set k x14)) = H15 at s915 hI15 hN15 ⊢
    have hP := ll_mv s915 hI npa hP
    have hSS := ll_mv s915 hI nsa hSS
    have hTo := ll_mv s915 hI nta hTo
    have hX := thx_mv s915 hI nc1 ns1 hX
    have hT1 := s915.tab _ hT1
    have hE := Fr.monoS1 s915 hI hE
    have bE : Bd 8 rE := smE.bd (by decide) (by decide)
    have bN : ∀ y ∈ tR.set k (rk + rm), Bd 110 y := fun y hy => by
      rcases List.mem_or_eq_of_mem_set hy with z | z
      · exact (bT y z).mono (by decide)
      · rw [z]
        exact (bd_add bk bm).mono (by decide)
    have lN : (tR.set k (rk + rm)).length = ss.length := by rw [List.length_set]; exact lt
    generalize tR.set k (rk + rm) = nR at hN15 bN lN
    have hI := hI15
    clear C15 C14 h14 hxs5 hI14 hI13 hI12 hI11 hI10 hI4 hN13 hN11 hN hvk13 hvk
    obtain ⟨u5, hu5, huD5⟩ := id hTo
    have lu5 := frs_len huD5
    walk_at "go"
    refine lcOf ?_
    walk_at "it"
    walk_at "un"
    refine ⟨_, rfl, ta, rfl, ⟨_, .inl (.inl hu5)⟩, fun D1 nD1 => ?_⟩
    have hD1 : D1 ∉ [d] := ne1 hI (Nw.of nD1)
    refine LC.list (xs := u5) (fun i H' => Same H15 H' ∧ Cel K [D1, d] H' D1 (((tR.map (· + rE)).take i).map frD)) ⟨sameNew nD1, Cel.new⟩ (fun i H' _ ⟨e, _⟩ => .inl (.inl (e _ _ hu5))) ?_ ?_
    · rintro i x H16 hx ⟨s16, C16⟩
      obtain ⟨r, er, hr⟩ := frs_at huD5 hx
      have hi := (List.getElem?_eq_some_iff.mp er).1
      dsimp only [wipe]
      walk_at "un"
      refine ⟨rfl, ?_⟩
      dsimp only [tYes]
      refine ifBT rfl ?_
      walk_at "un"
      walk_at "go"
      refine ⟨_, _, _, _, 94, 8, rfl, hr.mono s16, hE.mono s16, bT r (List.mem_of_getElem? er), bE, by decide, fun H17 y s17 hy => ?_⟩
      have C17 := C16.mono s17
      obtain ⟨acc, e1, e2, C18⟩ := C17.turn (d := frD (r + rE)) (List.mem_cons_self ..) (by rw [frsLen, List.length_take, List.length_map]; omega) (Kp.fr (ls2 C17.ls (hI.mono (s16.trans s17))) hy)
      refine ⟨acc, e1, e2, sameLate' (s16.trans s17) nD1, ?_⟩
      rw [List.take_succ, List.getElem?_map, er, List.map_append]
      exact C18
    rintro H16 ⟨s16, C16⟩
    rw [List.take_of_length_le (by rw [List.length_map]; omega)] at C16
    have h1L : LL K H16 D1 ((tR.map (· + rE)).map frD) := (C16.done sub1 hD1).out
    have nD1d : D1 ≠ d := fun z => hD1 (List.mem_singleton.mpr z)
    have hP := hP.mono s16
    have hSS := hSS.mono s16
    have hTo := hTo.mono s16
    have hN15 := hN15.mono s16
    have hX := hX.monoT (UbG.sameT s16)
    have hI := hI.mono s16
    have hT1 := UbG.TabG.mono s16 hT1
    have hu6 := s16 _ _ hu5
    clear C16
    walk_at "go"
    refine lcOf ?_
    walk_at "it"
    walk_at "un"
    refine ⟨_, rfl, ta, rfl, ⟨_, .inl (.inl hu6)⟩, fun D2 nD2 => ?_⟩
    have hD2 : D2 ∉ [d] := ne1 hI (Nw.of nD2)
    refine LC.list (xs := u5) (fun i H' => SameS [d] H16 H' ∧ Ints H' d ∧ ∃ rs, Cel K [D2, d] H' D2 (rs.map frD) ∧ rs.length = i ∧ ∀ r ∈ rs, Bd 8 r) ⟨sameS (sameNew nD2), hI.mono (sameNew nD2), [], Cel.new, rfl, fun _ h => absurd h List.not_mem_nil⟩
      (fun i H' _ ⟨e, _⟩ => .inl (.inl (e.but _ _ (fun z => nta (List.mem_singleton.mp z)) hu6 (fun _ z => by cases z)))) ?_ ?_
    · rintro i x H17 hx ⟨s17, hI17, rs, C17, lrs, brs⟩
      have hi := (List.getElem?_eq_some_iff.mp hx).1
      dsimp only [wipe]
      walk_at "un"
      refine ⟨rfl, ?_⟩
      dsimp only [tYes]
      refine ifBT rfl ?_
      walk_at "un"
      walk_at "go"
      refine ⟨d, rfl, hI17, fun H18 v r s18 hI18 hv sm => ?_⟩
      have C18 := C17.monoS s18 sub1 hD2
      obtain ⟨acc, e1, e2, C19⟩ := C18.turn (d := frD r) (List.mem_cons_self ..) (by rw [frsLen]; omega) (Kp.fr (ls2 C18.ls hI18) hv)
      refine ⟨acc, e1, e2, (s17.trans s18).late nD2, hI18.stay (fun z => hD2 (List.mem_singleton.mpr z.symm)), rs ++ [r], by rw [List.map_append]; exact C19, by rw [List.length_append, lrs]; rfl, fun x hx => ?_⟩
      rcases List.mem_append.mp hx with e | e
      · exact brs x e
      · rw [List.mem_singleton.mp e]
        exact sm.bd (by decide) (by decide)
    rintro H17 ⟨s17, hI17, rs, C17, lrs, brs⟩
    have h2L : LL K H17 D2 (rs.map frD) := (C17.done sub1 hD2).out
    have nD2d : D2 ≠ d := fun z => hD2 (List.mem_singleton.mpr z)
    have h1L := ll_mv s17 hI nD1d h1L
    have hP := ll_mv s17 hI npa hP
    have hSS := ll_mv s17 hI nsa hSS
    have hTo := ll_mv s17 hI nta hTo
    have hN15 := ll_mv s17 hI nnr hN15
    have hX := thx_mv s17 hI nc1 ns1 hX
    have hT1 := s17.tab _ hT1
    have hI := hI17
    clear C17
    walk_at "go"
    refine rdLstH (Nat.le_of_ble_eq_true rfl) fun H18 pl s18 npl hpl => ?_
    have npl : pl ≠ d := (hI.ne npl).symm
    have hI18 := hI.mono s18
    walk_at "go"
    refine ⟨d, pa, ps, ss, rfl, hI18, ll_w hI18 npa (hP.mono s18), S, fun H19 np ns s19 hI19 hNS hns lns => ?_⟩
    have hpl := s19.but _ _ (fun z => npl (List.mem_singleton.mp z)) hpl (fun _ z => by cases z)
    have h1L := ll_mv s19 hI18 nD1d (h1L.mono s18)
    have h2L := ll_mv s19 hI18 nD2d (h2L.mono s18)
    have hP := ll_mv s19 hI18 npa (hP.mono s18)
    have hSS := ll_mv s19 hI18 nsa (hSS.mono s18)
    have hTo := ll_mv s19 hI18 nta (hTo.mono s18)
    have hN15 := ll_mv s19 hI18 nnr (hN15.mono s18)
    have hX := thx_mv s19 hI18 nc1 ns1 (hX.monoT (UbG.sameT s18))
    have hT1 := s19.tab _ (UbG.TabG.mono s18 hT1)
    have hNS := hNS.out
    have l1 : (tR.map (· + rE)).length = ss.length := by rw [List.length_map]; exact lt
    have lr : rs.length = ss.length := by rw [lrs]; omega
    have b1 : ∀ y ∈ tR.map (· + rE), Bd 110 y := fun y hy => by
      obtain ⟨z, hz, rfl⟩ := List.mem_map.mp hy
      exact (bd_add (bT z hz) bE).mono (by decide)
    walk_at "un"
    refine forOf ?_
    walk_at "it"
    walk_at "un"
    walk_at "go"
    refine ⟨by decide, by decide, ?_⟩
    have lP : ss.length + 1 = ps.length := l3
    have plan : ∀ tn, tn < 4 → ∃ (qa : Addr) (ys : List Rat), [V.ref ta, V.ref D1, V.ref nr, V.ref D2][tn]? = some (.ref qa) ∧ LL K H19 qa (ys.map frD) ∧ ys.length = ss.length ∧ (∀ y ∈ ys, Bd 110 y) ∧ (tn < 2 → ascP ss → noLie ps ss ys) := by
      intro tn htn
      match tn, htn with
      | 0, _ => exact ⟨ta, tR, rfl, hTo, lt, fun y hy => (bT y hy).mono (by decide), fun _ ha => tolls_noLie (e := 0) S.inc lP ha (fun k hk => by rw [← hTR, tollsR_at hk, Rat.add_zero])⟩
      | 1, _ => exact ⟨D1, tR.map (· + rE), rfl, h1L, l1, b1, fun _ ha => tolls_noLie (e := rE) S.inc lP ha (fun k hk => by
          rw [List.getD_eq_getElem?_getD, List.getElem?_map, List.getElem?_eq_getElem (show k < tR.length by omega)]
          have z : tR.getD k 0 = tollN (cutsOf ps) ss k := by rw [← hTR, tollsR_at hk]
          rw [getD_at0 (List.getElem?_eq_getElem (show k < tR.length by omega))] at z
          show tR[k] + rE = _
          rw [z])⟩
      | 2, _ => exact ⟨nr, nR, rfl, hN15, lN, bN, fun z => absurd z (by decide)⟩
      | 3, _ => exact ⟨D2, rs, rfl, h2L, lr, fun y hy => (brs y hy).mono (by decide), fun z => absurd z (by decide)⟩
    have bee : ∀ x ∈ ps[0] :: cutsOf ps ++ [ps[ps.length - 1]], Bd 23 x := fun x hx => S.bp2 x (by rw [hee] at hx; exact hx)
    refine FL.range (n := 4) (fun i σ' H' => ∃ o12 o13 o14 o15 o16 o17 o18, σ' = [some (.ref ad), some (.ref d), some (.ref pa), some (.ref sa), some (.ref ta), some (.ref am), some (.int (k : Int)), some (.bl c), some vE, some (.ref nr), some (.ref pl), some (.ref np), o12, o13, o14, o15, o16, o17, o18, none] ∧ Same H19 H') ⟨_, _, _, _, _, _, _, rfl, fun _ _ h => h⟩ ?_ ?_
    · rintro tn σ' H20 htn ⟨o12, o13, o14, o15, o16, o17, o18, rfl, s20⟩
      obtain ⟨qa, ys, eqa, hY, ly, by', hM⟩ := plan tn htn
      walk_at "un"
      walk_at "go"
      refine rdIxL (.inl (.inl (s20 _ _ hpl))) (at_of (j := tn) (by omega) eqa) ?_
      walk_at "go"
      obtain ⟨u20, hu20, huD20⟩ := id (hY.mono s20)
      refine rdListL (.inl (.inl hu20)) fun gv ng => ?_
      have s21 := s20.trans (sameNew ng (o := .lst u20))
      have hgv : LL K (upd H20 gv (.lst u20)) gv (ys.map frD) := ⟨u20, upd_same, Dp.monoAll (sameNew ng) _ _ huD20⟩
      generalize upd H20 gv (.lst u20) = H21 at s21 hgv ⊢
      clear ng hu20 huD20 s20
      have hX21 := hX.monoT (UbG.sameT s21)
      obtain ⟨dx1, w1, w2, ha1, _⟩ := id hX21
      dsimp only [tMeth, tCons, tVar, tNil, List.getElem?_cons_zero, List.getElem?_cons_succ]
      walk_at "go"
      refine ⟨am, dx1, _, rfl, ha1, by rfl, ?_⟩
      refine ⟨.ref gv, rfl, ?_⟩
      refine ⟨am, gv, _, _, c1, s1, cutsOf ps, ss, ys, 110, rfl, hX21, hgv, by rw [cutsOf_len]; omega, by omega, by omega, S.bs2, bee, by', by decide, by rw [hee]; exact S.inc, fun _ nl H22 s22 => ?_, fun _ i j x H22 t v1 v2 v3 hi hj x1 x2 x3 bx s22 ht g1 g2 g3 => ?_, fun no => absurd ly no⟩
      · rw [hee] at nl
        have hasc := noLie_asc S.inc (by omega) nl
        have hct := hA.mpr hasc
        subst hct
        have s22' := s21.trans s22
        have hY2 := hY.mono s22'
        walk_at "go"
        intro U hU
        have rest : U [some (.ref ad), some (.ref d), some (.ref pa), some (.ref sa), some (.ref ta), some (.ref am), some (.int (k : Int)), some (.bl true), some vE, some (.ref nr), some (.ref pl), some (.ref np), some (.int (0 + (tn : Int))), some (.ref qa), some (.ref gv), some .non, o16, o17, o18, none] H22 := by
          refine hU _ _ ?_
          walk_at "un"
          walk_at "go"
          refine ⟨rfl, ?_⟩
          walk_at "go"
          refine ifBF rfl ?_
          refine forOf ?_
          walk_at "it"
          walk_at "un"
          walk_at "go"
          obtain ⟨nz, hnz, hnzD⟩ := id hNS
          obtain ⟨xs, hx, hxD⟩ := id hP
          refine ⟨⟨_, .inl (.inl (s22' _ _ hnz))⟩, ?_⟩
          refine FL.list (xs := nz) (fun i σ' H' => ∃ o16 o17 o18, σ' = [some (.ref ad), some (.ref d), some (.ref pa), some (.ref sa), some (.ref ta), some (.ref am), some (.int (k : Int)), some (.bl true), some vE, some (.ref nr), some (.ref pl), some (.ref np), some (.int (0 + (tn : Int))), some (.ref qa), some (.ref gv), some .non, o16, o17, o18, none] ∧ Same H22 H') ⟨_, _, _, rfl, fun _ _ h => h⟩ (fun i σ' H' _ ⟨_, _, _, _, e⟩ => .inl (.inl (e _ _ (s22' _ _ hnz)))) ?_ ?_
          · rintro i v σ' H23 hv ⟨o16, o17, o18, rfl, s23⟩
            obtain ⟨x, er, hvx⟩ := frs_at hnzD hv
            have s1923 := s22'.trans s23
            obtain ⟨z1, z2, z3⟩ := hns x (List.mem_of_getElem? er)
            have bx : Bd 300 x := z3.mono (by decide)
            obtain ⟨y1, y2, y3⟩ := piece_in S.inc l2 z1 z2
            walk_at "un"
            walk_at "go"
            refine ⟨pa, sa, qa, v, v, x, x, ps, ss, ys, rfl, hP.mono s1923, hSS.mono s1923, hY.mono s1923, S, ly, by', hvx.mono s1923, hvx.mono s1923, bx, bx, fun H24 ov s24 hov => ?_⟩
            walk_at "un"
            refine forOf ?_
            walk_at "it"
            walk_at "un"
            walk_at "go"
            refine ⟨⟨_, .inl (.inl ((s1923.trans s24) _ _ hx))⟩, ?_⟩
            refine FL.list (xs := xs) (fun j σ' H' => ∃ o18, σ' = [some (.ref ad), some (.ref d), some (.ref pa), some (.ref sa), some (.ref ta), some (.ref am), some (.int (k : Int)), some (.bl true), some vE, some (.ref nr), some (.ref pl), some (.ref np), some (.int (0 + (tn : Int))), some (.ref qa), some (.ref gv), some .non, some v, some ov, o18, none] ∧ Same H24 H') ⟨_, rfl, fun _ _ h => h⟩ (fun i σ' H' _ ⟨_, _, e⟩ => .inl (.inl (e _ _ ((s1923.trans s24) _ _ hx)))) ?_ ?_
            · rintro j u σ' H25 hu ⟨o18, rfl, s25⟩
              obtain ⟨t, et, hut⟩ := frs_at hxD hu
              have s1925 := (s1923.trans s24).trans s25
              have bt : Bd 300 t := (S.bp t (List.mem_of_getElem? et)).mono (by decide)
              walk_at "un"
              walk_at "go"
              refine ⟨pa, sa, qa, v, u, x, t, ps, ss, ys, rfl, hP.mono s1925, hSS.mono s1925, hY.mono s1925, S, ly, by', hvx.mono s1925, hut.mono s1925, bx, bt, fun H26 o2 s26 h26 => ?_⟩
              refine ⟨_, _, _, _, 414, 414, rfl, hov.mono (s25.trans s26), h26, bd_has S ly by' bx, bd_has S ly by' bx, by decide, ?_⟩
              walk_at "go"
              have hj := pieceR_le (ps := ps) (r := t)
              refine ifD (fun z => absurd z (Rat.not_lt.mpr (has_le (noLie_in nl (by omega) (by omega) y2 y3)))) (fun _ => ?_)
              exact ⟨_, rfl, s25.trans s26⟩
            · rintro σ' H25 ⟨o18, rfl, s25⟩
              exact ⟨_, _, _, rfl, (s23.trans s24).trans s25⟩
          · rintro σ' H23 ⟨o16, o17, o18, rfl, s23⟩
            exact ⟨_, _, _, _, _, _, _, rfl, s22'.trans s23⟩
        walk_at "un"
        walk_at "go"
        refine rdNeSame (hgv.mono s22).dp hY2.dp (shaped_frs _) (canLay_frs _) ?_
        walk_at "go"
        refine ifBF rfl ?_
        walk_at "go"
        refine ifD (fun _ => ?_) (fun _ => ?_)
        · walk_at "go"
          refine rdIsN (K := K) (d := .none) .non ?_
          refine ⟨_, rfl, rdNeB ?_⟩
          walk_at "go"
          refine ifBF rfl ?_
          walk_at "go"
          refine rdIsN (K := K) (d := .none) .non ?_
          walk_at "go"
          exact ifBT rfl ⟨_, rfl, true, rfl, ifBF rfl rest⟩
        · walk_at "go"
          refine ifBF rfl ?_
          walk_at "go"
          refine rdIsN (K := K) (d := .none) .non ?_
          walk_at "go"
          exact ifBT rfl ⟨_, rfl, true, rfl, ifBF rfl rest⟩
      · rw [hee] at x1 x2 g2
        have s22' := s21.trans s22
        have hY2 := hY.mono s22'
        have hDt : Dp K H22 (.ref t) (.tuple [frD x, frD (ps.getD j 0), frD (gainR ss ys i j x)]) := .tup ht (.cons g1 (.cons g2 (.cons g3 .nil)))
        have hno : ¬(tn < 2 ∧ c = true) := fun ⟨z1, z2⟩ => absurd (noLie_in (hM z1 (hA.mp z2)) hi hj x1 (Rat.le_of_lt x2)) (Rat.not_le.mpr x3)
        walk_at "go"
        intro U hU
        have rest : U [some (.ref ad), some (.ref d), some (.ref pa), some (.ref sa), some (.ref ta), some (.ref am), some (.int (k : Int)), some (.bl c), some vE, some (.ref nr), some (.ref pl), some (.ref np), some (.int (0 + (tn : Int))), some (.ref qa), some (.ref gv), some (.ref t), o16, o17, o18, none] H22 := by
          refine hU _ _ ?_
          walk_at "un"
          walk_at "go"
          refine ifBT rfl ?_
          walk_at "go"
          refine ⟨pa, sa, qa, t, v1, v2, v3, x, i, j, ps, ss, ys, rfl, hP.mono s22', hSS.mono s22', hY2, S, ly, by', ht, g1, g2, g3, hi, hj, x1, x2, x3, bx.mono (by decide), fun H23 s23 => ?_⟩
          walk_at "go"
          refine ifBF rfl ?_
          exact ⟨_, _, _, _, _, _, _, rfl, s22'.trans s23⟩
        walk_at "un"
        walk_at "go"
        refine rdNeSame (hgv.mono s22).dp hY2.dp (shaped_frs _) (canLay_frs _) ?_
        walk_at "go"
        refine ifBF rfl ?_
        walk_at "go"
        refine ifD (fun hlt => ?_) (fun hge => ?_)
        · have hcf : c = false := by
            cases c
            · rfl
            · exact absurd ⟨by omega, rfl⟩ hno
          subst hcf
          walk_at "go"
          refine rdNeB ?_
          walk_at "go"
          refine ifBF rfl ?_
          walk_at "go"
          refine ifBF rfl ?_
          exact ifBF rfl rest
        · walk_at "go"
          refine ifBF rfl ?_
          walk_at "go"
          refine ifBF rfl ?_
          exact ifBF rfl rest
    · rintro σ' H20 ⟨o12, o13, o14, o15, o16, o17, o18, rfl, s20⟩
      walk_at "un"
      walk_at "go"
      rename_i H21 o21 s21 h21
      have h21 : Fr K H21 o21 0 := h21
      refine rdLstH line1 fun H22 l22 s22 n22 h22 => ?_
      have s1922 := (s20.trans s21).trans s22
      obtain ⟨u, hu, huD⟩ := id (hTo.mono s1922)
      have lu2 := frs_len huD
      refine ⟨ta, l22, u, [o21], rfl, rfl, hu, h22, small_line (by simp only [List.length_cons, List.length_nil]; omega), fun p4 n4 => ?_⟩
      have s23 := sameNew n4 (o := .lst (u ++ [o21]))
      have hp4 : upd H22 p4 (.lst (u ++ [o21])) p4 = some (.lst (u ++ [o21])) := upd_same
      have s1923 := s1922.trans s23
      have hU4 := Dp.monoAll s23 _ _ huD
      have h24 := (h21.mono s22).mono s23
      generalize upd H22 p4 (.lst (u ++ [o21])) = H23 at s1923 hp4 hU4 h24 ⊢
      refine ⟨am, p4, _, _, c1, s1, cutsOf ps, ss, tR ++ [0], 110, rfl, hX.monoT (UbG.sameT s1923), ⟨_, hp4, by rw [List.map_append]; exact dpAll_snoc hU4 h24⟩, by rw [cutsOf_len]; omega, by omega, by rw [List.length_append]; simp only [List.length_cons, List.length_nil]; omega, S.bs2, bee,
        fun x hx => ?_, by decide, by rw [hee]; exact S.inc, by rw [List.length_append]; simp only [List.length_cons, List.length_nil]; omega, fun H24 s24 => ?_⟩
      · rcases List.mem_append.mp hx with hx | hx
        · exact (bT x hx).mono (by decide)
        · rw [List.mem_singleton.mp hx]
          exact bd_zero.mono (by decide)
      have t24 := (UbG.sameT s1923).trans s24
      obtain ⟨u2, hu2, huD2⟩ := id (hTo.monoT t24)
      have lu3 := frs_len huD2
      walk_at "go"
      refine ifBT rfl ?_
      walk_at "go"
      refine rdSlL (ys := u2.dropLast) (.inl (.inl hu2)) (cutI (by omega)) fun p9 n9 => ?_
      have hp9 : upd H24 p9 (.lst u2.dropLast) p9 = some (.lst u2.dropLast) := upd_same
      have s25 := sameNew n9 (o := .lst u2.dropLast)
      have hU9 := Dp.monoAll s25 _ _ huD2
      have t25 := t24.trans (UbG.sameT s25)
      generalize upd H24 p9 (.lst u2.dropLast) = H25 at hp9 hU9 t25 ⊢
      refine ⟨am, p9, _, _, c1, s1, cutsOf ps, ss, tR.dropLast, 110, rfl, hX.monoT t25, ⟨_, hp9, by rw [List.map_dropLast]; exact dpAll_init hU9⟩, by rw [cutsOf_len]; omega, by omega, by rw [List.length_dropLast]; omega, S.bs2, bee,
        fun x hx => (bT x (List.dropLast_subset _ hx)).mono (by decide), by decide, by rw [hee]; exact S.inc, by rw [List.length_dropLast]; omega, fun H26 s26 => ?_⟩
      exact q _
end
/-! ### the head: what the top holds, by names -/
def d_InvalidThresholds___init__ : He.DefD := ⟨("InvalidThresholds", some "__init__"), "__init__", "InvalidThresholds.__init__", defArgs s_InvalidThresholds___init__, defBody s_InvalidThresholds___init__, defScope s_InvalidThresholds___init__, [], []⟩
def d_make : He.DefD := ⟨("make", none), "make", "make", defArgs s_make, defBody s_make, defScope s_make, [.int 1], []⟩
def d_add : He.DefD := ⟨("add", none), "add", "add", defArgs s_add, defBody s_add, defScope s_add, [], []⟩
def d_subtract : He.DefD := ⟨("subtract", none), "subtract", "subtract", defArgs s_subtract, defBody s_subtract, defScope s_subtract, [], []⟩
def d_multiply : He.DefD := ⟨("multiply", none), "multiply", "multiply", defArgs s_multiply, defBody s_multiply, defScope s_multiply, [], []⟩
def d_divide : He.DefD := ⟨("divide", none), "divide", "divide", defArgs s_divide, defBody s_divide, defScope s_divide, [], []⟩
def d_sign : He.DefD := ⟨("sign", none), "sign", "sign", defArgs s_sign, defBody s_sign, defScope s_sign, [], []⟩
def d_compare : He.DefD := ⟨("compare", none), "compare", "compare", defArgs s_compare, defBody s_compare, defScope s_compare, [], []⟩
def d__law_mix : He.DefD := ⟨("_law_mix", none), "_law_mix", "_law_mix", defArgs s__law_mix, defBody s__law_mix, defScope s__law_mix, [], []⟩
def d__law_numbers : He.DefD := ⟨("_law_numbers", none), "_law_numbers", "_law_numbers", defArgs s__law_numbers, defBody s__law_numbers, defScope s__law_numbers, [], []⟩
def d__law_take : He.DefD := ⟨("_law_take", none), "_law_take", "_law_take", defArgs s__law_take, defBody s__law_take, defScope s__law_take, [], []⟩
def d__law_lowest : He.DefD := ⟨("_law_lowest", none), "_law_lowest", "_law_lowest", defArgs s__law_lowest, defBody s__law_lowest, defScope s__law_lowest, [], []⟩
def d__law_fraction : He.DefD := ⟨("_law_fraction", none), "_law_fraction", "_law_fraction", defArgs s__law_fraction, defBody s__law_fraction, defScope s__law_fraction, [], []⟩
def d__law_plus : He.DefD := ⟨("_law_plus", none), "_law_plus", "_law_plus", defArgs s__law_plus, defBody s__law_plus, defScope s__law_plus, [], []⟩
def d__law_times : He.DefD := ⟨("_law_times", none), "_law_times", "_law_times", defArgs s__law_times, defBody s__law_times, defScope s__law_times, [], []⟩
def d__law_less : He.DefD := ⟨("_law_less", none), "_law_less", "_law_less", defArgs s__law_less, defBody s__law_less, defScope s__law_less, [], []⟩
def d__law_minus : He.DefD := ⟨("_law_minus", none), "_law_minus", "_law_minus", defArgs s__law_minus, defBody s__law_minus, defScope s__law_minus, [], []⟩
def d_Thresholds___init__ : He.DefD := ⟨("Thresholds", some "__init__"), "__init__", "Thresholds.__init__", defArgs s_Thresholds___init__, defBody s_Thresholds___init__, defScope s_Thresholds___init__, [], []⟩
def d__gain : He.DefD := ⟨("_gain", none), "_gain", "_gain", defArgs s__gain, defBody s__gain, defScope s__gain, [], []⟩
def d__gainer : He.DefD := ⟨("_gainer", none), "_gainer", "_gainer", defArgs s__gainer, defBody s__gainer, defScope s__gainer, [], []⟩
def d_Thresholds_lie : He.DefD := ⟨("Thresholds", some "lie"), "lie", "Thresholds.lie", defArgs s_Thresholds_lie, defBody s_Thresholds_lie, defScope s_Thresholds_lie, [], []⟩
def d__law_steps : He.DefD := ⟨("_law_steps", none), "_law_steps", "_law_steps", defArgs s__law_steps, defBody s__law_steps, defScope s__law_steps, [], []⟩
def d__law_piece : He.DefD := ⟨("_law_piece", none), "_law_piece", "_law_piece", defArgs s__law_piece, defBody s__law_piece, defScope s__law_piece, [], []⟩
def d__law_has : He.DefD := ⟨("_law_has", none), "_law_has", "_law_has", defArgs s__law_has, defBody s__law_has, defScope s__law_has, [], []⟩
def d__law_tolls : He.DefD := ⟨("_law_tolls", none), "_law_tolls", "_law_tolls", defArgs s__law_tolls, defBody s__law_tolls, defScope s__law_tolls, [], []⟩
def d__law_refused : He.DefD := ⟨("_law_refused", none), "_law_refused", "_law_refused", defArgs s__law_refused, defBody s__law_refused, defScope s__law_refused, [], []⟩
def d__law_numbers_in : He.DefD := ⟨("_law_numbers_in", none), "_law_numbers_in", "_law_numbers_in", defArgs s__law_numbers_in, defBody s__law_numbers_in, defScope s__law_numbers_in, [], []⟩
def d__law_lie_right : He.DefD := ⟨("_law_lie_right", none), "_law_lie_right", "_law_lie_right", defArgs s__law_lie_right, defBody s__law_lie_right, defScope s__law_lie_right, [], []⟩
def d_law : He.DefD := ⟨("law", none), "law", "law", defArgs s_law, defBody s_law, defScope s_law, [], []⟩
def fn : List He.DefD := [d_make, d_add, d_subtract, d_multiply, d_divide, d_sign, d_compare, d__law_mix, d__law_numbers, d__law_take, d__law_lowest, d__law_fraction, d__law_plus, d__law_times, d__law_less, d__law_minus, d_Thresholds___init__, d__gain, d__gainer, d_Thresholds_lie, d__law_steps, d__law_piece, d__law_has, d__law_tolls, d__law_refused, d__law_numbers_in, d__law_lie_right, d_law]
def fs : List He.DefD := [d_InvalidThresholds___init__]
abbrev fileS : Str := PySem.Challenge.pw_unbent_k43_whole_lies_of_one_number.main.file
def fa : List He.Fa := ([.glo "make", .glo "add", .glo "subtract", .glo "multiply", .glo "divide", .glo "sign", .glo "compare", .glo "_law_mix", .glo "_law_numbers", .glo "_law_take", .glo "_law_lowest", .glo "_law_fraction", .glo "_law_plus", .glo "_law_times", .glo "_law_less", .glo "_law_minus", .glo "_gain", .glo "_gainer", .glo "_law_steps", .glo "_law_piece", .glo "_law_has", .glo "_law_tolls", .glo "_law_refused", .glo "_law_numbers_in", .glo "_law_lie_right", .glo "law", .glo "InvalidThresholds", .glo "Thresholds", .cls "Thresholds", .mkr "Thresholds"] : List He.Fa) ++ ([.noat "InvalidThresholds" "reason", .noat "Thresholds" "low", .noat "Thresholds" "high", .noat "Thresholds" "cuts", .noat "Thresholds" "shares", .meth "Thresholds" "lie", .free "abs", .free "any", .free "enumerate", .free "int", .free "isinstance", .free "len", .free "list", .free "range", .free "super", .free "tuple", .free "zip", .glo "ZeroDenominator", .exc "ZeroDenominator", .exm "InvalidThresholds" "InvalidThresholds" true, .int "_MOST_CUTS" 7] : List He.Fa)
def ex (K : PySem.W.Frag) : Bool := (He.eqO (PySem.W.nsIn K mainGlobals "gcd") (some (some (.builtin "math.gcd"))) && (UbC.oexB K (He.ga K "InvalidThresholds") && (UbS.supDefB K fileS d_InvalidThresholds___init__ && (UbS.supB K (He.ga K "InvalidThresholds") && true))))
def tf : List He.Defn := [("Thresholds", some "__init__")]
abbrev R : PySem.W.OpenRow := PySem.W.OpenLaw.row PySem.Challenge.rw_unbent_k43_whole_lies_of_one_number
abbrev loose : List Str := (["gcd", "_wall", "UnbentError", "InvalidThresholds", "ZeroDenominator", "make", "add", "subtract", "multiply", "divide", "sign", "compare", "_MOST_CUTS", "Thresholds", "_gain", "_gainer", "_law_mix", "_law_numbers", "_law_take", "_law_fraction", "_law_lowest", "_law_plus", "_law_times", "_law_less", "_law_dot", "_law_minus", "_law_steps", "_law_piece", "_law_has", "_law_tolls"] : List Str) ++ (["_law_refused", "_law_numbers_in", "_law_lie_right"] : List Str)
abbrev hk : PySem.W.Hook := UbS.hookS 5 fa fn tf fs ex
def ob (s : PySem.W.SharedT) : UbS.AlS := UbS.obsS 5 fa fn tf fs ex (HandSHeadRun.getT s)
theorem ob_eq (s : PySem.W.SharedT) : ob s = hk.obs s.abs := UbS.obsS_eq (HandSHeadRun.getT_eq s)
theorem run (w : World) : HandSHeadRun.RunEqI R (PySem.W.view R.prog [0, 37]) hk ob 4000 loose w := by
  unfold HandSHeadRun.RunEqI
  kernel_rfl
theorem facts {w : World} {K : PySem.W.Frag} {h : Heap} {mg : Str → Option Value} {f : Addr} (X : K.In h) (G : h.Ns mainGlobals mg) (hfa : mg ("law" : Str) = some (.ref f)) (c0 : UbS.SaysS fa fn tf fs ex w h K) (P : Program) (hfile : (P.main.file == fileS) = true) (htop : (P.main.scope.names.lookup ("super" : Str)).isSome = false) :
    ∃ fd : FuncData, (∀ (s : Shared) (v : Value), BindsTo s fd ⟨[v], []⟩ [("script", v)]) ∧ ∀ base : Heap, K.In base → base.Ns mainGlobals mg → (∀ p ∈ tf, GxR.TabB base mg (He.cT K p).1 (He.cT K p).2) → FnOk P w K mg base (L2.CX P w) 7 f fd ["script"] (sp_law K) := by
  have c := c0.x
  have cd := c.t.d
  have cm := c.more
  unfold ex at cm
  obtain ⟨cm0, cm⟩ := He.ba cm
  obtain ⟨cm1, cm⟩ := He.ba cm
  obtain ⟨cm2, cm⟩ := He.ba cm
  obtain ⟨cm3, cm⟩ := He.ba cm
  have T : Tx K mg := { n_abs := He.free_ok X G (cd.fact 36 rfl), n_any := He.free_ok X G (cd.fact 37 rfl), n_enumerate := He.free_ok X G (cd.fact 38 rfl), n_int := He.free_ok X G (cd.fact 39 rfl), n_isinstance := He.free_ok X G (cd.fact 40 rfl), n_len := He.free_ok X G (cd.fact 41 rfl), n_list := He.free_ok X G (cd.fact 42 rfl), n_range := He.free_ok X G (cd.fact 43 rfl), n_super := He.free_ok X G (cd.fact 44 rfl), n_tuple := He.free_ok X G (cd.fact 45 rfl), n_zip := He.free_ok X G (cd.fact 46 rfl), g_gcd := PySem.W.mg_of X G (He.eqO_ok cm0), c__MOST_CUTS := He.int_ok X G (cd.fact 50 rfl), e_ZeroDenominator := ⟨He.glo_ok X G (cd.fact 47 rfl), (He.exc_ok (cd.fact 48 rfl)).1, (He.exc_ok (cd.fact 48 rfl)).2.1, (He.exc_ok (cd.fact 48 rfl)).2.2.1, (He.exc_ok (cd.fact 48 rfl)).2.2.2⟩, m_InvalidThresholds_InvalidThresholds := He.exm_ok (cd.fact 49 rfl), gc_InvalidThresholds := He.glo_ok X G (cd.fact 26 rfl), gc_Thresholds := He.glo_ok X G (cd.fact 27 rfl), x_InvalidThresholds := UbC.oexB_ok cm1, cl_Thresholds := He.cls_ok (cd.fact 28 rfl), na_InvalidThresholds_reason := He.noat_ok (cd.fact 30 rfl), na_Thresholds_low := He.noat_ok (cd.fact 31 rfl), na_Thresholds_high := He.noat_ok (cd.fact 32 rfl), na_Thresholds_cuts := He.noat_ok (cd.fact 33 rfl), na_Thresholds_shares := He.noat_ok (cd.fact 34 rfl) }
  obtain ⟨fd_InvalidThresholds___init__, F_InvalidThresholds___init__⟩ := UbS.funS_of (c0.def_ 0 (d := d_InvalidThresholds___init__) rfl) cm2
  have B_InvalidThresholds___init__ := UbS.supB_ok cm3
  obtain ⟨fd_make, F_make⟩ := cd.def_ 0 (d := d_make) rfl
  have m_make := He.glo_ok X G (cd.fact 0 (f := .glo "make") rfl)
  obtain ⟨fd_add, F_add⟩ := cd.def_ 1 (d := d_add) rfl
  have m_add := He.glo_ok X G (cd.fact 1 (f := .glo "add") rfl)
  obtain ⟨fd_subtract, F_subtract⟩ := cd.def_ 2 (d := d_subtract) rfl
  have m_subtract := He.glo_ok X G (cd.fact 2 (f := .glo "subtract") rfl)
  obtain ⟨fd_multiply, F_multiply⟩ := cd.def_ 3 (d := d_multiply) rfl
  have m_multiply := He.glo_ok X G (cd.fact 3 (f := .glo "multiply") rfl)
  obtain ⟨fd_divide, F_divide⟩ := cd.def_ 4 (d := d_divide) rfl
  have m_divide := He.glo_ok X G (cd.fact 4 (f := .glo "divide") rfl)
  obtain ⟨fd_sign, F_sign⟩ := cd.def_ 5 (d := d_sign) rfl
  have m_sign := He.glo_ok X G (cd.fact 5 (f := .glo "sign") rfl)
  obtain ⟨fd_compare, F_compare⟩ := cd.def_ 6 (d := d_compare) rfl
  have m_compare := He.glo_ok X G (cd.fact 6 (f := .glo "compare") rfl)
  obtain ⟨fd__law_mix, F__law_mix⟩ := cd.def_ 7 (d := d__law_mix) rfl
  have m__law_mix := He.glo_ok X G (cd.fact 7 (f := .glo "_law_mix") rfl)
  obtain ⟨fd__law_numbers, F__law_numbers⟩ := cd.def_ 8 (d := d__law_numbers) rfl
  have m__law_numbers := He.glo_ok X G (cd.fact 8 (f := .glo "_law_numbers") rfl)
  obtain ⟨fd__law_take, F__law_take⟩ := cd.def_ 9 (d := d__law_take) rfl
  have m__law_take := He.glo_ok X G (cd.fact 9 (f := .glo "_law_take") rfl)
  obtain ⟨fd__law_lowest, F__law_lowest⟩ := cd.def_ 10 (d := d__law_lowest) rfl
  have m__law_lowest := He.glo_ok X G (cd.fact 10 (f := .glo "_law_lowest") rfl)
  obtain ⟨fd__law_fraction, F__law_fraction⟩ := cd.def_ 11 (d := d__law_fraction) rfl
  have m__law_fraction := He.glo_ok X G (cd.fact 11 (f := .glo "_law_fraction") rfl)
  obtain ⟨fd__law_plus, F__law_plus⟩ := cd.def_ 12 (d := d__law_plus) rfl
  have m__law_plus := He.glo_ok X G (cd.fact 12 (f := .glo "_law_plus") rfl)
  obtain ⟨fd__law_times, F__law_times⟩ := cd.def_ 13 (d := d__law_times) rfl
  have m__law_times := He.glo_ok X G (cd.fact 13 (f := .glo "_law_times") rfl)
  obtain ⟨fd__law_less, F__law_less⟩ := cd.def_ 14 (d := d__law_less) rfl
  have m__law_less := He.glo_ok X G (cd.fact 14 (f := .glo "_law_less") rfl)
  obtain ⟨fd__law_minus, F__law_minus⟩ := cd.def_ 15 (d := d__law_minus) rfl
  have m__law_minus := He.glo_ok X G (cd.fact 15 (f := .glo "_law_minus") rfl)
  obtain ⟨fd_Thresholds___init__, F_Thresholds___init__⟩ := cd.def_ 16 (d := d_Thresholds___init__) rfl
  obtain ⟨fd__gain, F__gain⟩ := cd.def_ 17 (d := d__gain) rfl
  have m__gain := He.glo_ok X G (cd.fact 16 (f := .glo "_gain") rfl)
  obtain ⟨fd__gainer, F__gainer⟩ := cd.def_ 18 (d := d__gainer) rfl
  have m__gainer := He.glo_ok X G (cd.fact 17 (f := .glo "_gainer") rfl)
  obtain ⟨fd_Thresholds_lie, F_Thresholds_lie⟩ := cd.def_ 19 (d := d_Thresholds_lie) rfl
  obtain ⟨fd__law_steps, F__law_steps⟩ := cd.def_ 20 (d := d__law_steps) rfl
  have m__law_steps := He.glo_ok X G (cd.fact 18 (f := .glo "_law_steps") rfl)
  obtain ⟨fd__law_piece, F__law_piece⟩ := cd.def_ 21 (d := d__law_piece) rfl
  have m__law_piece := He.glo_ok X G (cd.fact 19 (f := .glo "_law_piece") rfl)
  obtain ⟨fd__law_has, F__law_has⟩ := cd.def_ 22 (d := d__law_has) rfl
  have m__law_has := He.glo_ok X G (cd.fact 20 (f := .glo "_law_has") rfl)
  obtain ⟨fd__law_tolls, F__law_tolls⟩ := cd.def_ 23 (d := d__law_tolls) rfl
  have m__law_tolls := He.glo_ok X G (cd.fact 21 (f := .glo "_law_tolls") rfl)
  obtain ⟨fd__law_refused, F__law_refused⟩ := cd.def_ 24 (d := d__law_refused) rfl
  have m__law_refused := He.glo_ok X G (cd.fact 22 (f := .glo "_law_refused") rfl)
  obtain ⟨fd__law_numbers_in, F__law_numbers_in⟩ := cd.def_ 25 (d := d__law_numbers_in) rfl
  have m__law_numbers_in := He.glo_ok X G (cd.fact 23 (f := .glo "_law_numbers_in") rfl)
  obtain ⟨fd__law_lie_right, F__law_lie_right⟩ := cd.def_ 26 (d := d__law_lie_right) rfl
  have m__law_lie_right := He.glo_ok X G (cd.fact 24 (f := .glo "_law_lie_right") rfl)
  obtain ⟨fd_law, F_law⟩ := cd.def_ 27 (d := d_law) rfl
  have m_law := He.glo_ok X G (cd.fact 25 (f := .glo "law") rfl)
  have e := hfa.symm.trans m_law
  cases e
  have bl := FunD.bindsA (ps := ["script"]) F_law fun _ _ _ _ _ _ us hl => match us, hl with | [_], _ => rfl
  refine ⟨fd_law, fun s v => bl s [v] rfl, fun base _ _ TBs => ?_⟩
  have G_InvalidThresholds___init__ : FnOk P w K mg base (L2.CX P w) 1 (He.ma K (He.ga K "InvalidThresholds") "__init__") fd_InvalidThresholds___init__ ["self", "reason"] (sp_InvalidThresholds___init__ K) := ok_InvalidThresholds___init__ T F_InvalidThresholds___init__ B_InvalidThresholds___init__ hfile htop
  have X_InvalidThresholds : UbC.CalX P w K mg base "InvalidThresholds" 1 (sp_InvalidThresholds___init__ K) := ⟨T.x_InvalidThresholds, T.gc_InvalidThresholds, _, _, G_InvalidThresholds___init__, F_InvalidThresholds___init__.bindsN fun _ _ _ _ _ _ us hl => match us, hl with | [_, _], _ => rfl⟩
  have G_make : FnOk P w K mg base (L2.CX P w) 1 (He.ga K "make") fd_make ["p", "q"] (sp_make K) := ok_make T F_make 
  have C_make : Cal P w K mg base "make" 1 ["p", "q"] [] (sp_make K) := by
    have F1 : FunD K "make" "make" (defArgs s_make) (defBody s_make) (defScope s_make) [V.int 1] [] (He.ga K "make") fd_make := F_make
    obtain ⟨ds, hd, hb⟩ := F1.binds1 (ps := ["p", "q"]) 2 1 (by simp) rfl (fun T kV doc pm an cdv ct us its hu hi => by
      match us, hu, its, hi with
      | [_, _], _, [_], _ =>
        refine ⟨_, rfl, ?_⟩
        rfl)
    exact ⟨_, _, ds, G_make, m_make, F_make.kp, hd, hb⟩
  have G_add : FnOk P w K mg base (L2.CX P w) 2 (He.ga K "add") fd_add ["a", "b"] (sp_add K) := ok_add T F_add C_make
  have C_add : Cal P w K mg base "add" 2 ["a", "b"] [] (sp_add K) := ⟨_, _, [], G_add, m_add, F_add.kp, .nil, F_add.bindsN fun _ _ _ _ _ _ us hl => match us, hl with | [_, _], _ => rfl⟩
  have G_subtract : FnOk P w K mg base (L2.CX P w) 2 (He.ga K "subtract") fd_subtract ["a", "b"] (sp_subtract K) := ok_subtract T F_subtract C_make
  have C_subtract : Cal P w K mg base "subtract" 2 ["a", "b"] [] (sp_subtract K) := ⟨_, _, [], G_subtract, m_subtract, F_subtract.kp, .nil, F_subtract.bindsN fun _ _ _ _ _ _ us hl => match us, hl with | [_, _], _ => rfl⟩
  have G_multiply : FnOk P w K mg base (L2.CX P w) 2 (He.ga K "multiply") fd_multiply ["a", "b"] (sp_multiply K) := ok_multiply T F_multiply C_make
  have C_multiply : Cal P w K mg base "multiply" 2 ["a", "b"] [] (sp_multiply K) := ⟨_, _, [], G_multiply, m_multiply, F_multiply.kp, .nil, F_multiply.bindsN fun _ _ _ _ _ _ us hl => match us, hl with | [_, _], _ => rfl⟩
  have G_divide : FnOk P w K mg base (L2.CX P w) 2 (He.ga K "divide") fd_divide ["a", "b"] (sp_divide K) := ok_divide T F_divide C_make
  have C_divide : Cal P w K mg base "divide" 2 ["a", "b"] [] (sp_divide K) := ⟨_, _, [], G_divide, m_divide, F_divide.kp, .nil, F_divide.bindsN fun _ _ _ _ _ _ us hl => match us, hl with | [_, _], _ => rfl⟩
  have G_sign : FnOk P w K mg base (L2.CX P w) 1 (He.ga K "sign") fd_sign ["a"] (sp_sign K) := ok_sign T F_sign 
  have C_sign : Cal P w K mg base "sign" 1 ["a"] [] (sp_sign K) := ⟨_, _, [], G_sign, m_sign, F_sign.kp, .nil, F_sign.bindsN fun _ _ _ _ _ _ us hl => match us, hl with | [_], _ => rfl⟩
  have G_compare : FnOk P w K mg base (L2.CX P w) 2 (He.ga K "compare") fd_compare ["a", "b"] (sp_compare K) := ok_compare T F_compare C_sign
  have C_compare : Cal P w K mg base "compare" 2 ["a", "b"] [] (sp_compare K) := ⟨_, _, [], G_compare, m_compare, F_compare.kp, .nil, F_compare.bindsN fun _ _ _ _ _ _ us hl => match us, hl with | [_, _], _ => rfl⟩
  have G__law_mix : FnOk P w K mg base (L2.CX P w) 1 (He.ga K "_law_mix") fd__law_mix ["number", "k"] (sp__law_mix) := ok__law_mix T F__law_mix 
  have C__law_mix : Cal P w K mg base "_law_mix" 1 ["number", "k"] [] (sp__law_mix) := ⟨_, _, [], G__law_mix, m__law_mix, F__law_mix.kp, .nil, F__law_mix.bindsN fun _ _ _ _ _ _ us hl => match us, hl with | [_, _], _ => rfl⟩
  have G__law_numbers : FnOk P w K mg base (L2.CX P w) 2 (He.ga K "_law_numbers") fd__law_numbers ["script", "count"] (sp__law_numbers K) := ok__law_numbers T F__law_numbers C__law_mix
  have C__law_numbers : Cal P w K mg base "_law_numbers" 2 ["script", "count"] [] (sp__law_numbers K) := ⟨_, _, [], G__law_numbers, m__law_numbers, F__law_numbers.kp, .nil, F__law_numbers.bindsN fun _ _ _ _ _ _ us hl => match us, hl with | [_, _], _ => rfl⟩
  have G__law_take : FnOk P w K mg base (L2.CX P w) 1 (He.ga K "_law_take") fd__law_take ["row", "bound"] (sp__law_take) := ok__law_take T F__law_take 
  have C__law_take : Cal P w K mg base "_law_take" 1 ["row", "bound"] [] (sp__law_take) := ⟨_, _, [], G__law_take, m__law_take, F__law_take.kp, .nil, F__law_take.bindsN fun _ _ _ _ _ _ us hl => match us, hl with | [_, _], _ => rfl⟩
  have G__law_lowest : FnOk P w K mg base (L2.CX P w) 1 (He.ga K "_law_lowest") fd__law_lowest ["p", "q"] (sp__law_lowest K) := ok__law_lowest T F__law_lowest 
  have C__law_lowest : Cal P w K mg base "_law_lowest" 1 ["p", "q"] [] (sp__law_lowest K) := ⟨_, _, [], G__law_lowest, m__law_lowest, F__law_lowest.kp, .nil, F__law_lowest.bindsN fun _ _ _ _ _ _ us hl => match us, hl with | [_, _], _ => rfl⟩
  have G__law_fraction : FnOk P w K mg base (L2.CX P w) 2 (He.ga K "_law_fraction") fd__law_fraction ["row"] (sp__law_fraction K) := ok__law_fraction T F__law_fraction C__law_lowest C__law_take
  have C__law_fraction : Cal P w K mg base "_law_fraction" 2 ["row"] [] (sp__law_fraction K) := ⟨_, _, [], G__law_fraction, m__law_fraction, F__law_fraction.kp, .nil, F__law_fraction.bindsN fun _ _ _ _ _ _ us hl => match us, hl with | [_], _ => rfl⟩
  have G__law_plus : FnOk P w K mg base (L2.CX P w) 2 (He.ga K "_law_plus") fd__law_plus ["a", "b"] (sp__law_plus K) := ok__law_plus T F__law_plus C__law_lowest
  have C__law_plus : Cal P w K mg base "_law_plus" 2 ["a", "b"] [] (sp__law_plus K) := ⟨_, _, [], G__law_plus, m__law_plus, F__law_plus.kp, .nil, F__law_plus.bindsN fun _ _ _ _ _ _ us hl => match us, hl with | [_, _], _ => rfl⟩
  have G__law_times : FnOk P w K mg base (L2.CX P w) 2 (He.ga K "_law_times") fd__law_times ["a", "b"] (sp__law_times K) := ok__law_times T F__law_times C__law_lowest
  have C__law_times : Cal P w K mg base "_law_times" 2 ["a", "b"] [] (sp__law_times K) := ⟨_, _, [], G__law_times, m__law_times, F__law_times.kp, .nil, F__law_times.bindsN fun _ _ _ _ _ _ us hl => match us, hl with | [_, _], _ => rfl⟩
  have G__law_less : FnOk P w K mg base (L2.CX P w) 1 (He.ga K "_law_less") fd__law_less ["a", "b"] (sp__law_less K) := ok__law_less T F__law_less 
  have C__law_less : Cal P w K mg base "_law_less" 1 ["a", "b"] [] (sp__law_less K) := ⟨_, _, [], G__law_less, m__law_less, F__law_less.kp, .nil, F__law_less.bindsN fun _ _ _ _ _ _ us hl => match us, hl with | [_, _], _ => rfl⟩
  have G__law_minus : FnOk P w K mg base (L2.CX P w) 3 (He.ga K "_law_minus") fd__law_minus ["a", "b"] (sp__law_minus K) := ok__law_minus T F__law_minus C__law_plus C__law_times
  have C__law_minus : Cal P w K mg base "_law_minus" 3 ["a", "b"] [] (sp__law_minus K) := ⟨_, _, [], G__law_minus, m__law_minus, F__law_minus.kp, .nil, F__law_minus.bindsN fun _ _ _ _ _ _ us hl => match us, hl with | [_, _], _ => rfl⟩
  have G_Thresholds___init__ : FnOk P w K mg base (L2.CX P w) 4 (He.ma K (He.ga K "Thresholds") "__init__") fd_Thresholds___init__ ["self", "low", "high", "cuts", "shares"] (sp_Thresholds___init__ K) := ok_Thresholds___init__ T F_Thresholds___init__ rfl (TBs (("Thresholds", some "__init__") : He.Defn) (by unfold tf; simp)) X_InvalidThresholds C_compare
  have I_Thresholds : UbC.CalI P w K mg base "Thresholds" 4 2 ["cuts", "shares"] (sp_Thresholds___init__ K) := ⟨He.mkr_ok (cd.fact 29 (f := .mkr "Thresholds") rfl), T.gc_Thresholds, _, _, _, G_Thresholds___init__, UbC.FunD_kbindsN F_Thresholds___init__ 3 ["cuts", "shares"] fun _ _ _ _ _ _ us ws hu hw => match us, ws, hu, hw with | [_, _, _], [_, _], _, _ => rfl⟩
  have G__gain : FnOk P w K mg base (L2.CX P w) 3 (He.ga K "_gain") fd__gain ["more", "dearer", "number"] (sp__gain K) := ok__gain T F__gain C_multiply C_subtract
  have C__gain : Cal P w K mg base "_gain" 3 ["more", "dearer", "number"] [] (sp__gain K) := ⟨_, _, [], G__gain, m__gain, F__gain.kp, .nil, F__gain.bindsN fun _ _ _ _ _ _ us hl => match us, hl with | [_, _, _], _ => rfl⟩
  have G__gainer : FnOk P w K mg base (L2.CX P w) 4 (He.ga K "_gainer") fd__gainer ["more", "dearer", "start", "end"] (sp__gainer K) := ok__gainer T F__gainer C__gain C_add C_divide C_sign
  have C__gainer : Cal P w K mg base "_gainer" 4 ["more", "dearer", "start", "end"] [] (sp__gainer K) := ⟨_, _, [], G__gainer, m__gainer, F__gainer.kp, .nil, F__gainer.bindsN fun _ _ _ _ _ _ us hl => match us, hl with | [_, _, _, _], _ => rfl⟩
  have G_Thresholds_lie : FnOk P w K mg base (L2.CX P w) 5 (He.ma K (He.ga K "Thresholds") "lie") fd_Thresholds_lie ["self", "payments"] (sp_Thresholds_lie K) := ok_Thresholds_lie T F_Thresholds_lie X_InvalidThresholds C__gain C__gainer C_subtract
  have M_Thresholds_lie : UbC.CalM P w K mg base "Thresholds" "lie" 5 ["self", "payments"] [] (sp_Thresholds_lie K) := ⟨T.cl_Thresholds, He.meth_ok (cd.fact 35 (f := .meth "Thresholds" "lie") rfl), _, [], G_Thresholds_lie, .nil, F_Thresholds_lie.bindsN fun _ _ _ _ _ _ us hl => match us, hl with | [_, _], _ => rfl⟩
  have G__law_steps : FnOk P w K mg base (L2.CX P w) 3 (He.ga K "_law_steps") fd__law_steps ["row"] (sp__law_steps K) := ok__law_steps T F__law_steps C__law_fraction C__law_less C__law_lowest C__law_plus C__law_take
  have C__law_steps : Cal P w K mg base "_law_steps" 3 ["row"] [] (sp__law_steps K) := ⟨_, _, [], G__law_steps, m__law_steps, F__law_steps.kp, .nil, F__law_steps.bindsN fun _ _ _ _ _ _ us hl => match us, hl with | [_], _ => rfl⟩
  have G__law_piece : FnOk P w K mg base (L2.CX P w) 2 (He.ga K "_law_piece") fd__law_piece ["points", "number"] (sp__law_piece K) := ok__law_piece T F__law_piece C__law_less
  have C__law_piece : Cal P w K mg base "_law_piece" 2 ["points", "number"] [] (sp__law_piece K) := ⟨_, _, [], G__law_piece, m__law_piece, F__law_piece.kp, .nil, F__law_piece.bindsN fun _ _ _ _ _ _ us hl => match us, hl with | [_, _], _ => rfl⟩
  have G__law_has : FnOk P w K mg base (L2.CX P w) 4 (He.ga K "_law_has") fd__law_has ["points", "shares", "payments", "number", "told"] (sp__law_has K) := ok__law_has T F__law_has C__law_minus C__law_piece C__law_times
  have C__law_has : Cal P w K mg base "_law_has" 4 ["points", "shares", "payments", "number", "told"] [] (sp__law_has K) := ⟨_, _, [], G__law_has, m__law_has, F__law_has.kp, .nil, F__law_has.bindsN fun _ _ _ _ _ _ us hl => match us, hl with | [_, _, _, _, _], _ => rfl⟩
  have G__law_tolls : FnOk P w K mg base (L2.CX P w) 4 (He.ga K "_law_tolls") fd__law_tolls ["points", "shares"] (sp__law_tolls K) := ok__law_tolls T F__law_tolls C__law_minus C__law_plus C__law_times
  have C__law_tolls : Cal P w K mg base "_law_tolls" 4 ["points", "shares"] [] (sp__law_tolls K) := ⟨_, _, [], G__law_tolls, m__law_tolls, F__law_tolls.kp, .nil, F__law_tolls.bindsN fun _ _ _ _ _ _ us hl => match us, hl with | [_, _], _ => rfl⟩
  have G__law_refused : FnOk P w K mg base (L2.CX P w) 6 (He.ga K "_law_refused") fd__law_refused ["made", "payments"] (sp__law_refused K) := ok__law_refused T F__law_refused M_Thresholds_lie
  have C__law_refused : Cal P w K mg base "_law_refused" 6 ["made", "payments"] [] (sp__law_refused K) := ⟨_, _, [], G__law_refused, m__law_refused, F__law_refused.kp, .nil, F__law_refused.bindsN fun _ _ _ _ _ _ us hl => match us, hl with | [_, _], _ => rfl⟩
  have G__law_numbers_in : FnOk P w K mg base (L2.CX P w) 4 (He.ga K "_law_numbers_in") fd__law_numbers_in ["row", "points"] (sp__law_numbers_in K) := ok__law_numbers_in T F__law_numbers_in C__law_lowest C__law_minus C__law_plus C__law_take C__law_times
  have C__law_numbers_in : Cal P w K mg base "_law_numbers_in" 4 ["row", "points"] [] (sp__law_numbers_in K) := ⟨_, _, [], G__law_numbers_in, m__law_numbers_in, F__law_numbers_in.kp, .nil, F__law_numbers_in.bindsN fun _ _ _ _ _ _ us hl => match us, hl with | [_, _], _ => rfl⟩
  have G__law_lie_right : FnOk P w K mg base (L2.CX P w) 5 (He.ga K "_law_lie_right") fd__law_lie_right ["points", "shares", "payments", "lie"] (sp__law_lie_right K) := ok__law_lie_right T F__law_lie_right C__law_has C__law_less C__law_minus
  have C__law_lie_right : Cal P w K mg base "_law_lie_right" 5 ["points", "shares", "payments", "lie"] [] (sp__law_lie_right K) := ⟨_, _, [], G__law_lie_right, m__law_lie_right, F__law_lie_right.kp, .nil, F__law_lie_right.bindsN fun _ _ _ _ _ _ us hl => match us, hl with | [_, _, _, _], _ => rfl⟩
  exact ok_law T F_law I_Thresholds M_Thresholds_lie C__law_fraction C__law_has C__law_less C__law_lie_right C__law_numbers C__law_numbers_in C__law_plus C__law_refused C__law_steps C__law_take C__law_tolls
end UbK
open PySem PySem.W PySem.Calls PyProof.Rows
set_option maxHeartbeats 0 in
theorem PySem.Challenge.cw_unbent_k43_whole_lies_of_one_number_holds : PySem.Challenge.rw_unbent_k43_whole_lies_of_one_number.Holds := by
  w_on; o_law
  refine HandSHeadRun.head_imp (r := OpenLaw.row PySem.Challenge.rw_unbent_k43_whole_lies_of_one_number) (q := view (OpenLaw.row PySem.Challenge.rw_unbent_k43_whole_lies_of_one_number).prog [0, 37]) (H := UbK.hk) (ob := UbK.ob) (M := 4000) (loose := UbK.loose) (d := HandSHeadRun.topDef (OpenLaw.row PySem.Challenge.rw_unbent_k43_whole_lies_of_one_number).prog 37) (kwd := []) UbK.ob_eq UbK.run
    (by kernel_rfl) (by kernel_rfl) (by kernel_rfl) (by rfl) (by first | assumption | decide +kernel) (by decide +kernel) ⟨rfl, rfl, rfl, rfl, rfl, by decide +kernel⟩ ?hw ?hc
  case hw => w_witness2
  case hc =>
    refine UbG.endOfLawT (l := PySem.Challenge.rw_unbent_k43_whole_lies_of_one_number) (n := 63) (k := 7) (x := "script") rfl (by decide) (by kernel_rfl) ⟨rfl, by decide, by decide⟩ UbK.tf ?F
    intro w mg fa h Y G hmg0
    obtain ⟨K, KX, c⟩ := Y
    have hmg : mg ("law" : PySem.Str) = some (.ref fa) := by
      have e : (HandSHeadRun.topDef (OpenLaw.row PySem.Challenge.rw_unbent_k43_whole_lies_of_one_number).prog 37).name = ("law" : PySem.Str) := by kernel_rfl
      rw [← e]
      exact hmg0
    obtain ⟨fd, hb, hF⟩ := UbK.facts KX G hmg c (PySem.Challenge.rw_unbent_k43_whole_lies_of_one_number).prog (by kernel_rfl) (by kernel_rfl)
    exact ⟨K, fd, UbK.sp_law K, KX, c.x.hd, c.x.out, c.x.empty, hb, fun H a ns hl hz hT hS => ⟨a, ns, rfl, hS, hl, hz, hT, fun _ => rfl⟩, hF⟩
