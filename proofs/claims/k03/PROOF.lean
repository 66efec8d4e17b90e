import PyProof.Rows.All
import Wide.All
import OpenK.AllK
import Wide.FinOn
import HandS.ForMost
import HandS.ForExc
import HandS.Wide
import HandS.Gcd
import HandS.IsInst
import HandS.Defaults
import HandS.ExcIs
import HandS.Flow
import HandS.Small
import HandS.HeadHook4
import HandS.HeadEnd
import HandS.Head0
import HandS.Head1
import HandS.Head2
import HandS.HeadHook1
import HandS.HeadHook2
import HandS.HeadHook3
import HandS.Head3
import PySem.Challenge.RW_unbent_k03_lists_of_fractions
set_option Elab.async false
set_option linter.all false
set_option maxRecDepth 100000
set_option maxHeartbeats 4000000
/-! Plain mathematics: Euclid by a bounded number of turns, fractions as Rat. -/
namespace UbM
/-- m turns of Euclid are enough for a, b -/
def Enough (m a b : Nat) : Prop := ∃ e, (b < 2 ^ e ∧ 2 * e + 1 ≤ m) ∨ (b < a ∧ a < 2 ^ (e + 1) ∧ 2 * e + 2 ≤ m)
theorem Enough.pos {m a b : Nat} (h : Enough m a b) : 0 < m := by
  obtain ⟨e, h | h⟩ := h <;> omega
theorem half_mod {a b : Nat} (hb : 0 < b) (h : b < a) : 2 * (a % b) < a := by
  have h1 := Nat.mod_lt a hb
  have h2 := Nat.div_add_mod a b
  have h3 : 1 ≤ a / b := (Nat.le_div_iff_mul_le hb).mpr (by omega)
  have h4 : b * 1 ≤ b * (a / b) := Nat.mul_le_mul_left b h3
  omega
theorem Enough.step {m a b : Nat} (hb : 0 < b) (h : Enough m a b) : Enough (m - 1) b (a % b) := by
  obtain ⟨e, ⟨h1, h2⟩ | ⟨h1, h2, h3⟩⟩ := h
  · cases e with
    | zero =>
      have : b < 1 := h1
      omega
    | succ e =>
      refine ⟨e, .inr ⟨Nat.mod_lt _ hb, h1, by omega⟩⟩
  · refine ⟨e, .inl ⟨?_, by omega⟩⟩
    have h4 := half_mod hb h1
    have h5 : 2 ^ (e + 1) = 2 ^ e * 2 := Nat.pow_succ ..
    omega
theorem enough_of {m a b e : Nat} (h : b < 2 ^ e) (hm : 2 * e + 1 ≤ m) : Enough m a b := ⟨e, .inl ⟨h, hm⟩⟩
/-! ### fractions -/
theorem int_gcd (p q : Int) : q.gcd p = Nat.gcd p.natAbs q.natAbs := by
  unfold Int.gcd
  exact Nat.gcd_comm ..
theorem num_pos {p q : Int} (h : 0 < q) : p / ((Nat.gcd p.natAbs q.natAbs : Nat) : Int) = (Rat.divInt p q).num := by
  rw [Rat.num_divInt, int_gcd, Int.sign_eq_one_of_pos h, Int.one_mul]
theorem den_pos {p q : Int} (h : 0 < q) : q / ((Nat.gcd p.natAbs q.natAbs : Nat) : Int) = ((Rat.divInt p q).den : Int) := by
  rw [Rat.den_divInt, if_neg (by omega), int_gcd]
  have e : (q.natAbs : Int) = q := by omega
  rw [Int.natCast_ediv, e]
theorem gcd_pos {p q : Int} (h : q ≠ 0) : 0 < Nat.gcd p.natAbs q.natAbs := Nat.gcd_pos_of_pos_right _ (by omega)
theorem fdiv_neg_dvd {a b : Int} (h : b ∣ a) : a.fdiv (-b) = -(a / b) := by
  obtain ⟨c, rfl⟩ := h
  by_cases hb : b = 0
  · subst hb
    simp
  · rw [Int.mul_ediv_cancel_left _ hb]
    have e : b * c = -b * -c := by rw [Int.neg_mul_neg]
    rw [e, Int.mul_fdiv_cancel_left _ (by omega)]
theorem dvd_l (p q : Int) : ((Nat.gcd p.natAbs q.natAbs : Nat) : Int) ∣ p := Int.ofNat_dvd_left.mpr (Nat.gcd_dvd_left ..)
theorem dvd_r (p q : Int) : ((Nat.gcd p.natAbs q.natAbs : Nat) : Int) ∣ q := Int.ofNat_dvd_left.mpr (Nat.gcd_dvd_right ..)
theorem num_neg {p q : Int} (h : q < 0) : p.fdiv (-((Nat.gcd p.natAbs q.natAbs : Nat) : Int)) = (Rat.divInt p q).num := by
  rw [fdiv_neg_dvd (dvd_l p q), Rat.num_divInt, int_gcd, Int.sign_eq_neg_one_of_neg h, Int.neg_one_mul, Int.neg_ediv_of_dvd (dvd_l p q)]
theorem den_neg {p q : Int} (h : q < 0) : q.fdiv (-((Nat.gcd p.natAbs q.natAbs : Nat) : Int)) = ((Rat.divInt p q).den : Int) := by
  rw [fdiv_neg_dvd (dvd_r p q), Rat.den_divInt, if_neg (by omega), int_gcd]
  have e : (q.natAbs : Int) = -q := by omega
  rw [Int.natCast_ediv, e, Int.neg_ediv_of_dvd (dvd_r p q)]
/-! ### sizes -/
def Bd (n : Nat) (r : Rat) : Prop := r.num.natAbs < 2 ^ n ∧ r.den < 2 ^ n
theorem bd_divInt {p q : Int} {n : Nat} (hq : q ≠ 0) (h1 : p.natAbs < 2 ^ n) (h2 : q.natAbs < 2 ^ n) : Bd n (Rat.divInt p q) := by
  constructor
  · by_cases h : 0 < q
    · rw [← num_pos h, Int.natAbs_ediv_of_dvd (dvd_l p q)]
      exact Nat.lt_of_le_of_lt (Nat.div_le_self ..) h1
    · rw [← num_neg (show q < 0 by omega), fdiv_neg_dvd (dvd_l p q), Int.natAbs_neg, Int.natAbs_ediv_of_dvd (dvd_l p q)]
      exact Nat.lt_of_le_of_lt (Nat.div_le_self ..) h1
  · rw [Rat.den_divInt, if_neg hq]
    exact Nat.lt_of_le_of_lt (Nat.div_le_self ..) h2
theorem Bd.mono {n m : Nat} {r : Rat} (h : Bd n r) (k : n ≤ m) : Bd m r := ⟨Nat.lt_of_lt_of_le h.1 (Nat.pow_le_pow_right (by decide) k), Nat.lt_of_lt_of_le h.2 (Nat.pow_le_pow_right (by decide) k)⟩
theorem mul_lt {i j : Int} {a b : Nat} (ha : i.natAbs < 2 ^ a) (hb : j.natAbs < 2 ^ b) : (i * j).natAbs < 2 ^ (a + b) := by
  rw [Int.natAbs_mul, Nat.pow_add]
  exact Nat.mul_lt_mul'' ha hb
theorem add_lt {i j : Int} {a b : Nat} (ha : i.natAbs < 2 ^ a) (hb : j.natAbs < 2 ^ b) : (i + j).natAbs < 2 ^ (max a b + 1) := by
  have h1 : (2 : Nat) ^ a ≤ 2 ^ (max a b) := Nat.pow_le_pow_right (by decide) (by omega)
  have h2 : (2 : Nat) ^ b ≤ 2 ^ (max a b) := Nat.pow_le_pow_right (by decide) (by omega)
  have h3 : (2 : Nat) ^ (max a b + 1) = 2 ^ (max a b) * 2 := Nat.pow_succ ..
  omega
theorem sub_lt {i j : Int} {a b : Nat} (ha : i.natAbs < 2 ^ a) (hb : j.natAbs < 2 ^ b) : (i - j).natAbs < 2 ^ (max a b + 1) := by
  have h1 : (2 : Nat) ^ a ≤ 2 ^ (max a b) := Nat.pow_le_pow_right (by decide) (by omega)
  have h2 : (2 : Nat) ^ b ≤ 2 ^ (max a b) := Nat.pow_le_pow_right (by decide) (by omega)
  have h3 : (2 : Nat) ^ (max a b + 1) = 2 ^ (max a b) * 2 := Nat.pow_succ ..
  omega
theorem den_ne (r : Rat) : (r.den : Int) ≠ 0 := by
  have := r.den_nz
  omega
theorem den_p (r : Rat) : (0 : Int) < r.den := by
  have := r.den_nz
  omega
theorem den_lt {r : Rat} {n : Nat} (h : Bd n r) : (r.den : Int).natAbs < 2 ^ n := h.2
theorem add_as (r s : Rat) : Rat.divInt (r.num * s.den + s.num * r.den) (r.den * s.den) = r + s := by
  rw [Rat.add_def', ← Rat.divInt_ofNat, Int.natCast_mul]
theorem sub_as (r s : Rat) : Rat.divInt (r.num * s.den - s.num * r.den) (r.den * s.den) = r - s := by
  rw [Rat.sub_def', ← Rat.divInt_ofNat, Int.natCast_mul]
theorem mul_as (r s : Rat) : Rat.divInt (r.num * s.num) (r.den * s.den) = r * s := by
  rw [Rat.mul_def', ← Rat.divInt_ofNat, Int.natCast_mul]
theorem div_as (r s : Rat) : Rat.divInt (r.num * s.den) (r.den * s.num) = r / s := by
  rw [Rat.div_def, Rat.inv_def]
  conv => rhs; rw [← Rat.num_divInt_den r]
  rw [Rat.divInt_mul_divInt]
theorem bd_add {r s : Rat} {a b : Nat} (hr : Bd a r) (hs : Bd b s) : Bd (a + b + 1) (r + s) := by
  rw [← add_as]
  refine bd_divInt (Int.mul_ne_zero (den_ne r) (den_ne s)) ?_ ?_
  · have := add_lt (mul_lt hr.1 (den_lt hs)) (mul_lt hs.1 (den_lt hr))
    rw [show max (a + b) (b + a) + 1 = a + b + 1 by omega] at this
    exact this
  · exact Nat.lt_of_lt_of_le (mul_lt (den_lt hr) (den_lt hs)) (Nat.pow_le_pow_right (by decide) (by omega))
theorem bd_sub {r s : Rat} {a b : Nat} (hr : Bd a r) (hs : Bd b s) : Bd (a + b + 1) (r - s) := by
  rw [← sub_as]
  refine bd_divInt (Int.mul_ne_zero (den_ne r) (den_ne s)) ?_ ?_
  · have := sub_lt (mul_lt hr.1 (den_lt hs)) (mul_lt hs.1 (den_lt hr))
    rw [show max (a + b) (b + a) + 1 = a + b + 1 by omega] at this
    exact this
  · exact Nat.lt_of_lt_of_le (mul_lt (den_lt hr) (den_lt hs)) (Nat.pow_le_pow_right (by decide) (by omega))
theorem bd_mul {r s : Rat} {a b : Nat} (hr : Bd a r) (hs : Bd b s) : Bd (a + b) (r * s) := by
  rw [← mul_as]
  exact bd_divInt (Int.mul_ne_zero (den_ne r) (den_ne s)) (mul_lt hr.1 hs.1) (mul_lt (den_lt hr) (den_lt hs))
theorem bd_neg {r : Rat} {a : Nat} (hr : Bd a r) : Bd a (-r) := ⟨by rw [Rat.neg_num, Int.natAbs_neg]; exact hr.1, hr.2⟩
theorem bd_div {r s : Rat} {a b : Nat} (hz : s ≠ 0) (hr : Bd a r) (hs : Bd b s) : Bd (a + b) (r / s) := by
  rw [← div_as]
  exact bd_divInt (Int.mul_ne_zero (den_ne r) fun h => hz (Rat.num_eq_zero.mp h)) (mul_lt hr.1 (den_lt hs)) (mul_lt (den_lt hr) hs.1)
/-! ### the order -/
/-- -1, 0, 1 as r is below, equal to, above s -/
def cmpR (r s : Rat) : Int := Int.sign (r.num * s.den - s.num * r.den)
theorem cmpR_lt {r s : Rat} (h : r < s) : cmpR r s = -1 := by
  have := (Rat.lt_iff r s).mp h
  exact Int.sign_eq_neg_one_of_neg (by omega)
theorem cmpR_gt {r s : Rat} (h : s < r) : cmpR r s = 1 := by
  have := (Rat.lt_iff s r).mp h
  exact Int.sign_eq_one_of_pos (by omega)
theorem cmpR_self (r : Rat) : cmpR r r = 0 := by
  unfold cmpR
  rw [Int.sub_self]
  rfl
theorem cmpR_cases (r s : Rat) : (r < s ∧ cmpR r s = -1) ∨ (r = s ∧ cmpR r s = 0) ∨ (s < r ∧ cmpR r s = 1) := by
  by_cases h : r = s
  · subst h
    exact .inr (.inl ⟨rfl, cmpR_self r⟩)
  · by_cases h2 : r < s
    · exact .inl ⟨h2, cmpR_lt h2⟩
    · have h3 : s < r := Rat.lt_of_le_of_ne (Rat.not_lt.mp h2) fun e => h e.symm
      exact .inr (.inr ⟨h3, cmpR_gt h3⟩)
theorem cmpR_swap (r s : Rat) : cmpR s r = -cmpR r s := by
  rcases cmpR_cases r s with ⟨h, e⟩ | ⟨h, e⟩ | ⟨h, e⟩
  · rw [e, cmpR_gt h]
    rfl
  · rw [e, h, cmpR_self]
    rfl
  · rw [e, cmpR_lt h]
theorem cmpR_add (r s t : Rat) : cmpR (r + t) (s + t) = cmpR r s := by
  rcases cmpR_cases r s with ⟨h, e⟩ | ⟨h, e⟩ | ⟨h, e⟩
  · rw [e, cmpR_lt (Rat.add_lt_add_right.mpr h)]
  · rw [e, h, cmpR_self]
  · rw [e, cmpR_gt (Rat.add_lt_add_right.mpr h)]
theorem cmpR_mul {r s t : Rat} (ht : 0 < t) : cmpR (r * t) (s * t) = cmpR r s := by
  rcases cmpR_cases r s with ⟨h, e⟩ | ⟨h, e⟩ | ⟨h, e⟩
  · rw [e, cmpR_lt ((Rat.mul_lt_mul_right ht).mpr h)]
  · rw [e, h, cmpR_self]
  · rw [e, cmpR_gt ((Rat.mul_lt_mul_right ht).mpr h)]
theorem neg_pos {t : Rat} (h : t < 0) : 0 < -t := by
  have := Rat.neg_lt_neg h
  rw [Rat.neg_zero] at this
  exact this
theorem cmpR_mul_neg {r s t : Rat} (ht : t < 0) : cmpR (r * t) (s * t) = -cmpR r s := by
  have h1 := cmpR_mul (r := r) (s := s) (neg_pos ht)
  rw [Rat.mul_neg, Rat.mul_neg] at h1
  rw [← h1, ← cmpR_swap]
  unfold cmpR
  rw [Rat.neg_num, Rat.neg_num, Rat.neg_den, Rat.neg_den, Int.neg_mul, Int.neg_mul]
  congr 1
  omega
theorem sign_as (d : Int) : (if decide (0 < d) = true then (1 : Int) else 0) - (if decide (d < 0) = true then (1 : Int) else 0) = Int.sign d := by
  rcases Int.lt_trichotomy d 0 with h | h | h
  · rw [decide_eq_true h, decide_eq_false (show ¬0 < d by omega), Int.sign_eq_neg_one_of_neg h]
    rfl
  · subst h
    rfl
  · rw [decide_eq_true h, decide_eq_false (show ¬d < 0 by omega), Int.sign_eq_one_of_pos h]
    rfl
theorem cmpR_zero (r : Rat) : cmpR r 0 = Int.sign r.num := by
  unfold cmpR
  rw [Rat.zero_num, Rat.zero_den]
  congr 1
  omega
theorem num_pos_iff {r : Rat} : 0 < r.num ↔ 0 < r := by
  have h := Rat.lt_iff 0 r
  rw [Rat.zero_num, Rat.zero_den] at h
  rw [h]
  omega
theorem num_neg_iff {r : Rat} : r.num < 0 ↔ r < 0 := by
  have h := Rat.lt_iff r 0
  rw [Rat.zero_num, Rat.zero_den] at h
  rw [h]
  omega
end UbM

namespace Ub
open PySem PySem.Spec PyProof.Rows L2 UbM
/-! ### heaps -/
theorem sameNew {H : Hp} {p : Addr} {o : HO} (h : H p = none) : Same H (upd H p o) := fun b x e => by
  rw [upd_ne (ne_of_none e h)]
  exact e
theorem Same.tseq {K : PySem.W.Frag} {H H' : Hp} {a : Addr} {xs : List V} (e : Same H H') (h : SqT K H a xs) : SqT K H' a xs := by
  rcases h with (h | ⟨o, h⟩) | h
  · exact .inl (.inl (e _ _ h))
  · exact .inl (.inr ⟨o, e _ _ h⟩)
  · exact .inr h
mutual
theorem Dp.mono {K : PySem.W.Frag} {H H' : Hp} (e : Same H H') : ∀ (d : PyData) (v : V), Dp K H v d → Dp K H' v d
  | .none, _, h => by cases h; exact .non
  | .bool b, _, h => by cases h; exact .bl b
  | .int i, _, h => by cases h; exact .int i
  | .str x, _, h => by cases h; exact .str x
  | .list ds, _, h => by
    cases h with
    | lst hs ha => exact .lst (Same.seq e hs) (Dp.monoAll e ds _ ha)
  | .tuple ds, _, h => by
    cases h with
    | tup hs ha => exact .tup (Same.tseq e hs) (Dp.monoAll e ds _ ha)
  | .dict _, _, h => by cases h
theorem Dp.monoAll {K : PySem.W.Frag} {H H' : Hp} (e : Same H H') : ∀ (ds : List PyData) (vs : List V), DpAll K H vs ds → DpAll K H' vs ds
  | [], _, h => by cases h; exact .nil
  | d :: ds, _, h => by
    cases h with
    | cons h1 h2 => exact .cons (Dp.mono e d _ h1) (Dp.monoAll e ds _ h2)
end
/-- a fraction as data -/
def frD (r : Rat) : PyData := .tuple [.int r.num, .int (r.den : Int)]
/-- v is the fraction r -/
def Fr (K : PySem.W.Frag) (H : Hp) (v : V) (r : Rat) : Prop := Dp K H v (frD r)
theorem Fr.mono {K : PySem.W.Frag} {H H' : Hp} {v : V} {r : Rat} (e : Same H H') (h : Fr K H v r) : Fr K H' v r := Dp.mono e _ _ h
theorem Fr.get {K : PySem.W.Frag} {H : Hp} {v : V} {r : Rat} (h : Fr K H v r) : ∃ a, v = .ref a ∧ SqT K H a [.int r.num, .int (r.den : Int)] := by
  unfold Fr frD at h
  cases h with
  | tup hs ha =>
    cases ha with
    | cons h1 h2 =>
      cases h2 with
      | cons h2 h3 =>
        cases h3
        cases h1
        cases h2
        exact ⟨_, rfl, hs⟩
theorem fr_of {K : PySem.W.Frag} {H : Hp} {a : Addr} {r : Rat} {p q : Int} (h : SqT K H a [.int p, .int q]) (hp : p = r.num) (hq : q = (r.den : Int)) : Fr K H (.ref a) r := by
  subst hp hq
  exact .tup h (.cons (.int _) (.cons (.int _) .nil))
theorem frNew {K : PySem.W.Frag} {H : Hp} {a : Addr} {r : Rat} {p q : Int} (hp : p = r.num) (hq : q = (r.den : Int)) : Fr K (upd H a (.tup [.int p, .int q])) (.ref a) r := fr_of (.inl (.inl upd_same)) hp hq
/-! ### operators on ints of any size that these laws meet -/
def CDivX (_ j : Int) : Prop := j ≠ 0 ∧ j.natAbs.log2 < 9000
theorem cdivX {i j : Int} {b : Nat} (h : j ≠ 0) (hb : j.natAbs < 2 ^ b) (h0 : 0 < b) (h9 : b ≤ 9000) : CDivX i j := ⟨h, Nat.lt_of_lt_of_le (PySem.Flt.log2_lt_of h0 hb) h9⟩
section
variable {X : Cx}
theorem op_fdivX : OpR X (binaryOp .FloorDiv) (rI CDivX fun i j => .int (i.fdiv j)) := opI fun i j _ _ _ _ _ hc q => floordiv_int hc.1 q (.inl (PyProof.noPylong_of_log2 hc.2))
end
/-- * of two ints: one below 2 ^ 64, or together below a million bits -/
def CMulG (i j : Int) : Prop := CMul i j ∨ CMulW i j
section
variable {X : Cx}
theorem op_mulG : OpR X (binaryOp .Mult) (rI CMulG fun i j => .int (i * j)) := opI fun _ _ _ _ _ _ _ hc q => mul_int q (by
  rcases hc with hc | hc
  · exact hc.ok
  · exact hc.ok)
end
theorem fdiv_pos {i j : Int} (h : 0 < j) : i.fdiv j = i / j := Int.fdiv_eq_ediv_of_nonneg i (by omega)
/-! ### calls of the program's own defs -/
/-- at the name x stands a def that keeps the promise sp, by at most level k; dvs: the defaults that fill up -/
structure Cal (P : Program) (w : World) (K : PySem.W.Frag) (mg : Str → Option Value) (base : Heap) (x : Str) (k : Nat) (ps : List Str) (dvs : List V) (sp : Sp) : Prop where
  ex : ∃ (f : Addr) (fd : FuncData) (ds : List Value), FnOk P w K mg base (L2.CX P w) k f fd ps sp ∧ mg x = some (.ref f) ∧ PySem.W.keepIn K (.ref f) = true ∧ Vals dvs ds ∧ Binds K fd ps ds
section
variable {X : Cx} {x : Str} {k j : Nat} {ps : List Str} {dvs : List V} {sp : Sp} {p pos : Pos} {e : Expr} {es : List Expr} {t : TA}
theorem pe_callC (C : Cal X.prog X.w X.K X.mg X.base x k ps dvs sp) (hr : Room j X.A) (hj : k ≤ j) (hg : Gl X x) (ha : PA X (e :: es) t) (hdb : (x == ("__debug__" : Str)) = false := by decide)
    (he : starEach (e :: es) X.env = (false, eval e X.env) :: starEach es X.env := by rfl) (hpl : (backTo pos (starEach es X.env)).any (·.1) = false := by rfl) :
    PE X (.Call (.Name x p) (e :: es) [] pos) (tCall sp dvs E0 t) := by
  obtain ⟨f, fd, ds, F, hm, hk, hd, hb⟩ := C.ex
  exact pe_call F (hr.mono hj) hg hm hk hb hd passL ha hdb he hpl
theorem pe_callC0 (C : Cal X.prog X.w X.K X.mg X.base x k ps dvs sp) (hr : Room j X.A) (hj : k ≤ j) (hg : Gl X x) (hdb : (x == ("__debug__" : Str)) = false := by decide) : PE X (.Call (.Name x p) [] [] pos) (tCall sp dvs E0 tNil) := by
  obtain ⟨f, fd, ds, F, hm, hk, hd, hb⟩ := C.ex
  exact pe_call0 F (hr.mono hj) hg hm hk hb hd passL hdb
/-- in a def that may raise: what the callee raises leaves it -/
theorem pe_callCX {E : XK} (C : Cal X.prog X.w X.K X.mg X.base x k ps dvs sp) (hr : Room j X.A) (hj : k ≤ j) (hg : Gl X x) (tk : Takes X (fun cls d _ H => E cls d H)) (ha : PA X (e :: es) t) (hdb : (x == ("__debug__" : Str)) = false := by decide)
    (he : starEach (e :: es) X.env = (false, eval e X.env) :: starEach es X.env := by rfl) (hpl : (backTo pos (starEach es X.env)).any (·.1) = false := by rfl) :
    PE X (.Call (.Name x p) (e :: es) [] pos) (tCall sp dvs E t) := by
  obtain ⟨f, fd, ds, F, hm, hk, hd, hb⟩ := C.ex
  exact pe_call F (hr.mono hj) hg hm hk hb hd (passes_call tk fun _ _ _ _ h => h) ha hdb he hpl
/-- in a try: what it raises goes to the clause -/
theorem pe_callCS {W : WX} (C : Cal X.prog X.w X.K X.mg X.base x k ps [] sp) (hr : Room j X.A) (hj : k ≤ j) (hg : Gl X x) (tk : Takes X W) (ha : PA X (e :: es) t) (hdb : (x == ("__debug__" : Str)) = false := by decide)
    (he : starEach (e :: es) X.env = (false, eval e X.env) :: starEach es X.env := by rfl) (hpl : (backTo pos (starEach es X.env)).any (·.1) = false := by rfl) :
    PE X (.Call (.Name x p) (e :: es) [] pos) (tCallS sp (WE W) t) := by
  obtain ⟨f, fd, ds, F, hm, hk, hd, hb⟩ := C.ex
  cases hd
  exact pe_callS F (hr.mono hj) hg hm hk hb (fun σ => passAt tk σ) ha hdb he hpl
end
theorem Cal.mono {P : Program} {w : World} {K : PySem.W.Frag} {mg : Str → Option Value} {base : Heap} {x : Str} {k : Nat} {ps : List Str} {dvs : List V} {sp sp' : Sp} (C : Cal P w K mg base x k ps dvs sp)
    (h : ∀ vs H Q E, sp' vs H Q E → sp vs H Q E) : Cal P w K mg base x k ps dvs sp' := by
  obtain ⟨f, fd, ds, F, r⟩ := C.ex
  exact ⟨f, fd, ds, F.imp h, r⟩
/-! ### own exceptions -/
section
variable {X : Cx} {C : Addr} {bmB : List Value} {B newId initId : String}
/-- X(), X an own exception class without own __init__ -/
theorem pmk_own0 {x : Str} {p pos : Pos} (F : ExcBaseFacts B newId initId bmB) (q : PySem.W.excIn X.K C bmB newId = true) (gC : X.mg x = some (.ref C)) (kC : PySem.W.keepIn X.K (.ref C) = true) (r : Raises X (.ref C)) (hg : Gl X x)
    (hdb : (x == ("__debug__" : Str)) = false := by decide) : PMk X (.Call (.Name x p) [] [] pos) (fun _ H Q => Q (.ref C) none H) := by
  intro pins s σ H Q I h
  refine wpAny_Call_Name_kw (ld_glob I hg gC ?_ hdb)
  refine PySem.W.callWith_K0 I.kIn kC ?_
  show wpAny _ _ (call (.ref C) []) _ _ _
  obtain ⟨bm, N, nm, qn, bs, hdct, sn, sub, ab, col, dd, k0, k1, k2, k3, k5, mN, hC, hN, hni, T⟩ := exc_obj I.kIn q
  refine wpAny_call_exc_subT F T hC hN hni (fun h' e hm => ?_) (Nat.zero_le _)
  exact mk_of I hm r h (I.hok.gone hm.new)
end
/-- what the top says of an own exception class without own __init__ -/
structure ExcK (K : PySem.W.Frag) (mg : Str → Option Value) (x : Str) : Prop where
  gC : mg x = some (.ref (He.ga K x))
  xC : PySem.W.excIn K (He.ga K x) He.veBase "ValueError.__new__" = true
  kC : PySem.W.keepIn K (.ref (He.ga K x)) = true
  bC : PySem.W.subIn K (.ref (He.ga K x)) (.type "BaseException") = some true
  tC : PySem.W.typeIn K (.ref (He.ga K x)) = some (.type "type")
section
variable {X : Cx} {x : Str} {p pos pos2 : Pos} {W : WX}
theorem ps_raise0 (hc : X.calm = true) (T : ExcK X.K X.mg x) (tk : Takes X W) (hg : Gl X x) (hdb : (x == ("__debug__" : Str)) = false := by decide) :
    PS X (.Raise (some (.Call (.Name x p) [] [] pos)) none pos2) (fun _ σ H => W (.ref (He.ga X.K x)) none σ H) := ps_raise hc tk (pmk_own0 PySem.F.excBase_ValueError T.xC T.gC T.kC (raises_own T.bC T.tC) hg hdb)
end
/-- what isinstance asks of an exception's class, as a test of K -/
def excCB (K : PySem.W.Frag) (D : Addr) : Bool :=
  He.eqO (PySem.W.findIn K (.ref D) "__getattribute__") (some (some (.builtin "BaseException.__getattribute__"))) && (He.eqO (PySem.W.findIn K (.ref D) "__getattr__") (some none) && (decide (PySem.W.subIn K (.ref D) (.type "BaseException") = some true) && (PySem.W.hasDictIn K D && (He.eqO (PySem.W.findIn K (.ref D) "__class__") (some (some (.builtin "object.__class__"))) &&
  (decide (PySem.W.specialIn K (.builtin "object.__class__") "__get__" = some (some (.builtin "getset_descriptor.__get__"))) && (decide (PySem.W.takesIn K (.builtin "object.__class__") = some true) && decide (PySem.W.mroIn K D (.type "object") = some true)))))))
theorem excCB_ok {K : PySem.W.Frag} {D : Addr} (h : excCB K D = true) : ExcC K D := by
  unfold excCB at h
  obtain ⟨h1, h⟩ := He.ba h
  obtain ⟨h2, h⟩ := He.ba h
  obtain ⟨h3, h⟩ := He.ba h
  obtain ⟨h4, h⟩ := He.ba h
  obtain ⟨h5, h⟩ := He.ba h
  obtain ⟨h6, h⟩ := He.ba h
  obtain ⟨h7, h8⟩ := He.ba h
  exact ⟨He.eqO_ok h1, He.eqO_ok h2, of_decide_eq_true h3, h4, He.eqO_ok h5, of_decide_eq_true h6, of_decide_eq_true h7, of_decide_eq_true h8⟩
/-- isinstance(e, c), e the caught exception, of the class at D -/
def rIsEx (K : PySem.W.Frag) (D a : Addr) (cls : Value) (d : Option Addr) : List V → Hp → VK → Prop := fun xs H Q => cls = .ref D ∧ d = none ∧ rIsE K D a xs H Q
theorem call_isEx {X : Cx} {a D : Addr} {oe : Obj} {pn : List (Addr × Obj)} {cls : Value} {d : Option Addr} (C : ExcC X.K D) (hz : Zc cls d oe) (hf : ∃ vs, oe.data = .fields vs) : CallR (X.suite a ((a, oe) :: pn)) (.builtin "isinstance") (rIsEx X.K D a cls d) := by
  intro pins s σ H xs us Q I r h
  obtain ⟨e1, e2, h⟩ := h
  subst e1 e2
  exact call_isE C hz hf pins s σ H xs us Q I r h
theorem rdIsEx {K : PySem.W.Frag} {D a : Addr} {H : Hp} {Q : VK} {c : V} {cv : Value} {b : Bool} (hc : ∀ u, RelV c u → u = cv) (k : PySem.W.kitOne K (.ref D) cv = some b) (q : Q (.bl b) H) : rIsEx K D a (.ref D) none [.ref a, c] H Q := ⟨rfl, rfl, c, cv, b, rfl, hc, k, q⟩
/-! ### words for readings -/
theorem bb_int : bootBuiltins "int" = some (.type "int") := by decide +kernel
theorem bb_abs : bootBuiltins "abs" = some (.builtin "abs") := by decide +kernel
theorem bb_list : bootBuiltins "list" = some (.type "list") := by decide +kernel
theorem bb_len : bootBuiltins "len" = some (.builtin "len") := by decide +kernel
theorem bb_isinstance : bootBuiltins "isinstance" = some (.builtin "isinstance") := by decide +kernel
theorem bb_tuple : bootBuiltins "tuple" = some (.type "tuple") := by decide +kernel
theorem bb_bool : bootBuiltins "bool" = some (.type "bool") := by decide +kernel
theorem bb_str : bootBuiltins "str" = some (.type "str") := by decide +kernel
theorem bb_ValueError : bootBuiltins "ValueError" = some (.type "ValueError") := by decide +kernel
theorem bb_min : bootBuiltins "min" = some (.builtin "min") := by decide +kernel
theorem bb_max : bootBuiltins "max" = some (.builtin "max") := by decide +kernel
theorem bb_sum : bootBuiltins "sum" = some (.builtin "sum") := by decide +kernel
theorem bb_any : bootBuiltins "any" = some (.builtin "any") := by decide +kernel
theorem bb_all : bootBuiltins "all" = some (.builtin "all") := by decide +kernel
theorem bb_sorted : bootBuiltins "sorted" = some (.builtin "sorted") := by decide +kernel
theorem bb_repr : bootBuiltins "repr" = some (.builtin "repr") := by decide +kernel
/-- isinstance of data -/
def tyD : PyData → String
  | .none => "NoneType"
  | .bool _ => "bool"
  | .int _ => "int"
  | .str _ => "str"
  | .list _ => "list"
  | .tuple _ => "tuple"
  | .dict _ => "dict"
theorem tyx {K : PySem.W.Frag} {H : Hp} {v : V} {d : PyData} (h : Dp K H v d) : TyX K H v (.type (tyD d)) := by
  cases h with
  | non => exact .base .non
  | bl b => exact .base (.bl b)
  | int i => exact .base (.int i)
  | str x => exact .base (.str x)
  | lst hs _ =>
    rcases hs with (hs | ⟨o, hs⟩) | ⟨o, its, n, hl, hc, _⟩
    · exact .base (.lst hs)
    · exact .base (.frz hs)
    · exact .kList hl hc
  | tup hs _ =>
    rcases hs with (hs | ⟨o, hs⟩) | ⟨o, its, n, hl, hc, _⟩
    · exact .base (.tup hs)
    · exact .fTuple hs
    · exact .kTuple hl hc
/-- isinstance(x, T): the answer by the data's type -/
theorem isiD {K : PySem.W.Frag} {H : Hp} {v : V} {d : PyData} {T : String} {b : Bool} {Q : VK} (h : Dp K H v d) (k : kitB (tyD d) T = some b) (q : Q (.bl b) H) : rIsi K [v, .ty T] H Q := ⟨v, .ty T, .type (tyD d), .type T, b, rfl, .ty T, tyx h, kit_ty k, q⟩
/-! ### readings, step by step: each name says which construct has come -/
theorem log2_le {x a : Nat} (h : x < 2 ^ a) : x.log2 ≤ a := by
  by_cases ha : a = 0
  · subst ha
    have : x = 0 := by omega
    subst this
    exact Nat.le_of_eq (by decide)
  · exact Nat.le_of_lt (PySem.Flt.log2_lt_of (by omega) h)
theorem mulW {i j : Int} {a b : Nat} (ha : i.natAbs < 2 ^ a) (hb : j.natAbs < 2 ^ b) (h : a + b ≤ 900000) : CMulG i j := .inr <| by
  have h1 := log2_le ha
  have h2 := log2_le hb
  unfold CMulW
  omega
theorem divX {i j : Int} {b : Nat} (h : j ≠ 0) (hb : j.natAbs < 2 ^ b) (h9 : b < 9000) : CDivX i j := ⟨h, Nat.lt_of_le_of_lt (log2_le hb) h9⟩
/-! named readings of built-in calls -/
def rInt1 : List V → Hp → VK → Prop := fun xs H Q => (∃ i, xs = [.int i] ∧ Q (.int i) H) ∨ ∃ k, xs = [.bl k] ∧ Q (.int (if k then 1 else 0)) H
def rStrI : List V → Hp → VK → Prop := fun xs H Q => ∃ i, xs = [.int i] ∧ i.natAbs.log2 < 1920 ∧ Q (.str (toString i)) H
def rMin2 : List V → Hp → VK → Prop := fun xs H Q => ∃ i j, xs = [.int i, .int j] ∧ Q (.int (if j < i then j else i)) H
def rAbs1 : List V → Hp → VK → Prop := fun xs H Q => ∃ i, xs = [.int i] ∧ Q (.int (if i < 0 then -i else i)) H
def rLenS (K : PySem.W.Frag) : List V → Hp → VK → Prop := fun xs H Q => ∃ p ys, xs = [.ref p] ∧ (SqL K H p ys ∨ SqT K H p ys) ∧ Q (.int ys.length) H
def rListOf (K : PySem.W.Frag) : List V → Hp → VK → Prop := fun xs H Q => ∃ p ys, xs = [.ref p] ∧ (SqL K H p ys ∨ SqT K H p ys) ∧ ∀ l, H l = none → Q (.ref l) (upd H l (.lst ys))
section
variable {X : Cx}
theorem cl_int : CallR X (.type "int") rInt1 := call_int1
theorem cl_str : CallR X (.type "str") rStrI := call_str_int
theorem cl_min2 (hc : X.calm = true) : CallR X (.builtin "min") rMin2 := call_min2 hc
theorem cl_abs : CallR X (.builtin "abs") rAbs1 := call_abs
theorem cl_len : CallR X (.builtin "len") (rLenS X.K) := call_len_seq
theorem cl_list : CallR X (.type "list") (rListOf X.K) := call_list_of
end
def rIsN1 : R2 := fun x y H Q => y = .non ∧ Q (.bl (decide (x = .non))) H
def rNotN1 : R2 := fun x y H Q => y = .non ∧ Q (.bl (!decide (x = .non))) H
section
variable {X : Cx}
theorem op_isNo : OpR X (compareOp .Is) rIsN1 := op_isN
theorem op_notNo : OpR X (compareOp .IsNot) rNotN1 := op_notN
end
/-- == and !=: of scalars, or of data -/
def rEqA (K : PySem.W.Frag) : R2 := fun x y H Q => rEq x y H Q ∨ rEqD K x y H Q
def rNeA (K : PySem.W.Frag) : R2 := fun x y H Q => rNe x y H Q ∨ rNeD K x y H Q
section
variable {X : Cx}
theorem op_eqA (hu : X.A.units + 64 < cLine) : OpR X (compareOp .Eq) (rEqA X.K) := fun pins s σ H x y v u Q I rx ry h => h.elim (op_eq pins s σ H x y v u Q I rx ry) (op_eqD hu pins s σ H x y v u Q I rx ry)
theorem op_neA (hu : X.A.units + 64 < cLine) : OpR X (compareOp .NotEq) (rNeA X.K) := fun pins s σ H x y v u Q I rx ry h => h.elim (op_ne pins s σ H x y v u Q I rx ry) (op_neD hu pins s σ H x y v u Q I rx ry)
end
/-! the same rules with the written part named (in a comprehension's element) -/
section
variable {X : Cx} {K : PySem.W.Frag}
theorem ix_seqK (h : X.K = K) : IxR X (rIx K) := by
  subst h
  exact ix_seq
theorem cl_lenK (h : X.K = K) : CallR X (.builtin "len") (rLenS K) := by
  subst h
  exact cl_len
theorem cl_listK (h : X.K = K) : CallR X (.type "list") (rListOf K) := by
  subst h
  exact cl_list
theorem op_eqAK (h : X.K = K) (hu : X.A.units + 64 < cLine) : OpR X (compareOp .Eq) (rEqA K) := by
  subst h
  exact op_eqA hu
theorem op_neAK (h : X.K = K) (hu : X.A.units + 64 < cLine) : OpR X (compareOp .NotEq) (rNeA K) := by
  subst h
  exact op_neA hu
theorem call_isiKK (h : X.K = K) : CallR X (.builtin "isinstance") (rIsi K) := by
  subst h
  exact call_isi
end
/-! a sequence whose first part meets again: what holds behind it is said once -/
def tSeqJ (t u : TS) : TS := fun D σ H => ∀ U : L2.St → Hp → Prop, (∀ σ' H', u D σ' H' → U σ' H') → t { D with nx := U } σ H
theorem pss_consJ {X : Cx} {st : Stmt} {rest : List Stmt} {t u : TS} (h1 : PS X st t) (h2 : PSs X rest u) : PSs X (st :: rest) (tSeqJ t u) := ⟨fun pins s σ H D I h => (pss_cons h1 h2).run pins s σ H D I (h _ fun _ _ x => x)⟩
theorem seqJ {t u : TS} {D : Ends} {σ : L2.St} {H : Hp} (R : L2.St → Hp → Prop) (h1 : ∀ U : L2.St → Hp → Prop, (∀ σ' H', R σ' H' → U σ' H') → t { D with nx := U } σ H) (h2 : ∀ σ' H', R σ' H' → u D σ' H') : tSeqJ t u D σ H := fun U hU => h1 U fun σ' H' r => hU _ _ (h2 σ' H' r)
section
variable {K : PySem.W.Frag} {H : Hp} {Q : VK} {σ : L2.St}
theorem rdV {i : Nat} {v : V} (h : σ[i]? = some (some v)) (q : Q v H) : tVar i σ H Q := ⟨v, h, q⟩
theorem rdAdd {i j : Int} (q : Q (.int (i + j)) H) : rI0 (fun i j => .int (i + j)) (.int i) (.int j) H Q := ⟨i, j, rfl, rfl, q⟩
theorem rdSub {i j : Int} (q : Q (.int (i - j)) H) : rI0 (fun i j => .int (i - j)) (.int i) (.int j) H Q := ⟨i, j, rfl, rfl, q⟩
theorem rdMul {i j : Int} (c : CMulG i j) (q : Q (.int (i * j)) H) : rI CMulG (fun i j => .int (i * j)) (.int i) (.int j) H Q := ⟨i, j, rfl, rfl, c, q⟩
theorem rdDiv {i j : Int} (c : CDivX i j) (q : Q (.int (i.fdiv j)) H) : rI CDivX (fun i j => .int (i.fdiv j)) (.int i) (.int j) H Q := ⟨i, j, rfl, rfl, c, q⟩
theorem rdDivP {i j : Int} {b : Nat} (h : 0 < j) (hb : j.natAbs < 2 ^ b) (h9 : b < 9000) (q : Q (.int (i / j)) H) : rI CDivX (fun i j => .int (i.fdiv j)) (.int i) (.int j) H Q := ⟨i, j, rfl, rfl, divX (by omega) hb h9, by show Q (.int (i.fdiv j)) H; rw [fdiv_pos h]; exact q⟩
theorem rdMod {i j : Int} (c : 0 < j) (q : Q (.int (i % j)) H) : rI (fun _ j => 0 < j) (fun i j => .int (i % j)) (.int i) (.int j) H Q := ⟨i, j, rfl, rfl, c, q⟩
theorem rdNeg {i : Int} (q : Q (.int (-i)) H) : rU (fun i => .int (-i)) (.int i) H Q := ⟨i, rfl, q⟩
theorem rdEqI {i j : Int} (q : Q (.bl (decide (i = j))) H) : rEqA K (.int i) (.int j) H Q := .inl <| ⟨rfl, by
  have e : decide (V.int i = V.int j) = decide (i = j) := by
    rw [dec_int]
    exact Bool.beq_eq_decide_eq ..
  rw [e]
  exact q⟩
theorem rdNeI {i j : Int} (q : Q (.bl (!decide (i = j))) H) : rNeA K (.int i) (.int j) H Q := .inl <| ⟨rfl, by
  have e : decide (V.int i = V.int j) = decide (i = j) := by
    rw [dec_int]
    exact Bool.beq_eq_decide_eq ..
  rw [e]
  exact q⟩
theorem rdLt {i j : Int} (q : Q (.bl (decide (i < j))) H) : rI0 (fun i j => .bl (decide (i < j))) (.int i) (.int j) H Q := ⟨i, j, rfl, rfl, q⟩
theorem rdGt {i j : Int} (q : Q (.bl (decide (j < i))) H) : rI0 (fun i j => .bl (decide (j < i))) (.int i) (.int j) H Q := ⟨i, j, rfl, rfl, q⟩
theorem rdLe {i j : Int} (q : Q (.bl (decide (i ≤ j))) H) : rI0 (fun i j => .bl (decide (i ≤ j))) (.int i) (.int j) H Q := ⟨i, j, rfl, rfl, q⟩
theorem rdGe {i j : Int} (q : Q (.bl (decide (j ≤ i))) H) : rI0 (fun i j => .bl (decide (j ≤ i))) (.int i) (.int j) H Q := ⟨i, j, rfl, rfl, q⟩
theorem rdPow {i j : Int} (c : CPow i j) (q : Q (.int (i ^ j.toNat)) H) : rI CPow (fun i j => .int (i ^ j.toNat)) (.int i) (.int j) H Q := ⟨i, j, rfl, rfl, c, q⟩
theorem rdInt {i : Int} (q : Q (.int i) H) : rInt1 [.int i] H Q := .inl ⟨i, rfl, q⟩
theorem rdMin2 {m n : Nat} (q : Q (.int ((min m n : Nat) : Int)) H) : rMin2 [.int (m : Int), .int (n : Int)] H Q := ⟨_, _, rfl, by
  have e : (if (n : Int) < m then (n : Int) else m) = ((min m n : Nat) : Int) := by split <;> omega
  rw [e]
  exact q⟩
theorem rdStrI {i : Int} {n : Nat} (h : i.natAbs < 2 ^ n) (hn : n < 1920) (q : Q (.str (toString i)) H) : rStrI [.int i] H Q := ⟨i, rfl, Nat.lt_of_le_of_lt (log2_le h) hn, q⟩
theorem rdIntB {b : Bool} (q : Q (.int (if b then 1 else 0)) H) : rInt1 [.bl b] H Q := .inr ⟨b, rfl, q⟩
theorem rdAbs {i : Int} (q : Q (.int (i.natAbs : Int)) H) : rAbs1 [.int i] H Q := ⟨i, rfl, by
  have e : (if i < 0 then -i else i) = (i.natAbs : Int) := by split <;> omega
  rw [e]
  exact q⟩
theorem rdLenT {a : Addr} {xs : List V} (h : SqT K H a xs) (q : Q (.int (xs.length : Int)) H) : rLenS K [.ref a] H Q := ⟨a, xs, rfl, .inr h, q⟩
theorem rdLenL {a : Addr} {xs : List V} (h : SqL K H a xs) (q : Q (.int (xs.length : Int)) H) : rLenS K [.ref a] H Q := ⟨a, xs, rfl, .inl h, q⟩
theorem rdListL {a : Addr} {xs : List V} (h : SqL K H a xs) (q : ∀ l, H l = none → Q (.ref l) (upd H l (.lst xs))) : rListOf K [.ref a] H Q := ⟨a, xs, rfl, .inl h, q⟩
theorem rdListT {a : Addr} {xs : List V} (h : SqT K H a xs) (q : ∀ l, H l = none → Q (.ref l) (upd H l (.lst xs))) : rListOf K [.ref a] H Q := ⟨a, xs, rfl, .inr h, q⟩
theorem rdIxT {a : Addr} {xs : List V} {i : Int} {v : V} (h : SqT K H a xs) (e : atI xs i = some v) (q : Q v H) : rIx K (.ref a) (.int i) H Q := .inr (.inl ⟨a, xs, i, v, rfl, rfl, h, e, q⟩)
theorem rdIxL {a : Addr} {xs : List V} {i : Int} {v : V} (h : SqL K H a xs) (e : atI xs i = some v) (q : Q v H) : rIx K (.ref a) (.int i) H Q := .inl ⟨a, xs, i, v, rfl, rfl, h, e, q⟩
theorem ixFr0 {x : V} {r : Rat} (h : Fr K H x r) (q : Q (.int r.num) H) : rIx K x (.int 0) H Q := by
  obtain ⟨a, rfl, hs⟩ := h.get
  exact rdIxT hs rfl q
theorem ixFr1 {x : V} {r : Rat} (h : Fr K H x r) (q : Q (.int (r.den : Int)) H) : rIx K x (.int 1) H Q := by
  obtain ⟨a, rfl, hs⟩ := h.get
  exact rdIxT hs rfl q
theorem dpPair {x : V} {p q : Int} (h : Dp K H x (.tuple [.int p, .int q])) : ∃ a, x = .ref a ∧ SqT K H a [.int p, .int q] := by
  cases h with
  | tup hs ha =>
    cases ha with
    | cons h1 h2 =>
      cases h2 with
      | cons h2 h3 =>
        cases h3
        cases h1
        cases h2
        exact ⟨_, rfl, hs⟩
theorem ixP0 {x : V} {p z : Int} (h : Dp K H x (.tuple [.int p, .int z])) (q : Q (.int p) H) : rIx K x (.int 0) H Q := by
  obtain ⟨a, rfl, hs⟩ := dpPair h
  exact rdIxT hs rfl q
theorem ixP1 {x : V} {p z : Int} (h : Dp K H x (.tuple [.int p, .int z])) (q : Q (.int z) H) : rIx K x (.int 1) H Q := by
  obtain ⟨a, rfl, hs⟩ := dpPair h
  exact rdIxT hs rfl q
theorem rdGcd {a b : Int} (q : Q (.int ((Nat.gcd a.natAbs b.natAbs : Nat) : Int)) H) : rGcd [.int a, .int b] H Q := ⟨a, b, rfl, q⟩
end
/-! loops, the ends by parts -/
theorem forRange {lo : Int} {n : Nat} {g : TG} {tb : TS} {nx : L2.St → Hp → Prop} {rt : VK} {σ : L2.St} {H : Hp} (Pv : Nat → L2.St → Hp → Prop) (h0 : Pv 0 σ H)
    (hs : ∀ i σ H, i < n → Pv i σ H → g (.int (lo + i)) σ H fun σ2 H2 => tb { nx := Pv (i + 1), rt := rt, ct := Pv (i + 1), bk := nx } σ2 H2) (hd : ∀ σ H, Pv n σ H → nx σ H) :
    ∃ W : Nat → Nat → L2.St → Hp → Prop, (∃ m, W 0 m σ H) ∧ ∀ i m σ H, W i m σ H →
      ((Itr lo n).stop i H ∧ nx σ H) ∨ ((Itr lo n).go i H ∧ ∃ N : L2.St → Hp → Prop, (∀ σ' H', N σ' H' → ∃ m', m' < m ∧ W (i + 1) m' σ' H') ∧ ∀ x H', (Itr lo n).yld i H x H' → g x σ H' fun σ2 H2 => tb { nx := N, rt := rt, ct := N, bk := nx } σ2 H2) :=
  for_range (D := { nx := nx, rt := rt }) Pv h0 hs hd
theorem forList {K : PySem.W.Frag} {a : Addr} {xs : List V} {g : TG} {tb : TS} {nx : L2.St → Hp → Prop} {rt : VK} {σ : L2.St} {H : Hp} (Pv : Nat → L2.St → Hp → Prop) (h0 : Pv 0 σ H) (hl : ∀ i σ H, i ≤ xs.length → Pv i σ H → SqL K H a xs)
    (hs : ∀ i x σ H, xs[i]? = some x → Pv i σ H → g x σ H fun σ2 H2 => tb { nx := Pv (i + 1), rt := rt, ct := Pv (i + 1), bk := nx } σ2 H2) (hd : ∀ σ H, Pv xs.length σ H → nx σ H) :
    ∃ W : Nat → Nat → L2.St → Hp → Prop, (∃ m, W 0 m σ H) ∧ ∀ i m σ H, W i m σ H →
      ((Itl K a).stop i H ∧ nx σ H) ∨ ((Itl K a).go i H ∧ ∃ N : L2.St → Hp → Prop, (∀ σ' H', N σ' H' → ∃ m', m' < m ∧ W (i + 1) m' σ' H') ∧ ∀ x H', (Itl K a).yld i H x H' → g x σ H' fun σ2 H2 => tb { nx := N, rt := rt, ct := N, bk := nx } σ2 H2) :=
  for_list (D := { nx := nx, rt := rt }) Pv h0 hl hs hd
theorem noExc {P : Program} {w : World} {H : Hp} {s : Shared} {e : Value} {s' : Shared} (z : L2.CX P w [] H s (fun _ _ _ => False) e s') : False := by
  obtain ⟨_, _, _, _, _, _, _, _, _, _, _, _, z⟩ := z
  exact z.elim
/-! ### isinstance of data, by the type -/
def dInt : PyData → Bool
  | .int _ => true
  | .bool _ => true
  | _ => false
def dBool : PyData → Bool
  | .bool _ => true
  | _ => false
def dStr : PyData → Bool
  | .str _ => true
  | _ => false
def dTup : PyData → Bool
  | .tuple _ => true
  | _ => false
def dLst : PyData → Bool
  | .list _ => true
  | _ => false
section
variable {K : PySem.W.Frag} {H : Hp} {Q : VK} {v : V} {d : PyData}
theorem isiInt (h : Dp K H v d) (q : Q (.bl (dInt d)) H) : rIsi K [v, .ty "int"] H Q := isiD h (by
  cases h with
  | non => exact (by decide +kernel : kitB "NoneType" "int" = some false)
  | bl b => exact (by decide +kernel : kitB "bool" "int" = some true)
  | int i => exact (by decide +kernel : kitB "int" "int" = some true)
  | str x => exact (by decide +kernel : kitB "str" "int" = some false)
  | lst h1 h2 => exact (by decide +kernel : kitB "list" "int" = some false)
  | tup h1 h2 => exact (by decide +kernel : kitB "tuple" "int" = some false)) q
theorem isiBool (h : Dp K H v d) (q : Q (.bl (dBool d)) H) : rIsi K [v, .ty "bool"] H Q := isiD h (by
  cases h with
  | non => exact (by decide +kernel : kitB "NoneType" "bool" = some false)
  | bl b => exact (by decide +kernel : kitB "bool" "bool" = some true)
  | int i => exact (by decide +kernel : kitB "int" "bool" = some false)
  | str x => exact (by decide +kernel : kitB "str" "bool" = some false)
  | lst h1 h2 => exact (by decide +kernel : kitB "list" "bool" = some false)
  | tup h1 h2 => exact (by decide +kernel : kitB "tuple" "bool" = some false)) q
theorem isiStr (h : Dp K H v d) (q : Q (.bl (dStr d)) H) : rIsi K [v, .ty "str"] H Q := isiD h (by
  cases h with
  | non => exact (by decide +kernel : kitB "NoneType" "str" = some false)
  | bl b => exact (by decide +kernel : kitB "bool" "str" = some false)
  | int i => exact (by decide +kernel : kitB "int" "str" = some false)
  | str x => exact (by decide +kernel : kitB "str" "str" = some true)
  | lst h1 h2 => exact (by decide +kernel : kitB "list" "str" = some false)
  | tup h1 h2 => exact (by decide +kernel : kitB "tuple" "str" = some false)) q
theorem isiTup (h : Dp K H v d) (q : Q (.bl (dTup d)) H) : rIsi K [v, .ty "tuple"] H Q := isiD h (by
  cases h with
  | non => exact (by decide +kernel : kitB "NoneType" "tuple" = some false)
  | bl b => exact (by decide +kernel : kitB "bool" "tuple" = some false)
  | int i => exact (by decide +kernel : kitB "int" "tuple" = some false)
  | str x => exact (by decide +kernel : kitB "str" "tuple" = some false)
  | lst h1 h2 => exact (by decide +kernel : kitB "list" "tuple" = some false)
  | tup h1 h2 => exact (by decide +kernel : kitB "tuple" "tuple" = some true)) q
theorem isiLst (h : Dp K H v d) (q : Q (.bl (dLst d)) H) : rIsi K [v, .ty "list"] H Q := isiD h (by
  cases h with
  | non => exact (by decide +kernel : kitB "NoneType" "list" = some false)
  | bl b => exact (by decide +kernel : kitB "bool" "list" = some false)
  | int i => exact (by decide +kernel : kitB "int" "list" = some false)
  | str x => exact (by decide +kernel : kitB "str" "list" = some false)
  | lst h1 h2 => exact (by decide +kernel : kitB "list" "list" = some true)
  | tup h1 h2 => exact (by decide +kernel : kitB "tuple" "list" = some false)) q
end
def dNon : PyData → Bool
  | .none => true
  | _ => false
section
variable {K : PySem.W.Frag} {H : Hp} {Q : VK} {v : V} {d : PyData}
theorem dNon_eq (h : Dp K H v d) : decide (v = .non) = dNon d := by cases h <;> rfl
theorem rdIsN (h : Dp K H v d) (q : Q (.bl (dNon d)) H) : rIsN1 v .non H Q := ⟨rfl, by rw [dNon_eq h]; exact q⟩
theorem rdNotN (h : Dp K H v d) (q : Q (.bl (!dNon d)) H) : rNotN1 v .non H Q := ⟨rfl, by rw [dNon_eq h]; exact q⟩
theorem rdEqB {i j : Bool} (q : Q (.bl (decide (i = j))) H) : rEqA K (.bl i) (.bl j) H Q := .inl <| ⟨rfl, by
  have e : decide (V.bl i = V.bl j) = decide (i = j) := by
    rw [dec_bl]
    exact Bool.beq_eq_decide_eq ..
  rw [e]
  exact q⟩
theorem rdEqS {i j : Str} (q : Q (.bl (decide (i = j))) H) : rEqA K (.str i) (.str j) H Q := .inl <| ⟨rfl, by
  have e : decide (V.str i = V.str j) = decide (i = j) := by
    rw [dec_str]
    exact Bool.beq_eq_decide_eq ..
  rw [e]
  exact q⟩
theorem rdNeS {i j : Str} (q : Q (.bl (!decide (i = j))) H) : rNeA K (.str i) (.str j) H Q := .inl <| ⟨rfl, by
  have e : decide (V.str i = V.str j) = decide (i = j) := by
    rw [dec_str]
    exact Bool.beq_eq_decide_eq ..
  rw [e]
  exact q⟩
end
/-- a display's reading, by name -/
def rTup : List V → Hp → VK → Prop := fun xs H Q => xs.length ≤ sizeLine ∧ ∀ p, H p = none → Q (.ref p) (upd H p (.tup xs))
def rLst : List V → Hp → VK → Prop := fun xs H Q => xs.length ≤ sizeLine ∧ ∀ p, H p = none → Q (.ref p) (upd H p (.lst xs))
def tTupN (t : TA) : TE := fun σ H Q => t σ H fun xs H1 => rTup xs H1 Q
def tLstN (t : TA) : TE := fun σ H Q => t σ H fun xs H1 => rLst xs H1 Q
/-! displays of data: what is laid is new -/
section
variable {K : PySem.W.Frag} {H : Hp} {Q : VK}
theorem rdTupD {xs : List V} {ds : List PyData} (h : DpAll K H xs ds) (hz : xs.length ≤ sizeLine) (q : ∀ H' v, Same H H' → Dp K H' v (.tuple ds) → Q v H') : rTup xs H Q :=
  ⟨hz, fun p np => q _ _ (sameNew np) (.tup (.inl (.inl upd_same)) (Dp.monoAll (sameNew np) _ _ h))⟩
theorem rdLstD {xs : List V} {ds : List PyData} (h : DpAll K H xs ds) (hz : xs.length ≤ sizeLine) (q : ∀ H' v, Same H H' → Dp K H' v (.list ds) → Q v H') : rLst xs H Q :=
  ⟨hz, fun p np => q _ _ (sameNew np) (.lst (.inl (.inl upd_same)) (Dp.monoAll (sameNew np) _ _ h))⟩
/-- a display, its list tracked -/
theorem rdLstH {xs : List V} (hz : xs.length ≤ sizeLine) (q : ∀ H' p, Same H H' → H p = none → H' p = some (.lst xs) → Q (.ref p) H') : rLst xs H Q :=
  ⟨hz, fun p np => q _ _ (sameNew np) np upd_same⟩
end
section
variable {X : Cx} {es : List Expr} {t : TA} {pos : Pos}
theorem pe_tupN {x1} (h : PA X es t) : PE X (.Tuple es x1 pos) (tTupN t) := pe_tup h
theorem pe_lstN (h : PA X es t) : PE X (.List es pos) (tLstN t) := pe_lst h
end
theorem small_line {n : Nat} (h : n ≤ 1000) : n ≤ sizeLine := Nat.le_of_lt (small1000 h)
theorem dpAll_len {K : PySem.W.Frag} {H : Hp} : ∀ {xs : List V} {ds : List PyData}, DpAll K H xs ds → xs.length = ds.length
  | _, _, .nil => rfl
  | _, _, .cons _ h2 => congrArg Nat.succ (dpAll_len h2)
theorem dpAll_two {K : PySem.W.Frag} {H : Hp} {xs : List V} {ds : List PyData} (h : DpAll K H xs ds) (l : ds.length = 2) : ∃ v1 v2 x y, xs = [v1, v2] ∧ ds = [x, y] ∧ Dp K H v1 x ∧ Dp K H v2 y := by
  match ds, h, l with
  | [x, y], .cons (v := v1) g1 (.cons (v := v2) g2 .nil), _ => exact ⟨v1, v2, x, y, rfl, rfl, g1, g2⟩
theorem dTup_of {K : PySem.W.Frag} {H : Hp} {v : V} {d : PyData} (h : Dp K H v d) (t : dTup d = true) : ∃ a xs ds, v = .ref a ∧ d = .tuple ds ∧ SqT K H a xs ∧ DpAll K H xs ds := by
  cases h with
  | tup h1 h2 => exact ⟨_, _, _, rfl, rfl, h1, h2⟩
  | _ => cases t
theorem dInt_of {K : PySem.W.Frag} {H : Hp} {v : V} {i : Int} (h : Dp K H v (.int i)) : v = .int i := by
  cases h
  rfl
/-- all items, as a conjunction -/
def allP {α : Type} (P : α → Prop) : List α → Prop
  | [] => True
  | x :: xs => P x ∧ allP P xs
theorem allP_get {α : Type} {P : α → Prop} : ∀ {xs : List α} {i : Nat} {x : α}, allP P xs → xs[i]? = some x → P x
  | [], _, _, _, h => by simp at h
  | y :: r, 0, x, a, h => by
    simp at h
    subst h
    exact a.1
  | y :: r, i + 1, x, a, h => allP_get (i := i) a.2 (by simpa using h)
theorem frD_int (p : Int) : frD (Rat.divInt p 1) = .tuple [.int p, .int 1] := by
  unfold frD
  rw [← num_pos (p := p) (q := 1) (by decide), ← den_pos (p := p) (q := 1) (by decide)]
  have e : Nat.gcd p.natAbs (1 : Int).natAbs = 1 := Nat.gcd_one_right _
  rw [e]
  simp
theorem fr_int {K : PySem.W.Frag} {H : Hp} {v : V} {p : Int} (h : Dp K H v (.tuple [.int p, .int 1])) : Fr K H v (Rat.divInt p 1) := by
  unfold Fr
  rw [frD_int]
  exact h
/-- the law's end, for defs that may raise (the wish of the caller: nothing is let out) -/
theorem endOfLaw {l : PySem.W.OpenLaw} {n k : Nat} {q : Program} {loose : List Str} {XP : (Str → Option Value) → Heap → Prop} {YP : World → Heap → Prop} {d : DefRec} {x : Str}
    (most : l.most = some n) (small : n ≤ sizeLine) (plain : d.params.defaults = []) (room : Room k callerA)
    (all : ∀ (w : World) (mg : Str → Option Value) (fa : Addr) (h : Heap), YP w h → h.Ns mainGlobals mg → mg d.name = some (.ref fa) → ∃ (K : PySem.W.Frag) (fd : FuncData) (sp : Sp), K.In h ∧
      (∀ (s : Shared) (u : Value), BindsTo s fd ⟨[u], []⟩ [(x, u)]) ∧ (∀ (H : Hp) (a : Addr) (ns : List Int), ns.length ≤ n → Only H → SqL K H a (ns.map V.int) → sp [.ref a] H (fun v _ => v = .bl true) E0) ∧
      ∀ base : Heap, K.In base → base.Ns mainGlobals mg → FnOk l.prog w K mg base (L2.CX l.prog w) k fa fd [x] sp) :
    PySem.W.WalkO q loose XP YP l.row.toRowW d [] (fun f vs => PySem.call f vs) := by
  refine Att.attach_call most plain fun w sA sB mg mb fa o pm cd doc a vs ns G Y h1 h2 h3 hm ha hi len hg => ?_
  obtain ⟨K, fd, sp, kin, bnd, want, ok⟩ := all w mg fa _ Y G.T.g hm
  refine law_call kin G.T.g G.T.b G.T.builtins G.T.nolimit hg ha hi (Nat.le_trans len small) room ok bnd (fun H o S => want H a ns len o S) fun H e s' => noExc
theorem shaped_fr (r : Rat) : SeqAt.shaped (frD r) = true := rfl
theorem eqv_fr (r s : Rat) : PyData.eqv (frD r) (frD s) = decide (r = s) := by
  have e : PyData.eqv (frD r) (frD s) = ((r.num == s.num) && (((r.den : Int) == (s.den : Int)) && true)) := rfl
  rw [e, Bool.and_true, Bool.eq_iff_iff, decide_eq_true_iff, Bool.and_eq_true, beq_iff_eq, beq_iff_eq]
  exact ⟨fun h => Rat.ext h.1 (by omega), fun h => by rw [h]; exact ⟨rfl, rfl⟩⟩
section
variable {K : PySem.W.Frag} {H : Hp} {Q : VK} {x y : V} {r s : Rat}
theorem rdEqFr (h1 : Fr K H x r) (h2 : Fr K H y s) (q : Q (.bl (decide (r = s))) H) : rEqA K x y H Q := .inr ⟨_, _, h1, h2, shaped_fr r, shaped_fr s, by rw [eqv_fr]; exact q⟩
theorem rdNeFr (h1 : Fr K H x r) (h2 : Fr K H y s) (q : Q (.bl (!decide (r = s))) H) : rNeA K x y H Q := .inr ⟨_, _, h1, h2, shaped_fr r, shaped_fr s, by rw [eqv_fr]; exact q⟩
end
theorem line2 : 2 ≤ sizeLine := by decide
theorem line1 : 1 ≤ sizeLine := by decide
theorem line3 : 3 ≤ sizeLine := by decide
theorem line4 : 4 ≤ sizeLine := by decide
/-- an if whose test is a Bool -/
theorem ifB {b : Bool} {A B : Prop} (h1 : b = true → A) (h2 : b = false → B) : if b = true then A else B := by
  cases b with
  | true => exact h1 rfl
  | false => exact iteF (h2 rfl)
theorem ifBF {b : Bool} {A B : Prop} (h : b = false) (q : B) : if b = true then A else B := by
  rw [h]
  exact iteF q
theorem ifNe {c : Prop} [Decidable c] {A B : Prop} (h : c) (q : B) : if (!decide c) = true then A else B := ifBF (by rw [decide_eq_true h]; rfl) q
theorem ifYes {c : Prop} [Decidable c] {A B : Prop} (h : c) (q : A) : if decide c = true then A else B := by
  rw [decide_eq_true h]
  exact iteT q
theorem ifNo {c : Prop} [Decidable c] {A B : Prop} (h : ¬c) (q : B) : if decide c = true then A else B := by
  rw [decide_eq_false h]
  exact iteF q
theorem ifP {c : Prop} [Decidable c] {A B : Prop} (h : c) (q : A) : if c then A else B := by
  rw [if_pos h]
  exact q
theorem ifN {c : Prop} [Decidable c] {A B : Prop} (h : ¬c) (q : B) : if c then A else B := by
  rw [if_neg h]
  exact q
theorem ifBT {b : Bool} {A B : Prop} (h : b = true) (q : A) : if b = true then A else B := by
  rw [h]
  exact iteT q
theorem ifD {c : Prop} [Decidable c] {A B : Prop} (h1 : c → A) (h2 : ¬c → B) : if decide c = true then A else B := by
  by_cases h : c
  · rw [decide_eq_true h]
    exact h1 h
  · rw [decide_eq_false h]
    exact iteF (h2 h)
end Ub

namespace Ub
open PySem PySem.Spec PyProof.Rows L2 UbM
/-! ### the law's deck: a list [cells, place, rest, seed] -/
/-- all stands but what is at d -/
def But (d : Addr) (H H' : Hp) : Prop := ∀ b o, b ≠ d → H b = some o → H' b = some o
/-- the deck at d, its cells at s -/
def DeckS (H : Hp) (d s : Addr) : Prop := ∃ (ns : List Int) (i r m : Int), H d = some (.lst [.ref s, .int i, .int r, .int m]) ∧ H s = some (.lst (ns.map V.int)) ∧ s ≠ d ∧ 0 ≤ i ∧ ns.length ≤ 63
/-- what a draw leaves: all but the deck's own list; the deck keeps its cells -/
structure SameX (d : Addr) (H H' : Hp) : Prop where
  but : But d H H'
  cells : ∀ s, DeckS H d s → DeckS H' d s
theorem SameX.refl {d : Addr} (H : Hp) : SameX d H H := ⟨fun _ _ _ h => h, fun _ h => h⟩
theorem SameX.trans {d : Addr} {H H1 H2 : Hp} (a : SameX d H H1) (b : SameX d H1 H2) : SameX d H H2 := ⟨fun c o n h => b.but c o n (a.but c o n h), fun s h => b.cells s (a.cells s h)⟩
theorem Same.x {d : Addr} {H H' : Hp} (a : Same H H') : SameX d H H' := ⟨fun b o _ h => a b o h, fun s ⟨ns, i, r, m, h1, h2, h3⟩ => ⟨ns, i, r, m, a _ _ h1, a _ _ h2, h3⟩⟩
theorem but_upd {d : Addr} {H : Hp} {o : HO} : But d H (upd H d o) := fun b x n h => by
  rw [upd_ne n]
  exact h
theorem sameX_deck {d s : Addr} {H : Hp} {i r m : Int} {j t k : Int} (h : H d = some (.lst [.ref s, .int j, .int t, .int k])) (hi : 0 ≤ i) : SameX d H (upd H d (.lst [.ref s, .int i, .int r, .int m])) :=
  ⟨but_upd, fun s' ⟨ns, i', r', m', h1, h2, h3, _, h5⟩ => by
    rw [h] at h1
    cases h1
    exact ⟨ns, i, r, m, upd_same, by rw [upd_ne h3]; exact h2, h3, hi, h5⟩⟩
structure Deck (H : Hp) (d : Addr) : Prop where
  ex : ∃ (s : Addr) (ns : List Int) (i r m : Int), H d = some (.lst [.ref s, .int i, .int r, .int m]) ∧ H s = some (.lst (ns.map V.int)) ∧ s ≠ d ∧ 0 ≤ i ∧ ns.length ≤ 63
theorem Deck.mono {H H' : Hp} {d : Addr} (D : Deck H d) (e : Same H H') : Deck H' d := by
  obtain ⟨s, ns, i, r, m, h1, h2, h3, h4, h5⟩ := D.ex
  exact ⟨s, ns, i, r, m, e _ _ h1, e _ _ h2, h3, h4, h5⟩
/-- no list in it -/
def noL : PyData → Bool
  | .none | .bool _ | .int _ | .str _ => true
  | .list _ | .dict _ => false
  | .tuple ds => decide (ds.length ≤ 1000) && noLs ds
where noLs : List PyData → Bool
  | [] => true
  | d :: ds => noL d && noLs ds
theorem tseqX {K : PySem.W.Frag} {H H' : Hp} {d a : Addr} {xs : List V} (e : But d H H') (hd : ∃ ys, H d = some (.lst ys)) (h : SqT K H a xs) : SqT K H' a xs := by
  obtain ⟨ys, hd⟩ := hd
  rcases h with (h | ⟨o, h⟩) | h
  · exact .inl (.inl (e _ _ (ne_of h hd (by intro z; cases z)) h))
  · exact .inl (.inr ⟨o, e _ _ (ne_of h hd (by intro z; cases z)) h⟩)
  · exact .inr h
mutual
theorem Dp.monoX {K : PySem.W.Frag} {H H' : Hp} {d : Addr} (e : But d H H') (hd : ∃ ys, H d = some (.lst ys)) : ∀ (dt : PyData) (v : V), noL dt = true → Dp K H v dt → Dp K H' v dt
  | .none, _, _, h => by cases h; exact .non
  | .bool b, _, _, h => by cases h; exact .bl b
  | .int i, _, _, h => by cases h; exact .int i
  | .str x, _, _, h => by cases h; exact .str x
  | .list ds, _, n, _ => by
    unfold noL at n
    cases n
  | .tuple ds, _, n, h => by
    cases h with
    | tup hs ha => exact .tup (tseqX e hd hs) (Dp.monoXAll e hd ds _ (by unfold noL at n; exact (Bool.and_eq_true_iff.mp n).2) ha)
  | .dict _, _, _, h => by cases h
theorem Dp.monoXAll {K : PySem.W.Frag} {H H' : Hp} {d : Addr} (e : But d H H') (hd : ∃ ys, H d = some (.lst ys)) : ∀ (ds : List PyData) (vs : List V), noL.noLs ds = true → DpAll K H vs ds → DpAll K H' vs ds
  | [], _, _, h => by cases h; exact .nil
  | dt :: ds, _, n, h => by
    unfold noL.noLs at n
    obtain ⟨n1, n2⟩ := Bool.and_eq_true_iff.mp n
    cases h with
    | cons h1 h2 => exact .cons (Dp.monoX e hd dt _ n1 h1) (Dp.monoXAll e hd ds _ n2 h2)
end
theorem Deck.lst {H : Hp} {d : Addr} (D : Deck H d) : ∃ ys, H d = some (.lst ys) := by
  obtain ⟨s, ns, i, r, m, h1, _⟩ := D.ex
  exact ⟨_, h1⟩
theorem Fr.monoX {K : PySem.W.Frag} {H H' : Hp} {d : Addr} {v : V} {r : Rat} (h : Fr K H v r) (e : SameX d H H') (D : Deck H d) : Fr K H' v r := Dp.monoX e.but D.lst _ _ rfl h
theorem Deck.cells {H : Hp} {d : Addr} (D : Deck H d) : ∃ s, DeckS H d s := by
  obtain ⟨s, ns, i, r, m, h⟩ := D.ex
  exact ⟨s, ns, i, r, m, h⟩
theorem DeckS.deck {H : Hp} {d s : Addr} (h : DeckS H d s) : Deck H d := by
  obtain ⟨ns, i, r, m, h⟩ := h
  exact ⟨s, ns, i, r, m, h⟩
/-- a list that was laid later than the deck is changed: the deck stands -/
theorem DeckS.upd {H H' : Hp} {d s a : Addr} {o : HO} (h0 : DeckS H d s) (h : DeckS H' d s) (ha : H a = none) : DeckS (upd H' a o) d s := by
  obtain ⟨_, _, _, _, g1, g2, _⟩ := h0
  obtain ⟨ns, i, r, m, h1, h2, h3⟩ := h
  exact ⟨ns, i, r, m, by rw [upd_ne (ne_of_none g1 ha)]; exact h1, by rw [upd_ne (ne_of_none g2 ha)]; exact h2, h3⟩
theorem SameX.upd {H H' : Hp} {d a : Addr} {o : HO} (h : SameX d H H') (ha : H a = none) : SameX d H (upd H' a o) := ⟨fun b x n e => by
  rw [upd_ne (ne_of_none e ha)]
  exact h.but _ _ n e, fun s hs => hs.upd (h.cells s hs) ha⟩
section
variable {K : PySem.W.Frag} {H : Hp} {Q : VK}
theorem rdSetL {p : Addr} {xs : List V} {k : Int} {j : Nat} {v : V} {Q : Hp → Prop} (h : H p = some (.lst xs)) (e : ixN xs.length k = some j) (q : Q (upd H p (.lst (xs.set j v)))) : rSetL (.ref p) (.int k) v H Q := ⟨p, xs, k, j, rfl, rfl, h, e, q⟩
theorem rdSetU {p : Addr} {xs : List V} {k : Int} {j : Nat} {v : V} {Q : Hp → Prop} (e : ixN xs.length k = some j) (q : Q (upd H p (.lst (xs.set j v)))) : rSetL (.ref p) (.int k) v (upd H p (.lst xs)) Q := ⟨p, xs, k, j, rfl, rfl, upd_same, e, by rw [upd_upd]; exact q⟩
end
theorem lt_pow {a b : Nat} (h : a ≤ b) : (2 : Nat) ^ a ≤ 2 ^ b := Nat.pow_le_pow_right (by decide) h
end Ub

namespace Ub
open PySem PySem.Spec PyProof.Rows L2 UbM
/-! ### lists of fractions -/
def sumR (rs : List Rat) : Rat := rs.foldl (· + ·) 0
theorem sumR_take {rs : List Rat} {i : Nat} {r : Rat} (h : rs[i]? = some r) : sumR (rs.take (i + 1)) = sumR (rs.take i) + r := by
  unfold sumR
  obtain ⟨hi, e⟩ := List.getElem?_eq_some_iff.mp h
  rw [List.take_succ_eq_append_getElem hi, List.foldl_append, e]
  rfl
theorem bd_zero : Bd 1 (0 : Rat) := ⟨by decide, by decide⟩
theorem bd_sum {n : Nat} : ∀ (rs : List Rat) (m : Nat) (r : Rat), Bd m r → (∀ x ∈ rs, Bd n x) → Bd (m + rs.length * (n + 1)) (rs.foldl (· + ·) r)
  | [], m, r, h, _ => by simpa using h
  | x :: rs, m, r, h, hx => by
    have h1 := bd_sum rs (m + n + 1) (r + x) (bd_add h (hx x (List.mem_cons_self ..))) fun y hy => hx y (List.mem_cons_of_mem _ hy)
    refine h1.mono ?_
    rw [List.length_cons, Nat.succ_mul]
    omega
theorem bd_sumR {n : Nat} {rs : List Rat} (h : ∀ x ∈ rs, Bd n x) : Bd (1 + rs.length * (n + 1)) (sumR rs) := bd_sum rs 1 0 bd_zero h
def dotR (rs ss : List Rat) : Rat := sumR (List.zipWith (· * ·) rs ss)
theorem zip_at {rs ss : List Rat} {i : Nat} {r s : Rat} (h1 : rs[i]? = some r) (h2 : ss[i]? = some s) : (List.zipWith (· * ·) rs ss)[i]? = some (r * s) := by
  rw [List.getElem?_zipWith, h1, h2]
theorem bd_zip {n : Nat} {rs ss : List Rat} (h1 : ∀ x ∈ rs, Bd n x) (h2 : ∀ x ∈ ss, Bd n x) : ∀ x ∈ List.zipWith (· * ·) rs ss, Bd (n + n) x := by
  intro x hx
  obtain ⟨i, hi, e⟩ := List.getElem_of_mem hx
  rw [List.getElem_zipWith] at e
  rw [← e]
  exact bd_mul (h1 _ (List.getElem_mem _)) (h2 _ (List.getElem_mem _))
theorem take_bd {n : Nat} {rs : List Rat} (h : ∀ x ∈ rs, Bd n x) (i : Nat) : ∀ x ∈ rs.take i, Bd n x := fun x hx => h x (List.mem_of_mem_take hx)
/-- the place of the first fraction that no later one is beaten by: w = -1 the least, w = 1 the greatest -/
def pick (w : Int) (rs : List Rat) : Nat → Option Nat
  | 0 => none
  | i + 1 => match pick w rs i with
    | none => some i
    | some j => if cmpR (rs.getD i 0) (rs.getD j 0) = w then some i else some j
theorem pick_lt {w : Int} {rs : List Rat} : ∀ {i j : Nat}, pick w rs i = some j → j < i
  | 0, j, h => by cases h
  | i + 1, j, h => by
    unfold pick at h
    split at h
    · cases h
      omega
    · rename_i j0 e
      have := pick_lt e
      split at h
      · cases h
        omega
      · cases h
        omega
def optV : Option Nat → V
  | none => .non
  | some k => .int (k : Int)
def optD : Option Nat → PyData
  | none => .none
  | some k => .int (k : Int)
theorem dp_opt {K : PySem.W.Frag} {H : Hp} (o : Option Nat) : Dp K H (optV o) (optD o) := by
  cases o with
  | none => exact .non
  | some k => exact .int _
theorem frs_get {K : PySem.W.Frag} {H : Hp} {xs : List V} : ∀ {rs : List Rat} {xs : List V} {i : Nat} {r : Rat}, DpAll K H xs (rs.map frD) → rs[i]? = some r → ∃ v, xs[i]? = some v ∧ Fr K H v r
  | [], _, _, _, _, h => by simp at h
  | r0 :: rs, _, 0, r, .cons h1 _, h => by
    simp at h
    subst h
    exact ⟨_, rfl, h1⟩
  | r0 :: rs, _, i + 1, r, .cons _ h2, h => by
    obtain ⟨v, e, q⟩ := frs_get (xs := []) (i := i) (r := r) h2 (by simpa using h)
    exact ⟨v, by simpa using e, q⟩
theorem frs_at {K : PySem.W.Frag} {H : Hp} : ∀ {rs : List Rat} {xs : List V} {i : Nat} {v : V}, DpAll K H xs (rs.map frD) → xs[i]? = some v → ∃ r, rs[i]? = some r ∧ Fr K H v r
  | [], _, _, _, h, e => by
    cases h
    simp at e
  | r0 :: rs, _, 0, v, .cons h1 _, h => by
    simp at h
    subst h
    exact ⟨_, rfl, h1⟩
  | r0 :: rs, _, i + 1, v, .cons _ h2, h => by
    obtain ⟨r, e, q⟩ := frs_at (i := i) (v := v) h2 (by simpa using h)
    exact ⟨r, by simpa using e, q⟩
/-- v is a list of the fractions rs -/
def Frs (K : PySem.W.Frag) (H : Hp) (v : V) (rs : List Rat) : Prop := Dp K H v (.list (rs.map frD))
theorem Frs.mono {K : PySem.W.Frag} {H H' : Hp} {v : V} {rs : List Rat} (e : Same H H') (h : Frs K H v rs) : Frs K H' v rs := Dp.mono e _ _ h
theorem Frs.get {K : PySem.W.Frag} {H : Hp} {v : V} {rs : List Rat} (h : Frs K H v rs) : ∃ a xs, v = .ref a ∧ SqL K H a xs ∧ DpAll K H xs (rs.map frD) := by
  unfold Frs at h
  cases h with
  | lst h1 h2 => exact ⟨_, _, rfl, h1, h2⟩
theorem frs_len {K : PySem.W.Frag} {H : Hp} {xs : List V} {rs : List Rat} (h : DpAll K H xs (rs.map frD)) : xs.length = rs.length := by
  have := dpAll_len h
  rw [List.length_map] at this
  exact this
theorem canLay_frs : ∀ rs : List Rat, PyData.canLayAll0 (rs.map frD) = true
  | [] => rfl
  | r :: rs => by
    show (PyData.canLay0 (frD r) && PyData.canLayAll0 (rs.map frD)) = true
    rw [canLay_frs rs]
    rfl
theorem depth_frs : ∀ rs : List Rat, PyData.depthAll (rs.map frD) ≤ 1
  | [] => Nat.zero_le _
  | r :: rs => by
    show max (PyData.depth (frD r)) (PyData.depthAll (rs.map frD)) ≤ 1
    have h1 := depth_frs rs
    have h2 : PyData.depth (frD r) = 1 := rfl
    omega
theorem shaped_frs (rs : List Rat) : SeqAt.shaped (.list (rs.map frD)) = true := by
  show (PyData.canLayAll0 (rs.map frD) && decide (PyData.depthAll (rs.map frD) + 1 ≤ 64)) = true
  rw [canLay_frs, decide_eq_true (by have := depth_frs rs; omega)]
  rfl
theorem noL_frs : ∀ rs : List Rat, noL.noLs (rs.map frD) = true
  | [] => rfl
  | r :: rs => by
    show (noL (frD r) && noL.noLs (rs.map frD)) = true
    rw [noL_frs rs]
    rfl
/-- a tracked list of fractions, apart from the deck -/
structure Own (K : PySem.W.Frag) (H : Hp) (d a : Addr) (rs : List Rat) : Prop where
  ex : ∃ xs, H a = some (.lst xs) ∧ a ≠ d ∧ DpAll K H xs (rs.map frD)
theorem Own.frs {K : PySem.W.Frag} {H : Hp} {d a : Addr} {rs : List Rat} (h : Own K H d a rs) : Frs K H (.ref a) rs := by
  obtain ⟨xs, h1, _, h2⟩ := h.ex
  exact .lst (.inl (.inl h1)) h2
theorem Own.monoX {K : PySem.W.Frag} {H H' : Hp} {d a : Addr} {rs : List Rat} (h : Own K H d a rs) (e : SameX d H H') (D : Deck H d) : Own K H' d a rs := by
  obtain ⟨xs, h1, h2, h3⟩ := h.ex
  exact ⟨xs, e.but _ _ h2 h1, h2, Dp.monoXAll e.but D.lst _ _ (noL_frs rs) h3⟩
theorem Own.mono {K : PySem.W.Frag} {H H' : Hp} {d a : Addr} {rs : List Rat} (h : Own K H d a rs) (e : Same H H') : Own K H' d a rs := by
  obtain ⟨xs, h1, h2, h3⟩ := h.ex
  exact ⟨xs, e _ _ h1, h2, Dp.monoAll e _ _ h3⟩
theorem tseq_upd {K : PySem.W.Frag} {H : Hp} {p a : Addr} {xs ys zs : List V} (h : SqT K H a xs) (hp : H p = some (.lst ys)) : SqT K (upd H p (.lst zs)) a xs := by
  rcases h with (h | ⟨o, h⟩) | h
  · exact .inl (.inl (by rw [upd_ne (ne_of h hp (by intro z; cases z))]; exact h))
  · exact .inl (.inr ⟨o, by rw [upd_ne (ne_of h hp (by intro z; cases z))]; exact h⟩)
  · exact .inr h
theorem Own.push {K : PySem.W.Frag} {H : Hp} {d a : Addr} {rs : List Rat} {v : V} {r : Rat} {xs : List V} (h1 : H a = some (.lst xs)) (h2 : a ≠ d) (h3 : DpAll K H xs (rs.map frD)) (hv : Fr K H v r) : Own K (upd H a (.lst (xs ++ [v]))) d a (rs ++ [r]) := by
  refine ⟨_, upd_same, h2, ?_⟩
  have e : But a H (upd H a (.lst (xs ++ [v]))) := but_upd
  have g := Dp.monoXAll e ⟨_, h1⟩ _ _ (noL_frs rs) h3
  have gv := Dp.monoX e ⟨_, h1⟩ (frD r) v rfl hv
  rw [List.map_append]
  exact app g gv
where
  app {K : PySem.W.Frag} {H : Hp} : ∀ {xs : List V} {ds : List PyData} {v : V} {d : PyData}, DpAll K H xs ds → Dp K H v d → DpAll K H (xs ++ [v]) (ds ++ [d])
    | _, _, _, _, .nil, h => .cons h .nil
    | _, _, _, _, .cons h1 h2, h => .cons h1 (app h2 h)
theorem dpAll_snoc {K : PySem.W.Frag} {H : Hp} {xs : List V} {ds : List PyData} {v : V} {d : PyData} (h : DpAll K H xs ds) (h2 : Dp K H v d) : DpAll K H (xs ++ [v]) (ds ++ [d]) := Own.push.app h h2
/-! ### loops over two lists, over a list with its places -/
theorem forZip {K : PySem.W.Frag} {a b : Addr} {xs ys : List V} {g : TG} {tb : TS} {nx : L2.St → Hp → Prop} {rt : VK} {σ : L2.St} {H : Hp} (Pv : Nat → L2.St → Hp → Prop) (h0 : Pv 0 σ H) (hl : ∀ i σ H, Pv i σ H → SqL K H a xs ∧ SqL K H b ys)
    (hs : ∀ i x y σ H T, xs[i]? = some x → ys[i]? = some y → Pv i σ H → H T = none → g (.ref T) σ (upd H T (.tup [x, y])) fun σ2 H2 => tb { nx := Pv (i + 1), rt := rt, ct := Pv (i + 1), bk := nx } σ2 H2) (hd : ∀ σ H, Pv (min xs.length ys.length) σ H → nx σ H) :
    ∃ W : Nat → Nat → L2.St → Hp → Prop, (∃ m, W 0 m σ H) ∧ ∀ i m σ H, W i m σ H →
      ((Itz K a b).stop i H ∧ nx σ H) ∨ ((Itz K a b).go i H ∧ ∃ N : L2.St → Hp → Prop, (∀ σ' H', N σ' H' → ∃ m', m' < m ∧ W (i + 1) m' σ' H') ∧ ∀ x H', (Itz K a b).yld i H x H' → g x σ H' fun σ2 H2 => tb { nx := N, rt := rt, ct := N, bk := nx } σ2 H2) := by
  refine ⟨fun i m σ H => m = min xs.length ys.length - i ∧ i ≤ min xs.length ys.length ∧ Pv i σ H, ⟨_, rfl, Nat.zero_le _, h0⟩, ?_⟩
  rintro i m σ H ⟨rfl, hi, p⟩
  obtain ⟨q1, q2⟩ := hl i σ H p
  by_cases hlt : i < min xs.length ys.length
  · have l1 : i < xs.length := by omega
    have l2 : i < ys.length := by omega
    refine .inr ⟨⟨xs, ys, xs[i], ys[i], q1, q2, List.getElem?_eq_getElem l1, List.getElem?_eq_getElem l2⟩, Pv (i + 1), fun σ' H' p' => ⟨_, ?_, rfl, hlt, p'⟩, fun x H' yl => ?_⟩
    · omega
    · obtain ⟨T, x1, y1, rfl, nT, rfl, f1, f2⟩ := yl
      exact hs i x1 y1 σ H T (f1 _ q1) (f2 _ q2) p nT
  · have e : i = min xs.length ys.length := by omega
    refine .inl ⟨⟨xs, ys, q1, q2, by omega⟩, hd σ H (e ▸ p)⟩
theorem forEnum {K : PySem.W.Frag} {a : Addr} {xs : List V} {g : TG} {tb : TS} {nx : L2.St → Hp → Prop} {rt : VK} {σ : L2.St} {H : Hp} (Pv : Nat → L2.St → Hp → Prop) (h0 : Pv 0 σ H) (hl : ∀ i σ H, Pv i σ H → SqL K H a xs)
    (hs : ∀ i x σ H T, xs[i]? = some x → Pv i σ H → H T = none → g (.ref T) σ (upd H T (.tup [.int (i : Nat), x])) fun σ2 H2 => tb { nx := Pv (i + 1), rt := rt, ct := Pv (i + 1), bk := nx } σ2 H2) (hd : ∀ σ H, Pv xs.length σ H → nx σ H) :
    ∃ W : Nat → Nat → L2.St → Hp → Prop, (∃ m, W 0 m σ H) ∧ ∀ i m σ H, W i m σ H →
      ((Ite K a).stop i H ∧ nx σ H) ∨ ((Ite K a).go i H ∧ ∃ N : L2.St → Hp → Prop, (∀ σ' H', N σ' H' → ∃ m', m' < m ∧ W (i + 1) m' σ' H') ∧ ∀ x H', (Ite K a).yld i H x H' → g x σ H' fun σ2 H2 => tb { nx := N, rt := rt, ct := N, bk := nx } σ2 H2) := by
  refine ⟨fun i m σ H => m = xs.length - i ∧ i ≤ xs.length ∧ Pv i σ H, ⟨_, rfl, Nat.zero_le _, h0⟩, ?_⟩
  rintro i m σ H ⟨rfl, hi, p⟩
  have q1 := hl i σ H p
  by_cases hlt : i < xs.length
  · refine .inr ⟨⟨xs, xs[i], q1, List.getElem?_eq_getElem hlt⟩, Pv (i + 1), fun σ' H' p' => ⟨_, ?_, rfl, hlt, p'⟩, fun x H' yl => ?_⟩
    · omega
    · obtain ⟨T, x1, rfl, nT, rfl, f1⟩ := yl
      exact hs i x1 σ H T (f1 _ q1) p nT
  · have e : i = xs.length := by omega
    refine .inl ⟨⟨xs, q1, by omega⟩, hd σ H (e ▸ p)⟩
end Ub

namespace UbK
open PySem PySem.Spec PyProof.Rows L2 Ub UbM 
def topS (i : Nat) : Stmt := PySem.Challenge.pw_unbent_k03_lists_of_fractions.main.body.getD i (.Pass ⟨0, 0, 0, 0⟩)
def topM (i j : Nat) : Stmt := match topS i with
  | .ClassDef _ _ _ body _ _ _ _ _ _ _ => body.getD j (.Pass ⟨0, 0, 0, 0⟩)
  | _ => .Pass ⟨0, 0, 0, 0⟩
abbrev s_make : Stmt := topS 5
abbrev N_make : List Str := ["p", "q", "common"]
theorem sc_make : FnScope N_make ["p", "q"] (defScope s_make) := ⟨rfl, rfl, rfl, by decide +kernel, rfl, by decide +kernel, by decide +kernel⟩
abbrev s__law_deck : Stmt := topS 15
abbrev N__law_deck : List Str := ["script"]
theorem sc__law_deck : FnScope N__law_deck ["script"] (defScope s__law_deck) := ⟨rfl, rfl, rfl, by decide +kernel, rfl, by decide +kernel, by decide +kernel⟩
abbrev s__law_draw : Stmt := topS 16
abbrev N__law_draw : List Str := ["deck", "most", "value", "cell"]
theorem sc__law_draw : FnScope N__law_draw ["deck", "most"] (defScope s__law_draw) := ⟨rfl, rfl, rfl, by decide +kernel, rfl, by decide +kernel, by decide +kernel⟩
abbrev s__law_gcd : Stmt := topS 18
abbrev N__law_gcd : List Str := ["a", "b", "k", "rest"]
theorem sc__law_gcd : FnScope N__law_gcd ["a", "b"] (defScope s__law_gcd) := ⟨rfl, rfl, rfl, by decide +kernel, rfl, by decide +kernel, by decide +kernel⟩
abbrev s__law_ratio : Stmt := topS 19
abbrev N__law_ratio : List Str := ["p", "q", "divisor"]
theorem sc__law_ratio : FnScope N__law_ratio ["p", "q"] (defScope s__law_ratio) := ⟨rfl, rfl, rfl, by decide +kernel, rfl, by decide +kernel, by decide +kernel⟩
abbrev s__law_same : Stmt := topS 17
abbrev N__law_same : List Str := ["actual", "due", "k"]
theorem sc__law_same : FnScope N__law_same ["actual", "due"] (defScope s__law_same) := ⟨rfl, rfl, rfl, by decide +kernel, rfl, by decide +kernel, by decide +kernel⟩
abbrev s_add : Stmt := topS 6
abbrev N_add : List Str := ["a", "b"]
theorem sc_add : FnScope N_add ["a", "b"] (defScope s_add) := ⟨rfl, rfl, rfl, by decide +kernel, rfl, by decide +kernel, by decide +kernel⟩
abbrev s_multiply : Stmt := topS 7
abbrev N_multiply : List Str := ["a", "b"]
theorem sc_multiply : FnScope N_multiply ["a", "b"] (defScope s_multiply) := ⟨rfl, rfl, rfl, by decide +kernel, rfl, by decide +kernel, by decide +kernel⟩
abbrev s_sign : Stmt := topS 8
abbrev N_sign : List Str := ["a"]
theorem sc_sign : FnScope N_sign ["a"] (defScope s_sign) := ⟨rfl, rfl, rfl, by decide +kernel, rfl, by decide +kernel, by decide +kernel⟩
abbrev s_compare : Stmt := topS 9
abbrev N_compare : List Str := ["a", "b"]
theorem sc_compare : FnScope N_compare ["a", "b"] (defScope s_compare) := ⟨rfl, rfl, rfl, by decide +kernel, rfl, by decide +kernel, by decide +kernel⟩
abbrev s__law_add : Stmt := topS 20
abbrev N__law_add : List Str := ["a", "b"]
theorem sc__law_add : FnScope N__law_add ["a", "b"] (defScope s__law_add) := ⟨rfl, rfl, rfl, by decide +kernel, rfl, by decide +kernel, by decide +kernel⟩
abbrev s__law_times : Stmt := topS 21
abbrev N__law_times : List Str := ["a", "b"]
theorem sc__law_times : FnScope N__law_times ["a", "b"] (defScope s__law_times) := ⟨rfl, rfl, rfl, by decide +kernel, rfl, by decide +kernel, by decide +kernel⟩
abbrev s__law_order : Stmt := topS 22
abbrev N__law_order : List Str := ["a", "b", "difference"]
theorem sc__law_order : FnScope N__law_order ["a", "b"] (defScope s__law_order) := ⟨rfl, rfl, rfl, by decide +kernel, rfl, by decide +kernel, by decide +kernel⟩
abbrev s_total : Stmt := topS 10
abbrev N_total : List Str := ["values", "found", "item"]
theorem sc_total : FnScope N_total ["values"] (defScope s_total) := ⟨rfl, rfl, rfl, by decide +kernel, rfl, by decide +kernel, by decide +kernel⟩
abbrev s__law_total : Stmt := topS 23
abbrev N__law_total : List Str := ["values", "result", "value"]
theorem sc__law_total : FnScope N__law_total ["values"] (defScope s__law_total) := ⟨rfl, rfl, rfl, by decide +kernel, rfl, by decide +kernel, by decide +kernel⟩
abbrev s_dot : Stmt := topS 11
abbrev N_dot : List Str := ["first", "second", "found", "a", "b"]
theorem sc_dot : FnScope N_dot ["first", "second"] (defScope s_dot) := ⟨rfl, rfl, rfl, by decide +kernel, rfl, by decide +kernel, by decide +kernel⟩
abbrev s_least_index : Stmt := topS 12
abbrev N_least_index : List Str := ["values", "found", "at", "item"]
theorem sc_least_index : FnScope N_least_index ["values"] (defScope s_least_index) := ⟨rfl, rfl, rfl, by decide +kernel, rfl, by decide +kernel, by decide +kernel⟩
abbrev s_greatest_index : Stmt := topS 13
abbrev N_greatest_index : List Str := ["values", "found", "at", "item"]
theorem sc_greatest_index : FnScope N_greatest_index ["values"] (defScope s_greatest_index) := ⟨rfl, rfl, rfl, by decide +kernel, rfl, by decide +kernel, by decide +kernel⟩
abbrev s__law_dot : Stmt := topS 24
abbrev N__law_dot : List Str := ["first", "second", "k"]
theorem sc__law_dot : FnScope N__law_dot ["first", "second"] (defScope s__law_dot) := ⟨rfl, rfl, rfl, by decide +kernel, rfl, by decide +kernel, by decide +kernel⟩
abbrev s__law_first : Stmt := topS 27
abbrev N__law_first : List Str := ["values", "wanted", "best", "k"]
theorem sc__law_first : FnScope N__law_first ["values", "wanted"] (defScope s__law_first) := ⟨rfl, rfl, rfl, by decide +kernel, rfl, by decide +kernel, by decide +kernel⟩
abbrev s__law_small : Stmt := topS 25
abbrev N__law_small : List Str := ["deck"]
theorem sc__law_small : FnScope N__law_small ["deck"] (defScope s__law_small) := ⟨rfl, rfl, rfl, by decide +kernel, rfl, by decide +kernel, by decide +kernel⟩
abbrev s__law_list : Stmt := topS 26
abbrev N__law_list : List Str := ["deck", "many", "values", "k"]
theorem sc__law_list : FnScope N__law_list ["deck"] (defScope s__law_list) := ⟨rfl, rfl, rfl, by decide +kernel, rfl, by decide +kernel, by decide +kernel⟩
abbrev s_law : Stmt := topS 28
abbrev N_law : List Str := ["script", "deck", "first", "second", "kept"]
theorem sc_law : FnScope N_law ["script"] (defScope s_law) := ⟨rfl, rfl, rfl, by decide +kernel, rfl, by decide +kernel, by decide +kernel⟩
/-! ### words of my own for readings -/
local macro_rules | `(tactic| walk_at "un") => `(tactic| try dsimp only [L2.start, tVar, tC, tOp, tUn, tTest, tB, tAnd, tOr, tNot, tAndV, tOrV, tNotV, tIf, tNext, tSeq, tBreak, tCont, tDrop, tRet, tRetN, tIfS, tNever, gName, gNil, gCons, gSub, tAsg, tPar, tSl, tPart, tNoPart, tNil, tCons, tCall, tCallS, tCB, tBM, tBM0, tChain, tTupN, tLstN, gTup, Cx.nox, Cx.wish, cxOf, List.map, List.replicate, List.length, List.cons_append, List.nil_append, List.set, List.getElem?_cons_zero, List.getElem?_cons_succ, Nat.reduceAdd, Nat.reduceSub, N_make, N__law_deck, N__law_draw, N__law_gcd, N__law_ratio, N__law_same, N_add, N_multiply, N_sign, N_compare, N__law_add, N__law_times, N__law_order, N_total, N__law_total, N_dot, N_least_index, N_greatest_index, N__law_dot, N__law_first, N__law_small, N__law_list, N_law])
local macro_rules | `(tactic| walk_at "dp") => `(tactic| first | assumption | exact .int _ | exact .bl _ | exact .str _ | exact .non | exact Ub.Dp.mono (by assumption) _ _ (by walk_at "dp"))
local macro_rules | `(tactic| walk_at "fr") => `(tactic| first | assumption | exact Ub.Fr.mono (by assumption) (by walk_at "fr"))
local macro_rules | `(tactic| walk_at "dps") => `(tactic| first | exact .nil | (refine' .cons ?j1 ?j2; (case j1 => walk_at "dp"); (case j2 => walk_at "dps")))
local macro_rules | `(tactic| walk_at "st") => `(tactic| first
  | (with_reducible refine ⟨_, rfl, ?_⟩)
  | (with_reducible refine rdAdd ?_)
  | (with_reducible refine rdSub ?_)
  | (with_reducible refine rdNeg ?_)
  | (with_reducible refine rdEqI ?_)
  | (with_reducible refine rdNeI ?_)
  | (with_reducible refine rdLt ?_)
  | (with_reducible refine rdGt ?_)
  | (with_reducible refine rdLe ?_)
  | (with_reducible refine rdGe ?_)
  | (with_reducible refine rdInt ?_)
  | (with_reducible refine rdIntB ?_)
  | (with_reducible refine rdAbs ?_)
  | (with_reducible refine rdGcd ?_)
  | (with_reducible refine rdEqB ?_)
  | (with_reducible refine rdEqS ?_)
  | (with_reducible refine rdNeS ?_)
  | ((with_reducible refine' ixFr0 ?k1 ?_); (case k1 => walk_at "fr"))
  | ((with_reducible refine' ixFr1 ?k1 ?_); (case k1 => walk_at "fr"))
  | ((with_reducible refine' ixP0 ?k1 ?_); (case k1 => walk_at "dp"))
  | ((with_reducible refine' ixP1 ?k1 ?_); (case k1 => walk_at "dp"))
  | ((with_reducible refine' rdIsN ?k1 ?_); (case k1 => walk_at "dp"))
  | ((with_reducible refine' rdNotN ?k1 ?_); (case k1 => walk_at "dp"))
  | ((with_reducible refine' isiInt ?k1 ?_); (case k1 => walk_at "dp"))
  | ((with_reducible refine' isiBool ?k1 ?_); (case k1 => walk_at "dp"))
  | ((with_reducible refine' isiStr ?k1 ?_); (case k1 => walk_at "dp"))
  | ((with_reducible refine' isiTup ?k1 ?_); (case k1 => walk_at "dp"))
  | ((with_reducible refine' isiLst ?k1 ?_); (case k1 => walk_at "dp"))
  | ((with_reducible refine' rdIxL ?k1 ?k2 ?_); (case k1 => first | assumption | exact .inl (.inl (by assumption)) | exact .inl (.inl upd_same)); (case k2 => exact rfl))
  | ((with_reducible refine' rdMul ?k1 ?_); (case k1 => first | exact .inl (.inr ⟨by decide, by decide⟩) | exact .inl (.inl ⟨by decide, by decide⟩) | exact mulW (by assumption) (by assumption) (by omega)))
  | ((with_reducible refine' rdLenL ?k1 ?_); (case k1 => first | assumption | exact .inl (.inl (by assumption))))
  | ((with_reducible refine' rdLenT ?k1 ?_); (case k1 => first | assumption | exact .inl (.inl (by assumption))))
  | (with_reducible refine rdMin2 ?_)
  | ((with_reducible refine' rdTupD (K := ‹PySem.W.Frag›) ?k1 ?k2 (fun _ _ _ _ => ?_)); (case k1 => walk_at "dps"); (case k2 => exact small_line (Nat.le_of_ble_eq_true rfl)))
  | (with_reducible refine ⟨_, by rfl, ?_⟩))
local macro_rules | `(tactic| walk_at "go") => `(tactic| repeat walk_at "st")
local macro_rules | `(tactic| walk_at "for") => `(tactic| try dsimp only [tFor, iRng1, iRng2, iList, iTup, tCons, tC, tNil, tVar, tOp, tCB, tUn, List.getElem?_cons_zero, List.getElem?_cons_succ])
local macro_rules | `(tactic| walk_at "ew") => `(tactic| (simp only [dInt, dBool, dStr, dTup, dLst, dNon, Bool.not_true, Bool.not_false, reduceIte, Bool.false_eq_true, Bool.true_eq_false, decide_true, decide_false, Bool.not_not, if_true, if_false, decide_eq_true_eq, true_and, and_true]))
local macro_rules | `(tactic| walk_at "ev") => `(tactic| try walk_at "ew")
local macro_rules | `(tactic| walk_at "gv") => `(tactic| repeat first | walk_at "st" | walk_at "ew")
local macro_rules | `(tactic| walk_at "it") => `(tactic| try dsimp only [iRng1, iRng2, iList, iTup, iZip, iEnum])
/-- what stands at the module's names -/
structure Tx (K : PySem.W.Frag) (mg : Str → Option Value) : Prop where
  n_abs : mg "abs" = none
  n_bool : mg "bool" = none
  n_enumerate : mg "enumerate" = none
  n_int : mg "int" = none
  n_isinstance : mg "isinstance" = none
  n_len : mg "len" = none
  n_list : mg "list" = none
  n_min : mg "min" = none
  n_range : mg "range" = none
  n_str : mg "str" = none
  n_tuple : mg "tuple" = none
  n_zip : mg "zip" = none
  g_gcd : mg "gcd" = some (.builtin "math.gcd")
  e_ZeroDenominator : ExcK K mg "ZeroDenominator"
section
variable {P : Program} {w : World} {K : PySem.W.Frag} {mg : Str → Option Value} {base : Heap}
/-! ### make -/
/-- make(p, q): the fraction p / q; for q = 0 the error (E) -/
def sp_make (K : PySem.W.Frag) : Sp := fun vs H Q E => ∃ (p q : Int) (n : Nat), vs = [.int p, .int q] ∧ q.natAbs < 2 ^ n ∧ n < 9000 ∧ (q = 0 → E (.ref (He.ga K "ZeroDenominator")) none H) ∧ (q ≠ 0 → ∀ H' v, Same H H' → Fr K H' v (Rat.divInt p q) → Q v H')
theorem gcd_le_r {p q : Int} (h : q ≠ 0) : ((Nat.gcd p.natAbs q.natAbs : Nat) : Int).natAbs ≤ q.natAbs := Nat.le_of_dvd (by omega) (Nat.gcd_dvd_right ..)
theorem ok_make {f : Addr} {fd : FuncData} (T : Tx K mg) (F : FunD K "make" "make" (defArgs s_make) (defBody s_make) (defScope s_make) [V.int 1] [] f fd) : FnOk P w K mg base (L2.CX P w) 1 f fd ["p", "q"] (sp_make K) := by
  refine F.ok sc_make (fun vs H Q E h => ?_) (fun cdv A outer s H vs Q E hr h => ?_)
  · obtain ⟨_, _, _, rfl, _⟩ := h
    rfl
  · obtain ⟨p, q, n, rfl, hn, hn9, k0, k1⟩ := h
    refine ⟨_, (pss_cons (ps_if (pt_cmpR (op_eqA hr.units) (pv 1) pe_int (nomark _)) (pss_one (ps_raise0 rfl T.e_ZeroDenominator (takes_of rfl rfl rfl rfl) (by rfl))) pss_nil) (pss_cons (ps_set (i := 2) sc_make.nd rfl (Or.inl rfl) (pe_callBfun cr_gcd (by rfl) T.g_gcd (pa_cons (pv 0) (pa_cons (pv 1) pa_nil)))) (pss_cons (ps_if (pt_cmpR op_lt (pv 1) pe_int (nomark _)) (pss_one (ps_set (i := 2) sc_make.nd rfl (Or.inl rfl) (pe_un un_neg (pv 2)))) pss_nil) (pss_one (ps_ret (pe_tupN (pa_cons (pe_op op_fdivX (pv 0) (pv 2)) (pa_cons (pe_op op_fdivX (pv 1) (pv 2)) pa_nil)))))))), ?_⟩
    walk_at "un"
    walk_at "go"
    refine ifD (fun e => k0 e) (fun e => ?_)
    have hg := gcd_pos (p := p) e
    have hl := gcd_le_r (p := p) e
    have hb : ((Nat.gcd p.natAbs q.natAbs : Nat) : Int).natAbs < 2 ^ n := Nat.lt_of_le_of_lt hl hn
    walk_at "go"
    refine ifD (fun c => ?_) (fun c => ?_)
    · have hb2 : (-((Nat.gcd p.natAbs q.natAbs : Nat) : Int)).natAbs < 2 ^ n := by
        rw [Int.natAbs_neg]
        exact hb
      walk_at "go"
      refine rdDiv (divX (by omega) hb2 hn9) ?_
      walk_at "go"
      refine rdDiv (divX (by omega) hb2 hn9) ⟨line2, fun a na => ?_⟩
      exact k1 e _ _ (sameNew na) (frNew (num_neg c) (den_neg c))
    · have c2 : 0 < q := by omega
      walk_at "go"
      refine rdDivP (by omega) hb hn9 ?_
      walk_at "go"
      refine rdDivP (by omega) hb hn9 ⟨line2, fun a na => ?_⟩
      exact k1 e _ _ (sameNew na) (frNew (num_pos c2) (den_pos c2))
/-! ### _law_deck -/
def sp__law_deck (K : PySem.W.Frag) : Sp := fun vs H Q _ => ∃ (a : Addr) (ns : List Int), vs = [.ref a] ∧ SqL K H a (ns.map V.int) ∧ ns.length ≤ 63 ∧ ∀ H' d, Same H H' → Deck H' d → Q (.ref d) H'
theorem ok__law_deck {f : Addr} {fd : FuncData} (T : Tx K mg) (F : FunD K "_law_deck" "_law_deck" (defArgs s__law_deck) (defBody s__law_deck) (defScope s__law_deck) [] [] f fd) : FnOk P w K mg base (L2.CX P w) 1 f fd ["script"] (sp__law_deck K) := by
  refine F.ok sc__law_deck (fun vs H Q E h => ?_) (fun cdv A outer s H vs Q E hr h => ?_)
  · obtain ⟨_, _, rfl, _⟩ := h
    rfl
  · obtain ⟨a, ns, rfl, hS, hl, q⟩ := h
    refine ⟨_, PSs.nox (pss_one (ps_ret (pe_lstN (pa_cons (pe_callTy cl_list (by rfl) T.n_list bb_list (pa_cons (pv 0) pa_nil)) (pa_cons pe_int (pa_cons pe_int (pa_cons pe_int pa_nil))))))), ?_⟩
    walk_at "un"
    walk_at "go"
    refine rdListL hS fun l nl => ⟨line4, fun d nd => ?_⟩
    have nld : l ≠ d := ne_of_none upd_same nd
    refine q _ _ ((sameNew nl).trans (sameNew nd)) ⟨l, ns, 0, 0, 7, upd_same, ?_, nld, by omega, hl⟩
    rw [upd_ne nld, upd_same]
/-! ### _law_draw -/
def sp__law_draw : Sp := fun vs H Q _ => ∃ (d : Addr) (m : Int) (n : Nat), vs = [.ref d, .int m] ∧ Deck H d ∧ 0 < m ∧ m.natAbs < 2 ^ n ∧ n < 9000 ∧ ∀ H' x, SameX d H H' → Deck H' d → 0 ≤ x → x < m → Q (.int x) H'
theorem ok__law_draw {f : Addr} {fd : FuncData} (T : Tx K mg) (F : FunD K "_law_draw" "_law_draw" (defArgs s__law_draw) (defBody s__law_draw) (defScope s__law_draw) [] [] f fd) : FnOk P w K mg base (L2.CX P w) 1 f fd ["deck", "most"] sp__law_draw := by
  refine F.ok sc__law_draw (fun vs H Q E h => ?_) (fun cdv A outer s H vs Q E hr h => ?_)
  · obtain ⟨_, _, _, rfl, _⟩ := h
    rfl
  · obtain ⟨d, m, n, rfl, ⟨s, ns, i, r, z, hd, hs, hsd, hi, hl⟩, hm, hn, hn9, q⟩ := h
    have b1 : (48271 : Int).natAbs < 2 ^ 20 := by decide
    refine ⟨_, PSs.nox (pss_cons (ps_if (pt_cmpR op_ge (pe_ix ix_seq (pv 0) pe_int (fun _ _ => rfl)) (pv 1) (nomark _)) (pss_cons (ps_set (i := 2) sc__law_draw.nd rfl (Or.inl rfl) (pe_op op_mod (pe_callTy cl_int (by rfl) T.n_int bb_int (pa_cons (pe_ix ix_seq (pv 0) pe_int (fun _ _ => rfl)) pa_nil)) (pv 1))) (pss_cons (ps_asg (pe_op op_fdivX (pe_ix ix_seq (pv 0) pe_int (fun _ _ => rfl)) (pv 1)) (pg_sub (pv 0) pe_int set_list)) (pss_one (ps_ret (pv 2))))) pss_nil) (pss_cons (ps_set (i := 3) sc__law_draw.nd rfl (Or.inl rfl) pe_int) (pss_consJ (ps_if (pt_cmpR op_lt (pe_ix ix_seq (pv 0) pe_int (fun _ _ => rfl)) (pe_callB cl_len (by rfl) T.n_len bb_len (pa_cons (pe_ix ix_seq (pv 0) pe_int (fun _ _ => rfl)) pa_nil)) (nomark _)) (pss_one (ps_set (i := 3) sc__law_draw.nd rfl (Or.inl rfl) (pe_ix ix_seq (pe_ix ix_seq (pv 0) pe_int (fun _ _ => rfl)) (pe_ix ix_seq (pv 0) pe_int (fun _ _ => rfl)) (fun _ _ => rfl)))) pss_nil) (pss_cons (ps_asg (pe_op op_add (pe_ix ix_seq (pv 0) pe_int (fun _ _ => rfl)) pe_int) (pg_sub (pv 0) pe_int set_list)) (pss_cons (ps_asg pe_int (pg_sub (pv 0) pe_int set_list)) (pss_cons (ps_if (pt_cmpR op_ge (pv 3) (pe_op op_pow pe_int pe_int) (nomark _)) (pss_cons (ps_asg (pe_op op_fdivX (pv 3) (pv 1)) (pg_sub (pv 0) pe_int set_list)) (pss_one (ps_ret (pe_op op_mod (pe_callTy cl_int (by rfl) T.n_int bb_int (pa_cons (pv 3) pa_nil)) (pv 1))))) pss_nil) (pss_cons (ps_asg (pe_op op_mod (pe_callTy cl_int (by rfl) T.n_int bb_int (pa_cons (pe_op op_add (pe_op op_add (pe_op op_mulG (pe_ix ix_seq (pv 0) pe_int (fun _ _ => rfl)) pe_int) (pe_op op_mulG (pv 3) pe_int)) (pe_op op_mulG (pe_ix ix_seq (pv 0) pe_int (fun _ _ => rfl)) pe_int)) pa_nil)) pe_int) (pg_sub (pv 0) pe_int set_list)) (pss_cons (ps_asg (pe_op op_mod (pe_callTy cl_int (by rfl) T.n_int bb_int (pa_cons (pe_op op_add (pe_op op_mulG (pe_ix ix_seq (pv 0) pe_int (fun _ _ => rfl)) pe_int) pe_int) pa_nil)) pe_int) (pg_sub (pv 0) pe_int set_list)) (pss_one (ps_ret (pe_op op_mod (pe_callTy cl_int (by rfl) T.n_int bb_int (pa_cons (pe_op op_fdivX (pe_ix ix_seq (pv 0) pe_int (fun _ _ => rfl)) pe_int) pa_nil)) (pv 1)))))))))))), ?_⟩
    walk_at "un"
    walk_at "go"
    refine ifD (fun h1 => ?_) (fun h1 => ?_)
    · walk_at "go"
      refine rdMod hm ?_
      walk_at "go"
      refine rdDivP hm hn hn9 ?_
      walk_at "go"
      refine rdSetL hd rfl ?_
      walk_at "go"
      exact q _ _ (sameX_deck hd hi) ⟨s, ns, i, r / m, z, upd_same, by rw [upd_ne hsd]; exact hs, hsd, hi, hl⟩ (Int.emod_nonneg _ (by omega)) (Int.emod_lt_of_pos _ hm)
    · walk_at "go"
      refine seqJ (fun σ' H' => ∃ c, σ' = [some (.ref d), some (.int m), none, some (.int c)] ∧ H' = H) (fun U hU => ?_) ?_
      · walk_at "un"
        walk_at "go"
        refine ifD (fun h2 => ?_) (fun h2 => hU _ _ ⟨0, rfl, rfl⟩)
        rw [List.length_map] at h2
        walk_at "go"
        refine rdIxL (.inl (.inl hs)) (at_of (j := i.toNat) (by omega) (by rw [List.getElem?_map, List.getElem?_eq_getElem (by omega)]; rfl)) ?_
        exact hU _ _ ⟨_, rfl, rfl⟩
      · rintro σ' H' ⟨c, rfl, rfl⟩
        have dk : ∀ i' r' z', 0 ≤ i' → Deck (upd H' d (.lst [.ref s, .int i', .int r', .int z'])) d := fun i' r' z' h => ⟨s, ns, i', r', z', upd_same, by rw [upd_ne hsd]; exact hs, hsd, h, hl⟩
        walk_at "un"
        walk_at "go"
        refine rdSetL hd rfl ?_
        walk_at "go"
        refine rdSetU rfl ?_
        walk_at "go"
        refine rdPow ⟨by decide, by decide, by decide⟩ ?_
        walk_at "go"
        refine ifD (fun h2 => ?_) (fun h2 => ?_)
        · walk_at "go"
          refine rdDivP hm hn hn9 ?_
          walk_at "go"
          refine rdSetU rfl ?_
          walk_at "go"
          refine rdMod hm ?_
          exact q _ _ (sameX_deck hd (by omega)) (dk _ _ _ (by omega)) (Int.emod_nonneg _ (by omega)) (Int.emod_lt_of_pos _ hm)
        · walk_at "go"
          refine rdMod (by decide) ?_
          walk_at "go"
          refine rdSetU rfl ?_
          walk_at "go"
          refine rdMod (by decide) ?_
          walk_at "go"
          refine rdSetU rfl ?_
          walk_at "go"
          refine rdDivP (b := 10) (by decide) (by decide) (by decide) ?_
          walk_at "go"
          refine rdMod hm ?_
          exact q _ _ (sameX_deck hd (by omega)) (dk _ _ _ (by omega)) (Int.emod_nonneg _ (by omega)) (Int.emod_lt_of_pos _ hm)
/-! ### _law_gcd -/
def sp__law_gcd : Sp := fun vs H Q _ => ∃ a b e : Nat, vs = [.int (a : Int), .int (b : Int)] ∧ b < 2 ^ e ∧ 2 * e + 1 ≤ 5000 ∧ Q (.int ((Nat.gcd a b : Nat) : Int)) H
theorem ok__law_gcd {f : Addr} {fd : FuncData} (T : Tx K mg) (F : FunD K "_law_gcd" "_law_gcd" (defArgs s__law_gcd) (defBody s__law_gcd) (defScope s__law_gcd) [] [] f fd) : FnOk P w K mg base (L2.CX P w) 1 f fd ["a", "b"] sp__law_gcd := by
  refine F.ok sc__law_gcd (fun vs H Q E h => ?_) (fun cdv A outer s H vs Q E hr h => ?_)
  · obtain ⟨_, _, _, rfl, _⟩ := h
    rfl
  · obtain ⟨a, b, e, rfl, hb, he, q⟩ := h
    refine ⟨_, PSs.nox (pss_cons (ps_for PassesOwn.never rfl (pi_range1 (by rfl) T.n_range (pa_cons pe_int pa_nil)) (pg_name (i := 2) sc__law_gcd.nd rfl (Or.inl rfl)) (pss_cons (ps_if (pt_cmpR (op_eqA hr.units) (pv 1) pe_int (nomark _)) (pss_one (ps_ret (pv 0))) pss_nil) (pss_cons (ps_set (i := 3) sc__law_gcd.nd rfl (Or.inl rfl) (pe_op op_mod (pe_callTy cl_int (by rfl) T.n_int bb_int (pa_cons (pv 0) pa_nil)) (pv 1))) (pss_cons (ps_set (i := 0) sc__law_gcd.nd rfl (Or.inl rfl) (pv 1)) (pss_one (ps_set (i := 1) sc__law_gcd.nd rfl (Or.inl rfl) (pv 3))))))) (pss_one (ps_ret (pv 0)))), ?_⟩
    walk_at "un"
    walk_at "for"
    refine ⟨_, rfl, by decide, by decide, ?_⟩
    refine forRange (n := 5000) (fun i σ' H' => ∃ (x y : Nat) (o1 o2 : Option V), σ' = [some (.int (x : Int)), some (.int (y : Int)), o1, o2] ∧ Nat.gcd x y = Nat.gcd a b ∧ Enough (5000 - i) x y ∧ H' = H) ⟨a, b, none, none, rfl, rfl, enough_of hb he, rfl⟩ ?_ ?_
    · rintro i σ' H' hi ⟨x, y, o1, o2, rfl, hg, hn, rfl⟩
      walk_at "un"
      walk_at "go"
      refine ifD (fun c => ?_) (fun c => ?_)
      · walk_at "go"
        have : y = 0 := by omega
        subst this
        rw [Nat.gcd_zero_right] at hg
        rw [hg]
        exact q
      · walk_at "go"
        refine rdMod (by omega) ?_
        walk_at "go"
        refine ⟨y, x % y, _, _, by rw [Int.natCast_emod], ?_, ?_, rfl⟩
        · rw [← hg, Nat.gcd_comm x y, Nat.gcd_rec y x, Nat.gcd_comm]
        · have h1 := hn.step (by omega)
          rw [show 5000 - i - 1 = 5000 - (i + 1) by omega] at h1
          exact h1
    · rintro σ' H' ⟨x, y, o1, o2, rfl, hg, hn, rfl⟩
      have := hn.pos
      omega
/-! ### _law_ratio -/
/-- the law's own fraction p / q, q not 0 -/
def sp__law_ratio (K : PySem.W.Frag) : Sp := fun vs H Q E => ∃ (p q : Int) (n : Nat), vs = [.int p, .int q] ∧ q.natAbs < 2 ^ n ∧ n < 2400 ∧ q ≠ 0 ∧ ∀ H' v, Same H H' → Fr K H' v (Rat.divInt p q) → Q v H'
theorem gcd_le_r' {p q : Int} (h : q ≠ 0) : ((Nat.gcd p.natAbs q.natAbs : Nat) : Int).natAbs ≤ q.natAbs := Nat.le_of_dvd (by omega) (Nat.gcd_dvd_right ..)
theorem ok__law_ratio {f : Addr} {fd : FuncData} (T : Tx K mg) (F : FunD K "_law_ratio" "_law_ratio" (defArgs s__law_ratio) (defBody s__law_ratio) (defScope s__law_ratio) [] [] f fd) (C__law_gcd : Cal P w K mg base "_law_gcd" 1 ["a", "b"] [] (sp__law_gcd)) : FnOk P w K mg base (L2.CX P w) 2 f fd ["p", "q"] (sp__law_ratio K) := by
  refine F.ok sc__law_ratio (fun vs H Q E h => ?_) (fun cdv A outer s H vs Q E hr h => ?_)
  · obtain ⟨_, _, _, rfl, _⟩ := h
    rfl
  · obtain ⟨p, q, n, rfl, hn, hn9, e, k1⟩ := h
    have hg := gcd_pos (p := p) e
    have hl := gcd_le_r' (p := p) e
    have hb : ((Nat.gcd p.natAbs q.natAbs : Nat) : Int).natAbs < 2 ^ n := Nat.lt_of_le_of_lt hl hn
    refine ⟨_, PSs.nox (pss_cons (ps_set (i := 2) sc__law_ratio.nd rfl (Or.inl rfl) (pe_callC C__law_gcd hr (by decide) (by rfl) (pa_cons (pe_callB cl_abs (by rfl) T.n_abs bb_abs (pa_cons (pv 0) pa_nil)) (pa_cons (pe_callB cl_abs (by rfl) T.n_abs bb_abs (pa_cons (pv 1) pa_nil)) pa_nil)))) (pss_cons (ps_if (pt_cmpR op_lt (pv 1) pe_int (nomark _)) (pss_one (ps_set (i := 2) sc__law_ratio.nd rfl (Or.inl rfl) (pe_un un_neg (pv 2)))) pss_nil) (pss_one (ps_ret (pe_tupN (pa_cons (pe_op op_fdivX (pv 0) (pv 2)) (pa_cons (pe_op op_fdivX (pv 1) (pv 2)) pa_nil))))))), ?_⟩
    walk_at "un"
    walk_at "go"
    refine ⟨p.natAbs, q.natAbs, n, rfl, hn, by omega, ?_⟩
    walk_at "go"
    refine ifD (fun c => ?_) (fun c => ?_)
    · have hb2 : (-((Nat.gcd p.natAbs q.natAbs : Nat) : Int)).natAbs < 2 ^ n := by
        rw [Int.natAbs_neg]
        exact hb
      walk_at "go"
      refine rdDiv (divX (by omega) hb2 (by omega)) ?_
      walk_at "go"
      refine rdDiv (divX (by omega) hb2 (by omega)) ⟨line2, fun a na => ?_⟩
      exact k1 _ _ (sameNew na) (frNew (num_neg c) (den_neg c))
    · have c2 : 0 < q := by omega
      walk_at "go"
      refine rdDivP (by omega) hb (by omega) ?_
      walk_at "go"
      refine rdDivP (by omega) hb (by omega) ⟨line2, fun a na => ?_⟩
      exact k1 _ _ (sameNew na) (frNew (num_pos c2) (den_pos c2))
/-! ### _law_same -/
/-- two readings of one datum without lists, less than k deep -/
def sp__law_same (K : PySem.W.Frag) (k : Nat) : Sp := fun vs H Q _ => ∃ (v u : V) (d : PyData), vs = [v, u] ∧ Dp K H v d ∧ Dp K H u d ∧ d.depth < k ∧ noL d = true ∧ Q (.bl true) H
theorem dpAll_get {K : PySem.W.Frag} {H : Hp} : ∀ {xs : List V} {ds : List PyData} {i : Nat} {d : PyData}, DpAll K H xs ds → ds[i]? = some d → ∃ v, xs[i]? = some v ∧ Dp K H v d
  | _, _, _, _, .nil, h => by simp at h
  | _, _, 0, _, .cons h1 _, h => by
    simp at h
    subst h
    exact ⟨_, rfl, h1⟩
  | _, _, i + 1, d, .cons _ h2, h => by
    obtain ⟨v, e, q⟩ := dpAll_get (i := i) (d := d) h2 (by simpa using h)
    exact ⟨v, by simpa using e, q⟩
theorem depth_get : ∀ {ds : List PyData} {i : Nat} {d : PyData}, ds[i]? = some d → d.depth ≤ PyData.depthAll ds
  | [], _, _, h => by simp at h
  | x :: r, 0, d, h => by
    simp at h
    subst h
    exact Nat.le_max_left ..
  | x :: r, i + 1, d, h => Nat.le_trans (depth_get (i := i) (d := d) (by simpa using h)) (Nat.le_max_right ..)
theorem noL_get : ∀ {ds : List PyData} {i : Nat} {d : PyData}, noL.noLs ds = true → ds[i]? = some d → noL d = true
  | [], _, _, _, h => by simp at h
  | x :: r, 0, d, n, h => by
    simp at h
    subst h
    unfold noL.noLs at n
    exact (Bool.and_eq_true_iff.mp n).1
  | x :: r, i + 1, d, n, h => by
    unfold noL.noLs at n
    exact noL_get (i := i) (d := d) (Bool.and_eq_true_iff.mp n).2 (by simpa using h)
theorem ok__law_same {f : Addr} {fd : FuncData} (T : Tx K mg) (F : FunD K "_law_same" "_law_same" (defArgs s__law_same) (defBody s__law_same) (defScope s__law_same) [] [] f fd) (m_self : mg "_law_same" = some (.ref f)) : ∀ k : Nat, FnOk P w K mg base (L2.CX P w) k f fd ["actual", "due"] (sp__law_same K k)
  | 0 => ⟨fun vs H Q E h => by obtain ⟨_, _, _, _, _, _, h, _⟩ := h; omega, fun _ _ _ _ _ _ _ _ _ _ _ _ _ h => by obtain ⟨_, _, _, _, _, _, h, _⟩ := h; omega⟩
  | k + 1 => by
    have C__law_same : Cal P w K mg base "_law_same" k ["actual", "due"] [] (sp__law_same K k) := ⟨_, _, [], ok__law_same T F m_self k, m_self, F.kp, .nil, F.bindsN fun _ _ _ _ _ _ us hl => match us, hl with | [_, _], _ => rfl⟩
    refine F.ok sc__law_same (fun vs H Q E h => ?_) (fun cdv A outer s H vs Q E hr h => ?_)
    · obtain ⟨_, _, _, rfl, _⟩ := h
      rfl
    · obtain ⟨v, u, d, rfl, hv, hu, hk, hn, q⟩ := h
      refine ⟨_, PSs.nox (pss_cons (ps_if (pt_val (pe_callB call_isi (by rfl) T.n_isinstance bb_isinstance (pa_cons (pv 1) (pa_cons (pe_bltn (v := .ty "tuple") (by rfl) T.n_tuple bb_tuple rfl) pa_nil)))) (pss_cons (ps_if ((pw_or (pt_not (pt_val (pe_callB call_isi (by rfl) T.n_isinstance bb_isinstance (pa_cons (pv 0) (pa_cons (pe_bltn (v := .ty "tuple") (by rfl) T.n_tuple bb_tuple rfl) pa_nil))))) (pw_or1 (pt_cmpR (op_neA hr.units) (pe_callB cl_len (by rfl) T.n_len bb_len (pa_cons (pv 0) pa_nil)) (pe_callB cl_len (by rfl) T.n_len bb_len (pa_cons (pv 1) pa_nil)) (nomark _))))).pt (pss_one (ps_ret pe_bl)) pss_nil) (pss_cons (ps_for PassesOwn.never rfl (pi_range1 (by rfl) T.n_range (pa_cons (pe_callB cl_len (by rfl) T.n_len bb_len (pa_cons (pv 1) pa_nil)) pa_nil)) (pg_name (i := 2) sc__law_same.nd rfl (Or.inl rfl)) (pss_one (ps_if (pt_not (pt_val (pe_callC C__law_same hr (Nat.le_refl _) (by rfl) (pa_cons (pe_ix ix_seq (pv 0) (pv 2) (fun _ _ => rfl)) (pa_cons (pe_ix ix_seq (pv 1) (pv 2) (fun _ _ => rfl)) pa_nil))))) (pss_one (ps_ret pe_bl)) pss_nil))) (pss_one (ps_ret pe_bl)))) pss_nil) (pss_cons (ps_if ((pw_or (pt_val (pe_callB call_isi (by rfl) T.n_isinstance bb_isinstance (pa_cons (pv 1) (pa_cons (pe_bltn (v := .ty "bool") (by rfl) T.n_bool bb_bool rfl) pa_nil)))) (pw_or1 (pt_val (pe_callB call_isi (by rfl) T.n_isinstance bb_isinstance (pa_cons (pv 0) (pa_cons (pe_bltn (v := .ty "bool") (by rfl) T.n_bool bb_bool rfl) pa_nil))))))).pt (pss_one (ps_ret (pe_and (pe_callB call_isi (by rfl) T.n_isinstance bb_isinstance (pa_cons (pv 1) (pa_cons (pe_bltn (v := .ty "bool") (by rfl) T.n_bool bb_bool rfl) pa_nil))) (pe_and (pe_callB call_isi (by rfl) T.n_isinstance bb_isinstance (pa_cons (pv 0) (pa_cons (pe_bltn (v := .ty "bool") (by rfl) T.n_bool bb_bool rfl) pa_nil))) (pe_one (pe_cmpR (op_eqA hr.units) (pv 1) (pv 0) (nomark _))))))) pss_nil) (pss_cons (ps_if (pt_val (pe_callB call_isi (by rfl) T.n_isinstance bb_isinstance (pa_cons (pv 1) (pa_cons (pe_bltn (v := .ty "int") (by rfl) T.n_int bb_int rfl) pa_nil)))) (pss_one (ps_ret (pe_and (pe_callB call_isi (by rfl) T.n_isinstance bb_isinstance (pa_cons (pv 0) (pa_cons (pe_bltn (v := .ty "int") (by rfl) T.n_int bb_int rfl) pa_nil))) (pe_one (pe_cmpR (op_eqA hr.units) (pv 0) (pv 1) (nomark _)))))) pss_nil) (pss_cons (ps_if (pt_val (pe_callB call_isi (by rfl) T.n_isinstance bb_isinstance (pa_cons (pv 1) (pa_cons (pe_bltn (v := .ty "str") (by rfl) T.n_str bb_str rfl) pa_nil)))) (pss_one (ps_ret (pe_and (pe_callB call_isi (by rfl) T.n_isinstance bb_isinstance (pa_cons (pv 0) (pa_cons (pe_bltn (v := .ty "str") (by rfl) T.n_str bb_str rfl) pa_nil))) (pe_one (pe_cmpR (op_eqA hr.units) (pv 0) (pv 1) (nomark _)))))) pss_nil) (pss_one (ps_ret (pe_and (pe_cmpR op_isNo (pv 1) pe_non (nomark _)) (pe_one (pe_cmpR op_isNo (pv 0) pe_non (nomark _)))))))))), ?_⟩
      walk_at "un"
      cases hv with
      | non =>
        cases hu
        have h0 : Dp K H .non .none := .non
        walk_at "gv"
        exact q
      | bl b =>
        cases hu
        have h0 : Dp K H (.bl b) (.bool b) := .bl b
        walk_at "gv"
        exact q
      | int i =>
        cases hu
        have h0 : Dp K H (.int i) (.int i) := .int i
        walk_at "gv"
        exact q
      | str x =>
        cases hu
        have h0 : Dp K H (.str x) (.str x) := .str x
        walk_at "gv"
        exact q
      | lst h1 h2 => cases hn
      | tup h1 h2 =>
        cases hu with
        | tup h3 h4 =>
        rename_i a1 xs ds a2 ys
        have h0 : Dp K H (.ref a1) (.tuple ds) := .tup h1 h2
        have h0' : Dp K H (.ref a2) (.tuple ds) := .tup h3 h4
        have l1 := dpAll_len h2
        have l2 := dpAll_len h4
        walk_at "gv"
        rw [l1, l2]
        walk_at "ev"
        unfold noL at hn
        obtain ⟨hn1, hn2⟩ := Bool.and_eq_true_iff.mp hn
        have hn1 := of_decide_eq_true hn1
        walk_at "for"
        walk_at "go"
        refine ⟨by omega, by omega, ?_⟩
        rw [l2]
        refine forRange (n := ds.length) (fun i σ' H' => ∃ o, σ' = [some (.ref a1), some (.ref a2), o] ∧ H' = H) ⟨none, rfl, rfl⟩ ?_ ?_
        · rintro i σ' H' hi ⟨o, rfl, rfl⟩
          obtain ⟨v1, e1, q1⟩ := dpAll_get h2 (List.getElem?_eq_getElem hi)
          obtain ⟨v2, e2, q2⟩ := dpAll_get h4 (List.getElem?_eq_getElem hi)
          have dd := depth_get (List.getElem?_eq_getElem hi)
          have hk' : PyData.depthAll ds + 1 < k + 1 := hk
          walk_at "un"
          walk_at "go"
          refine rdIxT h1 (at_of (j := i) (by omega) e1) ?_
          walk_at "go"
          refine rdIxT h3 (at_of (j := i) (by omega) e2) ?_
          refine ⟨v1, v2, _, rfl, q1, q2, by omega, noL_get hn2 (List.getElem?_eq_getElem hi), ?_⟩
          walk_at "gv"
          exact ⟨_, rfl⟩
        · rintro σ' H' ⟨o, rfl, rfl⟩
          exact q
/-! ### add -/
def sp_add (K : PySem.W.Frag) : Sp := fun vs H Q _ => ∃ (v u : V) (r s : Rat) (m n : Nat), vs = [v, u] ∧ Fr K H v r ∧ Fr K H u s ∧ Bd m r ∧ Bd n s ∧ m + n < 8999 ∧ ∀ H' x, Same H H' → Fr K H' x (r + s) → Q x H'
theorem ok_add {f : Addr} {fd : FuncData} (T : Tx K mg) (F : FunD K "add" "add" (defArgs s_add) (defBody s_add) (defScope s_add) [] [] f fd) (C_make : Cal P w K mg base "make" 1 ["p", "q"] [] (sp_make K)) : FnOk P w K mg base (L2.CX P w) 2 f fd ["a", "b"] (sp_add K) := by
  refine F.ok sc_add (fun vs H Q E h => ?_) (fun cdv A outer st H vs Q E hr h => ?_)
  · obtain ⟨_, _, _, _, _, _, rfl, _⟩ := h
    rfl
  · obtain ⟨v, u, r, s, m, n, rfl, hv, hu, ⟨h1, h2'⟩, ⟨h3, h4'⟩, hmn, q⟩ := h
    have h2 : (r.den : Int).natAbs < 2 ^ m := h2'
    have h4 : (s.den : Int).natAbs < 2 ^ n := h4'
    refine ⟨_, PSs.nox (pss_one (ps_ret (pe_callC C_make hr (by decide) (by rfl) (pa_cons (pe_op op_add (pe_op op_mulG (pe_ix ix_seq (pv 0) pe_int (fun _ _ => rfl)) (pe_ix ix_seq (pv 1) pe_int (fun _ _ => rfl))) (pe_op op_mulG (pe_ix ix_seq (pv 1) pe_int (fun _ _ => rfl)) (pe_ix ix_seq (pv 0) pe_int (fun _ _ => rfl)))) (pa_cons (pe_op op_mulG (pe_ix ix_seq (pv 0) pe_int (fun _ _ => rfl)) (pe_ix ix_seq (pv 1) pe_int (fun _ _ => rfl))) pa_nil))))), ?_⟩
    walk_at "un"
    walk_at "go"
    refine ⟨_, _, m + n, rfl, mul_lt h2 h4, by omega, fun e => absurd e (Int.mul_ne_zero (den_ne r) (den_ne s)), fun _ H' x sm hx => ?_⟩
    rw [add_as] at hx
    exact q _ _ sm hx
/-! ### multiply -/
def sp_multiply (K : PySem.W.Frag) : Sp := fun vs H Q _ => ∃ (v u : V) (r s : Rat) (m n : Nat), vs = [v, u] ∧ Fr K H v r ∧ Fr K H u s ∧ Bd m r ∧ Bd n s ∧ m + n < 8999 ∧ ∀ H' x, Same H H' → Fr K H' x (r * s) → Q x H'
theorem ok_multiply {f : Addr} {fd : FuncData} (T : Tx K mg) (F : FunD K "multiply" "multiply" (defArgs s_multiply) (defBody s_multiply) (defScope s_multiply) [] [] f fd) (C_make : Cal P w K mg base "make" 1 ["p", "q"] [] (sp_make K)) : FnOk P w K mg base (L2.CX P w) 2 f fd ["a", "b"] (sp_multiply K) := by
  refine F.ok sc_multiply (fun vs H Q E h => ?_) (fun cdv A outer st H vs Q E hr h => ?_)
  · obtain ⟨_, _, _, _, _, _, rfl, _⟩ := h
    rfl
  · obtain ⟨v, u, r, s, m, n, rfl, hv, hu, ⟨h1, h2'⟩, ⟨h3, h4'⟩, hmn, q⟩ := h
    have h2 : (r.den : Int).natAbs < 2 ^ m := h2'
    have h4 : (s.den : Int).natAbs < 2 ^ n := h4'
    refine ⟨_, PSs.nox (pss_one (ps_ret (pe_callC C_make hr (by decide) (by rfl) (pa_cons (pe_op op_mulG (pe_ix ix_seq (pv 0) pe_int (fun _ _ => rfl)) (pe_ix ix_seq (pv 1) pe_int (fun _ _ => rfl))) (pa_cons (pe_op op_mulG (pe_ix ix_seq (pv 0) pe_int (fun _ _ => rfl)) (pe_ix ix_seq (pv 1) pe_int (fun _ _ => rfl))) pa_nil))))), ?_⟩
    walk_at "un"
    walk_at "go"
    refine ⟨_, _, m + n, rfl, mul_lt h2 h4, by omega, fun e => absurd e (Int.mul_ne_zero (den_ne r) (den_ne s)), fun _ H' x sm hx => ?_⟩
    rw [mul_as] at hx
    exact q _ _ sm hx
/-! ### sign -/
def sp_sign (K : PySem.W.Frag) : Sp := fun vs H Q _ => ∃ (v : V) (p q : Int), vs = [v] ∧ Dp K H v (.tuple [.int p, .int q]) ∧ Q (.int (Int.sign p)) H
theorem rd_sign {K : PySem.W.Frag} {H : Hp} {Q : VK} {E : XK} {v : V} {p z : Int} (h : Dp K H v (.tuple [.int p, .int z])) (q : Q (.int (Int.sign p)) H) : sp_sign K [v] H Q E := ⟨v, p, z, rfl, h, q⟩
theorem ok_sign {f : Addr} {fd : FuncData} (T : Tx K mg) (F : FunD K "sign" "sign" (defArgs s_sign) (defBody s_sign) (defScope s_sign) [] [] f fd) : FnOk P w K mg base (L2.CX P w) 1 f fd ["a"] (sp_sign K) := by
  refine F.ok sc_sign (fun vs H Q E h => ?_) (fun cdv A outer st H vs Q E hr h => ?_)
  · obtain ⟨_, _, _, rfl, _⟩ := h
    rfl
  · obtain ⟨v, p, z, rfl, ha, q⟩ := h
    refine ⟨_, PSs.nox (pss_cons (ps_if (pt_cmpR op_gt (pe_ix ix_seq (pv 0) pe_int (fun _ _ => rfl)) pe_int (nomark _)) (pss_one (ps_ret pe_int)) pss_nil) (pss_one (ps_ret (pe_ifExp (pt_cmpR op_lt (pe_ix ix_seq (pv 0) pe_int (fun _ _ => rfl)) pe_int (nomark _)) (pe_un un_neg pe_int) pe_int)))), ?_⟩
    walk_at "un"
    walk_at "go"
    refine ifD (fun c => ?_) (fun c => ?_)
    · rw [Int.sign_eq_one_of_pos c] at q
      exact q
    · walk_at "go"
      refine ifD (fun c2 => ?_) (fun c2 => ?_)
      · rw [Int.sign_eq_neg_one_of_neg c2] at q
        walk_at "go"
        exact q
      · have : p = 0 := by omega
        subst this
        exact q
/-! ### compare -/
def sp_compare (K : PySem.W.Frag) : Sp := fun vs H Q _ => ∃ (v u : V) (r s : Rat) (m n : Nat), vs = [v, u] ∧ Fr K H v r ∧ Fr K H u s ∧ Bd m r ∧ Bd n s ∧ m + n < 8999 ∧ ∀ H', Same H H' → Q (.int (cmpR r s)) H'
theorem rd_compare {K : PySem.W.Frag} {H : Hp} {Q : VK} {E : XK} {v u : V} {r s : Rat} {m n : Nat} (hv : Fr K H v r) (hu : Fr K H u s) (bm : Bd m r) (bn : Bd n s) (hmn : m + n < 8999) (q : ∀ H', Same H H' → Q (.int (cmpR r s)) H') : sp_compare K [v, u] H Q E := ⟨v, u, r, s, m, n, rfl, hv, hu, bm, bn, hmn, q⟩
theorem ok_compare {f : Addr} {fd : FuncData} (T : Tx K mg) (F : FunD K "compare" "compare" (defArgs s_compare) (defBody s_compare) (defScope s_compare) [] [] f fd) (C_sign : Cal P w K mg base "sign" 1 ["a"] [] (sp_sign K)) : FnOk P w K mg base (L2.CX P w) 2 f fd ["a", "b"] (sp_compare K) := by
  refine F.ok sc_compare (fun vs H Q E h => ?_) (fun cdv A outer st H vs Q E hr h => ?_)
  · obtain ⟨_, _, _, _, _, _, rfl, _⟩ := h
    rfl
  · obtain ⟨v, u, r, s, m, n, rfl, hv, hu, ⟨h1, h2'⟩, ⟨h3, h4'⟩, hmn, q⟩ := h
    have h2 : (r.den : Int).natAbs < 2 ^ m := h2'
    have h4 : (s.den : Int).natAbs < 2 ^ n := h4'
    refine ⟨_, PSs.nox (pss_one (ps_ret (pe_callC C_sign hr (by decide) (by rfl) (pa_cons (pe_tupN (pa_cons (pe_op op_sub (pe_op op_mulG (pe_ix ix_seq (pv 0) pe_int (fun _ _ => rfl)) (pe_ix ix_seq (pv 1) pe_int (fun _ _ => rfl))) (pe_op op_mulG (pe_ix ix_seq (pv 1) pe_int (fun _ _ => rfl)) (pe_ix ix_seq (pv 0) pe_int (fun _ _ => rfl)))) (pa_cons (pe_op op_mulG (pe_ix ix_seq (pv 0) pe_int (fun _ _ => rfl)) (pe_ix ix_seq (pv 1) pe_int (fun _ _ => rfl))) pa_nil))) pa_nil)))), ?_⟩
    walk_at "un"
    walk_at "go"
    rename_i H1 t1 s1 g1
    exact rd_sign g1 (q _ s1)
/-! ### _law_add -/
def sp__law_add (K : PySem.W.Frag) : Sp := fun vs H Q _ => ∃ (v u : V) (r s : Rat) (m n : Nat), vs = [v, u] ∧ Fr K H v r ∧ Fr K H u s ∧ Bd m r ∧ Bd n s ∧ m + n < 2399 ∧ ∀ H' x, Same H H' → Fr K H' x (r + s) → Q x H'
theorem ok__law_add {f : Addr} {fd : FuncData} (T : Tx K mg) (F : FunD K "_law_add" "_law_add" (defArgs s__law_add) (defBody s__law_add) (defScope s__law_add) [] [] f fd) (C__law_ratio : Cal P w K mg base "_law_ratio" 2 ["p", "q"] [] (sp__law_ratio K)) : FnOk P w K mg base (L2.CX P w) 3 f fd ["a", "b"] (sp__law_add K) := by
  refine F.ok sc__law_add (fun vs H Q E h => ?_) (fun cdv A outer st H vs Q E hr h => ?_)
  · obtain ⟨_, _, _, _, _, _, rfl, _⟩ := h
    rfl
  · obtain ⟨v, u, r, s, m, n, rfl, hv, hu, ⟨h1, h2'⟩, ⟨h3, h4'⟩, hmn, q⟩ := h
    have h2 : (r.den : Int).natAbs < 2 ^ m := h2'
    have h4 : (s.den : Int).natAbs < 2 ^ n := h4'
    refine ⟨_, PSs.nox (pss_one (ps_ret (pe_callC C__law_ratio hr (by decide) (by rfl) (pa_cons (pe_op op_add (pe_op op_mulG (pe_ix ix_seq (pv 0) pe_int (fun _ _ => rfl)) (pe_ix ix_seq (pv 1) pe_int (fun _ _ => rfl))) (pe_op op_mulG (pe_ix ix_seq (pv 1) pe_int (fun _ _ => rfl)) (pe_ix ix_seq (pv 0) pe_int (fun _ _ => rfl)))) (pa_cons (pe_op op_mulG (pe_ix ix_seq (pv 0) pe_int (fun _ _ => rfl)) (pe_ix ix_seq (pv 1) pe_int (fun _ _ => rfl))) pa_nil))))), ?_⟩
    walk_at "un"
    walk_at "go"
    refine ⟨_, _, m + n, rfl, mul_lt h2 h4, by omega, Int.mul_ne_zero (den_ne r) (den_ne s), fun H' x sm hx => ?_⟩
    rw [add_as] at hx
    exact q _ _ sm hx
/-! ### _law_times -/
def sp__law_times (K : PySem.W.Frag) : Sp := fun vs H Q _ => ∃ (v u : V) (r s : Rat) (m n : Nat), vs = [v, u] ∧ Fr K H v r ∧ Fr K H u s ∧ Bd m r ∧ Bd n s ∧ m + n < 2399 ∧ ∀ H' x, Same H H' → Fr K H' x (r * s) → Q x H'
theorem ok__law_times {f : Addr} {fd : FuncData} (T : Tx K mg) (F : FunD K "_law_times" "_law_times" (defArgs s__law_times) (defBody s__law_times) (defScope s__law_times) [] [] f fd) (C__law_ratio : Cal P w K mg base "_law_ratio" 2 ["p", "q"] [] (sp__law_ratio K)) : FnOk P w K mg base (L2.CX P w) 3 f fd ["a", "b"] (sp__law_times K) := by
  refine F.ok sc__law_times (fun vs H Q E h => ?_) (fun cdv A outer st H vs Q E hr h => ?_)
  · obtain ⟨_, _, _, _, _, _, rfl, _⟩ := h
    rfl
  · obtain ⟨v, u, r, s, m, n, rfl, hv, hu, ⟨h1, h2'⟩, ⟨h3, h4'⟩, hmn, q⟩ := h
    have h2 : (r.den : Int).natAbs < 2 ^ m := h2'
    have h4 : (s.den : Int).natAbs < 2 ^ n := h4'
    refine ⟨_, PSs.nox (pss_one (ps_ret (pe_callC C__law_ratio hr (by decide) (by rfl) (pa_cons (pe_op op_mulG (pe_ix ix_seq (pv 0) pe_int (fun _ _ => rfl)) (pe_ix ix_seq (pv 1) pe_int (fun _ _ => rfl))) (pa_cons (pe_op op_mulG (pe_ix ix_seq (pv 0) pe_int (fun _ _ => rfl)) (pe_ix ix_seq (pv 1) pe_int (fun _ _ => rfl))) pa_nil))))), ?_⟩
    walk_at "un"
    walk_at "go"
    refine ⟨_, _, m + n, rfl, mul_lt h2 h4, by omega, Int.mul_ne_zero (den_ne r) (den_ne s), fun H' x sm hx => ?_⟩
    rw [mul_as] at hx
    exact q _ _ sm hx
/-! ### _law_order -/
def sp__law_order (K : PySem.W.Frag) : Sp := fun vs H Q _ => ∃ (v u : V) (r s : Rat) (m n : Nat), vs = [v, u] ∧ Fr K H v r ∧ Fr K H u s ∧ Bd m r ∧ Bd n s ∧ m + n < 8999 ∧ Q (.int (cmpR r s)) H
theorem rd__law_order {K : PySem.W.Frag} {H : Hp} {Q : VK} {E : XK} {v u : V} {r s : Rat} {m n : Nat} (hv : Fr K H v r) (hu : Fr K H u s) (bm : Bd m r) (bn : Bd n s) (hmn : m + n < 8999) (q : Q (.int (cmpR r s)) H) : sp__law_order K [v, u] H Q E := ⟨v, u, r, s, m, n, rfl, hv, hu, bm, bn, hmn, q⟩
theorem ok__law_order {f : Addr} {fd : FuncData} (T : Tx K mg) (F : FunD K "_law_order" "_law_order" (defArgs s__law_order) (defBody s__law_order) (defScope s__law_order) [] [] f fd) : FnOk P w K mg base (L2.CX P w) 1 f fd ["a", "b"] (sp__law_order K) := by
  refine F.ok sc__law_order (fun vs H Q E h => ?_) (fun cdv A outer st H vs Q E hr h => ?_)
  · obtain ⟨_, _, _, _, _, _, rfl, _⟩ := h
    rfl
  · obtain ⟨v, u, r, s, m, n, rfl, hv, hu, ⟨h1, h2'⟩, ⟨h3, h4'⟩, hmn, q⟩ := h
    have h2 : (r.den : Int).natAbs < 2 ^ m := h2'
    have h4 : (s.den : Int).natAbs < 2 ^ n := h4'
    refine ⟨_, PSs.nox (pss_cons (ps_set (i := 2) sc__law_order.nd rfl (Or.inl rfl) (pe_op op_sub (pe_op op_mulG (pe_ix ix_seq (pv 0) pe_int (fun _ _ => rfl)) (pe_ix ix_seq (pv 1) pe_int (fun _ _ => rfl))) (pe_op op_mulG (pe_ix ix_seq (pv 1) pe_int (fun _ _ => rfl)) (pe_ix ix_seq (pv 0) pe_int (fun _ _ => rfl))))) (pss_one (ps_ret (pe_op op_sub (pe_callTy cl_int (by rfl) T.n_int bb_int (pa_cons (pe_cmpR op_gt (pv 2) pe_int (nomark _)) pa_nil)) (pe_callTy cl_int (by rfl) T.n_int bb_int (pa_cons (pe_cmpR op_lt (pv 2) pe_int (nomark _)) pa_nil)))))), ?_⟩
    walk_at "un"
    walk_at "go"
    rw [sign_as]
    exact q
/-! ### total -/
def sp_total (K : PySem.W.Frag) : Sp := fun vs H Q _ => ∃ (v : V) (rs : List Rat) (n : Nat), vs = [v] ∧ Frs K H v rs ∧ (∀ r ∈ rs, Bd n r) ∧ 1 + rs.length * (n + 1) + n < 8998 ∧ ∀ H' u, Same H H' → Fr K H' u (sumR rs) → Q u H'
theorem ok_total {f : Addr} {fd : FuncData} (T : Tx K mg) (F : FunD K "total" "total" (defArgs s_total) (defBody s_total) (defScope s_total) [] [] f fd) (C_add : Cal P w K mg base "add" 2 ["a", "b"] [] (sp_add K)) : FnOk P w K mg base (L2.CX P w) 3 f fd ["values"] (sp_total K) := by
  refine F.ok sc_total (fun vs H Q E h => ?_) (fun cdv A outer st H vs Q E hr h => ?_)
  · obtain ⟨_, _, _, rfl, _⟩ := h
    rfl
  · obtain ⟨v, rs, n, rfl, hv, hb, hn, q⟩ := h
    obtain ⟨a, xs, rfl, hS, hD⟩ := hv.get
    have hl := frs_len hD
    refine ⟨_, PSs.nox (pss_cons (ps_set (i := 1) sc_total.nd rfl (Or.inl rfl) (pe_tupN (pa_cons pe_int (pa_cons pe_int pa_nil)))) (pss_cons (ps_for PassesOwn.never rfl (pi_list (pv 0)) (pg_name (i := 2) sc_total.nd rfl (Or.inl rfl)) (pss_one (ps_set (i := 1) sc_total.nd rfl (Or.inl rfl) (pe_callC C_add hr (by decide) (by rfl) (pa_cons (pv 1) (pa_cons (pv 2) pa_nil)))))) (pss_one (ps_ret (pv 1))))), ?_⟩
    walk_at "un"
    walk_at "go"
    rename_i H1 f1 s1 g1
    walk_at "for"
    refine ⟨_, rfl, a, rfl, ⟨xs, s1.seq hS⟩, ?_⟩
    refine forList (xs := xs) (fun i σ' H' => ∃ f o, σ' = [some (.ref a), some f, o] ∧ Same H H' ∧ Fr K H' f (sumR (rs.take i))) ⟨f1, _, rfl, s1, g1⟩ (fun i σ' H' _ ⟨_, _, _, e, _⟩ => e.seq hS) ?_ ?_
    · rintro i x σ' H' hi ⟨f, o, rfl, s2, hf⟩
      obtain ⟨r, hr, hx⟩ := frs_at hD hi
      have hi' : i < rs.length := (List.getElem?_eq_some_iff.mp hr).1
      have hbr : Bd n r := hb r (List.mem_of_getElem? hr)
      have hbs := bd_sumR (take_bd hb i)
      rw [List.length_take, Nat.min_eq_left (by omega)] at hbs
      have hmul : i * (n + 1) ≤ rs.length * (n + 1) := Nat.mul_le_mul_right _ (by omega)
      walk_at "un"
      walk_at "go"
      refine ⟨f, x, _, r, _, n, rfl, hf, hx.mono s2, hbs, hbr, by omega, fun H3 u s3 hu => ?_⟩
      rw [← sumR_take hr] at hu
      exact ⟨u, _, rfl, s2.trans s3, hu⟩
    · rintro σ' H' ⟨f, o, rfl, s2, hf⟩
      rw [List.take_of_length_le (by omega)] at hf
      exact ⟨_, rfl, q _ _ s2 hf⟩
/-! ### _law_total -/
def sp__law_total (K : PySem.W.Frag) : Sp := fun vs H Q _ => ∃ (v : V) (rs : List Rat) (n : Nat), vs = [v] ∧ Frs K H v rs ∧ (∀ r ∈ rs, Bd n r) ∧ 1 + rs.length * (n + 1) + n < 2398 ∧ ∀ H' u, Same H H' → Fr K H' u (sumR rs) → Q u H'
theorem ok__law_total {f : Addr} {fd : FuncData} (T : Tx K mg) (F : FunD K "_law_total" "_law_total" (defArgs s__law_total) (defBody s__law_total) (defScope s__law_total) [] [] f fd) (C__law_add : Cal P w K mg base "_law_add" 3 ["a", "b"] [] (sp__law_add K)) : FnOk P w K mg base (L2.CX P w) 4 f fd ["values"] (sp__law_total K) := by
  refine F.ok sc__law_total (fun vs H Q E h => ?_) (fun cdv A outer st H vs Q E hr h => ?_)
  · obtain ⟨_, _, _, rfl, _⟩ := h
    rfl
  · obtain ⟨v, rs, n, rfl, hv, hb, hn, q⟩ := h
    obtain ⟨a, xs, rfl, hS, hD⟩ := hv.get
    have hl := frs_len hD
    refine ⟨_, PSs.nox (pss_cons (ps_set (i := 1) sc__law_total.nd rfl (Or.inl rfl) (pe_tupN (pa_cons pe_int (pa_cons pe_int pa_nil)))) (pss_cons (ps_for PassesOwn.never rfl (pi_list (pv 0)) (pg_name (i := 2) sc__law_total.nd rfl (Or.inl rfl)) (pss_one (ps_set (i := 1) sc__law_total.nd rfl (Or.inl rfl) (pe_callC C__law_add hr (by decide) (by rfl) (pa_cons (pv 1) (pa_cons (pv 2) pa_nil)))))) (pss_one (ps_ret (pv 1))))), ?_⟩
    walk_at "un"
    walk_at "go"
    rename_i H1 f1 s1 g1
    walk_at "for"
    refine ⟨_, rfl, a, rfl, ⟨xs, s1.seq hS⟩, ?_⟩
    refine forList (xs := xs) (fun i σ' H' => ∃ f o, σ' = [some (.ref a), some f, o] ∧ Same H H' ∧ Fr K H' f (sumR (rs.take i))) ⟨f1, _, rfl, s1, g1⟩ (fun i σ' H' _ ⟨_, _, _, e, _⟩ => e.seq hS) ?_ ?_
    · rintro i x σ' H' hi ⟨f, o, rfl, s2, hf⟩
      obtain ⟨r, hr, hx⟩ := frs_at hD hi
      have hi' : i < rs.length := (List.getElem?_eq_some_iff.mp hr).1
      have hbr : Bd n r := hb r (List.mem_of_getElem? hr)
      have hbs := bd_sumR (take_bd hb i)
      rw [List.length_take, Nat.min_eq_left (by omega)] at hbs
      have hmul : i * (n + 1) ≤ rs.length * (n + 1) := Nat.mul_le_mul_right _ (by omega)
      walk_at "un"
      walk_at "go"
      refine ⟨f, x, _, r, _, n, rfl, hf, hx.mono s2, hbs, hbr, by omega, fun H3 u s3 hu => ?_⟩
      rw [← sumR_take hr] at hu
      exact ⟨u, _, rfl, s2.trans s3, hu⟩
    · rintro σ' H' ⟨f, o, rfl, s2, hf⟩
      rw [List.take_of_length_le (by omega)] at hf
      exact ⟨_, rfl, q _ _ s2 hf⟩
/-! ### dot -/
def sp_dot (K : PySem.W.Frag) : Sp := fun vs H Q _ => ∃ (v u : V) (rs ss : List Rat) (n : Nat), vs = [v, u] ∧ Frs K H v rs ∧ Frs K H u ss ∧ (∀ r ∈ rs, Bd n r) ∧ (∀ r ∈ ss, Bd n r) ∧ 1 + rs.length * (n + n + 1) + n + n < 8998 ∧ ∀ H' x, Same H H' → Fr K H' x (dotR rs ss) → Q x H'
theorem dot_skip {rs ss : List Rat} {i : Nat} {r s : Rat} (h1 : rs[i]? = some r) (h2 : ss[i]? = some s) (h : r.num = 0 ∨ s.num = 0) : sumR ((List.zipWith (· * ·) rs ss).take (i + 1)) = sumR ((List.zipWith (· * ·) rs ss).take i) := by
  rw [sumR_take (zip_at h1 h2)]
  have e : r * s = 0 := by
    rcases h with h | h
    · rw [Rat.num_eq_zero.mp h, Rat.zero_mul]
    · rw [Rat.num_eq_zero.mp h, Rat.mul_zero]
  rw [e, Rat.add_zero]
theorem ok_dot {f : Addr} {fd : FuncData} (T : Tx K mg) (F : FunD K "dot" "dot" (defArgs s_dot) (defBody s_dot) (defScope s_dot) [] [] f fd) (C_add : Cal P w K mg base "add" 2 ["a", "b"] [] (sp_add K)) (C_multiply : Cal P w K mg base "multiply" 2 ["a", "b"] [] (sp_multiply K)) : FnOk P w K mg base (L2.CX P w) 3 f fd ["first", "second"] (sp_dot K) := by
  refine F.ok sc_dot (fun vs H Q E h => ?_) (fun cdv A outer st H vs Q E hr h => ?_)
  · obtain ⟨_, _, _, _, _, rfl, _⟩ := h
    rfl
  · obtain ⟨v, u, rs, ss, n, rfl, hv, hu, hb1, hb2, hn, q⟩ := h
    obtain ⟨a, xs, rfl, hS, hD⟩ := hv.get
    obtain ⟨b, ys, rfl, hS2, hD2⟩ := hu.get
    have hl := frs_len hD
    have hl2 := frs_len hD2
    refine ⟨_, PSs.nox (pss_cons (ps_set (i := 2) sc_dot.nd rfl (Or.inl rfl) (pe_tupN (pa_cons pe_int (pa_cons pe_int pa_nil)))) (pss_cons (ps_for PassesOwn.never rfl (pi_zip (by rfl) T.n_zip (pa_cons (pv 0) (pa_cons (pv 1) pa_nil))) (pg_tup rfl (pgs_cons (pg_name (i := 3) sc_dot.nd rfl (Or.inl rfl)) (pgs_cons (pg_name (i := 4) sc_dot.nd rfl (Or.inl rfl)) pgs_nil))) (pss_one (ps_if ((pw_and (pt_cmpR (op_neA hr.units) (pe_ix ix_seq (pv 3) pe_int (fun _ _ => rfl)) pe_int (nomark _)) (pw_and1 (pt_cmpR (op_neA hr.units) (pe_ix ix_seq (pv 4) pe_int (fun _ _ => rfl)) pe_int (nomark _))))).pt (pss_one (ps_set (i := 2) sc_dot.nd rfl (Or.inl rfl) (pe_callC C_add hr (by decide) (by rfl) (pa_cons (pv 2) (pa_cons (pe_callC C_multiply hr (by decide) (by rfl) (pa_cons (pv 3) (pa_cons (pv 4) pa_nil))) pa_nil))))) pss_nil))) (pss_one (ps_ret (pv 2))))), ?_⟩
    walk_at "un"
    walk_at "go"
    rename_i H1 f1 s1 g1
    walk_at "for"
    dsimp only [iZip]
    walk_at "for"
    refine ⟨_, rfl, _, rfl, a, b, xs, ys, rfl, s1.seq hS, s1.seq hS2, ?_⟩
    refine forZip (xs := xs) (ys := ys) (fun i σ' H' => ∃ f o1 o2, σ' = [some (.ref a), some (.ref b), some f, o1, o2] ∧ Same H H' ∧ Fr K H' f (sumR ((List.zipWith (· * ·) rs ss).take i))) ⟨f1, _, _, rfl, s1, g1⟩ (fun i σ' H' ⟨_, _, _, _, e, _⟩ => ⟨e.seq hS, e.seq hS2⟩) ?_ ?_
    · rintro i x y σ' H' T hi hj ⟨f, o1, o2, rfl, s2, hf⟩ nT
      obtain ⟨r, hr, hx⟩ := frs_at hD hi
      obtain ⟨s, hs, hy⟩ := frs_at hD2 hj
      have hi' : i < rs.length := (List.getElem?_eq_some_iff.mp hr).1
      have sT : Same H' (upd H' T (.tup [x, y])) := sameNew nT
      have hbr : Bd n r := hb1 r (List.mem_of_getElem? hr)
      have hbs : Bd n s := hb2 s (List.mem_of_getElem? hs)
      have hbz := bd_sumR (take_bd (bd_zip hb1 hb2) i)
      have hlz : ((List.zipWith (· * ·) rs ss).take i).length ≤ rs.length := by
        rw [List.length_take, List.length_zipWith]
        omega
      have hmul : ((List.zipWith (· * ·) rs ss).take i).length * (n + n + 1) ≤ rs.length * (n + n + 1) := Nat.mul_le_mul_right _ hlz
      have hxT : Fr K (upd H' T (.tup [x, y])) x r := (hx.mono s2).mono sT
      have hyT : Fr K (upd H' T (.tup [x, y])) y s := (hy.mono s2).mono sT
      have hfT := hf.mono sT
      walk_at "un"
      refine ⟨T, [x, y], rfl, .inl (.inl upd_same), rfl, x, [y], rfl, y, [], rfl, rfl, ?_⟩
      walk_at "un"
      walk_at "go"
      refine ifB (fun e => ?_) (fun e => ?_)
      · walk_at "go"
        refine ifB (fun e2 => ?_) (fun e2 => ?_)
        · walk_at "go"
          refine ⟨x, y, r, s, n, n, rfl, hxT, hyT, hbr, hbs, by omega, fun H3 u3 s3 hu3 => ?_⟩
          walk_at "go"
          refine ⟨f, u3, _, _, _, _, rfl, hfT.mono s3, hu3, hbz, bd_mul hbr hbs, by omega, fun H4 u4 s4 hu4 => ?_⟩
          rw [← sumR_take (zip_at hr hs)] at hu4
          exact ⟨u4, _, _, rfl, ((s2.trans sT).trans s3).trans s4, hu4⟩
        · have e3 : s.num = 0 := by simpa using e2
          rw [← dot_skip hr hs (.inr e3)] at hfT
          exact ⟨f, _, _, rfl, s2.trans sT, hfT⟩
      · have e3 : r.num = 0 := by simpa using e
        rw [← dot_skip hr hs (.inl e3)] at hfT
        refine iteF ?_
        exact ⟨f, _, _, rfl, s2.trans sT, hfT⟩
    · rintro σ' H' ⟨f, o1, o2, rfl, s2, hf⟩
      rw [List.take_of_length_le (by rw [List.length_zipWith]; omega)] at hf
      exact ⟨_, rfl, q _ _ s2 hf⟩
/-! ### least_index -/
def sp_least_index (K : PySem.W.Frag) : Sp := fun vs H Q _ => ∃ (v : V) (rs : List Rat) (n : Nat), vs = [v] ∧ Frs K H v rs ∧ (∀ r ∈ rs, Bd n r) ∧ n + n < 8999 ∧ ∀ H', Same H H' → Q (optV (pick (-1) rs rs.length)) H'
theorem ok_least_index {f : Addr} {fd : FuncData} (T : Tx K mg) (F : FunD K "least_index" "least_index" (defArgs s_least_index) (defBody s_least_index) (defScope s_least_index) [] [] f fd) (C_compare : Cal P w K mg base "compare" 2 ["a", "b"] [] (sp_compare K)) : FnOk P w K mg base (L2.CX P w) 3 f fd ["values"] (sp_least_index K) := by
  refine F.ok sc_least_index (fun vs H Q E h => ?_) (fun cdv A outer st H vs Q E hr h => ?_)
  · obtain ⟨_, _, _, rfl, _⟩ := h
    rfl
  · obtain ⟨v, rs, n, rfl, hv, hb, hn, q⟩ := h
    obtain ⟨a, xs, rfl, hS, hD⟩ := hv.get
    have hl := frs_len hD
    refine ⟨_, PSs.nox (pss_cons (ps_set (i := 1) sc_least_index.nd rfl (Or.inl rfl) pe_non) (pss_cons (ps_for PassesOwn.never rfl (pi_enum (by rfl) T.n_enumerate (pa_cons (pv 0) pa_nil)) (pg_tup rfl (pgs_cons (pg_name (i := 2) sc_least_index.nd rfl (Or.inl rfl)) (pgs_cons (pg_name (i := 3) sc_least_index.nd rfl (Or.inl rfl)) pgs_nil))) (pss_one (ps_if ((pw_or (pt_cmpR op_isNo (pv 1) pe_non (nomark _)) (pw_or1 (pt_cmpR op_lt (pe_callC C_compare hr (by decide) (by rfl) (pa_cons (pv 3) (pa_cons (pe_ix ix_seq (pv 0) (pv 1) (fun _ _ => rfl)) pa_nil))) pe_int (nomark _))))).pt (pss_one (ps_set (i := 1) sc_least_index.nd rfl (Or.inl rfl) (pv 2))) pss_nil))) (pss_one (ps_ret (pv 1))))), ?_⟩
    walk_at "un"
    walk_at "go"
    walk_at "for"
    dsimp only [iEnum]
    walk_at "for"
    refine ⟨_, rfl, a, xs, rfl, hS, ?_⟩
    refine forEnum (xs := xs) (fun i σ' H' => ∃ o1 o2, σ' = [some (.ref a), some (optV (pick (-1) rs i)), o1, o2] ∧ Same H H') ⟨_, _, rfl, Same.refl H⟩ (fun i σ' H' ⟨_, _, _, e⟩ => e.seq hS) ?_ ?_
    · rintro i x σ' H' T hi ⟨o1, o2, rfl, s2⟩ nT
      obtain ⟨r, hr, hx⟩ := frs_at hD hi
      have sT : Same H' (upd H' T (.tup [.int (i : Nat), x])) := sameNew nT
      have hbr : Bd n r := hb r (List.mem_of_getElem? hr)
      have hxT := (hx.mono s2).mono sT
      walk_at "un"
      refine ⟨T, [.int (i : Nat), x], rfl, .inl (.inl upd_same), rfl, _, [x], rfl, x, [], rfl, rfl, ?_⟩
      walk_at "un"
      have h0 := dp_opt (K := K) (H := upd H' T (.tup [.int (i : Nat), x])) (pick (-1) rs i)
      walk_at "go"
      have hp : pick (-1) rs (i + 1) = (match pick (-1) rs i with | none => some i | some j => if cmpR (rs.getD i 0) (rs.getD j 0) = (-1) then some i else some j) := rfl
      cases hk : pick (-1) rs i with
      | none =>
        simp only [hk] at hp
        refine ifBT rfl (ifBT rfl ?_)
        walk_at "go"
        exact ⟨some (.int (i : Nat)), some x, by rw [hp]; rfl, s2.trans sT⟩
      | some j =>
        simp only [hk] at hp
        refine ifBF rfl ?_
        have hj := pick_lt hk
        have hi' : i < rs.length := (List.getElem?_eq_some_iff.mp hr).1
        obtain ⟨y, hy, hyF⟩ := frs_get (xs := []) hD (List.getElem?_eq_getElem (show j < rs.length by omega))
        have hbj : Bd n rs[j] := hb _ (List.getElem_mem _)
        walk_at "go"
        refine rdIxL ((s2.trans sT).seq hS) (at_of (j := j) (by rfl) hy) ?_
        refine ⟨x, y, r, rs[j], n, n, rfl, hxT, (hyF.mono s2).mono sT, hbr, hbj, hn, fun H3 s3 => ?_⟩
        have e1 : rs.getD i 0 = r := by rw [List.getD_eq_getElem?_getD, hr]; rfl
        have e2 : rs.getD j 0 = rs[j] := by rw [List.getD_eq_getElem?_getD, List.getElem?_eq_getElem (by omega)]; rfl
        rw [e1, e2] at hp
        walk_at "go"
        have key : (cmpR r rs[j] < 0) ↔ cmpR r rs[j] = (-1) := by
          rcases cmpR_cases r rs[j] with ⟨_, e⟩ | ⟨_, e⟩ | ⟨_, e⟩ <;> rw [e] <;> decide
        refine ifD (fun c => ?_) (fun c => ?_)
        · rw [if_pos (key.mp c)] at hp
          walk_at "go"
          exact ⟨some (.int (i : Nat)), some x, by rw [hp]; rfl, (s2.trans sT).trans s3⟩
        · rw [if_neg (fun z => c (key.mpr z))] at hp
          exact ⟨some (.int (i : Nat)), some x, by rw [hp], (s2.trans sT).trans s3⟩
    · rintro σ' H' ⟨o1, o2, rfl, s2⟩
      rw [hl]
      exact ⟨_, rfl, q _ s2⟩
/-! ### greatest_index -/
def sp_greatest_index (K : PySem.W.Frag) : Sp := fun vs H Q _ => ∃ (v : V) (rs : List Rat) (n : Nat), vs = [v] ∧ Frs K H v rs ∧ (∀ r ∈ rs, Bd n r) ∧ n + n < 8999 ∧ ∀ H', Same H H' → Q (optV (pick 1 rs rs.length)) H'
theorem ok_greatest_index {f : Addr} {fd : FuncData} (T : Tx K mg) (F : FunD K "greatest_index" "greatest_index" (defArgs s_greatest_index) (defBody s_greatest_index) (defScope s_greatest_index) [] [] f fd) (C_compare : Cal P w K mg base "compare" 2 ["a", "b"] [] (sp_compare K)) : FnOk P w K mg base (L2.CX P w) 3 f fd ["values"] (sp_greatest_index K) := by
  refine F.ok sc_greatest_index (fun vs H Q E h => ?_) (fun cdv A outer st H vs Q E hr h => ?_)
  · obtain ⟨_, _, _, rfl, _⟩ := h
    rfl
  · obtain ⟨v, rs, n, rfl, hv, hb, hn, q⟩ := h
    obtain ⟨a, xs, rfl, hS, hD⟩ := hv.get
    have hl := frs_len hD
    refine ⟨_, PSs.nox (pss_cons (ps_set (i := 1) sc_greatest_index.nd rfl (Or.inl rfl) pe_non) (pss_cons (ps_for PassesOwn.never rfl (pi_enum (by rfl) T.n_enumerate (pa_cons (pv 0) pa_nil)) (pg_tup rfl (pgs_cons (pg_name (i := 2) sc_greatest_index.nd rfl (Or.inl rfl)) (pgs_cons (pg_name (i := 3) sc_greatest_index.nd rfl (Or.inl rfl)) pgs_nil))) (pss_one (ps_if ((pw_or (pt_cmpR op_isNo (pv 1) pe_non (nomark _)) (pw_or1 (pt_cmpR op_gt (pe_callC C_compare hr (by decide) (by rfl) (pa_cons (pv 3) (pa_cons (pe_ix ix_seq (pv 0) (pv 1) (fun _ _ => rfl)) pa_nil))) pe_int (nomark _))))).pt (pss_one (ps_set (i := 1) sc_greatest_index.nd rfl (Or.inl rfl) (pv 2))) pss_nil))) (pss_one (ps_ret (pv 1))))), ?_⟩
    walk_at "un"
    walk_at "go"
    walk_at "for"
    dsimp only [iEnum]
    walk_at "for"
    refine ⟨_, rfl, a, xs, rfl, hS, ?_⟩
    refine forEnum (xs := xs) (fun i σ' H' => ∃ o1 o2, σ' = [some (.ref a), some (optV (pick 1 rs i)), o1, o2] ∧ Same H H') ⟨_, _, rfl, Same.refl H⟩ (fun i σ' H' ⟨_, _, _, e⟩ => e.seq hS) ?_ ?_
    · rintro i x σ' H' T hi ⟨o1, o2, rfl, s2⟩ nT
      obtain ⟨r, hr, hx⟩ := frs_at hD hi
      have sT : Same H' (upd H' T (.tup [.int (i : Nat), x])) := sameNew nT
      have hbr : Bd n r := hb r (List.mem_of_getElem? hr)
      have hxT := (hx.mono s2).mono sT
      walk_at "un"
      refine ⟨T, [.int (i : Nat), x], rfl, .inl (.inl upd_same), rfl, _, [x], rfl, x, [], rfl, rfl, ?_⟩
      walk_at "un"
      have h0 := dp_opt (K := K) (H := upd H' T (.tup [.int (i : Nat), x])) (pick 1 rs i)
      walk_at "go"
      have hp : pick 1 rs (i + 1) = (match pick 1 rs i with | none => some i | some j => if cmpR (rs.getD i 0) (rs.getD j 0) = 1 then some i else some j) := rfl
      cases hk : pick 1 rs i with
      | none =>
        simp only [hk] at hp
        refine ifBT rfl (ifBT rfl ?_)
        walk_at "go"
        exact ⟨some (.int (i : Nat)), some x, by rw [hp]; rfl, s2.trans sT⟩
      | some j =>
        simp only [hk] at hp
        refine ifBF rfl ?_
        have hj := pick_lt hk
        have hi' : i < rs.length := (List.getElem?_eq_some_iff.mp hr).1
        obtain ⟨y, hy, hyF⟩ := frs_get (xs := []) hD (List.getElem?_eq_getElem (show j < rs.length by omega))
        have hbj : Bd n rs[j] := hb _ (List.getElem_mem _)
        walk_at "go"
        refine rdIxL ((s2.trans sT).seq hS) (at_of (j := j) (by rfl) hy) ?_
        refine ⟨x, y, r, rs[j], n, n, rfl, hxT, (hyF.mono s2).mono sT, hbr, hbj, hn, fun H3 s3 => ?_⟩
        have e1 : rs.getD i 0 = r := by rw [List.getD_eq_getElem?_getD, hr]; rfl
        have e2 : rs.getD j 0 = rs[j] := by rw [List.getD_eq_getElem?_getD, List.getElem?_eq_getElem (by omega)]; rfl
        rw [e1, e2] at hp
        walk_at "go"
        have key : (0 < cmpR r rs[j]) ↔ cmpR r rs[j] = 1 := by
          rcases cmpR_cases r rs[j] with ⟨_, e⟩ | ⟨_, e⟩ | ⟨_, e⟩ <;> rw [e] <;> decide
        refine ifD (fun c => ?_) (fun c => ?_)
        · rw [if_pos (key.mp c)] at hp
          walk_at "go"
          exact ⟨some (.int (i : Nat)), some x, by rw [hp]; rfl, (s2.trans sT).trans s3⟩
        · rw [if_neg (fun z => c (key.mpr z))] at hp
          exact ⟨some (.int (i : Nat)), some x, by rw [hp], (s2.trans sT).trans s3⟩
    · rintro σ' H' ⟨o1, o2, rfl, s2⟩
      rw [hl]
      exact ⟨_, rfl, q _ s2⟩
/-! ### _law_dot -/
def sp__law_dot (K : PySem.W.Frag) : Sp := fun vs H Q _ => ∃ (v u : V) (rs ss : List Rat) (n : Nat), vs = [v, u] ∧ Frs K H v rs ∧ Frs K H u ss ∧ (∀ r ∈ rs, Bd n r) ∧ (∀ r ∈ ss, Bd n r) ∧ rs.length ≤ 60 ∧ n ≤ 10 ∧ ∀ H' x, Same H H' → Fr K H' x (dotR rs ss) → Q x H'
theorem ok__law_dot {f : Addr} {fd : FuncData} (T : Tx K mg) (F : FunD K "_law_dot" "_law_dot" (defArgs s__law_dot) (defBody s__law_dot) (defScope s__law_dot) [] [] f fd) (C__law_times : Cal P w K mg base "_law_times" 3 ["a", "b"] [] (sp__law_times K)) (C__law_total : Cal P w K mg base "_law_total" 4 ["values"] [] (sp__law_total K)) : FnOk P w K mg base (L2.CX P w) 5 f fd ["first", "second"] (sp__law_dot K) := by
  refine F.ok sc__law_dot (fun vs H Q E h => ?_) (fun cdv A outer st H vs Q E hr h => ?_)
  · obtain ⟨_, _, _, _, _, rfl, _⟩ := h
    rfl
  · obtain ⟨v, u, rs, ss, n, rfl, hv, hu, hb1, hb2, hln, hn, q⟩ := h
    obtain ⟨a, xs, rfl, hS, hD⟩ := hv.get
    obtain ⟨b, ys, rfl, hS2, hD2⟩ := hu.get
    have hl := frs_len hD
    have hl2 := frs_len hD2
    refine ⟨_, PSs.nox (pss_one (ps_ret (pe_callC C__law_total hr (by decide) (by rfl) (pa_cons (pe_lc (own := [("k", 2)]) (g := gName 2) (tt := tYes) rfl sc__law_dot.nd (pi_range1 (by rfl) T.n_range (pa_cons (pe_callB (cl_min2 rfl) (by rfl) T.n_min bb_min (pa_cons (pe_callB cl_len (by rfl) T.n_len bb_len (pa_cons (pv 0) pa_nil)) (pa_cons (pe_callB cl_len (by rfl) T.n_len bb_len (pa_cons (pv 1) pa_nil)) pa_nil))) pa_nil)) (blkOk_by (N := N__law_dot) (sc := defScope s__law_dot) (by decide +kernel)) (fun _ _ _ _ _ => (pg_name (i := 2) sc__law_dot.nd rfl (by first | exact Or.inl rfl | exact Or.inr rfl))) (fun _ _ _ _ _ => pts_nil) (fun _ _ _ _ _ => (pe_callC C__law_times hr (by decide) (by rfl) (pa_cons (pe_ix (ix_seqK (K := K) rfl) (pv 0) (pv 2) (fun _ _ => rfl)) (pa_cons (pe_ix (ix_seqK (K := K) rfl) (pv 1) (pv 2) (fun _ _ => rfl)) pa_nil))))) pa_nil)))), ?_⟩
    walk_at "un"
    dsimp only [tLc]
    walk_at "for"
    walk_at "go"
    refine ⟨by omega, by omega, fun D nD => ?_⟩
    refine lc_range (n := min xs.length ys.length) (fun i H' => Same H H' ∧ ∃ acc, H' D = some (.lst acc) ∧ DpAll K H' acc (((List.zipWith (· * ·) rs ss).take i).map frD) ∧ acc.length = i) ⟨sameNew nD, [], upd_same, .nil, rfl⟩ ?_ ?_
    · rintro i H1 hi ⟨s1, acc, hacc, hA, hla⟩
      obtain ⟨r, hr, hx⟩ := frs_at hD (List.getElem?_eq_getElem (show i < xs.length by omega))
      obtain ⟨s, hs, hy⟩ := frs_at hD2 (List.getElem?_eq_getElem (show i < ys.length by omega))
      dsimp only [wipe, tYes]
      walk_at "un"
      refine ⟨rfl, iteT ?_⟩
      walk_at "go"
      refine rdIxL (s1.seq hS) (at_of (j := i) (by omega) (List.getElem?_eq_getElem (by omega))) ?_
      walk_at "go"
      refine rdIxL (s1.seq hS2) (at_of (j := i) (by omega) (List.getElem?_eq_getElem (by omega))) ?_
      refine ⟨_, _, r, s, n, n, rfl, hx.mono s1, hy.mono s1, hb1 r (List.mem_of_getElem? hr), hb2 s (List.mem_of_getElem? hs), by omega, fun H2 z s2 hz => ?_⟩
      have hacc2 := s2 _ _ hacc
      refine ⟨acc, hacc2, by have := small1000 (n := acc.length) (by omega); exact this, ?_, acc ++ [z], upd_same, ?_, by simp [hla]⟩
      · intro p o hp
        rw [upd_ne (ne_of_none hp nD)]
        exact s2 _ _ (s1 _ _ hp)
      · have g := Own.push (d := Nat.succ D) hacc2 (Nat.ne_of_lt (Nat.lt_succ_self D)) (Dp.monoAll s2 _ _ hA) hz
        obtain ⟨zs, g1, _, g2⟩ := g.ex
        rw [upd_same] at g1
        cases g1
        have e : (List.zipWith (· * ·) rs ss).take (i + 1) = (List.zipWith (· * ·) rs ss).take i ++ [r * s] := by
          rw [List.take_add_one, zip_at hr hs]
          rfl
        rw [e]
        exact g2
    · rintro H1 ⟨s1, acc, hacc, hA, hla⟩
      have hz : (List.zipWith (· * ·) rs ss).length = min xs.length ys.length := by
        rw [List.length_zipWith]
        omega
      rw [List.take_of_length_le (by omega)] at hA
      have hmul : (List.zipWith (· * ·) rs ss).length * (n + n + 1) ≤ 60 * 21 := Nat.mul_le_mul (by omega) (by omega)
      refine ⟨.ref D, List.zipWith (· * ·) rs ss, n + n, rfl, .lst (.inl (.inl hacc)) hA, bd_zip hb1 hb2, by omega, fun H2 x s2 hx => ?_⟩
      exact q _ _ (s1.trans s2) hx
/-! ### _law_first -/
def sp__law_first (K : PySem.W.Frag) : Sp := fun vs H Q _ => ∃ (v : V) (w : Int) (rs : List Rat) (n : Nat), vs = [v, .int w] ∧ Frs K H v rs ∧ (∀ r ∈ rs, Bd n r) ∧ n + n < 8999 ∧ rs.length ≤ 1000 ∧ Q (optV (pick w rs rs.length)) H
theorem ok__law_first {f : Addr} {fd : FuncData} (T : Tx K mg) (F : FunD K "_law_first" "_law_first" (defArgs s__law_first) (defBody s__law_first) (defScope s__law_first) [] [] f fd) (C__law_order : Cal P w K mg base "_law_order" 1 ["a", "b"] [] (sp__law_order K)) : FnOk P w K mg base (L2.CX P w) 2 f fd ["values", "wanted"] (sp__law_first K) := by
  refine F.ok sc__law_first (fun vs H Q E h => ?_) (fun cdv A outer st H vs Q E hr h => ?_)
  · obtain ⟨_, _, _, _, rfl, _⟩ := h
    rfl
  · obtain ⟨v, wz, rs, n, rfl, hv, hb, hn, hl1, q⟩ := h
    obtain ⟨a, xs, rfl, hS, hD⟩ := hv.get
    have hl := frs_len hD
    refine ⟨_, PSs.nox (pss_cons (ps_set (i := 2) sc__law_first.nd rfl (Or.inl rfl) pe_non) (pss_cons (ps_for PassesOwn.never rfl (pi_range1 (by rfl) T.n_range (pa_cons (pe_callB cl_len (by rfl) T.n_len bb_len (pa_cons (pv 0) pa_nil)) pa_nil)) (pg_name (i := 3) sc__law_first.nd rfl (Or.inl rfl)) (pss_one (ps_if ((pw_or (pt_cmpR op_isNo (pv 2) pe_non (nomark _)) (pw_or1 (pt_cmpR (op_eqA hr.units) (pe_callC C__law_order hr (by decide) (by rfl) (pa_cons (pe_ix ix_seq (pv 0) (pv 3) (fun _ _ => rfl)) (pa_cons (pe_ix ix_seq (pv 0) (pv 2) (fun _ _ => rfl)) pa_nil))) (pv 1) (nomark _))))).pt (pss_one (ps_set (i := 2) sc__law_first.nd rfl (Or.inl rfl) (pv 3))) pss_nil))) (pss_one (ps_ret (pv 2))))), ?_⟩
    walk_at "un"
    walk_at "go"
    walk_at "for"
    walk_at "go"
    refine ⟨by omega, by omega, ?_⟩
    refine forRange (n := xs.length) (fun i σ' H' => ∃ o1, σ' = [some (.ref a), some (.int wz), some (optV (pick wz rs i)), o1] ∧ H' = H) ⟨_, rfl, rfl⟩ ?_ ?_
    · rintro i σ' H' hi ⟨o1, rfl, rfl⟩
      obtain ⟨r, hr, hx⟩ := frs_at hD (List.getElem?_eq_getElem hi)
      have hbr : Bd n r := hb r (List.mem_of_getElem? hr)
      walk_at "un"
      have h0 := dp_opt (K := K) (H := H') (pick wz rs i)
      walk_at "go"
      have hp : pick wz rs (i + 1) = (match pick wz rs i with | none => some i | some j => if cmpR (rs.getD i 0) (rs.getD j 0) = wz then some i else some j) := rfl
      have ei : (0 : Int) + (i : Int) = (i : Int) := by omega
      cases hk : pick wz rs i with
      | none =>
        simp only [hk] at hp
        refine ifBT rfl (ifBT rfl ?_)
        walk_at "go"
        rw [ei]
        exact ⟨some (.int (i : Nat)), by rw [hp]; rfl, rfl⟩
      | some j =>
        simp only [hk] at hp
        refine ifBF rfl ?_
        have hj := pick_lt hk
        obtain ⟨y, hy, hyF⟩ := frs_get (xs := []) hD (List.getElem?_eq_getElem (show j < rs.length by omega))
        have hbj : Bd n rs[j] := hb _ (List.getElem_mem _)
        walk_at "go"
        refine rdIxL hS (at_of (j := i) ei (List.getElem?_eq_getElem hi)) ?_
        walk_at "go"
        refine rdIxL hS (at_of (j := j) (by rfl) hy) ?_
        refine ⟨_, y, r, rs[j], n, n, rfl, hx, hyF, hbr, hbj, hn, ?_⟩
        have e1 : rs.getD i 0 = r := by rw [List.getD_eq_getElem?_getD, hr]; rfl
        have e2 : rs.getD j 0 = rs[j] := by rw [List.getD_eq_getElem?_getD, List.getElem?_eq_getElem (by omega)]; rfl
        rw [e1, e2] at hp
        walk_at "go"
        refine ifD (fun c => ?_) (fun c => ?_)
        · rw [if_pos c] at hp
          walk_at "go"
          rw [ei]
          exact ⟨some (.int (i : Nat)), by rw [hp]; rfl, rfl⟩
        · rw [if_neg c] at hp
          rw [ei]
          exact ⟨some (.int (i : Nat)), by rw [hp], rfl⟩
    · rintro σ' H' ⟨o1, rfl, rfl⟩
      rw [hl]
      exact ⟨_, rfl, q⟩
/-! ### _law_small -/
def sp__law_small (K : PySem.W.Frag) : Sp := fun vs H Q _ => ∃ (d : Addr), vs = [.ref d] ∧ Deck H d ∧ ∀ H' x r, SameX d H H' → Deck H' d → Fr K H' x r → Bd 4 r → Q x H'
theorem ok__law_small {f : Addr} {fd : FuncData} (T : Tx K mg) (F : FunD K "_law_small" "_law_small" (defArgs s__law_small) (defBody s__law_small) (defScope s__law_small) [] [] f fd) (C__law_draw : Cal P w K mg base "_law_draw" 1 ["deck", "most"] [] (sp__law_draw)) (C__law_ratio : Cal P w K mg base "_law_ratio" 2 ["p", "q"] [] (sp__law_ratio K)) : FnOk P w K mg base (L2.CX P w) 3 f fd ["deck"] (sp__law_small K) := by
  refine F.ok sc__law_small (fun vs H Q E h => ?_) (fun cdv A outer st H vs Q E hr h => ?_)
  · obtain ⟨_, rfl, _⟩ := h
    rfl
  · obtain ⟨d, rfl, D, q⟩ := h
    refine ⟨_, PSs.nox (pss_cons (ps_if (pt_cmpR op_gt (pe_callC C__law_draw hr (by decide) (by rfl) (pa_cons (pv 0) (pa_cons pe_int pa_nil))) pe_int (nomark _)) (pss_one (ps_ret (pe_tupN (pa_cons (pe_op op_sub (pe_callC C__law_draw hr (by decide) (by rfl) (pa_cons (pv 0) (pa_cons pe_int pa_nil))) pe_int) (pa_cons pe_int pa_nil))))) pss_nil) (pss_one (ps_ret (pe_callC C__law_ratio hr (by decide) (by rfl) (pa_cons (pe_op op_sub (pe_callC C__law_draw hr (by decide) (by rfl) (pa_cons (pv 0) (pa_cons pe_int pa_nil))) pe_int) (pa_cons (pe_op op_add pe_int (pe_callC C__law_draw hr (by decide) (by rfl) (pa_cons (pv 0) (pa_cons pe_int pa_nil)))) pa_nil)))))), ?_⟩
    walk_at "un"
    walk_at "go"
    refine ⟨d, 4, 3, rfl, D, by decide, by decide, by decide, fun H1 k s1 D1 k0 k8 => ?_⟩
    walk_at "go"
    refine ifD (fun c => ?_) (fun c => ?_)
    · walk_at "go"
      refine ⟨d, 6, 4, rfl, D1, by decide, by decide, by decide, fun H2 x s2 D2 x0 x7 => ?_⟩
      walk_at "go"
      rename_i H3 u3 s3 h3
      refine q _ _ (Rat.divInt (x - 2) 1) ((s1.trans s2).trans (Same.x s3)) (D2.mono s3) (fr_int h3) (bd_divInt (by decide) (by omega) (by decide))
    · walk_at "go"
      refine ⟨d, 9, 4, rfl, D1, by decide, by decide, by decide, fun H2 x s2 D2 x0 x7 => ?_⟩
      walk_at "go"
      refine ⟨d, 4, 4, rfl, D2, by decide, by decide, by decide, fun H3 y s3 D3 y0 y7 => ?_⟩
      walk_at "go"
      refine ⟨_, _, 4, rfl, by omega, by decide, by omega, fun H4 v s4 hv => ?_⟩
      exact q _ _ _ (((s1.trans s2).trans s3).trans (Same.x s4)) (D3.mono s4) hv (bd_divInt (by omega) (by omega) (by omega))
/-! ### _law_list -/
/-- a drawn list of fractions, its own -/
def sp__law_list (K : PySem.W.Frag) : Sp := fun vs H Q _ => ∃ (d : Addr), vs = [.ref d] ∧ Deck H d ∧ ∀ H' a rs, SameX d H H' → Deck H' d → Own K H' d a rs → H a = none → rs.length ≤ 60 → (∀ r ∈ rs, Bd 4 r) → Q (.ref a) H'
theorem ok__law_list {f : Addr} {fd : FuncData} (T : Tx K mg) (F : FunD K "_law_list" "_law_list" (defArgs s__law_list) (defBody s__law_list) (defScope s__law_list) [] [] f fd) (C__law_draw : Cal P w K mg base "_law_draw" 1 ["deck", "most"] [] (sp__law_draw)) (C__law_small : Cal P w K mg base "_law_small" 3 ["deck"] [] (sp__law_small K)) : FnOk P w K mg base (L2.CX P w) 4 f fd ["deck"] (sp__law_list K) := by
  refine F.ok sc__law_list (fun vs H Q E h => ?_) (fun cdv A outer st H vs Q E hr h => ?_)
  · obtain ⟨_, rfl, _⟩ := h
    rfl
  · obtain ⟨d, rfl, D, q⟩ := h
    refine ⟨_, PSs.nox (pss_cons (ps_set (i := 1) sc__law_list.nd rfl (Or.inl rfl) (pe_callC C__law_draw hr (by decide) (by rfl) (pa_cons (pv 0) (pa_cons pe_int pa_nil)))) (pss_consJ (ps_if (pt_cmpR (op_eqA hr.units) (pe_callC C__law_draw hr (by decide) (by rfl) (pa_cons (pv 0) (pa_cons pe_int pa_nil))) pe_int (nomark _)) (pss_one (ps_set (i := 1) sc__law_list.nd rfl (Or.inl rfl) pe_int)) pss_nil) (pss_cons (ps_set (i := 2) sc__law_list.nd rfl (Or.inl rfl) (pe_lstN pa_nil)) (pss_cons (ps_for PassesOwn.never rfl (pi_range1 (by rfl) T.n_range (pa_cons (pv 1) pa_nil)) (pg_name (i := 3) sc__law_list.nd rfl (Or.inl rfl)) (pss_one (ps_if ((pw_and (pt_cmpR (op_neA hr.units) (pv 2) (pe_lstN pa_nil) (nomark _)) (pw_and1 (pt_cmpR (op_eqA hr.units) (pe_callC C__law_draw hr (by decide) (by rfl) (pa_cons (pv 0) (pa_cons pe_int pa_nil))) pe_int (nomark _))))).pt (pss_one (ps_expr (pe_bm PySem.F.plainAttrs_list PySem.F.slot_list_append PySem.F.type_list_append mt_append (pv 2) (pa_cons (pe_ix ix_seq (pv 2) (pe_callC C__law_draw hr (by decide) (by rfl) (pa_cons (pv 0) (pa_cons (pe_callB cl_len (by rfl) T.n_len bb_len (pa_cons (pv 2) pa_nil)) pa_nil))) (fun _ _ => rfl)) pa_nil)))) (pss_one (ps_expr (pe_bm PySem.F.plainAttrs_list PySem.F.slot_list_append PySem.F.type_list_append mt_append (pv 2) (pa_cons (pe_callC C__law_small hr (by decide) (by rfl) (pa_cons (pv 0) pa_nil)) pa_nil))))))) (pss_one (ps_ret (pv 2))))))), ?_⟩
    walk_at "un"
    walk_at "go"
    refine ⟨d, 7, 4, rfl, D, by decide, by decide, by decide, fun H1 m0 s1 D1 k0 k8 => ?_⟩
    refine seqJ (fun σ' H' => ∃ m : Nat, m ≤ 60 ∧ σ' = [some (.ref d), some (.int (m : Int)), none, none] ∧ Deck H' d ∧ SameX d H H') (fun U hU => ?_) ?_
    · walk_at "un"
      walk_at "go"
      refine ⟨d, 8, 4, rfl, D1, by decide, by decide, by decide, fun H2 z s2 D2 z0 z8 => ?_⟩
      walk_at "go"
      refine ifD (fun c => ?_) (fun c => ?_)
      · walk_at "go"
        exact hU _ _ ⟨60, by decide, rfl, D2, s1.trans s2⟩
      · refine hU _ _ ⟨m0.toNat, by omega, ?_, D2, s1.trans s2⟩
        rw [Int.toNat_of_nonneg k0]
    · rintro σ' H2 ⟨m, hm, rfl, D2, s2⟩
      walk_at "un"
      refine rdLstH (Nat.zero_le _) fun H3 a s3 na ha => ?_
      have hHa : H a = none := by
        cases e : H a with
        | none => rfl
        | some o =>
          by_cases hd : a = d
          · subst hd
            obtain ⟨ys, hy⟩ := D2.lst
            rw [na] at hy
            cases hy
          · rw [s2.but _ _ hd e] at na
            cases na
      have had : a ≠ d := by
        intro z
        subst z
        obtain ⟨ys, hy⟩ := D2.lst
        rw [na] at hy
        cases hy
      walk_at "for"
      refine ⟨_, rfl, m, rfl, by omega, by omega, ?_⟩
      refine forRange (n := m) (fun i σ' H' => ∃ rs o, σ' = [some (.ref d), some (.int (m : Int)), some (.ref a), o] ∧ Own K H' d a rs ∧ rs.length = i ∧ (∀ r ∈ rs, Bd 4 r) ∧ Deck H' d ∧ SameX d H H') ⟨[], _, rfl, ⟨[], ha, had, .nil⟩, rfl, fun r h => absurd h (by simp), D2.mono s3, s2.trans (Same.x s3)⟩ ?_ ?_
      · rintro i σ' H4 hi ⟨rs, o, rfl, hO, hlr, hb, D4, s4⟩
        -- an appended fraction
        have fin : ∀ (H' : Hp) (xs : List V) (v : V) (r : Rat), SameX d H H' → Deck H' d → H' a = some (.lst xs) → DpAll K H' xs (rs.map frD) → Fr K H' v r → Bd 4 r →
            Own K (upd H' a (.lst (xs ++ [v]))) d a (rs ++ [r]) ∧ (rs ++ [r]).length = i + 1 ∧ (∀ x ∈ rs ++ [r], Bd 4 x) ∧ Deck (upd H' a (.lst (xs ++ [v]))) d ∧ SameX d H (upd H' a (.lst (xs ++ [v]))) := by
          intro H' xs v r hs hD' hxs hA hv hbr
          refine ⟨Own.push hxs had hA hv, by simp [hlr], ?_, ?_, ?_⟩
          · intro x hx
            rcases List.mem_append.mp hx with hx | hx
            · exact hb x hx
            · rw [List.mem_singleton.mp hx]
              exact hbr
          · obtain ⟨s0, hs0⟩ := D.cells
            exact (hs0.upd (hs.cells _ hs0) hHa).deck
          · exact hs.upd hHa
        walk_at "un"
        walk_at "go"
        refine rdLstH (Nat.zero_le _) fun H5 l s5 nl hl => ?_
        obtain ⟨xs, hxs, _, hA⟩ := hO.ex
        have D5 := D4.mono s5
        have s05 : SameX d H H5 := s4.trans (Same.x s5)
        have hxs5 := s5 _ _ hxs
        have hA5 := Dp.monoAll s5 _ _ hA
        have hlx := frs_len hA
        refine .inr ⟨.list (rs.map frD), .list [], .lst (.inl (.inl hxs5)) hA5, .lst (.inl (.inl hl)) .nil, shaped_frs rs, rfl, ?_⟩
        walk_at "go"
        have hO5 : Own K H5 d a rs := hO.mono s5
        refine ifB (fun e => ?_) (fun e => ?_)
        · have hne : rs ≠ [] := by
            intro z
            subst z
            exact absurd e (by decide)
          walk_at "go"
          refine ⟨d, 3, 2, rfl, D5, by decide, by decide, by decide, fun H6 x s6 D6 x0 x3 => ?_⟩
          have s06 := s05.trans s6
          have hO6 := hO5.monoX s6 D5
          walk_at "go"
          refine ifD (fun c => ?_) (fun c => ?_)
          · walk_at "go"
            obtain ⟨xs6, hx6, _, hA6⟩ := hO6.ex
            have hl6 := frs_len hA6
            have hpos : 0 < rs.length := List.length_pos_iff.mpr hne
            refine ⟨.inl ⟨rfl, _, .inl (.inl hx6)⟩, ?_⟩
            walk_at "go"
            refine ⟨d, _, 7, rfl, D6, by omega, by omega, by decide, fun H7 y s7 D7 y0 y7 => ?_⟩
            obtain ⟨xs7, hx7, _, hA7⟩ := (hO6.monoX s7 D6).ex
            have hl7 := frs_len hA7
            obtain ⟨v, hv, hvF⟩ := frs_get (xs := []) hA7 (List.getElem?_eq_getElem (show y.toNat < rs.length by omega))
            refine rdIxL (.inl (.inl hx7)) (at_of (j := y.toNat) (by omega) hv) ?_
            refine ⟨a, xs7, v, rfl, rfl, hx7, small1000 (by omega), ?_⟩
            exact ⟨rs ++ [_], _, rfl, fin _ _ _ _ (s06.trans s7) D7 hx7 hA7 hvF (hb _ (List.getElem_mem _))⟩
          · walk_at "go"
            obtain ⟨xs6, hx6, _, hA6⟩ := hO6.ex
            refine ⟨.inl ⟨rfl, _, .inl (.inl hx6)⟩, ?_⟩
            walk_at "go"
            refine ⟨d, rfl, D6, fun H7 z r s7 D7 hz hbz => ?_⟩
            obtain ⟨xs7, hx7, _, hA7⟩ := (hO6.monoX s7 D6).ex
            have hl7 := frs_len hA7
            refine ⟨a, xs7, z, rfl, rfl, hx7, small1000 (by omega), ?_⟩
            exact ⟨rs ++ [r], _, rfl, fin _ _ _ _ (s06.trans s7) D7 hx7 hA7 hz hbz⟩
        · have s06 := s05
          have D6 := D5
          have hO6 := hO5
          refine iteF ?_
          walk_at "go"
          obtain ⟨xs6, hx6, _, hA6⟩ := hO6.ex
          refine ⟨.inl ⟨rfl, _, .inl (.inl hx6)⟩, ?_⟩
          walk_at "go"
          refine ⟨d, rfl, D6, fun H7 z r s7 D7 hz hbz => ?_⟩
          obtain ⟨xs7, hx7, _, hA7⟩ := (hO6.monoX s7 D6).ex
          have hl7 := frs_len hA7
          refine ⟨a, xs7, z, rfl, rfl, hx7, small1000 (by omega), ?_⟩
          exact ⟨rs ++ [r], _, rfl, fin _ _ _ _ (s06.trans s7) D7 hx7 hA7 hz hbz⟩
      · rintro σ' H4 ⟨rs, o, rfl, hO, hlr, hb, D4, s4⟩
        exact ⟨_, rfl, q _ _ rs s4 D4 hO hHa (by omega) hb⟩
/-! ### law -/
theorem rd_same {K : PySem.W.Frag} {H : Hp} {Q : VK} {E : XK} {v u : V} {r s : Rat} (hv : Fr K H v r) (hu : Fr K H u s) (e : r = s) (q : Q (.bl true) H) : sp__law_same K 3 [v, u] H Q E := by
  subst e
  exact ⟨v, u, _, rfl, hv, hu, by show (1 : Nat) < 3; decide, rfl, q⟩
theorem rd_sameD {K : PySem.W.Frag} {H : Hp} {Q : VK} {E : XK} {v u : V} {d : PyData} (hv : Dp K H v d) (hu : Dp K H u d) (k : d.depth < 3) (n : noL d = true) (q : Q (.bl true) H) : sp__law_same K 3 [v, u] H Q E := ⟨v, u, d, rfl, hv, hu, k, n, q⟩
theorem eq_self {d : PyData} (h : d.canLay0 = true) : PyData.eqv d d = true := PySem.SeqAt.eqv_refl d h
theorem rd_total {K : PySem.W.Frag} {H : Hp} {Q : VK} {E : XK} {v : V} {rs : List Rat} (h : Frs K H v rs) (hl : rs.length ≤ 60) (hb : ∀ r ∈ rs, Bd 4 r) (q : ∀ H' u, Same H H' → Fr K H' u (sumR rs) → Q u H') : sp_total K [v] H Q E := ⟨v, rs, 4, rfl, h, hb, by omega, q⟩
theorem rd__law_total {K : PySem.W.Frag} {H : Hp} {Q : VK} {E : XK} {v : V} {rs : List Rat} (h : Frs K H v rs) (hl : rs.length ≤ 60) (hb : ∀ r ∈ rs, Bd 4 r) (q : ∀ H' u, Same H H' → Fr K H' u (sumR rs) → Q u H') : sp__law_total K [v] H Q E := ⟨v, rs, 4, rfl, h, hb, by omega, q⟩
theorem rd_dot {K : PySem.W.Frag} {H : Hp} {Q : VK} {E : XK} {v u : V} {rs ss : List Rat} (h : Frs K H v rs) (h2 : Frs K H u ss) (hl : rs.length ≤ 60) (hb : ∀ r ∈ rs, Bd 4 r) (hb2 : ∀ r ∈ ss, Bd 4 r) (q : ∀ H' x, Same H H' → Fr K H' x (dotR rs ss) → Q x H') : sp_dot K [v, u] H Q E := ⟨v, u, rs, ss, 4, rfl, h, h2, hb, hb2, by omega, q⟩
theorem rd__law_dot {K : PySem.W.Frag} {H : Hp} {Q : VK} {E : XK} {v u : V} {rs ss : List Rat} (h : Frs K H v rs) (h2 : Frs K H u ss) (hl : rs.length ≤ 60) (hb : ∀ r ∈ rs, Bd 4 r) (hb2 : ∀ r ∈ ss, Bd 4 r) (q : ∀ H' x, Same H H' → Fr K H' x (dotR rs ss) → Q x H') : sp__law_dot K [v, u] H Q E := ⟨v, u, rs, ss, 4, rfl, h, h2, hb, hb2, hl, by omega, q⟩
theorem rd_least {K : PySem.W.Frag} {H : Hp} {Q : VK} {E : XK} {v : V} {rs : List Rat} (h : Frs K H v rs) (hb : ∀ r ∈ rs, Bd 4 r) (q : ∀ H', Same H H' → Q (optV (pick (-1) rs rs.length)) H') : sp_least_index K [v] H Q E := ⟨v, rs, 4, rfl, h, hb, by omega, q⟩
theorem rd_greatest {K : PySem.W.Frag} {H : Hp} {Q : VK} {E : XK} {v : V} {rs : List Rat} (h : Frs K H v rs) (hb : ∀ r ∈ rs, Bd 4 r) (q : ∀ H', Same H H' → Q (optV (pick 1 rs rs.length)) H') : sp_greatest_index K [v] H Q E := ⟨v, rs, 4, rfl, h, hb, by omega, q⟩
theorem rd_first {K : PySem.W.Frag} {H : Hp} {Q : VK} {E : XK} {v : V} {w : Int} {rs : List Rat} (h : Frs K H v rs) (hl : rs.length ≤ 60) (hb : ∀ r ∈ rs, Bd 4 r) (q : Q (optV (pick w rs rs.length)) H) : sp__law_first K [v, .int w] H Q E := ⟨v, w, rs, 4, rfl, h, hb, by omega, by omega, q⟩
theorem rd_sameO {K : PySem.W.Frag} {H : Hp} {Q : VK} {E : XK} (o : Option Nat) (q : Q (.bl true) H) : sp__law_same K 3 [optV o, optV o] H Q E := ⟨_, _, optD o, rfl, dp_opt o, dp_opt o, by cases o <;> exact (by decide : (0 : Nat) < 3), by cases o <;> rfl, q⟩
theorem dotR_comm : ∀ (rs ss : List Rat), dotR rs ss = dotR ss rs := fun rs ss => by
  unfold dotR
  rw [List.zipWith_comm_of_comm Rat.mul_comm]
theorem nil_bd : ∀ r ∈ ([] : List Rat), Bd 4 r := fun r h => absurd h (by simp)
theorem two_canLay (rs ss : List Rat) : PyData.canLay0 (.list [.list (rs.map frD), .list (ss.map frD)]) = true := by
  show (PyData.canLayAll0 (rs.map frD) && (PyData.canLayAll0 (ss.map frD) && true)) = true
  rw [canLay_frs, canLay_frs]
  rfl
theorem two_shaped (rs ss : List Rat) : PySem.SeqAt.shaped (.list [.list (rs.map frD), .list (ss.map frD)]) = true := by
  show (PyData.canLay0 (.list [.list (rs.map frD), .list (ss.map frD)]) && decide (max (PyData.depthAll (rs.map frD) + 1) (max (PyData.depthAll (ss.map frD) + 1) 0) + 1 ≤ 64)) = true
  have h1 := depth_frs rs
  have h2 := depth_frs ss
  rw [two_canLay, decide_eq_true (by omega)]
  rfl
local macro_rules | `(tactic| walk_at "fs") => `(tactic| first | assumption | exact Frs.mono (by assumption) (by walk_at "fs"))
local macro_rules | `(tactic| walk_at "ca") => `(tactic| first
  | ((with_reducible refine' rd_total ?k1 ?k2 ?k3 (fun _ _ _ _ => ?_)); (case k1 => walk_at "fs"); (case k2 => assumption); (case k3 => assumption))
  | ((with_reducible refine' rd__law_total ?k1 ?k2 ?k3 (fun _ _ _ _ => ?_)); (case k1 => walk_at "fs"); (case k2 => assumption); (case k3 => assumption))
  | ((with_reducible refine' rd_dot ?k1 ?k4 ?k2 ?k3 ?k5 (fun _ _ _ _ => ?_)); (case k1 => walk_at "fs"); (case k4 => walk_at "fs"); (case k2 => assumption); (case k3 => assumption); (case k5 => assumption))
  | ((with_reducible refine' rd__law_dot ?k1 ?k4 ?k2 ?k3 ?k5 (fun _ _ _ _ => ?_)); (case k1 => walk_at "fs"); (case k4 => walk_at "fs"); (case k2 => assumption); (case k3 => assumption); (case k5 => assumption))
  | ((with_reducible refine' rd_least ?k1 ?k3 (fun _ _ => ?_)); (case k1 => walk_at "fs"); (case k3 => assumption))
  | ((with_reducible refine' rd_greatest ?k1 ?k3 (fun _ _ => ?_)); (case k1 => walk_at "fs"); (case k3 => assumption))
  | ((with_reducible refine' rd_first ?k1 ?k2 ?k3 ?_); (case k1 => walk_at "fs"); (case k2 => assumption); (case k3 => assumption))
  | (with_reducible refine rd_sameO _ ?_)
  | ((with_reducible refine' rd_same ?k1 ?k2 ?k3 ?_); (case k1 => walk_at "fr"); (case k2 => walk_at "fr"); (case k3 => first | rfl | exact dotR_comm _ _))
  | ((with_reducible refine' rd_sameD (d := .tuple [.int 0, .int 1]) ?k1 ?k2 ?k3 ?k4 ?_); (case k1 => walk_at "dp"); (case k2 => walk_at "dp"); (case k3 => exact (by decide : (1 : Nat) < 3)); (case k4 => rfl)))
local macro_rules | `(tactic| walk_at "gc") => `(tactic| repeat first | walk_at "st" | walk_at "ca" | walk_at "ew")
def sp_law (K : PySem.W.Frag) : Sp := fun vs H Q _ => ∃ (a : Addr) (ns : List Int), vs = [.ref a] ∧ SqL K H a (ns.map V.int) ∧ ns.length ≤ 63 ∧ ∀ H', Q (.bl true) H'
theorem ok_law {f : Addr} {fd : FuncData} (T : Tx K mg) (F : FunD K "law" "law" (defArgs s_law) (defBody s_law) (defScope s_law) [] [] f fd) (C__law_deck : Cal P w K mg base "_law_deck" 1 ["script"] [] (sp__law_deck K)) (C__law_dot : Cal P w K mg base "_law_dot" 5 ["first", "second"] [] (sp__law_dot K)) (C__law_first : Cal P w K mg base "_law_first" 2 ["values", "wanted"] [] (sp__law_first K)) (C__law_list : Cal P w K mg base "_law_list" 4 ["deck"] [] (sp__law_list K)) (C__law_same : Cal P w K mg base "_law_same" 3 ["actual", "due"] [] (sp__law_same K 3)) (C__law_total : Cal P w K mg base "_law_total" 4 ["values"] [] (sp__law_total K)) (C_dot : Cal P w K mg base "dot" 3 ["first", "second"] [] (sp_dot K)) (C_greatest_index : Cal P w K mg base "greatest_index" 3 ["values"] [] (sp_greatest_index K)) (C_least_index : Cal P w K mg base "least_index" 3 ["values"] [] (sp_least_index K)) (C_total : Cal P w K mg base "total" 3 ["values"] [] (sp_total K)) : FnOk P w K mg base (L2.CX P w) 6 f fd ["script"] (sp_law K) := by
  refine F.ok sc_law (fun vs H Q E h => ?_) (fun cdv A outer st H vs Q E hr h => ?_)
  · obtain ⟨_, _, rfl, _⟩ := h
    rfl
  · obtain ⟨ad, ns, rfl, hS, hl, q⟩ := h
    refine ⟨_, PSs.nox (pss_cons (ps_set (i := 1) sc_law.nd rfl (Or.inl rfl) (pe_callC C__law_deck hr (by decide) (by rfl) (pa_cons (pv 0) pa_nil))) (pss_cons (ps_set (i := 2) sc_law.nd rfl (Or.inl rfl) (pe_callC C__law_list hr (by decide) (by rfl) (pa_cons (pv 1) pa_nil))) (pss_cons (ps_set (i := 3) sc_law.nd rfl (Or.inl rfl) (pe_callC C__law_list hr (by decide) (by rfl) (pa_cons (pv 1) pa_nil))) (pss_cons (ps_set (i := 4) sc_law.nd rfl (Or.inl rfl) (pe_lstN (pa_cons (pe_callTy cl_list (by rfl) T.n_list bb_list (pa_cons (pv 2) pa_nil)) (pa_cons (pe_callTy cl_list (by rfl) T.n_list bb_list (pa_cons (pv 3) pa_nil)) pa_nil)))) (pss_cons (ps_if ((pw_or (pt_not (pt_val (pe_callC C__law_same hr (by decide) (by rfl) (pa_cons (pe_callC C_total hr (by decide) (by rfl) (pa_cons (pv 2) pa_nil)) (pa_cons (pe_callC C__law_total hr (by decide) (by rfl) (pa_cons (pv 2) pa_nil)) pa_nil))))) (pw_or1 (pt_not (pt_val (pe_callC C__law_same hr (by decide) (by rfl) (pa_cons (pe_callC C_dot hr (by decide) (by rfl) (pa_cons (pv 2) (pa_cons (pv 3) pa_nil))) (pa_cons (pe_callC C__law_dot hr (by decide) (by rfl) (pa_cons (pv 2) (pa_cons (pv 3) pa_nil))) pa_nil)))))))).pt (pss_one (ps_ret pe_bl)) pss_nil) (pss_cons (ps_if ((pw_or (pt_not (pt_val (pe_callC C__law_same hr (by decide) (by rfl) (pa_cons (pe_callC C_dot hr (by decide) (by rfl) (pa_cons (pv 3) (pa_cons (pv 2) pa_nil))) (pa_cons (pe_callC C__law_dot hr (by decide) (by rfl) (pa_cons (pv 2) (pa_cons (pv 3) pa_nil))) pa_nil))))) (pw_or1 (pt_not (pt_val (pe_callC C__law_same hr (by decide) (by rfl) (pa_cons (pe_callC C_total hr (by decide) (by rfl) (pa_cons (pe_lstN pa_nil) pa_nil)) (pa_cons (pe_tupN (pa_cons pe_int (pa_cons pe_int pa_nil))) pa_nil)))))))).pt (pss_one (ps_ret pe_bl)) pss_nil) (pss_cons (ps_if (pt_not (pt_val (pe_callC C__law_same hr (by decide) (by rfl) (pa_cons (pe_callC C_least_index hr (by decide) (by rfl) (pa_cons (pv 2) pa_nil)) (pa_cons (pe_callC C__law_first hr (by decide) (by rfl) (pa_cons (pv 2) (pa_cons (pe_un un_neg pe_int) pa_nil))) pa_nil))))) (pss_one (ps_ret pe_bl)) pss_nil) (pss_cons (ps_if (pt_not (pt_val (pe_callC C__law_same hr (by decide) (by rfl) (pa_cons (pe_callC C_greatest_index hr (by decide) (by rfl) (pa_cons (pv 2) pa_nil)) (pa_cons (pe_callC C__law_first hr (by decide) (by rfl) (pa_cons (pv 2) (pa_cons pe_int pa_nil))) pa_nil))))) (pss_one (ps_ret pe_bl)) pss_nil) (pss_cons (ps_if ((pw_or (pt_not (pt_val (pe_callC C__law_same hr (by decide) (by rfl) (pa_cons (pe_callC C_least_index hr (by decide) (by rfl) (pa_cons (pe_lstN pa_nil) pa_nil)) (pa_cons pe_non pa_nil))))) (pw_or1 (pt_not (pt_val (pe_callC C__law_same hr (by decide) (by rfl) (pa_cons (pe_callC C_greatest_index hr (by decide) (by rfl) (pa_cons (pe_lstN pa_nil) pa_nil)) (pa_cons pe_non pa_nil)))))))).pt (pss_one (ps_ret pe_bl)) pss_nil) (pss_one (ps_ret (pe_and (pe_cmpR (op_eqA hr.units) (pv 4) (pe_lstN (pa_cons (pv 2) (pa_cons (pv 3) pa_nil))) (nomark _)) (pe_one (pe_callC C__law_same hr (by decide) (by rfl) (pa_cons (pe_callC C_dot hr (by decide) (by rfl) (pa_cons (pe_lstN pa_nil) (pa_cons (pv 3) pa_nil))) (pa_cons (pe_tupN (pa_cons pe_int (pa_cons pe_int pa_nil))) pa_nil)))))))))))))))), ?_⟩
    walk_at "un"
    walk_at "go"
    refine ⟨ad, ns, rfl, hS, hl, fun H1 d s1 D1 => ?_⟩
    walk_at "go"
    refine ⟨d, rfl, D1, fun H2 a rs s2 D2 hO1 _ l1 b1 => ?_⟩
    walk_at "go"
    refine ⟨d, rfl, D2, fun H3 b ss s3 D3 hO2 _ l2 b2 => ?_⟩
    have hO1 := hO1.monoX s3 D2
    obtain ⟨xs, hxs, _, hA⟩ := hO1.ex
    obtain ⟨ys, hys, _, hB⟩ := hO2.ex
    walk_at "go"
    refine rdListL (.inl (.inl hxs)) fun c1 n1 => ?_
    walk_at "go"
    have t1 := sameNew (o := .lst xs) n1
    refine rdListL (.inl (.inl (t1 _ _ hys))) fun c2 n2 => ?_
    have t2 := sameNew (o := .lst ys) n2
    have g1 := t2 _ _ (upd_same (H := H3) (a := c1) (o := .lst xs))
    have g2 := upd_same (H := upd H3 c1 (.lst xs)) (a := c2) (o := .lst ys)
    have f1 : Frs K (upd (upd H3 c1 (.lst xs)) c2 (.lst ys)) (.ref a) rs := (hO1.frs.mono t1).mono t2
    have f2 : Frs K (upd (upd H3 c1 (.lst xs)) c2 (.lst ys)) (.ref b) ss := (hO2.frs.mono t1).mono t2
    have f3 : Frs K (upd (upd H3 c1 (.lst xs)) c2 (.lst ys)) (.ref c1) rs := .lst (.inl (.inl g1)) (Dp.monoAll (t1.trans t2) _ _ hA)
    have f4 : Frs K (upd (upd H3 c1 (.lst xs)) c2 (.lst ys)) (.ref c2) ss := .lst (.inl (.inl g2)) (Dp.monoAll (t1.trans t2) _ _ hB)
    generalize upd (upd H3 c1 (.lst xs)) c2 (.lst ys) = H4 at *
    clear hO1 hO2 s1 s2 s3 D1 D2 D3 t1 t2 n1 n2 hxs hys hA hB g1 g2
    refine rdLstD (K := K) (ds := [.list (rs.map frD), .list (ss.map frD)]) (.cons f3 (.cons f4 .nil)) line2 fun H5 kp s5 hkp => ?_
    clear f3 f4
    walk_at "gc"
    refine rdLstD (K := K) (ds := []) .nil (Nat.zero_le _) fun H6 l6 s6 hl6 => ?_
    refine rd_total (rs := []) hl6 (Nat.zero_le _) nil_bd fun H7 u7 s7 h7 => ?_
    have h7' : Dp K H7 u7 (.tuple [.int 0, .int 1]) := h7
    clear h7
    walk_at "gc"
    refine rdLstD (K := K) (ds := []) .nil (Nat.zero_le _) fun H8 l8 s8 hl8 => ?_
    refine rd_least (rs := []) hl8 nil_bd fun H9 s9 => ?_
    refine rd_sameO none ?_
    walk_at "gc"
    refine rdLstD (K := K) (ds := []) .nil (Nat.zero_le _) fun H10 l10 s10 hl10 => ?_
    refine rd_greatest (rs := []) hl10 nil_bd fun H11 s11 => ?_
    refine rd_sameO none ?_
    walk_at "gc"
    have g1 : Frs K H11 (.ref a) rs := by walk_at "fs"
    have g2 : Frs K H11 (.ref b) ss := by walk_at "fs"
    have gk : Dp K H11 kp (.list [.list (rs.map frD), .list (ss.map frD)]) := by walk_at "dp"
    refine rdLstD (K := K) (ds := [.list (rs.map frD), .list (ss.map frD)]) (.cons g1 (.cons g2 .nil)) line2 fun H12 l12 s12 hl12 => ?_
    refine .inr ⟨_, _, Ub.Dp.mono s12 _ _ gk, hl12, two_shaped rs ss, two_shaped rs ss, ?_⟩
    rw [eq_self (two_canLay rs ss)]
    walk_at "gc"
    refine rdLstD (K := K) (ds := []) .nil (Nat.zero_le _) fun H13 l13 s13 hl13 => ?_
    walk_at "go"
    refine rd_dot (rs := []) hl13 (Frs.mono s13 (Frs.mono s12 g2)) (Nat.zero_le _) nil_bd b2 fun H14 x14 s14 h14 => ?_
    have h14' : Dp K H14 x14 (.tuple [.int 0, .int 1]) := h14
    clear h14
    walk_at "gc"
    exact q _
end
/-! ### the head: what the top holds, by names -/
def d_make : He.DefD := ⟨("make", none), "make", "make", defArgs s_make, defBody s_make, defScope s_make, [.int 1], []⟩
def d__law_deck : He.DefD := ⟨("_law_deck", none), "_law_deck", "_law_deck", defArgs s__law_deck, defBody s__law_deck, defScope s__law_deck, [], []⟩
def d__law_draw : He.DefD := ⟨("_law_draw", none), "_law_draw", "_law_draw", defArgs s__law_draw, defBody s__law_draw, defScope s__law_draw, [], []⟩
def d__law_gcd : He.DefD := ⟨("_law_gcd", none), "_law_gcd", "_law_gcd", defArgs s__law_gcd, defBody s__law_gcd, defScope s__law_gcd, [], []⟩
def d__law_ratio : He.DefD := ⟨("_law_ratio", none), "_law_ratio", "_law_ratio", defArgs s__law_ratio, defBody s__law_ratio, defScope s__law_ratio, [], []⟩
def d__law_same : He.DefD := ⟨("_law_same", none), "_law_same", "_law_same", defArgs s__law_same, defBody s__law_same, defScope s__law_same, [], []⟩
def d_add : He.DefD := ⟨("add", none), "add", "add", defArgs s_add, defBody s_add, defScope s_add, [], []⟩
def d_multiply : He.DefD := ⟨("multiply", none), "multiply", "multiply", defArgs s_multiply, defBody s_multiply, defScope s_multiply, [], []⟩
def d_sign : He.DefD := ⟨("sign", none), "sign", "sign", defArgs s_sign, defBody s_sign, defScope s_sign, [], []⟩
def d_compare : He.DefD := ⟨("compare", none), "compare", "compare", defArgs s_compare, defBody s_compare, defScope s_compare, [], []⟩
def d__law_add : He.DefD := ⟨("_law_add", none), "_law_add", "_law_add", defArgs s__law_add, defBody s__law_add, defScope s__law_add, [], []⟩
def d__law_times : He.DefD := ⟨("_law_times", none), "_law_times", "_law_times", defArgs s__law_times, defBody s__law_times, defScope s__law_times, [], []⟩
def d__law_order : He.DefD := ⟨("_law_order", none), "_law_order", "_law_order", defArgs s__law_order, defBody s__law_order, defScope s__law_order, [], []⟩
def d_total : He.DefD := ⟨("total", none), "total", "total", defArgs s_total, defBody s_total, defScope s_total, [], []⟩
def d__law_total : He.DefD := ⟨("_law_total", none), "_law_total", "_law_total", defArgs s__law_total, defBody s__law_total, defScope s__law_total, [], []⟩
def d_dot : He.DefD := ⟨("dot", none), "dot", "dot", defArgs s_dot, defBody s_dot, defScope s_dot, [], []⟩
def d_least_index : He.DefD := ⟨("least_index", none), "least_index", "least_index", defArgs s_least_index, defBody s_least_index, defScope s_least_index, [], []⟩
def d_greatest_index : He.DefD := ⟨("greatest_index", none), "greatest_index", "greatest_index", defArgs s_greatest_index, defBody s_greatest_index, defScope s_greatest_index, [], []⟩
def d__law_dot : He.DefD := ⟨("_law_dot", none), "_law_dot", "_law_dot", defArgs s__law_dot, defBody s__law_dot, defScope s__law_dot, [], []⟩
def d__law_first : He.DefD := ⟨("_law_first", none), "_law_first", "_law_first", defArgs s__law_first, defBody s__law_first, defScope s__law_first, [], []⟩
def d__law_small : He.DefD := ⟨("_law_small", none), "_law_small", "_law_small", defArgs s__law_small, defBody s__law_small, defScope s__law_small, [], []⟩
def d__law_list : He.DefD := ⟨("_law_list", none), "_law_list", "_law_list", defArgs s__law_list, defBody s__law_list, defScope s__law_list, [], []⟩
def d_law : He.DefD := ⟨("law", none), "law", "law", defArgs s_law, defBody s_law, defScope s_law, [], []⟩
def fn : List He.DefD := [d_make, d__law_deck, d__law_draw, d__law_gcd, d__law_ratio, d__law_same, d_add, d_multiply, d_sign, d_compare, d__law_add, d__law_times, d__law_order, d_total, d__law_total, d_dot, d_least_index, d_greatest_index, d__law_dot, d__law_first, d__law_small, d__law_list, d_law]
def fa : List He.Fa := ([.glo "make", .glo "_law_deck", .glo "_law_draw", .glo "_law_gcd", .glo "_law_ratio", .glo "_law_same", .glo "add", .glo "multiply", .glo "sign", .glo "compare", .glo "_law_add", .glo "_law_times", .glo "_law_order", .glo "total", .glo "_law_total", .glo "dot", .glo "least_index", .glo "greatest_index", .glo "_law_dot", .glo "_law_first", .glo "_law_small", .glo "_law_list", .glo "law", .free "abs", .free "bool", .free "enumerate", .free "int", .free "isinstance", .free "len", .free "list"] : List He.Fa) ++ ([.free "min", .free "range", .free "str", .free "tuple", .free "zip", .glo "ZeroDenominator", .exc "ZeroDenominator"] : List He.Fa)
def ex (K : PySem.W.Frag) : Bool := (He.eqO (PySem.W.nsIn K mainGlobals "gcd") (some (some (.builtin "math.gcd"))) && true)
def tf : List He.Defn := []
abbrev R : PySem.W.OpenRow := PySem.W.OpenLaw.row PySem.Challenge.rw_unbent_k03_lists_of_fractions
abbrev loose : List Str := (["gcd", "UnbentError", "ZeroDenominator", "make", "add", "multiply", "sign", "compare", "total", "dot", "least_index", "greatest_index", "_law_deck", "_law_draw", "_law_same", "_law_gcd", "_law_ratio", "_law_add", "_law_times", "_law_order", "_law_total", "_law_dot", "_law_small", "_law_list", "_law_first"] : List Str)
abbrev hk : PySem.W.Hook := He.hookX 5 fa fn [] tf ex
def ob (s : PySem.W.SharedT) : He.AlX := He.obsX 5 fa fn [] tf ex (HandSHeadRun.getT s)
theorem ob_eq (s : PySem.W.SharedT) : ob s = hk.obs s.abs := He.obsX_eq (HandSHeadRun.getT_eq s)
theorem run (w : World) : HandSHeadRun.RunEqI R (PySem.W.view R.prog [0, 28]) hk ob 4000 loose w := by
  unfold HandSHeadRun.RunEqI
  kernel_rfl
theorem facts {w : World} {K : PySem.W.Frag} {h : Heap} {mg : Str → Option Value} {f : Addr} (X : K.In h) (G : h.Ns mainGlobals mg) (hfa : mg ("law" : Str) = some (.ref f)) (c : He.SaysX fa fn [] tf ex w h K) (P : Program) :
    ∃ fd : FuncData, (∀ (s : Shared) (v : Value), BindsTo s fd ⟨[v], []⟩ [("script", v)]) ∧ ∀ base : Heap, K.In base → base.Ns mainGlobals mg → FnOk P w K mg base (L2.CX P w) 6 f fd ["script"] (sp_law K) := by
  have cd := c.t.d
  have cm := c.more
  unfold ex at cm
  obtain ⟨cm0, cm⟩ := He.ba cm
  have T : Tx K mg := { n_abs := He.free_ok X G (cd.fact 23 rfl), n_bool := He.free_ok X G (cd.fact 24 rfl), n_enumerate := He.free_ok X G (cd.fact 25 rfl), n_int := He.free_ok X G (cd.fact 26 rfl), n_isinstance := He.free_ok X G (cd.fact 27 rfl), n_len := He.free_ok X G (cd.fact 28 rfl), n_list := He.free_ok X G (cd.fact 29 rfl), n_min := He.free_ok X G (cd.fact 30 rfl), n_range := He.free_ok X G (cd.fact 31 rfl), n_str := He.free_ok X G (cd.fact 32 rfl), n_tuple := He.free_ok X G (cd.fact 33 rfl), n_zip := He.free_ok X G (cd.fact 34 rfl), g_gcd := PySem.W.mg_of X G (He.eqO_ok cm0), e_ZeroDenominator := ⟨He.glo_ok X G (cd.fact 35 rfl), (He.exc_ok (cd.fact 36 rfl)).1, (He.exc_ok (cd.fact 36 rfl)).2.1, (He.exc_ok (cd.fact 36 rfl)).2.2.1, (He.exc_ok (cd.fact 36 rfl)).2.2.2⟩ }
  obtain ⟨fd_make, F_make⟩ := cd.def_ 0 (d := d_make) rfl
  have m_make := He.glo_ok X G (cd.fact 0 (f := .glo "make") rfl)
  obtain ⟨fd__law_deck, F__law_deck⟩ := cd.def_ 1 (d := d__law_deck) rfl
  have m__law_deck := He.glo_ok X G (cd.fact 1 (f := .glo "_law_deck") rfl)
  obtain ⟨fd__law_draw, F__law_draw⟩ := cd.def_ 2 (d := d__law_draw) rfl
  have m__law_draw := He.glo_ok X G (cd.fact 2 (f := .glo "_law_draw") rfl)
  obtain ⟨fd__law_gcd, F__law_gcd⟩ := cd.def_ 3 (d := d__law_gcd) rfl
  have m__law_gcd := He.glo_ok X G (cd.fact 3 (f := .glo "_law_gcd") rfl)
  obtain ⟨fd__law_ratio, F__law_ratio⟩ := cd.def_ 4 (d := d__law_ratio) rfl
  have m__law_ratio := He.glo_ok X G (cd.fact 4 (f := .glo "_law_ratio") rfl)
  obtain ⟨fd__law_same, F__law_same⟩ := cd.def_ 5 (d := d__law_same) rfl
  have m__law_same := He.glo_ok X G (cd.fact 5 (f := .glo "_law_same") rfl)
  obtain ⟨fd_add, F_add⟩ := cd.def_ 6 (d := d_add) rfl
  have m_add := He.glo_ok X G (cd.fact 6 (f := .glo "add") rfl)
  obtain ⟨fd_multiply, F_multiply⟩ := cd.def_ 7 (d := d_multiply) rfl
  have m_multiply := He.glo_ok X G (cd.fact 7 (f := .glo "multiply") rfl)
  obtain ⟨fd_sign, F_sign⟩ := cd.def_ 8 (d := d_sign) rfl
  have m_sign := He.glo_ok X G (cd.fact 8 (f := .glo "sign") rfl)
  obtain ⟨fd_compare, F_compare⟩ := cd.def_ 9 (d := d_compare) rfl
  have m_compare := He.glo_ok X G (cd.fact 9 (f := .glo "compare") rfl)
  obtain ⟨fd__law_add, F__law_add⟩ := cd.def_ 10 (d := d__law_add) rfl
  have m__law_add := He.glo_ok X G (cd.fact 10 (f := .glo "_law_add") rfl)
  obtain ⟨fd__law_times, F__law_times⟩ := cd.def_ 11 (d := d__law_times) rfl
  have m__law_times := He.glo_ok X G (cd.fact 11 (f := .glo "_law_times") rfl)
  obtain ⟨fd__law_order, F__law_order⟩ := cd.def_ 12 (d := d__law_order) rfl
  have m__law_order := He.glo_ok X G (cd.fact 12 (f := .glo "_law_order") rfl)
  obtain ⟨fd_total, F_total⟩ := cd.def_ 13 (d := d_total) rfl
  have m_total := He.glo_ok X G (cd.fact 13 (f := .glo "total") rfl)
  obtain ⟨fd__law_total, F__law_total⟩ := cd.def_ 14 (d := d__law_total) rfl
  have m__law_total := He.glo_ok X G (cd.fact 14 (f := .glo "_law_total") rfl)
  obtain ⟨fd_dot, F_dot⟩ := cd.def_ 15 (d := d_dot) rfl
  have m_dot := He.glo_ok X G (cd.fact 15 (f := .glo "dot") rfl)
  obtain ⟨fd_least_index, F_least_index⟩ := cd.def_ 16 (d := d_least_index) rfl
  have m_least_index := He.glo_ok X G (cd.fact 16 (f := .glo "least_index") rfl)
  obtain ⟨fd_greatest_index, F_greatest_index⟩ := cd.def_ 17 (d := d_greatest_index) rfl
  have m_greatest_index := He.glo_ok X G (cd.fact 17 (f := .glo "greatest_index") rfl)
  obtain ⟨fd__law_dot, F__law_dot⟩ := cd.def_ 18 (d := d__law_dot) rfl
  have m__law_dot := He.glo_ok X G (cd.fact 18 (f := .glo "_law_dot") rfl)
  obtain ⟨fd__law_first, F__law_first⟩ := cd.def_ 19 (d := d__law_first) rfl
  have m__law_first := He.glo_ok X G (cd.fact 19 (f := .glo "_law_first") rfl)
  obtain ⟨fd__law_small, F__law_small⟩ := cd.def_ 20 (d := d__law_small) rfl
  have m__law_small := He.glo_ok X G (cd.fact 20 (f := .glo "_law_small") rfl)
  obtain ⟨fd__law_list, F__law_list⟩ := cd.def_ 21 (d := d__law_list) rfl
  have m__law_list := He.glo_ok X G (cd.fact 21 (f := .glo "_law_list") rfl)
  obtain ⟨fd_law, F_law⟩ := cd.def_ 22 (d := d_law) rfl
  have m_law := He.glo_ok X G (cd.fact 22 (f := .glo "law") rfl)
  have e := hfa.symm.trans m_law
  cases e
  have bl := FunD.bindsA (ps := ["script"]) F_law fun _ _ _ _ _ _ us hl => match us, hl with | [_], _ => rfl
  refine ⟨fd_law, fun s v => bl s [v] rfl, fun base _ _ => ?_⟩
  have G_make : FnOk P w K mg base (L2.CX P w) 1 (He.ga K "make") fd_make ["p", "q"] (sp_make K) := ok_make T F_make 
  have C_make : Cal P w K mg base "make" 1 ["p", "q"] [] (sp_make K) := by
    have F1 : FunD K "make" "make" (defArgs s_make) (defBody s_make) (defScope s_make) [V.int 1] [] (He.ga K "make") fd_make := F_make
    obtain ⟨ds, hd, hb⟩ := F1.binds1 (ps := ["p", "q"]) 2 1 (by simp) rfl (fun T kV doc pm an cdv ct us its hu hi => by
      match us, hu, its, hi with
      | [_, _], _, [_], _ =>
        refine ⟨_, rfl, ?_⟩
        rfl)
    exact ⟨_, _, ds, G_make, m_make, F_make.kp, hd, hb⟩
  have G__law_deck : FnOk P w K mg base (L2.CX P w) 1 (He.ga K "_law_deck") fd__law_deck ["script"] (sp__law_deck K) := ok__law_deck T F__law_deck 
  have C__law_deck : Cal P w K mg base "_law_deck" 1 ["script"] [] (sp__law_deck K) := ⟨_, _, [], G__law_deck, m__law_deck, F__law_deck.kp, .nil, F__law_deck.bindsN fun _ _ _ _ _ _ us hl => match us, hl with | [_], _ => rfl⟩
  have G__law_draw : FnOk P w K mg base (L2.CX P w) 1 (He.ga K "_law_draw") fd__law_draw ["deck", "most"] (sp__law_draw) := ok__law_draw T F__law_draw 
  have C__law_draw : Cal P w K mg base "_law_draw" 1 ["deck", "most"] [] (sp__law_draw) := ⟨_, _, [], G__law_draw, m__law_draw, F__law_draw.kp, .nil, F__law_draw.bindsN fun _ _ _ _ _ _ us hl => match us, hl with | [_, _], _ => rfl⟩
  have G__law_gcd : FnOk P w K mg base (L2.CX P w) 1 (He.ga K "_law_gcd") fd__law_gcd ["a", "b"] (sp__law_gcd) := ok__law_gcd T F__law_gcd 
  have C__law_gcd : Cal P w K mg base "_law_gcd" 1 ["a", "b"] [] (sp__law_gcd) := ⟨_, _, [], G__law_gcd, m__law_gcd, F__law_gcd.kp, .nil, F__law_gcd.bindsN fun _ _ _ _ _ _ us hl => match us, hl with | [_, _], _ => rfl⟩
  have G__law_ratio : FnOk P w K mg base (L2.CX P w) 2 (He.ga K "_law_ratio") fd__law_ratio ["p", "q"] (sp__law_ratio K) := ok__law_ratio T F__law_ratio C__law_gcd
  have C__law_ratio : Cal P w K mg base "_law_ratio" 2 ["p", "q"] [] (sp__law_ratio K) := ⟨_, _, [], G__law_ratio, m__law_ratio, F__law_ratio.kp, .nil, F__law_ratio.bindsN fun _ _ _ _ _ _ us hl => match us, hl with | [_, _], _ => rfl⟩
  have G__law_same : FnOk P w K mg base (L2.CX P w) 3 (He.ga K "_law_same") fd__law_same ["actual", "due"] (sp__law_same K 3) := ok__law_same T F__law_same m__law_same 3
  have C__law_same : Cal P w K mg base "_law_same" 3 ["actual", "due"] [] (sp__law_same K 3) := ⟨_, _, [], G__law_same, m__law_same, F__law_same.kp, .nil, F__law_same.bindsN fun _ _ _ _ _ _ us hl => match us, hl with | [_, _], _ => rfl⟩
  have G_add : FnOk P w K mg base (L2.CX P w) 2 (He.ga K "add") fd_add ["a", "b"] (sp_add K) := ok_add T F_add C_make
  have C_add : Cal P w K mg base "add" 2 ["a", "b"] [] (sp_add K) := ⟨_, _, [], G_add, m_add, F_add.kp, .nil, F_add.bindsN fun _ _ _ _ _ _ us hl => match us, hl with | [_, _], _ => rfl⟩
  have G_multiply : FnOk P w K mg base (L2.CX P w) 2 (He.ga K "multiply") fd_multiply ["a", "b"] (sp_multiply K) := ok_multiply T F_multiply C_make
  have C_multiply : Cal P w K mg base "multiply" 2 ["a", "b"] [] (sp_multiply K) := ⟨_, _, [], G_multiply, m_multiply, F_multiply.kp, .nil, F_multiply.bindsN fun _ _ _ _ _ _ us hl => match us, hl with | [_, _], _ => rfl⟩
  have G_sign : FnOk P w K mg base (L2.CX P w) 1 (He.ga K "sign") fd_sign ["a"] (sp_sign K) := ok_sign T F_sign 
  have C_sign : Cal P w K mg base "sign" 1 ["a"] [] (sp_sign K) := ⟨_, _, [], G_sign, m_sign, F_sign.kp, .nil, F_sign.bindsN fun _ _ _ _ _ _ us hl => match us, hl with | [_], _ => rfl⟩
  have G_compare : FnOk P w K mg base (L2.CX P w) 2 (He.ga K "compare") fd_compare ["a", "b"] (sp_compare K) := ok_compare T F_compare C_sign
  have C_compare : Cal P w K mg base "compare" 2 ["a", "b"] [] (sp_compare K) := ⟨_, _, [], G_compare, m_compare, F_compare.kp, .nil, F_compare.bindsN fun _ _ _ _ _ _ us hl => match us, hl with | [_, _], _ => rfl⟩
  have G__law_add : FnOk P w K mg base (L2.CX P w) 3 (He.ga K "_law_add") fd__law_add ["a", "b"] (sp__law_add K) := ok__law_add T F__law_add C__law_ratio
  have C__law_add : Cal P w K mg base "_law_add" 3 ["a", "b"] [] (sp__law_add K) := ⟨_, _, [], G__law_add, m__law_add, F__law_add.kp, .nil, F__law_add.bindsN fun _ _ _ _ _ _ us hl => match us, hl with | [_, _], _ => rfl⟩
  have G__law_times : FnOk P w K mg base (L2.CX P w) 3 (He.ga K "_law_times") fd__law_times ["a", "b"] (sp__law_times K) := ok__law_times T F__law_times C__law_ratio
  have C__law_times : Cal P w K mg base "_law_times" 3 ["a", "b"] [] (sp__law_times K) := ⟨_, _, [], G__law_times, m__law_times, F__law_times.kp, .nil, F__law_times.bindsN fun _ _ _ _ _ _ us hl => match us, hl with | [_, _], _ => rfl⟩
  have G__law_order : FnOk P w K mg base (L2.CX P w) 1 (He.ga K "_law_order") fd__law_order ["a", "b"] (sp__law_order K) := ok__law_order T F__law_order 
  have C__law_order : Cal P w K mg base "_law_order" 1 ["a", "b"] [] (sp__law_order K) := ⟨_, _, [], G__law_order, m__law_order, F__law_order.kp, .nil, F__law_order.bindsN fun _ _ _ _ _ _ us hl => match us, hl with | [_, _], _ => rfl⟩
  have G_total : FnOk P w K mg base (L2.CX P w) 3 (He.ga K "total") fd_total ["values"] (sp_total K) := ok_total T F_total C_add
  have C_total : Cal P w K mg base "total" 3 ["values"] [] (sp_total K) := ⟨_, _, [], G_total, m_total, F_total.kp, .nil, F_total.bindsN fun _ _ _ _ _ _ us hl => match us, hl with | [_], _ => rfl⟩
  have G__law_total : FnOk P w K mg base (L2.CX P w) 4 (He.ga K "_law_total") fd__law_total ["values"] (sp__law_total K) := ok__law_total T F__law_total C__law_add
  have C__law_total : Cal P w K mg base "_law_total" 4 ["values"] [] (sp__law_total K) := ⟨_, _, [], G__law_total, m__law_total, F__law_total.kp, .nil, F__law_total.bindsN fun _ _ _ _ _ _ us hl => match us, hl with | [_], _ => rfl⟩
  have G_dot : FnOk P w K mg base (L2.CX P w) 3 (He.ga K "dot") fd_dot ["first", "second"] (sp_dot K) := ok_dot T F_dot C_add C_multiply
  have C_dot : Cal P w K mg base "dot" 3 ["first", "second"] [] (sp_dot K) := ⟨_, _, [], G_dot, m_dot, F_dot.kp, .nil, F_dot.bindsN fun _ _ _ _ _ _ us hl => match us, hl with | [_, _], _ => rfl⟩
  have G_least_index : FnOk P w K mg base (L2.CX P w) 3 (He.ga K "least_index") fd_least_index ["values"] (sp_least_index K) := ok_least_index T F_least_index C_compare
  have C_least_index : Cal P w K mg base "least_index" 3 ["values"] [] (sp_least_index K) := ⟨_, _, [], G_least_index, m_least_index, F_least_index.kp, .nil, F_least_index.bindsN fun _ _ _ _ _ _ us hl => match us, hl with | [_], _ => rfl⟩
  have G_greatest_index : FnOk P w K mg base (L2.CX P w) 3 (He.ga K "greatest_index") fd_greatest_index ["values"] (sp_greatest_index K) := ok_greatest_index T F_greatest_index C_compare
  have C_greatest_index : Cal P w K mg base "greatest_index" 3 ["values"] [] (sp_greatest_index K) := ⟨_, _, [], G_greatest_index, m_greatest_index, F_greatest_index.kp, .nil, F_greatest_index.bindsN fun _ _ _ _ _ _ us hl => match us, hl with | [_], _ => rfl⟩
  have G__law_dot : FnOk P w K mg base (L2.CX P w) 5 (He.ga K "_law_dot") fd__law_dot ["first", "second"] (sp__law_dot K) := ok__law_dot T F__law_dot C__law_times C__law_total
  have C__law_dot : Cal P w K mg base "_law_dot" 5 ["first", "second"] [] (sp__law_dot K) := ⟨_, _, [], G__law_dot, m__law_dot, F__law_dot.kp, .nil, F__law_dot.bindsN fun _ _ _ _ _ _ us hl => match us, hl with | [_, _], _ => rfl⟩
  have G__law_first : FnOk P w K mg base (L2.CX P w) 2 (He.ga K "_law_first") fd__law_first ["values", "wanted"] (sp__law_first K) := ok__law_first T F__law_first C__law_order
  have C__law_first : Cal P w K mg base "_law_first" 2 ["values", "wanted"] [] (sp__law_first K) := ⟨_, _, [], G__law_first, m__law_first, F__law_first.kp, .nil, F__law_first.bindsN fun _ _ _ _ _ _ us hl => match us, hl with | [_, _], _ => rfl⟩
  have G__law_small : FnOk P w K mg base (L2.CX P w) 3 (He.ga K "_law_small") fd__law_small ["deck"] (sp__law_small K) := ok__law_small T F__law_small C__law_draw C__law_ratio
  have C__law_small : Cal P w K mg base "_law_small" 3 ["deck"] [] (sp__law_small K) := ⟨_, _, [], G__law_small, m__law_small, F__law_small.kp, .nil, F__law_small.bindsN fun _ _ _ _ _ _ us hl => match us, hl with | [_], _ => rfl⟩
  have G__law_list : FnOk P w K mg base (L2.CX P w) 4 (He.ga K "_law_list") fd__law_list ["deck"] (sp__law_list K) := ok__law_list T F__law_list C__law_draw C__law_small
  have C__law_list : Cal P w K mg base "_law_list" 4 ["deck"] [] (sp__law_list K) := ⟨_, _, [], G__law_list, m__law_list, F__law_list.kp, .nil, F__law_list.bindsN fun _ _ _ _ _ _ us hl => match us, hl with | [_], _ => rfl⟩
  exact ok_law T F_law C__law_deck C__law_dot C__law_first C__law_list C__law_same C__law_total C_dot C_greatest_index C_least_index C_total
end UbK
open PySem PySem.W PySem.Calls PyProof.Rows
set_option maxHeartbeats 0 in
theorem PySem.Challenge.cw_unbent_k03_lists_of_fractions_holds : PySem.Challenge.rw_unbent_k03_lists_of_fractions.Holds := by
  w_on; o_law
  refine HandSHeadRun.head_imp (r := OpenLaw.row PySem.Challenge.rw_unbent_k03_lists_of_fractions) (q := view (OpenLaw.row PySem.Challenge.rw_unbent_k03_lists_of_fractions).prog [0, 28]) (H := UbK.hk) (ob := UbK.ob) (M := 4000) (loose := UbK.loose) (d := HandSHeadRun.topDef (OpenLaw.row PySem.Challenge.rw_unbent_k03_lists_of_fractions).prog 28) (kwd := []) UbK.ob_eq UbK.run
    (by kernel_rfl) (by kernel_rfl) (by kernel_rfl) (by rfl) (by first | assumption | decide +kernel) (by decide +kernel) ⟨rfl, rfl, rfl, rfl, rfl, by decide +kernel⟩ ?hw ?hc
  case hw => w_witness2
  case hc =>
    refine Ub.endOfLaw (l := PySem.Challenge.rw_unbent_k03_lists_of_fractions) (n := 63) (k := 6) (x := "script") rfl (by decide) (by kernel_rfl) ⟨rfl, by decide, by decide⟩ ?F
    intro w mg fa h Y G hmg0
    obtain ⟨K, KX, c⟩ := Y
    have hmg : mg ("law" : PySem.Str) = some (.ref fa) := by
      have e : (HandSHeadRun.topDef (OpenLaw.row PySem.Challenge.rw_unbent_k03_lists_of_fractions).prog 28).name = ("law" : PySem.Str) := by kernel_rfl
      rw [← e]
      exact hmg0
    obtain ⟨fd, hb, hF⟩ := UbK.facts KX G hmg c (PySem.Challenge.rw_unbent_k03_lists_of_fractions).prog
    exact ⟨K, fd, UbK.sp_law K, KX, hb, fun H a ns hl _ hS => ⟨a, ns, rfl, hS, hl, fun _ => rfl⟩, hF⟩
