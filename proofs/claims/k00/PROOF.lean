import PyProof.Rows.All
import Wide.All
import OpenK.AllK
import Wide.FinOn
import HandS.ForMost
import HandS.ForExc
import HandS.Wide
import HandS.Gcd
import HandS.IsInst
import HandS.Defaults
import HandS.ExcIs
import HandS.Flow
import HandS.Small
import HandS.HeadHook4
import HandS.HeadEnd
import HandS.Head0
import HandS.Head1
import HandS.Head2
import HandS.HeadHook1
import HandS.HeadHook2
import HandS.HeadHook3
import HandS.Head3
import PySem.Challenge.RW_unbent_k00_fractions_made
set_option Elab.async false
set_option linter.all false
set_option maxRecDepth 100000
set_option maxHeartbeats 4000000
/-! Plain mathematics: Euclid by a bounded number of turns, fractions as Rat. -/
namespace UbM
/-- m turns of Euclid are enough for a, b -/
def Enough (m a b : Nat) : Prop := ∃ e, (b < 2 ^ e ∧ 2 * e + 1 ≤ m) ∨ (b < a ∧ a < 2 ^ (e + 1) ∧ 2 * e + 2 ≤ m)
theorem Enough.pos {m a b : Nat} (h : Enough m a b) : 0 < m := by
  obtain ⟨e, h | h⟩ := h <;> omega
theorem half_mod {a b : Nat} (hb : 0 < b) (h : b < a) : 2 * (a % b) < a := by
  have h1 := Nat.mod_lt a hb
  have h2 := Nat.div_add_mod a b
  have h3 : 1 ≤ a / b := (Nat.le_div_iff_mul_le hb).mpr (by omega)
  have h4 : b * 1 ≤ b * (a / b) := Nat.mul_le_mul_left b h3
  omega
theorem Enough.step {m a b : Nat} (hb : 0 < b) (h : Enough m a b) : Enough (m - 1) b (a % b) := by
  obtain ⟨e, ⟨h1, h2⟩ | ⟨h1, h2, h3⟩⟩ := h
  · cases e with
    | zero =>
      have : b < 1 := h1
      omega
    | succ e =>
      refine ⟨e, .inr ⟨Nat.mod_lt _ hb, h1, by omega⟩⟩
  · refine ⟨e, .inl ⟨?_, by omega⟩⟩
    have h4 := half_mod hb h1
    have h5 : 2 ^ (e + 1) = 2 ^ e * 2 := Nat.pow_succ ..
    omega
theorem enough_of {m a b e : Nat} (h : b < 2 ^ e) (hm : 2 * e + 1 ≤ m) : Enough m a b := ⟨e, .inl ⟨h, hm⟩⟩
/-! ### fractions -/
theorem int_gcd (p q : Int) : q.gcd p = Nat.gcd p.natAbs q.natAbs := by
  unfold Int.gcd
  exact Nat.gcd_comm ..
theorem num_pos {p q : Int} (h : 0 < q) : p / ((Nat.gcd p.natAbs q.natAbs : Nat) : Int) = (Rat.divInt p q).num := by
  rw [Rat.num_divInt, int_gcd, Int.sign_eq_one_of_pos h, Int.one_mul]
theorem den_pos {p q : Int} (h : 0 < q) : q / ((Nat.gcd p.natAbs q.natAbs : Nat) : Int) = ((Rat.divInt p q).den : Int) := by
  rw [Rat.den_divInt, if_neg (by omega), int_gcd]
  have e : (q.natAbs : Int) = q := by omega
  rw [Int.natCast_ediv, e]
theorem gcd_pos {p q : Int} (h : q ≠ 0) : 0 < Nat.gcd p.natAbs q.natAbs := Nat.gcd_pos_of_pos_right _ (by omega)
theorem fdiv_neg_dvd {a b : Int} (h : b ∣ a) : a.fdiv (-b) = -(a / b) := by
  obtain ⟨c, rfl⟩ := h
  by_cases hb : b = 0
  · subst hb
    simp
  · rw [Int.mul_ediv_cancel_left _ hb]
    have e : b * c = -b * -c := by rw [Int.neg_mul_neg]
    rw [e, Int.mul_fdiv_cancel_left _ (by omega)]
theorem dvd_l (p q : Int) : ((Nat.gcd p.natAbs q.natAbs : Nat) : Int) ∣ p := Int.ofNat_dvd_left.mpr (Nat.gcd_dvd_left ..)
theorem dvd_r (p q : Int) : ((Nat.gcd p.natAbs q.natAbs : Nat) : Int) ∣ q := Int.ofNat_dvd_left.mpr (Nat.gcd_dvd_right ..)
theorem num_neg {p q : Int} (h : q < 0) : p.fdiv (-((Nat.gcd p.natAbs q.natAbs : Nat) : Int)) = (Rat.divInt p q).num := by
  rw [fdiv_neg_dvd (dvd_l p q), Rat.num_divInt, int_gcd, Int.sign_eq_neg_one_of_neg h, Int.neg_one_mul, Int.neg_ediv_of_dvd (dvd_l p q)]
theorem den_neg {p q : Int} (h : q < 0) : q.fdiv (-((Nat.gcd p.natAbs q.natAbs : Nat) : Int)) = ((Rat.divInt p q).den : Int) := by
  rw [fdiv_neg_dvd (dvd_r p q), Rat.den_divInt, if_neg (by omega), int_gcd]
  have e : (q.natAbs : Int) = -q := by omega
  rw [Int.natCast_ediv, e, Int.neg_ediv_of_dvd (dvd_r p q)]
/-! ### sizes -/
def Bd (n : Nat) (r : Rat) : Prop := r.num.natAbs < 2 ^ n ∧ r.den < 2 ^ n
theorem bd_divInt {p q : Int} {n : Nat} (hq : q ≠ 0) (h1 : p.natAbs < 2 ^ n) (h2 : q.natAbs < 2 ^ n) : Bd n (Rat.divInt p q) := by
  constructor
  · by_cases h : 0 < q
    · rw [← num_pos h, Int.natAbs_ediv_of_dvd (dvd_l p q)]
      exact Nat.lt_of_le_of_lt (Nat.div_le_self ..) h1
    · rw [← num_neg (show q < 0 by omega), fdiv_neg_dvd (dvd_l p q), Int.natAbs_neg, Int.natAbs_ediv_of_dvd (dvd_l p q)]
      exact Nat.lt_of_le_of_lt (Nat.div_le_self ..) h1
  · rw [Rat.den_divInt, if_neg hq]
    exact Nat.lt_of_le_of_lt (Nat.div_le_self ..) h2
theorem Bd.mono {n m : Nat} {r : Rat} (h : Bd n r) (k : n ≤ m) : Bd m r := ⟨Nat.lt_of_lt_of_le h.1 (Nat.pow_le_pow_right (by decide) k), Nat.lt_of_lt_of_le h.2 (Nat.pow_le_pow_right (by decide) k)⟩
theorem mul_lt {i j : Int} {a b : Nat} (ha : i.natAbs < 2 ^ a) (hb : j.natAbs < 2 ^ b) : (i * j).natAbs < 2 ^ (a + b) := by
  rw [Int.natAbs_mul, Nat.pow_add]
  exact Nat.mul_lt_mul'' ha hb
theorem add_lt {i j : Int} {a b : Nat} (ha : i.natAbs < 2 ^ a) (hb : j.natAbs < 2 ^ b) : (i + j).natAbs < 2 ^ (max a b + 1) := by
  have h1 : (2 : Nat) ^ a ≤ 2 ^ (max a b) := Nat.pow_le_pow_right (by decide) (by omega)
  have h2 : (2 : Nat) ^ b ≤ 2 ^ (max a b) := Nat.pow_le_pow_right (by decide) (by omega)
  have h3 : (2 : Nat) ^ (max a b + 1) = 2 ^ (max a b) * 2 := Nat.pow_succ ..
  omega
theorem sub_lt {i j : Int} {a b : Nat} (ha : i.natAbs < 2 ^ a) (hb : j.natAbs < 2 ^ b) : (i - j).natAbs < 2 ^ (max a b + 1) := by
  have h1 : (2 : Nat) ^ a ≤ 2 ^ (max a b) := Nat.pow_le_pow_right (by decide) (by omega)
  have h2 : (2 : Nat) ^ b ≤ 2 ^ (max a b) := Nat.pow_le_pow_right (by decide) (by omega)
  have h3 : (2 : Nat) ^ (max a b + 1) = 2 ^ (max a b) * 2 := Nat.pow_succ ..
  omega
theorem den_ne (r : Rat) : (r.den : Int) ≠ 0 := by
  have := r.den_nz
  omega
theorem den_p (r : Rat) : (0 : Int) < r.den := by
  have := r.den_nz
  omega
theorem den_lt {r : Rat} {n : Nat} (h : Bd n r) : (r.den : Int).natAbs < 2 ^ n := h.2
theorem add_as (r s : Rat) : Rat.divInt (r.num * s.den + s.num * r.den) (r.den * s.den) = r + s := by
  rw [Rat.add_def', ← Rat.divInt_ofNat, Int.natCast_mul]
theorem sub_as (r s : Rat) : Rat.divInt (r.num * s.den - s.num * r.den) (r.den * s.den) = r - s := by
  rw [Rat.sub_def', ← Rat.divInt_ofNat, Int.natCast_mul]
theorem mul_as (r s : Rat) : Rat.divInt (r.num * s.num) (r.den * s.den) = r * s := by
  rw [Rat.mul_def', ← Rat.divInt_ofNat, Int.natCast_mul]
theorem div_as (r s : Rat) : Rat.divInt (r.num * s.den) (r.den * s.num) = r / s := by
  rw [Rat.div_def, Rat.inv_def]
  conv => rhs; rw [← Rat.num_divInt_den r]
  rw [Rat.divInt_mul_divInt]
theorem bd_add {r s : Rat} {a b : Nat} (hr : Bd a r) (hs : Bd b s) : Bd (a + b + 1) (r + s) := by
  rw [← add_as]
  refine bd_divInt (Int.mul_ne_zero (den_ne r) (den_ne s)) ?_ ?_
  · have := add_lt (mul_lt hr.1 (den_lt hs)) (mul_lt hs.1 (den_lt hr))
    rw [show max (a + b) (b + a) + 1 = a + b + 1 by omega] at this
    exact this
  · exact Nat.lt_of_lt_of_le (mul_lt (den_lt hr) (den_lt hs)) (Nat.pow_le_pow_right (by decide) (by omega))
theorem bd_sub {r s : Rat} {a b : Nat} (hr : Bd a r) (hs : Bd b s) : Bd (a + b + 1) (r - s) := by
  rw [← sub_as]
  refine bd_divInt (Int.mul_ne_zero (den_ne r) (den_ne s)) ?_ ?_
  · have := sub_lt (mul_lt hr.1 (den_lt hs)) (mul_lt hs.1 (den_lt hr))
    rw [show max (a + b) (b + a) + 1 = a + b + 1 by omega] at this
    exact this
  · exact Nat.lt_of_lt_of_le (mul_lt (den_lt hr) (den_lt hs)) (Nat.pow_le_pow_right (by decide) (by omega))
theorem bd_mul {r s : Rat} {a b : Nat} (hr : Bd a r) (hs : Bd b s) : Bd (a + b) (r * s) := by
  rw [← mul_as]
  exact bd_divInt (Int.mul_ne_zero (den_ne r) (den_ne s)) (mul_lt hr.1 hs.1) (mul_lt (den_lt hr) (den_lt hs))
theorem bd_neg {r : Rat} {a : Nat} (hr : Bd a r) : Bd a (-r) := ⟨by rw [Rat.neg_num, Int.natAbs_neg]; exact hr.1, hr.2⟩
theorem bd_div {r s : Rat} {a b : Nat} (hz : s ≠ 0) (hr : Bd a r) (hs : Bd b s) : Bd (a + b) (r / s) := by
  rw [← div_as]
  exact bd_divInt (Int.mul_ne_zero (den_ne r) fun h => hz (Rat.num_eq_zero.mp h)) (mul_lt hr.1 (den_lt hs)) (mul_lt (den_lt hr) hs.1)
/-! ### the order -/
/-- -1, 0, 1 as r is below, equal to, above s -/
def cmpR (r s : Rat) : Int := Int.sign (r.num * s.den - s.num * r.den)
theorem cmpR_lt {r s : Rat} (h : r < s) : cmpR r s = -1 := by
  have := (Rat.lt_iff r s).mp h
  exact Int.sign_eq_neg_one_of_neg (by omega)
theorem cmpR_gt {r s : Rat} (h : s < r) : cmpR r s = 1 := by
  have := (Rat.lt_iff s r).mp h
  exact Int.sign_eq_one_of_pos (by omega)
theorem cmpR_self (r : Rat) : cmpR r r = 0 := by
  unfold cmpR
  rw [Int.sub_self]
  rfl
theorem cmpR_cases (r s : Rat) : (r < s ∧ cmpR r s = -1) ∨ (r = s ∧ cmpR r s = 0) ∨ (s < r ∧ cmpR r s = 1) := by
  by_cases h : r = s
  · subst h
    exact .inr (.inl ⟨rfl, cmpR_self r⟩)
  · by_cases h2 : r < s
    · exact .inl ⟨h2, cmpR_lt h2⟩
    · have h3 : s < r := Rat.lt_of_le_of_ne (Rat.not_lt.mp h2) fun e => h e.symm
      exact .inr (.inr ⟨h3, cmpR_gt h3⟩)
theorem cmpR_swap (r s : Rat) : cmpR s r = -cmpR r s := by
  rcases cmpR_cases r s with ⟨h, e⟩ | ⟨h, e⟩ | ⟨h, e⟩
  · rw [e, cmpR_gt h]
    rfl
  · rw [e, h, cmpR_self]
    rfl
  · rw [e, cmpR_lt h]
theorem cmpR_add (r s t : Rat) : cmpR (r + t) (s + t) = cmpR r s := by
  rcases cmpR_cases r s with ⟨h, e⟩ | ⟨h, e⟩ | ⟨h, e⟩
  · rw [e, cmpR_lt (Rat.add_lt_add_right.mpr h)]
  · rw [e, h, cmpR_self]
  · rw [e, cmpR_gt (Rat.add_lt_add_right.mpr h)]
theorem cmpR_mul {r s t : Rat} (ht : 0 < t) : cmpR (r * t) (s * t) = cmpR r s := by
  rcases cmpR_cases r s with ⟨h, e⟩ | ⟨h, e⟩ | ⟨h, e⟩
  · rw [e, cmpR_lt ((Rat.mul_lt_mul_right ht).mpr h)]
  · rw [e, h, cmpR_self]
  · rw [e, cmpR_gt ((Rat.mul_lt_mul_right ht).mpr h)]
theorem neg_pos {t : Rat} (h : t < 0) : 0 < -t := by
  have := Rat.neg_lt_neg h
  rw [Rat.neg_zero] at this
  exact this
theorem cmpR_mul_neg {r s t : Rat} (ht : t < 0) : cmpR (r * t) (s * t) = -cmpR r s := by
  have h1 := cmpR_mul (r := r) (s := s) (neg_pos ht)
  rw [Rat.mul_neg, Rat.mul_neg] at h1
  rw [← h1, ← cmpR_swap]
  unfold cmpR
  rw [Rat.neg_num, Rat.neg_num, Rat.neg_den, Rat.neg_den, Int.neg_mul, Int.neg_mul]
  congr 1
  omega
theorem sign_as (d : Int) : (if decide (0 < d) = true then (1 : Int) else 0) - (if decide (d < 0) = true then (1 : Int) else 0) = Int.sign d := by
  rcases Int.lt_trichotomy d 0 with h | h | h
  · rw [decide_eq_true h, decide_eq_false (show ¬0 < d by omega), Int.sign_eq_neg_one_of_neg h]
    rfl
  · subst h
    rfl
  · rw [decide_eq_true h, decide_eq_false (show ¬d < 0 by omega), Int.sign_eq_one_of_pos h]
    rfl
theorem cmpR_zero (r : Rat) : cmpR r 0 = Int.sign r.num := by
  unfold cmpR
  rw [Rat.zero_num, Rat.zero_den]
  congr 1
  omega
theorem num_pos_iff {r : Rat} : 0 < r.num ↔ 0 < r := by
  have h := Rat.lt_iff 0 r
  rw [Rat.zero_num, Rat.zero_den] at h
  rw [h]
  omega
theorem num_neg_iff {r : Rat} : r.num < 0 ↔ r < 0 := by
  have h := Rat.lt_iff r 0
  rw [Rat.zero_num, Rat.zero_den] at h
  rw [h]
  omega
end UbM

namespace Ub
open PySem PySem.Spec PyProof.Rows L2 UbM
/-! ### heaps -/
theorem sameNew {H : Hp} {p : Addr} {o : HO} (h : H p = none) : Same H (upd H p o) := fun b x e => by
  rw [upd_ne (ne_of_none e h)]
  exact e
theorem Same.tseq {K : PySem.W.Frag} {H H' : Hp} {a : Addr} {xs : List V} (e : Same H H') (h : SqT K H a xs) : SqT K H' a xs := by
  rcases h with (h | ⟨o, h⟩) | h
  · exact .inl (.inl (e _ _ h))
  · exact .inl (.inr ⟨o, e _ _ h⟩)
  · exact .inr h
mutual
theorem Dp.mono {K : PySem.W.Frag} {H H' : Hp} (e : Same H H') : ∀ (d : PyData) (v : V), Dp K H v d → Dp K H' v d
  | .none, _, h => by cases h; exact .non
  | .bool b, _, h => by cases h; exact .bl b
  | .int i, _, h => by cases h; exact .int i
  | .str x, _, h => by cases h; exact .str x
  | .list ds, _, h => by
    cases h with
    | lst hs ha => exact .lst (Same.seq e hs) (Dp.monoAll e ds _ ha)
  | .tuple ds, _, h => by
    cases h with
    | tup hs ha => exact .tup (Same.tseq e hs) (Dp.monoAll e ds _ ha)
  | .dict _, _, h => by cases h
theorem Dp.monoAll {K : PySem.W.Frag} {H H' : Hp} (e : Same H H') : ∀ (ds : List PyData) (vs : List V), DpAll K H vs ds → DpAll K H' vs ds
  | [], _, h => by cases h; exact .nil
  | d :: ds, _, h => by
    cases h with
    | cons h1 h2 => exact .cons (Dp.mono e d _ h1) (Dp.monoAll e ds _ h2)
end
/-- a fraction as data -/
def frD (r : Rat) : PyData := .tuple [.int r.num, .int (r.den : Int)]
/-- v is the fraction r -/
def Fr (K : PySem.W.Frag) (H : Hp) (v : V) (r : Rat) : Prop := Dp K H v (frD r)
theorem Fr.mono {K : PySem.W.Frag} {H H' : Hp} {v : V} {r : Rat} (e : Same H H') (h : Fr K H v r) : Fr K H' v r := Dp.mono e _ _ h
theorem Fr.get {K : PySem.W.Frag} {H : Hp} {v : V} {r : Rat} (h : Fr K H v r) : ∃ a, v = .ref a ∧ SqT K H a [.int r.num, .int (r.den : Int)] := by
  unfold Fr frD at h
  cases h with
  | tup hs ha =>
    cases ha with
    | cons h1 h2 =>
      cases h2 with
      | cons h2 h3 =>
        cases h3
        cases h1
        cases h2
        exact ⟨_, rfl, hs⟩
theorem fr_of {K : PySem.W.Frag} {H : Hp} {a : Addr} {r : Rat} {p q : Int} (h : SqT K H a [.int p, .int q]) (hp : p = r.num) (hq : q = (r.den : Int)) : Fr K H (.ref a) r := by
  subst hp hq
  exact .tup h (.cons (.int _) (.cons (.int _) .nil))
theorem frNew {K : PySem.W.Frag} {H : Hp} {a : Addr} {r : Rat} {p q : Int} (hp : p = r.num) (hq : q = (r.den : Int)) : Fr K (upd H a (.tup [.int p, .int q])) (.ref a) r := fr_of (.inl (.inl upd_same)) hp hq
/-! ### operators on ints of any size that these laws meet -/
def CDivX (_ j : Int) : Prop := j ≠ 0 ∧ j.natAbs.log2 < 9000
theorem cdivX {i j : Int} {b : Nat} (h : j ≠ 0) (hb : j.natAbs < 2 ^ b) (h0 : 0 < b) (h9 : b ≤ 9000) : CDivX i j := ⟨h, Nat.lt_of_lt_of_le (PySem.Flt.log2_lt_of h0 hb) h9⟩
section
variable {X : Cx}
theorem op_fdivX : OpR X (binaryOp .FloorDiv) (rI CDivX fun i j => .int (i.fdiv j)) := opI fun i j _ _ _ _ _ hc q => floordiv_int hc.1 q (.inl (PyProof.noPylong_of_log2 hc.2))
end
/-- * of two ints: one below 2 ^ 64, or together below a million bits -/
def CMulG (i j : Int) : Prop := CMul i j ∨ CMulW i j
section
variable {X : Cx}
theorem op_mulG : OpR X (binaryOp .Mult) (rI CMulG fun i j => .int (i * j)) := opI fun _ _ _ _ _ _ _ hc q => mul_int q (by
  rcases hc with hc | hc
  · exact hc.ok
  · exact hc.ok)
end
theorem fdiv_pos {i j : Int} (h : 0 < j) : i.fdiv j = i / j := Int.fdiv_eq_ediv_of_nonneg i (by omega)
/-! ### calls of the program's own defs -/
/-- at the name x stands a def that keeps the promise sp, by at most level k; dvs: the defaults that fill up -/
structure Cal (P : Program) (w : World) (K : PySem.W.Frag) (mg : Str → Option Value) (base : Heap) (x : Str) (k : Nat) (ps : List Str) (dvs : List V) (sp : Sp) : Prop where
  ex : ∃ (f : Addr) (fd : FuncData) (ds : List Value), FnOk P w K mg base (L2.CX P w) k f fd ps sp ∧ mg x = some (.ref f) ∧ PySem.W.keepIn K (.ref f) = true ∧ Vals dvs ds ∧ Binds K fd ps ds
section
variable {X : Cx} {x : Str} {k j : Nat} {ps : List Str} {dvs : List V} {sp : Sp} {p pos : Pos} {e : Expr} {es : List Expr} {t : TA}
theorem pe_callC (C : Cal X.prog X.w X.K X.mg X.base x k ps dvs sp) (hr : Room j X.A) (hj : k ≤ j) (hg : Gl X x) (ha : PA X (e :: es) t) (hdb : (x == ("__debug__" : Str)) = false := by decide)
    (he : starEach (e :: es) X.env = (false, eval e X.env) :: starEach es X.env := by rfl) (hpl : (backTo pos (starEach es X.env)).any (·.1) = false := by rfl) :
    PE X (.Call (.Name x p) (e :: es) [] pos) (tCall sp dvs E0 t) := by
  obtain ⟨f, fd, ds, F, hm, hk, hd, hb⟩ := C.ex
  exact pe_call F (hr.mono hj) hg hm hk hb hd passL ha hdb he hpl
theorem pe_callC0 (C : Cal X.prog X.w X.K X.mg X.base x k ps dvs sp) (hr : Room j X.A) (hj : k ≤ j) (hg : Gl X x) (hdb : (x == ("__debug__" : Str)) = false := by decide) : PE X (.Call (.Name x p) [] [] pos) (tCall sp dvs E0 tNil) := by
  obtain ⟨f, fd, ds, F, hm, hk, hd, hb⟩ := C.ex
  exact pe_call0 F (hr.mono hj) hg hm hk hb hd passL hdb
/-- in a def that may raise: what the callee raises leaves it -/
theorem pe_callCX {E : XK} (C : Cal X.prog X.w X.K X.mg X.base x k ps dvs sp) (hr : Room j X.A) (hj : k ≤ j) (hg : Gl X x) (tk : Takes X (fun cls d _ H => E cls d H)) (ha : PA X (e :: es) t) (hdb : (x == ("__debug__" : Str)) = false := by decide)
    (he : starEach (e :: es) X.env = (false, eval e X.env) :: starEach es X.env := by rfl) (hpl : (backTo pos (starEach es X.env)).any (·.1) = false := by rfl) :
    PE X (.Call (.Name x p) (e :: es) [] pos) (tCall sp dvs E t) := by
  obtain ⟨f, fd, ds, F, hm, hk, hd, hb⟩ := C.ex
  exact pe_call F (hr.mono hj) hg hm hk hb hd (passes_call tk fun _ _ _ _ h => h) ha hdb he hpl
/-- in a try: what it raises goes to the clause -/
theorem pe_callCS {W : WX} (C : Cal X.prog X.w X.K X.mg X.base x k ps [] sp) (hr : Room j X.A) (hj : k ≤ j) (hg : Gl X x) (tk : Takes X W) (ha : PA X (e :: es) t) (hdb : (x == ("__debug__" : Str)) = false := by decide)
    (he : starEach (e :: es) X.env = (false, eval e X.env) :: starEach es X.env := by rfl) (hpl : (backTo pos (starEach es X.env)).any (·.1) = false := by rfl) :
    PE X (.Call (.Name x p) (e :: es) [] pos) (tCallS sp (WE W) t) := by
  obtain ⟨f, fd, ds, F, hm, hk, hd, hb⟩ := C.ex
  cases hd
  exact pe_callS F (hr.mono hj) hg hm hk hb (fun σ => passAt tk σ) ha hdb he hpl
end
theorem Cal.mono {P : Program} {w : World} {K : PySem.W.Frag} {mg : Str → Option Value} {base : Heap} {x : Str} {k : Nat} {ps : List Str} {dvs : List V} {sp sp' : Sp} (C : Cal P w K mg base x k ps dvs sp)
    (h : ∀ vs H Q E, sp' vs H Q E → sp vs H Q E) : Cal P w K mg base x k ps dvs sp' := by
  obtain ⟨f, fd, ds, F, r⟩ := C.ex
  exact ⟨f, fd, ds, F.imp h, r⟩
/-! ### own exceptions -/
section
variable {X : Cx} {C : Addr} {bmB : List Value} {B newId initId : String}
/-- X(), X an own exception class without own __init__ -/
theorem pmk_own0 {x : Str} {p pos : Pos} (F : ExcBaseFacts B newId initId bmB) (q : PySem.W.excIn X.K C bmB newId = true) (gC : X.mg x = some (.ref C)) (kC : PySem.W.keepIn X.K (.ref C) = true) (r : Raises X (.ref C)) (hg : Gl X x)
    (hdb : (x == ("__debug__" : Str)) = false := by decide) : PMk X (.Call (.Name x p) [] [] pos) (fun _ H Q => Q (.ref C) none H) := by
  intro pins s σ H Q I h
  refine wpAny_Call_Name_kw (ld_glob I hg gC ?_ hdb)
  refine PySem.W.callWith_K0 I.kIn kC ?_
  show wpAny _ _ (call (.ref C) []) _ _ _
  obtain ⟨bm, N, nm, qn, bs, hdct, sn, sub, ab, col, dd, k0, k1, k2, k3, k5, mN, hC, hN, hni, T⟩ := exc_obj I.kIn q
  refine wpAny_call_exc_subT F T hC hN hni (fun h' e hm => ?_) (Nat.zero_le _)
  exact mk_of I hm r h (I.hok.gone hm.new)
end
/-- what the top says of an own exception class without own __init__ -/
structure ExcK (K : PySem.W.Frag) (mg : Str → Option Value) (x : Str) : Prop where
  gC : mg x = some (.ref (He.ga K x))
  xC : PySem.W.excIn K (He.ga K x) He.veBase "ValueError.__new__" = true
  kC : PySem.W.keepIn K (.ref (He.ga K x)) = true
  bC : PySem.W.subIn K (.ref (He.ga K x)) (.type "BaseException") = some true
  tC : PySem.W.typeIn K (.ref (He.ga K x)) = some (.type "type")
section
variable {X : Cx} {x : Str} {p pos pos2 : Pos} {W : WX}
theorem ps_raise0 (hc : X.calm = true) (T : ExcK X.K X.mg x) (tk : Takes X W) (hg : Gl X x) (hdb : (x == ("__debug__" : Str)) = false := by decide) :
    PS X (.Raise (some (.Call (.Name x p) [] [] pos)) none pos2) (fun _ σ H => W (.ref (He.ga X.K x)) none σ H) := ps_raise hc tk (pmk_own0 PySem.F.excBase_ValueError T.xC T.gC T.kC (raises_own T.bC T.tC) hg hdb)
end
/-- what isinstance asks of an exception's class, as a test of K -/
def excCB (K : PySem.W.Frag) (D : Addr) : Bool :=
  He.eqO (PySem.W.findIn K (.ref D) "__getattribute__") (some (some (.builtin "BaseException.__getattribute__"))) && (He.eqO (PySem.W.findIn K (.ref D) "__getattr__") (some none) && (decide (PySem.W.subIn K (.ref D) (.type "BaseException") = some true) && (PySem.W.hasDictIn K D && (He.eqO (PySem.W.findIn K (.ref D) "__class__") (some (some (.builtin "object.__class__"))) &&
  (decide (PySem.W.specialIn K (.builtin "object.__class__") "__get__" = some (some (.builtin "getset_descriptor.__get__"))) && (decide (PySem.W.takesIn K (.builtin "object.__class__") = some true) && decide (PySem.W.mroIn K D (.type "object") = some true)))))))
theorem excCB_ok {K : PySem.W.Frag} {D : Addr} (h : excCB K D = true) : ExcC K D := by
  unfold excCB at h
  obtain ⟨h1, h⟩ := He.ba h
  obtain ⟨h2, h⟩ := He.ba h
  obtain ⟨h3, h⟩ := He.ba h
  obtain ⟨h4, h⟩ := He.ba h
  obtain ⟨h5, h⟩ := He.ba h
  obtain ⟨h6, h⟩ := He.ba h
  obtain ⟨h7, h8⟩ := He.ba h
  exact ⟨He.eqO_ok h1, He.eqO_ok h2, of_decide_eq_true h3, h4, He.eqO_ok h5, of_decide_eq_true h6, of_decide_eq_true h7, of_decide_eq_true h8⟩
/-- isinstance(e, c), e the caught exception, of the class at D -/
def rIsEx (K : PySem.W.Frag) (D a : Addr) (cls : Value) (d : Option Addr) : List V → Hp → VK → Prop := fun xs H Q => cls = .ref D ∧ d = none ∧ rIsE K D a xs H Q
theorem call_isEx {X : Cx} {a D : Addr} {oe : Obj} {pn : List (Addr × Obj)} {cls : Value} {d : Option Addr} (C : ExcC X.K D) (hz : Zc cls d oe) (hf : ∃ vs, oe.data = .fields vs) : CallR (X.suite a ((a, oe) :: pn)) (.builtin "isinstance") (rIsEx X.K D a cls d) := by
  intro pins s σ H xs us Q I r h
  obtain ⟨e1, e2, h⟩ := h
  subst e1 e2
  exact call_isE C hz hf pins s σ H xs us Q I r h
theorem rdIsEx {K : PySem.W.Frag} {D a : Addr} {H : Hp} {Q : VK} {c : V} {cv : Value} {b : Bool} (hc : ∀ u, RelV c u → u = cv) (k : PySem.W.kitOne K (.ref D) cv = some b) (q : Q (.bl b) H) : rIsEx K D a (.ref D) none [.ref a, c] H Q := ⟨rfl, rfl, c, cv, b, rfl, hc, k, q⟩
/-! ### words for readings -/
theorem bb_int : bootBuiltins "int" = some (.type "int") := by decide +kernel
theorem bb_abs : bootBuiltins "abs" = some (.builtin "abs") := by decide +kernel
theorem bb_list : bootBuiltins "list" = some (.type "list") := by decide +kernel
theorem bb_len : bootBuiltins "len" = some (.builtin "len") := by decide +kernel
theorem bb_isinstance : bootBuiltins "isinstance" = some (.builtin "isinstance") := by decide +kernel
theorem bb_tuple : bootBuiltins "tuple" = some (.type "tuple") := by decide +kernel
theorem bb_bool : bootBuiltins "bool" = some (.type "bool") := by decide +kernel
theorem bb_str : bootBuiltins "str" = some (.type "str") := by decide +kernel
theorem bb_ValueError : bootBuiltins "ValueError" = some (.type "ValueError") := by decide +kernel
theorem bb_min : bootBuiltins "min" = some (.builtin "min") := by decide +kernel
theorem bb_max : bootBuiltins "max" = some (.builtin "max") := by decide +kernel
theorem bb_sum : bootBuiltins "sum" = some (.builtin "sum") := by decide +kernel
theorem bb_any : bootBuiltins "any" = some (.builtin "any") := by decide +kernel
theorem bb_all : bootBuiltins "all" = some (.builtin "all") := by decide +kernel
theorem bb_sorted : bootBuiltins "sorted" = some (.builtin "sorted") := by decide +kernel
theorem bb_repr : bootBuiltins "repr" = some (.builtin "repr") := by decide +kernel
/-- isinstance of data -/
def tyD : PyData → String
  | .none => "NoneType"
  | .bool _ => "bool"
  | .int _ => "int"
  | .str _ => "str"
  | .list _ => "list"
  | .tuple _ => "tuple"
  | .dict _ => "dict"
theorem tyx {K : PySem.W.Frag} {H : Hp} {v : V} {d : PyData} (h : Dp K H v d) : TyX K H v (.type (tyD d)) := by
  cases h with
  | non => exact .base .non
  | bl b => exact .base (.bl b)
  | int i => exact .base (.int i)
  | str x => exact .base (.str x)
  | lst hs _ =>
    rcases hs with (hs | ⟨o, hs⟩) | ⟨o, its, n, hl, hc, _⟩
    · exact .base (.lst hs)
    · exact .base (.frz hs)
    · exact .kList hl hc
  | tup hs _ =>
    rcases hs with (hs | ⟨o, hs⟩) | ⟨o, its, n, hl, hc, _⟩
    · exact .base (.tup hs)
    · exact .fTuple hs
    · exact .kTuple hl hc
/-- isinstance(x, T): the answer by the data's type -/
theorem isiD {K : PySem.W.Frag} {H : Hp} {v : V} {d : PyData} {T : String} {b : Bool} {Q : VK} (h : Dp K H v d) (k : kitB (tyD d) T = some b) (q : Q (.bl b) H) : rIsi K [v, .ty T] H Q := ⟨v, .ty T, .type (tyD d), .type T, b, rfl, .ty T, tyx h, kit_ty k, q⟩
/-! ### readings, step by step: each name says which construct has come -/
theorem log2_le {x a : Nat} (h : x < 2 ^ a) : x.log2 ≤ a := by
  by_cases ha : a = 0
  · subst ha
    have : x = 0 := by omega
    subst this
    exact Nat.le_of_eq (by decide)
  · exact Nat.le_of_lt (PySem.Flt.log2_lt_of (by omega) h)
theorem mulW {i j : Int} {a b : Nat} (ha : i.natAbs < 2 ^ a) (hb : j.natAbs < 2 ^ b) (h : a + b ≤ 900000) : CMulG i j := .inr <| by
  have h1 := log2_le ha
  have h2 := log2_le hb
  unfold CMulW
  omega
theorem divX {i j : Int} {b : Nat} (h : j ≠ 0) (hb : j.natAbs < 2 ^ b) (h9 : b < 9000) : CDivX i j := ⟨h, Nat.lt_of_le_of_lt (log2_le hb) h9⟩
/-! named readings of built-in calls -/
def rInt1 : List V → Hp → VK → Prop := fun xs H Q => (∃ i, xs = [.int i] ∧ Q (.int i) H) ∨ ∃ k, xs = [.bl k] ∧ Q (.int (if k then 1 else 0)) H
def rStrI : List V → Hp → VK → Prop := fun xs H Q => ∃ i, xs = [.int i] ∧ i.natAbs.log2 < 1920 ∧ Q (.str (toString i)) H
def rMin2 : List V → Hp → VK → Prop := fun xs H Q => ∃ i j, xs = [.int i, .int j] ∧ Q (.int (if j < i then j else i)) H
def rAbs1 : List V → Hp → VK → Prop := fun xs H Q => ∃ i, xs = [.int i] ∧ Q (.int (if i < 0 then -i else i)) H
def rLenS (K : PySem.W.Frag) : List V → Hp → VK → Prop := fun xs H Q => ∃ p ys, xs = [.ref p] ∧ (SqL K H p ys ∨ SqT K H p ys) ∧ Q (.int ys.length) H
def rListOf (K : PySem.W.Frag) : List V → Hp → VK → Prop := fun xs H Q => ∃ p ys, xs = [.ref p] ∧ (SqL K H p ys ∨ SqT K H p ys) ∧ ∀ l, H l = none → Q (.ref l) (upd H l (.lst ys))
section
variable {X : Cx}
theorem cl_int : CallR X (.type "int") rInt1 := call_int1
theorem cl_str : CallR X (.type "str") rStrI := call_str_int
theorem cl_min2 (hc : X.calm = true) : CallR X (.builtin "min") rMin2 := call_min2 hc
theorem cl_abs : CallR X (.builtin "abs") rAbs1 := call_abs
theorem cl_len : CallR X (.builtin "len") (rLenS X.K) := call_len_seq
theorem cl_list : CallR X (.type "list") (rListOf X.K) := call_list_of
end
def rIsN1 : R2 := fun x y H Q => y = .non ∧ Q (.bl (decide (x = .non))) H
def rNotN1 : R2 := fun x y H Q => y = .non ∧ Q (.bl (!decide (x = .non))) H
section
variable {X : Cx}
theorem op_isNo : OpR X (compareOp .Is) rIsN1 := op_isN
theorem op_notNo : OpR X (compareOp .IsNot) rNotN1 := op_notN
end
/-- == and !=: of scalars, or of data -/
def rEqA (K : PySem.W.Frag) : R2 := fun x y H Q => rEq x y H Q ∨ rEqD K x y H Q
def rNeA (K : PySem.W.Frag) : R2 := fun x y H Q => rNe x y H Q ∨ rNeD K x y H Q
section
variable {X : Cx}
theorem op_eqA (hu : X.A.units + 64 < cLine) : OpR X (compareOp .Eq) (rEqA X.K) := fun pins s σ H x y v u Q I rx ry h => h.elim (op_eq pins s σ H x y v u Q I rx ry) (op_eqD hu pins s σ H x y v u Q I rx ry)
theorem op_neA (hu : X.A.units + 64 < cLine) : OpR X (compareOp .NotEq) (rNeA X.K) := fun pins s σ H x y v u Q I rx ry h => h.elim (op_ne pins s σ H x y v u Q I rx ry) (op_neD hu pins s σ H x y v u Q I rx ry)
end
/-! the same rules with the written part named (in a comprehension's element) -/
section
variable {X : Cx} {K : PySem.W.Frag}
theorem ix_seqK (h : X.K = K) : IxR X (rIx K) := by
  subst h
  exact ix_seq
theorem cl_lenK (h : X.K = K) : CallR X (.builtin "len") (rLenS K) := by
  subst h
  exact cl_len
theorem cl_listK (h : X.K = K) : CallR X (.type "list") (rListOf K) := by
  subst h
  exact cl_list
theorem op_eqAK (h : X.K = K) (hu : X.A.units + 64 < cLine) : OpR X (compareOp .Eq) (rEqA K) := by
  subst h
  exact op_eqA hu
theorem op_neAK (h : X.K = K) (hu : X.A.units + 64 < cLine) : OpR X (compareOp .NotEq) (rNeA K) := by
  subst h
  exact op_neA hu
theorem call_isiKK (h : X.K = K) : CallR X (.builtin "isinstance") (rIsi K) := by
  subst h
  exact call_isi
end
/-! a sequence whose first part meets again: what holds behind it is said once -/
def tSeqJ (t u : TS) : TS := fun D σ H => ∀ U : L2.St → Hp → Prop, (∀ σ' H', u D σ' H' → U σ' H') → t { D with nx := U } σ H
theorem pss_consJ {X : Cx} {st : Stmt} {rest : List Stmt} {t u : TS} (h1 : PS X st t) (h2 : PSs X rest u) : PSs X (st :: rest) (tSeqJ t u) := ⟨fun pins s σ H D I h => (pss_cons h1 h2).run pins s σ H D I (h _ fun _ _ x => x)⟩
theorem seqJ {t u : TS} {D : Ends} {σ : L2.St} {H : Hp} (R : L2.St → Hp → Prop) (h1 : ∀ U : L2.St → Hp → Prop, (∀ σ' H', R σ' H' → U σ' H') → t { D with nx := U } σ H) (h2 : ∀ σ' H', R σ' H' → u D σ' H') : tSeqJ t u D σ H := fun U hU => h1 U fun σ' H' r => hU _ _ (h2 σ' H' r)
section
variable {K : PySem.W.Frag} {H : Hp} {Q : VK} {σ : L2.St}
theorem rdV {i : Nat} {v : V} (h : σ[i]? = some (some v)) (q : Q v H) : tVar i σ H Q := ⟨v, h, q⟩
theorem rdAdd {i j : Int} (q : Q (.int (i + j)) H) : rI0 (fun i j => .int (i + j)) (.int i) (.int j) H Q := ⟨i, j, rfl, rfl, q⟩
theorem rdSub {i j : Int} (q : Q (.int (i - j)) H) : rI0 (fun i j => .int (i - j)) (.int i) (.int j) H Q := ⟨i, j, rfl, rfl, q⟩
theorem rdMul {i j : Int} (c : CMulG i j) (q : Q (.int (i * j)) H) : rI CMulG (fun i j => .int (i * j)) (.int i) (.int j) H Q := ⟨i, j, rfl, rfl, c, q⟩
theorem rdDiv {i j : Int} (c : CDivX i j) (q : Q (.int (i.fdiv j)) H) : rI CDivX (fun i j => .int (i.fdiv j)) (.int i) (.int j) H Q := ⟨i, j, rfl, rfl, c, q⟩
theorem rdDivP {i j : Int} {b : Nat} (h : 0 < j) (hb : j.natAbs < 2 ^ b) (h9 : b < 9000) (q : Q (.int (i / j)) H) : rI CDivX (fun i j => .int (i.fdiv j)) (.int i) (.int j) H Q := ⟨i, j, rfl, rfl, divX (by omega) hb h9, by show Q (.int (i.fdiv j)) H; rw [fdiv_pos h]; exact q⟩
theorem rdMod {i j : Int} (c : 0 < j) (q : Q (.int (i % j)) H) : rI (fun _ j => 0 < j) (fun i j => .int (i % j)) (.int i) (.int j) H Q := ⟨i, j, rfl, rfl, c, q⟩
theorem rdNeg {i : Int} (q : Q (.int (-i)) H) : rU (fun i => .int (-i)) (.int i) H Q := ⟨i, rfl, q⟩
theorem rdEqI {i j : Int} (q : Q (.bl (decide (i = j))) H) : rEqA K (.int i) (.int j) H Q := .inl <| ⟨rfl, by
  have e : decide (V.int i = V.int j) = decide (i = j) := by
    rw [dec_int]
    exact Bool.beq_eq_decide_eq ..
  rw [e]
  exact q⟩
theorem rdNeI {i j : Int} (q : Q (.bl (!decide (i = j))) H) : rNeA K (.int i) (.int j) H Q := .inl <| ⟨rfl, by
  have e : decide (V.int i = V.int j) = decide (i = j) := by
    rw [dec_int]
    exact Bool.beq_eq_decide_eq ..
  rw [e]
  exact q⟩
theorem rdLt {i j : Int} (q : Q (.bl (decide (i < j))) H) : rI0 (fun i j => .bl (decide (i < j))) (.int i) (.int j) H Q := ⟨i, j, rfl, rfl, q⟩
theorem rdGt {i j : Int} (q : Q (.bl (decide (j < i))) H) : rI0 (fun i j => .bl (decide (j < i))) (.int i) (.int j) H Q := ⟨i, j, rfl, rfl, q⟩
theorem rdLe {i j : Int} (q : Q (.bl (decide (i ≤ j))) H) : rI0 (fun i j => .bl (decide (i ≤ j))) (.int i) (.int j) H Q := ⟨i, j, rfl, rfl, q⟩
theorem rdGe {i j : Int} (q : Q (.bl (decide (j ≤ i))) H) : rI0 (fun i j => .bl (decide (j ≤ i))) (.int i) (.int j) H Q := ⟨i, j, rfl, rfl, q⟩
theorem rdPow {i j : Int} (c : CPow i j) (q : Q (.int (i ^ j.toNat)) H) : rI CPow (fun i j => .int (i ^ j.toNat)) (.int i) (.int j) H Q := ⟨i, j, rfl, rfl, c, q⟩
theorem rdInt {i : Int} (q : Q (.int i) H) : rInt1 [.int i] H Q := .inl ⟨i, rfl, q⟩
theorem rdMin2 {m n : Nat} (q : Q (.int ((min m n : Nat) : Int)) H) : rMin2 [.int (m : Int), .int (n : Int)] H Q := ⟨_, _, rfl, by
  have e : (if (n : Int) < m then (n : Int) else m) = ((min m n : Nat) : Int) := by split <;> omega
  rw [e]
  exact q⟩
theorem rdStrI {i : Int} {n : Nat} (h : i.natAbs < 2 ^ n) (hn : n < 1920) (q : Q (.str (toString i)) H) : rStrI [.int i] H Q := ⟨i, rfl, Nat.lt_of_le_of_lt (log2_le h) hn, q⟩
theorem rdIntB {b : Bool} (q : Q (.int (if b then 1 else 0)) H) : rInt1 [.bl b] H Q := .inr ⟨b, rfl, q⟩
theorem rdAbs {i : Int} (q : Q (.int (i.natAbs : Int)) H) : rAbs1 [.int i] H Q := ⟨i, rfl, by
  have e : (if i < 0 then -i else i) = (i.natAbs : Int) := by split <;> omega
  rw [e]
  exact q⟩
theorem rdLenT {a : Addr} {xs : List V} (h : SqT K H a xs) (q : Q (.int (xs.length : Int)) H) : rLenS K [.ref a] H Q := ⟨a, xs, rfl, .inr h, q⟩
theorem rdLenL {a : Addr} {xs : List V} (h : SqL K H a xs) (q : Q (.int (xs.length : Int)) H) : rLenS K [.ref a] H Q := ⟨a, xs, rfl, .inl h, q⟩
theorem rdListL {a : Addr} {xs : List V} (h : SqL K H a xs) (q : ∀ l, H l = none → Q (.ref l) (upd H l (.lst xs))) : rListOf K [.ref a] H Q := ⟨a, xs, rfl, .inl h, q⟩
theorem rdListT {a : Addr} {xs : List V} (h : SqT K H a xs) (q : ∀ l, H l = none → Q (.ref l) (upd H l (.lst xs))) : rListOf K [.ref a] H Q := ⟨a, xs, rfl, .inr h, q⟩
theorem rdIxT {a : Addr} {xs : List V} {i : Int} {v : V} (h : SqT K H a xs) (e : atI xs i = some v) (q : Q v H) : rIx K (.ref a) (.int i) H Q := .inr (.inl ⟨a, xs, i, v, rfl, rfl, h, e, q⟩)
theorem rdIxL {a : Addr} {xs : List V} {i : Int} {v : V} (h : SqL K H a xs) (e : atI xs i = some v) (q : Q v H) : rIx K (.ref a) (.int i) H Q := .inl ⟨a, xs, i, v, rfl, rfl, h, e, q⟩
theorem ixFr0 {x : V} {r : Rat} (h : Fr K H x r) (q : Q (.int r.num) H) : rIx K x (.int 0) H Q := by
  obtain ⟨a, rfl, hs⟩ := h.get
  exact rdIxT hs rfl q
theorem ixFr1 {x : V} {r : Rat} (h : Fr K H x r) (q : Q (.int (r.den : Int)) H) : rIx K x (.int 1) H Q := by
  obtain ⟨a, rfl, hs⟩ := h.get
  exact rdIxT hs rfl q
theorem dpPair {x : V} {p q : Int} (h : Dp K H x (.tuple [.int p, .int q])) : ∃ a, x = .ref a ∧ SqT K H a [.int p, .int q] := by
  cases h with
  | tup hs ha =>
    cases ha with
    | cons h1 h2 =>
      cases h2 with
      | cons h2 h3 =>
        cases h3
        cases h1
        cases h2
        exact ⟨_, rfl, hs⟩
theorem ixP0 {x : V} {p z : Int} (h : Dp K H x (.tuple [.int p, .int z])) (q : Q (.int p) H) : rIx K x (.int 0) H Q := by
  obtain ⟨a, rfl, hs⟩ := dpPair h
  exact rdIxT hs rfl q
theorem ixP1 {x : V} {p z : Int} (h : Dp K H x (.tuple [.int p, .int z])) (q : Q (.int z) H) : rIx K x (.int 1) H Q := by
  obtain ⟨a, rfl, hs⟩ := dpPair h
  exact rdIxT hs rfl q
theorem rdGcd {a b : Int} (q : Q (.int ((Nat.gcd a.natAbs b.natAbs : Nat) : Int)) H) : rGcd [.int a, .int b] H Q := ⟨a, b, rfl, q⟩
end
/-! loops, the ends by parts -/
theorem forRange {lo : Int} {n : Nat} {g : TG} {tb : TS} {nx : L2.St → Hp → Prop} {rt : VK} {σ : L2.St} {H : Hp} (Pv : Nat → L2.St → Hp → Prop) (h0 : Pv 0 σ H)
    (hs : ∀ i σ H, i < n → Pv i σ H → g (.int (lo + i)) σ H fun σ2 H2 => tb { nx := Pv (i + 1), rt := rt, ct := Pv (i + 1), bk := nx } σ2 H2) (hd : ∀ σ H, Pv n σ H → nx σ H) :
    ∃ W : Nat → Nat → L2.St → Hp → Prop, (∃ m, W 0 m σ H) ∧ ∀ i m σ H, W i m σ H →
      ((Itr lo n).stop i H ∧ nx σ H) ∨ ((Itr lo n).go i H ∧ ∃ N : L2.St → Hp → Prop, (∀ σ' H', N σ' H' → ∃ m', m' < m ∧ W (i + 1) m' σ' H') ∧ ∀ x H', (Itr lo n).yld i H x H' → g x σ H' fun σ2 H2 => tb { nx := N, rt := rt, ct := N, bk := nx } σ2 H2) :=
  for_range (D := { nx := nx, rt := rt }) Pv h0 hs hd
theorem forList {K : PySem.W.Frag} {a : Addr} {xs : List V} {g : TG} {tb : TS} {nx : L2.St → Hp → Prop} {rt : VK} {σ : L2.St} {H : Hp} (Pv : Nat → L2.St → Hp → Prop) (h0 : Pv 0 σ H) (hl : ∀ i σ H, i ≤ xs.length → Pv i σ H → SqL K H a xs)
    (hs : ∀ i x σ H, xs[i]? = some x → Pv i σ H → g x σ H fun σ2 H2 => tb { nx := Pv (i + 1), rt := rt, ct := Pv (i + 1), bk := nx } σ2 H2) (hd : ∀ σ H, Pv xs.length σ H → nx σ H) :
    ∃ W : Nat → Nat → L2.St → Hp → Prop, (∃ m, W 0 m σ H) ∧ ∀ i m σ H, W i m σ H →
      ((Itl K a).stop i H ∧ nx σ H) ∨ ((Itl K a).go i H ∧ ∃ N : L2.St → Hp → Prop, (∀ σ' H', N σ' H' → ∃ m', m' < m ∧ W (i + 1) m' σ' H') ∧ ∀ x H', (Itl K a).yld i H x H' → g x σ H' fun σ2 H2 => tb { nx := N, rt := rt, ct := N, bk := nx } σ2 H2) :=
  for_list (D := { nx := nx, rt := rt }) Pv h0 hl hs hd
theorem noExc {P : Program} {w : World} {H : Hp} {s : Shared} {e : Value} {s' : Shared} (z : L2.CX P w [] H s (fun _ _ _ => False) e s') : False := by
  obtain ⟨_, _, _, _, _, _, _, _, _, _, _, _, z⟩ := z
  exact z.elim
/-! ### isinstance of data, by the type -/
def dInt : PyData → Bool
  | .int _ => true
  | .bool _ => true
  | _ => false
def dBool : PyData → Bool
  | .bool _ => true
  | _ => false
def dStr : PyData → Bool
  | .str _ => true
  | _ => false
def dTup : PyData → Bool
  | .tuple _ => true
  | _ => false
def dLst : PyData → Bool
  | .list _ => true
  | _ => false
section
variable {K : PySem.W.Frag} {H : Hp} {Q : VK} {v : V} {d : PyData}
theorem isiInt (h : Dp K H v d) (q : Q (.bl (dInt d)) H) : rIsi K [v, .ty "int"] H Q := isiD h (by
  cases h with
  | non => exact (by decide +kernel : kitB "NoneType" "int" = some false)
  | bl b => exact (by decide +kernel : kitB "bool" "int" = some true)
  | int i => exact (by decide +kernel : kitB "int" "int" = some true)
  | str x => exact (by decide +kernel : kitB "str" "int" = some false)
  | lst h1 h2 => exact (by decide +kernel : kitB "list" "int" = some false)
  | tup h1 h2 => exact (by decide +kernel : kitB "tuple" "int" = some false)) q
theorem isiBool (h : Dp K H v d) (q : Q (.bl (dBool d)) H) : rIsi K [v, .ty "bool"] H Q := isiD h (by
  cases h with
  | non => exact (by decide +kernel : kitB "NoneType" "bool" = some false)
  | bl b => exact (by decide +kernel : kitB "bool" "bool" = some true)
  | int i => exact (by decide +kernel : kitB "int" "bool" = some false)
  | str x => exact (by decide +kernel : kitB "str" "bool" = some false)
  | lst h1 h2 => exact (by decide +kernel : kitB "list" "bool" = some false)
  | tup h1 h2 => exact (by decide +kernel : kitB "tuple" "bool" = some false)) q
theorem isiStr (h : Dp K H v d) (q : Q (.bl (dStr d)) H) : rIsi K [v, .ty "str"] H Q := isiD h (by
  cases h with
  | non => exact (by decide +kernel : kitB "NoneType" "str" = some false)
  | bl b => exact (by decide +kernel : kitB "bool" "str" = some false)
  | int i => exact (by decide +kernel : kitB "int" "str" = some false)
  | str x => exact (by decide +kernel : kitB "str" "str" = some true)
  | lst h1 h2 => exact (by decide +kernel : kitB "list" "str" = some false)
  | tup h1 h2 => exact (by decide +kernel : kitB "tuple" "str" = some false)) q
theorem isiTup (h : Dp K H v d) (q : Q (.bl (dTup d)) H) : rIsi K [v, .ty "tuple"] H Q := isiD h (by
  cases h with
  | non => exact (by decide +kernel : kitB "NoneType" "tuple" = some false)
  | bl b => exact (by decide +kernel : kitB "bool" "tuple" = some false)
  | int i => exact (by decide +kernel : kitB "int" "tuple" = some false)
  | str x => exact (by decide +kernel : kitB "str" "tuple" = some false)
  | lst h1 h2 => exact (by decide +kernel : kitB "list" "tuple" = some false)
  | tup h1 h2 => exact (by decide +kernel : kitB "tuple" "tuple" = some true)) q
theorem isiLst (h : Dp K H v d) (q : Q (.bl (dLst d)) H) : rIsi K [v, .ty "list"] H Q := isiD h (by
  cases h with
  | non => exact (by decide +kernel : kitB "NoneType" "list" = some false)
  | bl b => exact (by decide +kernel : kitB "bool" "list" = some false)
  | int i => exact (by decide +kernel : kitB "int" "list" = some false)
  | str x => exact (by decide +kernel : kitB "str" "list" = some false)
  | lst h1 h2 => exact (by decide +kernel : kitB "list" "list" = some true)
  | tup h1 h2 => exact (by decide +kernel : kitB "tuple" "list" = some false)) q
end
def dNon : PyData → Bool
  | .none => true
  | _ => false
section
variable {K : PySem.W.Frag} {H : Hp} {Q : VK} {v : V} {d : PyData}
theorem dNon_eq (h : Dp K H v d) : decide (v = .non) = dNon d := by cases h <;> rfl
theorem rdIsN (h : Dp K H v d) (q : Q (.bl (dNon d)) H) : rIsN1 v .non H Q := ⟨rfl, by rw [dNon_eq h]; exact q⟩
theorem rdNotN (h : Dp K H v d) (q : Q (.bl (!dNon d)) H) : rNotN1 v .non H Q := ⟨rfl, by rw [dNon_eq h]; exact q⟩
theorem rdEqB {i j : Bool} (q : Q (.bl (decide (i = j))) H) : rEqA K (.bl i) (.bl j) H Q := .inl <| ⟨rfl, by
  have e : decide (V.bl i = V.bl j) = decide (i = j) := by
    rw [dec_bl]
    exact Bool.beq_eq_decide_eq ..
  rw [e]
  exact q⟩
theorem rdEqS {i j : Str} (q : Q (.bl (decide (i = j))) H) : rEqA K (.str i) (.str j) H Q := .inl <| ⟨rfl, by
  have e : decide (V.str i = V.str j) = decide (i = j) := by
    rw [dec_str]
    exact Bool.beq_eq_decide_eq ..
  rw [e]
  exact q⟩
theorem rdNeS {i j : Str} (q : Q (.bl (!decide (i = j))) H) : rNeA K (.str i) (.str j) H Q := .inl <| ⟨rfl, by
  have e : decide (V.str i = V.str j) = decide (i = j) := by
    rw [dec_str]
    exact Bool.beq_eq_decide_eq ..
  rw [e]
  exact q⟩
end
/-- a display's reading, by name -/
def rTup : List V → Hp → VK → Prop := fun xs H Q => xs.length ≤ sizeLine ∧ ∀ p, H p = none → Q (.ref p) (upd H p (.tup xs))
def rLst : List V → Hp → VK → Prop := fun xs H Q => xs.length ≤ sizeLine ∧ ∀ p, H p = none → Q (.ref p) (upd H p (.lst xs))
def tTupN (t : TA) : TE := fun σ H Q => t σ H fun xs H1 => rTup xs H1 Q
def tLstN (t : TA) : TE := fun σ H Q => t σ H fun xs H1 => rLst xs H1 Q
/-! displays of data: what is laid is new -/
section
variable {K : PySem.W.Frag} {H : Hp} {Q : VK}
theorem rdTupD {xs : List V} {ds : List PyData} (h : DpAll K H xs ds) (hz : xs.length ≤ sizeLine) (q : ∀ H' v, Same H H' → Dp K H' v (.tuple ds) → Q v H') : rTup xs H Q :=
  ⟨hz, fun p np => q _ _ (sameNew np) (.tup (.inl (.inl upd_same)) (Dp.monoAll (sameNew np) _ _ h))⟩
theorem rdLstD {xs : List V} {ds : List PyData} (h : DpAll K H xs ds) (hz : xs.length ≤ sizeLine) (q : ∀ H' v, Same H H' → Dp K H' v (.list ds) → Q v H') : rLst xs H Q :=
  ⟨hz, fun p np => q _ _ (sameNew np) (.lst (.inl (.inl upd_same)) (Dp.monoAll (sameNew np) _ _ h))⟩
/-- a display, its list tracked -/
theorem rdLstH {xs : List V} (hz : xs.length ≤ sizeLine) (q : ∀ H' p, Same H H' → H p = none → H' p = some (.lst xs) → Q (.ref p) H') : rLst xs H Q :=
  ⟨hz, fun p np => q _ _ (sameNew np) np upd_same⟩
end
section
variable {X : Cx} {es : List Expr} {t : TA} {pos : Pos}
theorem pe_tupN {x1} (h : PA X es t) : PE X (.Tuple es x1 pos) (tTupN t) := pe_tup h
theorem pe_lstN (h : PA X es t) : PE X (.List es pos) (tLstN t) := pe_lst h
end
theorem small_line {n : Nat} (h : n ≤ 1000) : n ≤ sizeLine := Nat.le_of_lt (small1000 h)
theorem dpAll_len {K : PySem.W.Frag} {H : Hp} : ∀ {xs : List V} {ds : List PyData}, DpAll K H xs ds → xs.length = ds.length
  | _, _, .nil => rfl
  | _, _, .cons _ h2 => congrArg Nat.succ (dpAll_len h2)
theorem dpAll_two {K : PySem.W.Frag} {H : Hp} {xs : List V} {ds : List PyData} (h : DpAll K H xs ds) (l : ds.length = 2) : ∃ v1 v2 x y, xs = [v1, v2] ∧ ds = [x, y] ∧ Dp K H v1 x ∧ Dp K H v2 y := by
  match ds, h, l with
  | [x, y], .cons (v := v1) g1 (.cons (v := v2) g2 .nil), _ => exact ⟨v1, v2, x, y, rfl, rfl, g1, g2⟩
theorem dTup_of {K : PySem.W.Frag} {H : Hp} {v : V} {d : PyData} (h : Dp K H v d) (t : dTup d = true) : ∃ a xs ds, v = .ref a ∧ d = .tuple ds ∧ SqT K H a xs ∧ DpAll K H xs ds := by
  cases h with
  | tup h1 h2 => exact ⟨_, _, _, rfl, rfl, h1, h2⟩
  | _ => cases t
theorem dInt_of {K : PySem.W.Frag} {H : Hp} {v : V} {i : Int} (h : Dp K H v (.int i)) : v = .int i := by
  cases h
  rfl
/-- all items, as a conjunction -/
def allP {α : Type} (P : α → Prop) : List α → Prop
  | [] => True
  | x :: xs => P x ∧ allP P xs
theorem allP_get {α : Type} {P : α → Prop} : ∀ {xs : List α} {i : Nat} {x : α}, allP P xs → xs[i]? = some x → P x
  | [], _, _, _, h => by simp at h
  | y :: r, 0, x, a, h => by
    simp at h
    subst h
    exact a.1
  | y :: r, i + 1, x, a, h => allP_get (i := i) a.2 (by simpa using h)
theorem frD_int (p : Int) : frD (Rat.divInt p 1) = .tuple [.int p, .int 1] := by
  unfold frD
  rw [← num_pos (p := p) (q := 1) (by decide), ← den_pos (p := p) (q := 1) (by decide)]
  have e : Nat.gcd p.natAbs (1 : Int).natAbs = 1 := Nat.gcd_one_right _
  rw [e]
  simp
theorem fr_int {K : PySem.W.Frag} {H : Hp} {v : V} {p : Int} (h : Dp K H v (.tuple [.int p, .int 1])) : Fr K H v (Rat.divInt p 1) := by
  unfold Fr
  rw [frD_int]
  exact h
/-- the law's end, for defs that may raise (the wish of the caller: nothing is let out) -/
theorem endOfLaw {l : PySem.W.OpenLaw} {n k : Nat} {q : Program} {loose : List Str} {XP : (Str → Option Value) → Heap → Prop} {YP : World → Heap → Prop} {d : DefRec} {x : Str}
    (most : l.most = some n) (small : n ≤ sizeLine) (plain : d.params.defaults = []) (room : Room k callerA)
    (all : ∀ (w : World) (mg : Str → Option Value) (fa : Addr) (h : Heap), YP w h → h.Ns mainGlobals mg → mg d.name = some (.ref fa) → ∃ (K : PySem.W.Frag) (fd : FuncData) (sp : Sp), K.In h ∧
      (∀ (s : Shared) (u : Value), BindsTo s fd ⟨[u], []⟩ [(x, u)]) ∧ (∀ (H : Hp) (a : Addr) (ns : List Int), ns.length ≤ n → Only H → SqL K H a (ns.map V.int) → sp [.ref a] H (fun v _ => v = .bl true) E0) ∧
      ∀ base : Heap, K.In base → base.Ns mainGlobals mg → FnOk l.prog w K mg base (L2.CX l.prog w) k fa fd [x] sp) :
    PySem.W.WalkO q loose XP YP l.row.toRowW d [] (fun f vs => PySem.call f vs) := by
  refine Att.attach_call most plain fun w sA sB mg mb fa o pm cd doc a vs ns G Y h1 h2 h3 hm ha hi len hg => ?_
  obtain ⟨K, fd, sp, kin, bnd, want, ok⟩ := all w mg fa _ Y G.T.g hm
  refine law_call kin G.T.g G.T.b G.T.builtins G.T.nolimit hg ha hi (Nat.le_trans len small) room ok bnd (fun H o S => want H a ns len o S) fun H e s' => noExc
theorem shaped_fr (r : Rat) : SeqAt.shaped (frD r) = true := rfl
theorem eqv_fr (r s : Rat) : PyData.eqv (frD r) (frD s) = decide (r = s) := by
  have e : PyData.eqv (frD r) (frD s) = ((r.num == s.num) && (((r.den : Int) == (s.den : Int)) && true)) := rfl
  rw [e, Bool.and_true, Bool.eq_iff_iff, decide_eq_true_iff, Bool.and_eq_true, beq_iff_eq, beq_iff_eq]
  exact ⟨fun h => Rat.ext h.1 (by omega), fun h => by rw [h]; exact ⟨rfl, rfl⟩⟩
section
variable {K : PySem.W.Frag} {H : Hp} {Q : VK} {x y : V} {r s : Rat}
theorem rdEqFr (h1 : Fr K H x r) (h2 : Fr K H y s) (q : Q (.bl (decide (r = s))) H) : rEqA K x y H Q := .inr ⟨_, _, h1, h2, shaped_fr r, shaped_fr s, by rw [eqv_fr]; exact q⟩
theorem rdNeFr (h1 : Fr K H x r) (h2 : Fr K H y s) (q : Q (.bl (!decide (r = s))) H) : rNeA K x y H Q := .inr ⟨_, _, h1, h2, shaped_fr r, shaped_fr s, by rw [eqv_fr]; exact q⟩
end
theorem line2 : 2 ≤ sizeLine := by decide
theorem line1 : 1 ≤ sizeLine := by decide
theorem line3 : 3 ≤ sizeLine := by decide
theorem line4 : 4 ≤ sizeLine := by decide
/-- an if whose test is a Bool -/
theorem ifB {b : Bool} {A B : Prop} (h1 : b = true → A) (h2 : b = false → B) : if b = true then A else B := by
  cases b with
  | true => exact h1 rfl
  | false => exact iteF (h2 rfl)
theorem ifBF {b : Bool} {A B : Prop} (h : b = false) (q : B) : if b = true then A else B := by
  rw [h]
  exact iteF q
theorem ifNe {c : Prop} [Decidable c] {A B : Prop} (h : c) (q : B) : if (!decide c) = true then A else B := ifBF (by rw [decide_eq_true h]; rfl) q
theorem ifYes {c : Prop} [Decidable c] {A B : Prop} (h : c) (q : A) : if decide c = true then A else B := by
  rw [decide_eq_true h]
  exact iteT q
theorem ifNo {c : Prop} [Decidable c] {A B : Prop} (h : ¬c) (q : B) : if decide c = true then A else B := by
  rw [decide_eq_false h]
  exact iteF q
theorem ifP {c : Prop} [Decidable c] {A B : Prop} (h : c) (q : A) : if c then A else B := by
  rw [if_pos h]
  exact q
theorem ifN {c : Prop} [Decidable c] {A B : Prop} (h : ¬c) (q : B) : if c then A else B := by
  rw [if_neg h]
  exact q
theorem ifBT {b : Bool} {A B : Prop} (h : b = true) (q : A) : if b = true then A else B := by
  rw [h]
  exact iteT q
theorem ifD {c : Prop} [Decidable c] {A B : Prop} (h1 : c → A) (h2 : ¬c → B) : if decide c = true then A else B := by
  by_cases h : c
  · rw [decide_eq_true h]
    exact h1 h
  · rw [decide_eq_false h]
    exact iteF (h2 h)
end Ub

namespace Ub
open PySem PySem.Spec PyProof.Rows L2 UbM
/-! ### the law's deck: a list [cells, place, rest, seed] -/
/-- all stands but what is at d -/
def But (d : Addr) (H H' : Hp) : Prop := ∀ b o, b ≠ d → H b = some o → H' b = some o
/-- the deck at d, its cells at s -/
def DeckS (H : Hp) (d s : Addr) : Prop := ∃ (ns : List Int) (i r m : Int), H d = some (.lst [.ref s, .int i, .int r, .int m]) ∧ H s = some (.lst (ns.map V.int)) ∧ s ≠ d ∧ 0 ≤ i ∧ ns.length ≤ 63
/-- what a draw leaves: all but the deck's own list; the deck keeps its cells -/
structure SameX (d : Addr) (H H' : Hp) : Prop where
  but : But d H H'
  cells : ∀ s, DeckS H d s → DeckS H' d s
theorem SameX.refl {d : Addr} (H : Hp) : SameX d H H := ⟨fun _ _ _ h => h, fun _ h => h⟩
theorem SameX.trans {d : Addr} {H H1 H2 : Hp} (a : SameX d H H1) (b : SameX d H1 H2) : SameX d H H2 := ⟨fun c o n h => b.but c o n (a.but c o n h), fun s h => b.cells s (a.cells s h)⟩
theorem Same.x {d : Addr} {H H' : Hp} (a : Same H H') : SameX d H H' := ⟨fun b o _ h => a b o h, fun s ⟨ns, i, r, m, h1, h2, h3⟩ => ⟨ns, i, r, m, a _ _ h1, a _ _ h2, h3⟩⟩
theorem but_upd {d : Addr} {H : Hp} {o : HO} : But d H (upd H d o) := fun b x n h => by
  rw [upd_ne n]
  exact h
theorem sameX_deck {d s : Addr} {H : Hp} {i r m : Int} {j t k : Int} (h : H d = some (.lst [.ref s, .int j, .int t, .int k])) (hi : 0 ≤ i) : SameX d H (upd H d (.lst [.ref s, .int i, .int r, .int m])) :=
  ⟨but_upd, fun s' ⟨ns, i', r', m', h1, h2, h3, _, h5⟩ => by
    rw [h] at h1
    cases h1
    exact ⟨ns, i, r, m, upd_same, by rw [upd_ne h3]; exact h2, h3, hi, h5⟩⟩
structure Deck (H : Hp) (d : Addr) : Prop where
  ex : ∃ (s : Addr) (ns : List Int) (i r m : Int), H d = some (.lst [.ref s, .int i, .int r, .int m]) ∧ H s = some (.lst (ns.map V.int)) ∧ s ≠ d ∧ 0 ≤ i ∧ ns.length ≤ 63
theorem Deck.mono {H H' : Hp} {d : Addr} (D : Deck H d) (e : Same H H') : Deck H' d := by
  obtain ⟨s, ns, i, r, m, h1, h2, h3, h4, h5⟩ := D.ex
  exact ⟨s, ns, i, r, m, e _ _ h1, e _ _ h2, h3, h4, h5⟩
/-- no list in it -/
def noL : PyData → Bool
  | .none | .bool _ | .int _ | .str _ => true
  | .list _ | .dict _ => false
  | .tuple ds => decide (ds.length ≤ 1000) && noLs ds
where noLs : List PyData → Bool
  | [] => true
  | d :: ds => noL d && noLs ds
theorem tseqX {K : PySem.W.Frag} {H H' : Hp} {d a : Addr} {xs : List V} (e : But d H H') (hd : ∃ ys, H d = some (.lst ys)) (h : SqT K H a xs) : SqT K H' a xs := by
  obtain ⟨ys, hd⟩ := hd
  rcases h with (h | ⟨o, h⟩) | h
  · exact .inl (.inl (e _ _ (ne_of h hd (by intro z; cases z)) h))
  · exact .inl (.inr ⟨o, e _ _ (ne_of h hd (by intro z; cases z)) h⟩)
  · exact .inr h
mutual
theorem Dp.monoX {K : PySem.W.Frag} {H H' : Hp} {d : Addr} (e : But d H H') (hd : ∃ ys, H d = some (.lst ys)) : ∀ (dt : PyData) (v : V), noL dt = true → Dp K H v dt → Dp K H' v dt
  | .none, _, _, h => by cases h; exact .non
  | .bool b, _, _, h => by cases h; exact .bl b
  | .int i, _, _, h => by cases h; exact .int i
  | .str x, _, _, h => by cases h; exact .str x
  | .list ds, _, n, _ => by
    unfold noL at n
    cases n
  | .tuple ds, _, n, h => by
    cases h with
    | tup hs ha => exact .tup (tseqX e hd hs) (Dp.monoXAll e hd ds _ (by unfold noL at n; exact (Bool.and_eq_true_iff.mp n).2) ha)
  | .dict _, _, _, h => by cases h
theorem Dp.monoXAll {K : PySem.W.Frag} {H H' : Hp} {d : Addr} (e : But d H H') (hd : ∃ ys, H d = some (.lst ys)) : ∀ (ds : List PyData) (vs : List V), noL.noLs ds = true → DpAll K H vs ds → DpAll K H' vs ds
  | [], _, _, h => by cases h; exact .nil
  | dt :: ds, _, n, h => by
    unfold noL.noLs at n
    obtain ⟨n1, n2⟩ := Bool.and_eq_true_iff.mp n
    cases h with
    | cons h1 h2 => exact .cons (Dp.monoX e hd dt _ n1 h1) (Dp.monoXAll e hd ds _ n2 h2)
end
theorem Deck.lst {H : Hp} {d : Addr} (D : Deck H d) : ∃ ys, H d = some (.lst ys) := by
  obtain ⟨s, ns, i, r, m, h1, _⟩ := D.ex
  exact ⟨_, h1⟩
theorem Fr.monoX {K : PySem.W.Frag} {H H' : Hp} {d : Addr} {v : V} {r : Rat} (h : Fr K H v r) (e : SameX d H H') (D : Deck H d) : Fr K H' v r := Dp.monoX e.but D.lst _ _ rfl h
theorem Deck.cells {H : Hp} {d : Addr} (D : Deck H d) : ∃ s, DeckS H d s := by
  obtain ⟨s, ns, i, r, m, h⟩ := D.ex
  exact ⟨s, ns, i, r, m, h⟩
theorem DeckS.deck {H : Hp} {d s : Addr} (h : DeckS H d s) : Deck H d := by
  obtain ⟨ns, i, r, m, h⟩ := h
  exact ⟨s, ns, i, r, m, h⟩
/-- a list that was laid later than the deck is changed: the deck stands -/
theorem DeckS.upd {H H' : Hp} {d s a : Addr} {o : HO} (h0 : DeckS H d s) (h : DeckS H' d s) (ha : H a = none) : DeckS (upd H' a o) d s := by
  obtain ⟨_, _, _, _, g1, g2, _⟩ := h0
  obtain ⟨ns, i, r, m, h1, h2, h3⟩ := h
  exact ⟨ns, i, r, m, by rw [upd_ne (ne_of_none g1 ha)]; exact h1, by rw [upd_ne (ne_of_none g2 ha)]; exact h2, h3⟩
theorem SameX.upd {H H' : Hp} {d a : Addr} {o : HO} (h : SameX d H H') (ha : H a = none) : SameX d H (upd H' a o) := ⟨fun b x n e => by
  rw [upd_ne (ne_of_none e ha)]
  exact h.but _ _ n e, fun s hs => hs.upd (h.cells s hs) ha⟩
section
variable {K : PySem.W.Frag} {H : Hp} {Q : VK}
theorem rdSetL {p : Addr} {xs : List V} {k : Int} {j : Nat} {v : V} {Q : Hp → Prop} (h : H p = some (.lst xs)) (e : ixN xs.length k = some j) (q : Q (upd H p (.lst (xs.set j v)))) : rSetL (.ref p) (.int k) v H Q := ⟨p, xs, k, j, rfl, rfl, h, e, q⟩
theorem rdSetU {p : Addr} {xs : List V} {k : Int} {j : Nat} {v : V} {Q : Hp → Prop} (e : ixN xs.length k = some j) (q : Q (upd H p (.lst (xs.set j v)))) : rSetL (.ref p) (.int k) v (upd H p (.lst xs)) Q := ⟨p, xs, k, j, rfl, rfl, upd_same, e, by rw [upd_upd]; exact q⟩
end
theorem lt_pow {a b : Nat} (h : a ≤ b) : (2 : Nat) ^ a ≤ 2 ^ b := Nat.pow_le_pow_right (by decide) h
end Ub

namespace UbK
open PySem PySem.Spec PyProof.Rows L2 Ub UbM 
def topS (i : Nat) : Stmt := PySem.Challenge.pw_unbent_k00_fractions_made.main.body.getD i (.Pass ⟨0, 0, 0, 0⟩)
def topM (i j : Nat) : Stmt := match topS i with
  | .ClassDef _ _ _ body _ _ _ _ _ _ _ => body.getD j (.Pass ⟨0, 0, 0, 0⟩)
  | _ => .Pass ⟨0, 0, 0, 0⟩
abbrev s_is_int : Stmt := topS 5
abbrev N_is_int : List Str := ["value"]
theorem sc_is_int : FnScope N_is_int ["value"] (defScope s_is_int) := ⟨rfl, rfl, rfl, by decide +kernel, rfl, by decide +kernel, by decide +kernel⟩
abbrev s_make : Stmt := topS 7
abbrev N_make : List Str := ["p", "q", "common"]
theorem sc_make : FnScope N_make ["p", "q"] (defScope s_make) := ⟨rfl, rfl, rfl, by decide +kernel, rfl, by decide +kernel, by decide +kernel⟩
abbrev s__law_deck : Stmt := topS 9
abbrev N__law_deck : List Str := ["script"]
theorem sc__law_deck : FnScope N__law_deck ["script"] (defScope s__law_deck) := ⟨rfl, rfl, rfl, by decide +kernel, rfl, by decide +kernel, by decide +kernel⟩
abbrev s__law_draw : Stmt := topS 10
abbrev N__law_draw : List Str := ["deck", "most", "value", "cell"]
theorem sc__law_draw : FnScope N__law_draw ["deck", "most"] (defScope s__law_draw) := ⟨rfl, rfl, rfl, by decide +kernel, rfl, by decide +kernel, by decide +kernel⟩
abbrev s__law_gcd : Stmt := topS 12
abbrev N__law_gcd : List Str := ["a", "b", "k", "rest"]
theorem sc__law_gcd : FnScope N__law_gcd ["a", "b"] (defScope s__law_gcd) := ⟨rfl, rfl, rfl, by decide +kernel, rfl, by decide +kernel, by decide +kernel⟩
abbrev s__law_ratio : Stmt := topS 13
abbrev N__law_ratio : List Str := ["p", "q", "divisor"]
theorem sc__law_ratio : FnScope N__law_ratio ["p", "q"] (defScope s__law_ratio) := ⟨rfl, rfl, rfl, by decide +kernel, rfl, by decide +kernel, by decide +kernel⟩
abbrev s__law_same : Stmt := topS 11
abbrev N__law_same : List Str := ["actual", "due", "k"]
theorem sc__law_same : FnScope N__law_same ["actual", "due"] (defScope s__law_same) := ⟨rfl, rfl, rfl, by decide +kernel, rfl, by decide +kernel, by decide +kernel⟩
abbrev s_is_ratio : Stmt := topS 6
abbrev N_is_ratio : List Str := ["value", "p", "q"]
theorem sc_is_ratio : FnScope N_is_ratio ["value"] (defScope s_is_ratio) := ⟨rfl, rfl, rfl, by decide +kernel, rfl, by decide +kernel, by decide +kernel⟩
abbrev s__law_integer : Stmt := topS 14
abbrev N__law_integer : List Str := ["deck", "most", "number"]
theorem sc__law_integer : FnScope N__law_integer ["deck"] (defScope s__law_integer) := ⟨rfl, rfl, rfl, by decide +kernel, rfl, by decide +kernel, by decide +kernel⟩
abbrev s__law_refused : Stmt := topS 15
abbrev N__law_refused : List Str := ["p", "e"]
theorem sc__law_refused : FnScope N__law_refused ["p"] (defScope s__law_refused) := ⟨rfl, rfl, rfl, by decide +kernel, rfl, by decide +kernel, by decide +kernel⟩
abbrev s_law : Stmt := topS 16
abbrev N_law : List Str := ["script", "deck", "k", "p", "q", "due", "most", "bad", "value"]
theorem sc_law : FnScope N_law ["script"] (defScope s_law) := ⟨rfl, rfl, rfl, by decide +kernel, rfl, by decide +kernel, by decide +kernel⟩
/-! ### words of my own for readings -/
local macro_rules | `(tactic| walk_at "un") => `(tactic| try dsimp only [L2.start, tVar, tC, tOp, tUn, tTest, tB, tAnd, tOr, tNot, tAndV, tOrV, tNotV, tIf, tNext, tSeq, tBreak, tCont, tDrop, tRet, tRetN, tIfS, tNever, gName, gNil, gCons, gSub, tAsg, tPar, tSl, tPart, tNoPart, tNil, tCons, tCall, tCallS, tCB, tBM, tBM0, tChain, tTupN, tLstN, gTup, Cx.nox, Cx.wish, cxOf, List.map, List.replicate, List.length, List.cons_append, List.nil_append, List.set, List.getElem?_cons_zero, List.getElem?_cons_succ, Nat.reduceAdd, Nat.reduceSub, N_is_int, N_make, N__law_deck, N__law_draw, N__law_gcd, N__law_ratio, N__law_same, N_is_ratio, N__law_integer, N__law_refused, N_law])
local macro_rules | `(tactic| walk_at "dp") => `(tactic| first | assumption | exact .int _ | exact .bl _ | exact .str _ | exact .non | exact Ub.Dp.mono (by assumption) _ _ (by walk_at "dp"))
local macro_rules | `(tactic| walk_at "fr") => `(tactic| first | assumption | exact Ub.Fr.mono (by assumption) (by walk_at "fr"))
local macro_rules | `(tactic| walk_at "dps") => `(tactic| first | exact .nil | (refine' .cons ?j1 ?j2; (case j1 => walk_at "dp"); (case j2 => walk_at "dps")))
local macro_rules | `(tactic| walk_at "st") => `(tactic| first
  | (with_reducible refine ⟨_, rfl, ?_⟩)
  | (with_reducible refine rdAdd ?_)
  | (with_reducible refine rdSub ?_)
  | (with_reducible refine rdNeg ?_)
  | (with_reducible refine rdEqI ?_)
  | (with_reducible refine rdNeI ?_)
  | (with_reducible refine rdLt ?_)
  | (with_reducible refine rdGt ?_)
  | (with_reducible refine rdLe ?_)
  | (with_reducible refine rdGe ?_)
  | (with_reducible refine rdInt ?_)
  | (with_reducible refine rdIntB ?_)
  | (with_reducible refine rdAbs ?_)
  | (with_reducible refine rdGcd ?_)
  | (with_reducible refine rdEqB ?_)
  | (with_reducible refine rdEqS ?_)
  | (with_reducible refine rdNeS ?_)
  | ((with_reducible refine' ixFr0 ?k1 ?_); (case k1 => walk_at "fr"))
  | ((with_reducible refine' ixFr1 ?k1 ?_); (case k1 => walk_at "fr"))
  | ((with_reducible refine' ixP0 ?k1 ?_); (case k1 => walk_at "dp"))
  | ((with_reducible refine' ixP1 ?k1 ?_); (case k1 => walk_at "dp"))
  | ((with_reducible refine' rdIsN ?k1 ?_); (case k1 => walk_at "dp"))
  | ((with_reducible refine' rdNotN ?k1 ?_); (case k1 => walk_at "dp"))
  | ((with_reducible refine' isiInt ?k1 ?_); (case k1 => walk_at "dp"))
  | ((with_reducible refine' isiBool ?k1 ?_); (case k1 => walk_at "dp"))
  | ((with_reducible refine' isiStr ?k1 ?_); (case k1 => walk_at "dp"))
  | ((with_reducible refine' isiTup ?k1 ?_); (case k1 => walk_at "dp"))
  | ((with_reducible refine' isiLst ?k1 ?_); (case k1 => walk_at "dp"))
  | ((with_reducible refine' rdIxL ?k1 ?k2 ?_); (case k1 => first | assumption | exact .inl (.inl (by assumption)) | exact .inl (.inl upd_same)); (case k2 => exact rfl))
  | ((with_reducible refine' rdMul ?k1 ?_); (case k1 => first | exact .inl (.inr ⟨by decide, by decide⟩) | exact .inl (.inl ⟨by decide, by decide⟩) | exact mulW (by assumption) (by assumption) (by omega)))
  | ((with_reducible refine' rdLenL ?k1 ?_); (case k1 => first | assumption | exact .inl (.inl (by assumption))))
  | ((with_reducible refine' rdLenT ?k1 ?_); (case k1 => first | assumption | exact .inl (.inl (by assumption))))
  | (with_reducible refine rdMin2 ?_)
  | ((with_reducible refine' rdTupD (K := ‹PySem.W.Frag›) ?k1 ?k2 (fun _ _ _ _ => ?_)); (case k1 => walk_at "dps"); (case k2 => exact small_line (Nat.le_of_ble_eq_true rfl)))
  | (with_reducible refine ⟨_, by rfl, ?_⟩))
local macro_rules | `(tactic| walk_at "go") => `(tactic| repeat walk_at "st")
local macro_rules | `(tactic| walk_at "for") => `(tactic| try dsimp only [tFor, iRng1, iRng2, iList, iTup, tCons, tC, tNil, tVar, tOp, tCB, tUn, List.getElem?_cons_zero, List.getElem?_cons_succ])
local macro_rules | `(tactic| walk_at "ew") => `(tactic| (simp only [dInt, dBool, dStr, dTup, dLst, dNon, Bool.not_true, Bool.not_false, reduceIte, Bool.false_eq_true, Bool.true_eq_false, decide_true, decide_false, Bool.not_not, if_true, if_false, decide_eq_true_eq, true_and, and_true]))
local macro_rules | `(tactic| walk_at "ev") => `(tactic| try walk_at "ew")
local macro_rules | `(tactic| walk_at "gv") => `(tactic| repeat first | walk_at "st" | walk_at "ew")
local macro_rules | `(tactic| walk_at "it") => `(tactic| try dsimp only [iRng1, iRng2, iList, iTup, iZip, iEnum])
/-- what stands at the module's names -/
structure Tx (K : PySem.W.Frag) (mg : Str → Option Value) : Prop where
  n_ValueError : mg "ValueError" = none
  n_abs : mg "abs" = none
  n_bool : mg "bool" = none
  n_int : mg "int" = none
  n_isinstance : mg "isinstance" = none
  n_len : mg "len" = none
  n_list : mg "list" = none
  n_range : mg "range" = none
  n_str : mg "str" = none
  n_tuple : mg "tuple" = none
  g_gcd : mg "gcd" = some (.builtin "math.gcd")
  e_ZeroDenominator : ExcK K mg "ZeroDenominator"
  e_UnbentError : ExcK K mg "UnbentError"
  m_ZeroDenominator_UnbentError : PySem.W.exmOne K (.ref (He.ga K "ZeroDenominator")) (.ref (He.ga K "UnbentError")) = some true
  i_ZeroDenominator : ExcC K (He.ga K "ZeroDenominator")
  k_ZeroDenominator_ZeroDenominator : PySem.W.kitOne K (.ref (He.ga K "ZeroDenominator")) (.ref (He.ga K "ZeroDenominator")) = some true
  k_ZeroDenominator_ValueError : PySem.W.kitOne K (.ref (He.ga K "ZeroDenominator")) (.type "ValueError") = some true
section
variable {P : Program} {w : World} {K : PySem.W.Frag} {mg : Str → Option Value} {base : Heap}
/-! ### is_int -/
/-- the program's own test for an integer, of data -/
def isIntD : PyData → Bool
  | .int _ => true
  | _ => false
def sp_is_int (K : PySem.W.Frag) : Sp := fun vs H Q _ => ∃ (v : V) (d : PyData), vs = [v] ∧ Dp K H v d ∧ Q (.bl (isIntD d)) H
theorem ok_is_int {f : Addr} {fd : FuncData} (T : Tx K mg) (F : FunD K "is_int" "is_int" (defArgs s_is_int) (defBody s_is_int) (defScope s_is_int) [] [] f fd) : FnOk P w K mg base (L2.CX P w) 1 f fd ["value"] (sp_is_int K) := by
  refine F.ok sc_is_int (fun vs H Q E h => ?_) (fun cdv A outer s H vs Q E hr h => ?_)
  · obtain ⟨_, _, rfl, _⟩ := h
    rfl
  · obtain ⟨v, d, rfl, hd, q⟩ := h
    refine ⟨_, PSs.nox (pss_one (ps_ret (pe_and (pe_callB call_isi (by rfl) T.n_isinstance bb_isinstance (pa_cons (pv 0) (pa_cons (pe_bltn (v := .ty "int") (by rfl) T.n_int bb_int rfl) pa_nil))) (pe_one (pe_not (pe_callB call_isi (by rfl) T.n_isinstance bb_isinstance (pa_cons (pv 0) (pa_cons (pe_bltn (v := .ty "bool") (by rfl) T.n_bool bb_bool rfl) pa_nil)))))))), ?_⟩
    walk_at "un"
    walk_at "go"
    refine ifB (fun h1 => ?_) (fun h1 => ?_)
    · walk_at "go"
      cases d <;> first | exact q | cases h1
    · cases d <;> first | exact q | cases h1
/-! ### make -/
/-- make(p, q): the fraction p / q; for q = 0 the error (E) -/
def sp_make (K : PySem.W.Frag) : Sp := fun vs H Q E => ∃ (p q : Int) (n : Nat), vs = [.int p, .int q] ∧ q.natAbs < 2 ^ n ∧ n < 9000 ∧ (q = 0 → E (.ref (He.ga K "ZeroDenominator")) none H) ∧ (q ≠ 0 → ∀ H' v, Same H H' → Fr K H' v (Rat.divInt p q) → Q v H')
theorem gcd_le_r {p q : Int} (h : q ≠ 0) : ((Nat.gcd p.natAbs q.natAbs : Nat) : Int).natAbs ≤ q.natAbs := Nat.le_of_dvd (by omega) (Nat.gcd_dvd_right ..)
theorem ok_make {f : Addr} {fd : FuncData} (T : Tx K mg) (F : FunD K "make" "make" (defArgs s_make) (defBody s_make) (defScope s_make) [V.int 1] [] f fd) : FnOk P w K mg base (L2.CX P w) 1 f fd ["p", "q"] (sp_make K) := by
  refine F.ok sc_make (fun vs H Q E h => ?_) (fun cdv A outer s H vs Q E hr h => ?_)
  · obtain ⟨_, _, _, rfl, _⟩ := h
    rfl
  · obtain ⟨p, q, n, rfl, hn, hn9, k0, k1⟩ := h
    refine ⟨_, (pss_cons (ps_if (pt_cmpR (op_eqA hr.units) (pv 1) pe_int (nomark _)) (pss_one (ps_raise0 rfl T.e_ZeroDenominator (takes_of rfl rfl rfl rfl) (by rfl))) pss_nil) (pss_cons (ps_set (i := 2) sc_make.nd rfl (Or.inl rfl) (pe_callBfun cr_gcd (by rfl) T.g_gcd (pa_cons (pv 0) (pa_cons (pv 1) pa_nil)))) (pss_cons (ps_if (pt_cmpR op_lt (pv 1) pe_int (nomark _)) (pss_one (ps_set (i := 2) sc_make.nd rfl (Or.inl rfl) (pe_un un_neg (pv 2)))) pss_nil) (pss_one (ps_ret (pe_tupN (pa_cons (pe_op op_fdivX (pv 0) (pv 2)) (pa_cons (pe_op op_fdivX (pv 1) (pv 2)) pa_nil)))))))), ?_⟩
    walk_at "un"
    walk_at "go"
    refine ifD (fun e => k0 e) (fun e => ?_)
    have hg := gcd_pos (p := p) e
    have hl := gcd_le_r (p := p) e
    have hb : ((Nat.gcd p.natAbs q.natAbs : Nat) : Int).natAbs < 2 ^ n := Nat.lt_of_le_of_lt hl hn
    walk_at "go"
    refine ifD (fun c => ?_) (fun c => ?_)
    · have hb2 : (-((Nat.gcd p.natAbs q.natAbs : Nat) : Int)).natAbs < 2 ^ n := by
        rw [Int.natAbs_neg]
        exact hb
      walk_at "go"
      refine rdDiv (divX (by omega) hb2 hn9) ?_
      walk_at "go"
      refine rdDiv (divX (by omega) hb2 hn9) ⟨line2, fun a na => ?_⟩
      exact k1 e _ _ (sameNew na) (frNew (num_neg c) (den_neg c))
    · have c2 : 0 < q := by omega
      walk_at "go"
      refine rdDivP (by omega) hb hn9 ?_
      walk_at "go"
      refine rdDivP (by omega) hb hn9 ⟨line2, fun a na => ?_⟩
      exact k1 e _ _ (sameNew na) (frNew (num_pos c2) (den_pos c2))
/-! ### _law_deck -/
def sp__law_deck (K : PySem.W.Frag) : Sp := fun vs H Q _ => ∃ (a : Addr) (ns : List Int), vs = [.ref a] ∧ SqL K H a (ns.map V.int) ∧ ns.length ≤ 63 ∧ ∀ H' d, Same H H' → Deck H' d → Q (.ref d) H'
theorem ok__law_deck {f : Addr} {fd : FuncData} (T : Tx K mg) (F : FunD K "_law_deck" "_law_deck" (defArgs s__law_deck) (defBody s__law_deck) (defScope s__law_deck) [] [] f fd) : FnOk P w K mg base (L2.CX P w) 1 f fd ["script"] (sp__law_deck K) := by
  refine F.ok sc__law_deck (fun vs H Q E h => ?_) (fun cdv A outer s H vs Q E hr h => ?_)
  · obtain ⟨_, _, rfl, _⟩ := h
    rfl
  · obtain ⟨a, ns, rfl, hS, hl, q⟩ := h
    refine ⟨_, PSs.nox (pss_one (ps_ret (pe_lstN (pa_cons (pe_callTy cl_list (by rfl) T.n_list bb_list (pa_cons (pv 0) pa_nil)) (pa_cons pe_int (pa_cons pe_int (pa_cons pe_int pa_nil))))))), ?_⟩
    walk_at "un"
    walk_at "go"
    refine rdListL hS fun l nl => ⟨line4, fun d nd => ?_⟩
    have nld : l ≠ d := ne_of_none upd_same nd
    refine q _ _ ((sameNew nl).trans (sameNew nd)) ⟨l, ns, 0, 0, 7, upd_same, ?_, nld, by omega, hl⟩
    rw [upd_ne nld, upd_same]
/-! ### _law_draw -/
def sp__law_draw : Sp := fun vs H Q _ => ∃ (d : Addr) (m : Int) (n : Nat), vs = [.ref d, .int m] ∧ Deck H d ∧ 0 < m ∧ m.natAbs < 2 ^ n ∧ n < 9000 ∧ ∀ H' x, SameX d H H' → Deck H' d → 0 ≤ x → x < m → Q (.int x) H'
theorem ok__law_draw {f : Addr} {fd : FuncData} (T : Tx K mg) (F : FunD K "_law_draw" "_law_draw" (defArgs s__law_draw) (defBody s__law_draw) (defScope s__law_draw) [] [] f fd) : FnOk P w K mg base (L2.CX P w) 1 f fd ["deck", "most"] sp__law_draw := by
  refine F.ok sc__law_draw (fun vs H Q E h => ?_) (fun cdv A outer s H vs Q E hr h => ?_)
  · obtain ⟨_, _, _, rfl, _⟩ := h
    rfl
  · obtain ⟨d, m, n, rfl, ⟨s, ns, i, r, z, hd, hs, hsd, hi, hl⟩, hm, hn, hn9, q⟩ := h
    have b1 : (48271 : Int).natAbs < 2 ^ 20 := by decide
    refine ⟨_, PSs.nox (pss_cons (ps_if (pt_cmpR op_ge (pe_ix ix_seq (pv 0) pe_int (fun _ _ => rfl)) (pv 1) (nomark _)) (pss_cons (ps_set (i := 2) sc__law_draw.nd rfl (Or.inl rfl) (pe_op op_mod (pe_callTy cl_int (by rfl) T.n_int bb_int (pa_cons (pe_ix ix_seq (pv 0) pe_int (fun _ _ => rfl)) pa_nil)) (pv 1))) (pss_cons (ps_asg (pe_op op_fdivX (pe_ix ix_seq (pv 0) pe_int (fun _ _ => rfl)) (pv 1)) (pg_sub (pv 0) pe_int set_list)) (pss_one (ps_ret (pv 2))))) pss_nil) (pss_cons (ps_set (i := 3) sc__law_draw.nd rfl (Or.inl rfl) pe_int) (pss_consJ (ps_if (pt_cmpR op_lt (pe_ix ix_seq (pv 0) pe_int (fun _ _ => rfl)) (pe_callB cl_len (by rfl) T.n_len bb_len (pa_cons (pe_ix ix_seq (pv 0) pe_int (fun _ _ => rfl)) pa_nil)) (nomark _)) (pss_one (ps_set (i := 3) sc__law_draw.nd rfl (Or.inl rfl) (pe_ix ix_seq (pe_ix ix_seq (pv 0) pe_int (fun _ _ => rfl)) (pe_ix ix_seq (pv 0) pe_int (fun _ _ => rfl)) (fun _ _ => rfl)))) pss_nil) (pss_cons (ps_asg (pe_op op_add (pe_ix ix_seq (pv 0) pe_int (fun _ _ => rfl)) pe_int) (pg_sub (pv 0) pe_int set_list)) (pss_cons (ps_asg pe_int (pg_sub (pv 0) pe_int set_list)) (pss_cons (ps_if (pt_cmpR op_ge (pv 3) (pe_op op_pow pe_int pe_int) (nomark _)) (pss_cons (ps_asg (pe_op op_fdivX (pv 3) (pv 1)) (pg_sub (pv 0) pe_int set_list)) (pss_one (ps_ret (pe_op op_mod (pe_callTy cl_int (by rfl) T.n_int bb_int (pa_cons (pv 3) pa_nil)) (pv 1))))) pss_nil) (pss_cons (ps_asg (pe_op op_mod (pe_callTy cl_int (by rfl) T.n_int bb_int (pa_cons (pe_op op_add (pe_op op_add (pe_op op_mulG (pe_ix ix_seq (pv 0) pe_int (fun _ _ => rfl)) pe_int) (pe_op op_mulG (pv 3) pe_int)) (pe_op op_mulG (pe_ix ix_seq (pv 0) pe_int (fun _ _ => rfl)) pe_int)) pa_nil)) pe_int) (pg_sub (pv 0) pe_int set_list)) (pss_cons (ps_asg (pe_op op_mod (pe_callTy cl_int (by rfl) T.n_int bb_int (pa_cons (pe_op op_add (pe_op op_mulG (pe_ix ix_seq (pv 0) pe_int (fun _ _ => rfl)) pe_int) pe_int) pa_nil)) pe_int) (pg_sub (pv 0) pe_int set_list)) (pss_one (ps_ret (pe_op op_mod (pe_callTy cl_int (by rfl) T.n_int bb_int (pa_cons (pe_op op_fdivX (pe_ix ix_seq (pv 0) pe_int (fun _ _ => rfl)) pe_int) pa_nil)) (pv 1)))))))))))), ?_⟩
    walk_at "un"
    walk_at "go"
    refine ifD (fun h1 => ?_) (fun h1 => ?_)
    · walk_at "go"
      refine rdMod hm ?_
      walk_at "go"
      refine rdDivP hm hn hn9 ?_
      walk_at "go"
      refine rdSetL hd rfl ?_
      walk_at "go"
      exact q _ _ (sameX_deck hd hi) ⟨s, ns, i, r / m, z, upd_same, by rw [upd_ne hsd]; exact hs, hsd, hi, hl⟩ (Int.emod_nonneg _ (by omega)) (Int.emod_lt_of_pos _ hm)
    · walk_at "go"
      refine seqJ (fun σ' H' => ∃ c, σ' = [some (.ref d), some (.int m), none, some (.int c)] ∧ H' = H) (fun U hU => ?_) ?_
      · walk_at "un"
        walk_at "go"
        refine ifD (fun h2 => ?_) (fun h2 => hU _ _ ⟨0, rfl, rfl⟩)
        rw [List.length_map] at h2
        walk_at "go"
        refine rdIxL (.inl (.inl hs)) (at_of (j := i.toNat) (by omega) (by rw [List.getElem?_map, List.getElem?_eq_getElem (by omega)]; rfl)) ?_
        exact hU _ _ ⟨_, rfl, rfl⟩
      · rintro σ' H' ⟨c, rfl, rfl⟩
        have dk : ∀ i' r' z', 0 ≤ i' → Deck (upd H' d (.lst [.ref s, .int i', .int r', .int z'])) d := fun i' r' z' h => ⟨s, ns, i', r', z', upd_same, by rw [upd_ne hsd]; exact hs, hsd, h, hl⟩
        walk_at "un"
        walk_at "go"
        refine rdSetL hd rfl ?_
        walk_at "go"
        refine rdSetU rfl ?_
        walk_at "go"
        refine rdPow ⟨by decide, by decide, by decide⟩ ?_
        walk_at "go"
        refine ifD (fun h2 => ?_) (fun h2 => ?_)
        · walk_at "go"
          refine rdDivP hm hn hn9 ?_
          walk_at "go"
          refine rdSetU rfl ?_
          walk_at "go"
          refine rdMod hm ?_
          exact q _ _ (sameX_deck hd (by omega)) (dk _ _ _ (by omega)) (Int.emod_nonneg _ (by omega)) (Int.emod_lt_of_pos _ hm)
        · walk_at "go"
          refine rdMod (by decide) ?_
          walk_at "go"
          refine rdSetU rfl ?_
          walk_at "go"
          refine rdMod (by decide) ?_
          walk_at "go"
          refine rdSetU rfl ?_
          walk_at "go"
          refine rdDivP (b := 10) (by decide) (by decide) (by decide) ?_
          walk_at "go"
          refine rdMod hm ?_
          exact q _ _ (sameX_deck hd (by omega)) (dk _ _ _ (by omega)) (Int.emod_nonneg _ (by omega)) (Int.emod_lt_of_pos _ hm)
/-! ### _law_gcd -/
def sp__law_gcd : Sp := fun vs H Q _ => ∃ a b e : Nat, vs = [.int (a : Int), .int (b : Int)] ∧ b < 2 ^ e ∧ 2 * e + 1 ≤ 5000 ∧ Q (.int ((Nat.gcd a b : Nat) : Int)) H
theorem ok__law_gcd {f : Addr} {fd : FuncData} (T : Tx K mg) (F : FunD K "_law_gcd" "_law_gcd" (defArgs s__law_gcd) (defBody s__law_gcd) (defScope s__law_gcd) [] [] f fd) : FnOk P w K mg base (L2.CX P w) 1 f fd ["a", "b"] sp__law_gcd := by
  refine F.ok sc__law_gcd (fun vs H Q E h => ?_) (fun cdv A outer s H vs Q E hr h => ?_)
  · obtain ⟨_, _, _, rfl, _⟩ := h
    rfl
  · obtain ⟨a, b, e, rfl, hb, he, q⟩ := h
    refine ⟨_, PSs.nox (pss_cons (ps_for PassesOwn.never rfl (pi_range1 (by rfl) T.n_range (pa_cons pe_int pa_nil)) (pg_name (i := 2) sc__law_gcd.nd rfl (Or.inl rfl)) (pss_cons (ps_if (pt_cmpR (op_eqA hr.units) (pv 1) pe_int (nomark _)) (pss_one (ps_ret (pv 0))) pss_nil) (pss_cons (ps_set (i := 3) sc__law_gcd.nd rfl (Or.inl rfl) (pe_op op_mod (pe_callTy cl_int (by rfl) T.n_int bb_int (pa_cons (pv 0) pa_nil)) (pv 1))) (pss_cons (ps_set (i := 0) sc__law_gcd.nd rfl (Or.inl rfl) (pv 1)) (pss_one (ps_set (i := 1) sc__law_gcd.nd rfl (Or.inl rfl) (pv 3))))))) (pss_one (ps_ret (pv 0)))), ?_⟩
    walk_at "un"
    walk_at "for"
    refine ⟨_, rfl, by decide, by decide, ?_⟩
    refine forRange (n := 5000) (fun i σ' H' => ∃ (x y : Nat) (o1 o2 : Option V), σ' = [some (.int (x : Int)), some (.int (y : Int)), o1, o2] ∧ Nat.gcd x y = Nat.gcd a b ∧ Enough (5000 - i) x y ∧ H' = H) ⟨a, b, none, none, rfl, rfl, enough_of hb he, rfl⟩ ?_ ?_
    · rintro i σ' H' hi ⟨x, y, o1, o2, rfl, hg, hn, rfl⟩
      walk_at "un"
      walk_at "go"
      refine ifD (fun c => ?_) (fun c => ?_)
      · walk_at "go"
        have : y = 0 := by omega
        subst this
        rw [Nat.gcd_zero_right] at hg
        rw [hg]
        exact q
      · walk_at "go"
        refine rdMod (by omega) ?_
        walk_at "go"
        refine ⟨y, x % y, _, _, by rw [Int.natCast_emod], ?_, ?_, rfl⟩
        · rw [← hg, Nat.gcd_comm x y, Nat.gcd_rec y x, Nat.gcd_comm]
        · have h1 := hn.step (by omega)
          rw [show 5000 - i - 1 = 5000 - (i + 1) by omega] at h1
          exact h1
    · rintro σ' H' ⟨x, y, o1, o2, rfl, hg, hn, rfl⟩
      have := hn.pos
      omega
/-! ### _law_ratio -/
/-- the law's own fraction p / q, q not 0 -/
def sp__law_ratio (K : PySem.W.Frag) : Sp := fun vs H Q E => ∃ (p q : Int) (n : Nat), vs = [.int p, .int q] ∧ q.natAbs < 2 ^ n ∧ n < 2400 ∧ q ≠ 0 ∧ ∀ H' v, Same H H' → Fr K H' v (Rat.divInt p q) → Q v H'
theorem gcd_le_r' {p q : Int} (h : q ≠ 0) : ((Nat.gcd p.natAbs q.natAbs : Nat) : Int).natAbs ≤ q.natAbs := Nat.le_of_dvd (by omega) (Nat.gcd_dvd_right ..)
theorem ok__law_ratio {f : Addr} {fd : FuncData} (T : Tx K mg) (F : FunD K "_law_ratio" "_law_ratio" (defArgs s__law_ratio) (defBody s__law_ratio) (defScope s__law_ratio) [] [] f fd) (C__law_gcd : Cal P w K mg base "_law_gcd" 1 ["a", "b"] [] (sp__law_gcd)) : FnOk P w K mg base (L2.CX P w) 2 f fd ["p", "q"] (sp__law_ratio K) := by
  refine F.ok sc__law_ratio (fun vs H Q E h => ?_) (fun cdv A outer s H vs Q E hr h => ?_)
  · obtain ⟨_, _, _, rfl, _⟩ := h
    rfl
  · obtain ⟨p, q, n, rfl, hn, hn9, e, k1⟩ := h
    have hg := gcd_pos (p := p) e
    have hl := gcd_le_r' (p := p) e
    have hb : ((Nat.gcd p.natAbs q.natAbs : Nat) : Int).natAbs < 2 ^ n := Nat.lt_of_le_of_lt hl hn
    refine ⟨_, PSs.nox (pss_cons (ps_set (i := 2) sc__law_ratio.nd rfl (Or.inl rfl) (pe_callC C__law_gcd hr (by decide) (by rfl) (pa_cons (pe_callB cl_abs (by rfl) T.n_abs bb_abs (pa_cons (pv 0) pa_nil)) (pa_cons (pe_callB cl_abs (by rfl) T.n_abs bb_abs (pa_cons (pv 1) pa_nil)) pa_nil)))) (pss_cons (ps_if (pt_cmpR op_lt (pv 1) pe_int (nomark _)) (pss_one (ps_set (i := 2) sc__law_ratio.nd rfl (Or.inl rfl) (pe_un un_neg (pv 2)))) pss_nil) (pss_one (ps_ret (pe_tupN (pa_cons (pe_op op_fdivX (pv 0) (pv 2)) (pa_cons (pe_op op_fdivX (pv 1) (pv 2)) pa_nil))))))), ?_⟩
    walk_at "un"
    walk_at "go"
    refine ⟨p.natAbs, q.natAbs, n, rfl, hn, by omega, ?_⟩
    walk_at "go"
    refine ifD (fun c => ?_) (fun c => ?_)
    · have hb2 : (-((Nat.gcd p.natAbs q.natAbs : Nat) : Int)).natAbs < 2 ^ n := by
        rw [Int.natAbs_neg]
        exact hb
      walk_at "go"
      refine rdDiv (divX (by omega) hb2 (by omega)) ?_
      walk_at "go"
      refine rdDiv (divX (by omega) hb2 (by omega)) ⟨line2, fun a na => ?_⟩
      exact k1 _ _ (sameNew na) (frNew (num_neg c) (den_neg c))
    · have c2 : 0 < q := by omega
      walk_at "go"
      refine rdDivP (by omega) hb (by omega) ?_
      walk_at "go"
      refine rdDivP (by omega) hb (by omega) ⟨line2, fun a na => ?_⟩
      exact k1 _ _ (sameNew na) (frNew (num_pos c2) (den_pos c2))
/-! ### _law_same -/
/-- two readings of one datum without lists, less than k deep -/
def sp__law_same (K : PySem.W.Frag) (k : Nat) : Sp := fun vs H Q _ => ∃ (v u : V) (d : PyData), vs = [v, u] ∧ Dp K H v d ∧ Dp K H u d ∧ d.depth < k ∧ noL d = true ∧ Q (.bl true) H
theorem dpAll_get {K : PySem.W.Frag} {H : Hp} : ∀ {xs : List V} {ds : List PyData} {i : Nat} {d : PyData}, DpAll K H xs ds → ds[i]? = some d → ∃ v, xs[i]? = some v ∧ Dp K H v d
  | _, _, _, _, .nil, h => by simp at h
  | _, _, 0, _, .cons h1 _, h => by
    simp at h
    subst h
    exact ⟨_, rfl, h1⟩
  | _, _, i + 1, d, .cons _ h2, h => by
    obtain ⟨v, e, q⟩ := dpAll_get (i := i) (d := d) h2 (by simpa using h)
    exact ⟨v, by simpa using e, q⟩
theorem depth_get : ∀ {ds : List PyData} {i : Nat} {d : PyData}, ds[i]? = some d → d.depth ≤ PyData.depthAll ds
  | [], _, _, h => by simp at h
  | x :: r, 0, d, h => by
    simp at h
    subst h
    exact Nat.le_max_left ..
  | x :: r, i + 1, d, h => Nat.le_trans (depth_get (i := i) (d := d) (by simpa using h)) (Nat.le_max_right ..)
theorem noL_get : ∀ {ds : List PyData} {i : Nat} {d : PyData}, noL.noLs ds = true → ds[i]? = some d → noL d = true
  | [], _, _, _, h => by simp at h
  | x :: r, 0, d, n, h => by
    simp at h
    subst h
    unfold noL.noLs at n
    exact (Bool.and_eq_true_iff.mp n).1
  | x :: r, i + 1, d, n, h => by
    unfold noL.noLs at n
    exact noL_get (i := i) (d := d) (Bool.and_eq_true_iff.mp n).2 (by simpa using h)
theorem ok__law_same {f : Addr} {fd : FuncData} (T : Tx K mg) (F : FunD K "_law_same" "_law_same" (defArgs s__law_same) (defBody s__law_same) (defScope s__law_same) [] [] f fd) (m_self : mg "_law_same" = some (.ref f)) : ∀ k : Nat, FnOk P w K mg base (L2.CX P w) k f fd ["actual", "due"] (sp__law_same K k)
  | 0 => ⟨fun vs H Q E h => by obtain ⟨_, _, _, _, _, _, h, _⟩ := h; omega, fun _ _ _ _ _ _ _ _ _ _ _ _ _ h => by obtain ⟨_, _, _, _, _, _, h, _⟩ := h; omega⟩
  | k + 1 => by
    have C__law_same : Cal P w K mg base "_law_same" k ["actual", "due"] [] (sp__law_same K k) := ⟨_, _, [], ok__law_same T F m_self k, m_self, F.kp, .nil, F.bindsN fun _ _ _ _ _ _ us hl => match us, hl with | [_, _], _ => rfl⟩
    refine F.ok sc__law_same (fun vs H Q E h => ?_) (fun cdv A outer s H vs Q E hr h => ?_)
    · obtain ⟨_, _, _, rfl, _⟩ := h
      rfl
    · obtain ⟨v, u, d, rfl, hv, hu, hk, hn, q⟩ := h
      refine ⟨_, PSs.nox (pss_cons (ps_if (pt_val (pe_callB call_isi (by rfl) T.n_isinstance bb_isinstance (pa_cons (pv 1) (pa_cons (pe_bltn (v := .ty "tuple") (by rfl) T.n_tuple bb_tuple rfl) pa_nil)))) (pss_cons (ps_if ((pw_or (pt_not (pt_val (pe_callB call_isi (by rfl) T.n_isinstance bb_isinstance (pa_cons (pv 0) (pa_cons (pe_bltn (v := .ty "tuple") (by rfl) T.n_tuple bb_tuple rfl) pa_nil))))) (pw_or1 (pt_cmpR (op_neA hr.units) (pe_callB cl_len (by rfl) T.n_len bb_len (pa_cons (pv 0) pa_nil)) (pe_callB cl_len (by rfl) T.n_len bb_len (pa_cons (pv 1) pa_nil)) (nomark _))))).pt (pss_one (ps_ret pe_bl)) pss_nil) (pss_cons (ps_for PassesOwn.never rfl (pi_range1 (by rfl) T.n_range (pa_cons (pe_callB cl_len (by rfl) T.n_len bb_len (pa_cons (pv 1) pa_nil)) pa_nil)) (pg_name (i := 2) sc__law_same.nd rfl (Or.inl rfl)) (pss_one (ps_if (pt_not (pt_val (pe_callC C__law_same hr (Nat.le_refl _) (by rfl) (pa_cons (pe_ix ix_seq (pv 0) (pv 2) (fun _ _ => rfl)) (pa_cons (pe_ix ix_seq (pv 1) (pv 2) (fun _ _ => rfl)) pa_nil))))) (pss_one (ps_ret pe_bl)) pss_nil))) (pss_one (ps_ret pe_bl)))) pss_nil) (pss_cons (ps_if ((pw_or (pt_val (pe_callB call_isi (by rfl) T.n_isinstance bb_isinstance (pa_cons (pv 1) (pa_cons (pe_bltn (v := .ty "bool") (by rfl) T.n_bool bb_bool rfl) pa_nil)))) (pw_or1 (pt_val (pe_callB call_isi (by rfl) T.n_isinstance bb_isinstance (pa_cons (pv 0) (pa_cons (pe_bltn (v := .ty "bool") (by rfl) T.n_bool bb_bool rfl) pa_nil))))))).pt (pss_one (ps_ret (pe_and (pe_callB call_isi (by rfl) T.n_isinstance bb_isinstance (pa_cons (pv 1) (pa_cons (pe_bltn (v := .ty "bool") (by rfl) T.n_bool bb_bool rfl) pa_nil))) (pe_and (pe_callB call_isi (by rfl) T.n_isinstance bb_isinstance (pa_cons (pv 0) (pa_cons (pe_bltn (v := .ty "bool") (by rfl) T.n_bool bb_bool rfl) pa_nil))) (pe_one (pe_cmpR (op_eqA hr.units) (pv 1) (pv 0) (nomark _))))))) pss_nil) (pss_cons (ps_if (pt_val (pe_callB call_isi (by rfl) T.n_isinstance bb_isinstance (pa_cons (pv 1) (pa_cons (pe_bltn (v := .ty "int") (by rfl) T.n_int bb_int rfl) pa_nil)))) (pss_one (ps_ret (pe_and (pe_callB call_isi (by rfl) T.n_isinstance bb_isinstance (pa_cons (pv 0) (pa_cons (pe_bltn (v := .ty "int") (by rfl) T.n_int bb_int rfl) pa_nil))) (pe_one (pe_cmpR (op_eqA hr.units) (pv 0) (pv 1) (nomark _)))))) pss_nil) (pss_cons (ps_if (pt_val (pe_callB call_isi (by rfl) T.n_isinstance bb_isinstance (pa_cons (pv 1) (pa_cons (pe_bltn (v := .ty "str") (by rfl) T.n_str bb_str rfl) pa_nil)))) (pss_one (ps_ret (pe_and (pe_callB call_isi (by rfl) T.n_isinstance bb_isinstance (pa_cons (pv 0) (pa_cons (pe_bltn (v := .ty "str") (by rfl) T.n_str bb_str rfl) pa_nil))) (pe_one (pe_cmpR (op_eqA hr.units) (pv 0) (pv 1) (nomark _)))))) pss_nil) (pss_one (ps_ret (pe_and (pe_cmpR op_isNo (pv 1) pe_non (nomark _)) (pe_one (pe_cmpR op_isNo (pv 0) pe_non (nomark _)))))))))), ?_⟩
      walk_at "un"
      cases hv with
      | non =>
        cases hu
        have h0 : Dp K H .non .none := .non
        walk_at "gv"
        exact q
      | bl b =>
        cases hu
        have h0 : Dp K H (.bl b) (.bool b) := .bl b
        walk_at "gv"
        exact q
      | int i =>
        cases hu
        have h0 : Dp K H (.int i) (.int i) := .int i
        walk_at "gv"
        exact q
      | str x =>
        cases hu
        have h0 : Dp K H (.str x) (.str x) := .str x
        walk_at "gv"
        exact q
      | lst h1 h2 => cases hn
      | tup h1 h2 =>
        cases hu with
        | tup h3 h4 =>
        rename_i a1 xs ds a2 ys
        have h0 : Dp K H (.ref a1) (.tuple ds) := .tup h1 h2
        have h0' : Dp K H (.ref a2) (.tuple ds) := .tup h3 h4
        have l1 := dpAll_len h2
        have l2 := dpAll_len h4
        walk_at "gv"
        rw [l1, l2]
        walk_at "ev"
        unfold noL at hn
        obtain ⟨hn1, hn2⟩ := Bool.and_eq_true_iff.mp hn
        have hn1 := of_decide_eq_true hn1
        walk_at "for"
        walk_at "go"
        refine ⟨by omega, by omega, ?_⟩
        rw [l2]
        refine forRange (n := ds.length) (fun i σ' H' => ∃ o, σ' = [some (.ref a1), some (.ref a2), o] ∧ H' = H) ⟨none, rfl, rfl⟩ ?_ ?_
        · rintro i σ' H' hi ⟨o, rfl, rfl⟩
          obtain ⟨v1, e1, q1⟩ := dpAll_get h2 (List.getElem?_eq_getElem hi)
          obtain ⟨v2, e2, q2⟩ := dpAll_get h4 (List.getElem?_eq_getElem hi)
          have dd := depth_get (List.getElem?_eq_getElem hi)
          have hk' : PyData.depthAll ds + 1 < k + 1 := hk
          walk_at "un"
          walk_at "go"
          refine rdIxT h1 (at_of (j := i) (by omega) e1) ?_
          walk_at "go"
          refine rdIxT h3 (at_of (j := i) (by omega) e2) ?_
          refine ⟨v1, v2, _, rfl, q1, q2, by omega, noL_get hn2 (List.getElem?_eq_getElem hi), ?_⟩
          walk_at "gv"
          exact ⟨_, rfl⟩
        · rintro σ' H' ⟨o, rfl, rfl⟩
          exact q
/-! ### is_ratio -/
def isRatD : PyData → Bool
  | .tuple [.int p, .int q] => decide (1 ≤ q) && decide (Nat.gcd p.natAbs q.natAbs = 1)
  | _ => false
def sp_is_ratio (K : PySem.W.Frag) : Sp := fun vs H Q _ => ∃ (v : V) (d : PyData), vs = [v] ∧ Dp K H v d ∧ Q (.bl (isRatD d)) H
theorem isRatD_two {x y : PyData} (h : isIntD x = false ∨ isIntD y = false) : isRatD (.tuple [x, y]) = false := by
  cases x <;> cases y <;> first | rfl | (rcases h with h | h <;> cases h)
theorem isRatD_len {ds : List PyData} (h : ds.length ≠ 2) : isRatD (.tuple ds) = false := by
  match ds with
  | [] => rfl
  | [_] => cases ‹PyData› <;> rfl
  | [_, _] => exact absurd rfl h
  | _ :: _ :: _ :: _ => 
    unfold isRatD
    split
    · rename_i e
      cases e
    · rfl
theorem isInt_of {x : PyData} (h : isIntD x = true) : ∃ p, x = .int p := by
  cases x <;> first | exact ⟨_, rfl⟩ | cases h
theorem ok_is_ratio {f : Addr} {fd : FuncData} (T : Tx K mg) (F : FunD K "is_ratio" "is_ratio" (defArgs s_is_ratio) (defBody s_is_ratio) (defScope s_is_ratio) [] [] f fd) (C_is_int : Cal P w K mg base "is_int" 1 ["value"] [] (sp_is_int K)) : FnOk P w K mg base (L2.CX P w) 2 f fd ["value"] (sp_is_ratio K) := by
  refine F.ok sc_is_ratio (fun vs H Q E h => ?_) (fun cdv A outer s H vs Q E hr h => ?_)
  · obtain ⟨_, _, rfl, _⟩ := h
    rfl
  · obtain ⟨v, d, rfl, hd, q⟩ := h
    refine ⟨_, PSs.nox (pss_cons (ps_if ((pw_or (pt_not (pt_val (pe_callB call_isi (by rfl) T.n_isinstance bb_isinstance (pa_cons (pv 0) (pa_cons (pe_bltn (v := .ty "tuple") (by rfl) T.n_tuple bb_tuple rfl) pa_nil))))) (pw_or1 (pt_cmpR (op_neA hr.units) (pe_callB cl_len (by rfl) T.n_len bb_len (pa_cons (pv 0) pa_nil)) pe_int (nomark _))))).pt (pss_one (ps_ret pe_bl)) pss_nil) (pss_cons (ps_asg (pv 0) (pg_tup rfl (pgs_cons (pg_name (i := 1) sc_is_ratio.nd rfl (Or.inl rfl)) (pgs_cons (pg_name (i := 2) sc_is_ratio.nd rfl (Or.inl rfl)) pgs_nil)))) (pss_one (ps_ret (pe_and (pe_callC C_is_int hr (by decide) (by rfl) (pa_cons (pv 1) pa_nil)) (pe_and (pe_callC C_is_int hr (by decide) (by rfl) (pa_cons (pv 2) pa_nil)) (pe_and (pe_cmpR op_ge (pv 2) pe_int (nomark _)) (pe_one (pe_cmpR (op_eqA hr.units) (pe_callBfun cr_gcd (by rfl) T.g_gcd (pa_cons (pv 1) (pa_cons (pv 2) pa_nil))) pe_int (nomark _)))))))))), ?_⟩
    walk_at "un"
    walk_at "go"
    refine ifB (fun h1 => ?_) (fun h1 => ?_)
    · have e : isRatD d = false := by
        cases d <;> first | rfl | cases h1
      rw [e] at q
      walk_at "gv"
      exact q
    · have h1' : dTup d = true := by
        cases q' : dTup d
        · rw [q'] at h1
          exact absurd h1 (by decide)
        · rfl
      obtain ⟨a, xs, ds, rfl, rfl, h2, h3⟩ := dTup_of hd h1'
      have l := dpAll_len h3
      walk_at "go"
      by_cases c : ds.length = 2
      · obtain ⟨v1, v2, x, y, rfl, rfl, g1, g2⟩ := dpAll_two h3 c
        refine ifBF rfl ?_
        walk_at "go"
        refine ⟨a, _, rfl, h2, rfl, _, _, rfl, _, _, rfl, rfl, ?_⟩
        walk_at "un"
        walk_at "go"
        refine ⟨_, _, rfl, g1, ?_⟩
        walk_at "go"
        refine ifB (fun i1 => ?_) (fun i1 => ?_)
        · walk_at "go"
          refine ⟨_, _, rfl, g2, ?_⟩
          walk_at "go"
          refine ifB (fun i2 => ?_) (fun i2 => ?_)
          · obtain ⟨p, rfl⟩ := isInt_of i1
            obtain ⟨p2, rfl⟩ := isInt_of i2
            obtain rfl := dInt_of g1
            obtain rfl := dInt_of g2
            walk_at "go"
            have e : isRatD (.tuple [.int p, .int p2]) = (decide (1 ≤ p2) && decide (Nat.gcd p.natAbs p2.natAbs = 1)) := rfl
            rw [e] at q
            refine ifB (fun i3 => ?_) (fun i3 => ?_)
            · walk_at "go"
              rw [i3, Bool.true_and] at q
              have e2 : decide (((Nat.gcd p.natAbs p2.natAbs : Nat) : Int) = 1) = decide (Nat.gcd p.natAbs p2.natAbs = 1) := by
                rw [Bool.eq_iff_iff, decide_eq_true_iff, decide_eq_true_iff]
                omega
              rw [e2]
              exact q
            · rw [i3, Bool.false_and] at q
              exact q
          · rw [isRatD_two (.inr i2)] at q
            exact q
        · rw [isRatD_two (.inl i1)] at q
          exact q
      · rw [isRatD_len c] at q
        have c' : ¬ (xs.length : Int) = 2 := by omega
        exact ifBT (by rw [decide_eq_false c']; rfl) q
/-! ### _law_integer -/
def sp__law_integer : Sp := fun vs H Q _ => ∃ (d : Addr), vs = [.ref d] ∧ Deck H d ∧ ∀ H' x, SameX d H H' → Deck H' d → x.natAbs < 2 ^ 200 → Q (.int x) H'
theorem ok__law_integer {f : Addr} {fd : FuncData} (T : Tx K mg) (F : FunD K "_law_integer" "_law_integer" (defArgs s__law_integer) (defBody s__law_integer) (defScope s__law_integer) [] [] f fd) (C__law_draw : Cal P w K mg base "_law_draw" 1 ["deck", "most"] [] (sp__law_draw)) : FnOk P w K mg base (L2.CX P w) 2 f fd ["deck"] sp__law_integer := by
  refine F.ok sc__law_integer (fun vs H Q E h => ?_) (fun cdv A outer s H vs Q E hr h => ?_)
  · obtain ⟨_, rfl, _⟩ := h
    rfl
  · obtain ⟨d, rfl, D, q⟩ := h
    refine ⟨_, PSs.nox (pss_cons (ps_set (i := 1) sc__law_integer.nd rfl (Or.inl rfl) (pe_ix ix_seq (pe_lstN (pa_cons pe_int (pa_cons pe_int (pa_cons (pe_op op_pow pe_int pe_int) (pa_cons (pe_op op_pow pe_int pe_int) pa_nil))))) (pe_callC C__law_draw hr (by decide) (by rfl) (pa_cons (pv 0) (pa_cons pe_int pa_nil))) (fun _ _ => rfl))) (pss_cons (ps_set (i := 2) sc__law_integer.nd rfl (Or.inl rfl) (pe_callC C__law_draw hr (by decide) (by rfl) (pa_cons (pv 0) (pa_cons (pv 1) pa_nil)))) (pss_cons (ps_if (pt_cmpR (op_eqA hr.units) (pe_callC C__law_draw hr (by decide) (by rfl) (pa_cons (pv 0) (pa_cons pe_int pa_nil))) pe_int (nomark _)) (pss_one (ps_ret (pe_un un_neg (pv 2)))) pss_nil) (pss_one (ps_ret (pv 2)))))), ?_⟩
    walk_at "un"
    walk_at "go"
    refine rdPow ⟨by decide, by decide, by decide⟩ ?_
    refine rdPow ⟨by decide, by decide, by decide⟩ ?_
    refine rdLstH line4 fun H1 l s1 nl hl => ?_
    walk_at "go"
    refine ⟨d, 4, 3, rfl, D.mono s1, by decide, by decide, by decide, fun H2 x s2 D2 x0 x4 => ?_⟩
    have hld : l ≠ d := by
      obtain ⟨ys, hd⟩ := D.lst
      exact (ne_of_none hd nl).symm
    have hl2 := s2.but _ _ hld hl
    obtain ⟨m, hm0, hmb, hm⟩ : ∃ m : Int, 0 < m ∧ m.natAbs < 2 ^ 200 ∧ atI [V.int 7, V.int 40, V.int (10 ^ Int.toNat 12), V.int (10 ^ Int.toNat 60)] x = some (.int m) := by
      obtain rfl | rfl | rfl | rfl : x = 0 ∨ x = 1 ∨ x = 2 ∨ x = 3 := by omega
      · exact ⟨7, by decide, by decide, rfl⟩
      · exact ⟨40, by decide, by decide, rfl⟩
      · exact ⟨10 ^ 12, by decide, by decide, rfl⟩
      · exact ⟨10 ^ 60, by decide, by decide, rfl⟩
    refine rdIxL (.inl (.inl hl2)) hm ?_
    walk_at "go"
    refine ⟨d, m, 200, rfl, D2, hm0, hmb, by decide, fun H3 y s3 D3 y0 ym => ?_⟩
    walk_at "go"
    refine ⟨d, 2, 2, rfl, D3, by decide, by decide, by decide, fun H4 z s4 D4 z0 z2 => ?_⟩
    walk_at "go"
    have ss : SameX d H H4 := (((Same.x s1).trans s2).trans s3).trans s4
    refine ifD (fun c => ?_) (fun c => ?_)
    · walk_at "go"
      exact q _ _ ss D4 (by omega)
    · walk_at "go"
      exact q _ _ ss D4 (by omega)
/-! ### _law_refused -/
def sp__law_refused : Sp := fun vs H Q _ => ∃ (p : Int), vs = [.int p] ∧ Q (.bl true) H
theorem ok__law_refused {f : Addr} {fd : FuncData} (T : Tx K mg) (F : FunD K "_law_refused" "_law_refused" (defArgs s__law_refused) (defBody s__law_refused) (defScope s__law_refused) [] [] f fd) (C_make : Cal P w K mg base "make" 1 ["p", "q"] [] (sp_make K)) : FnOk P w K mg base (L2.CX P w) 2 f fd ["p"] sp__law_refused := by
  refine F.ok sc__law_refused (fun vs H Q E h => ?_) (fun cdv A outer s H vs Q E hr h => ?_)
  · obtain ⟨_, rfl, _⟩ := h
    rfl
  · obtain ⟨p, rfl, q⟩ := h
    refine ⟨_, PSs.nox (pss_cons (ps_try_as (i := 1) rfl rfl sc__law_refused.nd rfl rfl ⟨rfl, by decide, .inl T.e_UnbentError.gC⟩ takes0 (fun W pn xe tk _ => (pss_one (ps_expr (by exact (pe_callCS C_make hr (by decide) (by rfl) tk (by exact (pa_cons (pv 0) (pa_cons pe_int pa_nil)))))))) (fun a oe cls d pn hz hf => (pss_one (ps_ret (pe_and (by exact (pe_callB (call_isEx T.i_ZeroDenominator hz hf) (by rfl) T.n_isinstance bb_isinstance (by exact (pa_cons (pv 1) (pa_cons (pe_glob (v := .ref (He.ga K "ZeroDenominator")) (by rfl) T.e_ZeroDenominator.gC rfl) pa_nil))))) (pe_one (by exact (pe_callB (call_isEx T.i_ZeroDenominator hz hf) (by rfl) T.n_isinstance bb_isinstance (by exact (pa_cons (pv 1) (pa_cons (pe_bltn (v := .ty "ValueError") (by rfl) T.n_ValueError bb_ValueError rfl) pa_nil))))))))))) (pss_one (ps_ret pe_bl))), ?_⟩
    walk_at "un"
    walk_at "go"
    refine ⟨p, 0, 1, rfl, by decide, by decide, fun _ => ?_, fun h => absurd rfl h⟩
    refine ⟨true, T.m_ZeroDenominator_UnbentError, fun _ a na => ?_, fun q => nomatch q⟩
    walk_at "un"
    walk_at "go"
    refine rdIsEx (fun u r => r) T.k_ZeroDenominator_ZeroDenominator ?_
    walk_at "gv"
    refine rdIsEx (fun u r => r) T.k_ZeroDenominator_ValueError ?_
    exact q
/-! ### law -/
def sp_law (K : PySem.W.Frag) : Sp := fun vs H Q _ => ∃ (a : Addr) (ns : List Int), vs = [.ref a] ∧ SqL K H a (ns.map V.int) ∧ ns.length ≤ 63 ∧ ∀ H', Q (.bl true) H'
theorem isRatD_fr (r : Rat) : isRatD (frD r) = true := by
  show (decide (1 ≤ (r.den : Int)) && decide (Nat.gcd r.num.natAbs (r.den : Int).natAbs = 1)) = true
  have h1 := r.den_nz
  have h2 : Nat.gcd r.num.natAbs (r.den : Int).natAbs = 1 := r.reduced
  rw [decide_eq_true h2, decide_eq_true (show 1 ≤ (r.den : Int) by omega)]
  rfl
theorem bad_den {p q : Int} (h : q < 1) : isRatD (.tuple [.int p, .int q]) = false := by
  show (decide (1 ≤ q) && _) = false
  rw [decide_eq_false (show ¬ 1 ≤ q by omega)]
  rfl
theorem bad_gcd {p q : Int} (h : Nat.gcd p.natAbs q.natAbs ≠ 1) : isRatD (.tuple [.int p, .int q]) = false := by
  show (_ && decide (Nat.gcd p.natAbs q.natAbs = 1)) = false
  rw [decide_eq_false h, Bool.and_false]
theorem bad_mul {p q m : Int} (h : 2 ≤ m) : isRatD (.tuple [.int (p * m), .int (q * m)]) = false := bad_gcd (by
  rw [Int.natAbs_mul, Int.natAbs_mul, Nat.gcd_mul_right]
  intro e
  have := Nat.eq_one_of_mul_eq_one_left e
  omega)
theorem bad_zero {m : Int} (h : 2 ≤ m) : isRatD (.tuple [.int 0, .int (1 + m)]) = false := bad_gcd (by
  show Nat.gcd 0 _ ≠ 1
  rw [Nat.gcd_zero_left]
  omega)
/-- what the loop over the wrong values wants of each -/
def Bad (K : PySem.W.Frag) (H : Hp) (x : V) : Prop := ∃ d, Dp K H x d ∧ isRatD d = false
theorem ok_law {f : Addr} {fd : FuncData} (T : Tx K mg) (F : FunD K "law" "law" (defArgs s_law) (defBody s_law) (defScope s_law) [] [] f fd) (C__law_deck : Cal P w K mg base "_law_deck" 1 ["script"] [] (sp__law_deck K)) (C__law_draw : Cal P w K mg base "_law_draw" 1 ["deck", "most"] [] (sp__law_draw)) (C__law_integer : Cal P w K mg base "_law_integer" 2 ["deck"] [] (sp__law_integer)) (C__law_ratio : Cal P w K mg base "_law_ratio" 2 ["p", "q"] [] (sp__law_ratio K)) (C__law_refused : Cal P w K mg base "_law_refused" 2 ["p"] [] (sp__law_refused)) (C__law_same : Cal P w K mg base "_law_same" 3 ["actual", "due"] [] (sp__law_same K 3)) (C_is_ratio : Cal P w K mg base "is_ratio" 2 ["value"] [] (sp_is_ratio K)) (C_make_1 : Cal P w K mg base "make" 1 ["p", "q"] [V.int 1] (sp_make K)) (C_make : Cal P w K mg base "make" 1 ["p", "q"] [] (sp_make K)) : FnOk P w K mg base (L2.CX P w) 4 f fd ["script"] (sp_law K) := by
  refine F.ok sc_law (fun vs H Q E h => ?_) (fun cdv A outer s H vs Q E hr h => ?_)
  · obtain ⟨_, _, rfl, _⟩ := h
    rfl
  · obtain ⟨a, ns, rfl, hS, hl, q⟩ := h
    refine ⟨_, PSs.nox (pss_cons (ps_set (i := 1) sc_law.nd rfl (Or.inl rfl) (pe_callC C__law_deck hr (by decide) (by rfl) (pa_cons (pv 0) pa_nil))) (pss_cons (ps_for PassesOwn.never rfl (pi_range1 (by rfl) T.n_range (pa_cons pe_int pa_nil)) (pg_name (i := 2) sc_law.nd rfl (Or.inl rfl)) (pss_cons (ps_set (i := 3) sc_law.nd rfl (Or.inl rfl) (pe_callC C__law_integer hr (by decide) (by rfl) (pa_cons (pv 1) pa_nil))) (pss_cons (ps_set (i := 4) sc_law.nd rfl (Or.inl rfl) (pe_callC C__law_integer hr (by decide) (by rfl) (pa_cons (pv 1) pa_nil))) (pss_consJ (ps_if (pt_cmpR (op_eqA hr.units) (pv 4) pe_int (nomark _)) (pss_one (ps_set (i := 4) sc_law.nd rfl (Or.inl rfl) (pe_op op_add pe_int (pe_callC C__law_draw hr (by decide) (by rfl) (pa_cons (pv 1) (pa_cons pe_int pa_nil)))))) pss_nil) (pss_cons (ps_set (i := 5) sc_law.nd rfl (Or.inl rfl) (pe_callC C__law_ratio hr (by decide) (by rfl) (pa_cons (pv 3) (pa_cons (pv 4) pa_nil)))) (pss_cons (ps_if ((pw_or (pt_not (pt_val (pe_callC C__law_same hr (by decide) (by rfl) (pa_cons (pe_callC C_make hr (by decide) (by rfl) (pa_cons (pv 3) (pa_cons (pv 4) pa_nil))) (pa_cons (pv 5) pa_nil))))) (pw_or1 (pt_not (pt_val (pe_callC C__law_same hr (by decide) (by rfl) (pa_cons (pe_callC C_make_1 hr (by decide) (by rfl) (pa_cons (pv 3) pa_nil)) (pa_cons (pe_tupN (pa_cons (pv 3) (pa_cons pe_int pa_nil))) pa_nil)))))))).pt (pss_one (ps_ret pe_bl)) pss_nil) (pss_cons (ps_if ((pw_or (pt_not (pt_val (pe_callC C__law_same hr (by decide) (by rfl) (pa_cons (pe_callC C_is_ratio hr (by decide) (by rfl) (pa_cons (pv 5) pa_nil)) (pa_cons pe_bl pa_nil))))) (pw_or (pt_not (pt_val (pe_callC C__law_same hr (by decide) (by rfl) (pa_cons (pe_callC C_is_ratio hr (by decide) (by rfl) (pa_cons (pe_tupN (pa_cons (pv 3) (pa_cons pe_int pa_nil))) pa_nil)) (pa_cons pe_bl pa_nil))))) (pw_or1 (pt_not (pt_val (pe_callC C__law_refused hr (by decide) (by rfl) (pa_cons (pv 3) pa_nil)))))))).pt (pss_one (ps_ret pe_bl)) pss_nil) (pss_cons (ps_set (i := 6) sc_law.nd rfl (Or.inl rfl) (pe_op op_add pe_int (pe_callC C__law_draw hr (by decide) (by rfl) (pa_cons (pv 1) (pa_cons pe_int pa_nil))))) (pss_cons (ps_set (i := 7) sc_law.nd rfl (Or.inl rfl) (pe_lstN (pa_cons (pe_tupN (pa_cons (pe_op op_mulG (pe_ix ix_seq (pv 5) pe_int (fun _ _ => rfl)) (pv 6)) (pa_cons (pe_op op_mulG (pe_ix ix_seq (pv 5) pe_int (fun _ _ => rfl)) (pv 6)) pa_nil))) (pa_cons (pe_tupN (pa_cons (pe_ix ix_seq (pv 5) pe_int (fun _ _ => rfl)) (pa_cons pe_int pa_nil))) (pa_cons (pe_tupN (pa_cons (pe_un un_neg (pe_ix ix_seq (pv 5) pe_int (fun _ _ => rfl))) (pa_cons (pe_un un_neg (pe_ix ix_seq (pv 5) pe_int (fun _ _ => rfl))) pa_nil))) (pa_cons (pe_lstN (pa_cons (pe_ix ix_seq (pv 5) pe_int (fun _ _ => rfl)) (pa_cons (pe_ix ix_seq (pv 5) pe_int (fun _ _ => rfl)) pa_nil))) (pa_cons (pe_tupN (pa_cons (pe_ix ix_seq (pv 5) pe_int (fun _ _ => rfl)) pa_nil)) (pa_cons (pe_ix ix_seq (pv 5) pe_int (fun _ _ => rfl)) (pa_cons (pe_tupN (pa_cons (pe_ix ix_seq (pv 5) pe_int (fun _ _ => rfl)) (pa_cons (pe_ix ix_seq (pv 5) pe_int (fun _ _ => rfl)) (pa_cons pe_int pa_nil)))) (pa_cons (pe_tupN (pa_cons pe_bl (pa_cons (pe_ix ix_seq (pv 5) pe_int (fun _ _ => rfl)) pa_nil))) (pa_cons (pe_tupN (pa_cons (pe_ix ix_seq (pv 5) pe_int (fun _ _ => rfl)) (pa_cons pe_bl pa_nil))) (pa_cons (pe_tupN (pa_cons pe_bl (pa_cons pe_int pa_nil))) (pa_cons (pe_callTy cl_str (by rfl) T.n_str bb_str (pa_cons (pe_ix ix_seq (pv 5) pe_int (fun _ _ => rfl)) pa_nil)) (pa_cons pe_non (pa_cons (pe_tupN pa_nil) (pa_cons (pe_tupN (pa_cons pe_str (pa_cons pe_str pa_nil))) (pa_cons (pe_tupN (pa_cons (pe_tupN (pa_cons pe_int (pa_cons pe_int pa_nil))) (pa_cons pe_int pa_nil))) (pa_cons (pe_tupN (pa_cons pe_int (pa_cons (pe_op op_add pe_int (pv 6)) pa_nil))) (pa_cons (pe_tupN (pa_cons pe_int (pa_cons (pe_un un_neg pe_int) pa_nil))) pa_nil))))))))))))))))))) (pss_one (ps_for PassesOwn.never rfl (pi_list (pv 7)) (pg_name (i := 8) sc_law.nd rfl (Or.inl rfl)) (pss_one (ps_if (pt_not (pt_val (pe_callC C__law_same hr (by decide) (by rfl) (pa_cons (pe_callC C_is_ratio hr (by decide) (by rfl) (pa_cons (pv 8) pa_nil)) (pa_cons pe_bl pa_nil))))) (pss_one (ps_ret pe_bl)) pss_nil))))))))))))) (pss_one (ps_ret pe_bl)))), ?_⟩
    walk_at "un"
    walk_at "go"
    refine ⟨a, ns, rfl, hS, hl, fun H1 d s1 D1 => ?_⟩
    walk_at "for"
    refine ⟨_, rfl, by decide, by decide, ?_⟩
    refine forRange (n := 3) (fun i σ' H' => ∃ o2 o3 o4 o5 o6 o7 o8, σ' = [some (.ref a), some (.ref d), o2, o3, o4, o5, o6, o7, o8] ∧ Deck H' d) ⟨_, _, _, _, _, _, _, rfl, D1⟩ ?_ (fun σ' H' _ => q _)
    rintro i σ' H' hi ⟨o2, o3, o4, o5, o6, o7, o8, rfl, D⟩
    walk_at "un"
    walk_at "go"
    refine ⟨d, rfl, D, fun H2 p s2 D2 hp => ?_⟩
    walk_at "go"
    refine ⟨d, rfl, D2, fun H3 q0 s3 D3 hq0 => ?_⟩
    refine seqJ (fun σ' H' => ∃ q1 : Int, q1 ≠ 0 ∧ q1.natAbs < 2 ^ 200 ∧ σ' = [some (.ref a), some (.ref d), some (.int (0 + (i : Int))), some (.int p), some (.int q1), o5, o6, o7, o8] ∧ Deck H' d) (fun U hU => ?_) ?_
    · walk_at "un"
      walk_at "go"
      refine ifD (fun c => ?_) (fun c => ?_)
      · walk_at "go"
        refine ⟨d, 9, 4, rfl, D3, by decide, by decide, by decide, fun H4 x s4 D4 x0 x9 => ?_⟩
        walk_at "go"
        exact hU _ _ ⟨1 + x, by omega, by omega, rfl, D4⟩
      · exact hU _ _ ⟨q0, c, hq0, rfl, D3⟩
    · rintro σ' H4 ⟨q1, hq1, hb1, rfl, D4⟩
      have hbr := bd_divInt hq1 hp hb1
      walk_at "un"
      walk_at "go"
      refine ⟨p, q1, 200, rfl, hb1, by decide, hq1, fun H5 v s5 hv => ?_⟩
      walk_at "go"
      refine ⟨p, q1, 200, rfl, hb1, by decide, fun e => absurd e hq1, fun _ H6 u s6 hu => ?_⟩
      walk_at "go"
      refine ⟨u, v, _, rfl, hu, hv.mono s6, by show (1 : Nat) < 3; decide, rfl, ?_⟩
      walk_at "gv"
      refine ⟨p, 1, 1, rfl, by decide, by decide, fun e => absurd e (by decide), fun _ H7 u7 s7 hu7 => ?_⟩
      walk_at "go"
      rename_i H8 t8 s8 ht8
      refine ⟨u7, t8, _, rfl, hu7.mono s8, (fr_int ht8 : Fr K H8 t8 (Rat.divInt p 1)), by show (1 : Nat) < 3; decide, rfl, ?_⟩
      walk_at "gv"
      have hv8 : Fr K H8 v (Rat.divInt p q1) := ((hv.mono s6).mono s7).mono s8
      refine ⟨v, _, rfl, hv8, ?_⟩
      rw [isRatD_fr]
      walk_at "go"
      refine ⟨_, _, .bool true, rfl, .bl true, .bl true, by show (0 : Nat) < 3; decide, rfl, ?_⟩
      walk_at "gv"
      rename_i H9 t9 s9 ht9
      refine ⟨t9, _, rfl, ht9, ?_⟩
      rw [← frD_int, isRatD_fr]
      walk_at "go"
      refine ⟨_, _, .bool true, rfl, .bl true, .bl true, by show (0 : Nat) < 3; decide, rfl, ?_⟩
      walk_at "gv"
      refine ⟨p, rfl, ?_⟩
      walk_at "gv"
      have D9 : Deck H9 d := ((((D4.mono s5).mono s6).mono s7).mono s8).mono s9
      refine ⟨d, 5, 3, rfl, D9, by decide, by decide, by decide, fun H10 x s10 D10 x0 x5 => ?_⟩
      have hv10 : Fr K H10 v (Rat.divInt p q1) := Fr.monoX (hv8.mono s9) s10 D9
      have bn : (Rat.divInt p q1).num.natAbs < 2 ^ 200 := hbr.1
      have bd : ((Rat.divInt p q1).den : Int).natAbs < 2 ^ 200 := hbr.2
      have bm : (2 + x).natAbs < 2 ^ 4 := by omega
      generalize hr0 : Rat.divInt p q1 = r at *
      walk_at "go"
      refine rdLstD (K := K) (.cons (.int _) (.cons (.int _) .nil)) line2 fun H13 l13 s13 hl13 => ?_
      walk_at "go"
      refine rdStrI bn (by decide) ?_
      walk_at "go"
      refine rdLstH (small_line (Nat.le_of_ble_eq_true rfl)) fun H20 l20 s20 nl20 hl20 => ?_
      walk_at "for"
      walk_at "go"
      obtain ⟨xs, hxs, bad⟩ : ∃ xs, H20 l20 = some (.lst xs) ∧ allP (Bad K H20) xs := by
        refine ⟨_, hl20, ⟨⟨_, by walk_at "dp", bad_mul (by omega)⟩, ⟨_, by walk_at "dp", bad_den (by decide)⟩, ⟨_, by walk_at "dp", bad_den (by have := den_p r; omega)⟩, ⟨_, by walk_at "dp", rfl⟩, ⟨_, by walk_at "dp", rfl⟩, ⟨_, by walk_at "dp", rfl⟩,
          ⟨_, by walk_at "dp", rfl⟩, ⟨_, by walk_at "dp", rfl⟩, ⟨_, by walk_at "dp", rfl⟩, ⟨_, by walk_at "dp", rfl⟩, ⟨_, by walk_at "dp", rfl⟩, ⟨_, by walk_at "dp", rfl⟩, ⟨_, by walk_at "dp", rfl⟩, ⟨_, by walk_at "dp", rfl⟩, ⟨_, by walk_at "dp", rfl⟩, ⟨_, by walk_at "dp", bad_zero (by omega)⟩, ⟨_, by walk_at "dp", bad_den (by decide)⟩, trivial⟩⟩
      refine ⟨⟨xs, .inl (.inl hxs)⟩, ?_⟩
      have D20 : Deck H20 d := by
        repeat first | exact D10 | refine Deck.mono ?_ (by assumption)
      refine forList (xs := xs) (fun i σ' H' => ∃ p1 p2 p3 p4 p5 p6 p7, σ' = [some (.ref a), some (.ref d), p1, p2, p3, p4, p5, p6, p7] ∧ H' = H20) ⟨_, _, _, _, _, _, _, rfl, rfl⟩ (fun i σ' H' _ ⟨_, _, _, _, _, _, _, _, e⟩ => by subst e; exact .inl (.inl hxs)) ?_ (fun σ' H' ⟨_, _, _, _, _, _, _, e1, e2⟩ => by subst e2; exact ⟨_, _, _, _, _, _, _, e1, D20⟩)
      rintro j z σ' H' hj ⟨p1, p2, p3, p4, p5, p6, p7, rfl, rfl⟩
      obtain ⟨dz, hz, ez⟩ := allP_get bad hj
      walk_at "un"
      walk_at "go"
      refine ⟨z, dz, rfl, hz, ?_⟩
      rw [ez]
      walk_at "go"
      refine ⟨_, _, .bool false, rfl, .bl false, .bl false, by show (0 : Nat) < 3; decide, rfl, ?_⟩
      walk_at "gv"
      exact ⟨_, _, _, _, _, _, _, rfl⟩
end
/-! ### the head: what the top holds, by names -/
def d_is_int : He.DefD := ⟨("is_int", none), "is_int", "is_int", defArgs s_is_int, defBody s_is_int, defScope s_is_int, [], []⟩
def d_make : He.DefD := ⟨("make", none), "make", "make", defArgs s_make, defBody s_make, defScope s_make, [.int 1], []⟩
def d__law_deck : He.DefD := ⟨("_law_deck", none), "_law_deck", "_law_deck", defArgs s__law_deck, defBody s__law_deck, defScope s__law_deck, [], []⟩
def d__law_draw : He.DefD := ⟨("_law_draw", none), "_law_draw", "_law_draw", defArgs s__law_draw, defBody s__law_draw, defScope s__law_draw, [], []⟩
def d__law_gcd : He.DefD := ⟨("_law_gcd", none), "_law_gcd", "_law_gcd", defArgs s__law_gcd, defBody s__law_gcd, defScope s__law_gcd, [], []⟩
def d__law_ratio : He.DefD := ⟨("_law_ratio", none), "_law_ratio", "_law_ratio", defArgs s__law_ratio, defBody s__law_ratio, defScope s__law_ratio, [], []⟩
def d__law_same : He.DefD := ⟨("_law_same", none), "_law_same", "_law_same", defArgs s__law_same, defBody s__law_same, defScope s__law_same, [], []⟩
def d_is_ratio : He.DefD := ⟨("is_ratio", none), "is_ratio", "is_ratio", defArgs s_is_ratio, defBody s_is_ratio, defScope s_is_ratio, [], []⟩
def d__law_integer : He.DefD := ⟨("_law_integer", none), "_law_integer", "_law_integer", defArgs s__law_integer, defBody s__law_integer, defScope s__law_integer, [], []⟩
def d__law_refused : He.DefD := ⟨("_law_refused", none), "_law_refused", "_law_refused", defArgs s__law_refused, defBody s__law_refused, defScope s__law_refused, [], []⟩
def d_law : He.DefD := ⟨("law", none), "law", "law", defArgs s_law, defBody s_law, defScope s_law, [], []⟩
def fn : List He.DefD := [d_is_int, d_make, d__law_deck, d__law_draw, d__law_gcd, d__law_ratio, d__law_same, d_is_ratio, d__law_integer, d__law_refused, d_law]
def fa : List He.Fa := ([.glo "is_int", .glo "make", .glo "_law_deck", .glo "_law_draw", .glo "_law_gcd", .glo "_law_ratio", .glo "_law_same", .glo "is_ratio", .glo "_law_integer", .glo "_law_refused", .glo "law", .free "ValueError", .free "abs", .free "bool", .free "int", .free "isinstance", .free "len", .free "list", .free "range", .free "str", .free "tuple", .glo "ZeroDenominator", .exc "ZeroDenominator", .glo "UnbentError", .exc "UnbentError", .exm "ZeroDenominator" "UnbentError" true] : List He.Fa)
def ex (K : PySem.W.Frag) : Bool := (He.eqO (PySem.W.nsIn K mainGlobals "gcd") (some (some (.builtin "math.gcd"))) && (excCB K (He.ga K "ZeroDenominator") && (decide (PySem.W.kitOne K (.ref (He.ga K "ZeroDenominator")) (.ref (He.ga K "ZeroDenominator")) = some true) && (decide (PySem.W.kitOne K (.ref (He.ga K "ZeroDenominator")) (.type "ValueError") = some true) && true))))
def tf : List He.Defn := []
abbrev R : PySem.W.OpenRow := PySem.W.OpenLaw.row PySem.Challenge.rw_unbent_k00_fractions_made
abbrev loose : List Str := (["gcd", "UnbentError", "ZeroDenominator", "is_int", "is_ratio", "make", "_law_deck", "_law_draw", "_law_same", "_law_gcd", "_law_ratio", "_law_integer", "_law_refused"] : List Str)
abbrev hk : PySem.W.Hook := He.hookX 5 fa fn [] tf ex
def ob (s : PySem.W.SharedT) : He.AlX := He.obsX 5 fa fn [] tf ex (HandSHeadRun.getT s)
theorem ob_eq (s : PySem.W.SharedT) : ob s = hk.obs s.abs := He.obsX_eq (HandSHeadRun.getT_eq s)
theorem run (w : World) : HandSHeadRun.RunEqI R (PySem.W.view R.prog [0, 16]) hk ob 4000 loose w := by
  unfold HandSHeadRun.RunEqI
  kernel_rfl
theorem facts {w : World} {K : PySem.W.Frag} {h : Heap} {mg : Str → Option Value} {f : Addr} (X : K.In h) (G : h.Ns mainGlobals mg) (hfa : mg ("law" : Str) = some (.ref f)) (c : He.SaysX fa fn [] tf ex w h K) (P : Program) :
    ∃ fd : FuncData, (∀ (s : Shared) (v : Value), BindsTo s fd ⟨[v], []⟩ [("script", v)]) ∧ ∀ base : Heap, K.In base → base.Ns mainGlobals mg → FnOk P w K mg base (L2.CX P w) 4 f fd ["script"] (sp_law K) := by
  have cd := c.t.d
  have cm := c.more
  unfold ex at cm
  obtain ⟨cm0, cm⟩ := He.ba cm
  obtain ⟨cm1, cm⟩ := He.ba cm
  obtain ⟨cm2, cm⟩ := He.ba cm
  obtain ⟨cm3, cm⟩ := He.ba cm
  have T : Tx K mg := { n_ValueError := He.free_ok X G (cd.fact 11 rfl), n_abs := He.free_ok X G (cd.fact 12 rfl), n_bool := He.free_ok X G (cd.fact 13 rfl), n_int := He.free_ok X G (cd.fact 14 rfl), n_isinstance := He.free_ok X G (cd.fact 15 rfl), n_len := He.free_ok X G (cd.fact 16 rfl), n_list := He.free_ok X G (cd.fact 17 rfl), n_range := He.free_ok X G (cd.fact 18 rfl), n_str := He.free_ok X G (cd.fact 19 rfl), n_tuple := He.free_ok X G (cd.fact 20 rfl), g_gcd := PySem.W.mg_of X G (He.eqO_ok cm0), e_ZeroDenominator := ⟨He.glo_ok X G (cd.fact 21 rfl), (He.exc_ok (cd.fact 22 rfl)).1, (He.exc_ok (cd.fact 22 rfl)).2.1, (He.exc_ok (cd.fact 22 rfl)).2.2.1, (He.exc_ok (cd.fact 22 rfl)).2.2.2⟩, e_UnbentError := ⟨He.glo_ok X G (cd.fact 23 rfl), (He.exc_ok (cd.fact 24 rfl)).1, (He.exc_ok (cd.fact 24 rfl)).2.1, (He.exc_ok (cd.fact 24 rfl)).2.2.1, (He.exc_ok (cd.fact 24 rfl)).2.2.2⟩, m_ZeroDenominator_UnbentError := He.exm_ok (cd.fact 25 rfl), i_ZeroDenominator := excCB_ok cm1, k_ZeroDenominator_ZeroDenominator := of_decide_eq_true cm2, k_ZeroDenominator_ValueError := of_decide_eq_true cm3 }
  obtain ⟨fd_is_int, F_is_int⟩ := cd.def_ 0 (d := d_is_int) rfl
  have m_is_int := He.glo_ok X G (cd.fact 0 (f := .glo "is_int") rfl)
  obtain ⟨fd_make, F_make⟩ := cd.def_ 1 (d := d_make) rfl
  have m_make := He.glo_ok X G (cd.fact 1 (f := .glo "make") rfl)
  obtain ⟨fd__law_deck, F__law_deck⟩ := cd.def_ 2 (d := d__law_deck) rfl
  have m__law_deck := He.glo_ok X G (cd.fact 2 (f := .glo "_law_deck") rfl)
  obtain ⟨fd__law_draw, F__law_draw⟩ := cd.def_ 3 (d := d__law_draw) rfl
  have m__law_draw := He.glo_ok X G (cd.fact 3 (f := .glo "_law_draw") rfl)
  obtain ⟨fd__law_gcd, F__law_gcd⟩ := cd.def_ 4 (d := d__law_gcd) rfl
  have m__law_gcd := He.glo_ok X G (cd.fact 4 (f := .glo "_law_gcd") rfl)
  obtain ⟨fd__law_ratio, F__law_ratio⟩ := cd.def_ 5 (d := d__law_ratio) rfl
  have m__law_ratio := He.glo_ok X G (cd.fact 5 (f := .glo "_law_ratio") rfl)
  obtain ⟨fd__law_same, F__law_same⟩ := cd.def_ 6 (d := d__law_same) rfl
  have m__law_same := He.glo_ok X G (cd.fact 6 (f := .glo "_law_same") rfl)
  obtain ⟨fd_is_ratio, F_is_ratio⟩ := cd.def_ 7 (d := d_is_ratio) rfl
  have m_is_ratio := He.glo_ok X G (cd.fact 7 (f := .glo "is_ratio") rfl)
  obtain ⟨fd__law_integer, F__law_integer⟩ := cd.def_ 8 (d := d__law_integer) rfl
  have m__law_integer := He.glo_ok X G (cd.fact 8 (f := .glo "_law_integer") rfl)
  obtain ⟨fd__law_refused, F__law_refused⟩ := cd.def_ 9 (d := d__law_refused) rfl
  have m__law_refused := He.glo_ok X G (cd.fact 9 (f := .glo "_law_refused") rfl)
  obtain ⟨fd_law, F_law⟩ := cd.def_ 10 (d := d_law) rfl
  have m_law := He.glo_ok X G (cd.fact 10 (f := .glo "law") rfl)
  have e := hfa.symm.trans m_law
  cases e
  have bl := FunD.bindsA (ps := ["script"]) F_law fun _ _ _ _ _ _ us hl => match us, hl with | [_], _ => rfl
  refine ⟨fd_law, fun s v => bl s [v] rfl, fun base _ _ => ?_⟩
  have G_is_int : FnOk P w K mg base (L2.CX P w) 1 (He.ga K "is_int") fd_is_int ["value"] (sp_is_int K) := ok_is_int T F_is_int 
  have C_is_int : Cal P w K mg base "is_int" 1 ["value"] [] (sp_is_int K) := ⟨_, _, [], G_is_int, m_is_int, F_is_int.kp, .nil, F_is_int.bindsN fun _ _ _ _ _ _ us hl => match us, hl with | [_], _ => rfl⟩
  have G_make : FnOk P w K mg base (L2.CX P w) 1 (He.ga K "make") fd_make ["p", "q"] (sp_make K) := ok_make T F_make 
  have C_make_1 : Cal P w K mg base "make" 1 ["p", "q"] [V.int 1] (sp_make K) := by
    have F1 : FunD K "make" "make" (defArgs s_make) (defBody s_make) (defScope s_make) [V.int 1] [] (He.ga K "make") fd_make := F_make
    obtain ⟨ds, hd, hb⟩ := F1.binds1 (ps := ["p", "q"]) 1 0 (by simp) rfl (fun T kV doc pm an cdv ct us its hu hi => by
      match us, hu, its, hi with
      | [_], _, [_], _ =>
        refine ⟨_, rfl, ?_⟩
        rfl)
    exact ⟨_, _, ds, G_make, m_make, F_make.kp, hd, hb⟩
  have C_make : Cal P w K mg base "make" 1 ["p", "q"] [] (sp_make K) := by
    have F1 : FunD K "make" "make" (defArgs s_make) (defBody s_make) (defScope s_make) [V.int 1] [] (He.ga K "make") fd_make := F_make
    obtain ⟨ds, hd, hb⟩ := F1.binds1 (ps := ["p", "q"]) 2 1 (by simp) rfl (fun T kV doc pm an cdv ct us its hu hi => by
      match us, hu, its, hi with
      | [_, _], _, [_], _ =>
        refine ⟨_, rfl, ?_⟩
        rfl)
    exact ⟨_, _, ds, G_make, m_make, F_make.kp, hd, hb⟩
  have G__law_deck : FnOk P w K mg base (L2.CX P w) 1 (He.ga K "_law_deck") fd__law_deck ["script"] (sp__law_deck K) := ok__law_deck T F__law_deck 
  have C__law_deck : Cal P w K mg base "_law_deck" 1 ["script"] [] (sp__law_deck K) := ⟨_, _, [], G__law_deck, m__law_deck, F__law_deck.kp, .nil, F__law_deck.bindsN fun _ _ _ _ _ _ us hl => match us, hl with | [_], _ => rfl⟩
  have G__law_draw : FnOk P w K mg base (L2.CX P w) 1 (He.ga K "_law_draw") fd__law_draw ["deck", "most"] (sp__law_draw) := ok__law_draw T F__law_draw 
  have C__law_draw : Cal P w K mg base "_law_draw" 1 ["deck", "most"] [] (sp__law_draw) := ⟨_, _, [], G__law_draw, m__law_draw, F__law_draw.kp, .nil, F__law_draw.bindsN fun _ _ _ _ _ _ us hl => match us, hl with | [_, _], _ => rfl⟩
  have G__law_gcd : FnOk P w K mg base (L2.CX P w) 1 (He.ga K "_law_gcd") fd__law_gcd ["a", "b"] (sp__law_gcd) := ok__law_gcd T F__law_gcd 
  have C__law_gcd : Cal P w K mg base "_law_gcd" 1 ["a", "b"] [] (sp__law_gcd) := ⟨_, _, [], G__law_gcd, m__law_gcd, F__law_gcd.kp, .nil, F__law_gcd.bindsN fun _ _ _ _ _ _ us hl => match us, hl with | [_, _], _ => rfl⟩
  have G__law_ratio : FnOk P w K mg base (L2.CX P w) 2 (He.ga K "_law_ratio") fd__law_ratio ["p", "q"] (sp__law_ratio K) := ok__law_ratio T F__law_ratio C__law_gcd
  have C__law_ratio : Cal P w K mg base "_law_ratio" 2 ["p", "q"] [] (sp__law_ratio K) := ⟨_, _, [], G__law_ratio, m__law_ratio, F__law_ratio.kp, .nil, F__law_ratio.bindsN fun _ _ _ _ _ _ us hl => match us, hl with | [_, _], _ => rfl⟩
  have G__law_same : FnOk P w K mg base (L2.CX P w) 3 (He.ga K "_law_same") fd__law_same ["actual", "due"] (sp__law_same K 3) := ok__law_same T F__law_same m__law_same 3
  have C__law_same : Cal P w K mg base "_law_same" 3 ["actual", "due"] [] (sp__law_same K 3) := ⟨_, _, [], G__law_same, m__law_same, F__law_same.kp, .nil, F__law_same.bindsN fun _ _ _ _ _ _ us hl => match us, hl with | [_, _], _ => rfl⟩
  have G_is_ratio : FnOk P w K mg base (L2.CX P w) 2 (He.ga K "is_ratio") fd_is_ratio ["value"] (sp_is_ratio K) := ok_is_ratio T F_is_ratio C_is_int
  have C_is_ratio : Cal P w K mg base "is_ratio" 2 ["value"] [] (sp_is_ratio K) := ⟨_, _, [], G_is_ratio, m_is_ratio, F_is_ratio.kp, .nil, F_is_ratio.bindsN fun _ _ _ _ _ _ us hl => match us, hl with | [_], _ => rfl⟩
  have G__law_integer : FnOk P w K mg base (L2.CX P w) 2 (He.ga K "_law_integer") fd__law_integer ["deck"] (sp__law_integer) := ok__law_integer T F__law_integer C__law_draw
  have C__law_integer : Cal P w K mg base "_law_integer" 2 ["deck"] [] (sp__law_integer) := ⟨_, _, [], G__law_integer, m__law_integer, F__law_integer.kp, .nil, F__law_integer.bindsN fun _ _ _ _ _ _ us hl => match us, hl with | [_], _ => rfl⟩
  have G__law_refused : FnOk P w K mg base (L2.CX P w) 2 (He.ga K "_law_refused") fd__law_refused ["p"] (sp__law_refused) := ok__law_refused T F__law_refused C_make
  have C__law_refused : Cal P w K mg base "_law_refused" 2 ["p"] [] (sp__law_refused) := ⟨_, _, [], G__law_refused, m__law_refused, F__law_refused.kp, .nil, F__law_refused.bindsN fun _ _ _ _ _ _ us hl => match us, hl with | [_], _ => rfl⟩
  exact ok_law T F_law C__law_deck C__law_draw C__law_integer C__law_ratio C__law_refused C__law_same C_is_ratio C_make_1 C_make
end UbK
open PySem PySem.W PySem.Calls PyProof.Rows
set_option maxHeartbeats 0 in
theorem PySem.Challenge.cw_unbent_k00_fractions_made_holds : PySem.Challenge.rw_unbent_k00_fractions_made.Holds := by
  w_on; o_law
  refine HandSHeadRun.head_imp (r := OpenLaw.row PySem.Challenge.rw_unbent_k00_fractions_made) (q := view (OpenLaw.row PySem.Challenge.rw_unbent_k00_fractions_made).prog [0, 16]) (H := UbK.hk) (ob := UbK.ob) (M := 4000) (loose := UbK.loose) (d := HandSHeadRun.topDef (OpenLaw.row PySem.Challenge.rw_unbent_k00_fractions_made).prog 16) (kwd := []) UbK.ob_eq UbK.run
    (by kernel_rfl) (by kernel_rfl) (by kernel_rfl) (by rfl) (by first | assumption | decide +kernel) (by decide +kernel) ⟨rfl, rfl, rfl, rfl, rfl, by decide +kernel⟩ ?hw ?hc
  case hw => w_witness2
  case hc =>
    refine Ub.endOfLaw (l := PySem.Challenge.rw_unbent_k00_fractions_made) (n := 63) (k := 4) (x := "script") rfl (by decide) (by kernel_rfl) ⟨rfl, by decide, by decide⟩ ?F
    intro w mg fa h Y G hmg0
    obtain ⟨K, KX, c⟩ := Y
    have hmg : mg ("law" : PySem.Str) = some (.ref fa) := by
      have e : (HandSHeadRun.topDef (OpenLaw.row PySem.Challenge.rw_unbent_k00_fractions_made).prog 16).name = ("law" : PySem.Str) := by kernel_rfl
      rw [← e]
      exact hmg0
    obtain ⟨fd, hb, hF⟩ := UbK.facts KX G hmg c (PySem.Challenge.rw_unbent_k00_fractions_made).prog
    exact ⟨K, fd, UbK.sp_law K, KX, hb, fun H a ns hl _ hS => ⟨a, ns, rfl, hS, hl, fun _ => rfl⟩, hF⟩
