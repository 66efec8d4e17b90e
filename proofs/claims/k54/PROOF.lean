import PyProof.Rows.All
import Wide.All
import OpenK.AllK
import Wide.FinOn
import HandS.ForMost
import HandS.ForExc
import HandS.Wide
import HandS.Gcd
import HandS.IsInst
import HandS.Defaults
import HandS.ExcIs
import HandS.Flow
import HandS.Small
import HandS.HeadHook4
import HandS.HeadEnd
import HandS.AnyAll
import HandS.GenList
import HandS.NestedK
import HandS.HeadWalk
import HandS.Rev
import HandS.Conv
import PyProof.StrLaws
import HandS.ExcInit
import HandS.FStr
import HandS.MakeKwOnly
import HandS.ExcField
import HandS.CallSlots
import HandS.MakeKw
import KE.KExcSuper
import HandS.Nested
import PySem.PyData
import HandS.TupLe
import HandS.TupAny
import HandS.Text
import KE.KMathGC
import HandS.TupSets
import HandS.SortInts
import HandS.SortKw
import HandS.Deep
import HandS.Codes
import HandS.Steps
import HandS.Strs
import PyProof.Rows.SetFrom
import HandS.SetKeys
import PyProof.MinMaxWalk
import PyProof.WalkInts
import KE.KExcIs
import HandS.Zip
import HandS.TryMany
import HandS.Iter
import HandS.SetFor
import HandS.Head0
import HandS.Head1
import HandS.Head2
import HandS.HeadHook1
import HandS.HeadHook2
import HandS.HeadHook3
import HandS.Head3
import PySem.Challenge.RW_unbent_k54_medians_and_shared_costs
set_option Elab.async false
set_option linter.all false
set_option maxRecDepth 100000
set_option maxHeartbeats 4000000
namespace UbM
/-- m turns of Euclid are enough for a, b -/
def Enough (m a b : Nat) : Prop := ∃ e, (b < 2 ^ e ∧ 2 * e + 1 ≤ m) ∨ (b < a ∧ a < 2 ^ (e + 1) ∧ 2 * e + 2 ≤ m)
theorem Enough.pos {m a b : Nat} (h : Enough m a b) : 0 < m := by
  obtain ⟨e, h | h⟩ := h <;> omega
theorem half_mod {a b : Nat} (hb : 0 < b) (h : b < a) : 2 * (a % b) < a := by
  have h1 := Nat.mod_lt a hb
  have h2 := Nat.div_add_mod a b
  have h3 : 1 ≤ a / b := (Nat.le_div_iff_mul_le hb).mpr (by omega)
  have h4 : b * 1 ≤ b * (a / b) := Nat.mul_le_mul_left b h3
  omega
theorem Enough.step {m a b : Nat} (hb : 0 < b) (h : Enough m a b) : Enough (m - 1) b (a % b) := by
  obtain ⟨e, ⟨h1, h2⟩ | ⟨h1, h2, h3⟩⟩ := h
  · cases e with
    | zero =>
      have : b < 1 := h1
      omega
    | succ e =>
      refine ⟨e, .inr ⟨Nat.mod_lt _ hb, h1, by omega⟩⟩
  · refine ⟨e, .inl ⟨?_, by omega⟩⟩
    have h4 := half_mod hb h1
    have h5 : 2 ^ (e + 1) = 2 ^ e * 2 := Nat.pow_succ ..
    omega
theorem int_gcd (p q : Int) : q.gcd p = Nat.gcd p.natAbs q.natAbs := by
  unfold Int.gcd
  exact Nat.gcd_comm ..
theorem num_pos {p q : Int} (h : 0 < q) : p / ((Nat.gcd p.natAbs q.natAbs : Nat) : Int) = (Rat.divInt p q).num := by
  rw [Rat.num_divInt, int_gcd, Int.sign_eq_one_of_pos h, Int.one_mul]
theorem den_pos {p q : Int} (h : 0 < q) : q / ((Nat.gcd p.natAbs q.natAbs : Nat) : Int) = ((Rat.divInt p q).den : Int) := by
  rw [Rat.den_divInt, if_neg (by omega), int_gcd]
  have e : (q.natAbs : Int) = q := by omega
  rw [Int.natCast_ediv, e]
theorem gcd_pos {p q : Int} (h : q ≠ 0) : 0 < Nat.gcd p.natAbs q.natAbs := Nat.gcd_pos_of_pos_right _ (by omega)
theorem fdiv_neg_dvd {a b : Int} (h : b ∣ a) : a.fdiv (-b) = -(a / b) := by
  obtain ⟨c, rfl⟩ := h
  by_cases hb : b = 0
  · subst hb
    simp
  · rw [Int.mul_ediv_cancel_left _ hb]
    have e : b * c = -b * -c := by rw [Int.neg_mul_neg]
    rw [e, Int.mul_fdiv_cancel_left _ (by omega)]
theorem dvd_l (p q : Int) : ((Nat.gcd p.natAbs q.natAbs : Nat) : Int) ∣ p := Int.ofNat_dvd_left.mpr (Nat.gcd_dvd_left ..)
theorem dvd_r (p q : Int) : ((Nat.gcd p.natAbs q.natAbs : Nat) : Int) ∣ q := Int.ofNat_dvd_left.mpr (Nat.gcd_dvd_right ..)
theorem num_neg {p q : Int} (h : q < 0) : p.fdiv (-((Nat.gcd p.natAbs q.natAbs : Nat) : Int)) = (Rat.divInt p q).num := by
  rw [fdiv_neg_dvd (dvd_l p q), Rat.num_divInt, int_gcd, Int.sign_eq_neg_one_of_neg h, Int.neg_one_mul, Int.neg_ediv_of_dvd (dvd_l p q)]
theorem den_neg {p q : Int} (h : q < 0) : q.fdiv (-((Nat.gcd p.natAbs q.natAbs : Nat) : Int)) = ((Rat.divInt p q).den : Int) := by
  rw [fdiv_neg_dvd (dvd_r p q), Rat.den_divInt, if_neg (by omega), int_gcd]
  have e : (q.natAbs : Int) = -q := by omega
  rw [Int.natCast_ediv, e, Int.neg_ediv_of_dvd (dvd_r p q)]
def Bd (n : Nat) (r : Rat) : Prop := r.num.natAbs < 2 ^ n ∧ r.den < 2 ^ n
theorem bd_divInt {p q : Int} {n : Nat} (hq : q ≠ 0) (h1 : p.natAbs < 2 ^ n) (h2 : q.natAbs < 2 ^ n) : Bd n (Rat.divInt p q) := by
  constructor
  · by_cases h : 0 < q
    · rw [← num_pos h, Int.natAbs_ediv_of_dvd (dvd_l p q)]
      exact Nat.lt_of_le_of_lt (Nat.div_le_self ..) h1
    · rw [← num_neg (show q < 0 by omega), fdiv_neg_dvd (dvd_l p q), Int.natAbs_neg, Int.natAbs_ediv_of_dvd (dvd_l p q)]
      exact Nat.lt_of_le_of_lt (Nat.div_le_self ..) h1
  · rw [Rat.den_divInt, if_neg hq]
    exact Nat.lt_of_le_of_lt (Nat.div_le_self ..) h2
theorem Bd.mono {n m : Nat} {r : Rat} (h : Bd n r) (k : n ≤ m) : Bd m r := ⟨Nat.lt_of_lt_of_le h.1 (Nat.pow_le_pow_right (by decide) k), Nat.lt_of_lt_of_le h.2 (Nat.pow_le_pow_right (by decide) k)⟩
theorem mul_lt {i j : Int} {a b : Nat} (ha : i.natAbs < 2 ^ a) (hb : j.natAbs < 2 ^ b) : (i * j).natAbs < 2 ^ (a + b) := by
  rw [Int.natAbs_mul, Nat.pow_add]
  exact Nat.mul_lt_mul'' ha hb
theorem add_lt {i j : Int} {a b : Nat} (ha : i.natAbs < 2 ^ a) (hb : j.natAbs < 2 ^ b) : (i + j).natAbs < 2 ^ (max a b + 1) := by
  have h1 : (2 : Nat) ^ a ≤ 2 ^ (max a b) := Nat.pow_le_pow_right (by decide) (by omega)
  have h2 : (2 : Nat) ^ b ≤ 2 ^ (max a b) := Nat.pow_le_pow_right (by decide) (by omega)
  have h3 : (2 : Nat) ^ (max a b + 1) = 2 ^ (max a b) * 2 := Nat.pow_succ ..
  omega
theorem sub_lt {i j : Int} {a b : Nat} (ha : i.natAbs < 2 ^ a) (hb : j.natAbs < 2 ^ b) : (i - j).natAbs < 2 ^ (max a b + 1) := by
  have h1 : (2 : Nat) ^ a ≤ 2 ^ (max a b) := Nat.pow_le_pow_right (by decide) (by omega)
  have h2 : (2 : Nat) ^ b ≤ 2 ^ (max a b) := Nat.pow_le_pow_right (by decide) (by omega)
  have h3 : (2 : Nat) ^ (max a b + 1) = 2 ^ (max a b) * 2 := Nat.pow_succ ..
  omega
theorem den_ne (r : Rat) : (r.den : Int) ≠ 0 := by
  have := r.den_nz
  omega
theorem den_lt {r : Rat} {n : Nat} (h : Bd n r) : (r.den : Int).natAbs < 2 ^ n := h.2
theorem add_as (r s : Rat) : Rat.divInt (r.num * s.den + s.num * r.den) (r.den * s.den) = r + s := by
  rw [Rat.add_def', ← Rat.divInt_ofNat, Int.natCast_mul]
theorem sub_as (r s : Rat) : Rat.divInt (r.num * s.den - s.num * r.den) (r.den * s.den) = r - s := by
  rw [Rat.sub_def', ← Rat.divInt_ofNat, Int.natCast_mul]
theorem mul_as (r s : Rat) : Rat.divInt (r.num * s.num) (r.den * s.den) = r * s := by
  rw [Rat.mul_def', ← Rat.divInt_ofNat, Int.natCast_mul]
theorem bd_add {r s : Rat} {a b : Nat} (hr : Bd a r) (hs : Bd b s) : Bd (a + b + 1) (r + s) := by
  rw [← add_as]
  refine bd_divInt (Int.mul_ne_zero (den_ne r) (den_ne s)) ?_ ?_
  · have := add_lt (mul_lt hr.1 (den_lt hs)) (mul_lt hs.1 (den_lt hr))
    rw [show max (a + b) (b + a) + 1 = a + b + 1 by omega] at this
    exact this
  · exact Nat.lt_of_lt_of_le (mul_lt (den_lt hr) (den_lt hs)) (Nat.pow_le_pow_right (by decide) (by omega))
theorem bd_sub {r s : Rat} {a b : Nat} (hr : Bd a r) (hs : Bd b s) : Bd (a + b + 1) (r - s) := by
  rw [← sub_as]
  refine bd_divInt (Int.mul_ne_zero (den_ne r) (den_ne s)) ?_ ?_
  · have := sub_lt (mul_lt hr.1 (den_lt hs)) (mul_lt hs.1 (den_lt hr))
    rw [show max (a + b) (b + a) + 1 = a + b + 1 by omega] at this
    exact this
  · exact Nat.lt_of_lt_of_le (mul_lt (den_lt hr) (den_lt hs)) (Nat.pow_le_pow_right (by decide) (by omega))
theorem bd_mul {r s : Rat} {a b : Nat} (hr : Bd a r) (hs : Bd b s) : Bd (a + b) (r * s) := by
  rw [← mul_as]
  exact bd_divInt (Int.mul_ne_zero (den_ne r) (den_ne s)) (mul_lt hr.1 hs.1) (mul_lt (den_lt hr) (den_lt hs))
end UbM
namespace Ub
open PySem PySem.Spec PyProof.Rows L2 UbM
theorem sameNew {H : Hp} {p : Addr} {o : HO} (h : H p = none) : Same H (upd H p o) := fun b x e => by
  rw [upd_ne (ne_of_none e h)]
  exact e
theorem Same.tseq {K : PySem.W.Frag} {H H' : Hp} {a : Addr} {xs : List V} (e : Same H H') (h : SqT K H a xs) : SqT K H' a xs := by
  rcases h with (h | ⟨o, h⟩) | h
  · exact .inl (.inl (e _ _ h))
  · exact .inl (.inr ⟨o, e _ _ h⟩)
  · exact .inr h
mutual
theorem Dp.mono {K : PySem.W.Frag} {H H' : Hp} (e : Same H H') : ∀ (d : PyData) (v : V), Dp K H v d → Dp K H' v d
  | .none, _, h => by cases h; exact .non
  | .bool b, _, h => by cases h; exact .bl b
  | .int i, _, h => by cases h; exact .int i
  | .str x, _, h => by cases h; exact .str x
  | .list ds, _, h => by
    cases h with
    | lst hs ha => exact .lst (Same.seq e hs) (Dp.monoAll e ds _ ha)
  | .tuple ds, _, h => by
    cases h with
    | tup hs ha => exact .tup (Same.tseq e hs) (Dp.monoAll e ds _ ha)
  | .dict _, _, h => by cases h
theorem Dp.monoAll {K : PySem.W.Frag} {H H' : Hp} (e : Same H H') : ∀ (ds : List PyData) (vs : List V), DpAll K H vs ds → DpAll K H' vs ds
  | [], _, h => by cases h; exact .nil
  | d :: ds, _, h => by
    cases h with
    | cons h1 h2 => exact .cons (Dp.mono e d _ h1) (Dp.monoAll e ds _ h2)
end
/-- a fraction as data -/
def frD (r : Rat) : PyData := .tuple [.int r.num, .int (r.den : Int)]
/-- v is the fraction r -/
def Fr (K : PySem.W.Frag) (H : Hp) (v : V) (r : Rat) : Prop := Dp K H v (frD r)
theorem Fr.mono {K : PySem.W.Frag} {H H' : Hp} {v : V} {r : Rat} (e : Same H H') (h : Fr K H v r) : Fr K H' v r := Dp.mono e _ _ h
theorem Fr.get {K : PySem.W.Frag} {H : Hp} {v : V} {r : Rat} (h : Fr K H v r) : ∃ a, v = .ref a ∧ SqT K H a [.int r.num, .int (r.den : Int)] := by
  unfold Fr frD at h
  cases h with
  | tup hs ha =>
    cases ha with
    | cons h1 h2 =>
      cases h2 with
      | cons h2 h3 =>
        cases h3
        cases h1
        cases h2
        exact ⟨_, rfl, hs⟩
def CDivX (_ j : Int) : Prop := j ≠ 0 ∧ j.natAbs.log2 < 9000
section
variable {X : Cx}
theorem op_fdivX : OpR X (binaryOp .FloorDiv) (rI CDivX fun i j => .int (i.fdiv j)) := opI fun i j _ _ _ _ _ hc q => floordiv_int hc.1 q (.inl (PyProof.noPylong_of_log2 hc.2))
end
/-- * of two ints: one below 2 ^ 64, or together below a million bits -/
def CMulG (i j : Int) : Prop := CMul i j ∨ CMulW i j
section
variable {X : Cx}
theorem op_mulG : OpR X (binaryOp .Mult) (rI CMulG fun i j => .int (i * j)) := opI fun _ _ _ _ _ _ _ hc q => mul_int q (by
  rcases hc with hc | hc
  · exact hc.ok
  · exact hc.ok)
end
/-- at the name x stands a def that keeps the promise sp, by at most level k; dvs: the defaults that fill up -/
structure Cal (P : Program) (w : World) (K : PySem.W.Frag) (mg : Str → Option Value) (base : Heap) (x : Str) (k : Nat) (ps : List Str) (dvs : List V) (sp : Sp) : Prop where
  ex : ∃ (f : Addr) (fd : FuncData) (ds : List Value), FnOk P w K mg base (L2.CX P w) k f fd ps sp ∧ mg x = some (.ref f) ∧ PySem.W.keepIn K (.ref f) = true ∧ Vals dvs ds ∧ Binds K fd ps ds
theorem Cal.mono {P : Program} {w : World} {K : PySem.W.Frag} {mg : Str → Option Value} {base : Heap} {x : Str} {k : Nat} {ps : List Str} {dvs : List V} {sp sp' : Sp} (C : Cal P w K mg base x k ps dvs sp)
    (h : ∀ vs H Q E, sp' vs H Q E → sp vs H Q E) : Cal P w K mg base x k ps dvs sp' := by
  obtain ⟨f, fd, ds, F, r⟩ := C.ex
  exact ⟨f, fd, ds, F.imp h, r⟩
section
variable {X : Cx} {C : Addr} {bmB : List Value} {B newId initId : String}
/-- X(), X an own exception class without own __init__ -/
theorem pmk_own0 {x : Str} {p pos : Pos} (F : ExcBaseFacts B newId initId bmB) (q : PySem.W.excIn X.K C bmB newId = true) (gC : X.mg x = some (.ref C)) (kC : PySem.W.keepIn X.K (.ref C) = true) (r : Raises X (.ref C)) (hg : Gl X x)
    (hdb : (x == ("__debug__" : Str)) = false := by decide) : PMk X (.Call (.Name x p) [] [] pos) (fun _ H Q => Q (.ref C) none H) := by
  intro pins s σ H Q I h
  refine wpAny_Call_Name_kw (ld_glob I hg gC ?_ hdb)
  refine PySem.W.callWith_K0 I.kIn kC ?_
  show wpAny _ _ (call (.ref C) []) _ _ _
  obtain ⟨bm, N, nm, qn, bs, hdct, sn, sub, ab, col, dd, k0, k1, k2, k3, k5, mN, hC, hN, hni, T⟩ := exc_obj I.kIn q
  refine wpAny_call_exc_subT F T hC hN hni (fun h' e hm => ?_) (Nat.zero_le _)
  exact mk_of I hm r h (I.hok.gone hm.new)
end
/-- what the top says of an own exception class without own __init__ -/
structure ExcK (K : PySem.W.Frag) (mg : Str → Option Value) (x : Str) : Prop where
  gC : mg x = some (.ref (He.ga K x))
  xC : PySem.W.excIn K (He.ga K x) He.veBase "ValueError.__new__" = true
  kC : PySem.W.keepIn K (.ref (He.ga K x)) = true
  bC : PySem.W.subIn K (.ref (He.ga K x)) (.type "BaseException") = some true
  tC : PySem.W.typeIn K (.ref (He.ga K x)) = some (.type "type")
section
variable {X : Cx} {x : Str} {p pos pos2 : Pos} {W : WX}
theorem ps_raise0 (hc : X.calm = true) (T : ExcK X.K X.mg x) (tk : Takes X W) (hg : Gl X x) (hdb : (x == ("__debug__" : Str)) = false := by decide) :
    PS X (.Raise (some (.Call (.Name x p) [] [] pos)) none pos2) (fun _ σ H => W (.ref (He.ga X.K x)) none σ H) := ps_raise hc tk (pmk_own0 PySem.F.excBase_ValueError T.xC T.gC T.kC (raises_own T.bC T.tC) hg hdb)
end
/-- what isinstance asks of an exception's class, as a test of K -/
def excCB (K : PySem.W.Frag) (D : Addr) : Bool :=
  He.eqO (PySem.W.findIn K (.ref D) "__getattribute__") (some (some (.builtin "BaseException.__getattribute__"))) && (He.eqO (PySem.W.findIn K (.ref D) "__getattr__") (some none) && (decide (PySem.W.subIn K (.ref D) (.type "BaseException") = some true) && (PySem.W.hasDictIn K D && (He.eqO (PySem.W.findIn K (.ref D) "__class__") (some (some (.builtin "object.__class__"))) &&
  (decide (PySem.W.specialIn K (.builtin "object.__class__") "__get__" = some (some (.builtin "getset_descriptor.__get__"))) && (decide (PySem.W.takesIn K (.builtin "object.__class__") = some true) && decide (PySem.W.mroIn K D (.type "object") = some true)))))))
theorem excCB_ok {K : PySem.W.Frag} {D : Addr} (h : excCB K D = true) : ExcC K D := by
  unfold excCB at h
  obtain ⟨h1, h⟩ := He.ba h
  obtain ⟨h2, h⟩ := He.ba h
  obtain ⟨h3, h⟩ := He.ba h
  obtain ⟨h4, h⟩ := He.ba h
  obtain ⟨h5, h⟩ := He.ba h
  obtain ⟨h6, h⟩ := He.ba h
  obtain ⟨h7, h8⟩ := He.ba h
  exact ⟨He.eqO_ok h1, He.eqO_ok h2, of_decide_eq_true h3, h4, He.eqO_ok h5, of_decide_eq_true h6, of_decide_eq_true h7, of_decide_eq_true h8⟩
theorem bb_int : bootBuiltins "int" = some (.type "int") := by decide +kernel
theorem bb_abs : bootBuiltins "abs" = some (.builtin "abs") := by decide +kernel
theorem bb_list : bootBuiltins "list" = some (.type "list") := by decide +kernel
theorem bb_len : bootBuiltins "len" = some (.builtin "len") := by decide +kernel
theorem bb_isinstance : bootBuiltins "isinstance" = some (.builtin "isinstance") := by decide +kernel
theorem bb_tuple : bootBuiltins "tuple" = some (.type "tuple") := by decide +kernel
theorem bb_bool : bootBuiltins "bool" = some (.type "bool") := by decide +kernel
theorem bb_str : bootBuiltins "str" = some (.type "str") := by decide +kernel
theorem bb_min : bootBuiltins "min" = some (.builtin "min") := by decide +kernel
theorem bb_max : bootBuiltins "max" = some (.builtin "max") := by decide +kernel
theorem bb_sum : bootBuiltins "sum" = some (.builtin "sum") := by decide +kernel
theorem bb_any : bootBuiltins "any" = some (.builtin "any") := by decide +kernel
theorem bb_sorted : bootBuiltins "sorted" = some (.builtin "sorted") := by decide +kernel
/-- isinstance of data -/
def tyD : PyData → String
  | .none => "NoneType"
  | .bool _ => "bool"
  | .int _ => "int"
  | .str _ => "str"
  | .list _ => "list"
  | .tuple _ => "tuple"
  | .dict _ => "dict"
theorem tyx {K : PySem.W.Frag} {H : Hp} {v : V} {d : PyData} (h : Dp K H v d) : TyX K H v (.type (tyD d)) := by
  cases h with
  | non => exact .base .non
  | bl b => exact .base (.bl b)
  | int i => exact .base (.int i)
  | str x => exact .base (.str x)
  | lst hs _ =>
    rcases hs with (hs | ⟨o, hs⟩) | ⟨o, its, n, hl, hc, _⟩
    · exact .base (.lst hs)
    · exact .base (.frz hs)
    · exact .kList hl hc
  | tup hs _ =>
    rcases hs with (hs | ⟨o, hs⟩) | ⟨o, its, n, hl, hc, _⟩
    · exact .base (.tup hs)
    · exact .fTuple hs
    · exact .kTuple hl hc
/-- isinstance(x, T): the answer by the data's type -/
theorem isiD {K : PySem.W.Frag} {H : Hp} {v : V} {d : PyData} {T : String} {b : Bool} {Q : VK} (h : Dp K H v d) (k : kitB (tyD d) T = some b) (q : Q (.bl b) H) : rIsi K [v, .ty T] H Q := ⟨v, .ty T, .type (tyD d), .type T, b, rfl, .ty T, tyx h, kit_ty k, q⟩
theorem log2_le {x a : Nat} (h : x < 2 ^ a) : x.log2 ≤ a := by
  by_cases ha : a = 0
  · subst ha
    have : x = 0 := by omega
    subst this
    exact Nat.le_of_eq (by decide)
  · exact Nat.le_of_lt (PySem.Flt.log2_lt_of (by omega) h)
theorem mulW {i j : Int} {a b : Nat} (ha : i.natAbs < 2 ^ a) (hb : j.natAbs < 2 ^ b) (h : a + b ≤ 900000) : CMulG i j := .inr <| by
  have h1 := log2_le ha
  have h2 := log2_le hb
  unfold CMulW
  omega
def rInt1 : List V → Hp → VK → Prop := fun xs H Q => (∃ i, xs = [.int i] ∧ Q (.int i) H) ∨ ∃ k, xs = [.bl k] ∧ Q (.int (if k then 1 else 0)) H
def rMin2 : List V → Hp → VK → Prop := fun xs H Q => ∃ i j, xs = [.int i, .int j] ∧ Q (.int (if j < i then j else i)) H
def rAbs1 : List V → Hp → VK → Prop := fun xs H Q => ∃ i, xs = [.int i] ∧ Q (.int (if i < 0 then -i else i)) H
def rLenS (K : PySem.W.Frag) : List V → Hp → VK → Prop := fun xs H Q => ∃ p ys, xs = [.ref p] ∧ (SqL K H p ys ∨ SqT K H p ys) ∧ Q (.int ys.length) H
def rListOf (K : PySem.W.Frag) : List V → Hp → VK → Prop := fun xs H Q => ∃ p ys, xs = [.ref p] ∧ (SqL K H p ys ∨ SqT K H p ys) ∧ ∀ l, H l = none → Q (.ref l) (upd H l (.lst ys))
section
variable {X : Cx}
theorem cl_int : CallR X (.type "int") rInt1 := call_int1
theorem cl_abs : CallR X (.builtin "abs") rAbs1 := call_abs
theorem cl_len : CallR X (.builtin "len") (rLenS X.K) := call_len_seq
theorem cl_list : CallR X (.type "list") (rListOf X.K) := call_list_of
end
def rIsN1 : R2 := fun x y H Q => y = .non ∧ Q (.bl (decide (x = .non))) H
def rNotN1 : R2 := fun x y H Q => y = .non ∧ Q (.bl (!decide (x = .non))) H
/-- == and !=: of scalars, or of data -/
def rEqA (K : PySem.W.Frag) : R2 := fun x y H Q => rEq x y H Q ∨ rEqD K x y H Q
def rNeA (K : PySem.W.Frag) : R2 := fun x y H Q => rNe x y H Q ∨ rNeD K x y H Q
section
variable {X : Cx}
theorem op_eqA (hu : X.A.units + 64 < cLine) : OpR X (compareOp .Eq) (rEqA X.K) := fun pins s σ H x y v u Q I rx ry h => h.elim (op_eq pins s σ H x y v u Q I rx ry) (op_eqD hu pins s σ H x y v u Q I rx ry)
theorem op_neA (hu : X.A.units + 64 < cLine) : OpR X (compareOp .NotEq) (rNeA X.K) := fun pins s σ H x y v u Q I rx ry h => h.elim (op_ne pins s σ H x y v u Q I rx ry) (op_neD hu pins s σ H x y v u Q I rx ry)
end
section
variable {K : PySem.W.Frag} {H : Hp} {Q : VK} {σ : L2.St}
theorem rdAdd {i j : Int} (q : Q (.int (i + j)) H) : rI0 (fun i j => .int (i + j)) (.int i) (.int j) H Q := ⟨i, j, rfl, rfl, q⟩
theorem rdSub {i j : Int} (q : Q (.int (i - j)) H) : rI0 (fun i j => .int (i - j)) (.int i) (.int j) H Q := ⟨i, j, rfl, rfl, q⟩
theorem rdMul {i j : Int} (c : CMulG i j) (q : Q (.int (i * j)) H) : rI CMulG (fun i j => .int (i * j)) (.int i) (.int j) H Q := ⟨i, j, rfl, rfl, c, q⟩
theorem rdNeg {i : Int} (q : Q (.int (-i)) H) : rU (fun i => .int (-i)) (.int i) H Q := ⟨i, rfl, q⟩
theorem rdEqI {i j : Int} (q : Q (.bl (decide (i = j))) H) : rEqA K (.int i) (.int j) H Q := .inl <| ⟨rfl, by
  have e : decide (V.int i = V.int j) = decide (i = j) := by
    rw [dec_int]
    exact Bool.beq_eq_decide_eq ..
  rw [e]
  exact q⟩
theorem rdNeI {i j : Int} (q : Q (.bl (!decide (i = j))) H) : rNeA K (.int i) (.int j) H Q := .inl <| ⟨rfl, by
  have e : decide (V.int i = V.int j) = decide (i = j) := by
    rw [dec_int]
    exact Bool.beq_eq_decide_eq ..
  rw [e]
  exact q⟩
theorem rdLt {i j : Int} (q : Q (.bl (decide (i < j))) H) : rI0 (fun i j => .bl (decide (i < j))) (.int i) (.int j) H Q := ⟨i, j, rfl, rfl, q⟩
theorem rdGt {i j : Int} (q : Q (.bl (decide (j < i))) H) : rI0 (fun i j => .bl (decide (j < i))) (.int i) (.int j) H Q := ⟨i, j, rfl, rfl, q⟩
theorem rdLe {i j : Int} (q : Q (.bl (decide (i ≤ j))) H) : rI0 (fun i j => .bl (decide (i ≤ j))) (.int i) (.int j) H Q := ⟨i, j, rfl, rfl, q⟩
theorem rdGe {i j : Int} (q : Q (.bl (decide (j ≤ i))) H) : rI0 (fun i j => .bl (decide (j ≤ i))) (.int i) (.int j) H Q := ⟨i, j, rfl, rfl, q⟩
theorem rdInt {i : Int} (q : Q (.int i) H) : rInt1 [.int i] H Q := .inl ⟨i, rfl, q⟩
theorem rdMin2 {m n : Nat} (q : Q (.int ((min m n : Nat) : Int)) H) : rMin2 [.int (m : Int), .int (n : Int)] H Q := ⟨_, _, rfl, by
  have e : (if (n : Int) < m then (n : Int) else m) = ((min m n : Nat) : Int) := by split <;> omega
  rw [e]
  exact q⟩
theorem rdIntB {b : Bool} (q : Q (.int (if b then 1 else 0)) H) : rInt1 [.bl b] H Q := .inr ⟨b, rfl, q⟩
theorem rdAbs {i : Int} (q : Q (.int (i.natAbs : Int)) H) : rAbs1 [.int i] H Q := ⟨i, rfl, by
  have e : (if i < 0 then -i else i) = (i.natAbs : Int) := by split <;> omega
  rw [e]
  exact q⟩
theorem rdLenT {a : Addr} {xs : List V} (h : SqT K H a xs) (q : Q (.int (xs.length : Int)) H) : rLenS K [.ref a] H Q := ⟨a, xs, rfl, .inr h, q⟩
theorem rdLenL {a : Addr} {xs : List V} (h : SqL K H a xs) (q : Q (.int (xs.length : Int)) H) : rLenS K [.ref a] H Q := ⟨a, xs, rfl, .inl h, q⟩
theorem rdIxT {a : Addr} {xs : List V} {i : Int} {v : V} (h : SqT K H a xs) (e : atI xs i = some v) (q : Q v H) : rIx K (.ref a) (.int i) H Q := .inr (.inl ⟨a, xs, i, v, rfl, rfl, h, e, q⟩)
theorem rdIxL {a : Addr} {xs : List V} {i : Int} {v : V} (h : SqL K H a xs) (e : atI xs i = some v) (q : Q v H) : rIx K (.ref a) (.int i) H Q := .inl ⟨a, xs, i, v, rfl, rfl, h, e, q⟩
theorem ixFr0 {x : V} {r : Rat} (h : Fr K H x r) (q : Q (.int r.num) H) : rIx K x (.int 0) H Q := by
  obtain ⟨a, rfl, hs⟩ := h.get
  exact rdIxT hs rfl q
theorem ixFr1 {x : V} {r : Rat} (h : Fr K H x r) (q : Q (.int (r.den : Int)) H) : rIx K x (.int 1) H Q := by
  obtain ⟨a, rfl, hs⟩ := h.get
  exact rdIxT hs rfl q
theorem dpPair {x : V} {p q : Int} (h : Dp K H x (.tuple [.int p, .int q])) : ∃ a, x = .ref a ∧ SqT K H a [.int p, .int q] := by
  cases h with
  | tup hs ha =>
    cases ha with
    | cons h1 h2 =>
      cases h2 with
      | cons h2 h3 =>
        cases h3
        cases h1
        cases h2
        exact ⟨_, rfl, hs⟩
theorem ixP0 {x : V} {p z : Int} (h : Dp K H x (.tuple [.int p, .int z])) (q : Q (.int p) H) : rIx K x (.int 0) H Q := by
  obtain ⟨a, rfl, hs⟩ := dpPair h
  exact rdIxT hs rfl q
theorem ixP1 {x : V} {p z : Int} (h : Dp K H x (.tuple [.int p, .int z])) (q : Q (.int z) H) : rIx K x (.int 1) H Q := by
  obtain ⟨a, rfl, hs⟩ := dpPair h
  exact rdIxT hs rfl q
theorem rdGcd {a b : Int} (q : Q (.int ((Nat.gcd a.natAbs b.natAbs : Nat) : Int)) H) : rGcd [.int a, .int b] H Q := ⟨a, b, rfl, q⟩
end
theorem noExc {P : Program} {w : World} {H : Hp} {s : Shared} {e : Value} {s' : Shared} (z : L2.CX P w [] H s (fun _ _ _ => False) e s') : False := by
  obtain ⟨_, _, _, _, _, _, _, _, _, _, _, _, z⟩ := z
  exact z.elim
def dInt : PyData → Bool
  | .int _ => true
  | .bool _ => true
  | _ => false
def dBool : PyData → Bool
  | .bool _ => true
  | _ => false
def dStr : PyData → Bool
  | .str _ => true
  | _ => false
def dTup : PyData → Bool
  | .tuple _ => true
  | _ => false
def dLst : PyData → Bool
  | .list _ => true
  | _ => false
section
variable {K : PySem.W.Frag} {H : Hp} {Q : VK} {v : V} {d : PyData}
theorem isiInt (h : Dp K H v d) (q : Q (.bl (dInt d)) H) : rIsi K [v, .ty "int"] H Q := isiD h (by
  cases h with
  | non => exact (by decide +kernel : kitB "NoneType" "int" = some false)
  | bl b => exact (by decide +kernel : kitB "bool" "int" = some true)
  | int i => exact (by decide +kernel : kitB "int" "int" = some true)
  | str x => exact (by decide +kernel : kitB "str" "int" = some false)
  | lst h1 h2 => exact (by decide +kernel : kitB "list" "int" = some false)
  | tup h1 h2 => exact (by decide +kernel : kitB "tuple" "int" = some false)) q
theorem isiBool (h : Dp K H v d) (q : Q (.bl (dBool d)) H) : rIsi K [v, .ty "bool"] H Q := isiD h (by
  cases h with
  | non => exact (by decide +kernel : kitB "NoneType" "bool" = some false)
  | bl b => exact (by decide +kernel : kitB "bool" "bool" = some true)
  | int i => exact (by decide +kernel : kitB "int" "bool" = some false)
  | str x => exact (by decide +kernel : kitB "str" "bool" = some false)
  | lst h1 h2 => exact (by decide +kernel : kitB "list" "bool" = some false)
  | tup h1 h2 => exact (by decide +kernel : kitB "tuple" "bool" = some false)) q
theorem isiStr (h : Dp K H v d) (q : Q (.bl (dStr d)) H) : rIsi K [v, .ty "str"] H Q := isiD h (by
  cases h with
  | non => exact (by decide +kernel : kitB "NoneType" "str" = some false)
  | bl b => exact (by decide +kernel : kitB "bool" "str" = some false)
  | int i => exact (by decide +kernel : kitB "int" "str" = some false)
  | str x => exact (by decide +kernel : kitB "str" "str" = some true)
  | lst h1 h2 => exact (by decide +kernel : kitB "list" "str" = some false)
  | tup h1 h2 => exact (by decide +kernel : kitB "tuple" "str" = some false)) q
theorem isiTup (h : Dp K H v d) (q : Q (.bl (dTup d)) H) : rIsi K [v, .ty "tuple"] H Q := isiD h (by
  cases h with
  | non => exact (by decide +kernel : kitB "NoneType" "tuple" = some false)
  | bl b => exact (by decide +kernel : kitB "bool" "tuple" = some false)
  | int i => exact (by decide +kernel : kitB "int" "tuple" = some false)
  | str x => exact (by decide +kernel : kitB "str" "tuple" = some false)
  | lst h1 h2 => exact (by decide +kernel : kitB "list" "tuple" = some false)
  | tup h1 h2 => exact (by decide +kernel : kitB "tuple" "tuple" = some true)) q
theorem isiLst (h : Dp K H v d) (q : Q (.bl (dLst d)) H) : rIsi K [v, .ty "list"] H Q := isiD h (by
  cases h with
  | non => exact (by decide +kernel : kitB "NoneType" "list" = some false)
  | bl b => exact (by decide +kernel : kitB "bool" "list" = some false)
  | int i => exact (by decide +kernel : kitB "int" "list" = some false)
  | str x => exact (by decide +kernel : kitB "str" "list" = some false)
  | lst h1 h2 => exact (by decide +kernel : kitB "list" "list" = some true)
  | tup h1 h2 => exact (by decide +kernel : kitB "tuple" "list" = some false)) q
end
def dNon : PyData → Bool
  | .none => true
  | _ => false
section
variable {K : PySem.W.Frag} {H : Hp} {Q : VK} {v : V} {d : PyData}
theorem dNon_eq (h : Dp K H v d) : decide (v = .non) = dNon d := by cases h <;> rfl
theorem rdIsN (h : Dp K H v d) (q : Q (.bl (dNon d)) H) : rIsN1 v .non H Q := ⟨rfl, by rw [dNon_eq h]; exact q⟩
theorem rdNotN (h : Dp K H v d) (q : Q (.bl (!dNon d)) H) : rNotN1 v .non H Q := ⟨rfl, by rw [dNon_eq h]; exact q⟩
theorem rdEqB {i j : Bool} (q : Q (.bl (decide (i = j))) H) : rEqA K (.bl i) (.bl j) H Q := .inl <| ⟨rfl, by
  have e : decide (V.bl i = V.bl j) = decide (i = j) := by
    rw [dec_bl]
    exact Bool.beq_eq_decide_eq ..
  rw [e]
  exact q⟩
theorem rdEqS {i j : Str} (q : Q (.bl (decide (i = j))) H) : rEqA K (.str i) (.str j) H Q := .inl <| ⟨rfl, by
  have e : decide (V.str i = V.str j) = decide (i = j) := by
    rw [dec_str]
    exact Bool.beq_eq_decide_eq ..
  rw [e]
  exact q⟩
theorem rdNeS {i j : Str} (q : Q (.bl (!decide (i = j))) H) : rNeA K (.str i) (.str j) H Q := .inl <| ⟨rfl, by
  have e : decide (V.str i = V.str j) = decide (i = j) := by
    rw [dec_str]
    exact Bool.beq_eq_decide_eq ..
  rw [e]
  exact q⟩
end
/-- a display's reading, by name -/
def rTup : List V → Hp → VK → Prop := fun xs H Q => xs.length ≤ sizeLine ∧ ∀ p, H p = none → Q (.ref p) (upd H p (.tup xs))
def rLst : List V → Hp → VK → Prop := fun xs H Q => xs.length ≤ sizeLine ∧ ∀ p, H p = none → Q (.ref p) (upd H p (.lst xs))
def tTupN (t : TA) : TE := fun σ H Q => t σ H fun xs H1 => rTup xs H1 Q
def tLstN (t : TA) : TE := fun σ H Q => t σ H fun xs H1 => rLst xs H1 Q
section
variable {K : PySem.W.Frag} {H : Hp} {Q : VK}
theorem rdTupD {xs : List V} {ds : List PyData} (h : DpAll K H xs ds) (hz : xs.length ≤ sizeLine) (q : ∀ H' v, Same H H' → Dp K H' v (.tuple ds) → Q v H') : rTup xs H Q :=
  ⟨hz, fun p np => q _ _ (sameNew np) (.tup (.inl (.inl upd_same)) (Dp.monoAll (sameNew np) _ _ h))⟩
end
theorem small_line {n : Nat} (h : n ≤ 1000) : n ≤ sizeLine := Nat.le_of_lt (small1000 h)
theorem dpAll_len {K : PySem.W.Frag} {H : Hp} : ∀ {xs : List V} {ds : List PyData}, DpAll K H xs ds → xs.length = ds.length
  | _, _, .nil => rfl
  | _, _, .cons _ h2 => congrArg Nat.succ (dpAll_len h2)
end Ub
namespace Ub
open PySem PySem.Spec PyProof.Rows L2 UbM
/-- all stands but what is at d -/
def But (d : Addr) (H H' : Hp) : Prop := ∀ b o, b ≠ d → H b = some o → H' b = some o
/-- the deck at d, its cells at s -/
def DeckS (H : Hp) (d s : Addr) : Prop := ∃ (ns : List Int) (i r m : Int), H d = some (.lst [.ref s, .int i, .int r, .int m]) ∧ H s = some (.lst (ns.map V.int)) ∧ s ≠ d ∧ 0 ≤ i ∧ ns.length ≤ 63
/-- what a draw leaves: all but the deck's own list; the deck keeps its cells -/
structure SameX (d : Addr) (H H' : Hp) : Prop where
  but : But d H H'
  cells : ∀ s, DeckS H d s → DeckS H' d s
theorem SameX.refl {d : Addr} (H : Hp) : SameX d H H := ⟨fun _ _ _ h => h, fun _ h => h⟩
theorem SameX.trans {d : Addr} {H H1 H2 : Hp} (a : SameX d H H1) (b : SameX d H1 H2) : SameX d H H2 := ⟨fun c o n h => b.but c o n (a.but c o n h), fun s h => b.cells s (a.cells s h)⟩
theorem Same.x {d : Addr} {H H' : Hp} (a : Same H H') : SameX d H H' := ⟨fun b o _ h => a b o h, fun s ⟨ns, i, r, m, h1, h2, h3⟩ => ⟨ns, i, r, m, a _ _ h1, a _ _ h2, h3⟩⟩
theorem but_upd {d : Addr} {H : Hp} {o : HO} : But d H (upd H d o) := fun b x n h => by
  rw [upd_ne n]
  exact h
structure Deck (H : Hp) (d : Addr) : Prop where
  ex : ∃ (s : Addr) (ns : List Int) (i r m : Int), H d = some (.lst [.ref s, .int i, .int r, .int m]) ∧ H s = some (.lst (ns.map V.int)) ∧ s ≠ d ∧ 0 ≤ i ∧ ns.length ≤ 63
theorem Deck.mono {H H' : Hp} {d : Addr} (D : Deck H d) (e : Same H H') : Deck H' d := by
  obtain ⟨s, ns, i, r, m, h1, h2, h3, h4, h5⟩ := D.ex
  exact ⟨s, ns, i, r, m, e _ _ h1, e _ _ h2, h3, h4, h5⟩
/-- no list in it -/
def noL : PyData → Bool
  | .none | .bool _ | .int _ | .str _ => true
  | .list _ | .dict _ => false
  | .tuple ds => decide (ds.length ≤ 1000) && noLs ds
where noLs : List PyData → Bool
  | [] => true
  | d :: ds => noL d && noLs ds
theorem tseqX {K : PySem.W.Frag} {H H' : Hp} {d a : Addr} {xs : List V} (e : But d H H') (hd : ∃ ys, H d = some (.lst ys)) (h : SqT K H a xs) : SqT K H' a xs := by
  obtain ⟨ys, hd⟩ := hd
  rcases h with (h | ⟨o, h⟩) | h
  · exact .inl (.inl (e _ _ (ne_of h hd (by intro z; cases z)) h))
  · exact .inl (.inr ⟨o, e _ _ (ne_of h hd (by intro z; cases z)) h⟩)
  · exact .inr h
mutual
theorem Dp.monoX {K : PySem.W.Frag} {H H' : Hp} {d : Addr} (e : But d H H') (hd : ∃ ys, H d = some (.lst ys)) : ∀ (dt : PyData) (v : V), noL dt = true → Dp K H v dt → Dp K H' v dt
  | .none, _, _, h => by cases h; exact .non
  | .bool b, _, _, h => by cases h; exact .bl b
  | .int i, _, _, h => by cases h; exact .int i
  | .str x, _, _, h => by cases h; exact .str x
  | .list ds, _, n, _ => by
    unfold noL at n
    cases n
  | .tuple ds, _, n, h => by
    cases h with
    | tup hs ha => exact .tup (tseqX e hd hs) (Dp.monoXAll e hd ds _ (by unfold noL at n; exact (Bool.and_eq_true_iff.mp n).2) ha)
  | .dict _, _, _, h => by cases h
theorem Dp.monoXAll {K : PySem.W.Frag} {H H' : Hp} {d : Addr} (e : But d H H') (hd : ∃ ys, H d = some (.lst ys)) : ∀ (ds : List PyData) (vs : List V), noL.noLs ds = true → DpAll K H vs ds → DpAll K H' vs ds
  | [], _, _, h => by cases h; exact .nil
  | dt :: ds, _, n, h => by
    unfold noL.noLs at n
    obtain ⟨n1, n2⟩ := Bool.and_eq_true_iff.mp n
    cases h with
    | cons h1 h2 => exact .cons (Dp.monoX e hd dt _ n1 h1) (Dp.monoXAll e hd ds _ n2 h2)
end
theorem Deck.lst {H : Hp} {d : Addr} (D : Deck H d) : ∃ ys, H d = some (.lst ys) := by
  obtain ⟨s, ns, i, r, m, h1, _⟩ := D.ex
  exact ⟨_, h1⟩
theorem Deck.cells {H : Hp} {d : Addr} (D : Deck H d) : ∃ s, DeckS H d s := by
  obtain ⟨s, ns, i, r, m, h⟩ := D.ex
  exact ⟨s, ns, i, r, m, h⟩
end Ub
namespace Ub
open PySem PySem.Spec PyProof.Rows L2 UbM
def sumR (rs : List Rat) : Rat := rs.foldl (· + ·) 0
theorem bd_sum {n : Nat} : ∀ (rs : List Rat) (m : Nat) (r : Rat), Bd m r → (∀ x ∈ rs, Bd n x) → Bd (m + rs.length * (n + 1)) (rs.foldl (· + ·) r)
  | [], m, r, h, _ => by simpa using h
  | x :: rs, m, r, h, hx => by
    have h1 := bd_sum rs (m + n + 1) (r + x) (bd_add h (hx x (List.mem_cons_self ..))) fun y hy => hx y (List.mem_cons_of_mem _ hy)
    refine h1.mono ?_
    rw [List.length_cons, Nat.succ_mul]
    omega
/-- v is a list of the fractions rs -/
def Frs (K : PySem.W.Frag) (H : Hp) (v : V) (rs : List Rat) : Prop := Dp K H v (.list (rs.map frD))
theorem Frs.mono {K : PySem.W.Frag} {H H' : Hp} {v : V} {rs : List Rat} (e : Same H H') (h : Frs K H v rs) : Frs K H' v rs := Dp.mono e _ _ h
theorem Frs.get {K : PySem.W.Frag} {H : Hp} {v : V} {rs : List Rat} (h : Frs K H v rs) : ∃ a xs, v = .ref a ∧ SqL K H a xs ∧ DpAll K H xs (rs.map frD) := by
  unfold Frs at h
  cases h with
  | lst h1 h2 => exact ⟨_, _, rfl, h1, h2⟩
theorem noL_frs : ∀ rs : List Rat, noL.noLs (rs.map frD) = true
  | [] => rfl
  | r :: rs => by
    show (noL (frD r) && noL.noLs (rs.map frD)) = true
    rw [noL_frs rs]
    rfl
/-- a tracked list of fractions, apart from the deck -/
structure Own (K : PySem.W.Frag) (H : Hp) (d a : Addr) (rs : List Rat) : Prop where
  ex : ∃ xs, H a = some (.lst xs) ∧ a ≠ d ∧ DpAll K H xs (rs.map frD)
theorem Own.mono {K : PySem.W.Frag} {H H' : Hp} {d a : Addr} {rs : List Rat} (h : Own K H d a rs) (e : Same H H') : Own K H' d a rs := by
  obtain ⟨xs, h1, h2, h3⟩ := h.ex
  exact ⟨xs, e _ _ h1, h2, Dp.monoAll e _ _ h3⟩
theorem Own.push {K : PySem.W.Frag} {H : Hp} {d a : Addr} {rs : List Rat} {v : V} {r : Rat} {xs : List V} (h1 : H a = some (.lst xs)) (h2 : a ≠ d) (h3 : DpAll K H xs (rs.map frD)) (hv : Fr K H v r) : Own K (upd H a (.lst (xs ++ [v]))) d a (rs ++ [r]) := by
  refine ⟨_, upd_same, h2, ?_⟩
  have e : But a H (upd H a (.lst (xs ++ [v]))) := but_upd
  have g := Dp.monoXAll e ⟨_, h1⟩ _ _ (noL_frs rs) h3
  have gv := Dp.monoX e ⟨_, h1⟩ (frD r) v rfl hv
  rw [List.map_append]
  exact app g gv
where
  app {K : PySem.W.Frag} {H : Hp} : ∀ {xs : List V} {ds : List PyData} {v : V} {d : PyData}, DpAll K H xs ds → Dp K H v d → DpAll K H (xs ++ [v]) (ds ++ [d])
    | _, _, _, _, .nil, h => .cons h .nil
    | _, _, _, _, .cons h1 h2, h => .cons h1 (app h2 h)
theorem dpAll_snoc {K : PySem.W.Frag} {H : Hp} {xs : List V} {ds : List PyData} {v : V} {d : PyData} (h : DpAll K H xs ds) (h2 : Dp K H v d) : DpAll K H (xs ++ [v]) (ds ++ [d]) := Own.push.app h h2
theorem forZip {K : PySem.W.Frag} {a b : Addr} {xs ys : List V} {g : TG} {tb : TS} {nx : L2.St → Hp → Prop} {rt : VK} {σ : L2.St} {H : Hp} (Pv : Nat → L2.St → Hp → Prop) (h0 : Pv 0 σ H) (hl : ∀ i σ H, Pv i σ H → SqL K H a xs ∧ SqL K H b ys)
    (hs : ∀ i x y σ H T, xs[i]? = some x → ys[i]? = some y → Pv i σ H → H T = none → g (.ref T) σ (upd H T (.tup [x, y])) fun σ2 H2 => tb { nx := Pv (i + 1), rt := rt, ct := Pv (i + 1), bk := nx } σ2 H2) (hd : ∀ σ H, Pv (min xs.length ys.length) σ H → nx σ H) :
    ∃ W : Nat → Nat → L2.St → Hp → Prop, (∃ m, W 0 m σ H) ∧ ∀ i m σ H, W i m σ H →
      ((Itz K a b).stop i H ∧ nx σ H) ∨ ((Itz K a b).go i H ∧ ∃ N : L2.St → Hp → Prop, (∀ σ' H', N σ' H' → ∃ m', m' < m ∧ W (i + 1) m' σ' H') ∧ ∀ x H', (Itz K a b).yld i H x H' → g x σ H' fun σ2 H2 => tb { nx := N, rt := rt, ct := N, bk := nx } σ2 H2) := by
  refine ⟨fun i m σ H => m = min xs.length ys.length - i ∧ i ≤ min xs.length ys.length ∧ Pv i σ H, ⟨_, rfl, Nat.zero_le _, h0⟩, ?_⟩
  rintro i m σ H ⟨rfl, hi, p⟩
  obtain ⟨q1, q2⟩ := hl i σ H p
  by_cases hlt : i < min xs.length ys.length
  · have l1 : i < xs.length := by omega
    have l2 : i < ys.length := by omega
    refine .inr ⟨⟨xs, ys, xs[i], ys[i], q1, q2, List.getElem?_eq_getElem l1, List.getElem?_eq_getElem l2⟩, Pv (i + 1), fun σ' H' p' => ⟨_, ?_, rfl, hlt, p'⟩, fun x H' yl => ?_⟩
    · omega
    · obtain ⟨T, x1, y1, rfl, nT, rfl, f1, f2⟩ := yl
      exact hs i x1 y1 σ H T (f1 _ q1) (f2 _ q2) p nT
  · have e : i = min xs.length ys.length := by omega
    refine .inl ⟨⟨xs, ys, q1, q2, by omega⟩, hd σ H (e ▸ p)⟩
end Ub
namespace UbG
open PySem PySem.Spec PyProof.Rows L2
/-- the expression's own scope: its names (with their places in N) are local or captured -/
structure GexOk (N : List Str) (sc scope : Scope) (own : List (Str × Nat)) : Prop where
  kind : scope.kind = .function
  co : scope.isCoroutine = false
  nocell : ∀ y ∈ scope.names, y.2 ≠ .cell
  dot : scope.names.lookup (".0" : Str) = some NameKind.local
  uniq : ∀ y ∈ scope.names, scope.names.lookup y.1 = some y.2
  ix : ∀ p ∈ own, N[p.2]? = some p.1
  free : ∀ y ∈ scope.names, y.2 = .free → sc.names.lookup y.1 = some .cell ∨ sc.names.lookup y.1 = some .free
  own : ∀ y ∈ scope.names, y.2 = .local → y.1 ∈ own.map (·.1) ∨ y.1 ∉ N
/-- the context of its frame -/
abbrev gex (X : Cx) (A : Around) (s : Shared) (H : Hp) (genv : Env) (fp : List Addr) (pn : List (Addr × Obj)) : Cx :=
  { X with A := A, s_0 := s, H_0 := H, env := genv, outer := X.stack, stack := genv :: X.stack, ex := fp, fn := fun _ => false, calm := true, pn := pn, xe := fun _ _ => False }
section
variable {X : Cx} {pins : List (Addr × Obj)} {σ : L2.St} {H : Hp} {s : Shared}
theorem Inv.same {s' : Shared} (I : Inv X pins σ H s) (hh : s'.heap = s.heap) (ho : s'.os = s.os) (hb : AllBare s'.gens) : Inv X pins σ H s' :=
  I.call' (ch := []) ho (by rw [hh]; exact Un.kept fun _ _ e => e) (by rw [hh]; exact I.hok) hb fun b z => absurd z (by simp)
theorem Inv.more {s' : Shared} (I : Inv X pins σ H s) (hh : ∀ b o, s.heap.get? b = some o → s'.heap.get? b = some o) (ho : s'.os = s.os) (hb : AllBare s'.gens) : Inv X pins σ H s' :=
  I.call' (ch := []) ho (Un.kept hh) (I.hok.kept hh) hb fun b z => absurd z (by simp)
theorem Inv.nofr (I : Inv X pins σ H s) {b : Addr} (hb : s.heap.objs.size ≤ b) : b ∉ frs X.stack := fun z => by
  rcases List.mem_cons.mp (I.stkSub _ z) with e | e
  · have h1 := I.lt
    rw [← e] at h1
    exact Nat.lt_irrefl _ (Nat.lt_of_lt_of_le h1 hb)
  · exact I.nofs hb e
theorem gex_start {scope : Scope} {own : List (Str × Nat)} {fp : List Addr} {A : Around} {genv : Env} {code : Value} {s5 : Shared} {m : Str → Option Value} {pn : List (Addr × Obj)} (I : Inv X pins σ H s) (ok : GexOk X.N X.env.scope scope own) (hN : X.N.Nodup)
    (hfp : ∀ b ∈ fp, FpOk X pins H b ∧ b < s.heap.objs.size) (hA : A.handled = none) (hfr : A.frames = some (genv :: X.stack)) (hg : genv = genEnv scope (cloFrom X.env.cells scope.names []) s.heap.objs.size code builtinsNs X.env)
    (os : s5.os = s.os) (bare : AllBare s5.gens) (kp : ∀ b o, s.heap.get? b = some o → s5.heap.get? b = some o) (ns : s5.heap.Ns s.heap.objs.size m)
    (hpn : ∀ p ∈ pn, s5.heap.get? p.1 = some p.2 ∧ s.heap.objs.size < p.1 ∧ ∀ v, p.2.data ≠ .cell v) : Inv (gex X A s H genv fp pn) [] (wipe σ (own.map (·.2))) H s5 := by
  have hfree : ∀ y ∈ scope.names, y.2 = .free → ∃ c, X.env.cells.lookup y.1 = some c := fun y hy e => by
    rcases ok.free y hy e with k | k
    · exact I.ok.has _ (.inl k)
    · exact I.ok.has _ (.inr k)
  have hL : genv.locals = s.heap.objs.size := by rw [hg]; rfl
  have hcl : genv.cells = cloFrom X.env.cells scope.names [] := by rw [hg]; rfl
  have hsc : genv.scope = scope := by rw [hg]; rfl
  have cm : ∀ {y c}, genv.cells.lookup y = some c → scope.names.lookup y = some .free ∧ X.env.cells.lookup y = some c ∧ c < s.heap.objs.size := fun {y c} e => by
    rw [hcl] at e
    rcases cloFrom_mem (PySem.mem_of_lookup e) with hm | ⟨h1, rfl⟩
    · cases hm
    · obtain ⟨c, hc⟩ := hfree _ h1 rfl
      rw [hc]
      obtain ⟨w, z⟩ := I.cell _ _ hc
      exact ⟨ok.uniq _ h1, rfl, z.lt⟩
  have look : ∀ {y}, scope.names.lookup y = some .free → ∃ c, genv.cells.lookup y = some c ∧ X.env.cells.lookup y = some c := fun {y} hl => by
    have hy : (y, NameKind.free) ∈ scope.names := PySem.mem_of_lookup hl
    obtain ⟨c', e'⟩ := mem_lookup (cloFrom_has (cells := X.env.cells) (acc := []) hy)
    rw [← hcl] at e'
    exact ⟨c', e', (cm e').2.1⟩
  have okG : (gex X A s H genv fp pn).Ok := by
    refine ⟨I.ok.mod, by show genv.scope.kind = _; rw [hsc]; exact ok.kind, by show genv.globals = _; rw [hg]; exact I.ok.glob, by show genv.builtins = _; rw [hg]; rfl, by show s.heap.objs.size ≤ genv.locals; rw [hL]; exact Nat.le_refl _,
      fun y z c e1 e2 => I.ok.inj y z c (cm e1).2.1 (cm e2).2.1, fun y hy => ?_, fun y c z e => ?_, fun _ => hA, hfr, .inr ⟨rfl, by show genv.frame = some genv.locals; rw [hg]; rfl⟩, fun b hb => ⟨?_, fun y c e z => (hfp b hb).1.2.2.2.2.1 y c (cm e).2.1 z⟩, I.bs, Nat.le_trans I.ok.bsz I.sz, fun b o e hb => ?_, fun b hb z => ?_, I.stack, I.stkFree⟩
    · show ∃ c, genv.cells.lookup y = some c
      rcases hy with hy | hy
      · have hy : genv.scope.names.lookup y = some .cell := hy
        rw [hsc] at hy
        exact absurd rfl (ok.nocell _ (PySem.mem_of_lookup hy))
      · have hy : genv.scope.names.lookup y = some .free := hy
        rw [hsc] at hy
        obtain ⟨c, h1, _⟩ := look hy
        exact ⟨c, h1⟩
    · cases z
    · show b ≠ genv.locals
      rw [hL]; exact Nat.ne_of_lt (hfp b hb).2
    · rcases (hfp b hb).1.2.2.2.1 with z | z
      · exact I.ok.noex b o e z
      · exact absurd (Nat.lt_of_lt_of_le (Heap.lt_size e) (Nat.le_trans I.ok.bsz z)) (Nat.lt_irrefl _)
    · rcases List.mem_cons.mp (I.stkSub b z) with z | z
      · exact (hfp b hb).1.2.1 z
      · exact (hfp b hb).1.2.2.1 z
  refine ⟨okG, os, bare, Un.kept kp, ⟨m, by show Heap.Ns _ genv.locals _; rw [hL]; exact ns, fun i y av e1 e2 e3 => ?_⟩, fun y c e => ?_, ?_, fun y c e => I.freeC y c (cm e).2.1, fun p hp => ?_, I.hok.kept kp, by rw [wipe_length]; exact I.len⟩
  · obtain ⟨e2, hne⟩ := wipe_some e2
    have hfr : scope.names.lookup y = some .free := by
      have e3 : Vis genv.scope y := e3
      rw [hsc] at e3
      rcases e3 with e3 | e3 | e3
      · rcases ok.own _ (PySem.mem_of_lookup e3) rfl with e' | e'
        · obtain ⟨p, hp, hpy⟩ := List.mem_map.mp e'
          have e3 := ok.ix p hp
          have : p.1 = y := hpy
          rw [this] at e3
          exact absurd (List.mem_map.mpr ⟨p, hp, nodup_ix hN e3 e1⟩) hne
        · exact absurd (List.mem_of_getElem? e1) e'
      · exact absurd rfl (ok.nocell _ (PySem.mem_of_lookup e3))
      · exact e3
    obtain ⟨m, hn, hl⟩ := I.loc
    have hvis : Vis X.env.scope y := (ok.free _ (PySem.mem_of_lookup hfr) rfl).elim (fun k => .inr (.inl k)) (fun k => .inr (.inr k))
    obtain ⟨w, r, q⟩ := hl i y av e1 e2 hvis
    refine ⟨w, r, .inr ⟨.inr (by show genv.scope.names.lookup y = _; rw [hsc]; exact hfr), ?_⟩⟩
    obtain ⟨c, h1, h2⟩ := look hfr
    rcases q with ⟨k, _⟩ | ⟨_, c', e', z⟩
    · have k : X.env.scope.names.lookup y = some .local := k
      rcases ok.free _ (PySem.mem_of_lookup hfr) rfl with k' | k' <;> rw [show X.env.scope.names.lookup y = _ from k'] at k <;> cases k
    · rw [h2] at e'; cases e'
      exact ⟨c, h1, z.keeps kp⟩
  · obtain ⟨w, z⟩ := I.cell y c (cm e).2.1
    exact ⟨w, z.keeps kp⟩
  · show H genv.locals = none
    rw [hL]; exact I.hok.fresh (Nat.le_refl _)
  · rw [List.append_nil] at hp
    obtain ⟨h1, h2, h3⟩ := hpn p hp
    refine ⟨h1, I.hok.fresh (Nat.le_of_lt h2), by show p.1 ≠ genv.locals; rw [hL]; exact Nat.ne_of_gt h2, Inv.nofr I (Nat.le_of_lt h2), h3⟩
end
/-- the end of its run -/
def GR (G : Cx) (fp : List Addr) (Qd : Hp → Prop) : GenEnd := fun n s₀ r s₁ => ((r = .ok (.ret .none) ∨ r = .ok .next) ∧ ∃ σ' H', Inv G [] σ' H' s₁ ∧ (∀ b ∈ fp, H' b = none) ∧ Qd H') ∨ ∃ e, r = .error e ∧ False
/-- a truth value is handed out; on stopv nobody asks further -/
def GY (G : Cx) (fp : List Addr) (stopv : Bool) (Qs : Hp → Prop) : Protocol := fun n s₀ v s kap =>
  ∃ b σ' H', v = .bool b ∧ Inv G [] σ' H' s ∧ (∀ b ∈ fp, H' b = none) ∧ (b = stopv → Qs H') ∧ (b ≠ stopv → ∀ s', s'.heap = s.heap → s'.os = s.os → AllBare s'.gens → kap (.send .none) s')
/-- what a turn is to give -/
def Turns (J : It) (g : TG) (te : TE) (vs : List Nat) (σw : L2.St) (stopv : Bool) (Qs Qd : Hp → Prop) (W : Nat → Nat → Hp → Prop) : Prop := ∀ i m H, W i m H →
  (J.stop i H ∧ Qd H) ∨ (J.go i H ∧ ∃ Nx : Hp → Prop, (∀ H', Nx H' → ∃ m', m' < m ∧ W (i + 1) m' H') ∧ ∀ x H', J.yld i H x H' → g x σw H' fun σ2 H2 => wipe σ2 vs = σw ∧ te σ2 H2 fun y H3 => ∃ b, y = .bl b ∧ (b = stopv → Qs H3) ∧ (b ≠ stopv → Nx H3))
theorem seg_gex {G : Cx} {Aw : Around} {tg iter elt : Expr} {scope : Scope} {pos : Pos} {J : It} {fp : List Addr} {it : Addr} {tn : Nat → Heap → Prop} {g : TG} {te : TE} {vs : List Nat} {σw : L2.St} {stopv : Bool} {Qs Qd : Hp → Prop} {W : Nat → Nat → Hp → Prop}
    (T : Turn G.prog G.w G.K tg J fp it tn) (hex : G.ex = fp) (hc : G.calm = true) (hxe : G.xe = fun _ _ => False) (hpn : ∀ b ∈ fp, ∀ p ∈ G.pn, p.1 ≠ b)
    (hA : Aw.over (.compLoop (.GeneratorExp elt [⟨tg, iter, [], 0⟩] scope pos) 0 (.ref it) .none G.env) [] = G.A) (hco : G.env.scope.isCoroutine = false)
    (pg : PG G tg g) (pe : PE G elt te) (turn : Turns J g te vs σw stopv Qs Qd W) :
    ∀ (n i m : Nat) (H : Hp) (s₀ s : Shared), m < n → W i m H → Inv G [] σw H s → tn i s.heap → (∀ b ∈ fp, H b = none) →
      Seg (model G.prog G.w) Aw (GR G fp Qd) (GY G fp stopv Qs) n s₀ (.compLoop (.GeneratorExp elt [⟨tg, iter, [], 0⟩] scope pos) 0 (.ref it) .none G.env)
        ((model G.prog G.w).den (.compLoop (.GeneratorExp elt [⟨tg, iter, [], 0⟩] scope pos) 0 (.ref it) .none G.env)) [] s := by
  have stat : ∀ {σ' : L2.St} {H' : Hp} {s' : Shared}, Inv G [] σ' H' s' → (∀ b ∈ fp, H' b = none) → ∀ b ∈ fp, FpOk G [] H' b := fun {σ' H' s'} I' hn b hb =>
    ⟨hn b hb, (I'.ok.exf b (by rw [hex]; exact hb)).1, I'.ok.exfs b (by rw [hex]; exact hb), .inl (by rw [hex]; exact hb), fun x c e => (I'.ok.exf b (by rw [hex]; exact hb)).2 x c e, fun p hp => by rw [List.append_nil] at hp; exact hpn b hb p hp⟩
  intro n
  induction n with
  | zero => intro i m H s₀ s hm; exact absurd hm (Nat.not_lt_zero _)
  | succ n ih =>
    intro i m H s₀ s hm w0 I st hn
    show Seg _ Aw _ _ _ s₀ _ ((compTurn (.GeneratorExp elt [⟨tg, iter, [], 0⟩] scope pos) 0 (.ref it) .none G.env).onRaise (leaving G.env)) [] s
    rw [compTurn_gen, Sem.onRaise_eq_wrap]
    refine seg_bind_wrap (wpAny_standAt ?_)
    rcases turn i m H w0 with ⟨stop, qd⟩ | ⟨go, Nx, hNx, step⟩
    · refine seg_bind_wrap ?_
      rw [hA]
      refine wpAny_mono (T.done G rfl rfl rfl hc i [] s σw H (fun _ _ => False) I (stat I hn) st stop) (fun r s6 ⟨hr, I6⟩ => ?_) fun _ _ z => z.elim
      subst hr
      exact seg_end (.ok .next) (.inl ⟨.inr rfl, σw, H, I6, hn, qd⟩)
    · refine seg_bind_wrap ?_
      rw [hA]
      refine wpAny_mono (T.item G rfl rfl rfl hc i [] s σw H (fun _ _ => False) I (stat I hn) st go) (fun r s6 ⟨u, hr, h6⟩ => ?_) fun _ _ z => z.elim
      subst hr
      refine seg_bind_wrap ?_
      rw [hA]
      refine wpAny_mono h6 (fun _ s7 ⟨x, H7, I7, r7, y7, st7, n7⟩ => ?_) fun _ _ z => z.elim
      have I7' := I7.pinned (stat I7 n7) (T.obj _ _ st7)
      refine seg_bind_wrap ?_
      rw [hA]
      refine wpAny_mono (pg.run _ s7 _ H7 x u _ I7' r7 (step x H7 y7)) (fun _ s8 ⟨σ8, H8, I8, hw8, q8⟩ => ?_) fun _ _ z => by rw [hxe] at z; exact z.elim
      refine seg_bind_wrap ?_
      simp only [List.forIn_nil]
      refine wpAny_pure ?_
      simp only [if_true]
      have hy : ∀ v, yieldOut G.env v = yieldValue v := fun v => by simp only [yieldOut, hco, Bool.false_eq_true, if_false]
      simp only [hy]
      rw [Sem.bind_eq_wrap', Sem.bind_eq_wrap', Sem.wrap_wrap, Sem.wrap_wrap]
      refine seg_wrap ?_
      rw [hA]
      refine wpAny_mono (pe.run _ s8 σ8 H8 _ I8 q8) (fun y s9 ⟨yv, H9, I9, r9, b, hb, hs, hnx⟩ => ?_) fun _ _ z => by rw [hxe] at z; exact z.elim
      subst hb
      have ey : y = Value.bool b := r9
      subst ey
      have pin' : ∀ b ∈ fp, ∀ o, s7.heap.get? b = some o → s9.heap.get? b = some o ∧ H9 b = none := fun b hb o e =>
        let z := I9.pin (b, o) (List.mem_append_right _ (List.mem_append_right _ (mem_pinsAt hb e)))
        ⟨z.1, z.2.1⟩
      have hl : σw.length = σ8.length := by rw [← hw8, wipe_length]
      have I10 : Inv G [] σw H9 s9 := (I9.unpinned (pins := [])).weak hl fun j v e => by
        rw [← hw8] at e
        exact (wipe_some e).1
      have n10 : ∀ b ∈ fp, H9 b = none := fun b hb => by
        obtain ⟨o, e, _⟩ := T.obj _ _ st7 b hb
        exact (pin' b hb o e).2
      have st10 : tn (i + 1) s9.heap := T.keep _ _ _ st7 fun b hb o e => (pin' b hb o e).1
      refine seg_at (seg_yield rfl rfl rfl ⟨b, σw, H9, rfl, I10, n10, hs, fun nb s' hh ho hbare => ?_⟩)
      obtain ⟨m', hm', w'⟩ := hNx H9 (hnx nb)
      refine seg_again rfl (ih (i + 1) m' H9 s' s' (by omega) w' (Inv.same I10 hh ho hbare) (by rw [hh]; exact st10) n10)
theorem seg_gex0 {G : Cx} {Aw : Around} {tg iter elt : Expr} {scope : Scope} {pos : Pos} {J : It} {fp : List Addr} {it : Addr} {tn : Nat → Heap → Prop} {n : Nat} {s₀ s : Shared} {R : GenEnd} {Y : Protocol}
    (T : Turn G.prog G.w G.K tg J fp it tn) (st : tn 0 s.heap)
    (loop : Seg (model G.prog G.w) Aw R Y n s₀ (.compLoop (.GeneratorExp elt [⟨tg, iter, [], 0⟩] scope pos) 0 (.ref it) .none G.env)
        ((model G.prog G.w).den (.compLoop (.GeneratorExp elt [⟨tg, iter, [], 0⟩] scope pos) 0 (.ref it) .none G.env)) [] s) :
    Seg (model G.prog G.w) Aw R Y n s₀ (.compStart (.GeneratorExp elt [⟨tg, iter, [], 0⟩] scope pos) 0 (.ref it) .none G.env)
        ((model G.prog G.w).den (.compStart (.GeneratorExp elt [⟨tg, iter, [], 0⟩] scope pos) 0 (.ref it) .none G.env)) [] s := by
  show Seg _ Aw _ _ _ s₀ _ ((compStart (.GeneratorExp elt [⟨tg, iter, [], 0⟩] scope pos) 0 (.ref it) .none G.env).onRaise (leaving G.env)) [] s
  unfold compStart
  rw [Sem.onRaise_eq_wrap]
  show Seg _ Aw _ _ _ s₀ _ ((ask >>= _).wrap _ _ _ _) [] s
  refine seg_bind_wrap (wpAny_askSetting ?_)
  split
  · exact seg_again rfl loop
  · first
      | exact seg_bind_wrap (wpAny_rule (seg_bind_wrap (wpAny_standAt (seg_bind_wrap (T.self _ 0 s _ _ st (seg_again rfl loop))))))
      | (refine seg_bind_wrap (wpAny_rule ?_); show Seg _ Aw _ _ _ s₀ _ ((standAt iter.pos >>= _).wrap _ _ _ _) [] s; exact seg_bind_wrap (wpAny_standAt (seg_bind_wrap (T.self _ 0 s _ _ st (seg_again rfl loop)))))
/-- the generator, not begun or asleep, at most n turns left -/
def GAt (G : Cx) (A : Around) (fp : List Addr) (stopv : Bool) (Qs Qd : Hp → Prop) (a : Addr) (g : Nat) (n : Nat) (s : Shared) : Prop :=
  s.heap.IsGen a g ∧ s.heap.NoLimit ∧ AllBare s.gens ∧ ∃ gs, s.gens[g]? = some gs ∧ ∀ s'', s''.heap = s.heap → s''.os = s.os → AllBare s''.gens → gs.Goes (model G.prog G.w) A (GR G fp Qd) (GY G fp stopv Qs) n (.send .none) s''
section
variable {G : Cx} {A : Around} {fp : List Addr} {Qs Qd : Hp → Prop} {a : Addr} {g : Nat} {R : Result → Shared → Prop}
theorem any_loop (hh : A.handled = none) (hd : A.depth < recursionLimit) (hgen : ∀ σ' H' s', Inv G [] σ' H' s' → s'.heap.IsGen a g)
    (hend : ∀ s' σ' H', Inv G [] σ' H' s' → (∀ b ∈ fp, H' b = none) → Qd H' → R (.ok (.ret (.bool false))) s')
    (hstop : ∀ s' σ' H', Inv G [] σ' H' s' → (∀ b ∈ fp, H' b = none) → Qs H' → R (.ok (.ret (.bool true))) s') :
    ∀ (n : Nat) (s : Shared), GAt G A.in1.in1 fp true Qs Qd a g n s → codeAny (model G.prog G.w) A (.builtin "any.loop" ⟨[.ref a], []⟩) R s := by
  have goes : ∀ {gs : GenState} {B : Around} {n : Nat} {r : Resume} {s : Shared}, gs.Goes (model G.prog G.w) B (GR G fp Qd) (GY G fp true Qs) n r s →
      gs.Goes (model G.prog G.w) B (fun n s₀ r s1 => ((r = .ok (.ret .none) ∨ r = .ok .next) ∧ (∃ σ' H', Inv G [] σ' H' s1 ∧ (∀ b ∈ fp, H' b = none) ∧ Qd H')) ∨ ∃ e, r = .error e ∧ (fun (_ : Value) (_ : Shared) => False) e s1) (GY G fp true Qs) n r s := fun h => h
  intro n
  induction n with
  | zero =>
    rintro s ⟨hg, hl, hb, gs, hgs, hgo⟩
    refine codeAny_builtin F.entry_any_loop ?_
    rw [Around.under_plainId F.plain_any_loop _]
    show wpAny _ A.in1 (pyNext (.ref a) >>= _) _ _ s
    refine wpAny_bind (next_genG (A := A.in1) hh hl hd hg hgs (goes (hgo _ rfl rfl (allBare_setGen hb rfl))) (fun v s₁ gs' hbare hv => ?_) (fun s₁ hp h' hk => ?_) fun e s₁ he => he.elim)
    · obtain ⟨b, σ', H', rfl, I', n', hs, hk⟩ := hv
      refine wpAny_bind (wpAny_holding (wpAny_truthy_bool ?_))
      refine wpAny_bind (wpAny_letGo ?_)
      cases b with
      | false => exact (hk (by decide) _ rfl rfl I'.bare).elim
      | true =>
        simp only [if_true]
        exact wpAny_bind (wpAny_rule (wpAny_pure (hstop _ σ' H' (Inv.same I' rfl rfl (allBare_setGen I'.bare hbare)) n' (hs rfl))))
    · obtain ⟨σ', H', I', n', hq⟩ := hp
      refine wpAny_bind (wpAny_rule (wpAny_pure ?_))
      exact hend _ σ' H' (Inv.more I' hk rfl (allBare_setGen I'.bare rfl)) n' hq
  | succ n ih =>
    rintro s ⟨hg, hl, hb, gs, hgs, hgo⟩
    have hgl : g < s.gens.size := (Array.getElem?_eq_some_iff.mp hgs).1
    refine codeAny_builtin F.entry_any_loop ?_
    rw [Around.under_plainId F.plain_any_loop _]
    show wpAny _ A.in1 (pyNext (.ref a) >>= _) _ _ s
    refine wpAny_bind (GenW.wpAny_gsz (n := g + 1) hgl (next_genG (A := A.in1) hh hl hd hg hgs (goes (hgo _ rfl rfl (allBare_setGen hb rfl))) (fun v s₁ gs' hbare hv => ?_) (fun s₁ hp h' hk => ?_) fun e s₁ he => he.elim))
    · intro hsz
      obtain ⟨b, σ', H', rfl, I', n', hs, hk⟩ := hv
      refine wpAny_bind (wpAny_holding (wpAny_truthy_bool ?_))
      refine wpAny_bind (wpAny_letGo ?_)
      cases b with
      | false =>
        simp only [Bool.false_eq_true, if_false]
        have hsz1 : g < s₁.gens.size := by
          have q : (s₁.setGen g gs').gens.size = s₁.gens.size := GenW.setGen_size _ _ _
          have hsz' : g + 1 ≤ (s₁.setGen g gs').gens.size := hsz
          omega
        refine wpAny_pure ⟨plainId_quiet F.plain_any_loop _, ih (s₁.setGen g gs') ⟨hgen σ' H' s₁ I', I'.nolimit, allBare_setGen I'.bare hbare, gs', setGen_at hsz1, fun s'' h1 h2 h3 => ?_⟩⟩
        exact hk (by decide) s'' h1 h2 h3
      | true =>
        simp only [if_true]
        exact wpAny_bind (wpAny_rule (wpAny_pure (hstop _ σ' H' (Inv.same I' rfl rfl (allBare_setGen I'.bare hbare)) n' (hs rfl))))
    · intro hsz
      obtain ⟨σ', H', I', n', hq⟩ := hp
      refine wpAny_bind (wpAny_rule (wpAny_pure ?_))
      exact hend _ σ' H' (Inv.more I' hk rfl (allBare_setGen I'.bare rfl)) n' hq
theorem call_any_gen {G : Cx} {A : Around} {fp : List Addr} {Qs Qd : Hp → Prop} {a : Addr} {g n : Nat} {s : Shared} {Q E : Value → Shared → Prop} (hh : A.handled = none) (hd : A.depth < recursionLimit) (hgen : ∀ σ' H' s', Inv G [] σ' H' s' → s'.heap.IsGen a g)
    (hG : GAt G A.in1.in1 fp true Qs Qd a g n s) (hend : ∀ s' σ' H', Inv G [] σ' H' s' → (∀ b ∈ fp, H' b = none) → Qd H' → Q (.bool false) s')
    (hstop : ∀ s' σ' H', Inv G [] σ' H' s' → (∀ b ∈ fp, H' b = none) → Qs H' → Q (.bool true) s') : wpAny (model G.prog G.w) A (call (.builtin "any") [.ref a]) Q E s := by
  refine call_function_tree F.kind_any F.plain_any F.entry_any (F.args_any1 _) ?_
  unfold Builtin.«any»
  refine wpAny_bind (m := oneArg "any" _) (wpAny_pure ?_)
  refine wpAny_bind (wpAny_pyIter_gen hG.1 ?_)
  exact wpAny_pure ⟨plainId_quiet F.plain_any_loop _, any_loop hh hd hgen hend hstop n s hG⟩
end
section
variable {X : Cx} {pins : List (Addr × Obj)} {σ : L2.St} {H : Hp} {s : Shared}
/-- the generator is made -/
theorem gex_made {c P : Addr} {tg elt iter : Expr} {gpos : Pos} {scope : Scope} {own : List (Str × Nat)} {k : Nat} {g : TG} {te : TE} {wi : TI} {stopv : Bool} {Qs Qd : Hp → Prop}
    (hr : Room (k + 1) X.A) (hN : X.N.Nodup) (TB : GxR.TabB X.base X.mg c P) (hcode : X.env.code = .ref c) (ok : GexOk X.N X.env.scope scope own) (hi : PI X tg iter wi)
    (hpe : ∀ (A : Around) (s : Shared) (H : Hp) (C : Addr) (code : Value) (fp : List Addr) (pn : List (Addr × Obj)), Room k A → let G := gex X A s H (genEnv scope (cloFrom X.env.cells scope.names []) C code builtinsNs X.env) fp pn
      PG G tg g ∧ PE G elt te)
    (hs : ∀ v, genFold iter X.env v = pure v) (I : Inv X pins σ H s)
    (h : wi σ H fun J H1 => GxR.TabG H1 P ∧ ∀ H2, GxR.Tabbed P H1 H2 → ∃ W : Nat → Nat → Hp → Prop, (∃ m, W 0 m H2) ∧ Turns J g te (own.map (·.2)) (wipe σ (own.map (·.2))) stopv Qs Qd W) :
    wpAny (model X.prog X.w) X.A (eval (.GeneratorExp elt [⟨tg, iter, [], 0⟩] scope gpos) X.env) (fun v s5 => ∃ (A' : Around) (sG : Shared) (HG : Hp) (genv : Env) (fp : List Addr) (pn : List (Addr × Obj)) (a : Addr) (gn n : Nat),
      v = .ref a ∧ GAt (gex X A' sG HG genv fp pn) X.A.in1.in1 fp stopv Qs Qd a gn n s5 ∧ (∀ σ' H' s', Inv (gex X A' sG HG genv fp pn) [] σ' H' s' → s'.heap.IsGen a gn) ∧
      (∀ σ' H' s', Inv (gex X A' sG HG genv fp pn) [] σ' H' s' → (∀ b ∈ fp, H' b = none) → Inv X pins σ H' s')) X.xe s := by
  have hfree : ∀ y ∈ scope.names, y.2 = .free → ∃ c, X.env.cells.lookup y.1 = some c := fun y hy e => by
    rcases ok.free y hy e with k | k
    · exact I.ok.has _ (.inl k)
    · exact I.ok.has _ (.inr k)
  refine wpAny_GeneratorExp_make ok.co (closure_ok hfree) ok.nocell ok.dot ok.kind (by have := hr.dp; omega) ?_ hs
  refine thn (hi.run pins s σ H _ I h) fun xv s1 hx => thn hx fun itv s2 h2 => ?_
  obtain ⟨it, fp, tn, J, H1, rfl, I2, T, st2, f2, ⟨ps, hP, ht⟩, q⟩ := h2
  have hPs : s2.heap.get? P = some { cls := .none, data := .fields ps } := I2.hok P _ hP
  have cd : PySem.W.CodeHd s2.heap c P := TB.code.keeps I2.bk
  have lim2 : s2.heap.NoLimit := I2.nolimit
  have cont : ∀ (code : Value) (h3 : Heap) (tk : Nat) (ps' : Array Value), Heap.ExtBut P s2.heap h3 → s2.heap.objs.size ≤ h3.objs.size → h3.get? P = some { cls := .none, data := .fields ps' } → (∃ more, ps' = ps ++ more) → TriplesOk ps'.toList →
      wpAny (model X.prog X.w) X.A (builtinsFor X.env.globals X.env.builtins) (fun bi s₄ =>
        ∀ h', h'.Ns s₄.heap.objs.size (fun y => if y = ".0" then some (.ref it) else none) → Heap.SameBut s₄.heap.objs.size (s₄.heap.push { cls := .type "frame", data := .dict #[] }) h' →
          (fun v s5 => ∃ (A' : Around) (sG : Shared) (HG : Hp) (genv : Env) (fp : List Addr) (pn : List (Addr × Obj)) (a : Addr) (gn n : Nat),
            v = .ref a ∧ GAt (gex X A' sG HG genv fp pn) X.A.in1.in1 fp stopv Qs Qd a gn n s5 ∧ (∀ σ' H' s', Inv (gex X A' sG HG genv fp pn) [] σ' H' s' → s'.heap.IsGen a gn) ∧
            (∀ σ' H' s', Inv (gex X A' sG HG genv fp pn) [] σ' H' s' → (∀ b ∈ fp, H' b = none) → Inv X pins σ H' s')) (Value.ref h'.objs.size) { s₄ with
            gens := s₄.gens.push (.fresh (.compStart (.GeneratorExp elt [⟨tg, iter, [], 0⟩] scope gpos) 0 (.ref it) .none (genEnv scope (cloFrom X.env.cells scope.names []) s₄.heap.objs.size code bi X.env))),
            toks := s₄.toks + 1 + 1 + 1,
            heap := h'.push { cls := .type "generator", data := .fields #[.int s₄.gens.size 0, .str "<genexpr>" (s₄.toks + 1), .str (X.env.qual ++ "<genexpr>") (s₄.toks + 1 + 1)] } }) X.xe { s2 with heap := h3, toks := tk } := by
    intro code h3 tk ps' hx hsz hP3 ⟨more, hmore⟩ ht3
    subst hmore
    obtain ⟨bm, ob, e1, e2, e3, e4, e5, e6, e7, e8⟩ := TB.bm
    have keep3 : ∀ b u, b ≠ P → s2.heap.get? b = some u → h3.get? b = some u := fun b u hb e => hx b u hb e
    refine wpAny_builtinsFor (m := X.mg) (by rw [I2.ok.glob]; exact (I2.mod.glob.keeps I2.bk).extBut hx TB.gP) e1 e2 (keep3 _ _ e4 (I2.bk _ _ e5)) e6 e7 e8 ?_
    intro h' hn' hs'
    have I3 : Inv X pins σ (upd H1 P (.tbl (ps ++ more))) { s2 with heap := h3, toks := tk } := GxR.inv_tab (g' := s2.gens) (d' := s2.drawn) I2 hP keep3 hP3 I2.bare
    have hT2 : GxR.Tabbed P H1 (upd H1 P (.tbl (ps ++ more))) := ⟨⟨ps ++ more, upd_same, ht3⟩, fun b hb => upd_ne hb⟩
    obtain ⟨W, ⟨m0, w0⟩, turn⟩ := q _ hT2
    have hsz' : h'.objs.size = h3.objs.size + 1 := by rw [hs'.1, Heap.size_push]
    have keep' : ∀ b o, h3.get? b = some o → h'.get? b = some o := fun b o e => hs'.extBut b o (Nat.ne_of_lt (Heap.lt_size e)) (Heap.get?_push_of_some _ e)
    have nP : ∀ b ∈ fp, b ≠ P := fun b hb z => by
      have := (f2 b hb).1
      rw [z, hP] at this
      cases this
    have sz : ∀ b ∈ fp, b < h3.objs.size := fun b hb => by
      obtain ⟨o, e, _⟩ := T.obj _ _ st2 b hb
      exact Heap.lt_size (keep3 b o (nP b hb) e)
    have f3 : ∀ b ∈ fp, FpOk X pins (upd H1 P (.tbl (ps ++ more))) b ∧ b < ({ s2 with heap := h3, toks := tk } : Shared).heap.objs.size := fun b hb =>
      ⟨⟨by rw [upd_ne (nP b hb)]; exact (f2 b hb).1, (f2 b hb).2⟩, sz b hb⟩
    generalize hgo : ({ cls := .type "generator", data := .fields #[.int s2.gens.size 0, .str "<genexpr>" (tk + 1), .str (X.env.qual ++ "<genexpr>") (tk + 1 + 1)] } : Obj) = go
    have hgen : ∀ h : Heap, h.get? h'.objs.size = some go → h.IsGen h'.objs.size s2.gens.size := fun h e => ⟨go, _, _, e, by rw [← hgo], by rw [← hgo], by rw [← hgo]⟩
    have hpush : (h'.push go).get? h'.objs.size = some go := by
      rw [← hgo]
      exact Heap.get?_push_size _ rfl
    have hgd : ∀ v, go.data ≠ .cell v := fun v z => by rw [← hgo] at z; cases z
    have keep5 : ∀ b o, h3.get? b = some o → (h'.push go).get? b = some o := fun b o e => Heap.get?_push_of_some _ (keep' b o e)
    have st5 : tn 0 (h'.push go) := T.keep _ _ _ st2 fun b hb o e => keep5 b o (keep3 b o (nP b hb) e)
    obtain ⟨genv, hge⟩ : ∃ genv, genv = genEnv scope (cloFrom X.env.cells scope.names []) h3.objs.size code builtinsNs X.env := ⟨_, rfl⟩
    obtain ⟨A', hA'⟩ : ∃ A', A' = X.A.in1.in1.over (.compLoop (.GeneratorExp elt [⟨tg, iter, [], 0⟩] scope gpos) 0 (.ref it) .none genv) [] := ⟨_, rfl⟩
    have roomA : Room k A' := by
      rw [hA']
      refine ⟨hr.hd, ?_, ?_⟩
      · have := hr.dp
        show X.A.depth + 1 + 3 * k + 5 < _
        omega
      · have := hr.un
        show X.A.units + 1 + 1 + 3 + 16 * k + 200 < _
        omega
    have frA : A'.frames = some (genv :: X.stack) := by
      rw [hA']
      show pushEnvs [genv] X.A.frames = _
      rw [I.ok.frames]
      rfl
    obtain ⟨pg, pe⟩ := hpe A' { s2 with heap := h3, toks := tk } (upd H1 P (.tbl (ps ++ more))) h3.objs.size code fp [(h'.objs.size, go)] roomA
    rw [← hge] at pg pe
    have lim5 : (h'.push go).NoLimit := I3.nolimit.keeps keep5
    refine ⟨A', { s2 with heap := h3, toks := tk }, upd H1 P (.tbl (ps ++ more)), genv, fp, [(h'.objs.size, go)], h'.objs.size, s2.gens.size, m0 + 1, rfl, ?_, fun σ' H' s' I' => hgen _ (I'.pin (h'.objs.size, go) (List.mem_append_left _ (List.mem_singleton.mpr rfl))).1, fun σ' H' s' I' n' => ?_⟩
    · refine ⟨hgen _ hpush, lim5, AllBare.push I2.bare rfl, _, Array.getElem?_push_size .., fun s'' hh ho hb => ⟨rfl, ?_⟩⟩
      show Seg _ _ _ _ _ _ (.compStart (.GeneratorExp elt [⟨tg, iter, [], 0⟩] scope gpos) 0 (.ref it) .none (genEnv scope (cloFrom X.env.cells scope.names []) h3.objs.size code builtinsNs X.env)) _ _ _
      rw [← hge]
      have IG : Inv (gex X A' { s2 with heap := h3, toks := tk } (upd H1 P (.tbl (ps ++ more))) genv fp [(h'.objs.size, go)]) [] (wipe σ (own.map (·.2))) (upd H1 P (.tbl (ps ++ more))) s'' := by
        refine gex_start (m := fun y => if y = ".0" then some (.ref it) else none) I3 ok hN f3 (by rw [hA']; exact hr.hd) frA hge ho hb (by rw [hh]; exact keep5) (by rw [hh]; exact hn'.push _) fun p hp => ?_
        rw [List.mem_singleton.mp hp, hh]
        refine ⟨hpush, ?_, hgd⟩
        show h3.objs.size < h'.objs.size
        omega
      refine seg_gex0 (G := gex X A' { s2 with heap := h3, toks := tk } (upd H1 P (.tbl (ps ++ more))) genv fp [(h'.objs.size, go)]) T (by rw [hh]; exact st5) ?_
      refine seg_gex (G := gex X A' { s2 with heap := h3, toks := tk } (upd H1 P (.tbl (ps ++ more))) genv fp [(h'.objs.size, go)]) T rfl rfl rfl (fun b hb p hp => ?_) hA'.symm (by show genv.scope.isCoroutine = false; rw [hge]; exact ok.co) pg pe turn (m0 + 1) 0 m0 _ _ _ (Nat.lt_succ_self _) w0 IG (by rw [hh]; exact st5) fun b hb => (f3 b hb).1.1
      rw [List.mem_singleton.mp hp]
      show h'.objs.size ≠ b
      exact Nat.ne_of_gt (by rw [hsz']; exact Nat.lt_succ_of_lt (sz b hb))
    · exact I3.call' (ch := fp) I'.os I'.base I'.hok I'.bare fun b hb => ⟨(f3 b hb).1.2.2.2.1, (f3 b hb).1.2.1, (f3 b hb).1.2.2.2.2.1, (f3 b hb).1.2.2.2.2.2⟩
  refine ⟨lim2, ?_⟩
  cases hf : codeAmong gpos ps.toList with
  | none =>
    refine wpAny_genexprCodeX hcode (cd.code hPs ht) (cd.tab hPs) hf fun c' h' tk hx hge hlt hco' _ htab' _ => ?_
    obtain ⟨o1, vs, f1, tf, fl, tg, inF, tx, tt, op, _, _, _, _, _, _, _, _, _, htr, _⟩ := hco'
    exact cont _ h' tk _ hx (Nat.le_trans hge (Nat.le_of_lt hlt)) htab'.2 ⟨_, rfl⟩ htr
  | some cv =>
    refine wpAny_genexprCode_hit hcode (cd.code hPs ht) hf ?_
    exact cont cv s2.heap s2.toks ps (Heap.ExtBut.refl _ _) (Nat.le_refl _) hPs ⟨#[], by simp⟩ ht
def tAnyG (P : Addr) (wi : TI) (g : TG) (te : TE) (vs : List Nat) : TE := fun σ H Q => wi σ H fun J H1 => GxR.TabG H1 P ∧ ∀ H2, GxR.Tabbed P H1 H2 → ∃ W : Nat → Nat → Hp → Prop, (∃ m, W 0 m H2) ∧ Turns J g te vs (wipe σ vs) true (fun H' => Q (.bl true) H') (fun H' => Q (.bl false) H') W
section
variable {c P : Addr} {tg elt iter : Expr} {p pos gpos : Pos} {scope : Scope} {own : List (Str × Nat)} {k : Nat} {g : TG} {te : TE} {wi : TI}
theorem pe_anyG (hr : Room (k + 1) X.A) (hN : X.N.Nodup) (hg : Gl X "any") (hm : X.mg "any" = none) (hb : bootBuiltins "any" = some (.builtin "any")) (TB : GxR.TabB X.base X.mg c P) (hcode : X.env.code = .ref c) (ok : GexOk X.N X.env.scope scope own) (hi : PI X tg iter wi)
    (hpe : ∀ (A : Around) (s : Shared) (H : Hp) (C : Addr) (code : Value) (fp : List Addr) (pn : List (Addr × Obj)), Room k A → let G := gex X A s H (genEnv scope (cloFrom X.env.cells scope.names []) C code builtinsNs X.env) fp pn
      PG G tg g ∧ PE G elt te)
    (hs : ∀ v, genFold iter X.env v = pure v)
    (he : starEach [.GeneratorExp elt [⟨tg, iter, [], 0⟩] scope gpos] X.env = (false, eval (.GeneratorExp elt [⟨tg, iter, [], 0⟩] scope gpos) X.env) :: starEach [] X.env := by rfl) :
    PE X (.Call (.Name "any" p) [.GeneratorExp elt [⟨tg, iter, [], 0⟩] scope gpos] [] pos) (tAnyG P wi g te (own.map (·.2))) := by
  refine ⟨fun pins s σ H Q I h => ?_⟩
  refine wpAny_Call_Name_kw (ld_blt I hg hm hb ?_)
  refine PyProof.Rows.callWith_builtin1 ?_ he (by rfl)
  rw [he]
  show wpAny _ _ (spliced ((false, eval (.GeneratorExp elt [⟨tg, iter, [], 0⟩] scope gpos) X.env) :: backTo pos (starEach [] X.env))) _ _ s
  refine Calls.spliced_cons (thn (gex_made (stopv := true) hr hN TB hcode ok hi hpe hs I h) fun v s5 ⟨A', sG, HG, genv, fp, pn, a, gn, n, hv, hG, hgen, back⟩ => ?_)
  subst hv
  refine Calls.spliced_nil ?_
  exact call_any_gen (G := gex X A' sG HG genv fp pn) hr.hd (by have := hr.dp; omega) hgen hG (fun s' σ' H' I' n' q => ⟨.bl false, H', back σ' H' s' I' n', rfl, q⟩) fun s' σ' H' I' n' q => ⟨.bl true, H', back σ' H' s' I' n', rfl, q⟩
end
end
structure SameT (H H' : Hp) : Prop where
  but : ∀ b o, H b = some o → (∀ ps, o ≠ .tbl ps) → H' b = some o
  tab : ∀ P, GxR.TabG H P → GxR.TabG H' P
theorem SameT.refl (H : Hp) : SameT H H := ⟨fun _ _ h _ => h, fun _ h => h⟩
theorem SameT.trans {H H1 H2 : Hp} (a : SameT H H1) (b : SameT H1 H2) : SameT H H2 := ⟨fun c o h n => b.but c o (a.but c o h n) n, fun P h => b.tab P (a.tab P h)⟩
theorem TabG.mono {H H' : Hp} {P : Addr} (e : Same H H') (h : GxR.TabG H P) : GxR.TabG H' P := by
  obtain ⟨ps, h1, h2⟩ := h
  exact ⟨ps, e _ _ h1, h2⟩
theorem sameT {H H' : Hp} (e : Same H H') : SameT H H' := ⟨fun b o h _ => e b o h, fun _ h => TabG.mono e h⟩
theorem tabbedT {H H' : Hp} {P : Addr} (hP : GxR.TabG H P) (t : GxR.Tabbed P H H') : SameT H H' := by
  obtain ⟨ps, h1, h2⟩ := hP
  refine ⟨fun b o h n => ?_, fun Q h => ?_⟩
  · rw [t.2 b fun z => by rw [z, h1] at h; cases h; exact n ps rfl]
    exact h
  · by_cases hQ : Q = P
    · rw [hQ]
      exact t.1
    · obtain ⟨qs, g1, g2⟩ := h
      exact ⟨qs, by rw [t.2 Q hQ]; exact g1, g2⟩
section
variable {K : PySem.W.Frag} {H H' : Hp}
theorem SameT.seq {a : Addr} {xs : List V} (e : SameT H H') (h : SqL K H a xs) : SqL K H' a xs := by
  rcases h with (h | ⟨o, h⟩) | h
  · exact .inl (.inl (e.but _ _ h fun _ z => by cases z))
  · exact .inl (.inr ⟨o, e.but _ _ h fun _ z => by cases z⟩)
  · exact .inr h
theorem SameT.tseq {a : Addr} {xs : List V} (e : SameT H H') (h : SqT K H a xs) : SqT K H' a xs := by
  rcases h with (h | ⟨o, h⟩) | h
  · exact .inl (.inl (e.but _ _ h fun _ z => by cases z))
  · exact .inl (.inr ⟨o, e.but _ _ h fun _ z => by cases z⟩)
  · exact .inr h
mutual
theorem Dp.monoT (e : SameT H H') : ∀ (d : PyData) (v : V), Dp K H v d → Dp K H' v d
  | .none, _, h => by cases h; exact .non
  | .bool b, _, h => by cases h; exact .bl b
  | .int i, _, h => by cases h; exact .int i
  | .str x, _, h => by cases h; exact .str x
  | .list ds, _, h => by
    cases h with
    | lst hs ha => exact .lst (SameT.seq e hs) (Dp.monoTAll e ds _ ha)
  | .tuple ds, _, h => by
    cases h with
    | tup hs ha => exact .tup (SameT.tseq e hs) (Dp.monoTAll e ds _ ha)
  | .dict _, _, h => by cases h
theorem Dp.monoTAll (e : SameT H H') : ∀ (ds : List PyData) (vs : List V), DpAll K H vs ds → DpAll K H' vs ds
  | [], _, h => by cases h; exact .nil
  | d :: ds, _, h => by
    cases h with
    | cons h1 h2 => exact .cons (Dp.monoT e d _ h1) (Dp.monoTAll e ds _ h2)
end
theorem Fr.monoT {v : V} {r : Rat} (e : SameT H H') (h : Ub.Fr K H v r) : Ub.Fr K H' v r := Dp.monoT e _ _ h
theorem Frs.monoT {v : V} {rs : List Rat} (e : SameT H H') (h : Ub.Frs K H v rs) : Ub.Frs K H' v rs := Dp.monoT e _ _ h
end
section
variable {P : Program} {w : World} {K : PySem.W.Frag} {mg : Str → Option Value} {base : Heap} {x qual : Str} {params : Arguments} {body : List Stmt} {scope : Scope} {dvs : List V} {kws : List (Str × V)} {f : Addr} {fd : FuncData}
theorem FunD.okT {CX : CXT} {N ps : List Str} {k : Nat} {sp : Sp} {p : He.Defn} (F : FunD K x qual params body scope dvs kws f fd) (hf : f = He.fAd K p) (S : FnScope N ps scope) (len : ∀ vs H Q E, sp vs H Q E → vs.length = ps.length)
    (hbody : ∀ (A : Around) (outer : List Env) (s : Shared) (H : Hp) (vs : List V) (Q : VK) (E : XK), Room k (A.deeper (envOfC qual scope s.heap.objs.size f (.ref (He.cT K p).1))) → sp vs H Q E →
      ∃ t, PSs (cxOf CX P w K mg base N qual scope f (.ref (He.cT K p).1) A outer s H E) body t ∧ t { nx := fun _ H' => Q .non H', rt := Q } (start N vs) H) : FnOk P w K mg base CX (k + 1) f fd ps sp := by
  obtain ⟨oc, od, dV, kV, doc, pm, an, cdv, ct, osl, rfl, lk, hcd, _, _⟩ := F.ex
  obtain ⟨c, hc⟩ := He.codeIn_ref hcd
  subst hc
  have e : (He.cT K p).1 = c := He.codeOf_eq (by rw [← hf]; exact lk) rfl
  refine fn_of lk hcd S len fun A outer s H vs Q E hr hsp => ?_
  have h := hbody A outer s H vs Q E (by rw [e]; exact hr) hsp
  rw [e] at h
  exact h
end
theorem endOfLawT {l : PySem.W.OpenLaw} {n k : Nat} {q : Program} {loose : List Str} {XP : (Str → Option Value) → Heap → Prop} {YP : World → Heap → Prop} {d : DefRec} {x : Str}
    (most : l.most = some n) (small : n ≤ sizeLine) (plain : d.params.defaults = []) (room : Room k callerA) (tf : List He.Defn)
    (all : ∀ (w : World) (mg : Str → Option Value) (fa : Addr) (h : Heap), YP w h → h.Ns mainGlobals mg → mg d.name = some (.ref fa) → ∃ (K : PySem.W.Frag) (fd : FuncData) (sp : Sp), K.In h ∧
      (∀ p ∈ tf, PySem.W.codeHdIn K (He.cT K p).1 (He.cT K p).2 = true) ∧ (∀ p ∈ tf, K.lookup (He.cT K p).2 = none) ∧ (∀ p ∈ tf, h.get? (He.cT K p).2 = some { cls := .none, data := .fields #[] }) ∧
      (∀ (s : Shared) (u : Value), BindsTo s fd ⟨[u], []⟩ [(x, u)]) ∧ (∀ (H : Hp) (a : Addr) (ns : List Int), ns.length ≤ n → (∀ z ∈ ns, Builtin.Int.intBits z ≤ 1048576) → (∀ p ∈ tf, GxR.TabG H (He.cT K p).2) → SqL K H a (ns.map V.int) → sp [.ref a] H (fun v _ => v = .bl true) E0) ∧
      ∀ base : Heap, K.In base → base.Ns mainGlobals mg → (∀ p ∈ tf, GxR.TabB base mg (He.cT K p).1 (He.cT K p).2) → FnOk l.prog w K mg base (L2.CX l.prog w) k fa fd [x] sp) :
    PySem.W.WalkO q loose XP YP l.row.toRowW d [] (fun f vs => PySem.call f vs) := by
  refine LamX.walk_ofTsE (CX := fun w => L2.CX l.prog w) (x := x) most small plain room (fun w mg fa h Y hn hm => ?_) fun w H s e s' z => Ub.noExc z
  obtain ⟨K, fd, sp, kin, hd, out, emp, bnd, want, ok⟩ := all w mg fa h Y hn hm
  refine ⟨K, kin, fd, tf.map (He.cT K), sp, fun p hp => ?_, fun p hp => ?_, fun p hp => ?_, bnd, fun H a ns hl hb hT hS => want H a ns hl hb (fun p hp => ?_) hS, fun base k2 g2 tb => ok base k2 g2 fun p hp => ?_⟩
  · obtain ⟨q, hq, rfl⟩ := List.mem_map.mp hp
    exact emp q hq
  · obtain ⟨q, hq, rfl⟩ := List.mem_map.mp hp
    exact out q hq
  · obtain ⟨q, hq, rfl⟩ := List.mem_map.mp hp
    exact PySem.W.codeHd_of_K kin (hd q hq)
  · exact ⟨#[], hT _ (List.mem_map.mpr ⟨p, hp, rfl⟩), True.intro⟩
  · obtain ⟨a, b, c⟩ := tb _ (List.mem_map.mpr ⟨p, hp, rfl⟩)
    exact ⟨a, b, c⟩
def gexC (N : List Str) (sc scope : Scope) (own : List (Str × Nat)) : Bool :=
  decide (scope.kind = .function) && (decide (scope.isCoroutine = false) && (scope.names.all (fun y => decide (y.2 ≠ .cell)) && (decide (scope.names.lookup (".0" : Str) = some NameKind.local) && (scope.names.all (fun y => decide (scope.names.lookup y.1 = some y.2)) &&
    (own.all (fun p => decide (N[p.2]? = some p.1)) && (scope.names.all (fun y => decide (y.2 = .free → (sc.names.lookup y.1 = some .cell ∨ sc.names.lookup y.1 = some .free))) && scope.names.all (fun y => decide (y.2 = .local → (y.1 ∈ own.map (·.1) ∨ y.1 ∉ N)))))))))
theorem gexOk_by {N : List Str} {sc scope : Scope} {own : List (Str × Nat)} (h : gexC N sc scope own = true) : GexOk N sc scope own := by
  unfold gexC at h
  simp only [Bool.and_eq_true, List.all_eq_true, decide_eq_true_eq] at h
  obtain ⟨h1, h2, h3, h4, h5, h6, h7, h8⟩ := h
  exact ⟨h1, h2, h3, h4, h5, h6, h7, h8⟩
section
open RT
variable {prog : Program} {w : World} {A : Around} {E : Value → Shared → Prop} {s : Shared}
theorem call_list_revI {it l : Addr} {items : Array Value} {Q : Value → Shared → Prop} (hh : A.handled = none) (hit : s.heap.IsRevIter it l ((items.size : Int) - 1)) (hl : s.heap.IsList l items) (hne : l ≠ it) (hn : items.size ≤ sizeLine)
    (hQ : ∀ (h' : Heap) (tk : Nat) (acc : Array Value) (c' : Nat), (∀ b o, b ≠ it → s.heap.get? b = some o → h'.get? b = some o) → h'.get? s.heap.objs.size = some (lstObj acc c') → ItemsOf (fun i v => items[items.size - 1 - i]? = some v) acc items.size → Q (.ref s.heap.objs.size) { s with heap := h', toks := tk }) :
    wpAny (model prog w) A (call (.type "list") [.ref it]) Q E s := by
  have W := (Walks.listRev (prog := prog) (w := w) (A := A.in1.in1) hh it l hne items).toS
  obtain ⟨oi, hoi, _⟩ := id hit
  obtain ⟨ol, hol, _⟩ := id hl
  have hSi : s.heap.objs.size ≠ it := Nat.ne_of_gt (Heap.lt_size hoi)
  have hSl : s.heap.objs.size ≠ l := Nat.ne_of_gt (Heap.lt_size hol)
  have hSf : s.heap.objs.size ∉ [it, l] := by simp only [List.mem_cons, List.not_mem_nil, or_false, not_or]; exact ⟨hSi, hSl⟩
  refine callType_codes (Q₁ := fun obj s₁ => obj = .ref s.heap.objs.size ∧ s₁ = { s with heap := s.heap.push { cls := .type "list", data := .seq #[] } }) F.called_list (F.typeCall_list_1 _) F.entry_list_init
    (code_list_new _ ⟨rfl, rfl⟩) fun obj s₁ h₁ => ?_
  obtain ⟨rfl, rfl⟩ := h₁
  have hS : (s.heap.push { cls := .type "list", data := .seq #[] }).get? s.heap.objs.size = some { cls := .type "list", data := .seq #[] } := Heap.get?_push_size _ rfl
  refine ⟨⟨_, hS, rfl⟩, F.args_list_init_2 _ _, ?_⟩
  show wpAny _ A.in1.in1 (do let old ← Builtin.List.listItems (.ref s.heap.objs.size); Builtin.List.listUpdate (.ref s.heap.objs.size) (fun _ => #[]); letGo old.toList.reverse; Builtin.List.listExtendWith (.ref s.heap.objs.size) (.ref it) .none) _ _ _
  refine wpAny_bind ?_
  unfold Builtin.List.listItems
  refine wpAny_bind (wpAny_seqItems hS rfl (wpAny_pure ?_))
  show wpAny _ A.in1.in1 (updateSeq s.heap.objs.size (fun _ => #[]) >>= fun _ => letGo (#[] : Array Value).toList.reverse >>= fun _ => Builtin.List.listExtendWith (.ref s.heap.objs.size) (.ref it) .none) _ _ _
  refine wpAny_bind (wpAny_updateSeq hS rfl ?_)
  have hS2 := Heap.get?_update_self (Obj.mapSeq (fun _ => (#[] : Array Value))) hS rfl
  refine wpAny_bind (wpAny_letGo ?_)
  have kp : ∀ b o, s.heap.get? b = some o → ((s.heap.push { cls := .type "list", data := .seq #[] }).update s.heap.objs.size (Obj.mapSeq (fun _ => (#[] : Array Value)))).get? b = some o := fun b o e =>
    (Heap.get?_update_other _ _ (Ne.symm (Nat.ne_of_lt (Heap.lt_size e)))).trans (Heap.get?_push_of_some _ e)
  generalize ((s.heap.push { cls := .type "list", data := .seq #[] }).update s.heap.objs.size (Obj.mapSeq (fun _ => (#[] : Array Value)))) = h2 at hS2 kp ⊢
  have hit1 : h2.IsRevIter it l ((items.size : Int) - 1) := hit.at fun o e => kp it o e
  have hl1 : h2.IsList l items := hl.at fun o e => kp l o e
  have hT : ({ s with heap := h2 } : Shared).TypeIs (.ref it) "list_reverseiterator" := Heap.IsRevIter.typeIs (s := { s with heap := h2 }) hit1
  have h1 : Builtin.List.listSameRef (.ref s.heap.objs.size) (.ref it) = false := by simp [Builtin.List.listSameRef, hSi]
  unfold Builtin.List.listExtendWith
  refine wpAny_bind (wpAny_typeOf hT ?_)
  rw [if_neg (by rw [h1]; decide)]
  refine wpAny_bind (wpAny_pyIter_revIter (s := { s with heap := h2 }) hit1 ?_)
  refine wpAny_bind (wpAny_holding ?_)
  unfold Builtin.List.listLengthHint
  refine wpAny_bind (wpAny_specialOf hT nolen_lri ?_)
  show wpAny _ A.in1.in1 (specialOf (Value.ref it) (Str.ofString "__length_hint__") >>= _) _ _ _
  refine wpAny_bind (wpAny_specialOf hT hint_lri ?_)
  generalize hid : ("list_reverseiterator.__length_hint__" : String) = id0
  wp_delta
  rw [show splitId id0 = some ("list_reverseiterator", "__length_hint__") from by subst hid; decide +kernel]
  subst hid
  refine wpAny_bind (wpAny_isInstance (b := true) hT (by rw [isSubtype_type]; kernel_rfl) ?_)
  refine wpAny_pure ?_
  rw [if_neg (by decide)]
  have e0 : ((items.size : Nat) : Int) - 1 - ((0 : Nat) : Int) = (items.size : Int) - 1 := by omega
  refine wpAny_pure ⟨plainId_quiet F.plain_extend_loop _, codeAny_extend_loopS W hn _ hSf _ items.size 0 _ _ _ rfl (Nat.zero_le _) ⟨Nat.zero_le _, by rw [e0]; exact hit1, hl1⟩ hS2 (ItemsOf.nil _) fun s' acc' c' hm hS' hacc => ?_⟩
  rw [Moved.eq_with hm]
  refine ⟨rfl, hQ s'.heap s'.toks acc' c' (fun b o hb e => hm.heap b o (fun hmem => ?_) (kp b o e)) hS' hacc⟩
  rcases List.mem_cons.mp hmem with e' | hmem
  · exact absurd (Heap.lt_size e) (by rw [e']; exact Nat.lt_irrefl _)
  · exact hb (List.mem_singleton.mp hmem)
end
def tListRev (K : PySem.W.Frag) (te : TE) : TE := fun σ H Q => te σ H fun v H1 => ∃ (a : Addr) (xs : List V), v = .ref a ∧ SqL K H1 a xs ∧ ∀ q, H1 q = none → Q (.ref q) (upd H1 q (.lst xs.reverse))
theorem pe_listRev {X : Cx} {e : Expr} {te : TE} {p p2 pos pos2 : Pos} (hc : X.calm = true) (hg : Gl X "list") (hm : X.mg "list" = none) (hb : bootBuiltins "list" = some (.type "list")) (hg2 : Gl X "reversed") (hm2 : X.mg "reversed" = none) (he : PE X e te)
    (hs : starEach [e] X.env = (false, eval e X.env) :: starEach [] X.env := by rfl)
    (hs2 : starEach [.Call (.Name "reversed" p2) [e] [] pos2] X.env = (false, eval (.Call (.Name "reversed" p2) [e] [] pos2) X.env) :: starEach [] X.env := by rfl) :
    PE X (.Call (.Name "list" p) [.Call (.Name "reversed" p2) [e] [] pos2] [] pos) (tListRev X.K te) := by
  refine ⟨fun pins s σ H Q I h => ?_⟩
  refine Call_ (ld_blt I hg hm hb (PyProof.Rows.callWith_type1 (args_cons (Call_ (ld_blt I hg2 hm2 PyProof.Rows.boot_reversed (PyProof.Rows.callWith_type1 (args_cons (thn (he.run pins s σ H _ I h) fun u s1 ⟨v, H1, I1, r1, q1⟩ => args_nil ?_) hs) hs rfl))) hs2) hs2 rfl))
  obtain ⟨a, xs, ev, hq, q⟩ := q1
  subst ev
  obtain rfl : u = Value.ref a := r1
  obtain ⟨its, rv, p', hz⟩ := I1.list hq
  refine call_reversed_list p'.isList (args_nil ?_)
  have k0 : ∀ b o, s1.heap.get? b = some o → (s1.heap.push (revObj a ((its.toArray.size : Int) - 1))).get? b = some o := fun b o e => Heap.get?_push_of_some _ e
  have I2 : L2.Inv X pins σ H1 { s1 with heap := s1.heap.push (revObj a ((its.toArray.size : Int) - 1)) } := I1.kept (t' := s1.toks) k0
  obtain ⟨f0, f1, f2, f3, f4, f5⟩ := I1.fpOk (H' := H1) (b := s1.heap.objs.size) (Nat.le_refl _) (I1.hok.fresh (Nat.le_refl _))
  have hl := p'.isList
  obtain ⟨ol, hol, _⟩ := id hl
  have hne : a ≠ s1.heap.objs.size := Nat.ne_of_lt (Heap.lt_size hol)
  have hn : its.toArray.size ≤ sizeLine := by rw [List.size_toArray, ← rv.length]; exact hz
  refine call_list_revI (s := { s1 with heap := s1.heap.push (revObj a ((its.toArray.size : Int) - 1)) }) (I1.ok.hd hc) ⟨_, Heap.get?_push_size _ rfl, rfl, rfl⟩ (hl.push _) hne hn fun h' tk acc c' hk hS hi => ?_
  have I3 : L2.Inv X pins σ H1 { s1 with heap := h', toks := tk } := I2.turned (t' := tk) (fun b o hb e => hk b o hb e) f0 f1 f3 f4 f5
  have nS : H1 (s1.heap.push (revObj a ((its.toArray.size : Int) - 1))).objs.size = none := I2.hok.fresh (Nat.le_refl _)
  refine ⟨.ref (s1.heap.push (revObj a ((its.toArray.size : Int) - 1))).objs.size, upd H1 _ (.lst xs.reverse), Inv.drained (sc := { s1 with heap := s1.heap.push (revObj a ((its.toArray.size : Int) - 1)) }) (ex := [s1.heap.objs.size]) I2 (Nat.le_refl _) (by rw [List.length_reverse]; exact hz) hS (RT.vals_rev rv hi) ?_ rfl I1.bare ?_ I3.hok nS, rfl, q _ nS⟩
  · intro b hb
    rw [List.mem_singleton.mp hb]
    exact ⟨f3, f1, f4, f5⟩
  · refine ⟨fun b o e n hb hx => hk b o (fun z => hx (List.mem_singleton.mpr z)) e, fun b o e n hb hx => ⟨o.slots, hk b o (fun z => hx (List.mem_singleton.mpr z)) e⟩, fun b o e n hx => n, fun b o e hx => ⟨o, hk b o (fun z => hx (List.mem_singleton.mpr z)) e⟩, fun _ _ z => z, fun _ _ _ z => z, fun b ps z => ⟨#[], by rw [z]; simp⟩⟩
end UbG
namespace UbR
open PySem PySem.Spec PyProof.Rows L2 UbM Ub
/-- the heap without the cells in S -/
def wo (S : List Addr) (H : Hp) : Hp := fun b => if b ∈ S then none else H b
theorem wo_in {S : List Addr} {H : Hp} {b : Addr} {o : HO} (h : wo S H b = some o) : b ∉ S ∧ H b = some o := by
  unfold wo at h
  by_cases hb : b ∈ S
  · rw [if_pos hb] at h
    cases h
  · rw [if_neg hb] at h
    exact ⟨hb, h⟩
theorem wo_out {S : List Addr} {H : Hp} {b : Addr} (hb : b ∉ S) : wo S H b = H b := by
  unfold wo
  rw [if_neg hb]
theorem wo_same {S : List Addr} {H : Hp} : Same (wo S H) H := fun b o h => (wo_in h).2
theorem wo_upd {S : List Addr} {H : Hp} {a : Addr} {o : HO} (ha : a ∈ S) : wo S (upd H a o) = wo S H := by
  funext b
  unfold wo
  by_cases hb : b ∈ S
  · rw [if_pos hb, if_pos hb]
  · rw [if_neg hb, if_neg hb, upd_ne (show b ≠ a from fun z => hb (by rw [z]; exact ha))]
theorem wo_sub {S S' : List Addr} {H : Hp} (h : ∀ s ∈ S, s ∈ S') : Same (wo S' H) (wo S H) := fun b o e => by
  obtain ⟨h1, h2⟩ := wo_in e
  rw [wo_out fun z => h1 (h b z)]
  exact h2
/-- all stands but the lists in S; tables may grow -/
structure SameS (S : List Addr) (H H' : Hp) : Prop where
  but : ∀ b o, b ∉ S → H b = some o → (∀ ps, o ≠ .tbl ps) → H' b = some o
  tab : ∀ P, GxR.TabG H P → GxR.TabG H' P
  ls : ∀ s, s ∈ S → (∃ xs, H s = some (.lst xs)) → ∃ xs, H' s = some (.lst xs)
/-- the cells in S are lists -/
def Ls (S : List Addr) (H : Hp) : Prop := ∀ s, s ∈ S → ∃ xs, H s = some (.lst xs)
theorem SameS.refl {S : List Addr} (H : Hp) : SameS S H H := ⟨fun _ _ _ h _ => h, fun _ h => h, fun _ _ h => h⟩
theorem SameS.trans {S : List Addr} {H H1 H2 : Hp} (a : SameS S H H1) (b : SameS S H1 H2) : SameS S H H2 :=
  ⟨fun c o n h t => b.but c o n (a.but c o n h t) t, fun P h => b.tab P (a.tab P h), fun s hs h => b.ls s hs (a.ls s hs h)⟩
theorem sameTS {S : List Addr} {H H' : Hp} (e : UbG.SameT H H') : SameS S H H' := ⟨fun b o _ h t => e.but b o h t, e.tab, fun s _ ⟨xs, h⟩ => ⟨xs, e.but _ _ h fun _ z => by cases z⟩⟩
theorem SameS.sub {S S' : List Addr} {H H' : Hp} (e : SameS S H H') (h : ∀ s ∈ S, s ∈ S') : SameS S' H H' :=
  ⟨fun b o n g t => e.but b o (fun z => n (h b z)) g t, e.tab, fun s _ ⟨xs, g⟩ => by
    by_cases hs : s ∈ S
    · exact e.ls s hs ⟨xs, g⟩
    · exact ⟨xs, e.but _ _ hs g fun _ z => by cases z⟩⟩
theorem notTbl {H : Hp} {a : Addr} {xs : List V} (h : H a = some (.lst xs)) : ∀ ps, H a ≠ some (.tbl ps) := fun ps z => by
  rw [h] at z
  cases z
theorem SameS.wT {S : List Addr} {H H' : Hp} (e : SameS S H H') : UbG.SameT (wo S H) (wo S H') := by
  refine ⟨fun b o h t => ?_, fun P ⟨ps, h, t⟩ => ?_⟩
  · obtain ⟨h1, h2⟩ := wo_in h
    rw [wo_out h1]
    exact e.but b o h1 h2 t
  · obtain ⟨h1, h2⟩ := wo_in h
    obtain ⟨qs, g, t2⟩ := e.tab P ⟨ps, h2, t⟩
    exact ⟨qs, by rw [wo_out h1]; exact g, t2⟩
theorem SameS.get {S : List Addr} {H H' : Hp} {a : Addr} {xs : List V} (e : SameS S H H') (h : H a = some (.lst xs)) (ha : a ∉ S) : H' a = some (.lst xs) := e.but _ _ ha h fun _ z => by cases z
section
variable {K : PySem.W.Frag} {S S' : List Addr} {H H' : Hp} {v : V} {d : PyData}
theorem Kp.mono (e : SameS S H H') (h : Dp K (wo S H) v d) : Dp K (wo S H') v d := UbG.Dp.monoT e.wT _ _ h
theorem Kp.monoAll {vs : List V} {ds : List PyData} (e : SameS S H H') (h : DpAll K (wo S H) vs ds) : DpAll K (wo S H') vs ds := UbG.Dp.monoTAll e.wT _ _ h
theorem Kp.dp (h : Dp K (wo S H) v d) : Dp K H v d := Dp.mono wo_same _ _ h
theorem Kp.sub (i : ∀ s ∈ S, s ∈ S') (h : Dp K (wo S' H) v d) : Dp K (wo S H) v d := Dp.mono (wo_sub i) _ _ h
theorem Kp.subAll {vs : List V} {ds : List PyData} (i : ∀ s ∈ S, s ∈ S') (h : DpAll K (wo S' H) vs ds) : DpAll K (wo S H) vs ds := Dp.monoAll (wo_sub i) _ _ h
theorem wo_tseq {a : Addr} {xs : List V} (l : Ls S H) (h : SqT K H a xs) : SqT K (wo S H) a xs := by
  have go : ∀ o, H a = some o → (∀ ys, o ≠ .lst ys) → wo S H a = some o := fun o e n => by
    rw [wo_out fun z => ?_]
    · exact e
    · obtain ⟨ys, g⟩ := l _ z
      rw [g] at e
      cases e
      exact n ys rfl
  rcases h with (h | ⟨o, h⟩) | h
  · exact .inl (.inl (go _ h fun _ z => by cases z))
  · exact .inl (.inr ⟨o, go _ h fun _ z => by cases z⟩)
  · exact .inr h
mutual
theorem Kp.ofNoL (l : Ls S H) : ∀ (d : PyData) (v : V), noL d = true → Dp K H v d → Dp K (wo S H) v d
  | .none, _, _, h => by cases h; exact .non
  | .bool b, _, _, h => by cases h; exact .bl b
  | .int i, _, _, h => by cases h; exact .int i
  | .str x, _, _, h => by cases h; exact .str x
  | .list ds, _, n, _ => by
    unfold noL at n
    cases n
  | .tuple ds, _, n, h => by
    cases h with
    | tup hs ha => exact .tup (wo_tseq l hs) (Kp.ofNoLAll l ds _ (by unfold noL at n; exact (Bool.and_eq_true_iff.mp n).2) ha)
  | .dict _, _, _, h => by cases h
theorem Kp.ofNoLAll (l : Ls S H) : ∀ (ds : List PyData) (vs : List V), noL.noLs ds = true → DpAll K H vs ds → DpAll K (wo S H) vs ds
  | [], _, _, h => by cases h; exact .nil
  | dt :: ds, _, n, h => by
    unfold noL.noLs at n
    obtain ⟨n1, n2⟩ := Bool.and_eq_true_iff.mp n
    cases h with
    | cons h1 h2 => exact .cons (Kp.ofNoL l dt _ n1 h1) (Kp.ofNoLAll l ds _ n2 h2)
end
theorem Kp.fr {r : Rat} (l : Ls S H) (h : Fr K H v r) : Fr K (wo S H) v r := Kp.ofNoL l _ _ rfl h
/-- what is new is in no cell -/
theorem Ls.new {p : Addr} (l : Ls S H) (np : H p = none) : p ∉ S := fun z => by
  obtain ⟨xs, h⟩ := l p z
  rw [np] at h
  cases h
/-- a cell whose items stand apart from it, at its end: data -/
theorem Kp.done {a : Addr} {xs : List V} {ds : List PyData} (h : H a = some (.lst xs)) (ha : a ∉ S) (hD : DpAll K (wo (a :: S) H) xs ds) : Dp K (wo S H) (.ref a) (.list ds) :=
  .lst (.inl (.inl (by rw [wo_out ha]; exact h))) (Kp.subAll (fun s hs => List.mem_cons_of_mem _ hs) hD)
theorem Kp.lst {a : Addr} {ds : List PyData} (h : Dp K (wo S H) (.ref a) (.list ds)) : ∃ xs, SqL K (wo S H) a xs ∧ DpAll K (wo S H) xs ds := by
  cases h with
  | lst h1 h2 => exact ⟨_, h1, h2⟩
end
/-- a list of whole numbers stands at d -/
def Ints (H : Hp) (d : Addr) : Prop := ∃ ns : List Int, H d = some (.lst (ns.map V.int))
theorem Ints.monoT {H H' : Hp} {d : Addr} (e : UbG.SameT H H') (h : Ints H d) : Ints H' d := by
  obtain ⟨ns, h⟩ := h
  exact ⟨ns, e.but _ _ h fun _ z => by cases z⟩
theorem Ints.mono {H H' : Hp} {d : Addr} (e : Same H H') (h : Ints H d) : Ints H' d := h.monoT (UbG.sameT e)
theorem Ints.monoS {S : List Addr} {H H' : Hp} {d : Addr} (e : SameS S H H') (hd : d ∉ S) (h : Ints H d) : Ints H' d := by
  obtain ⟨ns, h⟩ := h
  exact ⟨ns, e.get h hd⟩
theorem Ints.stay {H : Hp} {d a : Addr} {o : HO} (h : Ints H d) (n : d ≠ a) : Ints (upd H a o) d := by
  obtain ⟨ns, h⟩ := h
  exact ⟨ns, by rw [upd_ne n]; exact h⟩
theorem Ints.ls {H : Hp} {d : Addr} (h : Ints H d) : Ls [d] H := fun s hs => by
  obtain ⟨ns, h⟩ := h
  rw [List.mem_singleton.mp hs]
  exact ⟨_, h⟩
theorem Ints.ne {H : Hp} {d a : Addr} (h : Ints H d) (na : H a = none) : d ≠ a := fun z => by
  obtain ⟨ns, h⟩ := h
  rw [z, na] at h
  cases h
theorem rdApp {H : Hp} {Q : VK} {d : Addr} {xs : List V} {x : V} (h : H d = some (.lst xs)) (hz : xs.length ≤ 5000) (q : Q .non (upd H d (.lst (xs ++ [x])))) : rAppend (.ref d) [x] H Q :=
  ⟨d, _, _, rfl, rfl, h, Nat.lt_of_le_of_lt hz (by decide), q⟩
/-- small fractions -/
def Sm (a b : Nat) (r : Rat) : Prop := r.num.natAbs ≤ a ∧ r.den ≤ b
theorem Sm.bd {a b n : Nat} {r : Rat} (h : Sm a b r) (ha : a < 2 ^ n) (hb : b < 2 ^ n) : Bd n r := ⟨Nat.lt_of_le_of_lt h.1 ha, Nat.lt_of_le_of_lt h.2 hb⟩
theorem Sm.mono {a b a' b' : Nat} {r : Rat} (h : Sm a b r) (ha : a ≤ a') (hb : b ≤ b') : Sm a' b' r := ⟨Nat.le_trans h.1 ha, Nat.le_trans h.2 hb⟩
def LL (K : PySem.W.Frag) (H : Hp) (a : Addr) (ds : List PyData) : Prop := ∃ xs, H a = some (.lst xs) ∧ DpAll K H xs ds
section
variable {K : PySem.W.Frag} {S S' : List Addr} {H H' : Hp} {a : Addr} {ds : List PyData}
theorem LL.dp (h : LL K H a ds) : Dp K H (.ref a) (.list ds) := by
  obtain ⟨xs, h1, h2⟩ := h
  exact .lst (.inl (.inl h1)) h2
theorem LL.monoT (e : UbG.SameT H H') (h : LL K H a ds) : LL K H' a ds := by
  obtain ⟨xs, h1, h2⟩ := h
  exact ⟨xs, e.but _ _ h1 (fun _ z => by cases z), UbG.Dp.monoTAll e _ _ h2⟩
theorem LL.mono (e : Same H H') (h : LL K H a ds) : LL K H' a ds := h.monoT (UbG.sameT e)
theorem LL.monoS (e : SameS S H H') (h : LL K (wo S H) a ds) : LL K (wo S H') a ds := h.monoT e.wT
theorem LL.out (h : LL K (wo S H) a ds) : LL K H a ds := h.mono wo_same
theorem LL.sub (i : ∀ s ∈ S, s ∈ S') (h : LL K (wo S' H) a ds) : LL K (wo S H) a ds := h.mono (wo_sub i)
theorem LL.notIn (h : LL K (wo S H) a ds) : a ∉ S := by
  obtain ⟨xs, h1, h2⟩ := h
  exact (wo_in h1).1
theorem LL.at {i : Nat} {d : PyData} (h : LL K H a ds) (e : ds[i]? = some d) : ∃ xs v, H a = some (.lst xs) ∧ xs[i]? = some v ∧ Dp K H v d := by
  obtain ⟨xs, h1, h2⟩ := h
  obtain ⟨v, h3, h4⟩ := go h2 e
  exact ⟨xs, v, h1, h3, h4⟩
where
  go {K : PySem.W.Frag} {H : Hp} : ∀ {xs : List V} {ds : List PyData} {i : Nat} {d : PyData}, DpAll K H xs ds → ds[i]? = some d → ∃ v, xs[i]? = some v ∧ Dp K H v d
    | _, _, _, _, .nil, h => by simp at h
    | _, _, 0, _, .cons h1 _, h => by
      simp at h
      subst h
      exact ⟨_, rfl, h1⟩
    | _, _, i + 1, d, .cons _ h2, h => by
      obtain ⟨v, e, q⟩ := LL.at.go (i := i) (d := d) h2 (by simpa using h)
      exact ⟨v, by simpa using e, q⟩
theorem LL.done {xs : List V} (h : H a = some (.lst xs)) (ha : a ∉ S) (hD : DpAll K (wo (a :: S) H) xs ds) : LL K (wo S H) a ds :=
  ⟨xs, by rw [wo_out ha]; exact h, Kp.subAll (fun s hs => List.mem_cons_of_mem _ hs) hD⟩
end
def Cel (K : PySem.W.Frag) (S : List Addr) (H : Hp) (a : Addr) (ds : List PyData) : Prop := ∃ xs, H a = some (.lst xs) ∧ DpAll K (wo S H) xs ds
section
variable {K : PySem.W.Frag} {S S' : List Addr} {H H' : Hp} {a b : Addr} {ds es : List PyData} {o : HO}
theorem Cel.new {p : Addr} : Cel K S (upd H p (.lst [])) p [] := ⟨[], upd_same, .nil⟩
theorem Cel.monoS (e : SameS S' H H') (i : ∀ s ∈ S', s ∈ S) (ha : a ∉ S') (h : Cel K S H a ds) : Cel K S H' a ds := by
  obtain ⟨xs, h1, h2⟩ := h
  exact ⟨xs, e.get h1 ha, Kp.monoAll (e.sub i) h2⟩
theorem Cel.monoT (e : UbG.SameT H H') (h : Cel K S H a ds) : Cel K S H' a ds := h.monoS (S' := []) (sameTS e) (fun _ z => absurd z (List.not_mem_nil)) (List.not_mem_nil)
theorem Cel.mono (e : Same H H') (h : Cel K S H a ds) : Cel K S H' a ds := h.monoT (UbG.sameT e)
theorem Cel.ls (h : Cel K S H a ds) : ∃ xs, H a = some (.lst xs) := by
  obtain ⟨xs, h1, _⟩ := h
  exact ⟨xs, h1⟩
theorem Cel.app {y : V} {d : PyData} {Q : VK} (h : Cel K S H a ds) (ha : a ∈ S) (hz : ds.length ≤ 5000) (hy : Dp K (wo S H) y d) (q : ∀ acc, H a = some (.lst acc) → Cel K S (upd H a (.lst (acc ++ [y]))) a (ds ++ [d]) → Q .non (upd H a (.lst (acc ++ [y])))) : rAppend (.ref a) [y] H Q := by
  obtain ⟨xs, h1, h2⟩ := h
  exact rdApp h1 (by rw [dpAll_len h2]; exact hz) (q _ h1 ⟨_, upd_same, by rw [wo_upd ha]; exact dpAll_snoc h2 hy⟩)
theorem Cel.done (h : Cel K S H a ds) (i : ∀ s ∈ S', s ∈ S) (ha : a ∉ S') : LL K (wo S' H) a ds := by
  obtain ⟨xs, h1, h2⟩ := h
  exact ⟨xs, by rw [wo_out ha]; exact h1, Kp.subAll i h2⟩
theorem Cel.stay (h : Cel K S H b es) (ha : a ∈ S) (n : b ≠ a) : Cel K S (upd H a o) b es := by
  obtain ⟨xs, h1, h2⟩ := h
  exact ⟨xs, by rw [upd_ne n]; exact h1, by rw [wo_upd ha]; exact h2⟩
theorem LL.stay (h : LL K (wo S H) b es) (ha : a ∈ S) : LL K (wo S (upd H a o)) b es := by
  rw [wo_upd ha]
  exact h
theorem Kp.stay {v : V} {d : PyData} (h : Dp K (wo S H) v d) (ha : a ∈ S) : Dp K (wo S (upd H a o)) v d := by
  rw [wo_upd ha]
  exact h
end
section
variable {K : PySem.W.Frag} {S S' : List Addr} {H H' : Hp} {a b : Addr} {ds es : List PyData} {o : HO}
theorem Cel.ix {d : PyData} {k : Nat} {z : Int} {Q : VK} (h : Cel K S H a ds) (hz : z = (k : Int)) (e : ds[k]? = some d) (q : ∀ v, Dp K (wo S H) v d → Q v H) : rIx K (.ref a) (.int z) H Q := by
  obtain ⟨xs, h1, h2⟩ := h
  obtain ⟨v, h3, h4⟩ := LL.at.go h2 e
  exact rdIxL (.inl (.inl h1)) (at_of hz h3) (q v h4)
theorem LL.ix {d : PyData} {k : Nat} {z : Int} {Q : VK} (h : LL K (wo S H) a ds) (hz : z = (k : Int)) (e : ds[k]? = some d) (q : ∀ v, Dp K (wo S H) v d → Q v H) : rIx K (.ref a) (.int z) H Q := by
  obtain ⟨xs, v, h1, h3, h4⟩ := h.at e
  exact rdIxL (.inl (.inl (wo_in h1).2)) (at_of hz h3) (q v h4)
end
/-- fractions over one denominator -/
def Sz (D N : Nat) (r : Rat) : Prop := ∃ k : Int, r = Rat.divInt k D ∧ k.natAbs ≤ N
theorem div_plus {a s n : Int} : Rat.divInt a n + Rat.divInt s n = Rat.divInt (a + s) n := by
  rw [Rat.divInt_eq_div, Rat.divInt_eq_div, Rat.divInt_eq_div, Rat.div_def, Rat.div_def, Rat.div_def, ← Rat.add_mul, Rat.intCast_add]
theorem Sz.add {D N M : Nat} {r s : Rat} (h1 : Sz D N r) (h2 : Sz D M s) : Sz D (N + M) (r + s) := by
  obtain ⟨a, rfl, ha⟩ := h1
  obtain ⟨b, rfl, hb⟩ := h2
  exact ⟨a + b, div_plus, by omega⟩
theorem div_neg (a n : Int) : -Rat.divInt a n = Rat.divInt (-a) n := by
  rw [Rat.divInt_eq_div, Rat.divInt_eq_div, Rat.div_def, Rat.div_def, Rat.intCast_neg, Rat.neg_mul]
theorem Sz.neg {D N : Nat} {r : Rat} (h : Sz D N r) : Sz D N (-r) := by
  obtain ⟨a, rfl, ha⟩ := h
  exact ⟨-a, div_neg a D, by omega⟩
theorem Sz.sub {D N M : Nat} {r s : Rat} (h1 : Sz D N r) (h2 : Sz D M s) : Sz D (N + M) (r - s) := by
  rw [Rat.sub_eq_add_neg]
  exact h1.add h2.neg
theorem Sz.mono {D N M : Nat} {r : Rat} (h : Sz D N r) (l : N ≤ M) : Sz D M r := by
  obtain ⟨a, e, ha⟩ := h
  exact ⟨a, e, by omega⟩
theorem Sz.zero {D N : Nat} : Sz D N 0 := ⟨0, by rw [Rat.zero_divInt], Nat.zero_le _⟩
theorem Sz.sum {D N : Nat} : ∀ (rs : List Rat) (M : Nat) (r : Rat), Sz D M r → (∀ x ∈ rs, Sz D N x) → Sz D (M + rs.length * N) (rs.foldl (· + ·) r)
  | [], M, r, h, _ => by simpa using h
  | x :: rs, M, r, h, hx => by
    have h1 := Sz.sum rs (M + N) (r + x) (h.add (hx x (List.mem_cons_self ..))) fun y hy => hx y (List.mem_cons_of_mem _ hy)
    refine h1.mono ?_
    rw [List.length_cons, Nat.succ_mul]
    omega
theorem Sz.bd {D N n : Nat} {r : Rat} (h : Sz D N r) (h0 : 0 < D) (h1 : D < 2 ^ n) (h2 : N < 2 ^ n) : Bd n r := by
  obtain ⟨a, rfl, ha⟩ := h
  exact bd_divInt (by omega) (by omega) (by omega)
theorem Sz.of {D a b : Nat} {r : Rat} (h : Sm a b r) (hd : r.den ∣ D) (h0 : 0 < D) : Sz D (a * D) r := by
  obtain ⟨c, hc⟩ := hd
  refine ⟨r.num * (c : Int), ?_, ?_⟩
  · have hc0 : (c : Int) ≠ 0 := by
      intro z
      have : c = 0 := by omega
      subst this
      omega
    rw [hc]
    push_cast
    rw [Rat.divInt_mul_right hc0, Rat.num_divInt_den]
  · rw [Int.natAbs_mul]
    have h1 : (c : Int).natAbs ≤ D := by
      have : c ≤ r.den * c := Nat.le_mul_of_pos_left _ r.den_pos
      omega
    exact Nat.mul_le_mul h.1 h1
def Nw (H : Hp) (a : Addr) : Prop := ∀ o, H a = some o → ∃ ps, o = .tbl ps
theorem Nw.of {H : Hp} {a : Addr} (h : H a = none) : Nw H a := fun o e => by
  rw [h] at e
  cases e
theorem Nw.back {H H1 : Hp} {a : Addr} (e : UbG.SameT H H1) (h : Nw H1 a) : Nw H a := fun o g => by
  by_cases ht : ∃ ps, o = .tbl ps
  · exact ht
  · exact h o (e.but _ _ g fun ps z => ht ⟨ps, z⟩)
theorem Nw.ne {H : Hp} {a b : Addr} {xs : List V} (h : Nw H a) (hb : H b = some (.lst xs)) : b ≠ a := fun z => by
  obtain ⟨ps, e⟩ := h _ (z ▸ hb)
  cases e
theorem Nw.notIn {S : List Addr} {H : Hp} {a : Addr} (h : Nw H a) (l : Ls S H) : a ∉ S := fun z => by
  obtain ⟨xs, e⟩ := l a z
  exact h.ne e rfl
theorem late_nw {S : List Addr} {H H' : Hp} {p : Addr} {xs : List V} (e : SameS S H H') (n : Nw H p) (h : ∀ ps, H' p ≠ some (.tbl ps)) (l : Ls S H) : SameS S H (upd H' p (.lst xs)) :=
  ⟨fun b o m g t => by
    have hb : b ≠ p := fun z => by
      obtain ⟨ps, q⟩ := n o (z ▸ g)
      exact t ps q
    rw [upd_ne hb]
    exact e.but b o m g t, fun P g => by
    obtain ⟨qs, g1, t1⟩ := e.tab P g
    exact ⟨qs, by rw [upd_ne (show P ≠ p from fun z => h qs (z ▸ g1))]; exact g1, t1⟩, fun s hs hl => by
    obtain ⟨ys, g⟩ := e.ls s hs hl
    exact ⟨ys, by rw [upd_ne (show s ≠ p from fun z => (n.notIn l) (z ▸ hs))]; exact g⟩⟩
def LC (J : It) (g : TG) (tt : TT) (te : TE) (vs : List Nat) (σ : L2.St) (H1 : Hp) (D : Addr) (Qd : Hp → Prop) : Prop := ∃ W : Nat → Nat → Hp → Prop, (∃ m, W 0 m (upd H1 D (.lst []))) ∧ ∀ i m H, W i m H →
  (J.stop i H ∧ Qd H) ∨ (J.go i H ∧ ∃ Nx : Hp → Prop, (∀ H', Nx H' → ∃ m', m' < m ∧ W (i + 1) m' H') ∧ ∀ x H', J.yld i H x H' → g x (wipe σ vs) H' fun σ2 H2 => wipe σ2 vs = wipe σ vs ∧ tt σ2 H2 fun b H3 =>
    if b = true then te σ2 H3 fun y H4 => ∃ acc, H4 D = some (.lst acc) ∧ acc.length < sizeLine ∧ Nx (upd H4 D (.lst (acc ++ [y]))) else Nx H3)
def FL (J : It) (g : TG) (tb : TS) (D : Ends) (σ : L2.St) (H1 : Hp) : Prop := ∃ W : Nat → Nat → L2.St → Hp → Prop, (∃ m, W 0 m σ H1) ∧ ∀ i m σ H, W i m σ H →
  (J.stop i H ∧ D.nx σ H) ∨ (J.go i H ∧ ∃ N : L2.St → Hp → Prop, (∀ σ' H', N σ' H' → ∃ m', m' < m ∧ W (i + 1) m' σ' H') ∧ ∀ x H', J.yld i H x H' → g x σ H' fun σ2 H2 => tb { D with nx := N, ct := N, bk := D.nx } σ2 H2)
theorem FL.range {lo : Int} {n : Nat} {g : TG} {tb : TS} {D : Ends} {σ : L2.St} {H : Hp} (Pv : Nat → L2.St → Hp → Prop) (h0 : Pv 0 σ H)
    (hs : ∀ i σ H, i < n → Pv i σ H → g (.int (lo + i)) σ H fun σ2 H2 => tb { D with nx := Pv (i + 1), ct := Pv (i + 1), bk := D.nx } σ2 H2) (hd : ∀ σ H, Pv n σ H → D.nx σ H) : FL (Itr lo n) g tb D σ H := for_range Pv h0 hs hd
theorem FL.list {K : PySem.W.Frag} {a : Addr} {xs : List V} {g : TG} {tb : TS} {D : Ends} {σ : L2.St} {H : Hp} (Pv : Nat → L2.St → Hp → Prop) (h0 : Pv 0 σ H) (hl : ∀ i σ H, i ≤ xs.length → Pv i σ H → SqL K H a xs)
    (hs : ∀ i x σ H, xs[i]? = some x → Pv i σ H → g x σ H fun σ2 H2 => tb { D with nx := Pv (i + 1), ct := Pv (i + 1), bk := D.nx } σ2 H2) (hd : ∀ σ H, Pv xs.length σ H → D.nx σ H) : FL (Itl K a) g tb D σ H := for_list Pv h0 hl hs hd
theorem FL.zip {K : PySem.W.Frag} {a b : Addr} {xs ys : List V} {g : TG} {tb : TS} {D : Ends} {σ : L2.St} {H : Hp} (Pv : Nat → L2.St → Hp → Prop) (h0 : Pv 0 σ H) (hl : ∀ i σ H, Pv i σ H → SqL K H a xs ∧ SqL K H b ys)
    (hs : ∀ i x y σ H T, xs[i]? = some x → ys[i]? = some y → Pv i σ H → H T = none → g (.ref T) σ (upd H T (.tup [x, y])) fun σ2 H2 => tb { D with nx := Pv (i + 1), ct := Pv (i + 1), bk := D.nx } σ2 H2) (hd : ∀ σ H, Pv (min xs.length ys.length) σ H → D.nx σ H) : FL (Itz K a b) g tb D σ H := forZip Pv h0 hl hs hd
theorem LC.range {lo : Int} {n : Nat} {g : TG} {tt : TT} {te : TE} {vs : List Nat} {σ : L2.St} {H1 : Hp} {D : Addr} {Qd : Hp → Prop} (Pv : Nat → Hp → Prop) (h0 : Pv 0 (upd H1 D (.lst [])))
    (hs : ∀ i H, i < n → Pv i H → g (.int (lo + i)) (wipe σ vs) H fun σ2 H2 => wipe σ2 vs = wipe σ vs ∧ tt σ2 H2 fun b H3 =>
      if b = true then te σ2 H3 fun y H4 => ∃ acc, H4 D = some (.lst acc) ∧ acc.length < sizeLine ∧ Pv (i + 1) (upd H4 D (.lst (acc ++ [y]))) else Pv (i + 1) H3) (hd : ∀ H, Pv n H → Qd H) : LC (Itr lo n) g tt te vs σ H1 D Qd := lc_range Pv h0 hs hd
theorem LC.list {K : PySem.W.Frag} {a : Addr} {xs : List V} {g : TG} {tt : TT} {te : TE} {vs : List Nat} {σ : L2.St} {H1 : Hp} {D : Addr} {Qd : Hp → Prop} (Pv : Nat → Hp → Prop) (h0 : Pv 0 (upd H1 D (.lst []))) (hl : ∀ i H, i ≤ xs.length → Pv i H → SqL K H a xs)
    (hs : ∀ i x H, xs[i]? = some x → Pv i H → g x (wipe σ vs) H fun σ2 H2 => wipe σ2 vs = wipe σ vs ∧ tt σ2 H2 fun b H3 =>
      if b = true then te σ2 H3 fun y H4 => ∃ acc, H4 D = some (.lst acc) ∧ acc.length < sizeLine ∧ Pv (i + 1) (upd H4 D (.lst (acc ++ [y]))) else Pv (i + 1) H3) (hd : ∀ H, Pv xs.length H → Qd H) : LC (Itl K a) g tt te vs σ H1 D Qd := lc_list Pv h0 hl hs hd
theorem LC.zip {K : PySem.W.Frag} {a b : Addr} {xs ys : List V} {g : TG} {tt : TT} {te : TE} {vs : List Nat} {σ : L2.St} {H1 : Hp} {D : Addr} {Qd : Hp → Prop} (Pv : Nat → Hp → Prop) (h0 : Pv 0 (upd H1 D (.lst []))) (hl : ∀ i H, Pv i H → SqL K H a xs ∧ SqL K H b ys)
    (hs : ∀ i x y T H, xs[i]? = some x → ys[i]? = some y → H T = none → Pv i H → g (.ref T) (wipe σ vs) (upd H T (.tup [x, y])) fun σ2 H2 => wipe σ2 vs = wipe σ vs ∧ tt σ2 H2 fun b H3 =>
      if b = true then te σ2 H3 fun y H4 => ∃ acc, H4 D = some (.lst acc) ∧ acc.length < sizeLine ∧ Pv (i + 1) (upd H4 D (.lst (acc ++ [y]))) else Pv (i + 1) H3) (hd : ∀ H, Pv (min xs.length ys.length) H → Qd H) : LC (Itz K a b) g tt te vs σ H1 D Qd := by
  refine ⟨fun i m H => m = min xs.length ys.length - i ∧ i ≤ min xs.length ys.length ∧ Pv i H, ⟨_, rfl, Nat.zero_le _, h0⟩, ?_⟩
  rintro i m H ⟨rfl, hi, p⟩
  obtain ⟨q1, q2⟩ := hl i H p
  by_cases hlt : i < min xs.length ys.length
  · have l1 : i < xs.length := by omega
    have l2 : i < ys.length := by omega
    refine .inr ⟨⟨xs, ys, xs[i], ys[i], q1, q2, List.getElem?_eq_getElem l1, List.getElem?_eq_getElem l2⟩, Pv (i + 1), fun H' p' => ⟨_, ?_, rfl, hlt, p'⟩, fun x H' yl => ?_⟩
    · omega
    · obtain ⟨T, x1, y1, rfl, nT, rfl, f1, f2⟩ := yl
      exact hs i x1 y1 T H (f1 _ q1) (f2 _ q2) nT p
  · have e : i = min xs.length ys.length := by omega
    refine .inl ⟨⟨xs, ys, q1, q2, by omega⟩, hd H (e ▸ p)⟩
end UbR
namespace UbR
open PySem PySem.Spec PyProof.Rows L2 UbM Ub
theorem LL.len {K : PySem.W.Frag} {H : Hp} {a : Addr} {xs : List V} {ds : List PyData} (h : DpAll K H xs ds) : xs.length = ds.length := dpAll_len h
theorem frsLen (rs : List Rat) : (rs.map frD).length = rs.length := List.length_map ..
/-- the payments as they grow at p -/
structure DrI (K : PySem.W.Frag) (H : Hp) (d : Addr) (H' : Hp) (p : Addr) (rs : List Rat) : Prop where
  s : SameS [d] H H'
  i : Ints H' d
  n : Nw H p
  c : Cel K [p, d] H' p (rs.map frD)
  b : ∀ r ∈ rs, Sm 100 30 r
theorem DrI.ls {K : PySem.W.Frag} {H H' : Hp} {d p : Addr} {rs : List Rat} (h : DrI K H d H' p rs) : Ls [p, d] H' := fun s hs => by
  rcases List.mem_cons.mp hs with e | e
  · rw [e]
    exact h.c.ls
  · rw [e |> List.mem_singleton.mp]
    exact h.i.ls d (List.mem_singleton.mpr rfl)
theorem DrI.ne {K : PySem.W.Frag} {H H' : Hp} {d p : Addr} {rs : List Rat} (h : DrI K H d H' p rs) (h0 : Ints H d) : d ≠ p := by
  obtain ⟨ns, e⟩ := h0
  exact h.n.ne e
theorem DrI.mono {K : PySem.W.Frag} {H H' H2 : Hp} {d p : Addr} {rs : List Rat} (h : DrI K H d H' p rs) (h0 : Ints H d) (e : SameS [d] H' H2) (i : Ints H2 d) : DrI K H d H2 p rs :=
  ⟨h.s.trans e, i, h.n, h.c.monoS e (fun s hs => List.mem_cons_of_mem _ hs) (fun z => h.ne h0 (List.mem_singleton.mp z).symm), h.b⟩
theorem DrI.push {K : PySem.W.Frag} {H H' : Hp} {d p : Addr} {rs : List Rat} {v : V} {r : Rat} {Q : VK} (h : DrI K H d H' p rs) (h0 : Ints H d) (hz : rs.length ≤ 5000) (hv : Fr K H' v r) (hb : Sm 100 30 r) (q : ∀ H2, DrI K H d H2 p (rs ++ [r]) → Q .non H2) : rAppend (.ref p) [v] H' Q := by
  obtain ⟨ys, hy⟩ := h.c.ls
  refine h.c.app (d := frD r) (List.mem_cons_self ..) (by rw [frsLen]; exact hz) (Kp.fr h.ls hv) fun acc ha hC => q _ ⟨late_nw h.s h.n (notTbl hy) h0.ls, h.i.stay (h.ne h0), h.n, ?_, fun x hx => ?_⟩
  · rw [List.map_append]
    exact hC
  · rcases List.mem_append.mp hx with e | e
    · exact h.b x e
    · rw [List.mem_singleton.mp e]
      exact hb
end UbR
namespace UbC
open PySem PySem.Spec PyProof.Rows L2 Ub UbM
/-- the class object of an own exception -/
def oexB (K : PySem.W.Frag) (C : Addr) : Bool := (match K.lookup C with
  | some ⟨.type "type", _, .cls cd, sl⟩ => (match cd.mro, sl.toList with
    | .ref C' :: bm, [_, _, _, _, some (.builtin n), _] => decide (C' = C) && (decide (n = "ValueError.__new__") && (!cd.hasDel && (cd.hasDict && PySem.HandSPX.refsVE bm)))
    | _, _ => false)
  | _ => false) && (He.eqO (PySem.W.findIn K (.ref C) "__setattr__") (some (some (.builtin "object.__setattr__"))) && (decide (PySem.W.subIn K (.ref C) (.type "BaseException") = some true) && (decide (PySem.W.typeIn K (.ref C) = some (.type "type")) && (PySem.W.keepIn K (.ref C) &&
   (He.eqO (PySem.W.findIn K (.ref C) "__init__") (some (some (.ref (He.ma K C "__init__")))) && decide (PySem.W.typeIn K (.ref (He.ma K C "__init__")) = some (.type "function")))))))
/-- an own exception class with its own __init__ -/
structure OexI (K : PySem.W.Frag) (C : Addr) : Prop where
  oex : OexC K C
  ini : PySem.W.findIn K (.ref C) "__init__" = some (some (.ref (He.ma K C "__init__")))
  ty : PySem.W.typeIn K (.ref (He.ma K C "__init__")) = some (.type "function")
theorem oexB_ok {K : PySem.W.Frag} {C : Addr} (h : oexB K C = true) : OexI K C := by
  unfold oexB at h
  obtain ⟨q, h⟩ := He.ba h
  obtain ⟨h2, h⟩ := He.ba h
  obtain ⟨h3, h⟩ := He.ba h
  obtain ⟨h4, h⟩ := He.ba h
  obtain ⟨h5, h⟩ := He.ba h
  obtain ⟨h6, h7⟩ := He.ba h
  refine ⟨⟨?_, He.eqO_ok h2, of_decide_eq_true h3, of_decide_eq_true h4, h5⟩, He.eqO_ok h6, of_decide_eq_true h7⟩
  split at q
  · rename_i dd cd sl ho
    split at q
    · rename_i C' bm k0 k1 k2 k3 n k5 hm hs
      obtain ⟨q1, q⟩ := He.ba q
      obtain ⟨q2, q⟩ := He.ba q
      obtain ⟨q3, q⟩ := He.ba q
      obtain ⟨q4, q5⟩ := He.ba q
      have e1 := of_decide_eq_true q1
      have e2 := of_decide_eq_true q2
      subst e1 e2
      obtain ⟨nm, bs, mro, ns, qn, hd, sn, sub, ab, col, del⟩ := cd
      dsimp only at hm q3 q4
      have q3' : del = false := by
        cases del
        · rfl
        · cases q3
      subst hm q3' q4
      have hsl : sl = #[k0, k1, k2, k3, some (.builtin "ValueError.__new__"), k5] := by
        obtain ⟨l⟩ := sl
        simp only at hs
        rw [hs]
      subst hsl
      exact ⟨nm, qn, ns, bs, bm, sn, sub, ab, col, dd, k0, k1, k2, k3, k5, ho, q5⟩
    · cases q
  · cases q
/-- what such an __init__ leaves: the fields fl of the values, in the instance's dict -/
def spEI (C : Addr) (fl : List V → List (Str × V)) (ok : List V → Prop) : Sp := fun vs H Q _ => ∃ (a : Addr) (us : List V), vs = .ref a :: us ∧ ok us ∧ H a = some (exo a C none) ∧ ∀ d, H d = none → d ≠ a → Q .non (upd (upd H d (exd d (fl us))) a (exo a C (some d)))
/-- a text of at most 1000 signs -/
def okT : List V → Prop := fun us => ∃ y : Str, us = [.str y] ∧ y.length ≤ 1000
def fl1 (f : Str) : List V → List (Str × V) := fun us => us.map fun v => (f, v)
theorem rdMkO {C : Addr} {fl : List V → List (Str × V)} {ok : List V → Prop} {us : List V} {H1 : Hp} {Q : XK} (hl : us.length ≤ 1000) (hk : ok us) (q : ∀ d, H1 d = none → Q (.ref C) (some d) (upd H1 d (.xd (fl us)))) :
    us.length ≤ 1000 ∧ ∀ a, H1 a = none → spEI C fl ok (.ref a :: (us ++ [])) (upd H1 a (exo a C none)) (fun v H2 => v = .non ∧ ∃ (d : Addr) (fs : List (Str × V)), H2 a = some (exo a C (some d)) ∧ H2 d = some (exd d fs) ∧ H1 d = none ∧ Q (.ref C) (some d) (upd (del H2 a) d (.xd fs))) (fun _ _ _ => False) := by
  refine ⟨hl, fun a na => ⟨a, us, by rw [List.append_nil], hk, upd_same, fun d nd hda => ?_⟩⟩
  have hd : H1 d = none := by
    rw [upd_ne hda] at nd
    exact nd
  refine ⟨rfl, d, fl us, upd_same, ?_, hd, ?_⟩
  · rw [upd_ne hda, upd_same]
  have e : upd (del (upd (upd (upd H1 a (exo a C none)) d (exd d (fl us))) a (exo a C (some d))) a) d (.xd (fl us)) = upd H1 d (.xd (fl us)) := by
    funext b
    by_cases hb : b = d
    · rw [hb, upd_same, upd_same]
    · rw [upd_ne hb, upd_ne hb]
      by_cases ha : b = a
      · rw [ha, del_same, na]
      · rw [del_ne ha, upd_ne ha, upd_ne hb, upd_ne ha]
  rw [e]
  exact q d hd
theorem flen {p y : Str} (hp : p.length ≤ 1000) (hy : y.length ≤ 1000) : (Str.empty ++ p ++ y).length ≤ sizeLine := by
  have e : (Str.empty ++ p ++ y).length = p.length + y.length := by rw [Str.length_append, Str.length_append, show Str.empty.length = 0 from rfl, Nat.zero_add]
  rw [e, sizeLine_eq]
  omega
theorem flen0 {p : Str} (hp : p.length ≤ 1000) : (Str.empty ++ p).length ≤ sizeLine := by
  have e : (Str.empty ++ p).length = p.length := by rw [Str.length_append, show Str.empty.length = 0 from rfl, Nat.zero_add]
  rw [e, sizeLine_eq]
  omega
/-- at the name x stands an own exception class whose __init__ keeps sp -/
structure CalX (P : Program) (w : World) (K : PySem.W.Frag) (mg : Str → Option Value) (base : Heap) (x : Str) (k : Nat) (sp : Sp) : Prop where
  oex : OexI K (He.ga K x)
  gC : mg x = some (.ref (He.ga K x))
  ini : ∃ (fd : FuncData) (ps : List Str), FnOk P w K mg base (L2.CX P w) k (He.ma K (He.ga K x) "__init__") fd ps sp ∧ Binds K fd ps []
section
variable {X : Cx} {W : WX} {x : Str} {k j : Nat} {sp : Sp} {e : Expr} {es : List Expr} {ta : TA} {p pos pos2 : Pos}
/-- raise X(e, ..) -/
theorem ps_raiseC (hc : X.calm = true) (tk : Takes X W) (C : CalX X.prog X.w X.K X.mg X.base x k sp) (hr : Room j X.A) (hj : k + 1 ≤ j) (hg : Gl X x) (ha : PA X (e :: es) ta) (hdb : (x == ("__debug__" : Str)) = false := by decide)
    (he : starEach (e :: es) X.env = (false, eval e X.env) :: starEach es X.env := by rfl) (hpl : (backTo pos (starEach es X.env)).any (·.1) = false := by rfl) :
    PS X (.Raise (some (.Call (.Name x p) (e :: es) [] pos)) none pos2) (fun _ σ H => tMkO (He.ga X.K x) sp [] ta σ H fun cls d H' => W cls d σ H') := by
  obtain ⟨fd, ps, F, hb⟩ := C.ini
  exact ps_raise hc tk (pmk_oex C.oex.oex C.oex.ini C.oex.ty F (hr.mono hj) hb .nil (passes_call tk fun _ _ _ _ h => h.elim) hg C.gC ha hdb he hpl)
end
end UbC
namespace UbZ
open PySem PySem.Spec PyProof.Rows L2 Ub UbM
abbrev it0 (l : Addr) : Obj := { cls := .type "list_iterator", data := .fields #[.ref l, .int 0 0] }
abbrev z1 (h : Heap) (l1 : Addr) : Heap := h.push (it0 l1)
abbrev z2 (h : Heap) (l1 l2 : Addr) : Heap := (z1 h l1).push (it0 l2)
abbrev z3 (h : Heap) (l1 l2 l3 : Addr) : Heap := (z2 h l1 l2).push (it0 l3)
abbrev z4 (h : Heap) (l1 l2 l3 : Addr) : Heap := (z3 h l1 l2 l3).push { cls := .type "tuple", data := .seq #[.ref h.objs.size, .ref (z1 h l1).objs.size, .ref (z2 h l1 l2).objs.size] }
abbrev z5 (h : Heap) (l1 l2 l3 : Addr) : Heap := (z4 h l1 l2 l3).push { cls := .type "tuple", data := .seq #[.none, .none, .none] }
abbrev z6 (h : Heap) (l1 l2 l3 : Addr) : Heap := (z5 h l1 l2 l3).push { cls := .type "zip", data := .fields #[.none, .bool false, .bool false, .ref (z3 h l1 l2 l3).objs.size, .ref (z4 h l1 l2 l3).objs.size] }
end UbZ
namespace UbS
open PySem PySem.Spec PyProof.Rows L2 Ub UbM NdefX
abbrev mwV (x : Addr) : Obj := PySem.W.kxs_mw "ValueError.__init__" x
/-- what stands behind super() in the class at C -/
structure SupC (K : PySem.W.Frag) (C : Addr) : Prop where
  ho : PySem.W.nsIn K cStatics "thirdparty.any" = some none
  fi : PySem.W.ks_superIn K C C "__init__" = some (some (.builtin "ValueError.__init__"))
  sv : PySem.W.subIn K (.ref C) (.type "ValueError") = some true
  ss : PySem.W.mroIn K C (.ref C) = some true
def supB (K : PySem.W.Frag) (C : Addr) : Bool := He.eqO (PySem.W.nsIn K cStatics "thirdparty.any") (some none) && (He.eqO (PySem.W.ks_superIn K C C "__init__") (some (some (.builtin "ValueError.__init__"))) && (decide (PySem.W.subIn K (.ref C) (.type "ValueError") = some true) && decide (PySem.W.mroIn K C (.ref C) = some true)))
theorem supB_ok {K : PySem.W.Frag} {C : Addr} (h : supB K C = true) : SupC K C := by
  unfold supB at h
  obtain ⟨h1, h⟩ := He.ba h
  obtain ⟨h2, h⟩ := He.ba h
  obtain ⟨h3, h4⟩ := He.ba h
  exact ⟨He.eqO_ok h1, He.eqO_ok h2, of_decide_eq_true h3, of_decide_eq_true h4⟩
section
variable {X : Cx} {pins : List (Addr × Obj)} {σ : L2.St} {H : Hp} {s : Shared} {a C u : Addr} {E : Value → Shared → Prop}
theorem sinit_ok {us : List Value} {Q : Value → Shared → Prop} (T : OexC X.K C) (I : Inv X pins σ H s) (hu : s.heap.get? u = some (mwV a)) (e : H a = some (exo a C none)) (hl : us.length ≤ sizeLine) (h : ∀ s', Inv X pins σ H s' → Q .none s') :
    wpAny (model X.prog X.w) X.A (call (.ref u) us) Q E s := by
  obtain ⟨nm, q, N, bs, bm, sn, sub, ab, col, dd, k0, k1, k2, k3, k5, hC, hbm⟩ := T.cls
  obtain ⟨t1, ho⟩ := exo_at I.hok e
  have hCh := I.kIn _ _ hC
  obtain ⟨hp, g, d, t, os⟩ := s
  refine wpAny_call (codeAny_of_tree ?_)
  show wpAny _ X.A.in1 (callAny (.ref u) ⟨us, []⟩) _ _ _
  simp only [callAny]
  refine wpAny_bind (wpAny_load hu ?_)
  simp only [mwV, PySem.W.kxs_mw, show (Value.type "method-wrapper" == Value.type "method" || Value.type "method-wrapper" == Value.type "builtin_function_or_method" || Value.type "method-wrapper" == Value.type "method-wrapper") = true by decide, if_true]
  refine PySem.W.KFB.if_so (by decide) ?_
  refine wpAny_bind (PySem.W.check_bound_init F.excBase_ValueError.toExcCallFacts hCh ho rfl ?_)
  refine wpAny_bind (wpAny_pure (wpAny_pure ?_))
  refine ⟨plainId_quiet F.excBase_ValueError.init.plain _, codeAny_builtin F.excBase_ValueError.initEntry ?_⟩
  refine PySem.W.exc_init_tree (cls := .ref C) (t0 := t1) (dv := none) (c2 := .none) (c3 := .none) (b4 := .bool false) ho hl (fun h' k hx _ => ?_)
  have J := I.write (t' := t) (x := a) (e := a) (o := exo a C none) (by rw [e]; exact True.intro) (.inl rfl) k ⟨_, hx⟩ (exo_ok hx)
  have eu : upd H a (exo a C none) = H := by
    funext b
    by_cases hb : b = a
    · rw [hb, upd_same, e]
    · rw [upd_ne hb]
  rw [eu] at J
  exact h _ J
end
/-- a method whose text says super(), of the class at C -/
structure FunS (K : PySem.W.Frag) (C : Addr) (file : Str) (x qual : Str) (params : Arguments) (body : List Stmt) (scope : Scope) (f : Addr) (fd : FuncData) : Prop where
  ex : ∃ (oc : Value) (od : Option Addr) (doc pm : Value) (an : Option Addr) (cda cc : Addr) (ct : Value) (osl : Array (Option Value)),
    fd = PySem.W.fnX x qual params body scope [("__class__", cc)] .none .none doc pm an (.ref cda) ct ∧ K.lookup f = some ⟨oc, od, .func fd, osl⟩ ∧ PySem.W.codeIn K (.ref cda) qual = true ∧
    (∃ (c1 : Value) (d1 : Option Addr) (vs : Array Value) (s1 : Array (Option Value)) (tf : Tok), K.lookup cda = some ⟨c1, d1, .fields vs, s1⟩ ∧ vs[2]? = some (.str file tf)) ∧
    ∃ (c2 : Value) (d2 : Option Addr) (s2 : Array (Option Value)), K.lookup cc = some ⟨c2, d2, .cell (some (.ref C)), s2⟩
theorem FunS.bindsN {K : PySem.W.Frag} {C : Addr} {file x qual : Str} {params : Arguments} {body : List Stmt} {scope : Scope} {f : Addr} {fd : FuncData} {ps : List Str} (F : FunS K C file x qual params body scope f fd)
    (h : ∀ (cc : Addr) (doc pm : Value) (an : Option Addr) (cdv ct : Value) (us : List Value), us.length = ps.length → bindArgs (PySem.W.fnX x qual params body scope [("__class__", cc)] .none .none doc pm an cdv ct) ⟨us, []⟩ = pure (ps.zip us)) : Binds K fd ps [] := by
  obtain ⟨oc, od, doc, pm, an, cda, cc, ct, osl, rfl, _⟩ := F.ex
  exact .all (h cc doc pm an (.ref cda) ct)
abbrev nfS (x qual : Str) (params : Arguments) (body : List Stmt) (scope : Scope) (cc cda : Addr) : NF := ⟨x, qual, params, body, scope, [("__class__", cc)], cda⟩
abbrev supStmt (p0 p1 p2 p3 p4 : Pos) (e : Expr) : Stmt := .Expr (.Call (.Attribute (.Call (.Name "super" p0) [] [] p1) "__init__" p2) [e] [] p3) p4
section
variable {P : Program} {w : World} {K : PySem.W.Frag} {mg : Str → Option Value} {base : Heap} {CX : CXT} {N ps : List Str} {k : Nat} {sp : Sp} {C f : Addr} {fd : FuncData} {file x qual : Str} {params : Arguments} {rest : List Stmt} {scope : Scope} {e : Expr} {p0 p1 p2 p3 p4 : Pos} {self : Str}
theorem FunS.ok {pl : Sem Bool} (F : FunS K C file x qual params (supStmt p0 p1 p2 p3 p4 e :: rest) scope f fd) (B : SupC K C) (T : OexC K C) (hsup : mg "super" = none) (hfile : (P.main.file == file) = true) (htop : (P.main.scope.names.lookup ("super" : Str)).isSome = false)
    (S : NScope N ps ["__class__"] scope) (hks : scope.names.lookup ("super" : Str) = some .globalImplicit) (hN : N[0]? = some self) (hself : ps[0]? = some self) (hp : ((params.posonlyargs ++ params.args).head?).map (·.arg) = some self)
    (hi : ∀ cc cda L, interactive (envF (nfS x qual params (supStmt p0 p1 p2 p3 p4 e :: rest) scope cc cda) f L) = false)
    (hs : ∀ cc cda L, swapsWith (.Call (.Attribute (.Call (.Name "super" p0) [] [] p1) "__init__" p2) [e] [] p3) none p4.line (envF (nfS x qual params (supStmt p0 p1 p2 p3 p4 e :: rest) scope cc cda) f L) = pure false)
    (he : ∀ cc cda L, eval (.Call (.Attribute (.Call (.Name "super" p0) [] [] p1) "__init__" p2) [e] [] p3) (envF (nfS x qual params (supStmt p0 p1 p2 p3 p4 e :: rest) scope cc cda) f L) = (do
      let ov ← attributeBase (.Call (.Name "super" p0) [] [] p1) "__init__" (envF (nfS x qual params (supStmt p0 p1 p2 p3 p4 e :: rest) scope cc cda) f L) (eval (.Call (.Name "super" p0) [] [] p1) (envF (nfS x qual params (supStmt p0 p1 p2 p3 p4 e :: rest) scope cc cda) f L))
      standAt p2.atName
      let (f', first) ← holding [ov] (getMethod ov "__init__" pl)
      callWith p3 f' first (backTo p3 (starEach [e] (envF (nfS x qual params (supStmt p0 p1 p2 p3 p4 e :: rest) scope cc cda) f L))) []))
    (hst : ∀ cc cda L, starEach [e] (envF (nfS x qual params (supStmt p0 p1 p2 p3 p4 e :: rest) scope cc cda) f L) = (false, eval e (envF (nfS x qual params (supStmt p0 p1 p2 p3 p4 e :: rest) scope cc cda) f L)) :: starEach [] (envF (nfS x qual params (supStmt p0 p1 p2 p3 p4 e :: rest) scope cc cda) f L))
    (len : ∀ vs H Q E, sp vs H Q E → vs.length = ps.length)
    (hb : ∀ (cc cda : Addr) (A : Around) (outer : List Env) (s : Shared) (H : Hp) (vs : List V) (Q : VK) (E : XK), Room k (A.deeper (envF (nfS x qual params (supStmt p0 p1 p2 p3 p4 e :: rest) scope cc cda) f s.heap.objs.size)) → sp vs H Q E →
      ∃ (te : TA) (ts : TS) (a : Addr) (us : List V), vs = .ref a :: us ∧ H a = some (exo a C none) ∧ PA (ncx CX P w K mg base N (nfS x qual params (supStmt p0 p1 p2 p3 p4 e :: rest) scope cc cda) f A outer s H E) [e] te ∧
        PSs (ncx CX P w K mg base N (nfS x qual params (supStmt p0 p1 p2 p3 p4 e :: rest) scope cc cda) f A outer s H E) rest ts ∧
        te (startF N vs [some (.ref C)]) H (fun us H1 => us.length ≤ 1000 ∧ H1 a = some (exo a C none) ∧ ts { nx := fun _ H' => Q .non H', rt := Q } (startF N vs [some (.ref C)]) H1)) :
    FnOk P w K mg base CX (k + 1) f fd ps sp := by
  refine ⟨len, fun A outer s H args us vs Q E hr e0 hbd r hsp => ?_⟩
  obtain ⟨oc, od, doc, pm, an, cda, cc, ct, osl, rfl, lk, hcd, ⟨c1, d1, vz, s1, tf, lkc, hv2⟩, c2, d2, s2, lkcc⟩ := F.ex
  have hl := len _ _ _ _ hsp
  have KX : K.In s.heap := e0.mod.kin.keeps fun b o e => (e0.bs b o e).1
  have lim : s.heap.NoLimit := e0.mod.nolimit.keeps fun b o e => (e0.bs b o e).1
  refine codeAny_call_function hr.depth (KX _ _ lk) rfl S.co S.gen rfl (PySem.W.codeRec_of KX hcd) (hbd _ _ _ _ ?_)
  refine wpAny_newFunctionEnv S.nocell (fun ⟨n, _⟩ hy => S.par n (List.of_mem_zip hy).1) (fun h₁ hns hsb => ⟨lim.fresh _ hsb, ?_⟩) S.kind
  show codeAny _ _ (.func (supStmt p0 p1 p2 p3 p4 e :: rest) (envF (nfS x qual params (supStmt p0 p1 p2 p3 p4 e :: rest) scope cc cda) f s.heap.objs.size)) _ _
  refine ks_codeAny_funcAt ?_
  have kp : ∀ b o, s.heap.get? b = some o → h₁.get? b = some o := fun b o e => hsb.extBut b o (Nat.ne_of_lt (Heap.lt_size e)) (Heap.get?_push_of_some _ e)
  have bcc := e0.bs _ _ (e0.mod.kin _ _ lkcc)
  have Cl : CellsAt [("__class__", cc)] ["__class__"] [some (.ref C)] s.heap H := by
    have key : ∀ {y : Str} {c : Addr}, List.lookup y [(("__class__" : Str), cc)] = some c → y = "__class__" ∧ c = cc := fun {y c} hy => by
      have hm := PySem.mem_of_lookup hy
      rcases List.mem_cons.mp hm with z | z
      · cases z
        exact ⟨rfl, rfl⟩
      · cases z
    refine ⟨rfl, fun y c hy => ?_, fun x y c hx hy => (key hx).1.trans (key hy).1.symm, fun i y hy => ?_⟩
    · obtain ⟨_, rfl⟩ := key hy
      exact ⟨bcc.2, _, _, bcc.1, rfl⟩
    · cases i with
      | succ i => cases hy
      | zero =>
        cases hy
        refine ⟨cc, rfl, fun v hv => ?_⟩
        cases hv
        exact ⟨.ref C, rfl, _, bcc.1, rfl⟩
  obtain ⟨te, ts, a, us', rfl, ha, hte, hts, q⟩ := hb cc cda A outer s H vs Q E (hr.deeper _) hsp
  have I0 : Inv (ncx CX P w K mg base N (nfS x qual params (supStmt p0 p1 p2 p3 p4 e :: rest) scope cc cda) f A outer s H E) [] (startF N (.ref a :: us') [some (.ref C)]) H { s with heap := h₁, toks := s.toks + (ps.zip us).length } := inv_startN S hr.hd e0 hl r Cl hns kp
  obtain ⟨t1, ho⟩ := exo_at I0.hok ha
  have hkc : scope.names.lookup ("__class__" : Str) = some .free := S.frk _ (List.mem_singleton.mpr rfl)
  obtain ⟨ar, har, hself'⟩ := Option.map_eq_some_iff.mp hp
  have hka : scope.names.lookup ar.arg = some .local := by
    rw [hself']
    exact S.par _ (List.mem_of_getElem? hself)
  have K1 : K.In h₁ := I0.kIn
  obtain ⟨mb, hmb, hmb'⟩ := I0.mod.blt
  have hv : (ps.zip us).reverse.lookup ar.arg = some (.ref a) := by
    rw [hself']
    have ndP : ps.Nodup := by
      have q := S.nd.sublist (List.take_sublist (ps.length + 1) N)
      rw [show N.take (ps.length + 1) = ps ++ [("__class__" : Str)] from S.pre] at q
      exact (List.nodup_append.mp q).1
    obtain ⟨u0, hu0, ru0⟩ := r.get (i := 0) (x := .ref a) rfl
    have e1 : u0 = .ref a := ru0
    rw [e1] at hu0
    exact zip_look ndP hself hu0
  obtain ⟨nm, qq, NN, bs, bm, sn, sub, ab, col, dd, k0, k1, k2, k3, k5, hC, hbm⟩ := T.cls
  have hCh := K1 _ _ hC
  refine ks_wpAt_execs_cons (ks_wpAt_Expr_any ?_ (hi _ _ _) (hs _ _ _))
  refine ks_wpAt_MethodCall ?_ (he _ _ _)
  refine ks_wpAt_super_base hks hkc rfl rfl (K1 _ _ lk) rfl har rfl (K1 _ _ lkc) rfl hv2 hfile htop ?_
  refine PySem.W.ks_loadName_global S.kind hks (PySem.Calls.loadGlobal_builtin (I0.mod.glob.keeps I0.bk) hsup (hmb.keeps I0.bk) ((hmb' _ (by decide)).trans (by kernel_rfl : bootBuiltins "super" = some (.type "super"))) ⟨rfl, ?_⟩)
  refine wpAny_loadName_free S.kind hkc rfl ⟨_, K1 _ _ lkcc, rfl⟩ ?_
  refine wpAny_loadName_local S.kind hka hns hv ?_
  refine ks_wpAny_isType_cls hCh rfl ⟨rfl, ?_⟩
  refine ks_wpAny_call_super hCh rfl ho rfl (fun c e => by cases e) (PySem.W.looks_mroIn K1 B.ss) (fun h' hso k => ?_)
  have I1 : Inv (ncx CX P w K mg base N (nfS x qual params (supStmt p0 p1 p2 p3 p4 e :: rest) scope cc cda) f A outer s H E) [] (startF N (.ref a :: us') [some (.ref C)]) H { s with heap := h', toks := s.toks + (ps.zip us).length } := I0.kept k
  have K2 : K.In h' := I1.kIn
  cases hcl : PySem.W.clsIn K C with
  | none =>
    have z := B.fi
    unfold PySem.W.ks_superIn at z
    rw [hcl] at z
    cases z
  | some cd =>
    have hf := B.fi
    unfold PySem.W.ks_superIn at hf
    rw [hcl] at hf
    have IA : PySem.W.InstAt h' a { cls := .ref C, dict := none, data := .fields #[.ref t1, .none, .none, .none, .bool false, .none] } C none := ⟨k _ _ ho, rfl, rfl, trivial⟩
    refine PySem.W.kxs_getMethod PySem.W.kxs_ValueError hso (PySem.W.looks_opaque K2 B.ho) (l₀ := cd.mro) (fun A Q E s k q => wpAny_bind ((PySem.W.looks_clsIn K2 hcl) A _ E s k (wpAny_pure q))) rfl K2 hf (IA.type.andThen (PySem.W.looks_subIn K2 B.sv)) (PySem.W.ks_ne K2 IA hcl) rfl ?_
    have hpush : ∀ b o, h'.get? b = some o → (h'.push (mwV a)).get? b = some o := fun b o e => Heap.get?_push_of_some _ e
    have hu : (h'.push (mwV a)).get? h'.objs.size = some (mwV a) := Heap.get?_push_at rfl rfl
    have nu : h'.objs.size ≠ s.heap.objs.size := fun z => absurd I1.lt (by
      show ¬ s.heap.objs.size < h'.objs.size
      rw [z]
      exact Nat.lt_irrefl _)
    have hH : H h'.objs.size = none := I1.hok.fresh (Nat.le_refl _)
    have nfs := I1.nofs (Nat.le_refl h'.objs.size)
    have I3 : Inv (ncx CX P w K mg base N (nfS x qual params (supStmt p0 p1 p2 p3 p4 e :: rest) scope cc cda) f A outer s H E) [(h'.objs.size, mwV a)] (startF N (.ref a :: us') [some (.ref C)]) H { s with heap := h'.push (mwV a), toks := s.toks + (ps.zip us).length + 1 } :=
      { (I1.kept (t' := s.toks + (ps.zip us).length + 1) hpush) with
        pin := fun p hp => by
          have hp : p ∈ ([] : List (Addr × Obj)) ++ [(h'.objs.size, mwV a)] := hp
          rw [List.nil_append] at hp
          obtain rfl := List.mem_singleton.mp hp
          exact ⟨hu, hH, nu, nfs, fun v z => by cases z⟩ }
    have bn : base.get? h'.objs.size = none := by
      cases z : base.get? h'.objs.size with
      | none => rfl
      | some o => exact absurd (Heap.lt_size (k _ _ (kp _ _ (e0.bs _ _ z).1))) (Nat.lt_irrefl _)
    refine PySem.W.kxs_callWith1 (i := "ValueError.__init__") (x := a) (h₀ := base) (L := s.heap.objs.size) (news := [(h'.objs.size, mwV a)]) (fun p hp => by
      obtain rfl := List.mem_singleton.mp hp
      exact ⟨hu, nu, bn⟩) (List.mem_singleton.mpr rfl) (thn (hte.run p3 [(h'.objs.size, mwV a)] _ _ _ _ I3 q) fun us2 s2 ⟨ws, H1, I4, r4, hl4, ha4, q4⟩ => ?_) (hst _ _ _) rfl
    have hp4 := (I4.pin (h'.objs.size, mwV a) (by
      show _ ∈ ([] : List (Addr × Obj)) ++ [(h'.objs.size, mwV a)]
      simp)).1
    refine ⟨hp4, sinit_ok T I4 hp4 ha4 (by
      rw [← r4.length, sizeLine_eq]
      omega) fun s' J => ?_⟩
    have J2 : Inv (ncx CX P w K mg base N (nfS x qual params (supStmt p0 p1 p2 p3 p4 e :: rest) scope cc cda) f A outer s H E) [] (startF N (.ref a :: us') [some (.ref C)]) H1 s' :=
      { J with pin := fun p hp => absurd (show p ∈ ([] : List (Addr × Obj)) ++ [] from hp) (by simp) }
    refine wpAt_of_wpAny (wpAny_mono (hts.run [] s' _ H1 _ J2 q4) (fun fl s' hs => ?_) fun e s' hs => hs)
    have fin : ∀ {σ' : L2.St} {H' : Hp} {v : V} {u : Value}, Inv (ncx CX P w K mg base N (nfS x qual params (supStmt p0 p1 p2 p3 p4 e :: rest) scope cc cda) f A outer s H E) [] σ' H' s' → L2.RelV v u → Q v H' → CE outer P w H s Q u s' :=
      fun {σ' H' v u} J rv q => ⟨v, H', J.os, J.bare, J.base, J.hok, rv, q⟩
    cases fl with
    | ret u =>
      obtain ⟨v, σ', H', J, rv, q⟩ := hs
      exact fin J rv q
    | next =>
      obtain ⟨σ', H', J, q⟩ := hs
      exact fin (v := V.non) (u := Value.none) J rfl q
    | brk =>
      obtain ⟨_, _, _, q⟩ := hs
      exact False.elim q
    | cont =>
      obtain ⟨_, _, _, q⟩ := hs
      exact False.elim q
end
abbrev FnWS : Type := Option (Str × Str × Arguments × FuncBody × Scope × Addr × List Str × Addr)
def fnWS (K : PySem.W.Frag) (d : He.DefD) : FnWS := match K.lookup (He.fAd K d.at_) with
  | some ⟨_, _, .func fd, _⟩ => some (fd.name, fd.qualname, fd.params, fd.body, fd.scope, fd.globals, fd.closure.map (·.1), fd.builtins)
  | _ => none
def valS (d : He.DefD) : FnWS := some (d.name, d.qual, d.params, .stmts d.body, d.scope, mainGlobals, ["__class__"], builtinsNs)
def fileB (K : PySem.W.Frag) (file : Str) (cd : Value) : Bool := match cd with
  | .ref c => (match K.lookup c with
    | some ⟨_, _, .fields vs, _⟩ => (match (vs[2]? : Option Value) with
      | some (.str y _) => decide (y = file)
      | _ => false)
    | _ => false)
  | _ => false
def cellB (K : PySem.W.Frag) (C : Addr) (cl : List (Str × Addr)) : Bool := match cl with
  | [(_, cc)] => (match K.lookup cc with
    | some ⟨_, _, .cell (some (.ref D)), _⟩ => decide (D = C)
    | _ => false)
  | _ => false
def supDefB (K : PySem.W.Frag) (file : Str) (d : He.DefD) : Bool := match K.lookup (He.fAd K d.at_) with
  | some ⟨_, _, .func fd, _⟩ => PySem.W.codeIn K fd.code d.qual && (decide (fd.defaults = .none) && (decide (fd.kwdefaults = .none) && (fileB K file fd.code && cellB K (He.ga K d.at_.1) fd.closure)))
  | _ => false
theorem fileB_ok {K : PySem.W.Frag} {file : Str} {cd : Value} (h : fileB K file cd = true) : ∃ cda, cd = .ref cda ∧ ∃ (c1 : Value) (d1 : Option Addr) (vs : Array Value) (s1 : Array (Option Value)) (tf : Tok), K.lookup cda = some ⟨c1, d1, .fields vs, s1⟩ ∧ vs[2]? = some (.str file tf) := by
  unfold fileB at h
  split at h
  · rename_i c
    split at h
    · rename_i vs _ ho
      split at h
      · rename_i y t hv
        have e := of_decide_eq_true h
        subst e
        exact ⟨c, rfl, _, _, vs, _, t, ho, hv⟩
      · cases h
    · cases h
  · cases h
theorem cellB_ok {K : PySem.W.Frag} {C : Addr} {cl : List (Str × Addr)} (h : cellB K C cl = true) : ∃ n cc, cl = [(n, cc)] ∧ ∃ (c2 : Value) (d2 : Option Addr) (s2 : Array (Option Value)), K.lookup cc = some ⟨c2, d2, .cell (some (.ref C)), s2⟩ := by
  unfold cellB at h
  split at h
  · rename_i n cc
    split at h
    · rename_i D _ ho
      have e := of_decide_eq_true h
      subst e
      exact ⟨n, cc, rfl, _, _, _, ho⟩
    · cases h
  · cases h
theorem funS_of {K : PySem.W.Frag} {file : Str} {d : He.DefD} (e : fnWS K d = valS d) (c : supDefB K file d = true) : ∃ fd, FunS K (He.ga K d.at_.1) file d.name d.qual d.params d.body d.scope (He.fAd K d.at_) fd := by
  unfold supDefB at c
  unfold fnWS at e
  split at c
  · rename_i oc od fd osl ho
    rw [ho] at e
    obtain ⟨c1, c⟩ := He.ba c
    obtain ⟨c2, c⟩ := He.ba c
    obtain ⟨c3, c⟩ := He.ba c
    obtain ⟨c4, c5⟩ := He.ba c
    obtain ⟨cda, e4, r4⟩ := fileB_ok c4
    obtain ⟨n, cc, e5, r5⟩ := cellB_ok c5
    refine ⟨fd, ?_⟩
    obtain ⟨nm, qn, ps, bd, sc, gl, cl, dv, kv, doc, pm, an, cd, ct, bl⟩ := fd
    dsimp only at e c1 c2 c3 e4 e5
    have e := Option.some.inj e
    have e2 := of_decide_eq_true c2
    have e3 := of_decide_eq_true c3
    subst e4 e5 e2 e3
    have e : (nm, qn, ps, bd, sc, gl, [n], bl) = (d.name, d.qual, d.params, FuncBody.stmts d.body, d.scope, mainGlobals, [("__class__" : Str)], builtinsNs) := e
    simp only [Prod.mk.injEq, List.cons.injEq, and_true] at e
    obtain ⟨z1, z2, z3, z4, z5, z6, z7, z8⟩ := e
    subst z1 z2 z3 z4 z5 z6 z7 z8
    exact ⟨_, _, _, _, _, cda, cc, _, _, rfl, ho, c1, r4, r5⟩
  · cases c
abbrev AlS : Type := He.AlX × List FnWS
def obsK (fa : List He.Fa) (fn : List He.DefD) (tf : List He.Defn) (fs : List He.DefD) (ex : PySem.W.Frag → Bool) (g : Addr → Option Obj) (K : PySem.W.Frag) : AlS := ((He.obsT fa fn [] K, ex K && He.tabsB g tf K), fs.map fun d => fnWS K d)
def valSS (fn : List He.DefD) (fs : List He.DefD) (w : World) : AlS := (He.valX fn [] w, fs.map valS)
structure SaysS (fa : List He.Fa) (fn : List He.DefD) (tf : List He.Defn) (fs : List He.DefD) (ex : PySem.W.Frag → Bool) (w : World) (h : Heap) (K : PySem.W.Frag) : Prop where
  x : He.SaysX fa fn [] tf ex w h K
  s : fs.map (fun d => fnWS K d) = fs.map valS
theorem SaysS.def_ {fa : List He.Fa} {fn fs : List He.DefD} {tf : List He.Defn} {ex : PySem.W.Frag → Bool} {w : World} {h : Heap} {K : PySem.W.Frag} (c : SaysS fa fn tf fs ex w h K) (i : Nat) {d : He.DefD} (hd : fs[i]? = some d) : fnWS K d = valS d := by
  have e2 : (fs.map fun d => fnWS K d)[i]? = (fs.map valS)[i]? := by rw [c.s]
  rw [List.getElem?_map, List.getElem?_map, hd] at e2
  exact Option.some.inj e2
/-- the same over written addresses -/
def obsL (as : List Addr) (fa : List He.Fa) (fn : List He.DefD) (tf : List He.Defn) (fs : List He.DefD) (ex : PySem.W.Frag → Bool) (g : Addr → Option Obj) : AlS := obsK fa fn tf fs ex g (He.frT g as)
theorem saysL_of {as : List Addr} {fa : List He.Fa} {fn fs : List He.DefD} {tf : List He.Defn} {ex : PySem.W.Frag → Bool} {w : World} {h : Heap} (e : obsL as fa fn tf fs ex h.get? = valSS fn fs w) : SaysS fa fn tf fs ex w h (He.frT h.get? as) := by
  have e0 : (He.obsT fa fn [] (He.frT h.get? as), ex (He.frT h.get? as) && He.tabsB h.get? tf (He.frT h.get? as)) = He.valX fn [] w := congrArg (fun z : AlS => z.1) e
  have e3 : fs.map (fun d => fnWS (He.frT h.get? as) d) = fs.map valS := congrArg (fun z : AlS => z.2) e
  have e1 : He.obsT fa fn [] (He.frT h.get? as) = He.valT fn [] w := congrArg (fun z : He.AlX => z.1) e0
  have e2 : (ex (He.frT h.get? as) && He.tabsB h.get? tf (He.frT h.get? as)) = true := congrArg (fun z : He.AlX => z.2) e0
  obtain ⟨h1, h2⟩ := He.ba e2
  have tab : ∀ p ∈ tf, PySem.W.codeHdIn (He.frT h.get? as) (He.cT (He.frT h.get? as) p).1 (He.cT (He.frT h.get? as) p).2 = true ∧ ∃ o, h.get? (He.cT (He.frT h.get? as) p).2 = some o ∧ He.emptyTab o = true := fun p hp => by
    obtain ⟨h3, h4⟩ := He.ba (List.all_eq_true.mp h2 p hp)
    refine ⟨h3, ?_⟩
    split at h4
    · rename_i o q
      exact ⟨o, q, h4⟩
    · cases h4
  refine ⟨⟨e1, h1, fun p hp => (tab p hp).1, fun p hp => ?_, fun p hp => ?_⟩, e3⟩
  · obtain ⟨_, o, q, z⟩ := tab p hp
    exact He.frT_none q z
  · obtain ⟨_, o, q, z⟩ := tab p hp
    rw [q, He.emptyTab_eq z]
def hookL (as : List Addr) (fa : List He.Fa) (fn : List He.DefD) (tf : List He.Defn) (fs : List He.DefD) (ex : PySem.W.Frag → Bool) : PySem.W.Hook where
  α := AlS
  obs := fun s => obsL as fa fn tf fs ex s.heap.get?
  val := fun w => valSS fn fs w
  says := fun w h => ∃ K : PySem.W.Frag, K.In h ∧ SaysS fa fn tf fs ex w h K
  of := fun _ _ e => ⟨_, He.frT_in, saysL_of e⟩
  keeps := fun _ _ _ ⟨K, hK, c⟩ k => ⟨K, PySem.W.Frag.In.keeps hK k, ⟨⟨c.x.t, c.x.more, c.x.hd, c.x.out, fun p hp => k _ _ (c.x.empty p hp)⟩, c.s⟩⟩
theorem obsL_eq {as : List Addr} {fa : List He.Fa} {fn fs : List He.DefD} {tf : List He.Defn} {ex : PySem.W.Frag → Bool} {g : Addr → Option Obj} {s : Shared} (h : ∀ a, g a = s.heap.get? a) : obsL as fa fn tf fs ex g = (hookL as fa fn tf fs ex).obs s := by
  have e : g = s.heap.get? := funext h
  rw [e] <;> rfl
end UbS
namespace UbIn
open PySem PySem.Spec PyProof.Rows L2 Ub
section
variable {X : Cx}
def rInA (K : PySem.W.Frag) (neg : Bool) : R2 := fun x y H Q => rIn K neg x y H Q ∨ ∃ d ds, Dp K H x d ∧ (Dp K H y (.list ds) ∨ Dp K H y (.tuple ds)) ∧ d.canLay0 = true ∧ PyData.canLayAll0 ds = true ∧ d.depth ≤ 40 ∧
  Q (.bl (if neg then !ds.any fun z => PyData.eqv z d else ds.any fun z => PyData.eqv z d)) H
theorem op_inA (hu : X.A.units + 64 < cLine) : OpR X (compareOp .In) (rInA X.K false) := by
  intro pins s σ H x y v u Q I rx ry h
  rcases h with h | ⟨d, ds, hd, he, sd, se, hz, q⟩
  · exact op_in_seq pins s σ H x y v u Q I rx ry h
  obtain ⟨as, r1⟩ := Dp.reads I d x v hd rx
  have hm : X.A.units + 1 + min (PyData.depthAll ds) d.depth < cLine := by
    have := Nat.min_le_right (PyData.depthAll ds) d.depth
    omega
  rcases he with he | he
  · obtain ⟨bs, r2⟩ := Dp.reads I (.list ds) y u he ry
    exact SeqAt.in_list_reads r2 r1 se sd hm ⟨.bl _, H, I, rfl, q⟩
  · obtain ⟨bs, r2⟩ := Dp.reads I (.tuple ds) y u he ry
    exact SeqAt.in_tuple_reads r2 r1 se sd hm ⟨.bl _, H, I, rfl, q⟩
variable {K : PySem.W.Frag}
end
end UbIn
namespace UbP
open PySem
inductive D where
  | non | bl (b : Bool) | int (i : Int) | str (x : Str) | lst (ds : List D) | lsf (ds : List D) | tup (ds : List D) | obj (c : Str) (fs : List (Str × D))
  deriving Inhabited
mutual
def eqv : D → D → Bool
  | .non, .non => true
  | .bl a, .bl b => a == b
  | .bl a, .int j => (if a then 1 else 0) == j
  | .int i, .bl b => i == (if b then 1 else 0)
  | .int i, .int j => i == j
  | .str x, .str y => x == y
  | .lst xs, .lst ys => eqvAll xs ys
  | .tup xs, .tup ys => eqvAll xs ys
  | _, _ => false
def eqvAll : List D → List D → Bool
  | [], [] => true
  | x :: xs, y :: ys => eqv x y && eqvAll xs ys
  | _, _ => false
end
mutual
/-- may be compared by ==: depth at most n, texts of real signs -/
def sh : D → Nat → Bool
  | .non, _ => true
  | .bl _, _ => true
  | .int _, _ => true
  | .str x, _ => x.cps.all (· < 0x110000)
  | .lst ds, n => decide (0 < n) && shAll ds (n - 1)
  | .tup ds, n => decide (0 < n) && shAll ds (n - 1)
  | .lsf _, _ => false
  | .obj _ _, _ => false
def shAll : List D → Nat → Bool
  | [], _ => true
  | d :: ds, n => sh d n && shAll ds n
end
mutual
/-- no list and no object within -/
def noL : D → Bool
  | .tup ds => noLs ds
  | .lst _ => false
  | .lsf _ => false
  | .obj _ _ => false
  | _ => true
def noLs : List D → Bool
  | [] => true
  | d :: ds => noL d && noLs ds
end
/-- what is owned: it may change -/
inductive Ct where
  | l (ds : List D) | o (c : Str) (fs : List (Str × D))
  deriving Inhabited
def Ct.toD : Ct → D
  | .l ds => .lst ds
  | .o c fs => .obj c fs
/-- an error: its class, its fields -/
structure Ex where
  cls : Str
  fs : List (Str × D)
/-- a slot: data; a thing owned here; one owned by the caller; a caught error -/
inductive Sl where
  | no | dat (d : D) | own (c : Ct) | par (c : Ct) | ex (x : Ex)
  deriving Inhabited
abbrev Env := List Sl
/-- what an expression gives: data; the owned thing in slot i; a new thing that nobody else holds -/
inductive Vw where
  | d (d : D) | o (i : Nat) | f (c : Ct)
inductive Res (α : Type) where
  | ok (a : α) (e : Env) | exc (x : Ex) (e : Env) | bad
abbrev M (α : Type) := Env → Res α
section
variable {α β : Type}
def ret (a : α) : M α := fun e => .ok a e
def bnd (m : M α) (k : α → M β) : M β := fun e => match m e with
  | .ok a e' => k a e'
  | .exc x e' => .exc x e'
  | .bad => .bad
def optM (o : Option α) : M α := fun e => match o with
  | some a => .ok a e
  | none => .bad
end
def getO (i : Nat) (e : Env) : Option Ct := match e[i]? with
  | some (.own c) => some c
  | some (.par c) => some c
  | _ => none
def setO (i : Nat) (c : Ct) (e : Env) : Env := match e[i]? with
  | some (.own _) => e.set i (.own c)
  | some (.par _) => e.set i (.par c)
  | _ => e
/-- as data that is looked at now -/
def Vw.now (w : Vw) (e : Env) : Option D := match w with
  | .d x => some x
  | .f c => some c.toD
  | .o i => (getO i e).map Ct.toD
/-- as data that stays -/
def Vw.stay : Vw → Option D
  | .d x => some x
  | .f c => some c.toD
  | .o _ => none
def tru : D → Option Bool
  | .non => some false
  | .bl b => some b
  | .int i => some (i != 0)
  | .str x => if x.length ≤ 1000000 then some (decide (x.length ≠ 0)) else none
  | .lst ds => some !ds.isEmpty
  | .lsf ds => some !ds.isEmpty
  | .tup ds => some !ds.isEmpty
  | .obj _ _ => none
abbrev LIM : Nat := 1000000
def log2 (i : Int) : Nat := i.natAbs.log2
def vI (i : Int) : Option Vw := some (.d (.int i))
def vB (b : Bool) : Option Vw := some (.d (.bl b))
def addD : D → D → Option Vw
  | .int a, .int b => vI (a + b)
  | .str a, .str b => if a.length + b.length ≤ LIM then some (.d (.str (a ++ b))) else none
  | .lst a, .lst b => if a.length + b.length ≤ LIM then some (.f (.l (a ++ b))) else none
  | .tup a, .tup b => if a.length + b.length ≤ LIM then some (.d (.tup (a ++ b))) else none
  | _, _ => none
def subD : D → D → Option Vw
  | .int a, .int b => vI (a - b)
  | _, _ => none
def rep (ds : List D) : Nat → List D
  | 0 => []
  | n + 1 => ds ++ rep ds n
def smI (a : Int) : Bool := decide (a.natAbs < 2 ^ 64)
def mulD : D → D → Option Vw
  | .int a, .int b => if smI a || smI b || decide (log2 a + log2 b < 900000) then vI (a * b) else none
  | .lst ds, .int k => if k < 1000000 ∧ ds.length * k.toNat ≤ LIM ∧ -1000000 < k then some (.f (.l (rep ds k.toNat))) else none
  | _, _ => none
def fdivD : D → D → Option Vw
  | .int a, .int b => if b ≠ 0 ∧ log2 b < 9000 then vI (a.fdiv b) else none
  | _, _ => none
def modD : D → D → Option Vw
  | .int a, .int b => if b ≠ 0 then vI (a.fmod b) else none
  | _, _ => none
def powD : D → D → Option Vw
  | .int a, .int b => if 0 ≤ b ∧ b ≤ 100000 ∧ a.natAbs < 2 ^ 64 then vI (a ^ b.toNat) else none
  | _, _ => none
def negD : D → Option Vw
  | .int a => vI (-a)
  | _ => none
def lenD : D → Option Vw
  | .lst ds => vI ds.length
  | .lsf ds => vI ds.length
  | .tup ds => vI ds.length
  | .str x => if x.length ≤ LIM then vI x.length else none
  | _ => none
def absD : D → Option Vw
  | .int a => vI (if a < 0 then -a else a)
  | _ => none
def intD : D → Option Vw
  | .int a => vI a
  | .bl b => vI (if b then 1 else 0)
  | _ => none
def gcdD : D → D → Option Vw
  | .int a, .int b => vI (Nat.gcd a.natAbs b.natAbs : Nat)
  | _, _ => none
def lcmD : D → D → Option Vw
  | .int a, .int b => if log2 a < 9000 ∧ log2 b < 9000 then vI (Nat.lcm a.natAbs b.natAbs : Nat) else none
  | _, _ => none
def minD : D → D → Option Vw
  | .int a, .int b => vI (if b < a then b else a)
  | _, _ => none
def maxD : D → D → Option Vw
  | .int a, .int b => vI (if b > a then b else a)
  | _, _ => none
def listD : D → Option Vw
  | .lst ds => some (.f (.l ds))
  | .lsf ds => some (.f (.l ds))
  | .tup ds => some (.f (.l ds))
  | _ => none
def tupD : D → Option Vw
  | .lst ds => some (.d (.tup ds))
  | .tup ds => some (.d (.tup ds))
  | _ => none
def revD : D → Option Vw
  | .lst ds => some (.f (.l ds.reverse))
  | .lsf ds => some (.f (.l ds.reverse))
  | _ => none
def fldD (cs : List Str) (f : Str) : D → Option Vw
  | .obj c fs => if cs.contains c then (fs.lookup f).map .d else none
  | _ => none
/-- the built-in type's name -/
def tyD : D → Option String
  | .non => some "NoneType"
  | .bl _ => some "bool"
  | .int _ => some "int"
  | .str _ => some "str"
  | .lst _ => some "list"
  | .tup _ => some "tuple"
  | _ => none
def isT (t : String) (s : String) : Bool := s == t || (s == "bool" && t == "int")
def isiD (t : String) (d : D) : Option Vw := (tyD d).bind fun s => vB (isT t s)
def intsOf : List D → Option (List Int)
  | [] => some []
  | .int b :: ds => (intsOf ds).map (b :: ·)
  | _ => none
def sumD : D → Option Vw
  | .lst ds => (intsOf ds).bind fun bs => vI bs.sum
  | _ => none
/-- max(a list of ints, default=an int) -/
def maxL : List Int → Option Int
  | [] => none
  | x :: xs => some (xs.foldl max x)
def minL : List Int → Option Int
  | [] => none
  | x :: xs => some (xs.foldl min x)
def maxlD : D → Option Vw
  | .lst ds => (intsOf ds).bind fun ns => (maxL ns).bind vI
  | _ => none
def minlD : D → Option Vw
  | .lst ds => (intsOf ds).bind fun ns => (minL ns).bind vI
  | _ => none
def ixI (n : Nat) (i : Int) : Option Nat := if 0 ≤ i then (if i < n then some i.toNat else none) else if -(n : Int) ≤ i then some (i + n).toNat else none
def atL {α : Type} (xs : List α) (i : Int) : Option α := (ixI xs.length i).bind fun j => xs[j]?
def ixD : D → D → Option Vw
  | .lst ds, .int i => (atL ds i).map .d
  | .lsf ds, .int i => (atL ds i).map .d
  | .tup ds, .int i => (atL ds i).map .d
  | .str x, .int i => if x.length ≤ LIM then (atL x.cps.toList i).map fun c => .d (.str ⟨#[c]⟩) else none
  | _, _ => none
def sIx (n d : Nat) : Option Int → Nat
  | none => d
  | some v => if v < 0 then (v + (n : Int)).toNat else min v.toNat n
def cut {α : Type} (xs : List α) (lo hi : Option Int) : List α := (xs.drop (sIx xs.length 0 lo)).take (sIx xs.length xs.length hi - sIx xs.length 0 lo)
/-- a part of a text -/
def cutT (x : Str) (lo hi : Option Int) : Str := ⟨(cut x.cps.toList lo hi).toArray⟩
def slD (lo hi : Option Int) : D → Option Vw
  | .lst ds => some (.f (.l (cut ds lo hi)))
  | .lsf ds => some (.f (.l (cut ds lo hi)))
  | .tup ds => some (.d (.tup (cut ds lo hi)))
  | .str x => if x.length ≤ LIM then some (.d (.str (cutT x lo hi))) else none
  | _ => none
def scal : D → Bool
  | .non => true | .bl _ => true | .int _ => true | .str _ => true | _ => false
def eqD (a b : D) : Option Bool := if (scal a && scal b) || (sh a 60 && sh b 60) then some (eqv a b) else none
def neD (a b : D) : Option Bool := (eqD a b).map (!·)
def cmpI (f : Int → Int → Bool) : D → D → Option Bool
  | .int a, .int b => some (f a b)
  | _, _ => none
def ltD : D → D → Option Bool := cmpI fun a b => decide (a < b)
def leD : D → D → Option Bool := cmpI fun a b => decide (a ≤ b)
def gtD : D → D → Option Bool := cmpI fun a b => decide (b < a)
def geD : D → D → Option Bool := cmpI fun a b => decide (b ≤ a)
def flat : D → Bool := scal
def mem (x : D) (ds : List D) : Bool := ds.any fun y => eqv y x
/-- one sign -/
def sgn (c : Nat) : Str := ⟨#[c]⟩
def sign? (x : Str) : Option Nat := match x.cps.toList with
  | [c] => some c
  | _ => none
def inD (x : D) : D → Option Bool
  | .str z => match x with
    | .str y => (sign? y).map fun c => decide (c ∈ z.cps.toList)
    | _ => none
  | .lst ds => if (flat x && ds.all flat) || (sh x 40 && shAll ds 59) then some (mem x ds) else none
  | .tup ds => if (flat x && ds.all flat) || (sh x 40 && shAll ds 59) then some (mem x ds) else none
  | _ => none
/-- xs.index(x) -/
def idxD : D → D → Option Vw
  | .lst ds, x => if (flat x && ds.all flat) || (sh x 40 && shAll ds 59) then ((ds.findIdx? fun y => eqv y x)).bind fun j => vI (j : Nat) else none
  | _, _ => none
/-- sorted(a list of ints) -/
def insI (x : Int) : List Int → List Int
  | [] => [x]
  | y :: ys => if x ≤ y then x :: y :: ys else y :: insI x ys
def sortI : List Int → List Int
  | [] => []
  | x :: xs => insI x (sortI xs)
def sortD : D → Option Vw
  | .lst ds => (intsOf ds).bind fun ns => some (.f (.l ((sortI ns).map .int)))
  | _ => none
def shlD : D → D → Option Vw
  | .int a, .int b => if 0 ≤ b ∧ b ≤ 1000 ∧ a.natAbs < 2 ^ 64 then vI (a * 2 ^ b.toNat) else none
  | _, _ => none
def shrD : D → D → Option Vw
  | .int a, .int b => if 0 ≤ b then vI (a / 2 ^ b.toNat) else none
  | _, _ => none
def andD : D → D → Option Vw
  | .int a, .int b => if 0 ≤ a ∧ 0 ≤ b then vI ((a.toNat &&& b.toNat : Nat) : Int) else none
  | _, _ => none
def orD : D → D → Option Vw
  | .int a, .int b => if 0 ≤ a ∧ 0 ≤ b then vI ((a.toNat ||| b.toNat : Nat) : Int) else none
  | _, _ => none
def isN : D → Bool
  | .non => true
  | _ => false
def isBl (b : Bool) : D → Option Bool
  | .bl c => some (decide (c = b))
  | _ => none
def isNoD (a : D) : D → Option Bool
  | .non => some (isN a)
  | .bl b => isBl b a
  | _ => none
def notNoD (a : D) : D → Option Bool
  | .non => some !(isN a)
  | .bl b => (isBl b a).map (!·)
  | _ => none
def eC (d : D) : M Vw := ret (.d d)
def eV (i : Nat) : M Vw := fun e => match e[i]? with
  | some (.dat d) => .ok (.d d) e
  | some (.own _) => .ok (.o i) e
  | some (.par _) => .ok (.o i) e
  | _ => .bad
def nowM (w : Vw) : M D := fun e => match w.now e with
  | some d => .ok d e
  | none => .bad
def stayM (w : Vw) : M D := optM w.stay
def eU (f : D → Option Vw) (a : M Vw) : M Vw := bnd a fun w => bnd (nowM w) fun d => optM (f d)
def eB (f : D → D → Option Vw) (a b : M Vw) : M Vw := bnd a fun w => bnd b fun u => bnd (nowM w) fun d => bnd (nowM u) fun c => optM (f d c)
def tB (f : D → D → Option Bool) (a b : M Vw) : M Bool := bnd a fun w => bnd b fun u => bnd (nowM w) fun d => bnd (nowM u) fun c => optM (f d c)
def cB (f : D → D → Option Bool) : D → D → Option Vw := fun a b => (f a b).map fun k => .d (.bl k)
def truM (w : Vw) : M Bool := bnd (nowM w) fun d => optM (tru d)
def tE (a : M Vw) : M Bool := bnd a truM
def tNot (t : M Bool) : M Bool := bnd t fun b => ret !b
def tAnd (t u : M Bool) : M Bool := bnd t fun b => if b then u else ret false
def tOr (t u : M Bool) : M Bool := bnd t fun b => if b then ret true else u
/-- a < b < c -/
def tCh (f g : D → D → Option Bool) (a b c : M Vw) : M Bool := bnd a fun w => bnd b fun u => bnd (nowM w) fun d => bnd (nowM u) fun v => bnd (optM (f d v)) fun k => if k then bnd c fun z => bnd (nowM u) fun v => bnd (nowM z) fun y => optM (g v y) else ret false
/-- a < b < c as a value -/
def eChn (f g : D → D → Option Bool) (a b c : M Vw) : M Vw := bnd (tCh f g a b c) fun k => ret (.d (.bl k))
def Vw.dull : Vw → Vw
  | .f c => .d c.toD
  | w => w
def eAnd (a b : M Vw) : M Vw := bnd a fun w => bnd (truM w) fun k => if k then b else ret w.dull
def eOr (a b : M Vw) : M Vw := bnd a fun w => bnd (truM w) fun k => if k then ret w.dull else b
def eNot (a : M Vw) : M Vw := bnd a fun w => bnd (truM w) fun k => ret (.d (.bl !k))
def eIf (t : M Bool) (a b : M Vw) : M Vw := bnd t fun k => if k then a else b
def eArgs : List (M Vw) → M (List Vw)
  | [] => ret []
  | a :: as => bnd a fun w => bnd (eArgs as) fun ws => ret (w :: ws)
def stays : List Vw → Option (List D)
  | [] => some []
  | w :: ws => match w.stay, stays ws with
    | some d, some ds => some (d :: ds)
    | _, _ => none
def eTup (as : List (M Vw)) : M Vw := bnd (eArgs as) fun ws => bnd (optM (stays ws)) fun ds => if ds.length < LIM then ret (.d (.tup ds)) else optM none
def eLst (as : List (M Vw)) : M Vw := bnd (eArgs as) fun ws => bnd (optM (stays ws)) fun ds => if ds.length < LIM then ret (.f (.l ds)) else optM none
def intM (a : M Vw) : M (Option Int) := bnd a fun w => bnd (nowM w) fun d => match d with
  | .int i => ret (some i)
  | _ => optM none
def eSl (a : M Vw) (lo hi : M (Option Int)) : M Vw := bnd a fun w => bnd lo fun l => bnd hi fun h => bnd (nowM w) fun d => optM (slD l h d)
def ownL (i : Nat) : M (List D) := fun e => match getO i e with
  | some (.l ds) => .ok ds e
  | _ => .bad
def putL (i : Nat) (ds : List D) : M Unit := fun e => .ok () (setO i (.l ds) e)
def viewI : Vw → Option Nat
  | .o i => some i
  | _ => none
/-- the receiver: an owned list -/
def recv (a : M Vw) : M Nat := bnd a fun w => bnd (optM (viewI w)) fun i => bnd (ownL i) fun _ => ret i
def eApp (a m : M Vw) : M Vw := bnd (recv a) fun i => bnd m fun u => bnd (stayM u) fun d => bnd (ownL i) fun ds => if ds.length < LIM then bnd (putL i (ds ++ [d])) fun _ => ret (.d .non) else optM none
def ePop (a : M Vw) : M Vw := bnd (recv a) fun i => bnd (ownL i) fun ds => bnd (optM ds.getLast?) fun d => bnd (putL i ds.dropLast) fun _ => ret (.d d)
def isLst : D → Bool
  | .lst _ => true
  | _ => false
def eIdx (a b : M Vw) : M Vw := bnd a fun w => bnd (nowM w) fun d0 => if isLst d0 then bnd b fun u => bnd (nowM w) fun d => bnd (nowM u) fun c => optM (idxD d c) else optM none
/-- xs.pop(i) -/
def ePopA (a m : M Vw) : M Vw := bnd (recv a) fun i => bnd m fun u => bnd (nowM u) fun n => bnd (ownL i) fun ds => match n with
  | .int k => match ixI ds.length k with
    | some j => bnd (optM ds[j]?) fun d => if ds.length < LIM then bnd (putL i (ds.eraseIdx j)) fun _ => ret (.d d) else optM none
    | none => optM none
  | _ => optM none
def eRev (a : M Vw) : M Vw := bnd (recv a) fun i => bnd (ownL i) fun ds => bnd (putL i ds.reverse) fun _ => ret (.d .non)
def listOf : D → Option (List D)
  | .lst ds => some ds
  | _ => none
def eExt (a m : M Vw) : M Vw := bnd (recv a) fun i => bnd m fun u => bnd (stayM u) fun d => bnd (optM (listOf d)) fun xs => bnd (ownL i) fun ds => if ds.length + xs.length ≤ LIM then bnd (putL i (ds ++ xs)) fun _ => ret (.d .non) else optM none
inductive FRes where
  | ret (w : Vw) (cs : List Ct) | exc (x : Ex) (cs : List Ct) | bad
abbrev Fn := List Sl → FRes
def pars : Env → List Ct
  | [] => []
  | .par c :: e => c :: pars e
  | _ :: e => pars e
/-- the arguments: true for those that the callee may change -/
def mkArgs : List Bool → List Vw → Env → Option (List Sl)
  | [], [], _ => some []
  | m :: ms, w :: ws, e => match mkArgs ms ws e with
    | none => none
    | some r => if m then match w with
        | .o i => (getO i e).map fun c => .par c :: r
        | _ => none
      else (w.now e).map fun d => .dat d :: r
  | _, _, _ => none
def ownIx : List Bool → List Vw → List Nat
  | m :: ms, .o i :: ws => if m then i :: ownIx ms ws else ownIx ms ws
  | _ :: ms, _ :: ws => ownIx ms ws
  | _, _ => []
def lookIx : List Bool → List Vw → List Nat
  | m :: ms, .o i :: ws => if m then lookIx ms ws else i :: lookIx ms ws
  | _ :: ms, _ :: ws => lookIx ms ws
  | _, _ => []
def nodup : List Nat → Bool
  | [] => true
  | x :: xs => !xs.contains x && nodup xs
def Vw.noL : Vw → Bool
  | .d x => UbP.noL x
  | _ => false
def Ct.noL : Ct → Bool
  | .l ds => noLs ds
  | .o _ _ => false
/-- owned things may be handed on; one that is only looked at lets no list come back -/
def passOk (look : List Nat) (w : Vw) (cs : List Ct) : Bool := (viewI w).isNone && (look.isEmpty || (w.noL && cs.all Ct.noL))
def putBack : List Bool → List Vw → List Ct → Env → Option Env
  | [], [], [], e => some e
  | true :: ms, .o i :: ws, c :: cs, e => putBack ms ws cs (setO i c e)
  | false :: ms, _ :: ws, cs, e => putBack ms ws cs e
  | _, _, _, _ => none
def callB (f : Fn) (ms : List Bool) (dv : List D) (ws : List Vw) : M Vw := fun e =>
  match mkArgs ms ws e with
  | none => .bad
  | some args => if nodup (ownIx ms ws ++ lookIx ms ws) then match f (args ++ dv.map .dat) with
      | .ret w cs => if passOk (lookIx ms ws) w cs then match putBack ms ws cs e with
          | some e' => .ok w e'
          | none => .bad
        else .bad
      | .exc x cs => if (lookIx ms ws).isEmpty then match putBack ms ws cs e with
          | some e' => .exc x e'
          | none => .bad
        else .bad
      | .bad => .bad
    else .bad
def eCall (f : Fn) (ms : List Bool) (as : List (M Vw)) (dv : List D) : M Vw := bnd (eArgs as) (callB f ms dv)
inductive Tg where
  | nm (i : Nat) | tp (ts : List Tg)
def putN (i : Nat) (d : D) (e : Env) : Option Env := match e[i]? with
  | some .no => some (e.set i (.dat d))
  | some (.dat _) => some (e.set i (.dat d))
  | some (.own _) => some (e.set i (.dat d))
  | _ => none
mutual
def putT : Tg → D → Env → Option Env
  | .nm i, d, e => putN i d e
  | .tp ts, .tup ds, e => putTs ts ds e
  | .tp _, _, _ => none
def putTs : List Tg → List D → Env → Option Env
  | [], [], e => some e
  | t :: ts, d :: ds, e => (putT t d e).bind (putTs ts ds)
  | _, _, _ => none
end
def signsD (x : Str) : List D := x.cps.toList.map fun c => .str (sgn c)
def walkD : D → Option (List D)
  | .str x => some (signsD x)
  | .lst ds => some ds
  | .lsf ds => some ds
  | .tup ds => some ds
  | _ => none
def intsL (lo : Int) (n : Nat) : List D := (List.range n).map fun k => .int (lo + (k : Nat))
def iE (a : M Vw) : M (List D) := bnd a fun w => bnd (stayM w) fun d => optM (walkD d)
def bigI (i : Int) : Bool := decide (-(2 ^ 62) ≤ i ∧ i < 2 ^ 62)
def iR1 (a : M Vw) : M (List D) := bnd a fun w => bnd (nowM w) fun d => match d with
  | .int j => if bigI j then ret (intsL 0 j.toNat) else optM none
  | _ => optM none
def iR2 (a b : M Vw) : M (List D) := bnd a fun w => bnd b fun u => bnd (nowM w) fun d => bnd (nowM u) fun c => match d, c with
  | .int i, .int j => if bigI i && bigI j then ret (intsL i (j - i).toNat) else optM none
  | _, _ => optM none
def enumF (ds : List D) : List D := (List.range ds.length).map fun k => .tup [.int (k : Nat), ds.getD k .non]
/-- list(range(n)) -/
def rgOk (i j : Int) : Bool := decide (-(2 ^ 62) ≤ i ∧ i < 2 ^ 62 ∧ -(2 ^ 62) ≤ j ∧ j < 2 ^ 62 ∧ (j - i).toNat ≤ 2 ^ 24)
def rg1D : D → Option Vw
  | .int j => if rgOk 0 j then some (.f (.l (intsL 0 j.toNat))) else none
  | _ => none
def eRg1 (a : M Vw) : M Vw := eU rg1D a
def seqOf : D → Option (List D)
  | .lst ds => some ds
  | .lsf ds => some ds
  | .tup ds => some ds
  | _ => none
def iEn (a : M Vw) : M (List D) := bnd a fun w => bnd (stayM w) fun d => bnd (optM (seqOf d)) fun ds => ret (enumF ds)
def iZ (a b : M Vw) : M (List D) := bnd a fun w => bnd b fun u => bnd (stayM w) fun d => bnd (stayM u) fun c => bnd (optM (seqOf d)) fun ds => bnd (optM (seqOf c)) fun cs => ret (List.zipWith (fun x y => .tup [x, y]) ds cs)
def zip3 (ds cs bs : List D) : List D := List.zipWith (fun x p => .tup [x, p.1, p.2]) ds (cs.zip bs)
def iZ3 (a b c : M Vw) : M (List D) := bnd a fun w => bnd b fun u => bnd c fun t => bnd (stayM w) fun d => bnd (stayM u) fun e => bnd (stayM t) fun f => bnd (optM (listOf d)) fun ds => bnd (optM (listOf e)) fun es => bnd (optM (listOf f)) fun fs => ret (zip3 ds es fs)
def iRv (a : M Vw) : M (List D) := bnd a fun w => bnd (stayM w) fun d => bnd (optM (listOf d)) fun ds => ret ds.reverse
def wipeE (e : Env) : List Nat → Env
  | [] => e
  | v :: vs => (wipeE e vs).set v .no
def isDat : Sl → Bool
  | .no => true
  | .dat _ => true
  | _ => false
/-- the own names of the comprehension are no owned things outside -/
def freeAt (e : Env) (vs : List Nat) : Bool := vs.all fun v => match e[v]? with
  | some s => isDat s
  | none => false
def backE (e e' : Env) : List Nat → Env
  | [] => e'
  | v :: vs => (backE e e' vs).set v (e.getD v .no)
def lcGo (tg : Tg) (c : M Bool) (x : M Vw) (vs : List Nat) : List D → List D → M (List D)
  | [], acc => ret acc
  | d :: ds, acc => fun e => match putT tg d e with
    | none => .bad
    | some e1 => match c e1 with
      | .ok false e2 => lcGo tg c x vs ds acc (wipeE e2 vs)
      | .ok true e2 => match x e2 with
        | .ok w e3 => match w.stay with
          | some y => if acc.length < LIM then lcGo tg c x vs ds (acc ++ [y]) (wipeE e3 vs) else .bad
          | none => .bad
        | _ => .bad
      | _ => .bad
def eLc (it : M (List D)) (tg : Tg) (c : M Bool) (x : M Vw) (vs : List Nat) : M Vw := bnd it fun ds e =>
  if freeAt e vs then match lcGo tg c x vs ds [] (wipeE e vs) with
    | .ok ys e' => .ok (.f (.l ys)) (backE e e' vs)
    | _ => .bad
  else .bad
/-- two fors in one comprehension -/
def lc2Go (tg : Tg) (it1 : M (List D)) (tg1 : Tg) (c1 : M Bool) (x : M Vw) (vs vs1 : List Nat) : List D → List D → M (List D)
  | [], acc => ret acc
  | d :: ds, acc => fun e => match putT tg d e with
    | none => .bad
    | some e1 => match it1 e1 with
      | .ok ds1 e2 => match lcGo tg1 c1 x vs1 ds1 acc (wipeE e2 vs1) with
        | .ok acc1 e3 => lc2Go tg it1 tg1 c1 x vs vs1 ds acc1 (wipeE e3 vs)
        | _ => .bad
      | _ => .bad
def eLc2 (it : M (List D)) (tg : Tg) (it1 : M (List D)) (tg1 : Tg) (c1 : M Bool) (x : M Vw) (vs vs1 : List Nat) : M Vw := bnd it fun ds e =>
  if freeAt e vs then match lc2Go tg it1 tg1 c1 x vs vs1 ds [] (wipeE e vs) with
    | .ok ys e' => .ok (.f (.l ys)) (backE e e' vs)
    | _ => .bad
  else .bad
def gxGo (stopv : Bool) (tg : Tg) (x : M Vw) (vs : List Nat) : List D → M Bool
  | [] => ret !stopv
  | d :: ds => fun e => match putT tg d e with
    | none => .bad
    | some e1 => match x e1 with
      | .ok (.d (.bl b)) e3 => if b = stopv then .ok stopv (wipeE e3 vs) else gxGo stopv tg x vs ds (wipeE e3 vs)
      | _ => .bad
def eGx (stopv : Bool) (it : M (List D)) (tg : Tg) (x : M Vw) (vs : List Nat) : M Vw := bnd it fun ds e =>
  if freeAt e vs then match gxGo stopv tg x vs ds (wipeE e vs) with
    | .ok b e' => .ok (.d (.bl b)) (backE e e' vs)
    | _ => .bad
  else .bad
inductive Fl where
  | nx | rt (w : Vw) | bk | ct
def sNx : M Fl := ret .nx
def sBk : M Fl := ret .bk
def sCt : M Fl := ret .ct
def sSeq (a b : M Fl) : M Fl := bnd a fun f => match f with
  | .nx => b
  | f => ret f
def sIf (t : M Bool) (a b : M Fl) : M Fl := bnd t fun k => if k then a else b
def putM (tg : Tg) (d : D) : M Fl := fun e => match putT tg d e with
  | some e' => .ok .nx e'
  | none => .bad
def sSet (i : Nat) (a : M Vw) : M Fl := bnd a fun w => bnd (stayM w) fun d => putM (.nm i) d
def sAsg (tg : Tg) (a : M Vw) : M Fl := bnd a fun w => bnd (stayM w) fun d => putM tg d
def ownN (i : Nat) (c : Ct) : M Fl := fun e => match e[i]? with
  | some .no => .ok .nx (e.set i (.own c))
  | some (.dat _) => .ok .nx (e.set i (.own c))
  | some (.own _) => .ok .nx (e.set i (.own c))
  | _ => .bad
def newC : Vw → Option Ct
  | .f c => some c
  | _ => none
def sOwn (i : Nat) (a : M Vw) : M Fl := bnd a fun w => bnd (optM (newC w)) fun c => ownN i c
def frzE (i : Nat) (e : Env) : Option Env := match e[i]? with
  | some (.own c) => some (e.set i (.dat c.toD))
  | some (.dat d) => some e
  | _ => none
def frz (i : Nat) (b : M Fl) : M Fl := fun e => match frzE i e with
  | some e' => b e'
  | none => .bad
def sPar (i j : Nat) (a b : M Vw) : M Fl := bnd a fun w => bnd b fun u => bnd (stayM w) fun d => bnd (stayM u) fun c => bnd (putM (.nm i) d) fun _ => putM (.nm j) c
def sRet (a : M Vw) : M Fl := bnd a fun w e => match w with
  | .d d => .ok (.rt (.d d)) e
  | .f c => .ok (.rt (.f c)) e
  | .o i => match e[i]? with
    | some (.own c) => .ok (.rt (.f c)) (e.set i .no)
    | _ => .bad
def sRetN : M Fl := ret (.rt (.d .non))
def sEx (a : M Vw) : M Fl := bnd a fun _ => ret .nx
/-- x[i] = v -/
def sItem (o i v : M Vw) : M Fl := bnd v fun u => bnd o fun w => bnd i fun z => bnd (optM (viewI w)) fun k => bnd (stayM u) fun d => bnd (nowM z) fun n => bnd (ownL k) fun ds => match n with
  | .int m => match ixI ds.length m with
    | some j => bnd (putL k (ds.set j d)) fun _ => ret .nx
    | none => optM none
  | _ => optM none
/-- x[i], y[j] = a pair -/
def sPut (o i : M Vw) (d : D) (k : M Fl) : M Fl := bnd o fun w => bnd i fun z => bnd (optM (viewI w)) fun kk => bnd (nowM z) fun n => bnd (ownL kk) fun ds => match n with
  | .int m => match ixI ds.length m with
    | some j => bnd (putL kk (ds.set j d)) fun _ => k
    | none => optM none
  | _ => optM none
def sItem2 (o1 i1 o2 i2 v : M Vw) : M Fl := bnd v fun u => bnd (stayM u) fun d => match d with
  | .tup [d1, d2] => sPut o1 i1 d1 (sPut o2 i2 d2 (ret .nx))
  | _ => optM none
/-- x[i:j] = a list -/
def sSlc (o i j v : M Vw) : M Fl := bnd v fun u => bnd o fun w => bnd i fun a => bnd j fun b => bnd (optM (viewI w)) fun k => bnd (stayM u) fun d => bnd (optM (listOf d)) fun es => bnd (nowM a) fun x => bnd (nowM b) fun y => bnd (ownL k) fun ds => match x, y with
  | .int i, .int j => if 0 ≤ i ∧ i ≤ j ∧ j ≤ ds.length ∧ ds.length + es.length ≤ LIM then bnd (putL k (ds.take i.toNat ++ es ++ ds.drop j.toNat)) fun _ => ret .nx else optM none
  | _, _ => optM none
def intOf : D → Option Int
  | .int i => some i
  | _ => none
/-- x[i] += v -/
def sAgI (o i v : M Vw) : M Fl := bnd o fun w => bnd i fun z => bnd (optM (viewI w)) fun k => bnd (nowM z) fun n => bnd (optM (intOf n)) fun m => bnd (ownL k) fun ds => bnd (optM ((atL ds m).bind intOf)) fun a => bnd v fun u => bnd (nowM u) fun c => bnd (optM (intOf c)) fun b => bnd (ownL k) fun es => bnd (optM (ixI es.length m)) fun j => bnd (putL k (es.set j (.int (a + b)))) fun _ => ret .nx
def datM (i : Nat) : M D := fun e => match e[i]? with
  | some (.dat d) => .ok d e
  | _ => .bad
/-- x += v -/
def sAug (i : Nat) (v : M Vw) : M Fl := bnd (datM i) fun d => bnd v fun u => bnd (nowM u) fun c => bnd (optM (addD d c)) fun w => match w with
  | .d (.int z) => putM (.nm i) (.int z)
  | _ => optM none
def forL (tg : Tg) (b : M Fl) : List D → M Fl
  | [] => ret .nx
  | d :: ds => fun e => match putT tg d e with
    | none => .bad
    | some e1 => match b e1 with
      | .ok .nx e2 => forL tg b ds e2
      | .ok .ct e2 => forL tg b ds e2
      | .ok .bk e2 => .ok .nx e2
      | .ok (.rt w) e2 => .ok (.rt w) e2
      | .exc x e2 => .exc x e2
      | .bad => .bad
def sFor (it : M (List D)) (tg : Tg) (b : M Fl) : M Fl := bnd it fun ds => forL tg b ds
def whl (t : M Bool) (b : M Fl) : Nat → M Fl
  | 0 => optM none
  | n + 1 => bnd t fun k => if k then bnd b fun f => match f with
      | .nx => whl t b n
      | .ct => whl t b n
      | .bk => ret .nx
      | .rt w => ret (.rt w)
    else ret .nx
/-- raise X(..): the fields by name; ok: what the class takes -/
def sRaise (x : Str) (fs : List Str) (ok : List D → Bool) (as : List (M Vw)) : M Fl := bnd (eArgs as) fun ws => bnd (optM (stays ws)) fun ds e => if ok ds then .exc ⟨x, fs.zip ds⟩ e else .bad
def okT : List D → Bool
  | [.str y] => decide (y.length ≤ 1000)
  | _ => false
def ok1 : List D → Bool
  | [_] => true
  | _ => false
def exFree (e : Env) : Bool := e.all fun s => match s with
  | .ex _ => false
  | _ => true
def okFl : Fl → Bool
  | .rt (.o _) => false
  | _ => true
def afterS (n : Option Nat) : Res Fl → Res Fl
  | .ok f e => match n with
    | none => if exFree e && okFl f then .ok f e else .bad
    | some i => if exFree (e.set i .no) && okFl f then .ok f (e.set i .no) else .bad
  | _ => .bad
/-- try: b except ..: suite; ok tells whether the clause takes the class -/
def sTry (b : M Fl) (ok : Str → Option Bool) (n : Option Nat) (s : M Fl) : M Fl := fun e => match b e with
  | .ok f e' => .ok f e'
  | .bad => .bad
  | .exc x e' => match ok x.cls with
    | none => .bad
    | some false => .exc x e'
    | some true => match n with
      | none => afterS none (s e')
      | some i => match e'[i]? with
        | some .no => afterS (some i) (s (e'.set i (.ex x)))
        | _ => .bad
/-- e.f of a caught error -/
def eEf (i : Nat) (low : List Str) (f : Str) : M Vw := fun e => match e[i]? with
  | some (.ex x) => match if low.contains x.cls then x.fs.lookup f else none with
    | some d => .ok (.d d) e
    | none => .bad
  | _ => .bad
/-- isinstance(e, a class) of a caught error; ok tells by the error's class -/
def eIsE (i : Nat) (ok : Str → Option Bool) : M Vw := fun e => match e[i]? with
  | some (.ex x) => match ok x.cls with
    | some b => .ok (.d (.bl b)) e
    | none => .bad
  | _ => .bad
/-- a new object: its class, what makes it; it stands behind the frame while it is made -/
def newB (c : Str) (f : Fn) (ms : List Bool) (dv : List D) (ws : List Vw) : M Vw := fun e =>
  match callB f (true :: ms) dv (.o e.length :: ws) (e ++ [.own (.o c [])]) with
  | .ok (.d .non) e' => match e'[e.length]? with
    | some (.own k) => .ok (.f k) (e'.take e.length)
    | _ => .bad
  | .ok _ _ => .bad
  | .exc x e' => .exc x (e'.take e.length)
  | .bad => .bad
def eNew (c : Str) (f : Fn) (ms : List Bool) (as ks : List (M Vw)) (dv : List D) : M Vw := bnd (eArgs as) fun ws => bnd (eArgs ks) fun zs => newB c f ms dv (ws ++ zs)
def putFD (f : Str) (v : D) : List (Str × D) → List (Str × D)
  | [] => [(f, v)]
  | (g, x) :: r => if g = f then (g, v) :: r else (g, x) :: putFD f v r
def ownO (i : Nat) : M (Str × List (Str × D)) := fun e => match getO i e with
  | some (.o c fs) => .ok (c, fs) e
  | _ => .bad
/-- o.f = v -/
def sFld (cs : List Str) (f : Str) (o v : M Vw) : M Fl := bnd v fun u => bnd o fun w => bnd (optM (viewI w)) fun k => bnd (stayM u) fun d => bnd (ownO k) fun p => if cs.contains p.1 ∧ p.2.length < 1000 then fun e => .ok .nx (setO k (.o p.1 (putFD f d p.2)) e) else optM none
def run (k : Nat) (b : M Fl) : Fn := fun args => match b (args ++ List.replicate k .no) with
  | .ok .nx e => .ret (.d .non) (pars e)
  | .ok (.rt (.d d)) e => .ret (.d d) (pars e)
  | .ok (.rt (.f c)) e => .ret (.f c) (pars e)
  | .ok _ _ => .bad
  | .exc x e => .exc x (pars e)
  | .bad => .bad
end UbP
namespace UbP
end UbP
namespace UbP
def facN : Nat → Nat
  | 0 => 1
  | n + 1 => facN n * (n + 1)
def facD : D → Option Vw
  | .int i => if 0 ≤ i ∧ i ≤ 100 then vI (facN i.toNat : Nat) else none
  | _ => none
def eRem (a m : M Vw) : M Vw := bnd (recv a) fun i => bnd m fun u => bnd (nowM u) fun n => bnd (ownL i) fun ds => match n with
  | .int k => bnd (optM (intsOf ds)) fun ns => bnd (optM (ns.findIdx? fun x => decide (x = k))) fun j => bnd (putL i (ds.eraseIdx j)) fun _ => ret (.d .non)
  | _ => optM none
end UbP
namespace UbP
open PySem PySem.Spec PyProof.Rows L2 UbM Ub
mutual
inductive Dq (K : PySem.W.Frag) (H : Hp) : V → D → Prop
  | non : Dq K H .non .non
  | bl (b : Bool) : Dq K H (.bl b) (.bl b)
  | int (i : Int) : Dq K H (.int i) (.int i)
  | str (x : Str) : Dq K H (.str x) (.str x)
  | lst {a : Addr} {xs : List V} {ds : List D} : H a = some (.lst xs) → DqAll K H xs ds → Dq K H (.ref a) (.lst ds)
  | lsf {a : Addr} {xs : List V} {ds : List D} : SqL K H a xs → DqAll K H xs ds → Dq K H (.ref a) (.lsf ds)
  | tup {a : Addr} {xs : List V} {ds : List D} : SqT K H a xs → DqAll K H xs ds → Dq K H (.ref a) (.tup ds)
  | obj {a dx : Addr} {c : Str} {vs : List (Str × V)} {fs : List (Str × D)} : H a = some (.ins (He.ga K c) dx vs) → DqF K H vs fs → Dq K H (.ref a) (.obj c fs)
inductive DqAll (K : PySem.W.Frag) (H : Hp) : List V → List D → Prop
  | nil : DqAll K H [] []
  | cons {v : V} {vs : List V} {d : D} {ds : List D} : Dq K H v d → DqAll K H vs ds → DqAll K H (v :: vs) (d :: ds)
inductive DqF (K : PySem.W.Frag) (H : Hp) : List (Str × V) → List (Str × D) → Prop
  | nil : DqF K H [] []
  | cons {x : Str} {v : V} {vs : List (Str × V)} {d : D} {ds : List (Str × D)} : Dq K H v d → DqF K H vs ds → DqF K H ((x, v) :: vs) ((x, d) :: ds)
end
mutual
theorem Dq.monoT {K : PySem.W.Frag} {H H' : Hp} (e : UbG.SameT H H') : ∀ (d : D) (v : V), Dq K H v d → Dq K H' v d
  | .non, _, h => by cases h; exact .non
  | .bl b, _, h => by cases h; exact .bl b
  | .int i, _, h => by cases h; exact .int i
  | .str x, _, h => by cases h; exact .str x
  | .lst ds, _, h => by
    cases h with
    | lst hs ha => exact .lst (e.but _ _ hs fun _ z => by cases z) (Dq.monoTAll e ds _ ha)
  | .lsf ds, _, h => by
    cases h with
    | lsf hs ha => exact .lsf (UbG.SameT.seq e hs) (Dq.monoTAll e ds _ ha)
  | .tup ds, _, h => by
    cases h with
    | tup hs ha => exact .tup (UbG.SameT.tseq e hs) (Dq.monoTAll e ds _ ha)
  | .obj c fs, _, h => by
    cases h with
    | obj hs ha => exact .obj (e.but _ _ hs fun _ z => by cases z) (Dq.monoTF e fs _ ha)
theorem Dq.monoTAll {K : PySem.W.Frag} {H H' : Hp} (e : UbG.SameT H H') : ∀ (ds : List D) (vs : List V), DqAll K H vs ds → DqAll K H' vs ds
  | [], _, h => by cases h; exact .nil
  | d :: ds, _, h => by
    cases h with
    | cons h1 h2 => exact .cons (Dq.monoT e d _ h1) (Dq.monoTAll e ds _ h2)
theorem Dq.monoTF {K : PySem.W.Frag} {H H' : Hp} (e : UbG.SameT H H') : ∀ (ds : List (Str × D)) (vs : List (Str × V)), DqF K H vs ds → DqF K H' vs ds
  | [], _, h => by cases h; exact .nil
  | (x, d) :: ds, _, h => by
    cases h with
    | cons h1 h2 => exact .cons (Dq.monoT e d _ h1) (Dq.monoTF e ds _ h2)
end
abbrev SS := Addr → Prop
open Classical in
noncomputable def wo (S : SS) (H : Hp) : Hp := fun b => if S b then none else H b
section
variable {K : PySem.W.Frag} {S S' : SS} {H H' H1 H2 : Hp} {b a p : Addr} {o : HO}
theorem wo_in (h : wo S H b = some o) : ¬S b ∧ H b = some o := by
  unfold wo at h
  by_cases hb : S b
  · rw [if_pos hb] at h; cases h
  · rw [if_neg hb] at h; exact ⟨hb, h⟩
theorem wo_out (hb : ¬S b) : wo S H b = H b := by unfold wo; rw [if_neg hb]
theorem wo_same : Same (wo S H) H := fun b o h => (wo_in h).2
theorem wo_sub (h : ∀ s, S s → S' s) : Same (wo S' H) (wo S H) := fun b o e => by
  obtain ⟨h1, h2⟩ := wo_in e
  rw [wo_out fun z => h1 (h b z)]
  exact h2
def isC : HO → Prop
  | .lst _ => True
  | .ins _ _ _ => True
  | _ => False
def Cl (S : SS) (H : Hp) : Prop := ∀ s, S s → ∃ o, H s = some o ∧ isC o
structure SameC (S : SS) (H H' : Hp) : Prop where
  but : ∀ b o, ¬S b → H b = some o → (∀ ps, o ≠ .tbl ps) → H' b = some o
  tab : ∀ P, GxR.TabG H P → GxR.TabG H' P
  cl : ∀ s, S s → (∃ o, H s = some o ∧ isC o) → ∃ o, H' s = some o ∧ isC o
  dom : ∀ b, H' b = none → H b = none
/-- everything stands (tables may grow) -/
abbrev Kp (H H' : Hp) : Prop := SameC (fun _ => False) H H'
theorem isC_tbl (h : isC o) : ∀ ps, o ≠ .tbl ps := fun ps z => by rw [z] at h; exact h
theorem SameC.refl (H : Hp) : SameC S H H := ⟨fun _ _ _ h _ => h, fun _ h => h, fun _ _ h => h, fun _ h => h⟩
theorem SameC.trans (a : SameC S H H1) (b : SameC S H1 H2) : SameC S H H2 :=
  ⟨fun c o n h t => b.but c o n (a.but c o n h t) t, fun P h => b.tab P (a.tab P h), fun s hs h => b.cl s hs (a.cl s hs h), fun c h => a.dom c (b.dom c h)⟩
theorem sameC (e : Same H H') : SameC S H H' := ⟨fun b o _ h t => e _ _ h, fun _ h => UbG.TabG.mono e h, fun s _ ⟨o, h, c⟩ => ⟨o, e _ _ h, c⟩, fun b h => by
  cases g : H b with
  | none => rfl
  | some o => rw [e _ _ g] at h; cases h⟩
theorem kp (e : Same H H') : Kp H H' := sameC e
theorem kpTab {P : Addr} (hP : GxR.TabG H P) (t : GxR.Tabbed P H H') : Kp H H' := by
  have e := UbG.tabbedT hP t
  refine ⟨fun b o _ => e.but b o, e.tab, fun _ z => z.elim, fun b h => ?_⟩
  by_cases hb : b = P
  · obtain ⟨qs, g, _⟩ := t.1
    rw [hb, g] at h
    cases h
  · rw [← t.2 b hb]
    exact h
theorem Kp.C (e : Kp H H') : SameC S H H' := ⟨fun b o _ h t => e.but b o (fun z => z) h t, e.tab, fun s _ ⟨o, h, c⟩ => ⟨o, e.but _ _ (fun z => z) h (isC_tbl c), c⟩, e.dom⟩
theorem SameC.sub (e : SameC S H H') (h : ∀ s, S s → S' s) : SameC S' H H' :=
  ⟨fun b o n g t => e.but b o (fun z => n (h b z)) g t, e.tab, fun s _ ⟨o, g, c⟩ => by
    by_cases hs : S s
    · exact e.cl s hs ⟨o, g, c⟩
    · exact ⟨o, e.but _ _ hs g (isC_tbl c), c⟩, e.dom⟩
theorem SameC.wT (e : SameC S H H') : UbG.SameT (wo S H) (wo S H') := by
  refine ⟨fun b o h t => ?_, fun P ⟨ps, h, t⟩ => ?_⟩
  · obtain ⟨h1, h2⟩ := wo_in h
    rw [wo_out h1]
    exact e.but b o h1 h2 t
  · obtain ⟨h1, h2⟩ := wo_in h
    obtain ⟨qs, g, t2⟩ := e.tab P ⟨ps, h2, t⟩
    exact ⟨qs, by rw [wo_out h1]; exact g, t2⟩
theorem SameC.clS (e : SameC S H H') (h : Cl S H) : Cl S H' := fun s hs => e.cl s hs (h s hs)
theorem wT_of (e : Kp H H') : UbG.SameT (wo S H) (wo S H') := (Kp.C e).wT
theorem sameC_upd (ha : S a) (hc : isC o) (h : ∃ o', H a = some o' ∧ isC o') : SameC S H (upd H a o) := by
  obtain ⟨o', h, c'⟩ := h
  refine ⟨fun b x n e _ => ?_, fun P ⟨ps, e, t⟩ => ⟨ps, ?_, t⟩, fun s _ ⟨y, e, c⟩ => ?_, fun b hb => ?_⟩
  · rw [upd_ne (show b ≠ a from fun z => n (by rw [z]; exact ha))]
    exact e
  · rw [upd_ne (show P ≠ a from fun z => isC_tbl c' ps (by rw [z, h] at e; exact Option.some.inj e))]
    exact e
  · by_cases hs : s = a
    · rw [hs]; exact ⟨o, upd_same, hc⟩
    · exact ⟨y, by rw [upd_ne hs]; exact e, c⟩
  · by_cases hs : b = a
    · rw [hs, upd_same] at hb; cases hb
    · rw [upd_ne hs] at hb; exact hb
theorem wo_upd (ha : S a) : wo S (upd H a o) = wo S H := by
  funext b
  by_cases hb : S b
  · unfold wo; rw [if_pos hb, if_pos hb]
  · rw [wo_out hb, wo_out hb, upd_ne (show b ≠ a from fun z => hb (by rw [z]; exact ha))]
theorem Cl.new (l : Cl S H) (np : H p = none) : ¬S p := fun z => by
  obtain ⟨o, h, _⟩ := l p z
  rw [np] at h
  cases h
theorem wo_new (hp : ¬S p) : wo S (upd H p o) = upd (wo S H) p o := by
  funext b
  by_cases hb : b = p
  · rw [hb, wo_out hp, upd_same, upd_same]
  · rw [upd_ne hb]
    by_cases hs : S b
    · unfold wo; rw [if_pos hs, if_pos hs]
    · rw [wo_out hs, wo_out hs, upd_ne hb]
theorem wo_none (np : H p = none) : wo S H p = none := by
  cases e : wo S H p with
  | none => rfl
  | some o => rw [(wo_in e).2] at np; cases np
theorem wo_tseq {xs : List V} (l : Cl S H) (h : SqT K H a xs) : SqT K (wo S H) a xs := by
  have go : ∀ o, H a = some o → ¬isC o → wo S H a = some o := fun o e n => by
    rw [wo_out fun z => ?_]
    · exact e
    · obtain ⟨o', g, c⟩ := l _ z
      rw [g] at e
      cases e
      exact n c
  rcases h with (h | ⟨o, h⟩) | h
  · exact .inl (.inl (go _ h (fun z => z)))
  · exact .inl (.inr ⟨o, go _ h (fun z => z)⟩)
  · exact .inr h
end
section
variable {K : PySem.W.Frag} {S S' : SS} {H H' : Hp} {v : V} {d : D} {vs : List V} {ds : List D} {fs : List (Str × D)} {ws : List (Str × V)}
theorem Dq.mono (e : Same H H') (h : Dq K H v d) : Dq K H' v d := Dq.monoT (UbG.sameT e) _ _ h
theorem DqAll.mono (e : Same H H') (h : DqAll K H vs ds) : DqAll K H' vs ds := Dq.monoTAll (UbG.sameT e) _ _ h
theorem DqF.mono (e : Same H H') (h : DqF K H ws fs) : DqF K H' ws fs := Dq.monoTF (UbG.sameT e) _ _ h
theorem Dq.out (h : Dq K (wo S H) v d) : Dq K H v d := h.mono wo_same
theorem DqAll.len : ∀ {vs : List V} {ds : List D}, DqAll K H vs ds → vs.length = ds.length
  | _, _, .nil => rfl
  | _, _, .cons _ t => congrArg Nat.succ (DqAll.len t)
theorem DqAll.get : ∀ {vs : List V} {ds : List D} {i : Nat} {d : D}, DqAll K H vs ds → ds[i]? = some d → ∃ v, vs[i]? = some v ∧ Dq K H v d
  | _, _, _, _, .nil, h => by simp at h
  | _, _, 0, _, .cons h1 _, h => by
    simp at h
    subst h
    exact ⟨_, rfl, h1⟩
  | _, _, i + 1, d, .cons _ h2, h => by
    obtain ⟨v, e, q⟩ := DqAll.get (i := i) (d := d) h2 (by simpa using h)
    exact ⟨v, by simpa using e, q⟩
theorem DqAll.at : ∀ {vs : List V} {ds : List D} {i : Nat} {v : V}, DqAll K H vs ds → vs[i]? = some v → ∃ d, ds[i]? = some d ∧ Dq K H v d
  | _, _, _, _, .nil, h => by simp at h
  | _, _, 0, _, .cons h1 _, h => by
    simp at h
    subst h
    exact ⟨_, rfl, h1⟩
  | _, _, i + 1, v, .cons _ h2, h => by
    obtain ⟨d, e, q⟩ := DqAll.at (i := i) (v := v) h2 (by simpa using h)
    exact ⟨d, by simpa using e, q⟩
theorem DqAll.snoc : ∀ {vs : List V} {ds : List D} {v : V} {d : D}, DqAll K H vs ds → Dq K H v d → DqAll K H (vs ++ [v]) (ds ++ [d])
  | _, _, _, _, .nil, h => .cons h .nil
  | _, _, _, _, .cons h1 h2, h => .cons h1 (DqAll.snoc h2 h)
theorem DqAll.app : ∀ {vs ws : List V} {ds es : List D}, DqAll K H vs ds → DqAll K H ws es → DqAll K H (vs ++ ws) (ds ++ es)
  | _, _, _, _, .nil, h => h
  | _, _, _, _, .cons h1 h2, h => .cons h1 (DqAll.app h2 h)
theorem DqAll.take : ∀ {vs : List V} {ds : List D} (n : Nat), DqAll K H vs ds → DqAll K H (vs.take n) (ds.take n)
  | _, _, 0, _ => .nil
  | _, _, n + 1, .nil => .nil
  | _, _, n + 1, .cons h1 h2 => .cons h1 (DqAll.take n h2)
theorem DqAll.drop : ∀ {vs : List V} {ds : List D} (n : Nat), DqAll K H vs ds → DqAll K H (vs.drop n) (ds.drop n)
  | _, _, 0, h => h
  | _, _, n + 1, .nil => .nil
  | _, _, n + 1, .cons h1 h2 => DqAll.drop n h2
theorem DqAll.set : ∀ {vs : List V} {ds : List D} {v : V} {d : D} (i : Nat), DqAll K H vs ds → Dq K H v d → DqAll K H (vs.set i v) (ds.set i d)
  | _, _, _, _, _, .nil, _ => .nil
  | _, _, _, _, 0, .cons _ h2, h => .cons h h2
  | _, _, _, _, i + 1, .cons h1 h2, h => .cons h1 (DqAll.set i h2 h)
theorem DqAll.rev : ∀ {vs : List V} {ds : List D}, DqAll K H vs ds → DqAll K H vs.reverse ds.reverse
  | _, _, .nil => .nil
  | _, _, .cons h1 h2 => by
    rw [List.reverse_cons, List.reverse_cons]
    exact DqAll.snoc (DqAll.rev h2) h1
theorem DqAll.rep {vs : List V} {ds : List D} (h : DqAll K H vs ds) : ∀ n : Nat, DqAll K H (List.replicate n vs).flatten (UbP.rep ds n)
  | 0 => .nil
  | n + 1 => DqAll.app h (DqAll.rep h n)
theorem DqF.look : ∀ {ws : List (Str × V)} {fs : List (Str × D)} {f : Str} {d : D}, DqF K H ws fs → fs.lookup f = some d → ∃ v, ws.lookup f = some v ∧ Dq K H v d
  | _, _, _, _, .nil, h => by simp at h
  | _, _, f, d, .cons (x := x) h1 h2, h => by
    by_cases e : (f == x) = true
    · rw [List.lookup_cons, e] at h ⊢
      cases h
      exact ⟨_, rfl, h1⟩
    · have e : (f == x) = false := by simpa using e
      rw [List.lookup_cons, e] at h ⊢
      exact DqF.look h2 h
theorem DqF.names : ∀ {ws : List (Str × V)} {fs : List (Str × D)}, DqF K H ws fs → ws.map (·.1) = fs.map (·.1)
  | _, _, .nil => rfl
  | _, _, .cons _ t => by rw [List.map_cons, List.map_cons, DqF.names t]
mutual
theorem Dq.apart (l : Cl S H) : ∀ (d : D) (v : V), noL d = true → Dq K H v d → Dq K (wo S H) v d
  | .non, _, _, h => by cases h; exact .non
  | .bl b, _, _, h => by cases h; exact .bl b
  | .int i, _, _, h => by cases h; exact .int i
  | .str x, _, _, h => by cases h; exact .str x
  | .lst ds, _, n, _ => by unfold noL at n; cases n
  | .lsf ds, _, n, _ => by unfold noL at n; cases n
  | .obj _ _, _, n, _ => by unfold noL at n; cases n
  | .tup ds, _, n, h => by
    cases h with
    | tup hs ha => exact .tup (wo_tseq l hs) (Dq.apartAll l ds _ (by unfold noL at n; exact n) ha)
theorem Dq.apartAll (l : Cl S H) : ∀ (ds : List D) (vs : List V), noLs ds = true → DqAll K H vs ds → DqAll K (wo S H) vs ds
  | [], _, _, h => by cases h; exact .nil
  | d :: ds, _, n, h => by
    unfold noLs at n
    obtain ⟨n1, n2⟩ := Bool.and_eq_true_iff.mp n
    cases h with
    | cons h1 h2 => exact .cons (Dq.apart l d _ n1 h1) (Dq.apartAll l ds _ n2 h2)
end
end
def ExR (K : PySem.W.Frag) (H : Hp) (x : Ex) (cls : Value) (d : Option Addr) : Prop :=
  cls = .ref (He.ga K x.cls) ∧ ((x.fs = [] ∧ d = none) ∨ ∃ dx vs, d = some dx ∧ H dx = some (.xd vs) ∧ DqF K H vs x.fs)
def RelC (K : PySem.W.Frag) (S : SS) (H : Hp) (a : Addr) : Ct → Prop
  | .l ds => ∃ xs, H a = some (.lst xs) ∧ DqAll K (wo S H) xs ds
  | .o c fs => ∃ dx vs, H a = some (.ins (He.ga K c) dx vs) ∧ DqF K (wo S H) vs fs
def ownS (σ : L2.St) (env : Env) : SS := fun s => ∃ i c, getO i env = some c ∧ σ[i]? = some (some (V.ref s))
def cells (σ : L2.St) (env : Env) (O : SS) : SS := fun s => ownS σ env s ∨ O s
/-- where one stands: the written part, the tables, the caught error, what is wished of errors -/
structure Z where
  K : PySem.W.Frag
  Tb : List Addr
  xi : Option (Addr × Value × Option Addr)
  W : WX
structure RelT (z : Z) (O : SS) (H : Hp) (σ : L2.St) (env : Env) : Prop where
  len : σ.length = env.length
  dat : ∀ (i : Nat) (d : D), env[i]? = some (Sl.dat d) → ∃ v : V, σ[i]? = some (some v) ∧ Dq z.K (wo (cells σ env O) H) v d
  own : ∀ (i : Nat) (c : Ct), getO i env = some c → ∃ a : Addr, σ[i]? = some (some (V.ref a)) ∧ RelC z.K (cells σ env O) H a c
  inj : ∀ (i j : Nat) (c c' : Ct) (a : Addr), getO i env = some c → getO j env = some c' → σ[i]? = some (some (V.ref a)) → σ[j]? = some (some (V.ref a)) → i = j
  out : ∀ (i : Nat) (c : Ct) (a : Addr), getO i env = some c → σ[i]? = some (some (V.ref a)) → ¬O a
  ex : ∀ (i : Nat) (x : Ex), env[i]? = some (Sl.ex x) → ∃ (a : Addr) (cls : Value) (d : Option Addr), z.xi = some (a, cls, d) ∧ σ[i]? = some (some (V.ref a)) ∧ ExR z.K (wo (cells σ env O) H) x cls d
  cl : Cl (cells σ env O) H
  tb : ∀ P ∈ z.Tb, GxR.TabG H P
def knd : Sl → Nat
  | .own _ => 1
  | .par _ => 2
  | _ => 0
/-- the same slots are owned -/
def SameO (env env' : Env) : Prop := env.length = env'.length ∧ ∀ i : Nat, (env[i]?).map knd = (env'[i]?).map knd
theorem SameO.refl (env : Env) : SameO env env := ⟨rfl, fun _ => rfl⟩
theorem SameO.trans {a b c : Env} (x : SameO a b) (y : SameO b c) : SameO a c := ⟨x.1.trans y.1, fun i => (x.2 i).trans (y.2 i)⟩
theorem SameO.symm {a b : Env} (x : SameO a b) : SameO b a := ⟨x.1.symm, fun i => (x.2 i).symm⟩
theorem getO_knd {env : Env} {i : Nat} : (getO i env).isSome = true ↔ ∃ k, (env[i]?).map knd = some k ∧ k ≠ 0 := by
  unfold getO
  cases e : env[i]? with
  | none => simp
  | some s => cases s <;> simp [knd]
theorem SameO.getO {env env' : Env} (h : SameO env env') {i : Nat} {c : Ct} (e : getO i env = some c) : ∃ c', UbP.getO i env' = some c' := by
  have h1 : (UbP.getO i env).isSome = true := by rw [e]; rfl
  have h2 : (UbP.getO i env').isSome = true := by
    rw [getO_knd] at h1 ⊢
    rw [← h.2 i]
    exact h1
  exact Option.isSome_iff_exists.mp h2
theorem SameO.ownS {env env' : Env} (h : SameO env env') (σ : L2.St) : ownS σ env = ownS σ env' := by
  funext s
  refine propext ⟨?_, ?_⟩
  · rintro ⟨i, c, e, g⟩
    obtain ⟨c', e'⟩ := h.getO e
    exact ⟨i, c', e', g⟩
  · rintro ⟨i, c, e, g⟩
    obtain ⟨c', e'⟩ := h.symm.getO e
    exact ⟨i, c', e', g⟩
theorem SameO.cells {env env' : Env} (h : SameO env env') (σ : L2.St) (O : SS) : cells σ env O = cells σ env' O := by
  unfold UbP.cells
  rw [h.ownS σ]
/-- the value v is what w says -/
def VRel (K : PySem.W.Frag) (S : SS) (σ : L2.St) (H : Hp) (v : V) : Vw → Prop
  | .d d => Dq K (wo S H) v d
  | .o i => σ[i]? = some (some v)
  | .f c => ∃ a, v = .ref a ∧ ¬S a ∧ RelC K (fun s => S s ∨ s = a) H a c
def NewV (H : Hp) (v : V) : Vw → Prop
  | .f _ => ∀ a, v = .ref a → H a = none
  | _ => True
section
variable {K : PySem.W.Frag} {S S' : SS} {H H' : Hp} {a : Addr} {c : Ct} {z : Z} {O : SS} {σ : L2.St} {env env' : Env} {v : V} {w : Vw}
theorem RelC.mono (e : Kp H H') (h : RelC K S H a c) : RelC K S H' a c := by
  cases c with
  | l ds =>
    obtain ⟨xs, h1, h2⟩ := h
    exact ⟨xs, e.but _ _ (fun z => z) h1 (fun _ z => by cases z), Dq.monoTAll (wT_of e) _ _ h2⟩
  | o c fs =>
    obtain ⟨dx, vs, h1, h2⟩ := h
    exact ⟨dx, vs, e.but _ _ (fun z => z) h1 (fun _ z => by cases z), Dq.monoTF (wT_of e) _ _ h2⟩
/-- other cells change -/
theorem RelC.moveC (e : SameC S' H H') (na : ¬S' a) (i : ∀ s, S' s → S s) (h : RelC K S H a c) : RelC K S H' a c := by
  cases c with
  | l ds =>
    obtain ⟨xs, h1, h2⟩ := h
    exact ⟨xs, e.but _ _ na h1 (fun _ z => by cases z), Dq.monoTAll (e.sub i).wT _ _ h2⟩
  | o c fs =>
    obtain ⟨dx, vs, h1, h2⟩ := h
    exact ⟨dx, vs, e.but _ _ na h1 (fun _ z => by cases z), Dq.monoTF (e.sub i).wT _ _ h2⟩
theorem RelC.sub (i : ∀ s, S' s → S s) (h : RelC K S H a c) : RelC K S' H a c := by
  cases c with
  | l ds =>
    obtain ⟨xs, h1, h2⟩ := h
    exact ⟨xs, h1, h2.mono (wo_sub i)⟩
  | o c fs =>
    obtain ⟨dx, vs, h1, h2⟩ := h
    exact ⟨dx, vs, h1, h2.mono (wo_sub i)⟩
theorem RelC.isC (h : RelC K S H a c) : ∃ o, H a = some o ∧ UbP.isC o := by
  cases c with
  | l ds =>
    obtain ⟨xs, h1, h2⟩ := h
    exact ⟨_, h1, True.intro⟩
  | o c fs =>
    obtain ⟨dx, vs, h1, h2⟩ := h
    exact ⟨_, h1, True.intro⟩
/-- owned no more: data -/
theorem RelC.data (na : ¬S a) (i : ∀ s, S s → S' s) (h : RelC K S' H a c) : Dq K (wo S H) (.ref a) c.toD := by
  cases c with
  | l ds =>
    obtain ⟨xs, h1, h2⟩ := h
    exact .lst (by rw [wo_out na]; exact h1) (h2.mono (wo_sub i))
  | o c fs =>
    obtain ⟨dx, vs, h1, h2⟩ := h
    exact .obj (by rw [wo_out na]; exact h1) (h2.mono (wo_sub i))
theorem VRel.move (e : SameC S' H H') (i : ∀ s, S' s → S s) (h : VRel K S σ H v w) : VRel K S σ H' v w := by
  cases w with
  | d x => exact Dq.monoT (e.sub i).wT _ _ h
  | o k => exact h
  | f c =>
    obtain ⟨a, ev, na, hc⟩ := h
    exact ⟨a, ev, na, hc.moveC e (fun z => na (i _ z)) fun s hs => .inl (i s hs)⟩
theorem VRel.mono (e : Kp H H') (h : VRel K S σ H v w) : VRel K S σ H' v w := h.move (S' := fun _ => False) e fun _ z => z.elim
theorem VRel.stay {d : D} (h : VRel K S σ H v w) (e : w.stay = some d) : Dq K (wo S H) v d := by
  cases w with
  | d x => cases e; exact h
  | o k => cases e
  | f c =>
    cases e
    obtain ⟨a, rfl, na, hc⟩ := h
    exact hc.data na fun s hs => .inl hs
theorem RelT.mono (e : Kp H H') (R : RelT z O H σ env) : RelT z O H' σ env :=
  ⟨R.len, fun i d h => let ⟨v, h1, h2⟩ := R.dat i d h; ⟨v, h1, Dq.monoT (wT_of e) _ _ h2⟩, fun i c h => let ⟨a, h1, h2⟩ := R.own i c h; ⟨a, h1, h2.mono e⟩, R.inj, R.out,
    fun i x h => let ⟨a, cls, d, h1, h2, h3, h4⟩ := R.ex i x h; ⟨a, cls, d, h1, h2, h3, h4.imp id fun ⟨dx, vs, g1, g2, g3⟩ => ⟨dx, vs, g1, (wT_of e).but _ _ g2 (fun _ z => by cases z), Dq.monoTF (wT_of e) _ _ g3⟩⟩,
    (Kp.C e).clS R.cl, fun P hP => e.tab P (R.tb P hP)⟩
/-- what is looked at now -/
def DV (K : PySem.W.Frag) (S : SS) (H : Hp) (v : V) : D → Prop
  | .lst ds => ∃ a xs, v = .ref a ∧ H a = some (.lst xs) ∧ DqAll K (wo S H) xs ds
  | .obj c fs => ∃ a dx vs, v = .ref a ∧ H a = some (.ins (He.ga K c) dx vs) ∧ DqF K (wo S H) vs fs
  | d => Dq K (wo S H) v d
theorem DV.of {d : D} (h : Dq K (wo S H) v d) : DV K S H v d := by
  cases d with
  | lst ds =>
    cases h with
    | lst h1 h2 => exact ⟨_, _, rfl, (wo_in h1).2, h2⟩
  | obj c fs =>
    cases h with
    | obj h1 h2 => exact ⟨_, _, _, rfl, (wo_in h1).2, h2⟩
  | _ => exact h
theorem DV.ofC (h : RelC K S H a c) : DV K S H (.ref a) c.toD := by
  cases c with
  | l ds =>
    obtain ⟨xs, h1, h2⟩ := h
    exact ⟨_, xs, rfl, h1, h2⟩
  | o c fs =>
    obtain ⟨dx, vs, h1, h2⟩ := h
    exact ⟨_, dx, vs, rfl, h1, h2⟩
theorem DV.dq {d : D} (h : DV K S H v d) : Dq K H v d := by
  cases d with
  | lst ds =>
    obtain ⟨a, xs, rfl, h1, h2⟩ := h
    exact .lst h1 (h2.mono wo_same)
  | obj c fs =>
    obtain ⟨a, dx, vs, rfl, h1, h2⟩ := h
    exact .obj h1 (h2.mono wo_same)
  | _ => exact Dq.out h
theorem VRel.now {d : D} (R : RelT z O H σ env) (h : VRel z.K (cells σ env O) σ H v w) (e : w.now env = some d) : DV z.K (cells σ env O) H v d := by
  cases w with
  | d x => cases e; exact .of h
  | o k =>
    obtain ⟨c, hc, rfl⟩ := Option.map_eq_some_iff.mp e
    obtain ⟨a, h1, h2⟩ := R.own k c hc
    have h : σ[k]? = some (some v) := h
    rw [h1] at h
    cases h
    exact .ofC h2
  | f c =>
    cases e
    obtain ⟨a, rfl, na, hc⟩ := h
    exact .ofC (hc.sub fun s hs => .inl hs)
end
/-- a new thing stands apart from all that is held -/
def AwayV (z : Z) (O : SS) (σ : L2.St) (env : Env) (H : Hp) (v : V) : Vw → Prop
  | .f _ => ∀ a, v = .ref a → RelT z (fun s => O s ∨ s = a) H σ env
  | _ => True
/-- how a result stands: α the plain one, β what the machine has -/
abbrev VRt (α β : Type) := Z → SS → Env → L2.St → Hp → Hp → β → α → Prop
def vE : VRt Vw V := fun z O env σ H H' v w => VRel z.K (cells σ env O) σ H' v w ∧ NewV H v w ∧ AwayV z O σ env H' v w
def vT : VRt Bool Bool := fun _ _ _ _ _ _ b c => b = c
def vA : VRt (List Vw) (List V) := fun z O env σ _ H' vs ws => Paired (VRel z.K (cells σ env O) σ H') vs ws
def vO : VRt (Option Int) (Option Int) := fun _ _ _ _ _ _ b c => b = c
def Back {α β : Type} (R : VRt α β) : Prop := ∀ z O env S' σ H H1 H' v w, SameC S' H H1 → R z O env σ H1 H' v w → R z O env σ H H' v w
def PostG {α β : Type} (R : VRt α β) (z : Z) (O : SS) (σ : L2.St) (env : Env) (H : Hp) (Q : β → Hp → Prop) : Res α → Prop
  | .ok w env' => ∀ v H', SameC (ownS σ env) H H' → RelT z O H' σ env' → SameO env env' → R z O env' σ H H' v w → Q v H'
  | .exc x env' => ∀ cls d H', SameC (ownS σ env) H H' → RelT z O H' σ env' → SameO env env' → ExR z.K (wo (cells σ env' O) H') x cls d → z.W cls d σ H'
  | .bad => False
def tG {α β : Type} (R : VRt α β) (z : Z) (f : M α) (σ : L2.St) (H : Hp) (Q : β → Hp → Prop) : Prop := ∃ O env, RelT z O H σ env ∧ PostG R z O σ env H Q (f env)
abbrev tP (z : Z) (f : M Vw) : TE := fun σ H Q => tG vE z f σ H Q
abbrev tT (z : Z) (f : M Bool) : TT := fun σ H Q => tG vT z f σ H Q
abbrev tA (z : Z) (f : M (List Vw)) : TA := fun σ H Q => tG vA z f σ H Q
abbrev tO (z : Z) (f : M (Option Int)) : TO := fun σ H Q => tG vO z f σ H Q
section
variable {X : Cx} {e : Expr} {es : List Expr}
theorem PE_imp {t t' : TE} (h : PE X e t) (i : ∀ σ H Q, t' σ H Q → t σ H Q) : PE X e t' := ⟨fun pins s σ H Q I q => h.run pins s σ H Q I (i _ _ _ q)⟩
theorem PT_imp {t t' : TT} (h : PT X e t) (i : ∀ σ H Q, t' σ H Q → t σ H Q) : PT X e t' := ⟨fun pins s σ H Q I q => h.run pins s σ H Q I (i _ _ _ q)⟩
theorem PW_imp {t t' : TT} (h : PW X e t) (i : ∀ σ H Q, t' σ H Q → t σ H Q) : PW X e t' := ⟨fun w pins s σ H Q I q => h.run w pins s σ H Q I (i _ _ _ q)⟩
theorem PA_imp {t t' : TA} (h : PA X es t) (i : ∀ σ H Q, t' σ H Q → t σ H Q) : PA X es t' := ⟨fun p pins s σ H Q I q => h.run p pins s σ H Q I (i _ _ _ q)⟩
theorem PS_imp {st : Stmt} {t t' : TS} (h : PS X st t) (i : ∀ D σ H, t' D σ H → t D σ H) : PS X st t' := ⟨fun pins s σ H D I q => h.run pins s σ H D I (i _ _ _ q)⟩
theorem PSs_imp {st : List Stmt} {t t' : TS} (h : PSs X st t) (i : ∀ D σ H, t' D σ H → t D σ H) : PSs X st t' := ⟨fun pins s σ H D I q => h.run pins s σ H D I (i _ _ _ q)⟩
end
section
variable {z : Z} {O : SS} {σ : L2.St} {env env1 : Env} {H H1 H' : Hp} {α β γ δ : Type}
theorem NewV.back {S : SS} {v : V} {w : Vw} (e : SameC S H H1) (h : NewV H1 v w) : NewV H v w := by
  cases w with
  | f c0 => exact fun a ev => e.dom a (h a ev)
  | _ => exact True.intro
theorem bkE : Back vE := fun _ _ _ _ _ _ _ _ _ _ e h => ⟨h.1, h.2.1.back e, h.2.2⟩
theorem bkT : Back vT := fun _ _ _ _ _ _ _ _ _ _ _ h => h
theorem bkA : Back vA := fun _ _ _ _ _ _ _ _ _ _ _ h => h
theorem bkO : Back vO := fun _ _ _ _ _ _ _ _ _ _ _ h => h
theorem PostG.move {R : VRt α β} {Q : β → Hp → Prop} {r : Res α} (b : Back R) (e : SameC (ownS σ env) H H1) (so : SameO env env1) (h : PostG R z O σ env H Q r) : PostG R z O σ env1 H1 Q r := by
  cases r with
  | ok w env' =>
    intro v H' e' R' so' V
    rw [← so.ownS σ] at e'
    exact h v H' (e.trans e') R' (so.trans so') (b _ _ _ _ _ _ _ _ _ _ e V)
  | exc x env' =>
    intro cls d H' e' R' so' X
    rw [← so.ownS σ] at e'
    exact h cls d H' (e.trans e') R' (so.trans so') X
  | bad => exact h
theorem tG_mono {R1 : VRt α β} {m : M α} {Q Q' : β → Hp → Prop} (h : tG R1 z m σ H Q) (i : ∀ v H', Q v H' → Q' v H') : tG R1 z m σ H Q' := by
  obtain ⟨O, env, R, P⟩ := h
  refine ⟨O, env, R, ?_⟩
  cases e : m env with
  | ok w env1 => rw [e] at P; exact fun v H' a b c d => i _ _ (P v H' a b c d)
  | exc x env1 => rw [e] at P; exact P
  | bad => rw [e] at P; exact P
/-- one step: the first part runs, the rest is what follows -/
theorem post_bnd {R1 : VRt α β} {R2 : VRt γ δ} {m : M α} {k : α → M γ} {Q : δ → Hp → Prop} (b : Back R2) (R : RelT z O H σ env) (P : PostG R2 z O σ env H Q (bnd m k env)) :
    tG R1 z m σ H fun v H1 => ∃ env1 w, RelT z O H1 σ env1 ∧ SameC (ownS σ env) H H1 ∧ SameO env env1 ∧ R1 z O env1 σ H H1 v w ∧ PostG R2 z O σ env1 H1 Q (k w env1) := by
  refine ⟨O, env, R, ?_⟩
  unfold bnd at P
  cases e : m env with
  | ok w env1 =>
    rw [e] at P
    intro v H1 s1 R1' so V
    exact ⟨env1, w, R1', s1, so, V, PostG.move b s1 so P⟩
  | exc x env1 => rw [e] at P; exact P
  | bad => rw [e] at P; exact P
theorem post_opt {R1 : VRt γ δ} {o : Option α} {k : α → M γ} {Q : δ → Hp → Prop} (P : PostG R1 z O σ env H Q (bnd (optM o) k env)) : ∃ a, o = some a ∧ PostG R1 z O σ env H Q (k a env) := by
  unfold bnd optM at P
  cases o with
  | none => exact P.elim
  | some a => exact ⟨a, rfl, P⟩
theorem post_now {R1 : VRt γ δ} {w : Vw} {k : D → M γ} {Q : δ → Hp → Prop} (P : PostG R1 z O σ env H Q (bnd (nowM w) k env)) : ∃ a, w.now env = some a ∧ PostG R1 z O σ env H Q (k a env) := by
  unfold bnd nowM at P
  cases e : w.now env with
  | none => rw [e] at P; exact P.elim
  | some a => rw [e] at P; exact ⟨a, rfl, P⟩
theorem post_stay {R1 : VRt γ δ} {w : Vw} {k : D → M γ} {Q : δ → Hp → Prop} (P : PostG R1 z O σ env H Q (bnd (stayM w) k env)) : ∃ a, w.stay = some a ∧ PostG R1 z O σ env H Q (k a env) := post_opt P
theorem post_optE {R1 : VRt α β} {o : Option α} {Q : β → Hp → Prop} (P : PostG R1 z O σ env H Q (optM o env)) : ∃ a, o = some a ∧ PostG R1 z O σ env H Q ((ret a : M α) env) := by
  unfold optM at P
  cases o with
  | none => exact P.elim
  | some a => exact ⟨a, rfl, P⟩
theorem fresh_same {S : SS} {a : Addr} (na : H a = none) (e : Kp H H') : UbG.SameT (wo S H) (wo (fun s => S s ∨ s = a) H') := by
  have out : ∀ b o, wo S H b = some o → ¬(S b ∨ b = a) := fun b o h z => by
    obtain ⟨h1, h2⟩ := wo_in h
    rcases z with z | z
    · exact h1 z
    · rw [z, na] at h2
      cases h2
  refine ⟨fun b o h t => ?_, fun P ⟨ps, h, t⟩ => ?_⟩
  · rw [wo_out (out b o h)]
    exact e.but b o (fun z => z) (wo_in h).2 t
  · obtain ⟨qs, g, t2⟩ := e.tab P ⟨ps, (wo_in h).2, t⟩
    exact ⟨qs, by rw [wo_out (out P _ h)]; exact g, t2⟩
/-- all that is held stands apart from a new thing -/
theorem RelT.fresh {a : Addr} (R : RelT z O H σ env) (na : H a = none) (e : Kp H H') (hc : ∃ o, H' a = some o ∧ isC o) : RelT z (fun s => O s ∨ s = a) H' σ env := by
  have ec : cells σ env (fun s => O s ∨ s = a) = fun s => cells σ env O s ∨ s = a := by
    funext s
    exact propext ⟨fun h => h.elim (fun h => .inl (.inl h)) fun h => h.elim (fun h => .inl (.inr h)) .inr, fun h => h.elim (fun h => h.elim .inl fun h => .inr (.inl h)) fun h => .inr (.inr h)⟩
  have wt := fresh_same (S := cells σ env O) na e
  rw [← ec] at wt
  have no : ∀ b, cells σ env O b → b ≠ a := fun b hb z => by
    obtain ⟨o, h, _⟩ := R.cl b hb
    rw [z, na] at h
    cases h
  refine ⟨R.len, fun j d h => ?_, fun j c h => ?_, R.inj, fun j c b g h hO => ?_, fun j x h => ?_, fun s hs => ?_, fun P hP => e.tab P (R.tb P hP)⟩
  · obtain ⟨v, h1, h2⟩ := R.dat j d h
    exact ⟨v, h1, Dq.monoT wt _ _ h2⟩
  · obtain ⟨b, h1, h2⟩ := R.own j c h
    refine ⟨b, h1, ?_⟩
    cases c with
    | l ds =>
      obtain ⟨xs, g1, g2⟩ := h2
      exact ⟨xs, e.but _ _ (fun z => z) g1 (fun _ z => by cases z), Dq.monoTAll wt _ _ g2⟩
    | o c fs =>
      obtain ⟨dx, vs, g1, g2⟩ := h2
      exact ⟨dx, vs, e.but _ _ (fun z => z) g1 (fun _ z => by cases z), Dq.monoTF wt _ _ g2⟩
  · rcases hO with h' | h'
    · exact R.out j c b g h h'
    · exact no b (.inl ⟨j, c, g, h⟩) h'
  · obtain ⟨a, cls, d, h1, h2, h3, h4⟩ := R.ex j x h
    exact ⟨a, cls, d, h1, h2, h3, h4.imp id fun ⟨dx, vs, g1, g2, g3⟩ => ⟨dx, vs, g1, wt.but _ _ g2 (fun _ z => by cases z), Dq.monoTF wt _ _ g3⟩⟩
  · rw [ec] at hs
    rcases hs with h | h
    · exact (Kp.C e).clS R.cl s h
    · rw [h]
      exact hc
theorem away_of {v : V} {w : Vw} (R : RelT z O H σ env) (e : Kp H H') (hV : VRel z.K (cells σ env O) σ H' v w) (N : NewV H v w) : AwayV z O σ env H' v w := by
  cases w with
  | f c =>
    intro a ea
    obtain ⟨b, eb, _, hc⟩ := hV
    rw [ea] at eb
    cases eb
    exact R.fresh (N a ea) e hc.isC
  | _ => exact True.intro
/-- the end with new things in the heap -/
theorem post_new {a : Vw} {v : V} {Q : VK} (R : RelT z O H σ env) (P : PostG vE z O σ env H Q ((ret a : M Vw) env)) (e : Same H H') (V : VRel z.K (cells σ env O) σ H' v a) (N : NewV H v a) : Q v H' :=
  P v H' (sameC e) (R.mono (kp e)) (SameO.refl env) ⟨V, N, away_of R (kp e) V N⟩
end
section
variable {X : Cx} {z : Z} {e a b c : Expr} {es : List Expr} {fa fb fc : M Vw} {pos p : Pos} {x : Str}
/-- the operator's reading follows from the plain function -/
def OpS (K : PySem.W.Frag) (f : D → D → Option Vw) (r : R2) : Prop := ∀ (S : SS) (σ : L2.St) (H : Hp) (Q : VK) (x y : V) (a b : D) (w : Vw), Cl S H → DV K S H x a → DV K S H y b → f a b = some w → (∀ v H', Same H H' → VRel K S σ H' v w → NewV H v w → Q v H') → r x y H Q
def UnS (K : PySem.W.Frag) (f : D → Option Vw) (r : V → Hp → VK → Prop) : Prop := ∀ (S : SS) (σ : L2.St) (H : Hp) (Q : VK) (x : V) (a : D) (w : Vw), Cl S H → DV K S H x a → f a = some w → (∀ v H', Same H H' → VRel K S σ H' v w → NewV H v w → Q v H') → r x H Q
theorem same_refl {H : Hp} : Same H H := fun _ _ h => h
theorem OpR.or {f : Value → Value → Sem Value} {r1 r2 : R2} (h1 : OpR X f r1) (h2 : OpR X f r2) : OpR X f (fun x y H Q => r1 x y H Q ∨ r2 x y H Q) := fun pins s σ H x y v u Q I rx ry h => h.elim (h1 pins s σ H x y v u Q I rx ry) (h2 pins s σ H x y v u Q I rx ry)
theorem IxR.or {r1 r2 : R2} (h1 : IxR X r1) (h2 : IxR X r2) : IxR X (fun x y H Q => r1 x y H Q ∨ r2 x y H Q) := fun a b pins s σ H x y v u Q I rx ry h => h.elim (h1 a b pins s σ H x y v u Q I rx ry) (h2 a b pins s σ H x y v u Q I rx ry)
theorem CallR.or {f : Value} {r1 r2 : List V → Hp → VK → Prop} (h1 : CallR X f r1) (h2 : CallR X f r2) : CallR X f (fun x H Q => r1 x H Q ∨ r2 x H Q) := fun pins s σ H x v Q I rx h => h.elim (h1 pins s σ H x v Q I rx) (h2 pins s σ H x v Q I rx)
theorem vmove {O : SS} {σ : L2.St} {env env1 : Env} {H H1 : Hp} {v : V} {w : Vw} (s1 : SameC (ownS σ env) H H1) (so : SameO env env1) (h : VRel z.K (cells σ env O) σ H v w) : VRel z.K (cells σ env1 O) σ H1 v w := by
  rw [← so.cells σ O]
  exact h.move s1 fun s hs => .inl hs
theorem pu_bin {f : D → D → Option Vw} {r : R2} (s : OpS z.K f r) (σ : L2.St) (H : Hp) (Q : VK) (h : tP z (eB f fa fb) σ H Q) : tOp r (tP z fa) (tP z fb) σ H Q := by
  obtain ⟨O, env, R, P⟩ := h
  refine tG_mono (post_bnd bkE R P) fun v H1 ⟨env1, w, R1, s1, so1, V, P1⟩ => ?_
  refine tG_mono (post_bnd bkE R1 P1) fun u H2 ⟨env2, w2, R2, s2, so2, V2, P2⟩ => ?_
  obtain ⟨d1, e1, P3⟩ := post_now P2
  obtain ⟨d2, e2, P4⟩ := post_now P3
  obtain ⟨r1, e3, P5⟩ := post_optE P4
  exact s _ σ H2 Q v u d1 d2 r1 R2.cl ((vmove s2 so2 V.1).now R2 e1) (V2.1.now R2 e2) e3 fun v' H' e V' N => post_new R2 P5 e V' N
theorem pu_un {f : D → Option Vw} {r : V → Hp → VK → Prop} (s : UnS z.K f r) (σ : L2.St) (H : Hp) (Q : VK) (h : tP z (eU f fa) σ H Q) : tUn r (tP z fa) σ H Q := by
  obtain ⟨O, env, R, P⟩ := h
  refine tG_mono (post_bnd bkE R P) fun v H1 ⟨env1, w, R1, s1, so1, V, P1⟩ => ?_
  obtain ⟨d1, e1, P3⟩ := post_now P1
  obtain ⟨r1, e3, P5⟩ := post_optE P3
  exact s _ σ H1 Q v d1 r1 R1.cl (V.1.now R1 e1) e3 fun v' H' e V' N => post_new R1 P5 e V' N
theorem pu_tbin {f : D → D → Option Bool} {r : R2} (s : OpS z.K (fun a b => (f a b).map fun k => .d (.bl k)) r) (σ : L2.St) (H : Hp) (Q : Bool → Hp → Prop) (h : tT z (UbP.tB f fa fb) σ H Q) : tTest (tOp r (tP z fa) (tP z fb)) σ H Q := by
  obtain ⟨O, env, R, P⟩ := h
  refine tG_mono (post_bnd bkT R P) fun v H1 ⟨env1, w, R1, s1, so1, V, P1⟩ => ?_
  refine tG_mono (post_bnd bkT R1 P1) fun u H2 ⟨env2, w2, R2, s2, so2, V2, P2⟩ => ?_
  obtain ⟨d1, e1, P3⟩ := post_now P2
  obtain ⟨d2, e2, P4⟩ := post_now P3
  obtain ⟨r1, e3, P5⟩ := post_optE P4
  refine s _ σ H2 _ v u d1 d2 (.d (.bl r1)) R2.cl ((vmove s2 so2 V.1).now R2 e1) (V2.1.now R2 e2) (by show Option.map _ (f d1 d2) = _; rw [e3]; rfl) fun v' H' e V' N => ?_
  have V' : Dq z.K _ v' (.bl r1) := V'
  cases V'
  exact ⟨r1, rfl, P5 r1 H' (sameC e) (R2.mono (kp e)) (SameO.refl _) rfl⟩
theorem pe_pv (i : Nat) (hN : X.N[i]? = some x := by rfl) (hv : Vis X.env.scope x := by first | exact Or.inl rfl | exact Or.inr (Or.inl rfl) | exact Or.inr (Or.inr rfl)) (hd : (x == ("__debug__" : Str)) = false := by decide) (hcd : (x == ("__classdict__" : Str)) = false := by decide) : PE X (.Name x pos) (tP z (eV i)) := by
  refine PE_imp (pe_var hN hv hd hcd) fun σ H Q ⟨O, env, R, P⟩ => ?_
  unfold eV at P
  have go : ∀ v w, σ[i]? = some (some v) → VRel z.K (cells σ env O) σ H v w → (∀ c, w ≠ .f c) → PostG vE z O σ env H Q (.ok w env) → tVar i σ H Q := fun v w h V n P => by
    refine ⟨v, h, P v H (SameC.refl H) R (SameO.refl env) ⟨V, ?_⟩⟩
    cases w with
    | f c => exact absurd rfl (n c)
    | _ => exact ⟨True.intro, True.intro⟩
  have view : ∀ c, getO i env = some c → PostG vE z O σ env H Q (.ok (.o i) env) → tVar i σ H Q := fun c hc P => by
    obtain ⟨a, h1, h2⟩ := R.own i c hc
    exact go (.ref a) (.o i) h1 h1 (fun _ z => nomatch z) P
  cases e : env[i]? with
  | none => rw [e] at P; exact P.elim
  | some s =>
    rw [e] at P
    cases s with
    | dat d =>
      obtain ⟨v, h1, h2⟩ := R.dat i d e
      exact go v (.d d) h1 h2 (fun _ z => nomatch z) P
    | own c => exact view c (by unfold getO; rw [e]) P
    | par c => exact view c (by unfold getO; rw [e]) P
    | no => exact P.elim
    | ex x => exact P.elim
end
end UbP
namespace UbP
open PySem PySem.Spec PyProof.Rows L2 UbM Ub
section
variable {K : PySem.W.Frag} {S : SS} {σ : L2.St} {H : Hp} {Q : VK} {x y : V} {X : Cx}
theorem dv_int {i : Int} (h : DV K S H x (.int i)) : x = .int i := by
  have h : Dq K _ x (.int i) := h
  cases h; rfl
theorem dv_bl {i : Bool} (h : DV K S H x (.bl i)) : x = .bl i := by
  have h : Dq K _ x (.bl i) := h
  cases h; rfl
theorem dv_str {i : Str} (h : DV K S H x (.str i)) : x = .str i := by
  have h : Dq K _ x (.str i) := h
  cases h; rfl
theorem dv_non (h : DV K S H x .non) : x = .non := by
  have h : Dq K _ x .non := h
  cases h; rfl
theorem dv_lst {ds : List D} (h : DV K S H x (.lst ds)) : ∃ a xs, x = .ref a ∧ H a = some (.lst xs) ∧ DqAll K (wo S H) xs ds := h
theorem dv_tup {ds : List D} (h : DV K S H x (.tup ds)) : ∃ a xs, x = .ref a ∧ SqT K H a xs ∧ DqAll K (wo S H) xs ds := by
  have h : Dq K _ x (.tup ds) := h
  cases h with
  | tup h1 h2 => exact ⟨_, _, rfl, Same.tseq wo_same h1, h2⟩
theorem dv_tupD {ds : List D} (h : DV K S H x (.tup ds)) : Dq K (wo S H) x (.tup ds) := h
theorem dv_lsf {ds : List D} (h : DV K S H x (.lsf ds)) : ∃ a xs, x = .ref a ∧ SqL K H a xs ∧ DqAll K (wo S H) xs ds := by
  have h : Dq K _ x (.lsf ds) := h
  cases h with
  | lsf h1 h2 => exact ⟨_, _, rfl, Same.seq wo_same h1, h2⟩
abbrev Kt (K : PySem.W.Frag) (S : SS) (σ : L2.St) (H : Hp) (w : Vw) (Q : VK) : Prop := ∀ v H', Same H H' → VRel K S σ H' v w → NewV H v w → Q v H'
theorem k_int {i : Int} {w : Vw} (e : vI i = some w) (k : Kt K S σ H w Q) : Q (.int i) H := by
  cases e
  exact k _ H same_refl (.int i) True.intro
theorem k_bl {i : Bool} {w : Vw} (e : vB i = some w) (k : Kt K S σ H w Q) : Q (.bl i) H := by
  cases e
  exact k _ H same_refl (.bl i) True.intro
theorem k_str {i : Str} (k : Kt K S σ H (.d (.str i)) Q) : Q (.str i) H := k _ H same_refl (.str i) True.intro
theorem k_d {d : D} {v : V} (h : Dq K (wo S H) v d) (k : Kt K S σ H (.d d) Q) : Q v H := k _ H same_refl h True.intro
theorem k_lst {xs : List V} {ds : List D} {p : Addr} (cl : Cl S H) (np : H p = none) (h : DqAll K (wo S H) xs ds) (k : Kt K S σ H (.f (.l ds)) Q) : Q (.ref p) (upd H p (.lst xs)) := by
  refine k _ _ (sameNew np) ⟨p, rfl, cl.new np, xs, upd_same, ?_⟩ fun a ea => by cases ea; exact np
  have e : wo (fun s => S s ∨ s = p) (upd H p (.lst xs)) = wo S H := by
    rw [wo_upd (.inr rfl)]
    funext b
    by_cases hb : S b
    · unfold wo; rw [if_pos (.inl hb), if_pos hb]
    · by_cases hp : b = p
      · rw [wo_out hb, hp, np]
        unfold wo
        rw [if_pos (.inr rfl)]
      · rw [wo_out hb, wo_out (fun z => z.elim hb hp)]
  rw [e]
  exact h
theorem k_tup {xs : List V} {ds : List D} {p : Addr} (cl : Cl S H) (np : H p = none) (h : DqAll K (wo S H) xs ds) (k : Kt K S σ H (.d (.tup ds)) Q) : Q (.ref p) (upd H p (.tup xs)) := by
  refine k _ _ (sameNew np) ?_ True.intro
  show Dq K (wo S _) _ _
  rw [wo_new (cl.new np)]
  exact .tup (.inl (.inl upd_same)) (h.mono (sameNew (wo_none np)))
theorem line_lim {n : Nat} (h : n ≤ LIM) : n ≤ sizeLine := by
  rw [sizeLine_eq]
  unfold LIM at h
  omega
def rAddA (K : PySem.W.Frag) : R2 := fun x y H Q => rI0 (fun i j => .int (i + j)) x y H Q ∨ ((∃ i j, x = .str i ∧ y = .str j ∧ i.length + j.length ≤ sizeLine ∧ Q (.str (i ++ j)) H) ∨ (rCat x y H Q ∨ rCatA K x y H Q))
theorem op_addA : OpR X (binaryOp .Add) (rAddA X.K) := OpR.or op_add (OpR.or op_add_str (OpR.or op_cat op_catA))
theorem os_add : OpS K addD (rAddA K) := by
  intro S σ H Q x y a b w cl ha hb e k
  unfold addD at e
  split at e
  · cases dv_int ha
    cases dv_int hb
    exact .inl ⟨_, _, rfl, rfl, k_int e k⟩
  · cases dv_str ha
    cases dv_str hb
    split at e
    · rename_i hl
      cases e
      exact .inr (.inl ⟨_, _, rfl, rfl, line_lim hl, k_str k⟩)
    · cases e
  · obtain ⟨p, xs, rfl, h1, h2⟩ := dv_lst ha
    obtain ⟨q, ys, rfl, g1, g2⟩ := dv_lst hb
    split at e
    · rename_i hl
      cases e
      exact .inr (.inr (.inl ⟨p, q, xs, ys, rfl, rfl, h1, g1, by rw [h2.len, g2.len]; exact line_lim hl, fun r nr => k_lst cl nr (h2.app g2) k⟩))
    · cases e
  · have da := dv_tupD ha
    have db := dv_tupD hb
    obtain ⟨p, xs, rfl, h1, h2⟩ := dv_tup ha
    obtain ⟨q, ys, rfl, g1, g2⟩ := dv_tup hb
    split at e
    · rename_i hl
      cases e
      refine .inr (.inr (.inr ⟨p, q, xs, ys, rfl, rfl, h1, g1, by rw [h2.len, g2.len]; exact line_lim hl, fun z => ?_, fun _ z => ?_, fun _ _ r nr => k_tup cl nr (h2.app g2) k⟩))
      · subst z
        cases h2
        exact k_d db k
      · subst z
        cases g2
        exact k_d da (by rw [List.append_nil] at k; exact k)
    · cases e
  · cases e
theorem os_sub : OpS K subD (rI0 fun i j => .int (i - j)) := by
  intro S σ H Q x y a b w cl ha hb e k
  unfold subD at e
  split at e
  · cases dv_int ha
    cases dv_int hb
    exact ⟨_, _, rfl, rfl, k_int e k⟩
  · cases e
def rMulA : R2 := fun x y H Q => rI CMulG (fun i j => .int (i * j)) x y H Q ∨ rRep x y H Q
theorem op_mulA : OpR X (binaryOp .Mult) rMulA := OpR.or op_mulG op_rep
theorem os_mul : OpS K mulD rMulA := by
  intro S σ H Q x y a b w cl ha hb e k
  unfold mulD at e
  split at e
  · cases dv_int ha
    cases dv_int hb
    split at e
    · rename_i hl
      refine .inl ⟨_, _, rfl, rfl, ?_, k_int e k⟩
      unfold UbP.log2 smI at hl
      rcases Bool.or_eq_true_iff.mp hl with hl | hl
      · rcases Bool.or_eq_true_iff.mp hl with hl | hl
        · have hl := of_decide_eq_true hl
          exact .inl (.inl (by omega))
        · have hl := of_decide_eq_true hl
          exact .inl (.inr (by omega))
      · have hl := of_decide_eq_true hl
        exact .inr (by unfold CMulW; omega)
    · cases e
  · obtain ⟨p, xs, rfl, h1, h2⟩ := dv_lst ha
    cases dv_int hb
    split at e
    · rename_i hl
      cases e
      exact .inr ⟨p, _, xs, rfl, rfl, h1, by omega, by omega, by rw [h2.len]; exact line_lim hl.2.1, fun r nr => k_lst cl nr (h2.rep _) k⟩
    · cases e
  · cases e
theorem os_fdiv : OpS K fdivD (rI CDivX fun i j => .int (i.fdiv j)) := by
  intro S σ H Q x y a b w cl ha hb e k
  unfold fdivD at e
  split at e
  · cases dv_int ha
    cases dv_int hb
    split at e
    · rename_i hl
      exact ⟨_, _, rfl, rfl, hl, k_int e k⟩
    · cases e
  · cases e
theorem os_mod : OpS K modD (rI (fun _ j => j ≠ 0) fun i j => .int (i.fmod j)) := by
  intro S σ H Q x y a b w cl ha hb e k
  unfold modD at e
  split at e
  · cases dv_int ha
    cases dv_int hb
    split at e
    · rename_i hl
      exact ⟨_, _, rfl, rfl, hl, k_int e k⟩
    · cases e
  · cases e
theorem os_pow : OpS K powD (rI CPow fun i j => .int (i ^ j.toNat)) := by
  intro S σ H Q x y a b w cl ha hb e k
  unfold powD at e
  split at e
  · cases dv_int ha
    cases dv_int hb
    split at e
    · rename_i hl
      exact ⟨_, _, rfl, rfl, ⟨hl.1, by omega, hl.2.2⟩, k_int e k⟩
    · cases e
  · cases e
theorem us_neg : UnS K negD (rU fun i => .int (-i)) := by
  intro S σ H Q x a w cl ha e k
  unfold negD at e
  split at e
  · cases dv_int ha
    exact ⟨_, rfl, k_int e k⟩
  · cases e
theorem os_cmpI {f : Int → Int → Bool} {r : R2} (h : ∀ i j H Q, Q (.bl (f i j)) H → r (.int i) (.int j) H Q) : OpS K (fun a b => (cmpI f a b).map fun k => .d (.bl k)) r := by
  intro S σ H Q x y a b w cl ha hb e k
  unfold cmpI at e
  dsimp only at e
  split at e
  · cases dv_int ha
    cases dv_int hb
    exact h _ _ _ _ (k_bl e k)
  · cases e
theorem os_lt : OpS K (fun a b => (ltD a b).map fun k => .d (.bl k)) (rI0 fun i j => .bl (decide (i < j))) := os_cmpI fun i j H Q q => ⟨i, j, rfl, rfl, q⟩
theorem os_le : OpS K (fun a b => (leD a b).map fun k => .d (.bl k)) (rI0 fun i j => .bl (decide (i ≤ j))) := os_cmpI fun i j H Q q => ⟨i, j, rfl, rfl, q⟩
theorem os_gt : OpS K (fun a b => (gtD a b).map fun k => .d (.bl k)) (rI0 fun i j => .bl (decide (j < i))) := os_cmpI fun i j H Q q => ⟨i, j, rfl, rfl, q⟩
theorem os_ge : OpS K (fun a b => (geD a b).map fun k => .d (.bl k)) (rI0 fun i j => .bl (decide (j ≤ i))) := os_cmpI fun i j H Q q => ⟨i, j, rfl, rfl, q⟩
mutual
/-- as the library's data -/
def py : D → PyData
  | .non => .none
  | .bl b => .bool b
  | .int i => .int i
  | .str x => .str x
  | .lst ds => .list (pyAll ds)
  | .tup ds => .tuple (pyAll ds)
  | .lsf _ => .none
  | .obj _ _ => .none
def pyAll : List D → List PyData
  | [] => []
  | d :: ds => py d :: pyAll ds
end
mutual
theorem py_sh : ∀ (d : D) (n : Nat), sh d n = true → (py d).canLay0 = true ∧ (py d).depth ≤ n
  | .non, n, _ => ⟨rfl, Nat.zero_le _⟩
  | .bl b, n, _ => ⟨rfl, Nat.zero_le _⟩
  | .int i, n, _ => ⟨rfl, Nat.zero_le _⟩
  | .str x, n, h => ⟨h, Nat.zero_le _⟩
  | .lst ds, n, h => by
    unfold sh at h
    obtain ⟨h0, h1⟩ := Bool.and_eq_true_iff.mp h
    have h0 : 0 < n := of_decide_eq_true h0
    obtain ⟨g1, g2⟩ := py_shAll ds _ h1
    exact ⟨g1, by show PyData.depthAll (pyAll ds) + 1 ≤ n; omega⟩
  | .tup ds, n, h => by
    unfold sh at h
    obtain ⟨h0, h1⟩ := Bool.and_eq_true_iff.mp h
    have h0 : 0 < n := of_decide_eq_true h0
    obtain ⟨g1, g2⟩ := py_shAll ds _ h1
    exact ⟨g1, by show PyData.depthAll (pyAll ds) + 1 ≤ n; omega⟩
  | .lsf _, n, h => by unfold sh at h; cases h
  | .obj _ _, n, h => by unfold sh at h; cases h
theorem py_shAll : ∀ (ds : List D) (n : Nat), shAll ds n = true → PyData.canLayAll0 (pyAll ds) = true ∧ PyData.depthAll (pyAll ds) ≤ n
  | [], n, _ => ⟨rfl, Nat.zero_le _⟩
  | d :: ds, n, h => by
    unfold shAll at h
    obtain ⟨h0, h1⟩ := Bool.and_eq_true_iff.mp h
    obtain ⟨f1, f2⟩ := py_sh d n h0
    obtain ⟨g1, g2⟩ := py_shAll ds n h1
    refine ⟨?_, ?_⟩
    · show (PyData.canLay0 (py d) && PyData.canLayAll0 (pyAll ds)) = true
      rw [f1, g1]
      rfl
    · show max (PyData.depth (py d)) (PyData.depthAll (pyAll ds)) ≤ n
      omega
end
mutual
theorem py_eqv : ∀ (d e : D) (n m : Nat), sh d n = true → sh e m = true → PyData.eqv (py d) (py e) = eqv d e
  | .lsf _, _, n, m, h, _ => by unfold sh at h; cases h
  | .obj _ _, _, n, m, h, _ => by unfold sh at h; cases h
  | d, .lsf _, n, m, _, h => by unfold sh at h; cases h
  | d, .obj _ _, n, m, _, h => by unfold sh at h; cases h
  | .lst xs, .lst ys, n, m, h, g => by
    unfold sh at h g
    have z := py_eqvAll xs ys _ _ (Bool.and_eq_true_iff.mp h).2 (Bool.and_eq_true_iff.mp g).2
    show PyData.eqvAll (pyAll xs) (pyAll ys) = eqv (.lst xs) (.lst ys)
    rw [z]
    unfold eqv
    rfl
  | .tup xs, .tup ys, n, m, h, g => by
    unfold sh at h g
    have z := py_eqvAll xs ys _ _ (Bool.and_eq_true_iff.mp h).2 (Bool.and_eq_true_iff.mp g).2
    show PyData.eqvAll (pyAll xs) (pyAll ys) = eqv (.tup xs) (.tup ys)
    rw [z]
    unfold eqv
    rfl
  | .non, .non, _, _, _, _ => by simp [py, PyData.eqv, eqv]
  | .non, .bl _, _, _, _, _ => by simp [py, PyData.eqv, eqv]
  | .non, .int _, _, _, _, _ => by simp [py, PyData.eqv, eqv]
  | .non, .str _, _, _, _, _ => by simp [py, PyData.eqv, eqv]
  | .non, .lst _, _, _, _, _ => by simp [py, PyData.eqv, eqv]
  | .non, .tup _, _, _, _, _ => by simp [py, PyData.eqv, eqv]
  | .bl _, .non, _, _, _, _ => by simp [py, PyData.eqv, eqv]
  | .bl _, .bl _, _, _, _, _ => by simp [py, PyData.eqv, eqv]
  | .bl _, .int _, _, _, _, _ => by simp [py, PyData.eqv, eqv]
  | .bl _, .str _, _, _, _, _ => by simp [py, PyData.eqv, eqv]
  | .bl _, .lst _, _, _, _, _ => by simp [py, PyData.eqv, eqv]
  | .bl _, .tup _, _, _, _, _ => by simp [py, PyData.eqv, eqv]
  | .int _, .non, _, _, _, _ => by simp [py, PyData.eqv, eqv]
  | .int _, .bl _, _, _, _, _ => by simp [py, PyData.eqv, eqv]
  | .int _, .int _, _, _, _, _ => by simp [py, PyData.eqv, eqv]
  | .int _, .str _, _, _, _, _ => by simp [py, PyData.eqv, eqv]
  | .int _, .lst _, _, _, _, _ => by simp [py, PyData.eqv, eqv]
  | .int _, .tup _, _, _, _, _ => by simp [py, PyData.eqv, eqv]
  | .str _, .non, _, _, _, _ => by simp [py, PyData.eqv, eqv]
  | .str _, .bl _, _, _, _, _ => by simp [py, PyData.eqv, eqv]
  | .str _, .int _, _, _, _, _ => by simp [py, PyData.eqv, eqv]
  | .str _, .str _, _, _, _, _ => by simp [py, PyData.eqv, eqv]
  | .str _, .lst _, _, _, _, _ => by simp [py, PyData.eqv, eqv]
  | .str _, .tup _, _, _, _, _ => by simp [py, PyData.eqv, eqv]
  | .lst _, .non, _, _, _, _ => by simp [py, PyData.eqv, eqv]
  | .lst _, .bl _, _, _, _, _ => by simp [py, PyData.eqv, eqv]
  | .lst _, .int _, _, _, _, _ => by simp [py, PyData.eqv, eqv]
  | .lst _, .str _, _, _, _, _ => by simp [py, PyData.eqv, eqv]
  | .lst _, .tup _, _, _, _, _ => by simp [py, PyData.eqv, eqv]
  | .tup _, .non, _, _, _, _ => by simp [py, PyData.eqv, eqv]
  | .tup _, .bl _, _, _, _, _ => by simp [py, PyData.eqv, eqv]
  | .tup _, .int _, _, _, _, _ => by simp [py, PyData.eqv, eqv]
  | .tup _, .str _, _, _, _, _ => by simp [py, PyData.eqv, eqv]
  | .tup _, .lst _, _, _, _, _ => by simp [py, PyData.eqv, eqv]
theorem py_eqvAll : ∀ (xs ys : List D) (n m : Nat), shAll xs n = true → shAll ys m = true → PyData.eqvAll (pyAll xs) (pyAll ys) = eqvAll xs ys
  | [], [], _, _, _, _ => by simp [pyAll, PyData.eqvAll, eqvAll]
  | [], _ :: _, _, _, _, _ => by simp [pyAll, PyData.eqvAll, eqvAll]
  | _ :: _, [], _, _, _, _ => by simp [pyAll, PyData.eqvAll, eqvAll]
  | x :: xs, y :: ys, n, m, h, g => by
    unfold shAll at h g
    obtain ⟨h0, h1⟩ := Bool.and_eq_true_iff.mp h
    obtain ⟨g0, g1⟩ := Bool.and_eq_true_iff.mp g
    unfold pyAll PyData.eqvAll eqvAll
    rw [py_eqv x y _ _ h0 g0, py_eqvAll xs ys _ _ h1 g1]
end
mutual
theorem Dq.dp : ∀ (d : D) (v : V) (n : Nat), sh d n = true → Dq K H v d → Dp K H v (py d)
  | .non, _, _, _, h => by cases h; exact .non
  | .bl b, _, _, _, h => by cases h; exact .bl b
  | .int i, _, _, _, h => by cases h; exact .int i
  | .str x, _, _, _, h => by cases h; exact .str x
  | .lst ds, _, n, g, h => by
    unfold sh at g
    cases h with
    | lst h1 h2 => exact .lst (.inl (.inl h1)) (Dq.dpAll ds _ _ (Bool.and_eq_true_iff.mp g).2 h2)
  | .tup ds, _, n, g, h => by
    unfold sh at g
    cases h with
    | tup h1 h2 => exact .tup h1 (Dq.dpAll ds _ _ (Bool.and_eq_true_iff.mp g).2 h2)
  | .lsf _, _, _, g, _ => by unfold sh at g; cases g
  | .obj _ _, _, _, g, _ => by unfold sh at g; cases g
theorem Dq.dpAll : ∀ (ds : List D) (vs : List V) (n : Nat), shAll ds n = true → DqAll K H vs ds → DpAll K H vs (pyAll ds)
  | [], _, _, _, h => by cases h; exact .nil
  | d :: ds, _, n, g, h => by
    unfold shAll at g
    obtain ⟨g0, g1⟩ := Bool.and_eq_true_iff.mp g
    cases h with
    | cons h1 h2 => exact .cons (Dq.dp d _ _ g0 h1) (Dq.dpAll ds _ _ g1 h2)
end
theorem shaped_of {d : D} (h : sh d 60 = true) : SeqAt.shaped (py d) = true := by
  obtain ⟨h1, h2⟩ := py_sh d 60 h
  unfold SeqAt.shaped
  rw [h1, decide_eq_true (by omega)]
  rfl
theorem str_beq {a b : Str} : (a == b) = decide (a = b) := Bool.beq_eq_decide_eq a b
/-- == of any two -/
theorem rdEq {r : R2} {neg : Bool} (hd : ∀ d e, Dp K H x d → Dp K H y e → SeqAt.shaped d = true → SeqAt.shaped e = true → Q (.bl (if neg then !(PyData.eqv d e) else PyData.eqv d e)) H → r x y H Q)
    (hs : L2.scal x y = true → Q (.bl (if neg then !(decide (x = y)) else decide (x = y))) H → r x y H Q) {a b : D} {k : Bool} (ha : DV K S H x a) (hb : DV K S H y b) (e : eqD a b = some k) (q : Q (.bl (if neg then !k else k)) H) : r x y H Q := by
  unfold eqD at e
  split at e
  · rename_i hc
    have ek : eqv a b = k := Option.some.inj e
    subst ek
    by_cases hsh : (sh a 60 && sh b 60) = true
    · obtain ⟨s1, s2⟩ := Bool.and_eq_true_iff.mp hsh
      exact hd _ _ (Dq.dp a x 60 s1 ha.dq) (Dq.dp b y 60 s2 hb.dq) (shaped_of s1) (shaped_of s2) (by rw [py_eqv a b 60 60 s1 s2]; exact q)
    · have hc : (UbP.scal a && UbP.scal b) = true := by
        rcases Bool.or_eq_true_iff.mp hc with z | z
        · exact z
        · exact absurd z hsh
      obtain ⟨c1, c2⟩ := Bool.and_eq_true_iff.mp hc
      have str1 : (∃ s, a = .str s) ∨ ∃ s, b = .str s := by
        cases a <;> cases b <;> first
          | exact .inl ⟨_, rfl⟩
          | exact .inr ⟨_, rfl⟩
          | (exfalso; revert hsh; simp [sh]; done)
          | (exfalso; revert c1; simp [UbP.scal]; done)
          | (exfalso; revert c2; simp [UbP.scal]; done)
      have fin : L2.scal x y = true → decide (x = y) = eqv a b → r x y H Q := fun h1 h2 => hs h1 (by rw [h2]; exact q)
      rcases str1 with ⟨s, rfl⟩ | ⟨s, rfl⟩
      · cases dv_str ha
        cases b with
        | non => cases dv_non hb; exact fin rfl (by simp [eqv])
        | bl b => cases dv_bl hb; exact fin rfl (by simp [eqv])
        | int b => cases dv_int hb; exact fin rfl (by simp [eqv])
        | str b => cases dv_str hb; exact fin rfl (by simp [eqv, str_beq])
        | _ => revert c2; simp [UbP.scal]
      · cases dv_str hb
        cases a with
        | non => cases dv_non ha; exact fin rfl (by simp [eqv])
        | bl b => cases dv_bl ha; exact fin rfl (by simp [eqv])
        | int b => cases dv_int ha; exact fin rfl (by simp [eqv])
        | str b => cases dv_str ha; exact fin rfl (by simp [eqv, str_beq])
        | _ => revert c1; simp [UbP.scal]
  · cases e
theorem os_eq : OpS K (fun a b => (eqD a b).map fun k => .d (.bl k)) (rEqA K) := by
  intro S σ H Q x y a b w cl ha hb e k
  obtain ⟨c, e1, e2⟩ := Option.map_eq_some_iff.mp e
  subst e2
  exact rdEq (neg := false) (fun d e h1 h2 s1 s2 q => .inr ⟨d, e, h1, h2, s1, s2, q⟩) (fun h q => .inl ⟨h, q⟩) ha hb e1 (k_bl rfl k)
theorem os_ne : OpS K (fun a b => (neD a b).map fun k => .d (.bl k)) (rNeA K) := by
  intro S σ H Q x y a b w cl ha hb e k
  unfold neD at e
  obtain ⟨c, e1, e2⟩ := Option.map_eq_some_iff.mp e
  subst e2
  obtain ⟨c', e3, e4⟩ := Option.map_eq_some_iff.mp e1
  subst e4
  exact rdEq (neg := true) (fun d e h1 h2 s1 s2 q => .inr ⟨d, e, h1, h2, s1, s2, q⟩) (fun h q => .inl ⟨h, q⟩) ha hb e3 (k_bl rfl k)
theorem flat_v {d : D} {v : V} (h : Dq K H v d) (f : flat d = true) : flatV v = true := by cases h <;> first | rfl | (exfalso; revert f; simp [flat, UbP.scal]; done)
theorem flat_eq {d e : D} {v u : V} (h : Dq K H v d) (g : Dq K H u e) (f1 : flat d = true) (f2 : flat e = true) : eqV v u = eqv d e := by
  cases h <;> cases g <;> first | (simp [eqV, eqv]; done) | (exfalso; revert f1; simp [flat, UbP.scal]; done) | (exfalso; revert f2; simp [flat, UbP.scal]; done)
theorem flat_all : ∀ {vs : List V} {ds : List D}, DqAll K H vs ds → ds.all flat = true → vs.all flatV = true
  | _, _, .nil, _ => rfl
  | _, _, .cons h1 h2, f => by
    rw [List.all_cons] at f ⊢
    obtain ⟨f1, f2⟩ := Bool.and_eq_true_iff.mp f
    rw [flat_v h1 f1, flat_all h2 f2]
    rfl
theorem flat_mem {d : D} {v : V} (h : Dq K H v d) (f : flat d = true) : ∀ {vs : List V} {ds : List D}, DqAll K H vs ds → ds.all flat = true → inV v vs = mem d ds
  | _, _, .nil, _ => rfl
  | _, _, .cons h1 h2, g => by
    rw [List.all_cons] at g
    obtain ⟨f1, f2⟩ := Bool.and_eq_true_iff.mp g
    have ih := flat_mem h f h2 f2
    unfold inV mem at ih ⊢
    rw [List.any_cons, List.any_cons, ih, flat_eq h1 h f1 f]
theorem py_mem {d : D} (hd : sh d 40 = true) : ∀ {ds : List D} {n : Nat}, shAll ds n = true → ((pyAll ds).any fun z => PyData.eqv z (py d)) = mem d ds
  | [], _, _ => rfl
  | e :: ds, n, h => by
    unfold shAll at h
    obtain ⟨h1, h2⟩ := Bool.and_eq_true_iff.mp h
    have ih := py_mem hd h2
    unfold mem at ih ⊢
    show (PyData.eqv (py e) (py d) || (pyAll ds).any fun z => PyData.eqv z (py d)) = _
    rw [List.any_cons, ih, py_eqv e d n 40 h1 hd]
/-- a sign in a text, a thing in a list or a tuple -/
def rInB (K : PySem.W.Frag) (r : Bool) : R2 := fun x y H Q => UbIn.rInA K r x y H Q ∨ ∃ (c : Nat) (z : Str), x = .str ⟨#[c]⟩ ∧ y = .str z ∧ Q (.bl (if r then !decide (c ∈ z.cps.toList) else decide (c ∈ z.cps.toList))) H
theorem op_inB {X : Cx} (hu : X.A.units + 64 < cLine) : OpR X (compareOp .In) (rInB X.K false) := OpR.or (UbIn.op_inA hu) op_in_sign
theorem sign_eq {x : Str} {c : Nat} (h : sign? x = some c) : x = ⟨#[c]⟩ := by
  unfold sign? at h
  obtain ⟨⟨l⟩⟩ := x
  dsimp only at h
  match l, h with
  | [d], h => cases h; rfl
theorem rdIn {r : Bool} {a b : D} {k : Bool} (ha : DV K S H x a) (hb : DV K S H y b) (e : inD a b = some k) (q : Q (.bl (if r then !k else k)) H) : rInB K r x y H Q := by
  unfold inD at e
  split at e
  · split at e
    · cases dv_str ha
      cases dv_str hb
      obtain ⟨c, e1, rfl⟩ := Option.map_eq_some_iff.mp e
      exact .inr ⟨c, _, by rw [sign_eq e1], rfl, q⟩
    · cases e
  · rename_i ds
    split at e
    · rename_i hf
      cases e
      rcases Bool.or_eq_true_iff.mp hf with hf | hf
      · obtain ⟨p, xs, rfl, h1, h2⟩ := dv_lst hb
        obtain ⟨f1, f2⟩ := Bool.and_eq_true_iff.mp hf
        exact .inl (.inl ⟨p, xs, rfl, .inl (.inl (.inl h1)), flat_v ha.dq f1, flat_all h2 f2, by rw [flat_mem (Dq.mono same_refl (K := K) (H := H) ha.dq) f1 (h2.mono wo_same) f2]; exact q⟩)
      · obtain ⟨f1, f2⟩ := Bool.and_eq_true_iff.mp hf
        have s2 : sh (.lst ds) 60 = true := by unfold sh; rw [f2]; rfl
        have d2 := Dq.dp (.lst ds) y 60 s2 hb.dq
        have c2 := (py_sh (.lst ds) 60 s2).1
        have c1 := py_sh a 40 f1
        exact .inl (.inr ⟨py a, pyAll ds, Dq.dp a x 40 f1 ha.dq, .inl d2, c1.1, c2, by have := c1.2; omega, by rw [py_mem f1 f2]; exact q⟩)
    · cases e
  · rename_i ds
    split at e
    · rename_i hf
      cases e
      rcases Bool.or_eq_true_iff.mp hf with hf | hf
      · obtain ⟨p, xs, rfl, h1, h2⟩ := dv_tup hb
        obtain ⟨f1, f2⟩ := Bool.and_eq_true_iff.mp hf
        exact .inl (.inl ⟨p, xs, rfl, .inr h1, flat_v ha.dq f1, flat_all h2 f2, by rw [flat_mem ha.dq f1 (h2.mono wo_same) f2]; exact q⟩)
      · obtain ⟨f1, f2⟩ := Bool.and_eq_true_iff.mp hf
        have s2 : sh (.tup ds) 60 = true := by unfold sh; rw [f2]; rfl
        have d2 := Dq.dp (.tup ds) y 60 s2 hb.dq
        have c2 := (py_sh (.tup ds) 60 s2).1
        have c1 := py_sh a 40 f1
        exact .inl (.inr ⟨py a, pyAll ds, Dq.dp a x 40 f1 ha.dq, .inr d2, c1.1, c2, by have := c1.2; omega, by rw [py_mem f1 f2]; exact q⟩)
    · cases e
  · cases e
theorem os_in : OpS K (fun a b => (inD a b).map fun k => .d (.bl k)) (rInB K false) := by
  intro S σ H Q x y a b w cl ha hb e k
  obtain ⟨c, e1, e2⟩ := Option.map_eq_some_iff.mp e
  subst e2
  exact rdIn (r := false) ha hb e1 (k_bl rfl k)
theorem atL_V {xs : List V} {ds : List D} {i : Int} {d : D} (h : DqAll K H xs ds) (e : atL ds i = some d) : ∃ v, atI xs i = some v ∧ Dq K H v d := by
  unfold atL at e
  unfold atI
  obtain ⟨j, e1, e2⟩ := Option.bind_eq_some_iff.mp e
  obtain ⟨v, h1, h2⟩ := h.get e2
  refine ⟨v, ?_, h2⟩
  rw [h.len]
  have e3 : ixN ds.length i = some j := e1
  rw [e3]
  exact h1
theorem os_ix : OpS K ixD (rIx K) := by
  intro S σ H Q x y a b w cl ha hb e k
  unfold ixD at e
  split at e
  · cases dv_int hb
    obtain ⟨p, xs, rfl, h1, h2⟩ := dv_lst ha
    obtain ⟨d, e1, rfl⟩ := Option.map_eq_some_iff.mp e
    obtain ⟨v, e2, h3⟩ := atL_V h2 e1
    exact .inl ⟨p, xs, _, v, rfl, rfl, .inl (.inl h1), e2, k_d h3 k⟩
  · cases dv_int hb
    obtain ⟨p, xs, rfl, h1, h2⟩ := dv_lsf ha
    obtain ⟨d, e1, rfl⟩ := Option.map_eq_some_iff.mp e
    obtain ⟨v, e2, h3⟩ := atL_V h2 e1
    exact .inl ⟨p, xs, _, v, rfl, rfl, h1, e2, k_d h3 k⟩
  · cases dv_int hb
    obtain ⟨p, xs, rfl, h1, h2⟩ := dv_tup ha
    obtain ⟨d, e1, rfl⟩ := Option.map_eq_some_iff.mp e
    obtain ⟨v, e2, h3⟩ := atL_V h2 e1
    exact .inr (.inl ⟨p, xs, _, v, rfl, rfl, h1, e2, k_d h3 k⟩)
  · cases dv_int hb
    cases dv_str ha
    split at e
    · rename_i hl
      obtain ⟨d, e1, rfl⟩ := Option.map_eq_some_iff.mp e
      exact .inr (.inr ⟨_, _, d, rfl, rfl, line_lim hl, e1, k_str k⟩)
    · cases e
  · cases e
theorem cut_V {xs : List V} {ds : List D} {lo hi : Option Int} (h : DqAll K H xs ds) : DqAll K H (cutV xs lo hi) (cut ds lo hi) := by
  unfold cutV cut
  rw [h.len]
  exact (h.drop _).take _
theorem tru_V {a : D} {k : Bool} (h : DV K S H x a) (e : tru a = some k) : TruV K x H k := by
  cases a with
  | non => cases dv_non h; cases e; exact rfl
  | bl b => cases dv_bl h; cases e; exact rfl
  | int i => cases dv_int h; cases e; exact rfl
  | str s =>
    cases dv_str h
    have e : (if s.length ≤ 1000000 then some (decide (s.length ≠ 0)) else none) = some k := e
    split at e
    · rename_i hl
      cases e
      refine ⟨line_lim hl, ?_⟩
      by_cases z : s.length = 0
      · rw [z]; rfl
      · rw [decide_eq_true (show s.length ≠ 0 from z)]
        exact (bne_iff_ne.mpr (by omega)).symm
    · cases e
  | lst ds =>
    obtain ⟨p, xs, rfl, h1, h2⟩ := dv_lst h
    cases e
    exact .inl ⟨xs, .inl (.inl h1), by cases h2 <;> rfl⟩
  | lsf ds =>
    obtain ⟨p, xs, rfl, h1, h2⟩ := dv_lsf h
    cases e
    exact .inl ⟨xs, h1, by cases h2 <;> rfl⟩
  | tup ds =>
    obtain ⟨p, xs, rfl, h1, h2⟩ := dv_tup h
    cases e
    exact .inr (.inl ⟨xs, h1, by cases h2 <;> rfl⟩)
  | obj _ _ => cases e
end
end UbP
namespace UbP
open PySem PySem.Spec PyProof.Rows L2 UbM Ub
section
variable {X : Cx} {z : Z} {e a b c : Expr} {es rest : List Expr} {fa fb fc : M Vw} {ft fu : M Bool} {pos p p2 : Pos} {x : Str} {σ : L2.St} {H : Hp} {Q : VK}
theorem tc_of {v : V} {d : D} (hd : ∀ H, Dq z.K H v d) (h : tP z (eC d) σ H Q) : Q v H := by
  obtain ⟨O, env, R, P⟩ := h
  exact P v H (SameC.refl H) R (SameO.refl env) ⟨hd _, True.intro, True.intro⟩
theorem pu_int {i : Int} {j} : PE X (.Constant (.int i) j pos) (tP z (eC (.int i))) := PE_imp pe_int fun σ H Q h => tc_of (fun _ => .int i) h
theorem pu_bl {i : Bool} {j} : PE X (.Constant (.bool i) j pos) (tP z (eC (.bl i))) := PE_imp pe_bl fun σ H Q h => tc_of (fun _ => .bl i) h
theorem pu_str {i : Str} {j} : PE X (.Constant (.str i) j pos) (tP z (eC (.str i))) := PE_imp pe_str fun σ H Q h => tc_of (fun _ => .str i) h
theorem pu_glob {v : V} {u : Value} {d : D} (hd : ∀ H, Dq z.K H v d) (hg : Gl X x) (hm : X.mg x = some u) (r : RelV v u) (hdb : (x == ("__debug__" : Str)) = false := by decide) : PE X (.Name x pos) (tP z (eC d)) := PE_imp (pe_glob hg hm r hdb) fun σ H Q h => tc_of hd h
theorem pu_op {op : Operator} {f : D → D → Option Vw} {r : R2} (s : OpS z.K f r) (ho : OpR X (binaryOp op) r) (ha : PE X a (tP z fa)) (hb : PE X b (tP z fb)) : PE X (.BinOp a op b pos) (tP z (eB f fa fb)) := PE_imp (pe_op ho ha hb) (pu_bin s)
theorem pu_neg (ha : PE X a (tP z fa)) : PE X (.UnaryOp .USub a pos) (tP z (eU negD fa)) := PE_imp (pe_un un_neg ha) (pu_un us_neg)
theorem pu_cmp {op : CmpOp} {f : D → D → Option Bool} {r : R2} (s : OpS z.K (fun a b => (f a b).map fun k => .d (.bl k)) r) (ho : OpR X (compareOp op) r) (ha : PE X a (tP z fa)) (hb : PE X b (tP z fb)) (hm : behindInMarks op b = false) : PE X (.Compare a [op] [b] pos) (tP z (eB (cB f) fa fb)) := PE_imp (pe_cmpR ho ha hb hm) (pu_bin s)
theorem pu_tcmp {op : CmpOp} {f : D → D → Option Bool} {r : R2} (s : OpS z.K (fun a b => (f a b).map fun k => .d (.bl k)) r) (ho : OpR X (compareOp op) r) (ha : PE X a (tP z fa)) (hb : PE X b (tP z fb)) (hm : behindInMarks op b = false) : PT X (.Compare a [op] [b] pos) (tT z (UbP.tB f fa fb)) := PT_imp (pt_cmpR ho ha hb hm) (pu_tbin s)
theorem pu_ix {f : D → D → Option Vw} {r : R2} (s : OpS z.K f r) (ho : IxR X r) (ha : PE X a (tP z fa)) (hb : PE X b (tP z fb)) (hs : PlainIx b) : PE X (.Subscript a b pos) (tP z (eB f fa fb)) := PE_imp (pe_ix ho ha hb hs) (pu_bin s)
theorem post_tru {α β : Type} {R1 : VRt α β} {O : SS} {env : Env} {Q : β → Hp → Prop} {w : Vw} {k : Bool → M α} {v : V} (R : RelT z O H σ env) (V : VRel z.K (cells σ env O) σ H v w) (P : PostG R1 z O σ env H Q (bnd (truM w) k env)) : ∃ b, TruV z.K v H b ∧ PostG R1 z O σ env H Q (k b env) := by
  unfold truM bnd nowM at P
  cases e : w.now env with
  | none => rw [e] at P; exact P.elim
  | some d =>
    rw [e] at P
    cases e2 : tru d with
    | none =>
      dsimp only [optM] at P
      rw [e2] at P
      exact P.elim
    | some b =>
      dsimp only [optM] at P
      rw [e2] at P
      exact ⟨b, tru_V (V.now R e) e2, P⟩
theorem post_cont {env : Env} {O : SS} {f : M Vw} (R : RelT z O H σ env) (P : PostG vE z O σ env H Q (f env)) : tP z f σ H Q := ⟨O, env, R, P⟩
theorem dull_rel {O : SS} {env : Env} {v : V} {w : Vw} (h : VRel z.K (cells σ env O) σ H v w) : vE z O env σ H H v w.dull := by
  cases w with
  | d x => exact ⟨h, True.intro, True.intro⟩
  | o k => exact ⟨h, True.intro, True.intro⟩
  | f c => exact ⟨VRel.stay h rfl, True.intro, True.intro⟩
theorem post_dull {O : SS} {env : Env} {w : Vw} {v : V} (R : RelT z O H σ env) (hV : VRel z.K (cells σ env O) σ H v w) (P : PostG vE z O σ env H Q ((ret w.dull : M Vw) env)) : Q v H := P v H (SameC.refl H) R (SameO.refl _) (dull_rel hV)
theorem pu_and (hK : X.K = z.K) (ha : PE X a (tP z fa)) (hb : PE X (.BoolOp .And (b :: rest) pos) (tP z fb)) : PE X (.BoolOp .And (a :: b :: rest) pos) (tP z (eAnd fa fb)) := PE_imp (pe_andT ha hb) fun σ H Q ⟨O, env, R, P⟩ =>
  tG_mono (post_bnd bkE R P) fun v H1 ⟨env1, w, R1, s1, so1, V, P1⟩ => by
    obtain ⟨k, t, P2⟩ := post_tru R1 V.1 P1
    refine ⟨k, by rw [hK]; exact t, ?_⟩
    cases k with
    | true => exact post_cont R1 P2
    | false => exact post_dull R1 V.1 P2
theorem pu_one {op} (ha : PE X a (tP z fa)) : PE X (.BoolOp op [a] pos) (tP z fa) := pe_one ha
theorem pu_truth (hK : X.K = z.K) (ha : PE X a (tP z fa)) (he : ∀ whole, isTrue a X.env whole = (do let v ← whole; standAt a.pos; holding [v] (truthy v)) := by intro _; rfl) : PT X a (tT z (tE fa)) := PT_imp (pt_truth ha he) fun σ H Q ⟨O, env, R, P⟩ =>
  tG_mono (post_bnd bkT R P) fun v H1 ⟨env1, w, R1, s1, so1, V, P1⟩ => by
    have P1 : PostG vT z O σ env1 H1 Q (bnd (truM w) ret env1) := by
      have e : bnd (truM w) ret env1 = truM w env1 := by
        unfold bnd
        cases truM w env1 <;> rfl
      rw [e]
      exact P1
    obtain ⟨k, t, P2⟩ := post_tru R1 V.1 P1
    exact ⟨k, by rw [hK]; exact t, P2 k H1 (SameC.refl H1) R1 (SameO.refl _) rfl⟩
theorem pu_tnot (ha : PT X a (tT z ft)) : PT X (.UnaryOp .Not a pos) (tT z (UbP.tNot ft)) := PT_imp (pt_not ha) fun σ H Q ⟨O, env, R, P⟩ =>
  tG_mono (post_bnd bkT R P) fun b H1 ⟨env1, w, R1, s1, so1, V, P1⟩ => by
    cases V
    exact P1 (!b) H1 (SameC.refl H1) R1 (SameO.refl _) rfl
theorem pu_wand1 (ha : PT X a (tT z ft)) : PW X (.BoolOp .And [a] pos) (tT z ft) := pw_and1 ha
theorem pu_wor1 (ha : PT X a (tT z ft)) : PW X (.BoolOp .Or [a] pos) (tT z ft) := pw_or1 ha
theorem pu_wand (ha : PT X a (tT z ft)) (hb : PW X (.BoolOp .And (b :: rest) pos) (tT z fu)) : PW X (.BoolOp .And (a :: b :: rest) pos) (tT z (UbP.tAnd ft fu)) := PW_imp (pw_and ha hb) fun σ H Q ⟨O, env, R, P⟩ =>
  tG_mono (post_bnd bkT R P) fun b H1 ⟨env1, w, R1, s1, so1, V, P1⟩ => by
    cases V
    cases b with
    | true => exact ⟨O, env1, R1, P1⟩
    | false => exact P1 false H1 (SameC.refl H1) R1 (SameO.refl _) rfl
theorem pu_wor (ha : PT X a (tT z ft)) (hb : PW X (.BoolOp .Or (b :: rest) pos) (tT z fu)) : PW X (.BoolOp .Or (a :: b :: rest) pos) (tT z (UbP.tOr ft fu)) := PW_imp (pw_or ha hb) fun σ H Q ⟨O, env, R, P⟩ =>
  tG_mono (post_bnd bkT R P) fun b H1 ⟨env1, w, R1, s1, so1, V, P1⟩ => by
    cases V
    cases b with
    | true => exact P1 true H1 (SameC.refl H1) R1 (SameO.refl _) rfl
    | false => exact ⟨O, env1, R1, P1⟩
theorem pu_if (ht : PT X c (tT z ft)) (ha : PE X a (tP z fa)) (hb : PE X b (tP z fb)) : PE X (.IfExp c a b pos) (tP z (eIf ft fa fb)) := PE_imp (pe_ifExp ht ha hb) fun σ H Q ⟨O, env, R, P⟩ =>
  tG_mono (post_bnd bkE R P) fun b H1 ⟨env1, w, R1, s1, so1, V, P1⟩ => by
    cases V
    cases b with
    | true => exact ⟨O, env1, R1, P1⟩
    | false => exact ⟨O, env1, R1, P1⟩
/-- two comparisons in a chain -/
theorem pu_chain {op op' : CmpOp} {f g : D → D → Option Bool} {r r' : R2} (s : OpS z.K (fun a b => (f a b).map fun k => .d (.bl k)) r) (s' : OpS z.K (fun a b => (g a b).map fun k => .d (.bl k)) r') (σ : L2.St) (H : Hp) (Q : Bool → Hp → Prop) (h : tT z (tCh f g fa fb fc) σ H Q) :
    tTest (tChain r r' (tP z fa) (tP z fb) (tP z fc)) σ H Q := by
  obtain ⟨O, env, R, P⟩ := h
  refine tG_mono (post_bnd bkT R P) fun v H1 ⟨env1, w, R1, s1, so1, V, P1⟩ => ?_
  refine tG_mono (post_bnd bkT R1 P1) fun u H2 ⟨env2, w2, R2, s2, so2, V2, P2⟩ => ?_
  obtain ⟨d1, e1, P3⟩ := post_now P2
  obtain ⟨d2, e2, P4⟩ := post_now P3
  obtain ⟨k, e3, P5⟩ := post_opt P4
  refine s _ σ H2 _ v u d1 d2 (.d (.bl k)) R2.cl ((vmove s2 so2 V.1).now R2 e1) (V2.1.now R2 e2) (by show Option.map _ (f d1 d2) = _; rw [e3]; rfl) fun v' H' e V' N => ?_
  have V' : Dq z.K _ v' (.bl k) := V'
  cases V'
  refine ⟨k, rfl, ?_⟩
  have R2' := R2.mono (kp e)
  have P6 := PostG.move bkT (sameC e) (SameO.refl _) P5
  have V2' := V2.1.mono (kp e)
  cases k with
  | false => exact ⟨false, rfl, P6 false H' (SameC.refl H') R2' (SameO.refl _) rfl⟩
  | true =>
    refine tG_mono (post_bnd bkT R2' P6) fun y H3 ⟨env3, w3, R3, s3, so3, V3, P7⟩ => ?_
    obtain ⟨d3, e4, P8⟩ := post_now P7
    obtain ⟨d4, e5, P9⟩ := post_now P8
    obtain ⟨k', e6, P10⟩ := post_optE P9
    refine s' _ σ H3 _ u y d3 d4 (.d (.bl k')) R3.cl ((vmove s3 so3 V2').now R3 e4) (V3.1.now R3 e5) (by show Option.map _ (g d3 d4) = _; rw [e6]; rfl) fun v' H' e V' N => ?_
    have V' : Dq z.K _ v' (.bl k') := V'
    cases V'
    exact ⟨k', rfl, P10 k' H' (sameC e) (R3.mono (kp e)) (SameO.refl _) rfl⟩
theorem pu_tchain {op op' : CmpOp} {f g : D → D → Option Bool} {r r' : R2} (s : OpS z.K (fun a b => (f a b).map fun k => .d (.bl k)) r) (s' : OpS z.K (fun a b => (g a b).map fun k => .d (.bl k)) r') (ho : OpR X (compareOp op) r) (ho' : OpR X (compareOp op') r') (ha : PE X a (tP z fa)) (hb : PE X b (tP z fb)) (hc : PE X c (tP z fc))
    (hm : lastMarks [op, op'] [b, c] = false := by with_unfolding_all rfl) : PT X (.Compare a [op, op'] [b, c] pos) (tT z (tCh f g fa fb fc)) := PT_imp (pt_chain ho ho' ha hb hc hm) (pu_chain (op := op) (op' := op') s s')
theorem pu_nil : PA X [] (tA z (eArgs [])) := PA_imp pa_nil fun σ H Q ⟨O, env, R, P⟩ => P [] H (SameC.refl H) R (SameO.refl _) .nil
theorem pu_cons {fs : List (M Vw)} (ha : PE X e (tP z fa)) (hr : PA X es (tA z (eArgs fs))) (hs : starEach (e :: es) X.env = (false, eval e X.env) :: starEach es X.env := by rfl) : PA X (e :: es) (tA z (eArgs (fa :: fs))) := PA_imp (pa_cons ha hr hs) fun σ H Q ⟨O, env, R, P⟩ =>
  tG_mono (post_bnd bkA R P) fun v H1 ⟨env1, w, R1, s1, so1, V, P1⟩ =>
  tG_mono (post_bnd bkA R1 P1) fun vs H2 ⟨env2, ws, R2, s2, so2, V2, P2⟩ => P2 (v :: vs) H2 (SameC.refl H2) R2 (SameO.refl _) (.cons (vmove s2 so2 V.1) V2)
theorem stays_rel {S : SS} {K : PySem.W.Frag} : ∀ {vs : List V} {ws : List Vw} {ds : List D}, Paired (VRel K S σ H) vs ws → stays ws = some ds → DqAll K (wo S H) vs ds
  | _, _, _, .nil, e => by cases e; exact .nil
  | _, _, ds, .cons (b := w) (l₂ := ws) h t, e => by
    unfold stays at e
    cases e1 : w.stay with
    | none => rw [e1] at e; cases e
    | some d =>
      cases e2 : stays ws with
      | none => rw [e1, e2] at e; cases e
      | some ds' =>
        rw [e1, e2] at e
        cases e
        exact .cons (h.stay e1) (stays_rel t e2)
theorem lim_lt {n : Nat} (h : n < LIM) : n ≤ sizeLine := line_lim (Nat.le_of_lt h)
theorem post_if {α β : Type} {R1 : VRt α β} {O : SS} {env : Env} {Q : β → Hp → Prop} {c : Prop} [Decidable c] {m : M α} (P : PostG R1 z O σ env H Q ((if c then m else (optM none : M α)) env)) : c ∧ PostG R1 z O σ env H Q (m env) := by
  by_cases h : c
  · rw [if_pos h] at P
    exact ⟨h, P⟩
  · rw [if_neg h] at P
    exact P.elim
theorem pu_tup {fs : List (M Vw)} {x1} (h : PA X es (tA z (eArgs fs))) : PE X (.Tuple es x1 pos) (tP z (eTup fs)) := PE_imp (pe_tup h) fun σ H Q ⟨O, env, R, P⟩ =>
  tG_mono (post_bnd bkE R P) fun vs H1 ⟨env1, ws, R1, s1, so1, V, P1⟩ => by
    obtain ⟨ds, e1, P2⟩ := post_opt P1
    obtain ⟨hl, P3⟩ := post_if P2
    have hd := stays_rel V e1
    exact ⟨by rw [hd.len]; exact lim_lt hl, fun p np => k_tup R1.cl np hd fun v' H' e V' N => post_new R1 P3 e V' N⟩
theorem pu_lst {fs : List (M Vw)} (h : PA X es (tA z (eArgs fs))) : PE X (.List es pos) (tP z (eLst fs)) := PE_imp (pe_lst h) fun σ H Q ⟨O, env, R, P⟩ =>
  tG_mono (post_bnd bkE R P) fun vs H1 ⟨env1, ws, R1, s1, so1, V, P1⟩ => by
    obtain ⟨ds, e1, P2⟩ := post_opt P1
    obtain ⟨hl, P3⟩ := post_if P2
    have hd := stays_rel V e1
    exact ⟨by rw [hd.len]; exact lim_lt hl, fun p np => k_lst R1.cl np hd fun v' H' e V' N => post_new R1 P3 e V' N⟩
theorem pu_pn : PO X none (tO z (ret none)) := ⟨fun pins s σ H Q I h => po_none.run pins s σ H Q I (by
  obtain ⟨O, env, R, P⟩ := h
  exact P none H (SameC.refl H) R (SameO.refl _) rfl)⟩
theorem pu_ps (ha : PE X e (tP z fa)) : PO X (some e) (tO z (intM fa)) := ⟨fun pins s σ H Q I h => (po_some ha).run pins s σ H Q I (by
  obtain ⟨O, env, R, P⟩ := h
  refine tG_mono (post_bnd bkO R P) fun v H1 ⟨env1, w, R1, s1, so1, V, P1⟩ => ?_
  obtain ⟨d, e1, P2⟩ := post_now P1
  cases d with
  | int i =>
    cases dv_int (V.1.now R1 e1)
    exact ⟨i, rfl, P2 (some i) H1 (SameC.refl H1) R1 (SameO.refl _) rfl⟩
  | _ => exact P2.elim)⟩
theorem pu_slice {lo hi : Option Expr} {fl fh : M (Option Int)} (hK : X.K = z.K) (ha : PE X e (tP z fa)) (hl : PO X lo (tO z fl)) (hu : PO X hi (tO z fh)) : PE X (.Subscript e (.Slice lo hi none p2) pos) (tP z (eSl fa fl fh)) := PE_imp (pe_slice (SlR.or sl_list (SlR.or sl_tupA sl_str)) ha hl hu) fun σ H Q ⟨O, env, R, P⟩ =>
  tG_mono (post_bnd bkE R P) fun v H1 ⟨env1, w, R1, s1, so1, V, P1⟩ =>
  tG_mono (post_bnd bkE R1 P1) fun l H2 ⟨env2, l', R2, s2, so2, V2, P2⟩ =>
  tG_mono (post_bnd bkE R2 P2) fun u H3 ⟨env3, u', R3, s3, so3, V3, P3⟩ => by
    cases V2
    cases V3
    obtain ⟨d, e1, P4⟩ := post_now P3
    obtain ⟨r, e2, P5⟩ := post_optE P4
    have hd := (vmove s3 so3 (vmove s2 so2 V.1)).now R3 e1
    rw [hK]
    unfold slD at e2
    split at e2
    · obtain ⟨q, xs, rfl, h1, h2⟩ := dv_lst hd
      cases e2
      exact .inl ⟨q, xs, rfl, .inl (.inl h1), fun r nr => k_lst R3.cl nr (cut_V h2) fun v' H' e V' N => post_new R3 P5 e V' N⟩
    · obtain ⟨q, xs, rfl, h1, h2⟩ := dv_lsf hd
      cases e2
      exact .inl ⟨q, xs, rfl, h1, fun r nr => k_lst R3.cl nr (cut_V h2) fun v' H' e V' N => post_new R3 P5 e V' N⟩
    · rename_i ds
      have hdd := dv_tupD hd
      obtain ⟨q, xs, rfl, h1, h2⟩ := dv_tup hd
      cases e2
      refine .inr (.inl ⟨q, xs, rfl, h1, fun hw => ?_, fun _ r nr => k_tup R3.cl nr (cut_V h2) fun v' H' e V' N => post_new R3 P5 e V' N⟩)
      have ew : cut ds l u = ds := by
        have h0 : sIx ds.length 0 l = 0 := by rw [← h2.len]; exact hw.1
        have hL : sIx ds.length ds.length u = ds.length := by rw [← h2.len]; exact hw.2
        unfold cut
        rw [h0, hL]
        simp
      rw [ew] at P5
      exact k_d hdd fun v' H' e V' N => post_new R3 P5 e V' N
    · cases dv_str hd
      split at e2
      · rename_i x hl
        cases e2
        exact .inr (.inr ⟨_, rfl, line_lim hl, k_str fun v' H' e V' N => post_new R3 P5 e V' N⟩)
      · cases e2
    · cases e2
theorem pu_B1 {id : String} {f : D → Option Vw} {r : List V → Hp → VK → Prop} (s : UnS z.K f fun x H Q => r [x] H Q) (hc : CallR X (.builtin id) r) (hg : Gl X x) (hm : X.mg x = none) (hv : bootBuiltins x = some (.builtin id)) (ha : PE X e (tP z fa)) (hn : x ≠ "__name__" := by decide) (hdb : (x == ("__debug__" : Str)) = false := by decide)
    (hs : starEach [e] X.env = (false, eval e X.env) :: starEach [] X.env := by rfl) (hpl : (backTo pos (starEach [] X.env)).any (·.1) = false := by rfl) : PE X (.Call (.Name x p) [e] [] pos) (tP z (eU f fa)) :=
  PE_imp (pe_callB hc hg hm hv (pa_cons ha pa_nil hs) hn hdb hs hpl) (pu_un s)
theorem pu_Y1 {id : String} {f : D → Option Vw} {r : List V → Hp → VK → Prop} (s : UnS z.K f fun x H Q => r [x] H Q) (hc : CallR X (.type id) r) (hg : Gl X x) (hm : X.mg x = none) (hv : bootBuiltins x = some (.type id)) (ha : PE X e (tP z fa)) (hn : x ≠ "__name__" := by decide) (hdb : (x == ("__debug__" : Str)) = false := by decide)
    (hs : starEach [e] X.env = (false, eval e X.env) :: starEach [] X.env := by rfl) (hpl : (backTo pos (starEach [] X.env)).any (·.1) = false := by rfl) : PE X (.Call (.Name x p) [e] [] pos) (tP z (eU f fa)) :=
  PE_imp (pe_callTy hc hg hm hv (pa_cons ha pa_nil hs) hn hdb hs hpl) (pu_un s)
end
section
variable {K : PySem.W.Frag} {S : SS} {σ : L2.St} {H : Hp} {Q : VK} {x y : V} {X : Cx}
def rLenA (K : PySem.W.Frag) : List V → Hp → VK → Prop := fun xs H Q => rLenS K xs H Q ∨ (∃ s, xs = [.str s] ∧ s.length ≤ sizeLine ∧ Q (.int s.length) H)
theorem cl_lenA : CallR X (.builtin "len") (rLenA X.K) := CallR.or cl_len call_len_str
theorem us_len : UnS K lenD fun x H Q => rLenA K [x] H Q := by
  intro S σ H Q x a w cl ha e k
  unfold lenD at e
  split at e
  · obtain ⟨p, xs, rfl, h1, h2⟩ := dv_lst ha
    exact .inl ⟨p, xs, rfl, .inl (.inl (.inl h1)), by rw [h2.len]; exact k_int e k⟩
  · obtain ⟨p, xs, rfl, h1, h2⟩ := dv_lsf ha
    exact .inl ⟨p, xs, rfl, .inl h1, by rw [h2.len]; exact k_int e k⟩
  · obtain ⟨p, xs, rfl, h1, h2⟩ := dv_tup ha
    exact .inl ⟨p, xs, rfl, .inr h1, by rw [h2.len]; exact k_int e k⟩
  · cases dv_str ha
    split at e
    · rename_i hl
      exact .inr ⟨_, rfl, line_lim hl, k_int e k⟩
    · cases e
  · cases e
theorem us_abs : UnS K absD fun x H Q => rAbs1 [x] H Q := by
  intro S σ H Q x a w cl ha e k
  unfold absD at e
  split at e
  · cases dv_int ha
    exact ⟨_, rfl, k_int e k⟩
  · cases e
theorem us_int : UnS K intD fun x H Q => rInt1 [x] H Q := by
  intro S σ H Q x a w cl ha e k
  unfold intD at e
  split at e
  · cases dv_int ha
    exact .inl ⟨_, rfl, k_int e k⟩
  · cases dv_bl ha
    exact .inr ⟨_, rfl, k_int e k⟩
  · cases e
theorem us_list : UnS K listD fun x H Q => rListOf K [x] H Q := by
  intro S σ H Q x a w cl ha e k
  unfold listD at e
  split at e
  · obtain ⟨p, xs, rfl, h1, h2⟩ := dv_lst ha
    cases e
    exact ⟨p, xs, rfl, .inl (.inl (.inl h1)), fun l nl => k_lst cl nl h2 k⟩
  · obtain ⟨p, xs, rfl, h1, h2⟩ := dv_lsf ha
    cases e
    exact ⟨p, xs, rfl, .inl h1, fun l nl => k_lst cl nl h2 k⟩
  · obtain ⟨p, xs, rfl, h1, h2⟩ := dv_tup ha
    cases e
    exact ⟨p, xs, rfl, .inr h1, fun l nl => k_lst cl nl h2 k⟩
  · cases e
theorem os_gcd : OpS K gcdD fun x y H Q => ∃ i j, [x, y] = [V.int i, V.int j] ∧ Q (.int (Nat.gcd i.natAbs j.natAbs : Nat)) H := by
  intro S σ H Q x y a b w cl ha hb e k
  unfold gcdD at e
  split at e
  · cases dv_int ha
    cases dv_int hb
    exact ⟨_, _, rfl, k_int e k⟩
  · cases e
theorem ints_V : ∀ {xs : List V} {ds : List D} {bs : List Int}, DqAll K H xs ds → intsOf ds = some bs → xs = bs.map V.int
  | _, [], _, h, e => by cases h; cases e; rfl
  | _, .int b :: ds, _, .cons h t, e => by
    obtain ⟨bs', e1, rfl⟩ := Option.map_eq_some_iff.mp (show (intsOf ds).map (b :: ·) = some _ from e)
    cases h
    rw [ints_V t e1]
    rfl
  | _, .non :: _, _, _, e => by cases e
  | _, .bl _ :: _, _, _, e => by cases e
  | _, .str _ :: _, _, _, e => by cases e
  | _, .lst _ :: _, _, _, e => by cases e
  | _, .lsf _ :: _, _, _, e => by cases e
  | _, .tup _ :: _, _, _, e => by cases e
  | _, .obj _ _ :: _, _, _, e => by cases e
theorem us_sum : UnS K sumD fun x H Q => rSum K [x] H Q := by
  intro S σ H Q x a w cl ha e k
  unfold sumD at e
  split at e
  · obtain ⟨p, xs, rfl, h1, h2⟩ := dv_lst ha
    obtain ⟨bs, e1, e2⟩ := Option.bind_eq_some_iff.mp e
    exact ⟨p, bs, rfl, .inl (.inl (by rw [← ints_V h2 e1]; exact h1)), k_int e2 k⟩
  · cases e
theorem dq_ty {v : V} {d : D} {t : String} (h : Dq K H v d) (e : UbP.tyD d = some t) : TyX K H v (.type t) := by
  cases h with
  | non => cases e; exact .base .non
  | bl b => cases e; exact .base (.bl b)
  | int i => cases e; exact .base (.int i)
  | str x => cases e; exact .base (.str x)
  | lst hs _ => cases e; exact .base (.lst hs)
  | tup hs _ =>
    cases e
    rcases hs with (hs | ⟨o, hs⟩) | ⟨o, its, n, hl, hc, _⟩
    · exact .base (.tup hs)
    · exact .fTuple hs
    · exact .kTuple hl hc
  | lsf _ _ => cases e
  | obj _ _ => cases e
/-- isinstance(x, T) -/
theorem us_isi {t : String} (h : ∀ s ∈ ["NoneType", "bool", "int", "str", "list", "tuple"], kitB s t = some (isT t s)) : UnS K (isiD t) fun x H Q => rIsi K [x, .ty t] H Q := by
  intro S σ H Q x a w cl ha e k
  unfold isiD at e
  obtain ⟨s, e1, e2⟩ := Option.bind_eq_some_iff.mp e
  refine ⟨x, .ty t, .type s, .type t, isT t s, rfl, .ty t, dq_ty ha.dq e1, kit_ty (h s ?_), k_bl e2 k⟩
  cases a <;> cases e1 <;> simp
theorem isi_int : ∀ s ∈ ["NoneType", "bool", "int", "str", "list", "tuple"], kitB s "int" = some (isT "int" s) := by decide +kernel
theorem isi_bool : ∀ s ∈ ["NoneType", "bool", "int", "str", "list", "tuple"], kitB s "bool" = some (isT "bool" s) := by decide +kernel
theorem isi_str : ∀ s ∈ ["NoneType", "bool", "int", "str", "list", "tuple"], kitB s "str" = some (isT "str" s) := by decide +kernel
theorem isi_list : ∀ s ∈ ["NoneType", "bool", "int", "str", "list", "tuple"], kitB s "list" = some (isT "list" s) := by decide +kernel
theorem isi_tuple : ∀ s ∈ ["NoneType", "bool", "int", "str", "list", "tuple"], kitB s "tuple" = some (isT "tuple" s) := by decide +kernel
end
section
variable {X : Cx} {z : Z} {e a b c : Expr} {es rest : List Expr} {fa fb fc : M Vw} {pos p p2 : Pos} {x : Str}
theorem pu_isi {t : Str} {ts : String} (hK : X.K = z.K) (hsp : ∀ s ∈ ["NoneType", "bool", "int", "str", "list", "tuple"], kitB s ts = some (isT ts s)) (hg : Gl X "isinstance") (hm : X.mg "isinstance" = none) (hg2 : Gl X t) (hm2 : X.mg t = none) (hv2 : bootBuiltins t = some (.type ts)) (ha : PE X e (tP z fa))
    (hn : t ≠ "__name__" := by decide) (hdb : (t == ("__debug__" : Str)) = false := by decide)
    (hs : starEach [e, .Name t p2] X.env = (false, eval e X.env) :: starEach [.Name t p2] X.env := by rfl) (hs2 : starEach [.Name t p2] X.env = (false, eval (.Name t p2) X.env) :: starEach [] X.env := by rfl) (hpl : (backTo pos (starEach [.Name t p2] X.env)).any (·.1) = false := by rfl) :
    PE X (.Call (.Name "isinstance" p) [e, .Name t p2] [] pos) (tP z (eU (isiD ts) fa)) :=
  PE_imp (pe_callB call_isi hg hm bb_isinstance (pa_cons ha (pa_cons (pe_bltn (v := .ty ts) hg2 hm2 hv2 rfl hn hdb) pa_nil hs2) hs) (by decide) (by decide) hs hpl) (by rw [hK]; exact pu_un (us_isi hsp))
theorem pu_rev (hK : X.K = z.K) (hc : X.calm = true) (hg : Gl X "list") (hm : X.mg "list" = none) (hg2 : Gl X "reversed") (hm2 : X.mg "reversed" = none) (ha : PE X e (tP z fa))
    (hs : starEach [e] X.env = (false, eval e X.env) :: starEach [] X.env := by rfl)
    (hs2 : starEach [.Call (.Name "reversed" p2) [e] [] pos] X.env = (false, eval (.Call (.Name "reversed" p2) [e] [] pos) X.env) :: starEach [] X.env := by rfl) {pos2 : Pos} :
    PE X (.Call (.Name "list" p) [.Call (.Name "reversed" p2) [e] [] pos] [] pos2) (tP z (eU revD fa)) := PE_imp (UbG.pe_listRev hc hg hm bb_list hg2 hm2 ha hs hs2) (by
  rw [hK]
  refine pu_un (r := fun v H1 Q => ∃ (a : Addr) (xs : List V), v = .ref a ∧ SqL z.K H1 a xs ∧ ∀ q, H1 q = none → Q (.ref q) (upd H1 q (.lst xs.reverse))) ?_
  intro S σ H Q x a w cl ha e k
  unfold revD at e
  split at e
  · obtain ⟨p, xs, rfl, h1, h2⟩ := dv_lst ha
    cases e
    exact ⟨p, xs, rfl, .inl (.inl h1), fun l nl => k_lst cl nl h2.rev k⟩
  · obtain ⟨p, xs, rfl, h1, h2⟩ := dv_lsf ha
    cases e
    exact ⟨p, xs, rfl, h1, fun l nl => k_lst cl nl h2.rev k⟩
  · cases e)
end
end UbP
namespace UbP
open PySem PySem.Spec PyProof.Rows L2 UbM Ub
section
variable {e : Env} {i j : Nat} {c c0 : Ct} {d : D}
theorem getO_cases (h : getO i e = some c) : e[i]? = some (.own c) ∨ e[i]? = some (.par c) := by
  unfold getO at h
  split at h
  · cases h; rename_i h; exact .inl h
  · cases h; rename_i h; exact .inr h
  · cases h
theorem get_lt {s : Sl} (h : e[i]? = some s) : i < e.length := (List.getElem?_eq_some_iff.mp h).1
theorem getO_setO (h : getO i e = some c0) : getO i (setO i c e) = some c := by
  rcases getO_cases h with g | g
  · unfold setO
    rw [g]
    unfold getO
    rw [List.getElem?_set_self (get_lt g)]
  · unfold setO
    rw [g]
    unfold getO
    rw [List.getElem?_set_self (get_lt g)]
theorem setO_ne (h : j ≠ i) : (setO i c e)[j]? = e[j]? := by
  unfold setO
  split
  · exact List.getElem?_set_ne (Ne.symm h)
  · exact List.getElem?_set_ne (Ne.symm h)
  · rfl
theorem getO_ne (h : j ≠ i) : getO j (setO i c e) = getO j e := by
  unfold getO
  rw [setO_ne h]
theorem setO_len : (setO i c e).length = e.length := by
  unfold setO
  split <;> simp
theorem setO_same : SameO e (setO i c e) := by
  refine ⟨setO_len.symm, fun j => ?_⟩
  by_cases h : j = i
  · subst h
    unfold setO
    split
    · rename_i c1 g
      rw [List.getElem?_set_self (get_lt g), g]
      rfl
    · rename_i c1 g
      rw [List.getElem?_set_self (get_lt g), g]
      rfl
    · rfl
  · rw [setO_ne h]
/-- what is no owned thing stays -/
theorem setO_keep {s : Sl} (hs : knd s = 0) : (setO i c e)[j]? = some s ↔ e[j]? = some s := by
  by_cases h : j = i
  · subst h
    unfold setO
    split
    · rename_i c1 g
      rw [List.getElem?_set_self (get_lt g), g]
      constructor
      · intro z; cases z; cases hs
      · intro z; cases z; cases hs
    · rename_i c1 g
      rw [List.getElem?_set_self (get_lt g), g]
      constructor
      · intro z; cases z; cases hs
      · intro z; cases z; cases hs
    · rfl
  · rw [setO_ne h]
end
section
variable {K : PySem.W.Frag} {S : SS} {H : Hp} {z : Z} {O : SS} {σ : L2.St} {env env' : Env} {a b : Addr} {c c' : Ct} {o : HO} {i : Nat} {Q : VK}
theorem RelC.other (ha : S a) (n : b ≠ a) (h : RelC K S H b c) : RelC K S (upd H a o) b c := by
  cases c with
  | l ds =>
    obtain ⟨xs, h1, h2⟩ := h
    exact ⟨xs, by rw [upd_ne n]; exact h1, by rw [wo_upd ha]; exact h2⟩
  | o c fs =>
    obtain ⟨dx, vs, h1, h2⟩ := h
    exact ⟨dx, vs, by rw [upd_ne n]; exact h1, by rw [wo_upd ha]; exact h2⟩
theorem own_at (R : RelT z O H σ env) (g : getO i env = some c) (e : σ[i]? = some (some (V.ref a))) : RelC z.K (cells σ env O) H a c := by
  obtain ⟨a', h1, h2⟩ := R.own i c g
  rw [e] at h1
  cases h1
  exact h2
/-- an owned thing is changed -/
theorem RelT.put (R : RelT z O H σ env) (g : getO i env = some c) (e : σ[i]? = some (some (V.ref a))) (ho : isC o) (hc : RelC z.K (cells σ env O) (upd H a o) a c') :
    RelT z O (upd H a o) σ (setO i c' env) ∧ SameC (ownS σ env) H (upd H a o) ∧ SameO env (setO i c' env) := by
  have so : SameO env (setO i c' env) := setO_same
  have hS : cells σ env O a := .inl ⟨i, c, g, e⟩
  have ce := so.cells σ O
  have sC : SameC (ownS σ env) H (upd H a o) := sameC_upd ⟨i, c, g, e⟩ ho (own_at R g e).isC
  refine ⟨⟨R.len.trans so.1, fun j d h => ?_, fun j cj h => ?_, fun j k cj ck b hj hk => ?_, fun j cj b hj => ?_, fun j x h => ?_, ?_, fun P hP => sC.tab P (R.tb P hP)⟩, sC, so⟩
  · rw [← ce, wo_upd hS]
    exact R.dat j d ((setO_keep rfl).mp h)
  · rw [← ce]
    by_cases hj : j = i
    · subst hj
      rw [getO_setO g] at h
      cases h
      exact ⟨a, e, hc⟩
    · rw [getO_ne hj] at h
      obtain ⟨b, h1, h2⟩ := R.own j cj h
      exact ⟨b, h1, h2.other hS fun z => hj (R.inj j i cj c a h g (by rw [← z]; exact h1) e)⟩
  · obtain ⟨c1, g1⟩ := so.symm.getO hj
    obtain ⟨c2, g2⟩ := so.symm.getO hk
    exact R.inj j k c1 c2 b g1 g2
  · obtain ⟨c1, g1⟩ := so.symm.getO hj
    exact R.out j c1 b g1
  · rw [← ce, wo_upd hS]
    exact R.ex j x ((setO_keep rfl).mp h)
  · rw [← ce]
    exact (sC.sub fun s hs => .inl hs).clS R.cl
theorem RelT.putL {xs xs' : List V} {ds ds' : List D} (R : RelT z O H σ env) (g : getO i env = some (.l ds)) (e : σ[i]? = some (some (V.ref a))) (h : DqAll z.K (wo (cells σ env O) H) xs' ds') :
    RelT z O (upd H a (.lst xs')) σ (setO i (.l ds') env) ∧ SameC (ownS σ env) H (upd H a (.lst xs')) ∧ SameO env (setO i (.l ds') env) :=
  R.put g e True.intro ⟨xs', upd_same, by rw [wo_upd (.inl ⟨i, _, g, e⟩)]; exact h⟩
theorem post_ownL {α β : Type} {R1 : VRt α β} {k : List D → M α} {Q : β → Hp → Prop} (P : PostG R1 z O σ env H Q (bnd (ownL i) k env)) : ∃ ds, getO i env = some (.l ds) ∧ PostG R1 z O σ env H Q (k ds env) := by
  unfold bnd ownL at P
  cases h : getO i env with
  | none => rw [h] at P; exact P.elim
  | some c =>
    rw [h] at P
    cases c with
    | l ds => exact ⟨ds, rfl, P⟩
    | o _ _ => exact P.elim
/-- behind a change -/
theorem post_change {w : Vw} {v : V} {H' : Hp} {env' : Env} (P : PostG vE z O σ env H Q ((ret w : M Vw) env')) (R' : RelT z O H' σ env') (s : SameC (ownS σ env) H H') (so : SameO env env') (V : VRel z.K (cells σ env' O) σ H' v w) (N : NewV H v w ∧ AwayV z O σ env' H' v w) : Q v H' := P v H' s R' so ⟨V, N⟩
end
section
variable {X : Cx} {z : Z} {e a : Expr} {es : List Expr} {fa fb : M Vw} {pos p apos : Pos} {σ : L2.St} {H : Hp} {Q : VK}
theorem post_recv {α β : Type} {Rv : VRt α β} {O : SS} {env : Env} {k : Nat → M α} {Q : β → Hp → Prop} (b : Back Rv) (R : RelT z O H σ env) (P : PostG Rv z O σ env H Q (bnd (recv fa) k env)) :
    tP z fa σ H fun v H1 => ∃ env1 i ds a, RelT z O H1 σ env1 ∧ SameC (ownS σ env) H H1 ∧ SameO env env1 ∧ getO i env1 = some (.l ds) ∧ v = .ref a ∧ σ[i]? = some (some (V.ref a)) ∧ PostG Rv z O σ env1 H1 Q (k i env1) := by
  have P' : PostG Rv z O σ env H Q (bnd fa (fun w => bnd (bnd (optM (viewI w)) fun i => bnd (ownL i) fun _ => ret i) k) env) := by
    have e : bnd fa (fun w => bnd (bnd (optM (viewI w)) fun i => bnd (ownL i) fun _ => ret i) k) env = bnd (recv fa) k env := by
      unfold recv
      unfold bnd
      cases fa env <;> rfl
    rw [e]
    exact P
  refine tG_mono (post_bnd b R P') fun v H1 ⟨env1, w, R1, s1, so1, V, P1⟩ => ?_
  have P2 : PostG Rv z O σ env1 H1 Q (bnd (optM (viewI w)) (fun i => bnd (ownL i) fun _ => k i) env1) := by
    have e : bnd (optM (viewI w)) (fun i => bnd (ownL i) fun _ => k i) env1 = bnd (bnd (optM (viewI w)) fun i => bnd (ownL i) fun _ => ret i) k env1 := by
      unfold bnd optM
      cases viewI w with
      | none => rfl
      | some i =>
        dsimp only
        unfold ownL
        split <;> rfl
    rw [e]
    exact P1
  obtain ⟨i, e1, P3⟩ := post_opt P2
  obtain ⟨ds, g, P4⟩ := post_ownL P3
  cases w with
  | o k =>
    cases e1
    obtain ⟨b, h1, h2⟩ := R1.own _ _ g
    have V1 : σ[i]? = some (some v) := V.1
    rw [h1] at V1
    cases V1
    exact ⟨env1, i, ds, b, R1, s1, so1, g, rfl, h1, P4⟩
  | d x => cases e1
  | f c => cases e1
theorem ty_list {K : PySem.W.Frag} {xs : List V} {a : Addr} (h : H a = some (.lst xs)) : tyV K "list" (.ref a) H := .inl ⟨rfl, _, .inl (.inl h)⟩
theorem get_list {O : SS} {env : Env} {i : Nat} {ds : List D} {a : Addr} (R : RelT z O H σ env) (g : getO i env = some (.l ds)) (e : σ[i]? = some (some (V.ref a))) : ∃ xs, H a = some (.lst xs) ∧ DqAll z.K (wo (cells σ env O) H) xs ds := own_at R g e
theorem pu_app (ho : PE X a (tP z fa)) (ha : PE X e (tP z fb))
    (hbase : attributeBase a "append" X.env (eval a X.env) = eval a X.env := by rfl)
    (hfew : ((backTo p (starEach [e] X.env)).all (fun x => !x.1) && (backToKw p (keywordEach [] X.env)).all (fun x => x.1.isSome)
      && decide ([e].length + ([] : List Keyword).length + (if ([] : List Keyword).isEmpty then 0 else 1) < 30)) = true := by rfl)
    (hline : (apos.endLine == p.line) = true := by rfl) (hs : starEach [e] X.env = (false, eval e X.env) :: starEach [] X.env := by rfl) (hplain : (backTo p (starEach [] X.env)).any (·.1) = false := by rfl) :
    PE X (.Call (.Attribute a "append" apos) [e] [] p) (tP z (eApp fa fb)) := PE_imp (pe_bm PySem.F.plainAttrs_list PySem.F.slot_list_append PySem.F.type_list_append mt_append ho (pa_cons ha pa_nil hs) hbase hfew hline hs hplain) fun σ H Q ⟨O, env, R, P⟩ =>
  tG_mono (post_recv bkE R P) fun v H1 ⟨env1, i, ds0, b, R1, s1, so1, g, ev, hσ, P1⟩ => by
    subst ev
    obtain ⟨xs0, h0, _⟩ := get_list R1 g hσ
    refine ⟨ty_list h0, ?_⟩
    refine tG_mono (post_bnd bkE R1 P1) fun u H2 ⟨env2, w2, R2, s2, so2, V2, P2⟩ => ?_
    obtain ⟨d, e1, P3⟩ := post_stay P2
    obtain ⟨ds, g2, P4⟩ := post_ownL P3
    obtain ⟨hl, P5⟩ := post_if P4
    obtain ⟨xs, h1, h2⟩ := get_list R2 g2 hσ
    have hd := V2.1.stay e1
    obtain ⟨R3, s3, so3⟩ := R2.putL (xs := xs) g2 hσ (h2.snoc hd)
    exact ⟨b, xs, u, rfl, rfl, h1, by rw [h2.len]; exact Nat.lt_of_lt_of_le hl (by rw [sizeLine_eq]; decide), post_change P5 R3 s3 so3 (.non) ⟨True.intro, True.intro⟩⟩
theorem pu_pop (ho : PE X a (tP z fa)) (hbase : attributeBase a "pop" X.env (eval a X.env) = eval a X.env := by rfl) (hline : (apos.endLine == p.line) = true := by rfl) :
    PE X (.Call (.Attribute a "pop" apos) [] [] p) (tP z (ePop fa)) := PE_imp (pe_bm0 PySem.F.plainAttrs_list PySem.F.slot_list_pop PySem.F.type_list_pop mt_pop ho hbase hline) fun σ H Q ⟨O, env, R, P⟩ =>
  tG_mono (post_recv bkE R P) fun v H1 ⟨env1, i, ds0, b, R1, s1, so1, g, ev, hσ, P1⟩ => by
    subst ev
    obtain ⟨xs0, h0, _⟩ := get_list R1 g hσ
    refine ⟨ty_list h0, ?_⟩
    obtain ⟨ds, g2, P2⟩ := post_ownL P1
    obtain ⟨d, e1, P3⟩ := post_opt P2
    obtain ⟨xs, h1, h2⟩ := get_list R1 g2 hσ
    have el : ds[ds.length - 1]? = some d := by rw [← List.getLast?_eq_getElem?]; exact e1
    obtain ⟨u, hu, hd⟩ := h2.get el
    have hdl : DqAll z.K (wo (cells σ env1 O) H1) xs.dropLast ds.dropLast := by
      rw [List.dropLast_eq_take, List.dropLast_eq_take, h2.len]
      exact h2.take _
    obtain ⟨R3, s3, so3⟩ := R1.putL (xs := xs) g2 hσ hdl
    refine ⟨b, xs, u, rfl, rfl, h1, by rw [h2.len]; exact hu, post_change P3 R3 s3 so3 ?_ ⟨True.intro, True.intro⟩⟩
    show Dq z.K _ u d
    rw [← so3.cells σ O, wo_upd (.inl ⟨i, _, g2, hσ⟩)]
    exact hd
end
end UbP
namespace UbP
open PySem PySem.Spec PyProof.Rows L2 UbM Ub
def noW : WX := fun _ _ _ _ => False
abbrev zF (K : PySem.W.Frag) (Tb : List Addr) : Z := ⟨K, Tb, none, noW⟩
inductive PR (K : PySem.W.Frag) (S : SS) (H : Hp) : List V → List Sl → List Ct → Prop
  | nil : PR K S H [] [] []
  | par {a : Addr} {c c0 : Ct} {vs : List V} {args : List Sl} {cs : List Ct} : RelC K S H a c → PR K S H vs args cs → PR K S H (.ref a :: vs) (.par c0 :: args) (c :: cs)
  | oth {v : V} {d : D} {vs : List V} {args : List Sl} {cs : List Ct} : PR K S H vs args cs → PR K S H (v :: vs) (.dat d :: args) cs
def ArgS (s : Sl) : Prop := (∃ d, s = .dat d) ∨ ∃ c, s = .par c
/-- .. and apart from a new thing -/
def apart (v : V) : Vw → SS → SS
  | .f _, S => fun s => S s ∨ V.ref s = v
  | _, S => S
def PostF (K : PySem.W.Frag) (O : SS) (vs : List V) (args : List Sl) (H : Hp) (Q : VK) (E : XK) : FRes → Prop
  | .ret w cs => ∀ v H', SameC (ownS (vs.map some) args) H H' → PR K (apart v w (cells (vs.map some) args O)) H' vs args cs → VRel K (cells (vs.map some) args O) (vs.map some) H' v w → NewV H v w → Q v H'
  | .exc x cs => ∀ cls d H', SameC (ownS (vs.map some) args) H H' → PR K (cells (vs.map some) args O) H' vs args cs → ExR K (wo (cells (vs.map some) args O) H') x cls d → E cls d H'
  | .bad => False
/-- a def runs as f says -/
def spF (K : PySem.W.Frag) (Tb : List Addr) (f : Fn) (n : Nat) : Sp := fun vs H Q E => vs.length = n ∧ ∃ O args, RelT (zF K Tb) O H (vs.map some) args ∧ (∀ s ∈ args, ArgS s) ∧ PostF K O vs args H Q E (f args)
section
variable {z : Z} {O : SS} {σ : L2.St} {env : Env} {H : Hp}
inductive AR (z : Z) (O : SS) (σ : L2.St) (env : Env) (H : Hp) : List V → List Vw → List Bool → List Sl → List Nat → List Nat → Prop
  | nil : AR z O σ env H [] [] [] [] [] []
  | own {i : Nat} {c : Ct} {a : Addr} {vs : List V} {ws : List Vw} {ms : List Bool} {args : List Sl} {ow lk : List Nat} : getO i env = some c → σ[i]? = some (some (V.ref a)) → AR z O σ env H vs ws ms args ow lk → AR z O σ env H (.ref a :: vs) (.o i :: ws) (true :: ms) (.par c :: args) (i :: ow) lk
  | look {i : Nat} {c : Ct} {a : Addr} {vs : List V} {ws : List Vw} {ms : List Bool} {args : List Sl} {ow lk : List Nat} : getO i env = some c → σ[i]? = some (some (V.ref a)) → AR z O σ env H vs ws ms args ow lk → AR z O σ env H (.ref a :: vs) (.o i :: ws) (false :: ms) (.dat c.toD :: args) ow (i :: lk)
  | data {v : V} {w : Vw} {d : D} {vs : List V} {ws : List Vw} {ms : List Bool} {args : List Sl} {ow lk : List Nat} : (∀ i, w ≠ .o i) → Dq z.K (wo (cells σ env O) H) v d → AR z O σ env H vs ws ms args ow lk → AR z O σ env H (v :: vs) (w :: ws) (false :: ms) (.dat d :: args) ow lk
theorem mkArgs_AR (R : RelT z O H σ env) : ∀ {vs : List V} {ws : List Vw} {ms : List Bool} {args : List Sl}, Paired (VRel z.K (cells σ env O) σ H) vs ws → mkArgs ms ws env = some args → AR z O σ env H vs ws ms args (ownIx ms ws) (lookIx ms ws)
  | _, _, [], _, .nil, e => by cases e; exact .nil
  | _, _, [], _, .cons _ _, e => by cases e
  | _, _, _ :: _, _, .nil, e => by cases e
  | v :: vs, w :: ws, m :: ms, args, .cons h t, e => by
    unfold mkArgs at e
    cases e1 : mkArgs ms ws env with
    | none => rw [e1] at e; cases e
    | some r =>
      rw [e1] at e
      have ih := mkArgs_AR R t e1
      cases m with
      | true =>
        cases w with
        | o i =>
          obtain ⟨c, hc, rfl⟩ := Option.map_eq_some_iff.mp e
          obtain ⟨a, h1, h2⟩ := R.own i c hc
          have h : σ[i]? = some (some v) := h
          rw [h1] at h
          cases h
          exact .own hc h1 ih
        | d x => cases e
        | f c => cases e
      | false =>
        obtain ⟨d, hd, rfl⟩ := Option.map_eq_some_iff.mp e
        cases w with
        | o i =>
          obtain ⟨c, hc, rfl⟩ := Option.map_eq_some_iff.mp hd
          obtain ⟨a, h1, h2⟩ := R.own i c hc
          have h : σ[i]? = some (some v) := h
          rw [h1] at h
          cases h
          exact .look hc h1 ih
        | d x => cases hd; exact .data (fun i z => by cases z) h ih
        | f c => cases hd; exact .data (fun i z => by cases z) (VRel.stay h rfl) ih
section
variable {vs : List V} {ws : List Vw} {ms : List Bool} {args : List Sl} {ow lk : List Nat}
theorem AR.len : ∀ {vs : List V} {ws : List Vw} {ms : List Bool} {args : List Sl} {ow lk : List Nat}, AR z O σ env H vs ws ms args ow lk → args.length = vs.length
  | _, _, _, _, _, _, .nil => rfl
  | _, _, _, _, _, _, .own _ _ t => congrArg Nat.succ (AR.len t)
  | _, _, _, _, _, _, .look _ _ t => congrArg Nat.succ (AR.len t)
  | _, _, _, _, _, _, .data _ _ t => congrArg Nat.succ (AR.len t)
theorem AR.argS : ∀ {vs : List V} {ws : List Vw} {ms : List Bool} {args : List Sl} {ow lk : List Nat}, AR z O σ env H vs ws ms args ow lk → ∀ s ∈ args, ArgS s
  | _, _, _, _, _, _, .nil, s, h => absurd h (List.not_mem_nil)
  | _, _, _, _, _, _, .own _ _ t, s, h => (List.mem_cons.mp h).elim (fun e => .inr ⟨_, e⟩) (AR.argS t s)
  | _, _, _, _, _, _, .look _ _ t, s, h => (List.mem_cons.mp h).elim (fun e => .inl ⟨_, e⟩) (AR.argS t s)
  | _, _, _, _, _, _, .data _ _ t, s, h => (List.mem_cons.mp h).elim (fun e => .inl ⟨_, e⟩) (AR.argS t s)
theorem AR.par_at : ∀ {vs : List V} {ws : List Vw} {ms : List Bool} {args : List Sl} {ow lk : List Nat}, AR z O σ env H vs ws ms args ow lk → ∀ {j : Nat} {c : Ct}, args[j]? = some (.par c) → ∃ i a, ow[(ow.length - ow.length)]? = ow[0]? ∧ i ∈ ow ∧ getO i env = some c ∧ vs[j]? = some (.ref a) ∧ σ[i]? = some (some (V.ref a))
  | _, _, _, _, _, _, .nil, j, c, h => by simp at h
  | _, _, _, _, _, _, .own (i := i) (a := a) g e t, 0, c, h => by
    simp at h
    subst h
    exact ⟨i, a, by simp, List.mem_cons_self .., g, rfl, e⟩
  | _, _, _, _, _, _, .own g e t, j + 1, c, h => by
    obtain ⟨i, a, _, h1, h2, h3, h4⟩ := AR.par_at t (j := j) (c := c) (by simpa using h)
    exact ⟨i, a, by simp, List.mem_cons_of_mem _ h1, h2, by simpa using h3, h4⟩
  | _, _, _, _, _, _, .look g e t, 0, c, h => by simp at h
  | _, _, _, _, _, _, .look g e t, j + 1, c, h => by
    obtain ⟨i, a, _, h1, h2, h3, h4⟩ := AR.par_at t (j := j) (c := c) (by simpa using h)
    exact ⟨i, a, by simp, h1, h2, by simpa using h3, h4⟩
  | _, _, _, _, _, _, .data _ g t, 0, c, h => by simp at h
  | _, _, _, _, _, _, .data _ g t, j + 1, c, h => by
    obtain ⟨i, a, _, h1, h2, h3, h4⟩ := AR.par_at t (j := j) (c := c) (by simpa using h)
    exact ⟨i, a, by simp, h1, h2, by simpa using h3, h4⟩
theorem AR.dat_at : ∀ {vs : List V} {ws : List Vw} {ms : List Bool} {args : List Sl} {ow lk : List Nat}, AR z O σ env H vs ws ms args ow lk → ∀ {j : Nat} {d : D}, args[j]? = some (.dat d) →
    ∃ v, vs[j]? = some v ∧ (Dq z.K (wo (cells σ env O) H) v d ∨ ∃ i c a, i ∈ lk ∧ getO i env = some c ∧ d = c.toD ∧ v = .ref a ∧ σ[i]? = some (some (V.ref a)))
  | _, _, _, _, _, _, .nil, j, c, h => by simp at h
  | _, _, _, _, _, _, .own g e t, 0, c, h => by simp at h
  | _, _, _, _, _, _, .own g e t, j + 1, c, h => by
    obtain ⟨v, h1, h2⟩ := AR.dat_at t (j := j) (d := c) (by simpa using h)
    exact ⟨v, by simpa using h1, h2⟩
  | _, _, _, _, _, _, .look (i := i) (c := c0) (a := a) g e t, 0, c, h => by
    simp at h
    exact ⟨.ref a, rfl, .inr ⟨i, c0, a, List.mem_cons_self .., g, h.symm, rfl, e⟩⟩
  | _, _, _, _, _, _, .look g e t, j + 1, c, h => by
    obtain ⟨v, h1, h2⟩ := AR.dat_at t (j := j) (d := c) (by simpa using h)
    refine ⟨v, by simpa using h1, h2.imp id fun ⟨i, c, a, h3, h4⟩ => ⟨i, c, a, List.mem_cons_of_mem _ h3, h4⟩⟩
  | _, _, _, _, _, _, .data (v := v) _ g t, 0, c, h => by
    simp at h
    subst h
    exact ⟨v, rfl, .inl g⟩
  | _, _, _, _, _, _, .data _ g t, j + 1, c, h => by
    obtain ⟨v, h1, h2⟩ := AR.dat_at t (j := j) (d := c) (by simpa using h)
    exact ⟨v, by simpa using h1, h2⟩
/-- two places of one owned thing are one place -/
theorem AR.inj (R : RelT z O H σ env) : ∀ {vs : List V} {ws : List Vw} {ms : List Bool} {args : List Sl} {ow lk : List Nat}, AR z O σ env H vs ws ms args ow lk → ow.Nodup → ∀ {j k : Nat} {c c' : Ct} {a : Addr},
    args[j]? = some (.par c) → args[k]? = some (.par c') → vs[j]? = some (.ref a) → vs[k]? = some (.ref a) → j = k
  | _, _, _, _, _, _, .nil, _, j, k, c, c', a, h, _, _, _ => by simp at h
  | _, _, _, _, _, _, .own (i := i) (a := b) g e t, nd, j, k, c, c', a, h1, h2, h3, h4 => by
    obtain ⟨n1, n2⟩ := List.nodup_cons.mp nd
    have one : ∀ {k : Nat} {c' : Ct} {args : List Sl} {vs : List V} {ow lk : List Nat} {ws : List Vw} {ms : List Bool}, AR z O σ env H vs ws ms args ow lk → i ∉ ow → args[k]? = some (.par c') → vs[k]? = some (.ref b) → False := fun {k c' args vs ow lk ws ms} t n h2 h4 => by
      obtain ⟨i2, a2, _, m2, g2, v2, e2⟩ := t.par_at h2
      rw [h4] at v2
      cases v2
      have : i = i2 := R.inj i i2 _ _ b g g2 e e2
      exact n (by rw [this]; exact m2)
    cases j with
    | zero =>
      cases k with
      | zero => rfl
      | succ k =>
        simp at h3
        subst h3
        exact (one t n1 (k := k) (c' := c') (by simpa using h2) (by simpa using h4)).elim
    | succ j =>
      cases k with
      | zero =>
        simp at h4
        subst h4
        exact (one t n1 (k := j) (c' := c) (by simpa using h1) (by simpa using h3)).elim
      | succ k => exact congrArg Nat.succ (AR.inj R t n2 (j := j) (k := k) (c := c) (c' := c') (a := a) (by simpa using h1) (by simpa using h2) (by simpa using h3) (by simpa using h4))
  | _, _, _, _, _, _, .look g e t, nd, j, k, c, c', a, h1, h2, h3, h4 => by
    cases j with
    | zero => simp at h1
    | succ j =>
      cases k with
      | zero => simp at h2
      | succ k => exact congrArg Nat.succ (AR.inj R t nd (j := j) (k := k) (c := c) (c' := c') (a := a) (by simpa using h1) (by simpa using h2) (by simpa using h3) (by simpa using h4))
  | _, _, _, _, _, _, .data _ g t, nd, j, k, c, c', a, h1, h2, h3, h4 => by
    cases j with
    | zero => simp at h1
    | succ j =>
      cases k with
      | zero => simp at h2
      | succ k => exact congrArg Nat.succ (AR.inj R t nd (j := j) (k := k) (c := c) (c' := c') (a := a) (by simpa using h1) (by simpa using h2) (by simpa using h3) (by simpa using h4))
end
theorem nodup_of : ∀ {l : List Nat}, nodup l = true → l.Nodup
  | [], _ => .nil
  | x :: xs, h => by
    unfold nodup at h
    obtain ⟨h1, h2⟩ := Bool.and_eq_true_iff.mp h
    exact List.nodup_cons.mpr ⟨fun z => by simp at h1; exact h1 z, nodup_of h2⟩
/-- behind the call: the contents are put back -/
theorem putBack_at {K : PySem.W.Frag} {S : SS} {H' : Hp} {e0 : Env} : ∀ {vs : List V} {ws : List Vw} {ms : List Bool} {args : List Sl} {ow lk : List Nat} {cs : List Ct} {e e' : Env}, AR z O σ e0 H vs ws ms args ow lk → PR K S H' vs args cs → SameO e0 e → putBack ms ws cs e = some e' →
    SameO e e' ∧ (∀ (j : Nat) (s : Sl), knd s = 0 → (e'[j]? = some s ↔ e[j]? = some s)) ∧ ∀ i c, getO i e' = some c → (i ∉ ow ∧ getO i e = some c) ∨ ∃ a, σ[i]? = some (some (V.ref a)) ∧ RelC K S H' a c
  | _, _, _, _, _, _, _, e, e', .nil, .nil, so, h => by
    cases h
    exact ⟨SameO.refl _, fun j s _ => Iff.rfl, fun i c g => .inl ⟨List.not_mem_nil, g⟩⟩
  | _, _, _, _, _, _, _, e, e', .own (i := i0) g eσ t, .par (c := c0) hc p, so, h => by
    have h : putBack _ _ _ (setO i0 c0 e) = some e' := h
    obtain ⟨c1, g1⟩ := so.getO g
    obtain ⟨s1, s2, s3⟩ := putBack_at t p (so.trans setO_same) h
    refine ⟨setO_same.trans s1, fun j s hs => (s2 j s hs).trans (setO_keep hs), fun i c gi => ?_⟩
    rcases s3 i c gi with ⟨n, g2⟩ | r
    · by_cases hi : i = i0
      · subst hi
        rw [getO_setO g1] at g2
        cases g2
        exact .inr ⟨_, eσ, hc⟩
      · rw [getO_ne hi] at g2
        exact .inl ⟨fun z => (List.mem_cons.mp z).elim hi n, g2⟩
    · exact .inr r
  | _, _, _, _, _, _, cs, e, e', .look (i := i0) g eσ t, .oth p, so, h => putBack_at t p so h
  | _, _, _, _, _, _, cs, e, e', .data (w := .d x) nw g t, .oth p, so, h => putBack_at t p so h
  | _, _, _, _, _, _, cs, e, e', .data (w := .f x) nw g t, .oth p, so, h => putBack_at t p so h
  | _, _, _, _, _, _, cs, e, e', .data (w := .o x) nw g t, .oth p, so, h => absurd rfl (nw x)
theorem RelT.back {H' : Hp} {env' : Env} {O' : SS} (R : RelT z O H σ env) (wt : UbG.SameT (wo (cells σ env O) H) (wo (cells σ env O') H')) (hcl : Cl (cells σ env O') H') (htb : ∀ P, GxR.TabG H P → GxR.TabG H' P) (hout : ∀ (i : Nat) (c : Ct) (a : Addr), getO i env = some c → σ[i]? = some (some (V.ref a)) → ¬O' a)
    (so : SameO env env') (keep : ∀ (j : Nat) (s : Sl), knd s = 0 → (env'[j]? = some s ↔ env[j]? = some s))
    (own : ∀ i c, getO i env' = some c → ∃ a : Addr, σ[i]? = some (some (V.ref a)) ∧ RelC z.K (cells σ env O') H' a c) : RelT z O' H' σ env' := by
  have ce := so.cells σ O'
  refine ⟨R.len.trans so.1, fun j d h => ?_, fun j cj h => ?_, fun j k cj ck b hj hk => ?_, fun j cj b hj => ?_, fun j x h => ?_, ?_, fun P hP => htb P (R.tb P hP)⟩
  · rw [← ce]
    obtain ⟨v, h1, h2⟩ := R.dat j d ((keep j _ rfl).mp h)
    exact ⟨v, h1, Dq.monoT wt _ _ h2⟩
  · rw [← ce]
    exact own j cj h
  · obtain ⟨c1, g1⟩ := so.symm.getO hj
    obtain ⟨c2, g2⟩ := so.symm.getO hk
    exact R.inj j k c1 c2 b g1 g2
  · obtain ⟨c1, g1⟩ := so.symm.getO hj
    exact hout j c1 b g1
  · rw [← ce]
    obtain ⟨a, cls, d, h1, h2, h3, h4⟩ := R.ex j x ((keep j _ rfl).mp h)
    exact ⟨a, cls, d, h1, h2, h3, h4.imp id fun ⟨dx, vs, g1, g2, g3⟩ => ⟨dx, vs, g1, wt.but _ _ g2 (fun _ z => by cases z), Dq.monoTF wt _ _ g3⟩⟩
  · rw [← ce]
    exact hcl
theorem RelC.moveT {K : PySem.W.Frag} {S S' : SS} {H' : Hp} {a : Addr} {c : Ct} (wt : UbG.SameT (wo S H) (wo S' H')) (ha : ∀ o, H a = some o → UbP.isC o → H' a = some o) (h : RelC K S H a c) : RelC K S' H' a c := by
  cases c with
  | l ds =>
    obtain ⟨xs, h1, h2⟩ := h
    exact ⟨xs, ha _ h1 True.intro, Dq.monoTAll wt _ _ h2⟩
  | o c fs =>
    obtain ⟨dx, vs, h1, h2⟩ := h
    exact ⟨dx, vs, ha _ h1 True.intro, Dq.monoTF wt _ _ h2⟩
theorem wT_ext {S pS Ex : SS} {H' : Hp} (s : SameC pS H H') (hp : ∀ a, pS a → S a) (hx : ∀ a, Ex a → H a = none) : UbG.SameT (wo S H) (wo (fun a => S a ∨ Ex a) H') := by
  have out : ∀ b o, wo S H b = some o → ¬(S b ∨ Ex b) := fun b o h z => by
    obtain ⟨h1, h2⟩ := wo_in h
    rcases z with z | z
    · exact h1 z
    · rw [hx b z] at h2
      cases h2
  refine ⟨fun b o h t => ?_, fun P ⟨ps, h, t⟩ => ?_⟩
  · obtain ⟨h1, h2⟩ := wo_in h
    rw [wo_out (out b o h)]
    exact s.but b o (fun z => h1 (hp b z)) h2 t
  · obtain ⟨qs, g, t2⟩ := s.tab P ⟨ps, (wo_in h).2, t⟩
    exact ⟨qs, by rw [wo_out (out P _ h)]; exact g, t2⟩
theorem cells_or {Ex : SS} : cells σ env (fun s => O s ∨ Ex s) = fun s => cells σ env O s ∨ Ex s := by
  funext s
  exact propext ⟨fun h => h.elim (fun h => .inl (.inl h)) fun h => h.elim (fun h => .inl (.inr h)) .inr, fun h => h.elim (fun h => h.elim .inl fun h => .inr (.inl h)) fun h => .inr (.inr h)⟩
theorem or_no {S : SS} : (fun s => S s ∨ False) = S := by
  funext s
  exact propext ⟨fun h => h.elim id False.elim, .inl⟩
theorem vals_at {vs dvs : List V} {j : Nat} : ((vs ++ dvs).map some)[j]? = ((vs ++ dvs)[j]?).map some := List.getElem?_map ..
theorem PR.front {K : PySem.W.Frag} {S : SS} {dvs : List V} {dv : List D} : ∀ {vs : List V} {args : List Sl} {cs : List Ct}, args.length = vs.length → PR K S H (vs ++ dvs) (args ++ dv.map .dat) cs → PR K S H vs args cs
  | [], [], cs, _, h => by
    have nopar : ∀ {vs : List V} {ds : List D} {cs : List Ct}, PR K S H vs (ds.map .dat) cs → cs = [] := fun {vs ds} => by
      induction ds generalizing vs with
      | nil => intro cs h; cases h; rfl
      | cons d ds ih =>
        intro cs h
        cases h with
        | oth h => exact ih h
    rw [nopar (show PR K S H dvs (dv.map .dat) cs from h)]
    exact .nil
  | v :: vs, s :: args, cs, e, h => by
    cases h with
    | par h1 h2 => exact .par h1 (PR.front (Nat.succ.inj e) h2)
    | oth h2 => exact .oth (PR.front (Nat.succ.inj e) h2)
  | [], _ :: _, _, e, _ => by cases e
  | _ :: _, [], _, e, _ => by cases e
theorem call_core {f : Fn} {ms : List Bool} {dv : List D} {dvs : List V} {vs : List V} {ws : List Vw} {n : Nat} {Q : VK} (hdv : ∀ S H, DqAll z.K (wo S H) dvs dv) (hn : vs.length + dvs.length = n) (R : RelT z O H σ env) (VV : Paired (VRel z.K (cells σ env O) σ H) vs ws)
    (P : PostG vE z O σ env H Q (callB f ms dv ws env)) : spF z.K z.Tb f n (vs ++ dvs) H Q (WE z.W σ) := by
  unfold callB at P
  cases em : mkArgs ms ws env with
  | none => rw [em] at P; exact P.elim
  | some args =>
    rw [em] at P
    dsimp only at P
    split at P
    · rename_i hnd
      have A := mkArgs_AR R VV em
      have nd := List.nodup_append.mp (nodup_of hnd)
      generalize hσ : (vs ++ dvs).map some = σc
      generalize harg : args ++ dv.map .dat = argc at P
      have hlen := A.len
      have hl2 := (hdv (fun _ => False) H).len
      -- the owned arguments
      have parC : ∀ j c, getO j argc = some c → args[j]? = some (.par c) := fun j c h => by
        rw [← harg] at h
        rcases getO_cases h with g | g
        · rcases Nat.lt_or_ge j args.length with l | l
          · rw [List.getElem?_append_left l] at g
            rcases A.argS _ (List.mem_of_getElem? g) with ⟨d, z⟩ | ⟨d, z⟩ <;> cases z
          · rw [List.getElem?_append_right l, List.getElem?_map] at g
            obtain ⟨_, _, z⟩ := Option.map_eq_some_iff.mp g
            cases z
        · rcases Nat.lt_or_ge j args.length with l | l
          · rw [List.getElem?_append_left l] at g
            exact g
          · rw [List.getElem?_append_right l, List.getElem?_map] at g
            obtain ⟨_, _, z⟩ := Option.map_eq_some_iff.mp g
            cases z
      have atv : ∀ j v, j < args.length → (σc[j]? = some (some v) ↔ vs[j]? = some v) := fun j v l => by
        rw [← hσ, vals_at, List.getElem?_append_left (by omega)]
        constructor
        · intro h
          obtain ⟨x, h1, h2⟩ := Option.map_eq_some_iff.mp h
          cases h2
          exact h1
        · intro h
          rw [h]
          rfl
      have ownP : ∀ s, ownS σc argc s → ∃ i ∈ ownIx ms ws, ∃ c, getO i env = some c ∧ σ[i]? = some (some (V.ref s)) := fun s ⟨j, c, h1, h2⟩ => by
        have g := parC j c h1
        obtain ⟨i, a, _, m, h3, h4, h5⟩ := A.par_at g
        have h6 := (atv j _ (get_lt g)).mp h2
        rw [h4] at h6
        cases h6
        exact ⟨i, m, c, h3, h5⟩
      generalize hO : (fun s => cells σ env O s ∧ ¬ownS σc argc s ∧ ¬∃ i ∈ lookIx ms ws, σ[i]? = some (some (V.ref s))) = Oc
      have sub : ∀ s, cells σc argc Oc s → cells σ env O s := fun s hs => by
        rcases hs with h | h
        · obtain ⟨i, _, c, h1, h2⟩ := ownP s h
          exact .inl ⟨i, c, h1, h2⟩
        · rw [← hO] at h
          exact h.1
      have sameCells : lookIx ms ws = [] → cells σc argc Oc = cells σ env O := fun e => by
        funext s
        refine propext ⟨sub s, fun h => ?_⟩
        by_cases ho : ownS σc argc s
        · exact .inl ho
        · refine .inr ?_
          rw [← hO]
          exact ⟨h, ho, fun ⟨i, m, _⟩ => by rw [e] at m; exact absurd m List.not_mem_nil⟩
      have Rc : RelT (zF z.K z.Tb) Oc H σc argc := by
        refine ⟨by rw [← hσ, ← harg]; simp [hlen, hl2], fun j d h => ?_, fun j c h => ?_, fun j k c c' a h1 h2 h3 h4 => ?_, fun j c a h1 h2 ho => ?_, fun j x h => ?_, fun s hs => R.cl s (sub s hs), R.tb⟩
        · rw [← harg] at h
          rcases Nat.lt_or_ge j args.length with l | l
          · rw [List.getElem?_append_left l] at h
            obtain ⟨v, h1, h2⟩ := A.dat_at h
            refine ⟨v, (atv j v l).mpr h1, ?_⟩
            rcases h2 with h2 | ⟨i, c, a, m, g, rfl, rfl, e⟩
            · exact h2.mono (wo_sub sub)
            · refine (own_at R g e).data (fun hs => ?_) sub
              rcases hs with h | h
              · obtain ⟨i2, m2, c2, g2, e2⟩ := ownP a h
                have : i = i2 := R.inj i i2 _ _ a g g2 e e2
                subst this
                exact nd.2.2 i m2 i m rfl
              · rw [← hO] at h
                exact h.2.2 ⟨i, m, e⟩
          · rw [List.getElem?_append_right l, List.getElem?_map] at h
            obtain ⟨d', h1, h2⟩ := Option.map_eq_some_iff.mp h
            cases h2
            obtain ⟨v, h3, h4⟩ := (hdv (cells σc argc Oc) H).get h1
            refine ⟨v, ?_, h4⟩
            rw [← hσ, vals_at, List.getElem?_append_right (by omega), ← hlen, h3]
            rfl
        · have g := parC j c h
          obtain ⟨i, a, _, m, h3, h4, h5⟩ := A.par_at g
          exact ⟨a, (atv j _ (get_lt g)).mpr h4, (own_at R h3 h5).sub sub⟩
        · have g1 := parC j c h1
          have g2 := parC k c' h2
          exact A.inj R nd.1 g1 g2 ((atv j _ (get_lt g1)).mp h3) ((atv k _ (get_lt g2)).mp h4)
        · rw [← hO] at ho
          exact ho.2.1 ⟨j, c, h1, h2⟩
        · rw [← harg] at h
          rcases Nat.lt_or_ge j args.length with l | l
          · rw [List.getElem?_append_left l] at h
            rcases A.argS _ (List.mem_of_getElem? h) with ⟨d, z⟩ | ⟨d, z⟩ <;> cases z
          · rw [List.getElem?_append_right l, List.getElem?_map] at h
            obtain ⟨_, _, z⟩ := Option.map_eq_some_iff.mp h
            cases z
      have argS : ∀ s ∈ argc, ArgS s := fun s hs => by
        rw [← harg] at hs
        rcases List.mem_append.mp hs with h | h
        · exact A.argS s h
        · obtain ⟨d, _, e⟩ := List.mem_map.mp h
          exact .inl ⟨d, e.symm⟩
      refine ⟨by rw [List.length_append]; exact hn, Oc, argc, by rw [hσ]; exact Rc, argS, ?_⟩
      -- what stands behind the call
      have afterX : ∀ {cs : List Ct} {env' : Env} {H' : Hp} (Ex : SS), SameC (ownS σc argc) H H' → (∀ a, Ex a → H a = none ∧ ∃ o, H' a = some o ∧ isC o) → PR z.K (fun s => cells σc argc Oc s ∨ Ex s) H' (vs ++ dvs) argc cs → (lookIx ms ws = [] ∨ cs.all Ct.noL = true) → putBack ms ws cs env = some env' →
          RelT z (fun s => O s ∨ Ex s) H' σ env' ∧ SameO env env' ∧ SameC (ownS σ env) H H' := fun {cs env' H'} Ex s hX pr hlk hb => by
        have hs : ∀ a, ownS σc argc a → ownS σ env a := fun a h => by
          obtain ⟨i, _, c, h1, h2⟩ := ownP a h
          exact ⟨i, c, h1, h2⟩
        have s' := s.sub hs
        have ce : cells σ env (fun s => O s ∨ Ex s) = fun s => cells σ env O s ∨ Ex s := cells_or
        have cl' : Cl (cells σ env (fun s => O s ∨ Ex s)) H' := by
          rw [ce]
          exact fun a ha => ha.elim (fun h => (s'.sub fun a h => .inl h).clS R.cl a h) fun h => (hX a h).2
        have wt : UbG.SameT (wo (cells σ env O) H) (wo (cells σ env (fun s => O s ∨ Ex s)) H') := by
          rw [ce]
          exact wT_ext s (fun a h => .inl (hs a h)) fun a h => (hX a h).1
        have pr : PR z.K (fun s => cells σc argc Oc s ∨ Ex s) H' vs args cs := PR.front (dvs := dvs) (dv := dv) hlen (by rw [harg]; exact pr)
        have up : ∀ {vs : List V} {args : List Sl} {cs : List Ct}, (lookIx ms ws = [] ∨ cs.all Ct.noL = true) → PR z.K (fun s => cells σc argc Oc s ∨ Ex s) H' vs args cs → PR z.K (cells σ env (fun s => O s ∨ Ex s)) H' vs args cs := fun {vs args cs} hlk pr => by
          induction pr with
          | nil => exact .nil
          | @par a c c0 _ _ _ h _ ih =>
            refine .par ?_ (ih (hlk.imp id fun h => by rw [List.all_cons] at h; exact (Bool.and_eq_true_iff.mp h).2))
            rcases hlk with e | e
            · rw [ce, ← sameCells e]
              exact h
            · rw [List.all_cons] at e
              have e := (Bool.and_eq_true_iff.mp e).1
              cases c with
              | l ds =>
                obtain ⟨xs, h1, h2⟩ := h
                exact ⟨xs, h1, Dq.apartAll cl' ds xs e (h2.mono wo_same)⟩
              | o _ _ => cases e
          | oth _ ih => exact .oth (ih hlk)
        obtain ⟨so, keep, own⟩ := putBack_at A (up hlk pr) (SameO.refl env) hb
        refine ⟨R.back wt cl' s.tab (fun i c a g e hO => hO.elim (R.out i c a g e) fun h => ?_) so keep fun i c g => ?_, so, s'⟩
        · obtain ⟨o, h1, _⟩ := (own_at R g e).isC
          rw [(hX a h).1] at h1
          cases h1
        · rcases own i c g with ⟨n1, g1⟩ | r
          · obtain ⟨a, h1, h2⟩ := R.own i c g1
            refine ⟨a, h1, h2.moveT wt fun o ho hc => s.but a o (fun hp => ?_) ho (isC_tbl hc)⟩
            obtain ⟨i2, m2, c2, g2, e2⟩ := ownP a hp
            have : i = i2 := R.inj i i2 _ _ a g1 g2 h1 e2
            exact n1 (by rw [this]; exact m2)
          · exact r
      have after : ∀ {cs : List Ct} {env' : Env} {H' : Hp}, SameC (ownS σc argc) H H' → PR z.K (cells σc argc Oc) H' (vs ++ dvs) argc cs → (lookIx ms ws = [] ∨ cs.all Ct.noL = true) → putBack ms ws cs env = some env' → RelT z O H' σ env' ∧ SameO env env' ∧ SameC (ownS σ env) H H' := fun {cs env' H'} s pr hlk hb => by
        have h := afterX (fun _ => False) s (fun _ z => z.elim) (by rw [or_no]; exact pr) hlk hb
        rw [or_no] at h
        exact h
      have lkE : (lookIx ms ws).isEmpty = true → lookIx ms ws = [] := fun h => List.isEmpty_iff.mp h
      cases ef : f argc with
      | ret w cs =>
        rw [ef] at P
        dsimp only at P
        split at P
        · rename_i hp
          cases eb : putBack ms ws cs env with
          | none => rw [eb] at P; exact P.elim
          | some env' =>
            rw [eb] at P
            unfold passOk at hp
            obtain ⟨hp1, hp2⟩ := Bool.and_eq_true_iff.mp hp
            intro v H' s pr V' N
            rw [hσ] at s pr V'
            have hlk : lookIx ms ws = [] ∨ (w.noL = true ∧ cs.all Ct.noL = true) := (Bool.or_eq_true_iff.mp hp2).imp lkE fun h => Bool.and_eq_true_iff.mp h
            have pr0 : PR z.K (cells σc argc Oc) H' (vs ++ dvs) argc cs := by
              cases w with
              | f c =>
                have go : ∀ {vs : List V} {args : List Sl} {cs : List Ct}, PR z.K (apart v (.f c) (cells σc argc Oc)) H' vs args cs → PR z.K (cells σc argc Oc) H' vs args cs := fun {vs args cs} pr => by
                  induction pr with
                  | nil => exact .nil
                  | par h _ ih => exact .par (h.sub fun s hs => .inl hs) ih
                  | oth _ ih => exact .oth ih
                exact go pr
              | d x => exact pr
              | o i => exact pr
            obtain ⟨R', so, s'⟩ := after s pr0 (hlk.imp id (·.2)) eb
            refine P v H' s' R' so ⟨?_, N, ?_⟩
            rotate_left
            · cases w with
              | f c =>
                intro a ea
                subst ea
                obtain ⟨b, eb', _, hc⟩ := V'
                cases eb'
                refine (afterX (fun s => s = a) s (fun b hb => by rw [hb]; exact ⟨N a rfl, hc.isC⟩) ?_ (hlk.imp id (·.2)) eb).1
                have e : (fun s => cells σc argc Oc s ∨ s = a) = apart (.ref a) (.f c) (cells σc argc Oc) := by
                  funext s
                  exact propext ⟨fun h => h.imp id fun h => by rw [h], fun h => h.imp id fun h => by cases h; rfl⟩
                rw [e]
                exact pr
              | d x => exact True.intro
              | o i => exact True.intro
            rw [← so.cells σ O]
            cases w with
            | o i => cases hp1
            | d x =>
              have V' : Dq z.K (wo (cells σc argc Oc) H') v x := V'
              show Dq z.K (wo (cells σ env O) H') v x
              rcases hlk with e | e
              · rw [← sameCells e]
                exact V'
              · exact Dq.apart ((s'.sub fun a h => .inl h).clS R.cl) x v e.1 V'.out
            | f c =>
              rcases hlk with e | e
              · rw [← sameCells e]
                exact V'
              · cases e.1
        · exact P.elim
      | exc x cs =>
        rw [ef] at P
        dsimp only at P
        split at P
        · rename_i hp
          cases eb : putBack ms ws cs env with
          | none => rw [eb] at P; exact P.elim
          | some env' =>
            rw [eb] at P
            intro cls d H' s pr X
            rw [hσ] at s pr X
            obtain ⟨R', so, s'⟩ := after s pr (.inl (lkE hp)) eb
            refine P cls d H' s' R' so ?_
            rw [← so.cells σ O, ← sameCells (lkE hp)]
            exact X
        · exact P.elim
      | bad => rw [ef] at P; exact P.elim
    · exact P.elim
end
section
variable {X : Cx} {z : Z} {e : Expr} {es : List Expr} {fs : List (M Vw)} {x : Str} {k j n : Nat} {ps : List Str} {f : Fn} {ms : List Bool} {p pos : Pos} {dvs : List V} {dv : List D}
theorem eArgs_len : ∀ {fs : List (M Vw)} {e e' : Env} {ws : List Vw}, eArgs fs e = .ok ws e' → ws.length = fs.length
  | [], _, _, _, h => by cases h; rfl
  | f :: fs, e, e', ws, h => by
    unfold eArgs bnd at h
    cases e1 : f e with
    | exc _ _ => rw [e1] at h; cases h
    | bad => rw [e1] at h; cases h
    | ok w e2 =>
      rw [e1] at h
      dsimp only at h
      cases e3 : eArgs fs e2 with
      | exc _ _ => rw [e3] at h; cases h
      | bad => rw [e3] at h; cases h
      | ok ws' e4 =>
        rw [e3] at h
        cases h
        rw [List.length_cons, List.length_cons, eArgs_len e3]
/-- the arguments, with how many there are -/
theorem post_args {O : SS} {σ : L2.St} {env : Env} {H : Hp} {Q : VK} {k : List Vw → M Vw} (R : RelT z O H σ env) (P : PostG vE z O σ env H Q (bnd (eArgs fs) k env)) :
    tG vA z (eArgs fs) σ H fun vs H1 => ∃ env1 ws, RelT z O H1 σ env1 ∧ SameC (ownS σ env) H H1 ∧ SameO env env1 ∧ Paired (VRel z.K (cells σ env1 O) σ H1) vs ws ∧ vs.length = fs.length ∧ PostG vE z O σ env1 H1 Q (k ws env1) := by
  refine ⟨O, env, R, ?_⟩
  unfold bnd at P
  cases e : eArgs fs env with
  | ok w env1 =>
    rw [e] at P
    intro v H1 s1 R1' so V
    have hl : v.length = w.length := Paired.length V
    exact ⟨env1, w, R1', s1, so, V, hl.trans (eArgs_len e), PostG.move bkE s1 so P⟩
  | exc x env1 => rw [e] at P; exact P
  | bad => rw [e] at P; exact P
theorem pu_call (hK : X.K = z.K) (C : Cal X.prog X.w X.K X.mg X.base x k ps dvs (spF X.K z.Tb f n)) (hdv : ∀ S H, DqAll z.K (wo S H) dvs dv) (hn : (es.length + 1) + dvs.length = n) (hf : fs.length = es.length + 1) (hr : Room j X.A) (hj : k ≤ j) (hg : Gl X x) (tk : Takes X z.W) (ha : PA X (e :: es) (tA z (eArgs fs)))
    (hdb : (x == ("__debug__" : Str)) = false := by decide) (he : starEach (e :: es) X.env = (false, eval e X.env) :: starEach es X.env := by rfl) (hpl : (backTo pos (starEach es X.env)).any (·.1) = false := by rfl) :
    PE X (.Call (.Name x p) (e :: es) [] pos) (tP z (eCall f ms fs dv)) := by
  obtain ⟨ff, fd, ds, F, hm, hk, hd, hb⟩ := C.ex
  refine ⟨fun pins s σ H Q I h => ?_⟩
  obtain ⟨O, env, R, P⟩ := h
  refine wpAny_Call_Name_kw (ld_glob I hg hm ?_ hdb)
  refine PySem.W.callWith_K (h₀ := X.base) I.ok.mod.kin hk (thn (ha.run pos pins s σ H _ I (post_args R P)) fun us s1 ⟨vs, H1, I1, r, env1, ws, R1, s1', so, V, hl, P1⟩ => ⟨I1.kIn, ?_⟩) he hpl
  refine run_fnSD F (hr.mono hj) hb hd (passAt tk σ) I1 r ?_
  rw [hK]
  exact call_core hdv (by rw [hl, hf]; exact hn) R1 V P1
end
end UbP
namespace UbP
open PySem PySem.Spec PyProof.Rows L2 UbM Ub
structure Fm where
  O : SS
  σ0 : L2.St
  env0 : Env
  H0 : Hp
def parS (B : Fm) : SS := fun s => ∃ (i : Nat) (c : Ct), B.env0[i]? = some (Sl.par c) ∧ B.σ0[i]? = some (some (V.ref s))
structure Base (B : Fm) (σ : L2.St) (env : Env) (H : Hp) : Prop where
  len : env.length = B.env0.length
  par : ∀ i : Nat, (∃ c, env[i]? = some (Sl.par c)) ↔ ∃ c, B.env0[i]? = some (Sl.par c)
  at_ : ∀ (i : Nat) (c : Ct), env[i]? = some (Sl.par c) → σ[i]? = B.σ0[i]?
  heap : SameC (parS B) B.H0 H
  new : ∀ (i : Nat) (c : Ct) (a : Addr), env[i]? = some (Sl.own c) → σ[i]? = some (some (V.ref a)) → B.H0 a = none
theorem SameO.par {env env' : Env} (so : SameO env env') {i : Nat} : (∃ c, env'[i]? = some (Sl.par c)) ↔ ∃ c, env[i]? = some (Sl.par c) := by
  have h := so.2 i
  constructor
  · rintro ⟨c, e⟩
    rw [e] at h
    cases g : env[i]? with
    | none => rw [g] at h; cases h
    | some s =>
      rw [g] at h
      cases s with
      | par c => exact ⟨c, rfl⟩
      | _ => cases h
  · rintro ⟨c, e⟩
    rw [e] at h
    cases g : env'[i]? with
    | none => rw [g] at h; cases h
    | some s =>
      rw [g] at h
      cases s with
      | par c => exact ⟨c, rfl⟩
      | _ => cases h
theorem SameO.own1 {env env' : Env} (so : SameO env env') {i : Nat} {c : Ct} (e : env'[i]? = some (Sl.own c)) : ∃ c, env[i]? = some (Sl.own c) := by
  have h := so.2 i
  rw [e] at h
  cases g : env[i]? with
  | none => rw [g] at h; cases h
  | some s =>
    rw [g] at h
    cases s with
    | own c => exact ⟨c, rfl⟩
    | _ => cases h
theorem getO_own {env : Env} {i : Nat} {c : Ct} (h : env[i]? = some (Sl.own c)) : getO i env = some c := by unfold getO; rw [h]
theorem getO_par {env : Env} {i : Nat} {c : Ct} (h : env[i]? = some (Sl.par c)) : getO i env = some c := by unfold getO; rw [h]
section
variable {z : Z} {B : Fm} {O : SS} {σ σ' σ1 : L2.St} {env env' env1 : Env} {H H' H1 : Hp} {α β : Type} {D : Ends}
theorem SameC.into {S S0 : SS} {H0 : Hp} (h : SameC S0 H0 H) (e : SameC S H H') (i : ∀ s, S s → S0 s ∨ H0 s = none) : SameC S0 H0 H' := by
  refine ⟨fun b o n g t => ?_, fun P g => e.tab P (h.tab P g), fun s hs g => ?_, fun b g => h.dom b (e.dom b g)⟩
  · have g1 := h.but b o n g t
    refine e.but b o (fun z => ?_) g1 t
    rcases i b z with z | z
    · exact n z
    · rw [z] at g; cases g
  · obtain ⟨o, g1, c⟩ := h.cl s hs g
    by_cases hS : S s
    · exact e.cl s hS ⟨o, g1, c⟩
    · exact ⟨o, e.but s o hS g1 (isC_tbl c), c⟩
theorem Base.own_in (b : Base B σ env H) : ∀ s, ownS σ env s → parS B s ∨ B.H0 s = none := fun s ⟨i, c, g, e⟩ => by
  rcases getO_cases g with h | h
  · exact .inr (b.new i c s h e)
  · obtain ⟨c', h'⟩ := (b.par i).mp ⟨c, h⟩
    exact .inl ⟨i, c', h', by rw [← b.at_ i c h]; exact e⟩
theorem Base.step (b : Base B σ env H) (s : SameC (ownS σ env) H H') (so : SameO env env') : Base B σ env' H' :=
  ⟨so.1.symm.trans b.len, fun i => so.par.trans (b.par i), fun i c h => by
    obtain ⟨c', h'⟩ := so.par.mp ⟨c, h⟩
    exact b.at_ i c' h', b.heap.into s b.own_in, fun i c a h e => by
    obtain ⟨c', h'⟩ := so.own1 h
    exact b.new i c' a h' e⟩
theorem Base.mono (b : Base B σ env H) (e : Kp H H') : Base B σ env H' := b.step (Kp.C e) (SameO.refl _)
def Stp (O : SS) (σ : L2.St) (env : Env) (H : Hp) (σ' : L2.St) (env' : Env) (H' : Hp) : Prop := UbG.SameT (wo (cells σ env O) H) (wo (cells σ' env' O) H')
theorem Stp.refl : Stp O σ env H σ env H := UbG.SameT.refl _
theorem Stp.trans (a : Stp O σ env H σ1 env1 H1) (b : Stp O σ1 env1 H1 σ' env' H') : Stp O σ env H σ' env' H' := UbG.SameT.trans a b
theorem stp_expr (s : SameC (ownS σ env) H H') (so : SameO env env') : Stp O σ env H σ env' H' := by
  unfold Stp
  rw [← so.cells σ O]
  exact (s.sub fun a h => .inl h).wT
/-- behind a statement -/
def PostS (z : Z) (B : Fm) (σ : L2.St) (env : Env) (H : Hp) (D : Ends) : Res Fl → Prop
  | .ok .nx env' => ∀ σ' H', RelT z B.O H' σ' env' → Base B σ' env' H' → Stp B.O σ env H σ' env' H' → D.nx σ' H'
  | .ok .bk env' => ∀ σ' H', RelT z B.O H' σ' env' → Base B σ' env' H' → Stp B.O σ env H σ' env' H' → D.bk σ' H'
  | .ok .ct env' => ∀ σ' H', RelT z B.O H' σ' env' → Base B σ' env' H' → Stp B.O σ env H σ' env' H' → D.ct σ' H'
  | .ok (.rt w) env' => ∀ v σ' H', RelT z B.O H' σ' env' → Base B σ' env' H' → VRel z.K (cells σ' env' B.O) σ' H' v w → NewV B.H0 v w → AwayV z B.O σ' env' H' v w → D.rt v H'
  | .exc x env' => ∀ cls d σ' H', RelT z B.O H' σ' env' → Base B σ' env' H' → Stp B.O σ env H σ' env' H' → ExR z.K (wo (cells σ' env' B.O) H') x cls d → z.W cls d σ' H'
  | .bad => False
def tS (z : Z) (f : M Fl) : TS := fun D σ H => ∃ B env, RelT z B.O H σ env ∧ Base B σ env H ∧ PostS z B σ env H D (f env)
theorem PostS.move {r : Res Fl} (s : Stp B.O σ env H σ1 env1 H1) (P : PostS z B σ env H D r) : PostS z B σ1 env1 H1 D r := by
  cases r with
  | ok f e =>
    cases f with
    | nx => exact fun σ' H' a b c => P σ' H' a b (s.trans c)
    | bk => exact fun σ' H' a b c => P σ' H' a b (s.trans c)
    | ct => exact fun σ' H' a b c => P σ' H' a b (s.trans c)
    | rt w => exact P
  | exc x e => exact fun cls d σ' H' a b c => P cls d σ' H' a b (s.trans c)
  | bad => exact P
/-- an expression within a statement -/
theorem postS_bnd0 {R1 : VRt α β} {m : M α} {k : α → M Fl} (R : RelT z B.O H σ env) (b : Base B σ env H) (P : PostS z B σ env H D (bnd m k env)) :
    tG R1 z m σ H fun v H1 => ∃ env1 w, RelT z B.O H1 σ env1 ∧ Base B σ env1 H1 ∧ SameC (ownS σ env) H H1 ∧ SameO env env1 ∧ R1 z B.O env1 σ H H1 v w ∧ PostS z B σ env H D (k w env1) := by
  refine ⟨B.O, env, R, ?_⟩
  unfold bnd at P
  cases e : m env with
  | ok w env1 =>
    rw [e] at P
    intro v H1 s1 R1' so V
    exact ⟨env1, w, R1', b.step s1 so, s1, so, V, P⟩
  | exc x env1 =>
    rw [e] at P
    intro cls d H1 s1 R1' so X
    exact P cls d σ H1 R1' (b.step s1 so) (stp_expr s1 so) X
  | bad => rw [e] at P; exact P
theorem postS_bnd {R1 : VRt α β} {m : M α} {k : α → M Fl} (R : RelT z B.O H σ env) (b : Base B σ env H) (P : PostS z B σ env H D (bnd m k env)) :
    tG R1 z m σ H fun v H1 => ∃ env1 w, RelT z B.O H1 σ env1 ∧ Base B σ env1 H1 ∧ SameC (ownS σ env) H H1 ∧ SameO env env1 ∧ R1 z B.O env1 σ H H1 v w ∧ PostS z B σ env1 H1 D (k w env1) :=
  tG_mono (postS_bnd0 R b P) fun v H1 ⟨env1, w, h1, h2, h3, h4, h5, P1⟩ => ⟨env1, w, h1, h2, h3, h4, h5, PostS.move (stp_expr h3 h4) P1⟩
theorem postS_opt {o : Option α} {k : α → M Fl} (P : PostS z B σ env H D (bnd (optM o) k env)) : ∃ a, o = some a ∧ PostS z B σ env H D (k a env) := by
  unfold bnd optM at P
  cases o with
  | none => exact P.elim
  | some a => exact ⟨a, rfl, P⟩
theorem postS_now {w : Vw} {k : UbP.D → M Fl} (P : PostS z B σ env H D (bnd (nowM w) k env)) : ∃ a, w.now env = some a ∧ PostS z B σ env H D (k a env) := by
  unfold bnd nowM at P
  cases e : w.now env with
  | none => rw [e] at P; exact P.elim
  | some a => rw [e] at P; exact ⟨a, rfl, P⟩
theorem postS_stay {w : Vw} {k : UbP.D → M Fl} (P : PostS z B σ env H D (bnd (stayM w) k env)) : ∃ a, w.stay = some a ∧ PostS z B σ env H D (k a env) := postS_opt P
def slots : Tg → List Nat
  | .nm i => [i]
  | .tp ts => slotsL ts
where slotsL : List Tg → List Nat
  | [] => []
  | t :: ts => slots t ++ slotsL ts
structure Chg (is : List Nat) (σ : L2.St) (env : Env) (σ' : L2.St) (env' : Env) : Prop where
  l1 : σ'.length = σ.length
  l2 : env'.length = env.length
  s : ∀ j : Nat, j ∉ is → σ'[j]? = σ[j]?
  e : ∀ j : Nat, j ∉ is → env'[j]? = env[j]?
  p : ∀ j : Nat, j ∈ is → (∀ c, env[j]? ≠ some (Sl.par c)) ∧ ∃ s, env'[j]? = some s ∧ knd s = 0
theorem Chg.getO {is : List Nat} (h : Chg is σ env σ' env') {j : Nat} {c : Ct} (g : getO j env' = some c) : j ∉ is ∧ UbP.getO j env = some c := by
  have n : j ∉ is := fun m => by
    obtain ⟨s, e, k⟩ := (h.p j m).2
    rcases getO_cases g with q | q
    · rw [e] at q; cases q; cases k
    · rw [e] at q; cases q; cases k
  refine ⟨n, ?_⟩
  unfold UbP.getO at g ⊢
  rw [h.e j n] at g
  exact g
theorem Chg.cells {is : List Nat} (h : Chg is σ env σ' env') : ∀ s, UbP.cells σ' env' O s → UbP.cells σ env O s := fun s hs => by
  rcases hs with ⟨j, c, g, e⟩ | hs
  · obtain ⟨n, g'⟩ := h.getO g
    exact .inl ⟨j, c, g', by rw [← h.s j n]; exact e⟩
  · exact .inr hs
theorem Chg.trans {is js : List Nat} (h : Chg is σ env σ1 env1) (g : Chg js σ1 env1 σ' env') : Chg (is ++ js) σ env σ' env' := by
  refine ⟨g.l1.trans h.l1, g.l2.trans h.l2, fun j n => ?_, fun j n => ?_, fun j m => ?_⟩
  · rw [List.mem_append, not_or] at n
    exact (g.s j n.2).trans (h.s j n.1)
  · rw [List.mem_append, not_or] at n
    exact (g.e j n.2).trans (h.e j n.1)
  · by_cases hj : j ∈ js
    · refine ⟨fun c e => ?_, (g.p j hj).2⟩
      by_cases hi : j ∈ is
      · exact (h.p j hi).1 c e
      · exact (g.p j hj).1 c (by rw [h.e j hi]; exact e)
    · have hi : j ∈ is := (List.mem_append.mp m).resolve_right hj
      obtain ⟨a, s, e, k⟩ := h.p j hi
      exact ⟨a, s, by rw [g.e j hj]; exact e, k⟩
theorem Chg.stp {is : List Nat} (h : Chg is σ env σ' env') : Stp O σ env H σ' env' H := UbG.sameT (wo_sub h.cells)
theorem Chg.base {is : List Nat} (h : Chg is σ env σ' env') (b : Base B σ env H) : Base B σ' env' H := by
  have par : ∀ {i : Nat} {c : Ct}, env'[i]? = some (Sl.par c) → i ∉ is := fun {i c} e m => by
    obtain ⟨s, e', k⟩ := (h.p i m).2
    rw [e] at e'; cases e'; cases k
  refine ⟨h.l2.trans b.len, fun i => Iff.trans ⟨fun ⟨c, e⟩ => ⟨c, by rw [← h.e i (par e)]; exact e⟩, fun ⟨c, e⟩ => ⟨c, by rw [h.e i fun m => (h.p i m).1 c e]; exact e⟩⟩ (b.par i), fun i c e => ?_, b.heap, fun i c a e e' => ?_⟩
  · have n := par e
    rw [h.s i n]
    exact b.at_ i c (by rw [← h.e i n]; exact e)
  · obtain ⟨n, g⟩ := h.getO (getO_own e)
    exact b.new i c a (by rw [← h.e i n]; exact e) (by rw [← h.s i n]; exact e')
/-- the data slots of is are set anew -/
theorem RelT.chg {is : List Nat} (R : RelT z O H σ env) (h : Chg is σ env σ' env') (hd : ∀ j d, j ∈ is → env'[j]? = some (Sl.dat d) → ∃ v : V, σ'[j]? = some (some v) ∧ Dq z.K (wo (cells σ' env' O) H) v d)
    (hx : ∀ j x, j ∈ is → env'[j]? ≠ some (Sl.ex x)) : RelT z O H σ' env' := by
  have sub := h.cells (O := O)
  refine ⟨h.l1.trans (R.len.trans h.l2.symm), fun j d e => ?_, fun j c g => ?_, fun j k c c' a g1 g2 e1 e2 => ?_, fun j c a g e => ?_, fun j x e => ?_, fun s hs => R.cl s (sub s hs), R.tb⟩
  · by_cases hj : j ∈ is
    · exact hd j d hj e
    · obtain ⟨v, h1, h2⟩ := R.dat j d (by rw [← h.e j hj]; exact e)
      exact ⟨v, by rw [h.s j hj]; exact h1, h2.mono (wo_sub sub)⟩
  · obtain ⟨n, g'⟩ := h.getO g
    obtain ⟨a, h1, h2⟩ := R.own j c g'
    exact ⟨a, by rw [h.s j n]; exact h1, h2.sub sub⟩
  · obtain ⟨n1, g1'⟩ := h.getO g1
    obtain ⟨n2, g2'⟩ := h.getO g2
    exact R.inj j k c c' a g1' g2' (by rw [← h.s j n1]; exact e1) (by rw [← h.s k n2]; exact e2)
  · obtain ⟨n1, g1'⟩ := h.getO g
    exact R.out j c a g1' (by rw [← h.s j n1]; exact e)
  · by_cases hj : j ∈ is
    · exact absurd e (hx j x hj)
    · obtain ⟨a, cls, d, h1, h2, h3, h4⟩ := R.ex j x (by rw [← h.e j hj]; exact e)
      exact ⟨a, cls, d, h1, by rw [h.s j hj]; exact h2, h3, h4.imp id fun ⟨dx, vs, g1, g2, g3⟩ => ⟨dx, vs, g1, wo_sub sub _ _ g2, g3.mono (wo_sub sub)⟩⟩
theorem putN_some {i : Nat} {d : UbP.D} (h : putN i d env = some env') : env' = env.set i (.dat d) ∧ i < env.length ∧ ∀ c, env[i]? ≠ some (Sl.par c) := by
  unfold putN at h
  split at h
  · rename_i g; cases h; exact ⟨rfl, get_lt g, fun c e => by rw [g] at e; cases e⟩
  · rename_i g; cases h; exact ⟨rfl, get_lt g, fun c e => by rw [g] at e; cases e⟩
  · rename_i g; cases h; exact ⟨rfl, get_lt g, fun c e => by rw [g] at e; cases e⟩
  · cases h
theorem setN {i : Nat} {d : UbP.D} {v : V} (R : RelT z O H σ env) (h : putN i d env = some env') (hv : Dq z.K (wo (cells σ env O) H) v d) : RelT z O H (σ.set i (some v)) env' ∧ Chg [i] σ env (σ.set i (some v)) env' := by
  obtain ⟨rfl, hl, np⟩ := putN_some h
  have C : Chg [i] σ env (σ.set i (some v)) (env.set i (.dat d)) := by
    refine ⟨List.length_set .., List.length_set .., fun j n => ?_, fun j n => ?_, fun j m => ?_⟩
    · exact List.getElem?_set_ne fun z => n (by rw [z]; exact List.mem_singleton.mpr rfl)
    · exact List.getElem?_set_ne fun z => n (by rw [z]; exact List.mem_singleton.mpr rfl)
    · have e := List.mem_singleton.mp m
      subst e
      exact ⟨np, _, List.getElem?_set_self hl, rfl⟩
  refine ⟨R.chg C (fun j d' m e => ?_) (fun j x m e => ?_), C⟩
  · have e' := List.mem_singleton.mp m
    subst e'
    rw [List.getElem?_set_self hl] at e
    cases e
    exact ⟨v, List.getElem?_set_self (by rw [R.len]; exact hl), hv.mono (wo_sub C.cells)⟩
  · have e' := List.mem_singleton.mp m
    subst e'
    rw [List.getElem?_set_self hl] at e
    cases e
end
mutual
def gT (K : PySem.W.Frag) : Tg → TG
  | .nm i => gName i
  | .tp ts => gTup K ts.length (gTs K ts)
def gTs (K : PySem.W.Frag) : List Tg → TGs
  | [] => gNil
  | t :: ts => gCons (gT K t) (gTs K ts)
end
section
variable {z : Z} {B : Fm} {O : SS} {H H' H1 : Hp}
mutual
theorem putT_ok : ∀ (tg : Tg) (d : UbP.D) (v : V) (σ : L2.St) (env env' : Env), RelT z O H σ env → putT tg d env = some env' → Dq z.K (wo (cells σ env O) H) v d →
    ∃ σ', (∀ Q : L2.St → Hp → Prop, Q σ' H → gT z.K tg v σ H Q) ∧ RelT z O H σ' env' ∧ Chg (slots tg) σ env σ' env'
  | .nm i, d, v, σ, env, env', R, h, hv => by
    unfold putT at h
    obtain ⟨R', C⟩ := setN R h hv
    refine ⟨_, fun Q q => ?_, R', by unfold slots; exact C⟩
    unfold gT
    exact q
  | .tp ts, .tup ds, v, σ, env, env', R, h, hv => by
    unfold putT at h
    cases hv with
    | tup h1 h2 =>
      obtain ⟨σ', q, R', C⟩ := putTs_ok ts ds _ σ env env' R h h2
      refine ⟨σ', fun Q k => ?_, R', by unfold slots; exact C⟩
      unfold gT
      exact ⟨_, _, rfl, Same.tseq wo_same h1, by rw [h2.len]; exact (putTs_len h).symm, q Q k⟩
  | .tp ts, .non, v, σ, env, env', R, h, hv => by unfold putT at h; cases h
  | .tp ts, .bl _, v, σ, env, env', R, h, hv => by unfold putT at h; cases h
  | .tp ts, .int _, v, σ, env, env', R, h, hv => by unfold putT at h; cases h
  | .tp ts, .str _, v, σ, env, env', R, h, hv => by unfold putT at h; cases h
  | .tp ts, .lst _, v, σ, env, env', R, h, hv => by unfold putT at h; cases h
  | .tp ts, .lsf _, v, σ, env, env', R, h, hv => by unfold putT at h; cases h
  | .tp ts, .obj _ _, v, σ, env, env', R, h, hv => by unfold putT at h; cases h
theorem putTs_ok : ∀ (ts : List Tg) (ds : List UbP.D) (vs : List V) (σ : L2.St) (env env' : Env), RelT z O H σ env → putTs ts ds env = some env' → DqAll z.K (wo (cells σ env O) H) vs ds →
    ∃ σ', (∀ Q : L2.St → Hp → Prop, Q σ' H → gTs z.K ts vs σ H Q) ∧ RelT z O H σ' env' ∧ Chg (slots.slotsL ts) σ env σ' env'
  | [], [], vs, σ, env, env', R, h, hv => by
    unfold putTs at h
    cases h
    cases hv
    refine ⟨σ, fun Q q => by unfold gTs; exact ⟨rfl, q⟩, R, ?_⟩
    unfold slots.slotsL
    exact ⟨rfl, rfl, fun _ _ => rfl, fun _ _ => rfl, fun j m => absurd m List.not_mem_nil⟩
  | t :: ts, d :: ds, vs, σ, env, env', R, h, hv => by
    unfold putTs at h
    obtain ⟨env1, e1, e2⟩ := Option.bind_eq_some_iff.mp h
    cases hv with
    | cons h1 h2 =>
      obtain ⟨σ1, q1, R1, C1⟩ := putT_ok t d _ σ env env1 R e1 h1
      obtain ⟨σ2, q2, R2, C2⟩ := putTs_ok ts ds _ σ1 env1 env' R1 e2 (h2.mono (wo_sub C1.cells))
      refine ⟨σ2, fun Q q => ?_, R2, by unfold slots.slotsL; exact C1.trans C2⟩
      unfold gTs
      exact ⟨_, _, rfl, q1 _ (q2 Q q)⟩
  | [], _ :: _, vs, σ, env, env', R, h, hv => by unfold putTs at h; cases h
  | _ :: _, [], vs, σ, env, env', R, h, hv => by unfold putTs at h; cases h
theorem putTs_len : ∀ {ts : List Tg} {ds : List UbP.D} {env env' : Env}, putTs ts ds env = some env' → ts.length = ds.length
  | [], [], _, _, _ => rfl
  | t :: ts, d :: ds, _, _, h => by
    unfold putTs at h
    obtain ⟨env1, e1, e2⟩ := Option.bind_eq_some_iff.mp h
    rw [List.length_cons, List.length_cons, putTs_len e2]
  | [], _ :: _, _, _, h => by unfold putTs at h; cases h
  | _ :: _, [], _, _, h => by unfold putTs at h; cases h
end
end
section
variable {X : Cx} {z : Z} {e a b : Expr} {st : Stmt} {rest : List Stmt} {fa fb : M Vw} {f g : M Fl} {ft : M Bool} {pos p : Pos} {x : Str}
theorem pu_snil : PSs X [] (tS z sNx) := PSs_imp pss_nil fun D σ H ⟨B, env, R, b, P⟩ => P σ H R b Stp.refl
theorem pu_sone (h : PS X st (tS z f)) : PSs X [st] (tS z f) := pss_one h
theorem pu_scons (h : PS X st (tS z f)) (hr : PSs X rest (tS z g)) : PSs X (st :: rest) (tS z (sSeq f g)) := PSs_imp (pss_cons h hr) fun D σ H ⟨B, env, R, b, P⟩ => by
  refine ⟨B, env, R, b, ?_⟩
  unfold sSeq bnd at P
  cases ef : f env with
  | ok fl e1 =>
    rw [ef] at P
    cases fl with
    | nx => exact fun σ' H' R' b' s => ⟨B, e1, R', b', PostS.move s P⟩
    | bk => exact P
    | ct => exact P
    | rt w => exact P
  | exc x e1 => rw [ef] at P; exact P
  | bad => rw [ef] at P; exact P
theorem pu_sset {i : Nat} {pos' : Pos} (hN : X.N.Nodup) (hi : X.N[i]? = some x) (hx : Loc X.env.scope x) (he : PE X e (tP z fa)) (hs : swapsWith e (some (.Name x pos')) pos.line X.env = pure false := by rfl) (hf : X.fn x = true ∨ X.env.scope.names.lookup x = some .local := by first | exact .inl rfl | exact .inr rfl | assumption) :
    PS X (.Assign [.Name x pos'] e pos) (tS z (sSet i fa)) := PS_imp (ps_set hN hi hx he hs hf) fun D σ H ⟨B, env, R, b, P⟩ =>
  tG_mono (postS_bnd R b P) fun v H1 ⟨env1, w, R1, b1, s1, so1, hV, P1⟩ => by
    obtain ⟨d, e1, P2⟩ := postS_stay P1
    exact tsetP R1 b1 (hV.1.stay e1) P2
where
  tsetP {i : Nat} {z : Z} {B : Fm} {σ : L2.St} {env : Env} {H : Hp} {D : Ends} {d : UbP.D} {v : V} (R : RelT z B.O H σ env) (b : Base B σ env H) (hv : Dq z.K (wo (cells σ env B.O) H) v d) (P : PostS z B σ env H D (putM (.nm i) d env)) : D.nx (σ.set i (some v)) H := by
    unfold putM at P
    cases e : putT (.nm i) d env with
    | none => rw [e] at P; exact P.elim
    | some env' =>
      rw [e] at P
      unfold putT at e
      obtain ⟨R', C⟩ := setN R e hv
      exact P _ H R' (C.base b) C.stp
/-- a new thing is owned -/
theorem setOwn {B : Fm} {σ : L2.St} {env0 env : Env} {H H1 : Hp} {D : Ends} {c : Ct} {v : V} {i : Nat} (s1 : SameC (ownS σ env0) H H1) (so : SameO env0 env) (R : RelT z B.O H1 σ env) (b : Base B σ env H1) (hV : vE z B.O env σ H H1 v (.f c)) (h0 : ∀ a, H a = none → B.H0 a = none) (P : PostS z B σ env0 H D (ownN i c env)) : D.nx (σ.set i (some v)) H1 := by
  obtain ⟨⟨a, rfl, na, hc⟩, hn, haw⟩ := hV
  have Ra := haw a rfl
  have ce : cells σ env (fun s => B.O s ∨ s = a) = fun s => cells σ env B.O s ∨ s = a := cells_or
  have go : ∀ {s0 : Sl}, env[i]? = some s0 → (∀ c, s0 ≠ .par c) → PostS z B σ env0 H D (.ok .nx (env.set i (.own c))) → D.nx (σ.set i (some (.ref a))) H1 := fun {s0} hi np P => by
    have hl := get_lt hi
    have hlσ : i < σ.length := by rw [R.len]; exact hl
    have eS : ∀ j : Nat, j ≠ i → (σ.set i (some (V.ref a)))[j]? = σ[j]? := fun j n => List.getElem?_set_ne (Ne.symm n)
    have eE : ∀ j : Nat, j ≠ i → (env.set i (Sl.own c))[j]? = env[j]? := fun j n => List.getElem?_set_ne (Ne.symm n)
    have eO : ∀ j : Nat, j ≠ i → getO j (env.set i (Sl.own c)) = getO j env := fun j n => by unfold getO; rw [eE j n]
    have eI : getO i (env.set i (Sl.own c)) = some c := getO_own (List.getElem?_set_self hl)
    have sI : (σ.set i (some (V.ref a)))[i]? = some (some (V.ref a)) := List.getElem?_set_self hlσ
    have sub : ∀ s, cells (σ.set i (some (V.ref a))) (env.set i (Sl.own c)) B.O s → cells σ env (fun s => B.O s ∨ s = a) s := fun s hs => by
      rw [ce]
      rcases hs with ⟨j, cj, g, e⟩ | hs
      · by_cases hj : j = i
        · subst hj
          rw [sI] at e
          cases e
          exact .inr rfl
        · rw [eO j hj] at g
          rw [eS j hj] at e
          exact .inl (.inl ⟨j, cj, g, e⟩)
      · exact .inl (.inr hs)
    have notA : ∀ j cj, getO j env = some cj → σ[j]? = some (some (V.ref a)) → False := fun j cj g e => na (.inl ⟨j, cj, g, e⟩)
    refine P _ H1 ⟨by simp [R.len], fun j d e => ?_, fun j cj g => ?_, fun j k cj ck s g1 g2 e1 e2 => ?_, fun j cj s g e => ?_, fun j x e => ?_, fun s hs => Ra.cl s (sub s hs), R.tb⟩ ⟨by rw [List.length_set]; exact b.len, fun j => ?_, fun j cj e => ?_, b.heap, fun j cj s e e' => ?_⟩ ?_
    · by_cases hj : j = i
      · subst hj
        rw [List.getElem?_set_self hl] at e
        cases e
      · rw [eE j hj] at e
        obtain ⟨v, h1, h2⟩ := Ra.dat j d e
        exact ⟨v, by rw [eS j hj]; exact h1, h2.mono (wo_sub sub)⟩
    · by_cases hj : j = i
      · subst hj
        rw [eI] at g
        cases g
        exact ⟨a, sI, hc.sub fun s hs => by have := sub s hs; rw [ce] at this; exact this⟩
      · rw [eO j hj] at g
        obtain ⟨s, h1, h2⟩ := Ra.own j cj g
        exact ⟨s, by rw [eS j hj]; exact h1, h2.sub sub⟩
    · by_cases hj : j = i
      · by_cases hk : k = i
        · rw [hj, hk]
        · subst hj
          rw [sI] at e1
          cases e1
          rw [eO k hk] at g2
          rw [eS k hk] at e2
          exact (notA k ck g2 e2).elim
      · by_cases hk : k = i
        · subst hk
          rw [sI] at e2
          cases e2
          rw [eO j hj] at g1
          rw [eS j hj] at e1
          exact (notA j cj g1 e1).elim
        · rw [eO j hj] at g1
          rw [eO k hk] at g2
          rw [eS j hj] at e1
          rw [eS k hk] at e2
          exact R.inj j k cj ck s g1 g2 e1 e2
    · by_cases hj : j = i
      · subst hj
        rw [sI] at e
        cases e
        exact fun h => na (.inr h)
      · rw [eO j hj] at g
        rw [eS j hj] at e
        exact R.out j cj s g e
    · by_cases hj : j = i
      · subst hj
        rw [List.getElem?_set_self hl] at e
        cases e
      · rw [eE j hj] at e
        obtain ⟨s, cls, d, h1, h2, h3, h4⟩ := Ra.ex j x e
        exact ⟨s, cls, d, h1, by rw [eS j hj]; exact h2, h3, h4.imp id fun ⟨dx, vs, g1, g2, g3⟩ => ⟨dx, vs, g1, wo_sub sub _ _ g2, g3.mono (wo_sub sub)⟩⟩
    · rw [← b.par j]
      by_cases hj : j = i
      · subst hj
        constructor
        · rintro ⟨cj, e⟩
          rw [List.getElem?_set_self hl] at e
          cases e
        · rintro ⟨cj, e⟩
          rw [hi] at e
          cases e
          exact absurd rfl (np cj)
      · rw [eE j hj]
    · have hj : j ≠ i := fun hj => by
        subst hj
        rw [List.getElem?_set_self hl] at e
        cases e
      rw [eE j hj] at e
      rw [eS j hj]
      exact b.at_ j cj e
    · by_cases hj : j = i
      · subst hj
        rw [sI] at e'
        cases e'
        exact h0 a (hn a rfl)
      · rw [eE j hj] at e
        rw [eS j hj] at e'
        exact b.new j cj s e e'
    · -- the step
      have t1 : UbG.SameT (wo (cells σ env B.O) H) (wo (fun s => cells σ env B.O s ∨ s = a) H1) := wT_ext (pS := ownS σ env) (Ex := fun s => s = a) (by rw [← so.ownS σ]; exact s1) (fun s h => .inl h) fun s h => by rw [h]; exact hn a rfl
      unfold Stp
      rw [so.cells σ B.O]
      refine t1.trans (UbG.sameT (wo_sub fun s hs => ?_))
      have := sub s hs
      rw [ce] at this
      exact this
  unfold ownN at P
  split at P
  · rename_i hi; exact go hi (fun _ z => by cases z) P
  · rename_i hi; exact go hi (fun _ z => by cases z) P
  · rename_i hi; exact go hi (fun _ z => by cases z) P
  · exact P.elim
theorem Base.none {B : Fm} {σ : L2.St} {env : Env} {H : Hp} (b : Base B σ env H) {a : Addr} (h : H a = none) : B.H0 a = none := b.heap.dom a h
theorem pu_sown {i : Nat} {pos' : Pos} (hN : X.N.Nodup) (hi : X.N[i]? = some x) (hx : Loc X.env.scope x) (he : PE X e (tP z fa)) (hs : swapsWith e (some (.Name x pos')) pos.line X.env = pure false := by rfl) (hf : X.fn x = true ∨ X.env.scope.names.lookup x = some .local := by first | exact .inl rfl | exact .inr rfl | assumption) :
    PS X (.Assign [.Name x pos'] e pos) (tS z (sOwn i fa)) := PS_imp (ps_set hN hi hx he hs hf) fun D σ H ⟨B, env, R, b, P⟩ =>
  tG_mono (postS_bnd0 R b P) fun v H1 ⟨env1, w, R1, b1, s1, so1, hV, P1⟩ => by
    cases w with
    | f c' => exact setOwn s1 so1 R1 b1 hV (fun a h => b.none h) P1
    | d _ => exact P1.elim
    | o _ => exact P1.elim
theorem pu_sex (he : PE X e (tP z fa)) (hs : swapsWith e none pos.line X.env = pure false := by rfl) : PS X (.Expr e pos) (tS z (sEx fa)) := PS_imp (ps_expr he hs) fun D σ H ⟨B, env, R, b, P⟩ =>
  tG_mono (postS_bnd R b P) fun v H1 ⟨env1, w, R1, b1, s1, so1, hV, P1⟩ => P1 σ H1 R1 b1 Stp.refl
theorem pu_sif {c : Expr} {ss ts : List Stmt} (hc : PT X c (tT z ft)) (ha : PSs X ss (tS z f)) (hb : PSs X ts (tS z g)) : PS X (.If c ss ts pos) (tS z (sIf ft f g)) := PS_imp (ps_if hc ha hb) fun D σ H ⟨B, env, R, b, P⟩ =>
  tG_mono (postS_bnd R b P) fun k H1 ⟨env1, w, R1, b1, s1, so1, hV, P1⟩ => by
    cases hV
    cases k with
    | true => exact ⟨B, env1, R1, b1, P1⟩
    | false => exact ⟨B, env1, R1, b1, P1⟩
theorem pu_sbreak : PS X (.Break pos) (tS z sBk) := PS_imp ps_break fun D σ H ⟨B, env, R, b, P⟩ => P σ H R b Stp.refl
/-- an owned thing leaves its slot -/
theorem leave {B : Fm} {σ : L2.St} {env : Env} {H : Hp} {c : Ct} {a : Addr} {i : Nat} (R : RelT z B.O H σ env) (hi : env[i]? = some (Sl.own c)) (ea : σ[i]? = some (some (V.ref a))) :
    ∃ σ', Chg [i] σ env σ' (env.set i .no) ∧ RelT z B.O H σ' (env.set i .no) ∧ RelT z (fun s => B.O s ∨ s = a) H σ' (env.set i .no) ∧ ¬cells σ' (env.set i .no) B.O a := by
  have hl := get_lt hi
  have g := getO_own hi
  have C : Chg [i] σ env σ (env.set i .no) := by
    refine ⟨rfl, List.length_set .., fun j _ => rfl, fun j n => List.getElem?_set_ne fun z => n (by rw [z]; exact List.mem_singleton.mpr rfl), fun j m => ?_⟩
    have e := List.mem_singleton.mp m
    subst e
    exact ⟨fun c e => (by rw [hi] at e; cases e), .no, List.getElem?_set_self hl, rfl⟩
  have hd : ∀ {z : Z} {S : SS} (j : Nat) (d : UbP.D), j ∈ [i] → (env.set i .no)[j]? = some (Sl.dat d) → ∃ v : V, σ[j]? = some (some v) ∧ Dq z.K (wo S H) v d := fun j d m e => by
    have e' := List.mem_singleton.mp m
    subst e'
    rw [List.getElem?_set_self hl] at e
    cases e
  have hx : ∀ j x, j ∈ [i] → (env.set i .no)[j]? ≠ some (Sl.ex x) := fun j x m e => by
    have e' := List.mem_singleton.mp m
    subst e'
    rw [List.getElem?_set_self hl] at e
    cases e
  have na : ¬cells σ (env.set i .no) B.O a := fun h => by
    rcases h with ⟨j, cj, gj, e⟩ | h
    · obtain ⟨n, g'⟩ := C.getO gj
      exact n (by rw [R.inj j i cj c a g' g e ea]; exact List.mem_singleton.mpr rfl)
    · exact R.out i c a g ea h
  have sub : ∀ s, cells σ (env.set i .no) (fun s => B.O s ∨ s = a) s → cells σ env B.O s := fun s hs => by
    rw [cells_or] at hs
    rcases hs with hs | hs
    · exact C.cells s hs
    · rw [hs]
      exact .inl ⟨i, c, g, ea⟩
  refine ⟨σ, C, R.chg C (fun j d => hd j d) hx, ?_, na⟩
  refine ⟨by simp [R.len], fun j d e => ?_, fun j cj gj => ?_, fun j k c c' s g1 g2 e1 e2 => ?_, fun j cj s gj e h => ?_, fun j x e => ?_, fun s hs => R.cl s (sub s hs), R.tb⟩
  · by_cases hj : j = i
    · subst hj
      rw [List.getElem?_set_self hl] at e
      cases e
    · rw [List.getElem?_set_ne (Ne.symm hj)] at e
      obtain ⟨v, h1, h2⟩ := R.dat j d e
      exact ⟨v, h1, h2.mono (wo_sub sub)⟩
  · obtain ⟨n, g'⟩ := C.getO gj
    obtain ⟨s, h1, h2⟩ := R.own j cj g'
    exact ⟨s, h1, h2.sub sub⟩
  · exact R.inj j k c c' s (C.getO g1).2 (C.getO g2).2 e1 e2
  · rcases h with h | h
    · exact R.out j cj s (C.getO gj).2 e h
    · subst h
      exact na (.inl ⟨j, cj, gj, e⟩)
  · by_cases hj : j = i
    · subst hj
      rw [List.getElem?_set_self hl] at e
      cases e
    · rw [List.getElem?_set_ne (Ne.symm hj)] at e
      obtain ⟨s, cls, d, h1, h2, h3, h4⟩ := R.ex j x e
      exact ⟨s, cls, d, h1, h2, h3, h4.imp id fun ⟨dx, vs, g1, g2, g3⟩ => ⟨dx, vs, g1, wo_sub sub _ _ g2, g3.mono (wo_sub sub)⟩⟩
theorem pu_sret (he : PE X e (tP z fa)) : PS X (.Return (some e) pos) (tS z (sRet fa)) := PS_imp (ps_ret he) fun D σ H ⟨B, env, R, b, P⟩ =>
  tG_mono (postS_bnd0 R b P) fun v H1 ⟨env1, w, R1, b1, s1, so1, hV, P1⟩ => by
    cases w with
    | d x => exact P1 v σ H1 R1 b1 hV.1 True.intro True.intro
    | f c => exact P1 v σ H1 R1 b1 hV.1 (fun a ea => b.none (hV.2.1 a ea)) hV.2.2
    | o i =>
      dsimp only at P1
      split at P1
      · rename_i c hi
        have ea : σ[i]? = some (some v) := hV.1
        obtain ⟨a, h1, h2⟩ := R1.own i c (getO_own hi)
        rw [h1] at ea
        cases ea
        obtain ⟨σ', C, R2, R3, na⟩ := leave R1 hi h1
        refine P1 (.ref a) σ' H1 R2 (C.base b1) ⟨a, rfl, na, h2.sub fun s hs => ?_⟩ (fun a' ea' => by cases ea'; exact b1.new i c a hi h1) fun a' ea' => by cases ea'; exact R3
        rcases hs with hs | hs
        · exact C.cells s hs
        · rw [hs]
          exact .inl ⟨i, c, getO_own hi, h1⟩
      · exact P1.elim
/-- an owned thing becomes data -/
theorem pu_frz {i : Nat} {ss : List Stmt} (h : PSs X ss (tS z f)) : PSs X ss (tS z (frz i f)) := PSs_imp h fun D σ H ⟨B, env, R, b, P⟩ => by
  unfold frz at P
  cases e : frzE i env with
  | none => rw [e] at P; exact P.elim
  | some env' =>
    rw [e] at P
    unfold frzE at e
    split at e
    · rename_i c hi
      cases e
      obtain ⟨a, h1, h2⟩ := R.own i c (getO_own hi)
      have hl := get_lt hi
      have C : Chg [i] σ env σ (env.set i (.dat c.toD)) := by
        refine ⟨rfl, List.length_set .., fun j _ => rfl, fun j n => List.getElem?_set_ne fun z => n (by rw [z]; exact List.mem_singleton.mpr rfl), fun j m => ?_⟩
        have e := List.mem_singleton.mp m
        subst e
        exact ⟨fun c e => (by rw [hi] at e; cases e), .dat c.toD, List.getElem?_set_self hl, rfl⟩
      have na : ¬cells σ (env.set i (.dat c.toD)) B.O a := fun h => by
        rcases h with ⟨j, cj, gj, e⟩ | h
        · obtain ⟨n, g'⟩ := C.getO gj
          exact n (by rw [R.inj j i cj c a g' (getO_own hi) e h1]; exact List.mem_singleton.mpr rfl)
        · exact R.out i c a (getO_own hi) h1 h
      refine ⟨B, _, R.chg C (fun j d m e => ?_) (fun j x m e => ?_), C.base b, PostS.move C.stp P⟩
      · have e' := List.mem_singleton.mp m
        subst e'
        rw [List.getElem?_set_self hl] at e
        cases e
        exact ⟨.ref a, h1, h2.data na C.cells⟩
      · have e' := List.mem_singleton.mp m
        subst e'
        rw [List.getElem?_set_self hl] at e
        cases e
    · cases e
      exact ⟨B, _, R, b, P⟩
    · cases e
end
end UbP
namespace UbP
open PySem PySem.Spec PyProof.Rows L2 UbM Ub
structure ItOk (K : PySem.W.Frag) (S : SS) (H : Hp) (J : It) (ds : List D) : Prop where
  at_ : ∀ (i : Nat) (S' : SS) (H' : Hp), UbG.SameT (wo S H) (wo S' H') → Cl S' H' → (i < ds.length → J.go i H') ∧ (ds.length ≤ i → J.stop i H') ∧ ∀ x H'', i < ds.length → J.yld i H' x H'' → Same H' H'' ∧ ∃ d, ds[i]? = some d ∧ Dq K (wo S' H'') x d
def vIt : VRt (List D) It := fun z O env σ _ H' J ds => ItOk z.K (cells σ env O) H' J ds
theorem bkI : Back vIt := fun _ _ _ _ _ _ _ _ _ _ _ h => h
abbrev tI (z : Z) (f : M (List D)) : TI := fun σ H R => tG vIt z f σ H R
theorem PI_imp {X : Cx} {tg it : Expr} {t t' : TI} (h : PI X tg it t) (i : ∀ σ H R, t' σ H R → t σ H R) : PI X tg it t' := ⟨fun pins s σ H R I q => h.run pins s σ H R I (i _ _ _ q)⟩
theorem PI_or {X : Cx} {tg it : Expr} {t t' : TI} (h : PI X tg it t) (h' : PI X tg it t') : PI X tg it (fun σ H R => t σ H R ∨ t' σ H R) := ⟨fun pins s σ H R I q => q.elim (h.run pins s σ H R I) (h'.run pins s σ H R I)⟩
section
variable {K : PySem.W.Frag} {S : SS} {H : Hp} {a b : Addr} {xs ys : List V} {ds es : List D}
theorem sq_move {S' : SS} {H' : Hp} (h : SqL K (wo S H) a xs) (e : UbG.SameT (wo S H) (wo S' H')) : SqL K H' a xs := Same.seq wo_same (UbG.SameT.seq e h)
theorem it_list (h1 : SqL K (wo S H) a xs) (h2 : DqAll K (wo S H) xs ds) : ItOk K S H (Itl K a) ds := ⟨fun i S' H' e c => by
  have hl := h2.len
  have q := sq_move h1 e
  refine ⟨fun hi => ⟨xs, xs[i]'(by omega), q, List.getElem?_eq_getElem _⟩, fun hi => ⟨xs, q, by omega⟩, fun x H'' hi y => ?_⟩
  obtain ⟨rfl, y⟩ := y
  obtain ⟨d, e1, e2⟩ := h2.at (y xs q)
  exact ⟨same_refl, d, e1, Dq.monoT e _ _ e2⟩⟩
theorem it_tup (h1 : SqT K (wo S H) a xs) (h2 : DqAll K (wo S H) xs ds) : ItOk K S H (Itt K a) ds := ⟨fun i S' H' e c => by
  have hl := h2.len
  have q : SqT K H' a xs := Same.tseq wo_same (UbG.SameT.tseq e h1)
  refine ⟨fun hi => ⟨xs, xs[i]'(by omega), q, List.getElem?_eq_getElem _⟩, fun hi => ⟨xs, q, by omega⟩, fun x H'' hi y => ?_⟩
  obtain ⟨rfl, y⟩ := y
  obtain ⟨d, e1, e2⟩ := h2.at (y xs q)
  exact ⟨same_refl, d, e1, Dq.monoT e _ _ e2⟩⟩
theorem it_str {x : Str} : ItOk K S H (Its x) (signsD x) := ⟨fun i S' H' e c => by
  have hl : (signsD x).length = x.cps.size := by unfold signsD; rw [List.length_map, Array.length_toList]
  rw [hl]
  refine ⟨fun hi => hi, fun hi => hi, fun y H'' hi z => ?_⟩
  obtain ⟨rfl, c, hc, rfl⟩ := z
  refine ⟨same_refl, .str (sgn c), ?_, .str _⟩
  unfold signsD
  rw [List.getElem?_map, Array.getElem?_toList, hc]
  rfl⟩
theorem ints_at {lo : Int} {n i : Nat} (hi : i < n) : (intsL lo n)[i]? = some (.int (lo + (i : Nat))) := by
  unfold intsL
  rw [List.getElem?_map, List.getElem?_range hi]
  rfl
theorem ints_len {lo : Int} {n : Nat} : (intsL lo n).length = n := by
  unfold intsL
  rw [List.length_map, List.length_range]
theorem it_range {lo : Int} {n : Nat} : ItOk K S H (Itr lo n) (intsL lo n) := ⟨fun i S' H' e c => by
  rw [ints_len]
  refine ⟨fun hi => hi, fun hi => hi, fun x H'' hi y => ?_⟩
  obtain ⟨rfl, rfl⟩ := y
  exact ⟨same_refl, _, ints_at hi, .int _⟩⟩
theorem enum_len : (enumF ds).length = ds.length := by
  unfold enumF
  rw [List.length_map, List.length_range]
theorem enum_at {i : Nat} {d : D} (h : ds[i]? = some d) : (enumF ds)[i]? = some (.tup [.int (i : Nat), d]) := by
  have hi := (List.getElem?_eq_some_iff.mp h).1
  unfold enumF
  rw [List.getElem?_map, List.getElem?_range hi]
  show some (D.tup [D.int i, ds.getD i .non]) = _
  rw [List.getD_eq_getElem?_getD, h]
  rfl
theorem it_enum (h1 : SqL K (wo S H) a xs) (h2 : DqAll K (wo S H) xs ds) : ItOk K S H (Ite K a) (enumF ds) := ⟨fun i S' H' e c => by
  have hl := h2.len
  have q := sq_move h1 e
  rw [enum_len]
  refine ⟨fun hi => ⟨xs, xs[i]'(by omega), q, List.getElem?_eq_getElem _⟩, fun hi => ⟨xs, q, by omega⟩, fun x H'' hi y => ?_⟩
  obtain ⟨T, x1, rfl, nT, rfl, y⟩ := y
  obtain ⟨d, e1, e2⟩ := h2.at (y xs q)
  have e2' := Dq.monoT e _ _ e2
  refine ⟨sameNew nT, _, enum_at e1, ?_⟩
  rw [wo_new (c.new nT)]
  exact .tup (.inl (.inl upd_same)) (.cons (.int _) (.cons (e2'.mono (sameNew (wo_none nT))) .nil))⟩
end
section
variable {X : Cx} {z : Z} {tg e e2 : Expr} {fa fb : M Vw} {pos p tpos : Pos} {elts : List Expr} {kk : Nat} {O : SS} {σ : L2.St} {env : Env} {H : Hp}
theorem pu_iE (hK : X.K = z.K) (ha : PE X e (tP z fa)) : PI X tg e (tI z (iE fa)) := PI_imp (PI_or (pi_list ha) (PI_or (pi_tup ha) (pi_str ha))) fun σ H R ⟨O, env, RT, P⟩ => by
  rw [hK]
  have key : ∀ (w : Vw) (env1 : Env), fa env = .ok w env1 → PostG vIt z O σ env H R (bnd (stayM w) (fun d => optM (walkD d)) env1) → iList z.K (tP z fa) σ H R ∨ (iTup z.K (tP z fa) σ H R ∨ iStr (tP z fa) σ H R) := fun w env1 e P => by
    cases ew : w.stay with
    | none =>
      unfold bnd stayM optM at P
      rw [ew] at P
      exact P.elim
    | some d =>
      have P : PostG vIt z O σ env H R (optM (walkD d) env1) := by
        unfold bnd stayM optM at P
        rw [ew] at P
        exact P
      cases d with
      | lst ds =>
        refine .inl ⟨O, env, RT, ?_⟩
        rw [e]
        intro v H1 s1 R1 so V
        have h := V.1.stay ew
        cases h with
        | lst h1 h2 => exact ⟨_, rfl, ⟨_, Same.seq wo_same (.inl (.inl h1))⟩, P _ H1 s1 R1 so (it_list (.inl (.inl h1)) h2)⟩
      | lsf ds =>
        refine .inl ⟨O, env, RT, ?_⟩
        rw [e]
        intro v H1 s1 R1 so V
        have h := V.1.stay ew
        cases h with
        | lsf h1 h2 => exact ⟨_, rfl, ⟨_, Same.seq wo_same h1⟩, P _ H1 s1 R1 so (it_list h1 h2)⟩
      | str x =>
        refine .inr (.inr ⟨O, env, RT, ?_⟩)
        rw [e]
        intro v H1 s1 R1 so V
        have h := V.1.stay ew
        cases h
        exact ⟨_, rfl, P _ H1 s1 R1 so it_str⟩
      | tup ds =>
        refine .inr (.inl ⟨O, env, RT, ?_⟩)
        rw [e]
        intro v H1 s1 R1 so V
        have h := V.1.stay ew
        cases h with
        | tup h1 h2 => exact ⟨_, rfl, ⟨_, Same.tseq wo_same h1⟩, P _ H1 s1 R1 so (it_tup h1 h2)⟩
      | _ => exact P.elim
  unfold iE at P
  cases e : fa env with
  | ok w env1 =>
    refine key w env1 e ?_
    unfold bnd at P
    rw [e] at P
    exact P
  | exc x env1 =>
    refine .inl ⟨O, env, RT, ?_⟩
    unfold bnd at P
    rw [e] at P ⊢
    exact P
  | bad =>
    unfold bnd at P
    rw [e] at P
    exact P.elim
theorem pu_iR1 (hg : Gl X "range") (hm : X.mg "range" = none) (ha : PE X e (tP z fa)) (hs : starEach [e] X.env = (false, eval e X.env) :: starEach [] X.env := by rfl) (hs' : starEach [e] X.env = [(false, eval e X.env)] := by rfl) : PI X tg (.Call (.Name "range" p) [e] [] pos) (tI z (iR1 fa)) := PI_imp (pi_range1 hg hm (pa_cons ha pa_nil hs) hs') fun σ H R ⟨O, env, RT, P⟩ =>
  tG_mono (post_bnd bkI RT P) fun v H1 ⟨env1, w, R1, s1, so1, V, P1⟩ => by
    obtain ⟨d, e1, P2⟩ := post_now P1
    cases d with
    | int j =>
      cases dv_int (V.1.now R1 e1)
      dsimp only at P2
      split at P2
      · rename_i hb
        have hb := of_decide_eq_true hb
        exact ⟨j, rfl, hb.1, hb.2, P2 _ H1 (SameC.refl _) R1 (SameO.refl _) it_range⟩
      · exact P2.elim
    | _ => exact P2.elim
end
section
variable {X : Cx} {z : Z} {tg it c : Expr} {body : List Stmt} {fi : M (List D)} {fb : M Fl} {ft : M Bool} {pos : Pos} {tgt : Tg}
theorem pu_sfor (hp : PassesOwn (model X.prog X.w) X.A X.env X.xe) (hc : X.calm = true) (hi : PI X tg it (tI z fi)) (hg : PG X tg (gT z.K tgt)) (hb : PSs X body (tS z fb)) (hs : ∀ x, foldedSetIterable it X.env x = pure x := by intro _; rfl) : PS X (.For tg it body [] pos) (tS z (sFor fi tgt fb)) := PS_imp (ps_for hp hc hi hg hb hs) fun D σ H ⟨B, env, R, b, P⟩ =>
  tG_mono (postS_bnd R b P) fun J H1 ⟨env1, ds, R1, b1, s1, so1, hJ, P1⟩ => by
    refine ⟨fun i m σ2 H2 => m = ds.length - i ∧ i ≤ ds.length ∧ ∃ env2, RelT z B.O H2 σ2 env2 ∧ Base B σ2 env2 H2 ∧ Stp B.O σ env1 H1 σ2 env2 H2 ∧ PostS z B σ2 env2 H2 D (forL tgt fb (ds.drop i) env2), ⟨ds.length, by simp, Nat.zero_le _, env1, R1, b1, Stp.refl, P1⟩, ?_⟩
    rintro i m σ2 H2 ⟨rfl, hi, env2, R2, b2, st2, P2⟩
    obtain ⟨go, stop, yld⟩ := hJ.at_ i (cells σ2 env2 B.O) H2 st2 R2.cl
    by_cases hl : i < ds.length
    · refine .inr ⟨go hl, _, fun σ' H' n => ⟨ds.length - (i + 1), by omega, n⟩, fun x H3 y => ?_⟩
      obtain ⟨sm, d, ed, hd⟩ := yld x H3 hl y
      have R3 := R2.mono (kp sm)
      have b3 := b2.mono (kp sm)
      have st3 : Stp B.O σ env1 H1 σ2 env2 H3 := st2.trans (wT_of (kp sm))
      have P3 : PostS z B σ2 env2 H3 D (forL tgt fb (ds.drop i) env2) := PostS.move (wT_of (kp sm)) P2
      rw [List.drop_eq_getElem_cons hl] at P3
      have ed' : ds[i] = d := by
        rw [List.getElem?_eq_getElem hl] at ed
        exact Option.some.inj ed
      rw [ed'] at P3
      unfold forL at P3
      cases ep : putT tgt d env2 with
      | none => rw [ep] at P3; exact P3.elim
      | some e1 =>
        rw [ep] at P3
        obtain ⟨σ4, q, R4, C⟩ := putT_ok tgt d x σ2 env2 e1 R3 ep hd
        refine q _ ⟨B, e1, R4, C.base b3, ?_⟩
        have st4 : Stp B.O σ env1 H1 σ4 e1 H3 := st3.trans C.stp
        dsimp only at P3
        cases eb : fb e1 with
        | ok fl e2 =>
          rw [eb] at P3
          cases fl with
          | nx => exact fun σ' H' R' b' s => ⟨rfl, hl, e2, R', b', st4.trans s, PostS.move (C.stp.trans s) P3⟩
          | ct => exact fun σ' H' R' b' s => ⟨rfl, hl, e2, R', b', st4.trans s, PostS.move (C.stp.trans s) P3⟩
          | bk => exact fun σ' H' R' b' s => P3 σ' H' R' b' (C.stp.trans s)
          | rt w => exact P3
        | exc x e2 => rw [eb] at P3; exact PostS.move C.stp P3
        | bad => rw [eb] at P3; exact P3
    · refine .inl ⟨stop (by omega), ?_⟩
      have e : ds.drop i = [] := List.drop_eq_nil_of_le (by omega)
      rw [e] at P2
      exact P2 σ2 H2 R2 b2 Stp.refl
theorem pu_swhile {n : Nat} (hp : PassesOwn (model X.prog X.w) X.A X.env X.xe) (hc : PT X c (tT z ft)) (hb : PSs X body (tS z fb)) : PS X (.While c body [] pos) (tS z (whl ft fb n)) := PS_imp (ps_while hp hc hb) fun D σ H ⟨B, env, R, b, P⟩ => by
  refine ⟨fun m σ2 H2 => ∃ env2, RelT z B.O H2 σ2 env2 ∧ Base B σ2 env2 H2 ∧ PostS z B σ2 env2 H2 D (whl ft fb m env2), ⟨n, env, R, b, P⟩, ?_⟩
  rintro m σ2 H2 ⟨env2, R2, b2, P2⟩
  cases m with
  | zero => exact P2.elim
  | succ m =>
    refine tG_mono (postS_bnd R2 b2 P2) fun k H3 ⟨env3, w, R3, b3, s3, so3, hV, P3⟩ => ?_
    cases hV
    cases k with
    | false => exact P3 σ2 H3 R3 b3 Stp.refl
    | true =>
      refine ⟨fun σ' H' => ∃ env', RelT z B.O H' σ' env' ∧ Base B σ' env' H' ∧ PostS z B σ' env' H' D (whl ft fb m env'), fun σ' H' h => ⟨m, Nat.lt_succ_self _, h⟩, B, env3, R3, b3, ?_⟩
      have P3 : PostS z B σ2 env3 H3 D (bnd fb (fun f => match f with
        | .nx => whl ft fb m
        | .ct => whl ft fb m
        | .bk => ret .nx
        | .rt w => ret (.rt w)) env3) := P3
      unfold bnd at P3
      cases eb : fb env3 with
      | ok fl e2 =>
        rw [eb] at P3
        cases fl with
        | nx => exact fun σ' H' R' b' s => ⟨e2, R', b', PostS.move s P3⟩
        | ct => exact fun σ' H' R' b' s => ⟨e2, R', b', PostS.move s P3⟩
        | bk => exact P3
        | rt w => exact P3
      | exc x e2 => rw [eb] at P3; exact P3
      | bad => rw [eb] at P3; exact P3
end
section
variable {X : Cx} {z : Z} {e a b : Expr} {fa fb fc : M Vw} {pos p : Pos} {x y : Str}
theorem pu_sitem {te : Expr} (he : PE X e (tP z fc)) (hg : PG X te (gSub (tP z fa) (tP z fb) rSetL)) (hs : swapsWithSole [te] e pos.line X.env = pure false := by rfl) (hw : swappedStores [te] e X.env = pure none := by rfl)
    (h1 : (assignEach [te] X.env).map (·.2) = [assign te X.env] := by rfl) : PS X (.Assign [te] e pos) (tS z (sItem fa fb fc)) := PS_imp (ps_asg he hg hs hw h1) fun D σ H ⟨B, env, R, b, P⟩ =>
  tG_mono (postS_bnd R b P) fun v H1 ⟨env1, w, R1, b1, s1, so1, hV, P1⟩ =>
  tG_mono (postS_bnd R1 b1 P1) fun o H2 ⟨env2, w2, R2, b2, s2, so2, hV2, P2⟩ =>
  tG_mono (postS_bnd R2 b2 P2) fun ix H3 ⟨env3, w3, R3, b3, s3, so3, hV3, P3⟩ => by
    obtain ⟨k, e1, P4⟩ := postS_opt P3
    obtain ⟨d, e2, P5⟩ := postS_stay P4
    obtain ⟨n, e3, P6⟩ := postS_now P5
    have hv := (vmove s3 so3 (vmove s2 so2 hV.1)).stay e2
    have hi := hV3.1.now R3 e3
    have ho := vmove s3 so3 hV2.1
    unfold bnd ownL at P6
    cases g : getO k env3 with
    | none => rw [g] at P6; exact P6.elim
    | some c =>
      rw [g] at P6
      cases c with
      | o _ _ => exact P6.elim
      | l ds =>
        dsimp only at P6
        cases n with
        | int m =>
          cases dv_int hi
          dsimp only at P6
          cases ej : ixI ds.length m with
          | none => rw [ej] at P6; exact P6.elim
          | some j =>
            rw [ej] at P6
            cases w2 with
            | o k' =>
              cases e1
              obtain ⟨a, h1, h2⟩ := R3.own _ _ g
              have ho : σ[k]? = some (some o) := ho
              rw [h1] at ho
              cases ho
              obtain ⟨xs, h3, h4⟩ := h2
              obtain ⟨R4, s4, so4⟩ := R3.putL (xs := xs) g h1 (h4.set j hv)
              refine ⟨a, xs, m, j, rfl, rfl, h3, ?_, ?_⟩
              · rw [h4.len]
                exact ej
              · exact P6 σ _ R4 (b3.step s4 so4) (stp_expr s4 so4)
            | d _ => cases e1
            | f _ => cases e1
        | _ => exact P6.elim
theorem excE {K : PySem.W.Frag} {S : SS} {H : Hp} {x : Str} : ExR K (wo S H) ⟨x, []⟩ (.ref (He.ga K x)) none := ⟨rfl, .inl ⟨rfl, rfl⟩⟩
theorem pu_sraise0 {x : Str} {pos2 : Pos} (hK : X.K = z.K) (hc : X.calm = true) (T : ExcK X.K X.mg x) (tk : Takes X z.W) (hg : Gl X x) (hdb : (x == ("__debug__" : Str)) = false := by decide) :
    PS X (.Raise (some (.Call (.Name x p) [] [] pos)) none pos2) (tS z (sRaise x [] List.isEmpty [])) := PS_imp (ps_raise0 hc T tk hg hdb) fun D σ H ⟨B, env, R, b, P⟩ => by
  rw [hK]
  exact P _ none σ H R b Stp.refl excE
theorem DqF.zip {K : PySem.W.Frag} {H : Hp} : ∀ {fs : List Str} {vs : List V} {ds : List D}, DqAll K H vs ds → DqF K H (fs.zip vs) (fs.zip ds)
  | [], _, _, _ => .nil
  | _ :: _, _, _, .nil => by simp; exact .nil
  | f :: fs, _, _, .cons h t => .cons h (DqF.zip t)
theorem pu_sraise {k j : Nat} {es : List Expr} {fs : List Str} {fas : List (M Vw)} {fl : List V → List (Str × V)} {ok : List V → Prop} {okd : List D → Bool} {pos2 : Pos} (hK : X.K = z.K) (hc : X.calm = true) (tk : Takes X z.W) (C : UbC.CalX X.prog X.w X.K X.mg X.base x k (UbC.spEI (He.ga X.K x) fl ok)) (hr : Room j X.A) (hj : k + 1 ≤ j) (hg : Gl X x)
    (hok : ∀ H vs ds, DqAll z.K H vs ds → okd ds = true → ok vs ∧ vs.length ≤ 1000 ∧ fl vs = fs.zip vs)
    (ha : PA X (e :: es) (tA z (eArgs fas))) (hdb : (x == ("__debug__" : Str)) = false := by decide)
    (he : starEach (e :: es) X.env = (false, eval e X.env) :: starEach es X.env := by rfl) (hpl : (backTo pos (starEach es X.env)).any (·.1) = false := by rfl) :
    PS X (.Raise (some (.Call (.Name x p) (e :: es) [] pos)) none pos2) (tS z (sRaise x fs okd fas)) := PS_imp (UbC.ps_raiseC hc tk C hr hj hg ha hdb he hpl) fun D σ H ⟨B, env, R, b, P⟩ =>
  tG_mono (postS_bnd R b P) fun vs H1 ⟨env1, ws, R1, b1, s1, so1, hV, P1⟩ => by
    obtain ⟨ds, e1, P2⟩ := postS_opt P1
    have hd := stays_rel hV e1
    split at P2
    · rename_i hk
      obtain ⟨h1, h2, h3⟩ := hok _ _ _ hd hk
      rw [hK]
      refine UbC.rdMkO (C := He.ga z.K x) (fl := fl) (ok := ok) (H1 := H1) (Q := fun cls d H' => z.W cls d σ H') h2 h1 fun d nd => ?_
      have e3 := sameNew nd (o := .xd (fl vs))
      refine P2 _ (some d) σ _ (R1.mono (kp e3)) (b1.mono (kp e3)) (wT_of (kp e3)) ⟨rfl, .inr ⟨d, fl vs, rfl, ?_, ?_⟩⟩
      · rw [wo_new (R1.cl.new nd), upd_same]
      · rw [h3, wo_new (R1.cl.new nd)]
        exact DqF.zip (hd.mono (sameNew (wo_none nd)))
    · exact P2.elim
theorem exFree_no {env : Env} (h : exFree env = true) {i : Nat} {x : Ex} : env[i]? ≠ some (Sl.ex x) := fun e => by
  unfold exFree at h
  have := List.all_eq_true.mp h _ (List.mem_of_getElem? e)
  cases this
theorem RelT.toX {O : SS} {σ : L2.St} {env : Env} {H : Hp} {xi : Option (Addr × Value × Option Addr)} {W : WX} (R : RelT z O H σ env) (h : ∀ (i : Nat) (x : Ex), env[i]? ≠ some (Sl.ex x)) : RelT { z with xi := xi, W := W } O H σ env :=
  ⟨R.len, R.dat, R.own, R.inj, R.out, fun i x e => absurd e (h i x), R.cl, R.tb⟩
theorem noEx {O : SS} {σ : L2.St} {env : Env} {H : Hp} (hz : z.xi = none) (R : RelT z O H σ env) : ∀ (i : Nat) (x : Ex), env[i]? ≠ some (Sl.ex x) := fun i x e => by
  obtain ⟨a, cls, d, h, _⟩ := R.ex i x e
  rw [hz] at h
  cases h
abbrev Z.xs (z : Z) (a : Addr) (cls : Value) (d : Option Addr) : Z := { z with xi := some (a, cls, d), W := noW }
abbrev Z.try_ (z : Z) (W : WX) : Z := { z with W := W }
theorem back_xs {O : SS} {σ : L2.St} {env : Env} {H : Hp} {xi : Option (Addr × Value × Option Addr)} {W : WX} (R : RelT { z with xi := xi, W := W } O H σ env) (h : ∀ (i : Nat) (x : Ex), env[i]? ≠ some (Sl.ex x)) : RelT z O H σ env :=
  ⟨R.len, R.dat, R.own, R.inj, R.out, fun i x e => absurd e (h i x), R.cl, R.tb⟩
theorem chg_no {σ : L2.St} {env : Env} {i : Nat} (hl : i < env.length) (np : ∀ c, env[i]? ≠ some (Sl.par c)) (v : Option V) : Chg [i] σ env (σ.set i v) (env.set i .no) := by
  refine ⟨List.length_set .., List.length_set .., fun j n => ?_, fun j n => ?_, fun j m => ?_⟩
  · exact List.getElem?_set_ne fun z => n (by rw [z]; exact List.mem_singleton.mpr rfl)
  · exact List.getElem?_set_ne fun z => n (by rw [z]; exact List.mem_singleton.mpr rfl)
  · have e := List.mem_singleton.mp m
    subst e
    exact ⟨np, .no, List.getElem?_set_self hl, rfl⟩
theorem postS_toW {B : Fm} {σ : L2.St} {env e : Env} {H : Hp} {D : Ends} {W : WX} {f : Fl} (P : PostS z B σ env H D (.ok f e)) : PostS (z.try_ W) B σ env H D (.ok f e) := by
  have un : ∀ {O : SS} {σ : L2.St} {env : Env} {H : Hp}, RelT (z.try_ W) O H σ env → RelT z O H σ env := fun {O σ env H} R => ⟨R.len, R.dat, R.own, R.inj, R.out, R.ex, R.cl, R.tb⟩
  cases f with
  | nx => exact fun σ' H' R b s => P σ' H' (un R) b s
  | bk => exact fun σ' H' R b s => P σ' H' (un R) b s
  | ct => exact fun σ' H' R b s => P σ' H' (un R) b s
  | rt w =>
    intro v σ' H' R b V N A
    refine P v σ' H' (un R) b V N ?_
    cases w with
    | f c => exact fun a ea => un (A a ea)
    | d _ => exact True.intro
    | o _ => exact True.intro
/-- the caught error's name is set -/
theorem setEx {O : SS} {σ : L2.St} {env : Env} {H : Hp} {i : Nat} {x : Ex} {a : Addr} {cls : Value} {d : Option Addr} (hz : z.xi = none) (R : RelT z O H σ env) (hi : env[i]? = some Sl.no) (X : ExR z.K (wo (cells σ env O) H) x cls d) :
    RelT (z.xs a cls d) O H (σ.set i (some (V.ref a))) (env.set i (.ex x)) ∧ Chg [i] σ env (σ.set i (some (V.ref a))) (env.set i (.ex x)) := by
  have hl := get_lt hi
  have C : Chg [i] σ env (σ.set i (some (V.ref a))) (env.set i (.ex x)) := by
    refine ⟨List.length_set .., List.length_set .., fun j n => ?_, fun j n => ?_, fun j m => ?_⟩
    · exact List.getElem?_set_ne fun z => n (by rw [z]; exact List.mem_singleton.mpr rfl)
    · exact List.getElem?_set_ne fun z => n (by rw [z]; exact List.mem_singleton.mpr rfl)
    · have e := List.mem_singleton.mp m
      subst e
      exact ⟨fun c e => (by rw [hi] at e; cases e), .ex x, List.getElem?_set_self hl, rfl⟩
  have sub := C.cells (O := O)
  have nx := noEx hz R
  have off : ∀ {j : Nat} {s : Sl}, (env.set i (Sl.ex x))[j]? = some s → s ≠ .ex x → j ∉ [i] := fun {j s} e n m => by
    have e' := List.mem_singleton.mp m
    subst e'
    rw [List.getElem?_set_self hl] at e
    exact n (Option.some.inj e).symm
  refine ⟨⟨by simp [R.len], fun j d e => ?_, fun j c g => ?_, fun j k c c' b g1 g2 e1 e2 => ?_, fun j c b g e => ?_, fun j y e => ?_, fun s hs => R.cl s (sub s hs), R.tb⟩, C⟩
  · have n := off e (by intro z; cases z)
    obtain ⟨v, h1, h2⟩ := R.dat j d (by rw [← C.e j n]; exact e)
    exact ⟨v, by rw [C.s j n]; exact h1, h2.mono (wo_sub sub)⟩
  · obtain ⟨n, g'⟩ := C.getO g
    obtain ⟨b, h1, h2⟩ := R.own j c g'
    exact ⟨b, by rw [C.s j n]; exact h1, h2.sub sub⟩
  · obtain ⟨n1, g1'⟩ := C.getO g1
    obtain ⟨n2, g2'⟩ := C.getO g2
    exact R.inj j k c c' b g1' g2' (by rw [← C.s j n1]; exact e1) (by rw [← C.s k n2]; exact e2)
  · obtain ⟨n1, g1'⟩ := C.getO g
    exact R.out j c b g1' (by rw [← C.s j n1]; exact e)
  · by_cases hj : j = i
    · subst hj
      rw [List.getElem?_set_self hl] at e
      cases e
      exact ⟨a, cls, d, rfl, List.getElem?_set_self (by rw [R.len]; exact hl), X.1, X.2.imp id fun ⟨dx, vs, g1, g2, g3⟩ => ⟨dx, vs, g1, wo_sub sub _ _ g2, g3.mono (wo_sub sub)⟩⟩
    · rw [List.getElem?_set_ne (Ne.symm hj)] at e
      exact absurd e (nx j y)
theorem chg_back {B : Fm} {σ2 : L2.St} {e2 : Env} {H2 : Hp} {a : Addr} {cls : Value} {d : Option Addr} {i : Nat} (hl : i < B.env0.length) (hpar : ∀ c, B.env0[i]? ≠ some (Sl.par c)) (b : Base B σ2 e2 H2) (hx : exFree (e2.set i .no) = true) :
    Chg [i] σ2 e2 (σ2.set i none) (e2.set i .no) ∧ ∀ O, RelT (z.xs a cls d) O H2 σ2 e2 → RelT z O H2 (σ2.set i none) (e2.set i .no) := by
  have hl2 : i < e2.length := by rw [b.len]; exact hl
  have C := chg_no (σ := σ2) hl2 (fun c e => by
    obtain ⟨c', h⟩ := (b.par i).mp ⟨c, e⟩
    exact hpar c' h) none
  refine ⟨C, fun O R => back_xs (R.chg C (fun j d' m e => ?_) (fun j x m => exFree_no hx)) fun j x => exFree_no hx⟩
  have e' := List.mem_singleton.mp m
  subst e'
  rw [List.getElem?_set_self hl2] at e
  cases e
theorem suite_as {B : Fm} {σ σ1 : L2.St} {env env1 : Env} {H H1 : Hp} {D : Ends} {i : Nat} {a : Addr} {cls : Value} {d : Option Addr} {r : Res Fl} (s0 : Stp B.O σ env H σ1 env1 H1) (hl : i < B.env0.length) (hpar : ∀ c, B.env0[i]? ≠ some (Sl.par c)) (P : PostS z B σ env H D (afterS (some i) r)) :
    PostS (z.xs a cls d) B σ1 env1 H1 { nx := fun σ' H' => D.nx (σ'.set i none) H', rt := D.rt, bk := fun σ' H' => D.bk (σ'.set i none) H', ct := fun σ' H' => D.ct (σ'.set i none) H' } r := by
  cases r with
  | exc x e => exact P.elim
  | bad => exact P.elim
  | ok f e2 =>
    unfold afterS at P
    dsimp only at P
    split at P
    · rename_i hxk
      obtain ⟨hx, hk⟩ := Bool.and_eq_true_iff.mp hxk
      cases f with
      | nx =>
        intro σ' H' R b s
        obtain ⟨C, k⟩ := chg_back (z := z) (a := a) (cls := cls) (d := d) hl hpar b hx
        exact P _ H' (k _ R) (C.base b) ((s0.trans s).trans C.stp)
      | bk =>
        intro σ' H' R b s
        obtain ⟨C, k⟩ := chg_back (z := z) (a := a) (cls := cls) (d := d) hl hpar b hx
        exact P _ H' (k _ R) (C.base b) ((s0.trans s).trans C.stp)
      | ct =>
        intro σ' H' R b s
        obtain ⟨C, k⟩ := chg_back (z := z) (a := a) (cls := cls) (d := d) hl hpar b hx
        exact P _ H' (k _ R) (C.base b) ((s0.trans s).trans C.stp)
      | rt w =>
        intro v σ' H' R b V N A
        obtain ⟨C, k⟩ := chg_back (z := z) (a := a) (cls := cls) (d := d) hl hpar b hx
        cases w with
        | o _ => cases hk
        | d x => exact P v _ H' (k _ R) (C.base b) (Dq.mono (wo_sub C.cells) V) True.intro True.intro
        | f c =>
          obtain ⟨a1, rfl, na, hc⟩ := V
          refine P (.ref a1) _ H' (k _ R) (C.base b) ⟨a1, rfl, fun h => na (C.cells _ h), hc.sub fun s hs => hs.imp (C.cells s) id⟩ N fun a2 ea => k _ (A a2 ea)
    · exact P.elim
theorem suite_only {B : Fm} {σ σ1 : L2.St} {env env1 : Env} {H H1 : Hp} {D : Ends} {a : Addr} {cls : Value} {d : Option Addr} {r : Res Fl} (s0 : Stp B.O σ env H σ1 env1 H1) (P : PostS z B σ env H D (afterS none r)) : PostS (z.xs a cls d) B σ1 env1 H1 D r := by
  cases r with
  | exc x e => exact P.elim
  | bad => exact P.elim
  | ok f e2 =>
    unfold afterS at P
    dsimp only at P
    split at P
    · rename_i hxk
      obtain ⟨hx, hk⟩ := Bool.and_eq_true_iff.mp hxk
      have k : ∀ {O : SS} {σ : L2.St} {H : Hp}, RelT (z.xs a cls d) O H σ e2 → RelT z O H σ e2 := fun {O σ H} R => back_xs R fun j x => exFree_no hx
      cases f with
      | nx => exact fun σ' H' R b s => P _ H' (k R) b (s0.trans s)
      | bk => exact fun σ' H' R b s => P _ H' (k R) b (s0.trans s)
      | ct => exact fun σ' H' R b s => P _ H' (k R) b (s0.trans s)
      | rt w =>
        intro v σ' H' R b V N A
        refine P v σ' H' (k R) b V N ?_
        cases w with
        | f c => exact fun a ea => k (A a ea)
        | d _ => exact True.intro
        | o _ => exact True.intro
    · exact P.elim
theorem getO_app {args : List Sl} {k : Nat} {i : Nat} {c : Ct} (h : getO i (args ++ List.replicate k .no) = some c) : getO i args = some c := by
  rcases getO_cases h with g | g
  · rcases Nat.lt_or_ge i args.length with l | l
    · rw [List.getElem?_append_left l] at g
      exact getO_own g
    · rw [List.getElem?_append_right l] at g
      have := List.mem_of_getElem? g
      rw [List.mem_replicate] at this
      cases this.2
  · rcases Nat.lt_or_ge i args.length with l | l
    · rw [List.getElem?_append_left l] at g
      exact getO_par g
    · rw [List.getElem?_append_right l] at g
      have := List.mem_of_getElem? g
      rw [List.mem_replicate] at this
      cases this.2
end
end UbP
namespace UbP
open PySem PySem.Spec PyProof.Rows L2 UbM Ub
section
variable {X : Cx} {z : Z} {body : List Stmt} {fb : M Fl} {vs : List V} {H : Hp} {Q : VK} {E : XK} {n k : Nat} {N : List Str}
theorem pars_nil : ∀ {e : Env}, (∀ (i : Nat) (c : Ct), e[i]? ≠ some (Sl.par c)) → pars e = []
  | [], _ => rfl
  | s :: e, h => by
    have h0 : pars e = [] := pars_nil fun i c g => h (i + 1) c (by simpa using g)
    cases s with
    | par c => exact absurd rfl (h 0 c)
    | _ => exact h0
theorem PR_of {K : PySem.W.Frag} {S : SS} {H' : Hp} : ∀ {args : List Sl} {vs : List V} {e : Env}, e.length = args.length + k → vs.length = args.length → (∀ s ∈ args, ArgS s) → (∀ i : Nat, (∃ c, e[i]? = some (Sl.par c)) ↔ ∃ c, (args ++ List.replicate k Sl.no)[i]? = some (Sl.par c)) →
    (∀ (i : Nat) (c : Ct), e[i]? = some (Sl.par c) → ∃ a : Addr, vs[i]? = some (V.ref a) ∧ RelC K S H' a c) → PR K S H' vs args (pars e)
  | [], [], e, hl, hv, hA, hp, hc => by
    rw [pars_nil fun i c g => by
      obtain ⟨c', h⟩ := (hp i).mp ⟨c, g⟩
      have := List.mem_of_getElem? (show (List.replicate k Sl.no)[i]? = some (Sl.par c') from by simpa using h)
      rw [List.mem_replicate] at this
      cases this.2]
    exact .nil
  | s :: args, v :: vs, [], hl, hv, hA, hp, hc => by rw [List.length_cons] at hl; simp at hl; omega
  | [], _ :: _, _, hl, hv, _, _, _ => by cases hv
  | _ :: _, [], _, hl, hv, _, _, _ => by cases hv
  | s :: args, v :: vs, t :: e, hl, hv, hA, hp, hc => by
    have ih := PR_of (K := K) (S := S) (H' := H') (args := args) (vs := vs) (e := e) (by rw [List.length_cons, List.length_cons] at hl; omega) (Nat.succ.inj hv) (fun s hs => hA s (List.mem_cons_of_mem _ hs)) (fun i => by have := hp (i + 1); simpa using this) (fun i c g => by have := hc (i + 1) c (by simpa using g); simpa using this)
    rcases hA s (List.mem_cons_self ..) with ⟨d, rfl⟩ | ⟨c, rfl⟩
    · have e0 : pars (t :: e) = pars e := by
        cases t with
        | par c =>
          obtain ⟨c', h⟩ := (hp 0).mp ⟨c, rfl⟩
          simp at h
        | _ => rfl
      rw [e0]
      exact .oth ih
    · obtain ⟨c', h⟩ := (hp 0).mpr ⟨c, by simp⟩
      simp at h
      subst h
      obtain ⟨a, h1, h2⟩ := hc 0 c' rfl
      simp at h1
      subst h1
      exact .par h2 ih
theorem RelT.less {O O' : SS} {σ : L2.St} {env : Env} (R : RelT z O' H σ env) (h : ∀ s, O s → O' s) : RelT z O H σ env := by
  have sub : ∀ s, cells σ env O s → cells σ env O' s := fun s hs => hs.imp id (h s)
  exact ⟨R.len, fun j d e => let ⟨v, h1, h2⟩ := R.dat j d e; ⟨v, h1, h2.mono (wo_sub sub)⟩, fun j c g => let ⟨a, h1, h2⟩ := R.own j c g; ⟨a, h1, h2.sub sub⟩, R.inj, fun j c a g e hO => R.out j c a g e (h a hO),
    fun j x e => let ⟨a, cls, d, h1, h2, h3, h4⟩ := R.ex j x e; ⟨a, cls, d, h1, h2, h3, h4.imp id fun ⟨dx, vs, g1, g2, g3⟩ => ⟨dx, vs, g1, wo_sub sub _ _ g2, g3.mono (wo_sub sub)⟩⟩, fun s hs => R.cl s (sub s hs), R.tb⟩
theorem def_body (hb : PSs X body (tS z fb)) (hz : z.W = fun cls d _ H => E cls d H) (hxi : z.xi = none) (h : spF z.K z.Tb (run k fb) n vs H Q E) (hN : N.length = n + k) :
    ∃ t, PSs X body t ∧ t { nx := fun _ H' => Q .non H', rt := Q } (start N vs) H := by
  obtain ⟨hl, O, args, R, hA, P⟩ := h
  refine ⟨_, hb, ?_⟩
  have la : args.length = vs.length := by have := R.len; rw [List.length_map] at this; exact this.symm
  have hk : N.length - vs.length = k := by omega
  have est : start N vs = vs.map some ++ List.replicate k none := by rw [← hk]; rfl
  have exA : ∀ {i : Nat} {s : Sl}, (args ++ List.replicate k Sl.no)[i]? = some s → s ≠ .no → args[i]? = some s ∧ i < args.length := fun {i s} h n => by
    rcases Nat.lt_or_ge i args.length with l | l
    · rw [List.getElem?_append_left l] at h
      exact ⟨h, l⟩
    · rw [List.getElem?_append_right l] at h
      have := List.mem_of_getElem? h
      rw [List.mem_replicate] at this
      exact absurd this.2 n
  have exV : ∀ {i : Nat}, i < args.length → (start N vs)[i]? = (vs.map some)[i]? := fun {i} l => by
    rw [est, List.getElem?_append_left (by rw [List.length_map]; omega)]
  have exG : ∀ {i : Nat} {c : Ct}, getO i (args ++ List.replicate k Sl.no) = some c → getO i args = some c ∧ i < args.length := fun {i c} h => by
    have g := getO_app h
    rcases getO_cases g with q | q
    · exact ⟨g, get_lt q⟩
    · exact ⟨g, get_lt q⟩
  have inG : ∀ {i : Nat} {c : Ct}, getO i args = some c → getO i (args ++ List.replicate k Sl.no) = some c ∧ i < args.length := fun {i c} h => by
    rcases getO_cases h with q | q
    · exact ⟨getO_own (by rw [List.getElem?_append_left (get_lt q)]; exact q), get_lt q⟩
    · exact ⟨getO_par (by rw [List.getElem?_append_left (get_lt q)]; exact q), get_lt q⟩
  have ow : ownS (start N vs) (args ++ List.replicate k Sl.no) = ownS (vs.map some) args := by
    funext s
    refine propext ⟨fun ⟨i, c, h1, h2⟩ => ?_, fun ⟨i, c, h1, h2⟩ => ?_⟩
    · obtain ⟨g, l⟩ := exG h1
      exact ⟨i, c, g, by rw [← exV l]; exact h2⟩
    · obtain ⟨g, l⟩ := inG h1
      exact ⟨i, c, g, by rw [exV l]; exact h2⟩
  have ce : cells (start N vs) (args ++ List.replicate k Sl.no) O = cells (vs.map some) args O := by unfold cells; rw [ow]
  have parA : ∀ {i : Nat} {c : Ct}, getO i args = some c → args[i]? = some (Sl.par c) := fun {i c} h => by
    rcases getO_cases h with q | q
    · rcases hA _ (List.mem_of_getElem? q) with ⟨d, z⟩ | ⟨d, z⟩ <;> cases z
    · exact q
  have ep : parS ⟨O, start N vs, args ++ List.replicate k Sl.no, H⟩ = ownS (vs.map some) args := by
    funext s
    refine propext ⟨fun ⟨i, c, h1, h2⟩ => ?_, fun ⟨i, c, h1, h2⟩ => ?_⟩
    · obtain ⟨g, l⟩ := exA h1 (by intro z; cases z)
      exact ⟨i, c, getO_par g, by rw [← exV l]; exact h2⟩
    · have g := parA h1
      exact ⟨i, c, by rw [List.getElem?_append_left (get_lt g)]; exact g, by rw [exV (get_lt g)]; exact h2⟩
  have R0 : RelT z O H (start N vs) (args ++ List.replicate k Sl.no) := by
    refine ⟨?_, fun i d h => ?_, fun i c h => ?_, fun i j c c' a g1 g2 e1 e2 => ?_, fun i c a g e => ?_, fun i x h => ?_, by rw [ce]; exact R.cl, R.tb⟩
    · rw [est, List.length_append, List.length_append, List.length_map, List.length_replicate, List.length_replicate, la]
    · obtain ⟨g, l⟩ := exA h (by intro z; cases z)
      obtain ⟨v, h1, h2⟩ := R.dat i d g
      exact ⟨v, by rw [exV l]; exact h1, by rw [ce]; exact h2⟩
    · obtain ⟨g, l⟩ := exG h
      obtain ⟨a, h1, h2⟩ := R.own i c g
      exact ⟨a, by rw [exV l]; exact h1, by rw [ce]; exact h2⟩
    · obtain ⟨g1, l1⟩ := exG g1
      obtain ⟨g2, l2⟩ := exG g2
      exact R.inj i j c c' a g1 g2 (by rw [← exV l1]; exact e1) (by rw [← exV l2]; exact e2)
    · obtain ⟨g, l⟩ := exG g
      exact R.out i c a g (by rw [← exV l]; exact e)
    · obtain ⟨g, l⟩ := exA h (by intro z; cases z)
      rcases hA _ (List.mem_of_getElem? g) with ⟨d, z⟩ | ⟨d, z⟩ <;> cases z
  have b0 : Base ⟨O, start N vs, args ++ List.replicate k Sl.no, H⟩ (start N vs) (args ++ List.replicate k Sl.no) H := by
    refine ⟨rfl, fun i => Iff.rfl, fun i c _ => rfl, SameC.refl H, fun i c a h e => ?_⟩
    obtain ⟨g, l⟩ := exA h (by intro z; cases z)
    rcases hA _ (List.mem_of_getElem? g) with ⟨d, z⟩ | ⟨d, z⟩ <;> cases z
  refine ⟨⟨O, start N vs, args ++ List.replicate k Sl.no, H⟩, _, R0, b0, ?_⟩
  -- the end
  have prOf : ∀ {σ' : L2.St} {e : Env} {H' : Hp} (Ex : SS), RelT z (fun s => O s ∨ Ex s) H' σ' e → Base ⟨O, start N vs, args ++ List.replicate k Sl.no, H⟩ σ' e H' →
      (∀ s, cells (vs.map some) args O s → cells σ' e O s) ∧ PR z.K (fun s => cells (vs.map some) args O s ∨ Ex s) H' vs args (pars e) := fun {σ' e H'} Ex R' b' => by
    have sub : ∀ s, cells (vs.map some) args O s → cells σ' e O s := fun s hs => by
      rcases hs with ⟨i, c, h1, h2⟩ | hs
      · have g := parA h1
        obtain ⟨c', h3⟩ := (b'.par i).mpr ⟨c, by show (args ++ List.replicate k Sl.no)[i]? = _; rw [List.getElem?_append_left (get_lt g)]; exact g⟩
        refine .inl ⟨i, c', getO_par h3, ?_⟩
        rw [b'.at_ i c' h3]
        show (start N vs)[i]? = _
        rw [exV (get_lt g)]
        exact h2
      · exact .inr hs
    refine ⟨sub, PR_of (k := k) ?_ la.symm hA (fun i => b'.par i) fun i c h => ?_⟩
    · rw [b'.len]
      show (args ++ List.replicate k Sl.no).length = _
      rw [List.length_append, List.length_replicate]
    · obtain ⟨c', h3⟩ := (b'.par i).mp ⟨c, h⟩
      obtain ⟨g, l⟩ := exA h3 (by intro z; cases z)
      obtain ⟨a, h1, h2⟩ := R'.own i c (getO_par h)
      rw [b'.at_ i c h] at h1
      have h1 : (start N vs)[i]? = some (some (V.ref a)) := h1
      rw [exV l, List.getElem?_map] at h1
      obtain ⟨v, h4, h5⟩ := Option.map_eq_some_iff.mp h1
      cases h5
      refine ⟨a, h4, h2.sub fun s hs => ?_⟩
      rw [cells_or]
      exact hs.imp (sub s) id
  have prNo : ∀ {σ' : L2.St} {e : Env} {H' : Hp}, RelT z O H' σ' e → Base ⟨O, start N vs, args ++ List.replicate k Sl.no, H⟩ σ' e H' → (∀ s, cells (vs.map some) args O s → cells σ' e O s) ∧ PR z.K (cells (vs.map some) args O) H' vs args (pars e) := fun {σ' e H'} R' b' => by
    have h := prOf (fun _ => False) (by rw [or_no]; exact R') b'
    rw [or_no] at h
    exact h
  have hp : ∀ {σ' : L2.St} {e : Env} {H' : Hp}, Base ⟨O, start N vs, args ++ List.replicate k Sl.no, H⟩ σ' e H' → SameC (ownS (vs.map some) args) H H' := fun {σ' e H'} b' => by
    have := b'.heap
    rw [ep] at this
    exact this
  unfold run at P
  cases ef : fb (args ++ List.replicate k Sl.no) with
  | bad => rw [ef] at P; exact P.elim
  | exc x e =>
    rw [ef] at P
    intro cls d σ' H' R' b' st hX
    rw [hz]
    obtain ⟨sub, pr⟩ := prNo R' b'
    exact P cls d H' (hp b') pr ⟨hX.1, hX.2.imp id fun ⟨dx, vs, g1, g2, g3⟩ => ⟨dx, vs, g1, wo_sub sub _ _ g2, g3.mono (wo_sub sub)⟩⟩
  | ok f e =>
    rw [ef] at P
    cases f with
    | nx =>
      intro σ' H' R' b' st
      exact P .non H' (hp b') (prNo R' b').2 .non True.intro
    | bk => exact P.elim
    | ct => exact P.elim
    | rt w =>
      cases w with
      | o i => exact P.elim
      | d x =>
        intro v σ' H' R' b' hV hN' hA'
        obtain ⟨sub, pr⟩ := prNo R' b'
        exact P v H' (hp b') pr (Dq.mono (wo_sub sub) hV) True.intro
      | f c =>
        intro v σ' H' R' b' hV hN' hA'
        obtain ⟨a, rfl, na, hc⟩ := hV
        obtain ⟨sub, pr⟩ := prOf (fun s => s = a) (hA' a rfl) b'
        refine P (.ref a) H' (hp b') ?_ ⟨a, rfl, fun h => na (sub a h), hc.sub fun s hs => hs.imp (sub s) id⟩ hN'
        have e : (fun s => cells (vs.map some) args O s ∨ s = a) = apart (.ref a) (.f c) (cells (vs.map some) args O) := by
          funext s
          exact propext ⟨fun h => h.imp id fun h => by rw [h], fun h => h.imp id fun h => by cases h; rfl⟩
        rw [← e]
        exact pr
end
theorem pts_ret {X : Cx} {z : Z} : PTs X [] (tT z (ret true)) := ⟨fun pins s σ H Q I h => pts_nil.run pins s σ H Q I (by
  obtain ⟨O, env, R, P⟩ := h
  exact P true H (SameC.refl H) R (SameO.refl _) rfl)⟩
section
variable {z : Z} {O : SS} {σ : L2.St} {env env' : Env} {H : Hp}
theorem wipe_at : ∀ (vs : List Nat) (σ : L2.St) (j : Nat), (wipe σ vs)[j]? = if j ∈ vs then (σ[j]?).map (fun _ => none) else σ[j]?
  | [], σ, j => by simp [wipe]
  | v :: vs, σ, j => by
    unfold wipe
    rw [List.getElem?_set]
    by_cases h : v = j
    · subst h
      rw [if_pos rfl, if_pos (List.mem_cons_self ..), wipe_length]
      by_cases hl : v < σ.length
      · rw [if_pos hl, List.getElem?_eq_getElem hl]
        rfl
      · rw [if_neg hl, List.getElem?_eq_none (by omega)]
        rfl
    · rw [if_neg h, wipe_at vs σ j]
      by_cases hm : j ∈ vs
      · rw [if_pos hm, if_pos (List.mem_cons_of_mem _ hm)]
      · rw [if_neg hm, if_neg fun z => (List.mem_cons.mp z).elim (fun e => h e.symm) hm]
theorem wipeE_len : ∀ (vs : List Nat) (e : Env), (wipeE e vs).length = e.length
  | [], e => rfl
  | v :: vs, e => by unfold wipeE; rw [List.length_set, wipeE_len vs e]
theorem wipeE_at : ∀ (vs : List Nat) (e : Env) (j : Nat), (wipeE e vs)[j]? = if j ∈ vs then (e[j]?).map (fun _ => Sl.no) else e[j]?
  | [], e, j => by simp [wipeE]
  | v :: vs, e, j => by
    unfold wipeE
    rw [List.getElem?_set]
    by_cases h : v = j
    · subst h
      rw [if_pos rfl, if_pos (List.mem_cons_self ..), wipeE_len]
      by_cases hl : v < e.length
      · rw [if_pos hl, List.getElem?_eq_getElem hl]
        rfl
      · rw [if_neg hl, List.getElem?_eq_none (by omega)]
        rfl
    · rw [if_neg h, wipeE_at vs e j]
      by_cases hm : j ∈ vs
      · rw [if_pos hm, if_pos (List.mem_cons_of_mem _ hm)]
      · rw [if_neg hm, if_neg fun z => (List.mem_cons.mp z).elim (fun e => h e.symm) hm]
theorem backE_len : ∀ (vs : List Nat) (e e' : Env), (backE e e' vs).length = e'.length
  | [], e, e' => rfl
  | v :: vs, e, e' => by unfold backE; rw [List.length_set, backE_len vs e e']
theorem backE_at (hl : env.length = env'.length) : ∀ (vs : List Nat) (j : Nat), (backE env env' vs)[j]? = if j ∈ vs then env[j]? else env'[j]?
  | [], j => by simp [backE]
  | v :: vs, j => by
    unfold backE
    rw [List.getElem?_set]
    by_cases h : v = j
    · subst h
      rw [if_pos rfl, if_pos (List.mem_cons_self ..), backE_len]
      by_cases hv : v < env'.length
      · rw [if_pos hv, List.getElem?_eq_getElem (by omega), List.getD_eq_getElem?_getD, List.getElem?_eq_getElem (by omega)]
        rfl
      · rw [if_neg hv, List.getElem?_eq_none (by omega)]
    · rw [if_neg h, backE_at hl vs j]
      by_cases hm : j ∈ vs
      · rw [if_pos hm, if_pos (List.mem_cons_of_mem _ hm)]
      · rw [if_neg hm, if_neg fun z => (List.mem_cons.mp z).elim (fun e => h e.symm) hm]
/-- the slots vs hold nothing owned -/
def Light (vs : List Nat) (e : Env) : Prop := ∀ j ∈ vs, ∃ s, e[j]? = some s ∧ knd s = 0
theorem freeAt_light {vs : List Nat} (h : freeAt env vs = true) : Light vs env ∧ ∀ j ∈ vs, ∀ x, env[j]? ≠ some (Sl.ex x) := by
  unfold freeAt at h
  refine ⟨fun j hj => ?_, fun j hj x e => ?_⟩
  · have := List.all_eq_true.mp h j hj
    cases e : env[j]? with
    | none => rw [e] at this; cases this
    | some s =>
      rw [e] at this
      cases s with
      | no => exact ⟨_, rfl, rfl⟩
      | dat d => exact ⟨_, rfl, rfl⟩
      | _ => cases this
  · have := List.all_eq_true.mp h j hj
    rw [e] at this
    cases this
theorem Light.notPar {vs : List Nat} (h : Light vs env) {j : Nat} (hj : j ∈ vs) (c : Ct) : env[j]? ≠ some (Sl.par c) := fun e => by
  obtain ⟨s, h1, h2⟩ := h j hj
  rw [e] at h1
  cases h1
  cases h2
theorem Light.so {vs : List Nat} (h : Light vs env) (so : SameO env env') : Light vs env' := fun j hj => by
  obtain ⟨s, h1, h2⟩ := h j hj
  have := so.2 j
  rw [h1] at this
  cases e : env'[j]? with
  | none => rw [e] at this; cases this
  | some t =>
    rw [e] at this
    refine ⟨t, rfl, ?_⟩
    have : knd s = knd t := Option.some.inj this
    rw [← this]
    exact h2
/-- the slots vs are wiped -/
theorem chg_wipe {vs : List Nat} (h : Light vs env) : Chg vs σ env (wipe σ vs) (wipeE env vs) := by
  refine ⟨wipe_length σ vs, wipeE_len vs env, fun j n => by rw [wipe_at, if_neg n], fun j n => by rw [wipeE_at, if_neg n], fun j m => ⟨fun c => h.notPar m c, ?_⟩⟩
  obtain ⟨s, h1, h2⟩ := h j m
  exact ⟨.no, by rw [wipeE_at, if_pos m, h1]; rfl, rfl⟩
theorem wipe_no {vs : List Nat} {j : Nat} (m : j ∈ vs) {s : Sl} (e : (wipeE env vs)[j]? = some s) : s = .no := by
  rw [wipeE_at, if_pos m] at e
  obtain ⟨_, _, h⟩ := Option.map_eq_some_iff.mp e
  exact h.symm
theorem RelT.wiped {vs : List Nat} (R : RelT z O H σ env) (h : Light vs env) : RelT z O H (wipe σ vs) (wipeE env vs) :=
  R.chg (chg_wipe h) (fun j d m e => by cases wipe_no m e) fun j x m e => by cases wipe_no m e
theorem so_wipe {vs : List Nat} (h : Light vs env) : SameO env (wipeE env vs) := by
  refine ⟨(wipeE_len vs env).symm, fun j => ?_⟩
  rw [wipeE_at]
  by_cases m : j ∈ vs
  · obtain ⟨s, h1, h2⟩ := h j m
    rw [if_pos m, h1]
    show some (knd s) = some 0
    rw [h2]
  · rw [if_neg m]
theorem own_wipe {vs : List Nat} (h : Light vs env) : ownS (wipe σ vs) (wipeE env vs) = ownS σ env := by
  funext s
  refine propext ⟨fun ⟨i, c, g, e⟩ => ?_, fun ⟨i, c, g, e⟩ => ?_⟩
  · obtain ⟨n, g'⟩ := (chg_wipe (σ := σ) h).getO g
    exact ⟨i, c, g', by rw [wipe_at, if_neg n] at e; exact e⟩
  · have n : i ∉ vs := fun m => by
      obtain ⟨t, h1, h2⟩ := h i m
      rcases getO_cases g with q | q
      · rw [h1] at q; cases q; cases h2
      · rw [h1] at q; cases q; cases h2
    refine ⟨i, c, ?_, by rw [wipe_at, if_neg n]; exact e⟩
    unfold getO at g ⊢
    rw [wipeE_at, if_neg n]
    exact g
/-- a target's slots -/
theorem chg_so {is : List Nat} {σ' : L2.St} (C : Chg is σ env σ' env') (h : Light is env) : SameO env env' := by
  refine ⟨C.l2.symm, fun j => ?_⟩
  by_cases m : j ∈ is
  · obtain ⟨s, h1, h2⟩ := h j m
    obtain ⟨t, h3, h4⟩ := (C.p j m).2
    rw [h1, h3]
    show some (knd s) = some (knd t)
    rw [h2, h4]
  · rw [C.e j m]
theorem wipe_chg {is vs : List Nat} {σ' : L2.St} (C : Chg is (wipe σ vs) env σ' env') (h : ∀ j ∈ is, j ∈ vs) : wipe σ' vs = wipe σ vs := by
  refine List.ext_getElem? fun j => ?_
  rw [wipe_at, wipe_at]
  by_cases m : j ∈ vs
  · rw [if_pos m, if_pos m]
    have hl : σ'.length = σ.length := C.l1.trans (wipe_length σ vs)
    by_cases hj : j < σ.length
    · rw [List.getElem?_eq_getElem hj, List.getElem?_eq_getElem (by omega)]
      rfl
    · rw [List.getElem?_eq_none (by omega), List.getElem?_eq_none (by omega)]
  · rw [if_neg m, if_neg m, C.s j fun z => m (h j z), wipe_at, if_neg m]
/-- the block's end: the outer names again -/
theorem RelT.unwipe {O' : SS} {vs : List Nat} {H' : Hp} {e' : Env} (R : RelT z O H σ env) (hf : Light vs env) (hx : ∀ j ∈ vs, ∀ x, env[j]? ≠ some (Sl.ex x)) (R' : RelT z O' H' (wipe σ vs) e') (so : SameO (wipeE env vs) e') (wt : UbG.SameT (wo (cells σ env O) H) (wo (cells σ (backE env e' vs) O') H')) :
    RelT z O' H' σ (backE env e' vs) ∧ SameO env (backE env e' vs) := by
  have hl : env.length = e'.length := (so_wipe hf).1.trans so.1
  have C : Chg vs (wipe σ vs) e' σ (backE env e' vs) := by
    refine ⟨(wipe_length σ vs).symm, (backE_len vs env e'), fun j n => by rw [wipe_at, if_neg n], fun j n => by rw [backE_at hl, if_neg n], fun j m => ⟨fun c e => ?_, ?_⟩⟩
    · obtain ⟨s, h1, h2⟩ := (hf.so ((so_wipe hf).trans so)) j m
      rw [e] at h1
      cases h1
      cases h2
    · obtain ⟨s, h1, h2⟩ := hf j m
      exact ⟨s, by rw [backE_at hl, if_pos m]; exact h1, h2⟩
  refine ⟨R'.chg C (fun j d m e => ?_) (fun j x m e => ?_), ?_⟩
  · rw [backE_at hl, if_pos m] at e
    obtain ⟨v, h1, h2⟩ := R.dat j d e
    exact ⟨v, h1, Dq.monoT wt _ _ h2⟩
  · rw [backE_at hl, if_pos m] at e
    exact hx j m x e
  · refine ⟨hl.trans (backE_len vs env e').symm, fun j => ?_⟩
    rw [backE_at hl]
    by_cases m : j ∈ vs
    · rw [if_pos m]
    · rw [if_neg m]
      have h1 := ((so_wipe hf).trans so).2 j
      exact h1
theorem Dq.W {W : WX} {v : V} {d : D} {S : SS} (h : Dq z.K (wo S H) v d) : Dq ({ z with W := W } : Z).K (wo S H) v d := h
theorem relW {W : WX} (R : RelT z O H σ env) : RelT { z with W := W } O H σ env := ⟨R.len, R.dat, R.own, R.inj, R.out, R.ex, R.cl, R.tb⟩
theorem relW' {W : WX} (R : RelT { z with W := W } O H σ env) : RelT z O H σ env := ⟨R.len, R.dat, R.own, R.inj, R.out, R.ex, R.cl, R.tb⟩
abbrev Z.quiet (z : Z) : Z := { z with W := noW }
end
section
variable {z : Z} {σ : L2.St} {H : Hp} {Q : VK} {fi : M (List D)} {tg : Tg} {c : M Bool} {x : M Vw} {vs : List Nat}
theorem lc_read (hvs : ∀ j ∈ slots tg, j ∈ vs) (h : tP z (eLc fi tg c x vs) σ H Q) : tLc (tI z fi) (gT z.K tg) (tT z.quiet c) (tP z.quiet x) vs σ H Q := by
  obtain ⟨O, env, R, P⟩ := h
  refine tG_mono (post_bnd bkE R P) fun J H1 ⟨env1, ds, R1, s1, so1, hJ, P1⟩ => ?_
  intro Da nD
  split at P1
  · rename_i hfree
    obtain ⟨hf, hx⟩ := freeAt_light hfree
    cases er : lcGo tg c x vs ds [] (wipeE env1 vs) with
    | exc _ _ => rw [er] at P1; exact P1.elim
    | bad => rw [er] at P1; exact P1.elim
    | ok ys e' =>
      rw [er] at P1
      have nDc : ¬cells σ env1 O Da := R1.cl.new nD
      have e0 := sameNew nD (o := .lst [])
      have Rw : RelT z.quiet (fun s => O s ∨ s = Da) (upd H1 Da (.lst [])) (wipe σ vs) (wipeE env1 vs) := relW ((R1.fresh nD (kp e0) ⟨_, upd_same, True.intro⟩).wiped hf)
      -- what holds at each turn
      refine ⟨fun i m H2 => m = ds.length - i ∧ i ≤ ds.length ∧ ∃ (acc : List D) (ei : Env) (xs : List V), lcGo tg c x vs (ds.drop i) acc ei = .ok ys e' ∧ RelT z.quiet (fun s => O s ∨ s = Da) H2 (wipe σ vs) ei ∧ SameO (wipeE env1 vs) ei ∧ SameC (ownS σ env1) H1 H2 ∧
        H2 Da = some (.lst xs) ∧ DqAll z.K (wo (fun s => cells σ env1 O s ∨ s = Da) H2) xs acc, ⟨ds.length, by simp, Nat.zero_le _, [], wipeE env1 vs, [], er, Rw, SameO.refl _, (sameC e0), upd_same, .nil⟩, ?_⟩
      rintro i m H2 ⟨rfl, hi, acc, ei, xs, eg, R2, so2, s2, hD, hA⟩
      have owS : ∀ {e : Env}, SameO (wipeE env1 vs) e → ownS (wipe σ vs) e = ownS σ env1 := fun {e} so => by rw [← so.ownS, own_wipe hf]
      have ceE : ∀ {e : Env}, SameO (wipeE env1 vs) e → cells (wipe σ vs) e (fun s => O s ∨ s = Da) = fun s => cells σ env1 O s ∨ s = Da := fun {e} so => by
        rw [cells_or]
        unfold cells
        rw [owS so]
      have wt : UbG.SameT (wo (cells σ env1 O) H1) (wo (cells (wipe σ vs) ei (fun s => O s ∨ s = Da)) H2) := by
        rw [ceE so2]
        exact wT_ext (Ex := fun s => s = Da) s2 (fun a h => .inl h) fun a h => by rw [h]; exact nD
      obtain ⟨go, stop, yld⟩ := hJ.at_ i _ H2 wt R2.cl
      by_cases hl : i < ds.length
      · refine .inr ⟨go hl, _, fun H' n => ⟨ds.length - (i + 1), by omega, n⟩, fun v H3 y => ?_⟩
        obtain ⟨sm, d, ed, hd⟩ := yld v H3 hl y
        have R3 := R2.mono (kp sm)
        rw [List.drop_eq_getElem_cons hl] at eg
        have ed' : ds[i] = d := by
          rw [List.getElem?_eq_getElem hl] at ed
          exact Option.some.inj ed
        rw [ed'] at eg
        unfold lcGo at eg
        cases ep : putT tg d ei with
        | none => rw [ep] at eg; cases eg
        | some e1 =>
          rw [ep] at eg
          dsimp only at eg
          obtain ⟨σ4, q, R4, C⟩ := putT_ok tg d v (wipe σ vs) ei e1 R3 ep hd
          have light0 : Light vs (wipeE env1 vs) := fun j m => ⟨.no, by rw [wipeE_at, if_pos m]; obtain ⟨s, h1, _⟩ := hf j m; rw [h1]; rfl, rfl⟩
          have lightI : Light vs ei := light0.so so2
          have light1 : SameO ei e1 := chg_so C fun j m => lightI j (hvs j m)
          have wσ : wipe σ4 vs = wipe σ vs := wipe_chg C hvs
          have own4 : ownS σ4 e1 = ownS σ env1 := by
            have h1 : ownS (wipe σ4 vs) (wipeE e1 vs) = ownS σ4 e1 := own_wipe (lightI.so light1)
            rw [← h1, wσ]
            have h2 : SameO (wipeE env1 vs) (wipeE e1 vs) := (so2.trans light1).trans (so_wipe (lightI.so light1))
            exact owS h2
          have s3 : SameC (ownS σ env1) H1 H3 := s2.trans (Kp.C (kp sm))
          have hD3 : H3 Da = some (.lst xs) := sm _ _ hD
          have hA3 : DqAll z.K (wo (fun s => cells σ env1 O s ∨ s = Da) H3) xs acc := Dq.monoTAll (wT_of (kp sm)) _ _ hA
          refine q _ ⟨wσ, ?_⟩
          -- the test
          have nDo : ¬ownS σ env1 Da := fun h => nDc (.inl h)
          have stay : ∀ {e e2 : Env} {Ha Hb : Hp} {xs : List V} {acc : List D}, SameO e1 e → SameC (ownS σ4 e) Ha Hb → Ha Da = some (.lst xs) → DqAll z.K (wo (fun s => cells σ env1 O s ∨ s = Da) Ha) xs acc → SameC (ownS σ env1) H1 Ha → Hb Da = some (.lst xs) ∧ DqAll z.K (wo (fun s => cells σ env1 O s ∨ s = Da) Hb) xs acc ∧ SameC (ownS σ env1) H1 Hb := fun {e e2 Ha Hb xs acc} so sc h1 h2 h3 => by
            rw [← so.ownS σ4, own4] at sc
            exact ⟨sc.but _ _ nDo h1 (fun _ z => by cases z), Dq.monoTAll (sc.sub fun a h => .inl (.inl h)).wT _ _ h2, h3.trans sc⟩
          cases ec : c e1 with
          | exc _ _ => rw [ec] at eg; cases eg
          | bad => rw [ec] at eg; cases eg
          | ok bb e2 =>
            rw [ec] at eg
            refine ⟨_, e1, R4, ?_⟩
            rw [ec]
            intro b H4 s4 R5 so5 hb
            cases hb
            obtain ⟨hD4, hA4, s14⟩ := stay (e2 := e2) (SameO.refl e1) s4 hD3 hA3 s3
            have again : ∀ {e : Env} {Hb : Hp} {xs : List V} {acc : List D}, SameO e1 e → RelT z.quiet (fun s => O s ∨ s = Da) Hb σ4 e → SameC (ownS σ env1) H1 Hb → Hb Da = some (.lst xs) → DqAll z.K (wo (fun s => cells σ env1 O s ∨ s = Da) Hb) xs acc → lcGo tg c x vs (ds.drop (i + 1)) acc (wipeE e vs) = .ok ys e' →
                ds.length - (i + 1) = ds.length - (i + 1) ∧ i + 1 ≤ ds.length ∧ ∃ (acc : List D) (ei : Env) (xs : List V), lcGo tg c x vs (ds.drop (i + 1)) acc ei = .ok ys e' ∧ RelT z.quiet (fun s => O s ∨ s = Da) Hb (wipe σ vs) ei ∧ SameO (wipeE env1 vs) ei ∧ SameC (ownS σ env1) H1 Hb ∧ Hb Da = some (.lst xs) ∧ DqAll z.K (wo (fun s => cells σ env1 O s ∨ s = Da) Hb) xs acc := fun {e Hb xs acc} so Re sb hb ha hg => by
              have le := (lightI.so light1).so so
              have Rw := Re.wiped le
              rw [wσ] at Rw
              exact ⟨rfl, hl, acc, wipeE e vs, xs, hg, Rw, ((so2.trans light1).trans so).trans (so_wipe le), sb, hb, ha⟩
            cases bb with
            | false =>
              rw [if_neg (by decide)]
              exact again so5 R5 s14 hD4 hA4 eg
            | true =>
              rw [if_pos rfl]
              dsimp only at eg
              cases ex : x e2 with
              | exc _ _ => rw [ex] at eg; cases eg
              | bad => rw [ex] at eg; cases eg
              | ok w e3 =>
                rw [ex] at eg
                dsimp only at eg
                cases ew : w.stay with
                | none => rw [ew] at eg; cases eg
                | some yd =>
                  rw [ew] at eg
                  dsimp only at eg
                  by_cases hlen : acc.length < LIM
                  · rw [if_pos hlen] at eg
                    refine ⟨_, e2, R5, ?_⟩
                    rw [ex]
                    intro yv H5 s5 R6 so6 hy
                    obtain ⟨hD5, hA5, s15⟩ := stay (e2 := e2) so5 s5 hD4 hA4 s14
                    have hyd := hy.1.stay ew
                    have ce6 : cells σ4 e3 (fun s => O s ∨ s = Da) = fun s => cells σ env1 O s ∨ s = Da := by
                      rw [cells_or]
                      unfold cells
                      rw [← (so5.trans so6).ownS σ4, own4]
                    rw [ce6] at hyd
                    refine ⟨xs, hD5, by rw [hA5.len]; exact Nat.lt_of_lt_of_le hlen (by rw [sizeLine_eq]; decide), ?_⟩
                    have inD : (fun s => cells σ env1 O s ∨ s = Da) Da := .inr rfl
                    have sU : SameC (fun s => s = Da) H5 (upd H5 Da (.lst (xs ++ [yv]))) := sameC_upd rfl True.intro ⟨_, hD5, True.intro⟩
                    refine again (so5.trans so6) ?_ ?_ upd_same ?_ eg
                    · -- only the new list changed
                      have wt2 : UbG.SameT (wo (cells σ4 e3 (fun s => O s ∨ s = Da)) H5) (wo (cells σ4 e3 (fun s => O s ∨ s = Da)) (upd H5 Da (.lst (xs ++ [yv])))) := (sU.sub fun a h => by rw [h]; exact .inr (.inr rfl)).wT
                      refine R6.back wt2 ((sU.sub fun a h => by rw [h]; exact .inr (.inr rfl)).clS R6.cl) sU.tab R6.out (SameO.refl _) (fun j s _ => Iff.rfl) fun j cj g => ?_
                      obtain ⟨a, h1, h2⟩ := R6.own j cj g
                      refine ⟨a, h1, h2.moveT wt2 fun o ho hc => ?_⟩
                      rw [upd_ne (show a ≠ Da from fun z => R6.out j cj a g h1 (.inr z))]
                      exact ho
                    · exact s15.into (S := fun s => s = Da) sU fun s hs => by rw [hs]; exact .inr nD
                    · rw [wo_upd inD]
                      exact hA5.snoc hyd
                  · rw [if_neg hlen] at eg
                    cases eg
      · refine .inl ⟨stop (by omega), ?_⟩
        have e : ds.drop i = [] := List.drop_eq_nil_of_le (by omega)
        rw [e] at eg
        unfold lcGo ret at eg
        cases eg
        have hl2 : env1.length = e'.length := (so_wipe hf).1.trans so2.1
        have soB : SameO env1 (backE env1 e' vs) := by
          refine ⟨hl2.trans (backE_len vs env1 e').symm, fun j => ?_⟩
          rw [backE_at hl2]
          by_cases m : j ∈ vs
          · rw [if_pos m]
          · rw [if_neg m]
            exact ((so_wipe hf).trans so2).2 j
        have ceB : cells σ (backE env1 e' vs) (fun s => O s ∨ s = Da) = fun s => cells σ env1 O s ∨ s = Da := by
          rw [cells_or]
          unfold cells
          rw [← soB.ownS]
        have wtB : UbG.SameT (wo (cells σ env1 O) H1) (wo (cells σ (backE env1 e' vs) (fun s => O s ∨ s = Da)) H2) := by
          rw [ceB]
          exact wT_ext (Ex := fun s => s = Da) s2 (fun a h => .inl h) fun a h => by rw [h]; exact nD
        obtain ⟨RB, _⟩ := R1.unwipe hf hx (relW' R2) so2 wtB
        refine P1 (.ref Da) H2 s2 (RB.less fun s h => .inl h) soB ⟨⟨Da, rfl, ?_, xs, hD, ?_⟩, fun a ea => by cases ea; exact nD, fun a ea => by cases ea; exact RB⟩
        · rw [← soB.cells]
          exact nDc
        · rw [← soB.cells]
          exact hA
  · exact P1.elim
end
end UbP
namespace UbP
open PySem PySem.Spec PyProof.Rows L2 UbM Ub
section
variable {X : Cx} {z : Z} {tg elt iter : Expr} {ifs : List Expr} {scope : Scope} {own : List (Str × Nat)} {pos p spos gpos : Pos} {fi : M (List D)} {tgt : Tg} {c : M Bool} {x : M Vw} {n : Str}
theorem pu_lc (hc : X.calm = true) (hN : X.N.Nodup) (hi : PI X tg iter (tI z fi)) (ok : BlkOk X.N X.env.scope scope own)
    (hg : ∀ (s : Shared) (H : Hp) (C : Addr) (cl : List (Str × Addr)) (fp : List Addr), PG (X.blk s H scope (compEnvC scope cl C X.env) fp) tg (gT z.K tgt)) (ht : ∀ (s : Shared) (H : Hp) (C : Addr) (cl : List (Str × Addr)) (fp : List Addr), PTs (X.blk s H scope (compEnvC scope cl C X.env) fp) ifs (tT z.quiet c))
    (he : ∀ (s : Shared) (H : Hp) (C : Addr) (cl : List (Str × Addr)) (fp : List Addr), PE (X.blk s H scope (compEnvC scope cl C X.env) fp) elt (tP z.quiet x)) (hv : ∀ j ∈ slots tgt, j ∈ own.map (·.2)) (hs : ∀ x, foldedSetIterable iter X.env x = pure x := by intro _; rfl) :
    PE X (.ListComp elt [⟨tg, iter, ifs, 0⟩] scope pos) (tP z (eLc fi tgt c x (own.map (·.2)))) := PE_imp (pe_lc hc hN hi ok hg ht he hs) fun σ H Q h => lc_read hv h
theorem pu_setLc {i : Nat} {py : Pos} (hc : X.calm = true) (hN : X.N.Nodup) (hy : X.N[i]? = some n) (hyl : X.env.scope.names.lookup n = some .local)
    (hsw : swapsWith (.ListComp elt [⟨tg, iter, ifs, 0⟩] scope pos) (some (.Name n py)) spos.line X.env = pure true) (hi : PI X tg iter (tI z fi)) (ok : BlkOk X.N X.env.scope scope own)
    (hg : ∀ (s : Shared) (H : Hp) (C : Addr) (cl : List (Str × Addr)) (fp : List Addr), PG (X.blk s H scope (compEnvC scope cl C X.env) fp) tg (gT z.K tgt)) (ht : ∀ (s : Shared) (H : Hp) (C : Addr) (cl : List (Str × Addr)) (fp : List Addr), PTs (X.blk s H scope (compEnvC scope cl C X.env) fp) ifs (tT z.quiet c))
    (he : ∀ (s : Shared) (H : Hp) (C : Addr) (cl : List (Str × Addr)) (fp : List Addr), PE (X.blk s H scope (compEnvC scope cl C X.env) fp) elt (tP z.quiet x)) (hv : ∀ j ∈ slots tgt, j ∈ own.map (·.2)) (hs : ∀ x, foldedSetIterable iter X.env x = pure x := by intro _; rfl) :
    PS X (.Assign [.Name n py] (.ListComp elt [⟨tg, iter, ifs, 0⟩] scope pos) spos) (tS z (sSet i (eLc fi tgt c x (own.map (·.2))))) := PS_imp (ps_setLc hc hN hy hyl hsw hi ok hg ht he hs) fun D σ H ⟨B, env, R, b, P⟩ =>
  lc_read hv (tG_mono (R1 := vE) (postS_bnd R b P) fun v H1 ⟨env1, w, R1, b1, s1, so1, hV, P1⟩ => by
    obtain ⟨d, e1, P2⟩ := postS_stay P1
    exact pu_sset.tsetP R1 b1 (hV.1.stay e1) P2)
theorem pu_ownLc {i : Nat} {py : Pos} (hc : X.calm = true) (hN : X.N.Nodup) (hy : X.N[i]? = some n) (hyl : X.env.scope.names.lookup n = some .local)
    (hsw : swapsWith (.ListComp elt [⟨tg, iter, ifs, 0⟩] scope pos) (some (.Name n py)) spos.line X.env = pure true) (hi : PI X tg iter (tI z fi)) (ok : BlkOk X.N X.env.scope scope own)
    (hg : ∀ (s : Shared) (H : Hp) (C : Addr) (cl : List (Str × Addr)) (fp : List Addr), PG (X.blk s H scope (compEnvC scope cl C X.env) fp) tg (gT z.K tgt)) (ht : ∀ (s : Shared) (H : Hp) (C : Addr) (cl : List (Str × Addr)) (fp : List Addr), PTs (X.blk s H scope (compEnvC scope cl C X.env) fp) ifs (tT z.quiet c))
    (he : ∀ (s : Shared) (H : Hp) (C : Addr) (cl : List (Str × Addr)) (fp : List Addr), PE (X.blk s H scope (compEnvC scope cl C X.env) fp) elt (tP z.quiet x)) (hv : ∀ j ∈ slots tgt, j ∈ own.map (·.2)) (hs : ∀ x, foldedSetIterable iter X.env x = pure x := by intro _; rfl) :
    PS X (.Assign [.Name n py] (.ListComp elt [⟨tg, iter, ifs, 0⟩] scope pos) spos) (tS z (sOwn i (eLc fi tgt c x (own.map (·.2))))) := PS_imp (ps_setLc hc hN hy hyl hsw hi ok hg ht he hs) fun D σ H ⟨B, env, R, b, P⟩ =>
  lc_read hv (tG_mono (R1 := vE) (postS_bnd0 R b P) fun v H1 ⟨env1, w, R1, b1, s1, so1, hV, P1⟩ => by
    cases w with
    | f c' => exact setOwn s1 so1 R1 b1 hV (fun a h => b.none h) P1
    | d _ => exact P1.elim
    | o _ => exact P1.elim)
end
section
variable {z : Z} {σ : L2.St} {H : Hp} {Q : VK} {fi : M (List D)} {tg : Tg} {x : M Vw} {vs : List Nat} {P : Addr} {stopv : Bool}
theorem gx_read (hP : P ∈ z.Tb) (hvs : ∀ j ∈ slots tg, j ∈ vs) (h : tP z (eGx stopv fi tg x vs) σ H Q) : tI z fi σ H fun J H1 => GxR.TabG H1 P ∧ ∀ H2, GxR.Tabbed P H1 H2 → ∃ W : Nat → Nat → Hp → Prop, (∃ m, W 0 m H2) ∧ UbG.Turns J (gT z.K tg) (tP z.quiet x) vs (wipe σ vs) stopv (fun H' => Q (.bl stopv) H') (fun H' => Q (.bl !stopv) H') W := by
  obtain ⟨O, env, R, PP⟩ := h
  refine tG_mono (post_bnd bkE R PP) fun J H1 ⟨env1, ds, R1, s1, so1, hJ, P1⟩ => ⟨R1.tb P hP, fun H2 ht => ?_⟩
  split at P1
  · rename_i hfree
    obtain ⟨hf, hx⟩ := freeAt_light hfree
    have kt := kpTab (R1.tb P hP) ht
    cases er : gxGo stopv tg x vs ds (wipeE env1 vs) with
    | exc _ _ => rw [er] at P1; exact P1.elim
    | bad => rw [er] at P1; exact P1.elim
    | ok bb e' =>
      rw [er] at P1
      have fin : ∀ {H3 : Hp}, RelT z.quiet O H3 (wipe σ vs) e' → SameO (wipeE env1 vs) e' → SameC (ownS σ env1) H1 H3 → Q (.bl bb) H3 := fun {H3} R3 so s => by
        have hl2 : env1.length = e'.length := (so_wipe hf).1.trans so.1
        have soB : SameO env1 (backE env1 e' vs) := by
          refine ⟨hl2.trans (backE_len vs env1 e').symm, fun j => ?_⟩
          rw [backE_at hl2]
          by_cases m : j ∈ vs
          · rw [if_pos m]
          · rw [if_neg m]
            exact ((so_wipe hf).trans so).2 j
        have wtB : UbG.SameT (wo (cells σ env1 O) H1) (wo (cells σ (backE env1 e' vs) O) H3) := by
          rw [← soB.cells]
          exact (s.sub fun a h => .inl h).wT
        obtain ⟨RB, _⟩ := R1.unwipe hf hx (relW' R3) so wtB
        exact P1 (.bl bb) H3 s RB soB ⟨.bl _, True.intro, True.intro⟩
      refine ⟨fun i m H3 => m = ds.length - i ∧ i ≤ ds.length ∧ ∃ ei, gxGo stopv tg x vs (ds.drop i) ei = .ok bb e' ∧ RelT z.quiet O H3 (wipe σ vs) ei ∧ SameO (wipeE env1 vs) ei ∧ SameC (ownS σ env1) H1 H3, ⟨ds.length, by simp, Nat.zero_le _, wipeE env1 vs, er, relW ((R1.mono kt).wiped hf), SameO.refl _, Kp.C kt⟩, ?_⟩
      rintro i m H3 ⟨rfl, hi, ei, eg, R2, so2, s2⟩
      have owS : ∀ {e : Env}, SameO (wipeE env1 vs) e → ownS (wipe σ vs) e = ownS σ env1 := fun {e} so => by rw [← so.ownS, own_wipe hf]
      have wt : UbG.SameT (wo (cells σ env1 O) H1) (wo (cells (wipe σ vs) ei O) H3) := by
        have e : cells (wipe σ vs) ei O = cells σ env1 O := by unfold cells; rw [owS so2]
        rw [e]
        exact (s2.sub fun a h => .inl h).wT
      obtain ⟨go, stop, yld⟩ := hJ.at_ i _ H3 wt R2.cl
      by_cases hl : i < ds.length
      · refine .inr ⟨go hl, fun H' => ∃ ei, gxGo stopv tg x vs (ds.drop (i + 1)) ei = .ok bb e' ∧ RelT z.quiet O H' (wipe σ vs) ei ∧ SameO (wipeE env1 vs) ei ∧ SameC (ownS σ env1) H1 H', fun H' n => ⟨ds.length - (i + 1), by omega, rfl, hl, n⟩, fun v H4 y => ?_⟩
        obtain ⟨sm, d, ed, hd⟩ := yld v H4 hl y
        have R3 := R2.mono (kp sm)
        have s3 : SameC (ownS σ env1) H1 H4 := s2.trans (Kp.C (kp sm))
        rw [List.drop_eq_getElem_cons hl] at eg
        have ed' : ds[i] = d := by
          rw [List.getElem?_eq_getElem hl] at ed
          exact Option.some.inj ed
        rw [ed'] at eg
        unfold gxGo at eg
        cases ep : putT tg d ei with
        | none => rw [ep] at eg; cases eg
        | some e1 =>
          rw [ep] at eg
          dsimp only at eg
          obtain ⟨σ4, q, R4, C⟩ := putT_ok tg d v (wipe σ vs) ei e1 R3 ep hd
          have light0 : Light vs (wipeE env1 vs) := fun j m => ⟨.no, by rw [wipeE_at, if_pos m]; obtain ⟨s, h1, _⟩ := hf j m; rw [h1]; rfl, rfl⟩
          have lightI : Light vs ei := light0.so so2
          have light1 : SameO ei e1 := chg_so C fun j m => lightI j (hvs j m)
          have wσ : wipe σ4 vs = wipe σ vs := wipe_chg C hvs
          have own4 : ownS σ4 e1 = ownS σ env1 := by
            have h1 : ownS (wipe σ4 vs) (wipeE e1 vs) = ownS σ4 e1 := own_wipe (lightI.so light1)
            rw [← h1, wσ]
            exact owS ((so2.trans light1).trans (so_wipe (lightI.so light1)))
          refine q _ ⟨wσ, ?_⟩
          cases ex : x e1 with
          | exc _ _ => rw [ex] at eg; cases eg
          | bad => rw [ex] at eg; cases eg
          | ok w e3 =>
            refine ⟨_, e1, R4, ?_⟩
            rw [ex]
            intro yv H5 s5 R6 so6 hy
            rw [own4] at s5
            have le := (lightI.so light1).so so6
            have Rw := R6.wiped le
            rw [wσ] at Rw
            have soW : SameO (wipeE env1 vs) (wipeE e3 vs) := ((so2.trans light1).trans so6).trans (so_wipe le)
            rw [ex] at eg
            cases w with
            | o _ => cases eg
            | f _ => cases eg
            | d dd =>
              cases dd with
              | bl b =>
                have hyv : Dq z.K _ yv (.bl b) := hy.1
                cases hyv
                dsimp only at eg
                refine ⟨b, rfl, fun hb => ?_, fun hb => ?_⟩
                · rw [if_pos hb] at eg
                  cases eg
                  exact fin Rw soW (s3.trans s5)
                · rw [if_neg hb] at eg
                  exact ⟨_, eg, Rw, soW, s3.trans s5⟩
              | _ => cases eg
      · refine .inl ⟨stop (by omega), ?_⟩
        have e : ds.drop i = [] := List.drop_eq_nil_of_le (by omega)
        rw [e] at eg
        unfold gxGo ret at eg
        cases eg
        exact fin R2 so2 s2
  · exact P1.elim
variable {X : Cx} {c : Addr} {tge elt iter : Expr} {p pos gpos : Pos} {scope : Scope} {own : List (Str × Nat)} {k : Nat}
theorem pu_any (hP : P ∈ z.Tb) (hr : Room (k + 1) X.A) (hN : X.N.Nodup) (hg : Gl X "any") (hm : X.mg "any" = none) (TB : GxR.TabB X.base X.mg c P) (hcode : X.env.code = .ref c) (ok : UbG.GexOk X.N X.env.scope scope own) (hi : PI X tge iter (tI z fi))
    (hpe : ∀ (A : Around) (s : Shared) (H : Hp) (C : Addr) (code : Value) (fp : List Addr) (pn : List (Addr × Obj)), Room k A → let G := UbG.gex X A s H (genEnv scope (cloFrom X.env.cells scope.names []) C code builtinsNs X.env) fp pn
      PG G tge (gT z.K tg) ∧ PE G elt (tP z.quiet x)) (hv : ∀ j ∈ slots tg, j ∈ own.map (·.2))
    (hs : ∀ v, genFold iter X.env v = pure v := by intro _; rfl)
    (he : starEach [.GeneratorExp elt [⟨tge, iter, [], 0⟩] scope gpos] X.env = (false, eval (.GeneratorExp elt [⟨tge, iter, [], 0⟩] scope gpos) X.env) :: starEach [] X.env := by rfl) :
    PE X (.Call (.Name "any" p) [.GeneratorExp elt [⟨tge, iter, [], 0⟩] scope gpos] [] pos) (tP z (eGx true fi tg x (own.map (·.2)))) := PE_imp (UbG.pe_anyG hr hN hg hm bb_any TB hcode ok hi hpe hs he) fun σ H Q h => gx_read hP hv h
end
section
variable {X : Cx} {z : Z} {a b : Expr} {fa fb : M Vw} {pos p : Pos} {x : Str}
theorem pu_gcd (hm : X.mg x = some (.builtin "math.gcd")) (hg : Gl X x) (ha : PE X a (tP z fa)) (hb : PE X b (tP z fb)) (hdb : (x == ("__debug__" : Str)) = false := by decide)
    (hs : starEach [a, b] X.env = (false, eval a X.env) :: starEach [b] X.env := by rfl) (hs2 : starEach [b] X.env = (false, eval b X.env) :: starEach [] X.env := by rfl) (hpl : (backTo pos (starEach [b] X.env)).any (·.1) = false := by rfl) : PE X (.Call (.Name x p) [a, b] [] pos) (tP z (eB gcdD fa fb)) :=
  PE_imp (pe_callBfun cr_gcd hg hm (pa_cons ha (pa_cons hb pa_nil hs2) hs) hdb hs hpl) (pu_bin os_gcd)
end
theorem hok_okT {K : PySem.W.Frag} {f : Str} : ∀ (H : Hp) (vs : List V) (ds : List D), DqAll K H vs ds → UbP.okT ds = true → UbC.okT vs ∧ vs.length ≤ 1000 ∧ UbC.fl1 f vs = [f].zip vs := by
  intro H vs ds h k
  unfold UbP.okT at k
  split at k
  · rename_i y
    cases h with
    | cons h1 h2 =>
      cases h2
      cases h1
      exact ⟨⟨y, rfl, of_decide_eq_true k⟩, Nat.le_of_ble_eq_true rfl, rfl⟩
  · cases k
theorem law_start {K : PySem.W.Frag} {Tb : List Addr} {f : Fn} {H : Hp} {a : Addr} {ns : List Int} {Q : VK} {E : XK} (hT : ∀ P ∈ Tb, GxR.TabG H P) (hS : SqL K H a (ns.map V.int)) (hf : f [.dat (.lsf (ns.map D.int))] = .ret (.d (.bl true)) []) (q : ∀ H', Q (.bl true) H') : spF K Tb f 1 [.ref a] H Q E := by
  have no : ∀ s, ¬cells [some (V.ref a)] [Sl.dat (.lsf (ns.map D.int))] (fun _ => False) s := fun s h => by
    rcases h with ⟨i, c, g, _⟩ | h
    · rcases getO_cases g with q | q
      · cases i with
        | zero => cases q
        | succ i => simp at q
      · cases i with
        | zero => cases q
        | succ i => simp at q
    · exact h
  have ew : wo (cells [some (V.ref a)] [Sl.dat (.lsf (ns.map D.int))] (fun _ => False)) H = H := by
    funext b
    exact wo_out (no b)
  have all : ∀ ns : List Int, DqAll K H (ns.map V.int) (ns.map D.int) := fun ns => by
    induction ns with
    | nil => exact .nil
    | cons n ns ih => exact .cons (.int n) ih
  refine ⟨rfl, fun _ => False, [.dat (.lsf (ns.map D.int))], ⟨rfl, fun i d h => ?_, fun i c g => ?_, fun i j c c' b g => ?_, fun i c b g _ => id, fun i x h => ?_, fun s hs => absurd hs (no s), hT⟩, fun s hs => .inl ⟨_, List.mem_singleton.mp hs⟩, ?_⟩
  · cases i with
    | zero =>
      cases h
      refine ⟨.ref a, rfl, ?_⟩
      rw [show wo (cells ([V.ref a].map some) [Sl.dat (.lsf (ns.map D.int))] (fun _ => False)) H = H from ew]
      exact .lsf hS (all ns)
    | succ i => simp at h
  · rcases getO_cases g with q | q
    · cases i with
      | zero => cases q
      | succ i => simp at q
    · cases i with
      | zero => cases q
      | succ i => simp at q
  · rcases getO_cases g with q | q
    · cases i with
      | zero => cases q
      | succ i => simp at q
    · cases i with
      | zero => cases q
      | succ i => simp at q
  · cases i with
    | zero => cases h
    | succ i => simp at h
  · rw [hf]
    intro v H' _ _ hv _
    have hv : Dq K _ v (.bl true) := hv
    cases hv
    exact q H'
end UbP
namespace UbP
open PySem PySem.Spec PyProof.Rows L2 UbM Ub
section
variable {z : Z} {O O' : SS} {σ : L2.St} {env e1 : Env} {H H1 H' : Hp} {a dx : Addr} {c x : Str} {k : Ct}
theorem SameC.new {S : SS} (e : Same H H1) (na : H a = none) (s : SameC (fun b => S b ∨ b = a) H1 H') : SameC S H H' := by
  refine ⟨fun b o nb h t => ?_, fun P h => s.tab P (UbG.TabG.mono e h), fun b hb ⟨o, h, hc⟩ => s.cl b (.inl hb) ⟨o, e _ _ h, hc⟩, fun b h => ?_⟩
  · refine s.but b o (fun h2 => ?_) (e _ _ h) t
    rcases h2 with h2 | h2
    · exact nb h2
    · rw [h2, na] at h
      cases h
  · cases g : H b with
    | none => rfl
    | some o =>
      have := s.dom b h
      rw [e _ _ g] at this
      cases this
end
section
variable {X : Cx} {z : Z} {e : Expr} {es : List Expr} {fs fks : List (M Vw)} {kws : List Keyword} {ks : List Str} {x : Str} {k j n N : Nat} {f : Fn} {ms : List Bool} {p pos kpos : Pos} {nm : Option Str} {fa : M Vw}
theorem Paired.app {α β : Type} {R : α → β → Prop} : ∀ {a c : List α} {b d : List β}, Paired R a b → Paired R c d → Paired R (a ++ c) (b ++ d)
  | _, _, _, _, .nil, h => h
  | _, _, _, _, .cons h t, k => .cons h (Paired.app t k)
theorem Paired.imp {α β : Type} {R R' : α → β → Prop} (i : ∀ a b, R a b → R' a b) : ∀ {a : List α} {b : List β}, Paired R a b → Paired R' a b
  | _, _, .nil => .nil
  | _, _, .cons h t => .cons (i _ _ h) (Paired.imp i t)
end
end UbP
namespace UbP
open PySem PySem.Spec PyProof.Rows L2 UbM Ub
end UbP
namespace UbT
open PySem PySem.Spec PyProof.Rows L2
section
variable {prog : Program} {w : World} {A : Around} {K : Type} [DecidableEq K] {R : Result → Shared → Prop} {I : Addr} {fp wr : List Addr} {G : Array GenState → Array GenState → Prop} {n : Nat} {P : Nat → Value → Prop} {St : Nat → Shared → Prop}
def has (ks : List K) (i : Nat) (k : K) : Bool := decide (k ∈ ks.take i)
end
section
variable {prog : Program} {w : World} {A : Around} {E : Value → Shared → Prop} {s : Shared} {K : Type} [DecidableEq K]
abbrev bare (led : Bool) : Obj := { cls := .type "set", dict := none, data := .set #[] 0 (.fresh 0 0 led) }
end
end UbT
namespace UbP
open PySem PySem.Spec PyProof.Rows L2 UbM Ub
theorem intsOf_some : ∀ {ds : List D} {ns : List Int}, intsOf ds = some ns → ds = ns.map .int
  | [], _, h => by cases h; rfl
  | d :: ds, ns, h => by
    cases d with
    | int b =>
      obtain ⟨ns', e1, rfl⟩ := Option.map_eq_some_iff.mp (show (intsOf ds).map (b :: ·) = some _ from h)
      rw [intsOf_some e1]; rfl
    | _ => cases h
theorem dq_ints {K : PySem.W.Frag} {H : Hp} : ∀ {ns : List Int} {xs : List V}, DqAll K H xs (ns.map .int) → xs = ns.map V.int
  | [], _, h => by cases h; rfl
  | n :: ns, _, h => by
    cases h with
    | cons h1 h2 => cases h1; rw [dq_ints h2]; rfl
section
variable {X : Cx} {z : Z} {a b e : Expr} {fa fb : M Vw} {p p2 q pos apos : Pos} {σ : L2.St} {H : Hp} {Q : VK}
theorem os_shl {K : PySem.W.Frag} : OpS K shlD (rI CPow fun i j => .int (i * 2 ^ j.toNat)) := by
  intro S σ H Q x y a b w cl ha hb e k
  unfold shlD at e
  split at e
  · cases dv_int ha
    cases dv_int hb
    split at e
    · rename_i hl
      exact ⟨_, _, rfl, rfl, ⟨hl.1, by omega, hl.2.2⟩, k_int e k⟩
    · cases e
  · cases e
theorem os_shr {K : PySem.W.Frag} : OpS K shrD (rI (fun _ j => 0 ≤ j) fun i j => .int (i / 2 ^ j.toNat)) := by
  intro S σ H Q x y a b w cl ha hb e k
  unfold shrD at e
  split at e
  · cases dv_int ha
    cases dv_int hb
    split at e
    · rename_i hl
      exact ⟨_, _, rfl, rfl, hl, k_int e k⟩
    · cases e
  · cases e
def rIdxA (K : PySem.W.Frag) : V → List V → Hp → VK → Prop := fun x xs H Q => rIndex K x xs H Q ∨ rIndexD K x xs H Q
theorem mt_idxA (hu : X.A.units + 65 < cLine) : MtR X "list.index" (rIdxA X.K) := fun pins s σ H x xs v us Q I rx rxs h => h.elim (mt_index pins s σ H x xs v us Q I rx rxs) (mt_indexD hu pins s σ H x xs v us Q I rx rxs)
theorem find_at {α : Type} {p : α → Bool} {l : List α} {j : Nat} (h : l.findIdx? p = some j) : (∃ x, l[j]? = some x ∧ p x = true) ∧ ∀ m x, m < j → l[m]? = some x → p x = false := by
  obtain ⟨hj, h1, h2⟩ := List.findIdx?_eq_some_iff_getElem.mp h
  refine ⟨⟨_, List.getElem?_eq_getElem hj, h1⟩, fun m x hm hx => ?_⟩
  have := h2 m hm
  rw [List.getElem?_eq_getElem (by omega)] at hx
  cases hx
  simpa using this
theorem pyAll_get : ∀ {ds : List D} {i : Nat}, (pyAll ds)[i]? = (ds[i]?).map py
  | [], i => by simp [pyAll]
  | d :: ds, 0 => by simp [pyAll]
  | d :: ds, i + 1 => by simp [pyAll]; exact pyAll_get
theorem shaped40 {d : D} (h : sh d 40 = true) : SeqAt.shaped (py d) = true := by
  obtain ⟨h1, h2⟩ := py_sh d 40 h
  unfold SeqAt.shaped
  rw [h1, decide_eq_true (by omega)]
  rfl
theorem os_idx {K : PySem.W.Frag} : OpS K idxD fun x y H Q => rIdxA K x [y] H Q := by
  intro S σ H Q x y a b w cl ha hb e k
  unfold idxD at e
  split at e
  · rename_i ds
    split at e
    · rename_i hf
      obtain ⟨j, e1, e2⟩ := Option.bind_eq_some_iff.mp e
      obtain ⟨⟨d, ed, hd⟩, no⟩ := find_at e1
      have hl := dv_lst ha
      obtain ⟨p, xs, rfl, h1, h2⟩ := hl
      have h2' := h2.mono wo_same
      rcases Bool.or_eq_true_iff.mp hf with hf | hf
      · obtain ⟨f1, f2⟩ := Bool.and_eq_true_iff.mp hf
        obtain ⟨u, eu, hu⟩ := h2'.get ed
        have fd := List.all_eq_true.mp f2
        refine .inl ⟨p, xs, y, j, u, rfl, rfl, .inl (.inl h1), flat_v hb.dq f1, flat_all h2' f2, eu, by rw [flat_eq hu hb.dq (fd _ (List.mem_of_getElem? ed)) f1]; exact hd, fun m u' hm eu' => ?_, k_int e2 k⟩
        obtain ⟨d', ed', hd'⟩ := h2'.at eu'
        rw [flat_eq hd' hb.dq (fd _ (List.mem_of_getElem? ed')) f1]
        exact no m d' hm ed'
      · obtain ⟨f1, f2⟩ := Bool.and_eq_true_iff.mp hf
        have s2 : sh (.lst ds) 60 = true := by unfold sh; rw [f2]; rfl
        have dl : Dp K H (V.ref p) (.list (pyAll ds)) := Dq.dp (.lst ds) _ 60 s2 ha.dq
        have shA : ∀ {i : Nat} {d : D}, ds[i]? = some d → sh d 59 = true := fun {i d} e => by
          have go : ∀ (l : List D) (i : Nat), shAll l 59 = true → l[i]? = some d → sh d 59 = true := by
            intro l
            induction l with
            | nil => intro i _ h; simp at h
            | cons x l ih =>
              intro i h hx
              unfold shAll at h
              obtain ⟨g1, g2⟩ := Bool.and_eq_true_iff.mp h
              cases i with
              | zero => simp at hx; subst hx; exact g1
              | succ i => exact ih i g2 (by simpa using hx)
          exact go ds i f2 e
        refine .inr ⟨p, y, py b, pyAll ds, j, py d, rfl, rfl, dl, Dq.dp b y 40 f1 hb.dq, shaped_of s2, shaped40 f1, by rw [pyAll_get, ed]; rfl, by rw [py_eqv d b 59 40 (shA ed) f1]; exact hd, fun m z' hm ez => ?_, k_int e2 k⟩
        rw [pyAll_get] at ez
        obtain ⟨d', ed', rfl⟩ := Option.map_eq_some_iff.mp ez
        rw [py_eqv d' b 59 40 (shA ed') f1]
        exact no m d' hm ed'
    · cases e
  · cases e
end
end UbP
namespace UbP
open PySem PySem.Spec PyProof.Rows L2 UbM Ub
theorem fold_max : ∀ (xs : List Int) (a : Int), (xs.foldl max a = a ∨ xs.foldl max a ∈ xs) ∧ a ≤ xs.foldl max a ∧ ∀ y ∈ xs, y ≤ xs.foldl max a
  | [], a => ⟨.inl rfl, Int.le_refl _, fun y h => absurd h List.not_mem_nil⟩
  | x :: xs, a => by
    obtain ⟨h1, h2, h3⟩ := fold_max xs (max a x)
    rw [List.foldl_cons]
    refine ⟨?_, by omega, fun y hy => ?_⟩
    · rcases h1 with h1 | h1
      · rw [h1]
        by_cases h : a ≤ x
        · right; rw [Int.max_eq_right h]; exact List.mem_cons_self
        · left; exact Int.max_eq_left (by omega)
      · right; exact List.mem_cons_of_mem _ h1
    · rcases List.mem_cons.mp hy with rfl | hy
      · omega
      · exact h3 y hy
theorem maxL_of {ns : List Int} {m : Int} (h1 : m ∈ ns) (h2 : ∀ y ∈ ns, y ≤ m) : maxL ns = some m := by
  cases ns with
  | nil => cases h1
  | cons x xs =>
    obtain ⟨g1, g2, g3⟩ := fold_max xs x
    show some _ = _
    congr 1
    have a1 : xs.foldl max x ≤ m := by
      rcases g1 with g | g
      · rw [g]; exact h2 _ List.mem_cons_self
      · exact h2 _ (List.mem_cons_of_mem _ g)
    have a2 : m ≤ xs.foldl max x := by
      rcases List.mem_cons.mp h1 with rfl | h
      · exact g2
      · exact g3 _ h
    omega
theorem fold_min : ∀ (xs : List Int) (a : Int), (xs.foldl min a = a ∨ xs.foldl min a ∈ xs) ∧ xs.foldl min a ≤ a ∧ ∀ y ∈ xs, xs.foldl min a ≤ y
  | [], a => ⟨.inl rfl, Int.le_refl _, fun y h => absurd h List.not_mem_nil⟩
  | x :: xs, a => by
    obtain ⟨h1, h2, h3⟩ := fold_min xs (min a x)
    rw [List.foldl_cons]
    refine ⟨?_, by omega, fun y hy => ?_⟩
    · rcases h1 with h1 | h1
      · rw [h1]
        by_cases h : a ≤ x
        · left; exact Int.min_eq_left h
        · right; rw [Int.min_eq_right (by omega)]; exact List.mem_cons_self
      · right; exact List.mem_cons_of_mem _ h1
    · rcases List.mem_cons.mp hy with rfl | hy
      · omega
      · exact h3 y hy
theorem minL_of {ns : List Int} {m : Int} (h1 : m ∈ ns) (h2 : ∀ y ∈ ns, m ≤ y) : minL ns = some m := by
  cases ns with
  | nil => cases h1
  | cons x xs =>
    obtain ⟨g1, g2, g3⟩ := fold_min xs x
    show some _ = _
    congr 1
    have a1 : m ≤ xs.foldl min x := by
      rcases g1 with g | g
      · rw [g]; exact h2 _ List.mem_cons_self
      · exact h2 _ (List.mem_cons_of_mem _ g)
    have a2 : xs.foldl min x ≤ m := by
      rcases List.mem_cons.mp h1 with rfl | h
      · exact g2
      · exact g3 _ h
    omega
end UbP
namespace UbP
open PySem PySem.Spec PyProof.Rows L2 UbM Ub
section
variable {X : Cx} {z : Z} {a : Addr} {oe : Obj} {cls : Value} {d : Option Addr} {pn : List (Addr × Obj)} {x : Str} {i : Nat} {q pos p : Pos} {σ : L2.St} {H : Hp} {Q : VK}
theorem ex_at {O : SS} {env : Env} (R : RelT (z.xs a cls d) O H σ env) {x : Ex} (e : env[i]? = some (.ex x)) : σ[i]? = some (some (V.ref a)) ∧ ExR z.K (wo (cells σ env O) H) x cls d := by
  obtain ⟨a', cls', d', h1, h2, h3⟩ := R.ex i x e
  cases h1
  exact ⟨h2, h3⟩
/-- e.f -/
theorem pu_eef {f : Str} {low : List Str} (hK : X.K = z.K) (hz : Zc cls d oe) (hf : ∃ vs, oe.data = .fields vs) (T : ∀ c ∈ low, XfC z.K (He.ga z.K c) ∧ PySem.W.findIn z.K (.ref (He.ga z.K c)) f = some none)
    (hN : X.N[i]? = some x := by rfl) (hv : Vis X.env.scope x := by first | exact Or.inl rfl | exact Or.inr (Or.inl rfl) | exact Or.inr (Or.inr rfl)) (hb : attributeBase (.Name x q) f X.env (eval (.Name x q) X.env) = eval (.Name x q) X.env := by rfl) (hd : (x == ("__debug__" : Str)) = false := by decide) (hcd : (x == ("__classdict__" : Str)) = false := by decide) :
    PE (X.suite a ((a, oe) :: pn)) (.Attribute (.Name x q) f pos) (tP (z.xs a cls d) (eEf i low f)) := ⟨fun pins s σ H Q I h => by
  obtain ⟨O, env, R, P⟩ := h
  unfold eEf at P
  cases e : env[i]? with
  | none => rw [e] at P; exact P.elim
  | some sl =>
    rw [e] at P
    cases sl with
    | ex x0 =>
      dsimp only at P
      obtain ⟨h1, ec, h3⟩ := ex_at R e
      split at P
      · rename_i d0 el
        split at el
        · rename_i hin
          have hmem : x0.cls ∈ low := by simpa using hin
          obtain ⟨T1, T2⟩ := T _ hmem
          refine (pe_xf (C := He.ga X.K x0.cls) (by rw [hK]; exact T1) (by rw [hK]; exact T2) hz hf (pe_var (X := X.suite a ((a, oe) :: pn)) hN hv hd hcd) hb).run pins s σ H Q I ⟨V.ref a, h1, rfl, by rw [hK]; exact ec, ?_⟩
          rcases h3 with ⟨h4, _⟩ | ⟨dx, vs, h4, h5, h6⟩
          · rw [h4] at el
            cases el
          · obtain ⟨v, e1, e2⟩ := h6.look el
            exact ⟨dx, vs, v, h4, (wo_in h5).2, e1, P v H (SameC.refl H) R (SameO.refl _) ⟨e2, True.intro, True.intro⟩⟩
        · cases el
      · exact P.elim
    | _ => exact P.elim⟩
/-- isinstance(e, a class) -/
def rIsG (K : PySem.W.Frag) (a : Addr) (cls : Value) (d : Option Addr) (cv : Value) (low : List (Str × Bool)) : List V → Hp → VK → Prop := fun xs H Q => ∃ (c : Str) (b : Bool) (cV : V), (c, b) ∈ low ∧ cls = .ref (He.ga K c) ∧ xs = [.ref a, cV] ∧ (∀ u, RelV cV u → u = cv) ∧ (d = none ∨ ∃ dd fs, d = some dd ∧ H dd = some (.xd fs)) ∧ Q (.bl b) H
theorem cl_isG {cv : Value} {low : List (Str × Bool)} (hz : Zc cls d oe) (hf : ∃ vs, oe.data = .fields vs) (T : ∀ p ∈ low, ExcC X.K (He.ga X.K p.1) ∧ PySem.W.kitOne X.K (.ref (He.ga X.K p.1)) cv = some p.2) : CallR (X.suite a ((a, oe) :: pn)) (.builtin "isinstance") (rIsG X.K a cls d cv low) := by
  intro pins s σ H xs us Q I r h
  obtain ⟨c, b, cV, mem, ec, rfl, hcv, hd, q⟩ := h
  obtain ⟨C, hk⟩ := T _ mem
  match r with
  | .cons rx (.cons rt .nil) =>
    cases rx
    obtain rfl := hcv _ rt
    obtain ⟨hget, _⟩ := I.pin (a, oe) (List.mem_append_left _ List.mem_cons_self)
    obtain ⟨vs, hv⟩ := hf
    have J : ∃ od, PySem.W.InstAt s.heap a oe (He.ga X.K c) od := by
      rcases hd with rfl | ⟨dd, fs, rfl, hdd⟩
      · exact ⟨none, hget, by rw [hz.1, ec], by unfold PySem.W.notCls; rw [hv] <;> rfl, by rw [hz.2]; trivial⟩
      · obtain ⟨mA, hns, _⟩ := (I.hok dd _ hdd : ObjOk X.prog X.w H s.heap dd (.xd fs))
        obtain ⟨od, ho, _⟩ := lookIn_ns hns
        exact ⟨some od, hget, by rw [hz.1, ec], by unfold PySem.W.notCls; rw [hv] <;> rfl, by rw [hz.2]; exact ho⟩
    obtain ⟨od, J⟩ := J
    have hcl : (PySem.W.clsIn X.K (He.ga X.K c)).isSome = true := by
      obtain ⟨cd, hc, _⟩ := PySem.W.any_some C.hd
      rw [hc]; rfl
    exact PySem.W.kia_one (PySem.W.kitx_exc hcl C.hg C.hk C.hs C.ha C.hn C.ht C.hm) I.kIn J hk (fun z => nomatch z) fun tk => ⟨.bl b, H, I.kept (t' := tk) fun _ _ z => z, rfl, q⟩
theorem lookup_mem {c : Str} {b : Bool} : ∀ {l : List (Str × Bool)}, l.lookup c = some b → (c, b) ∈ l
  | [], h => by cases h
  | (c', b') :: l, h => by
    by_cases hc : (c == c') = true
    · rw [List.lookup_cons, hc] at h
      cases h
      rw [beq_iff_eq.mp hc]
      exact List.mem_cons_self
    · rw [List.lookup_cons, (by simpa using hc : (c == c') = false)] at h
      exact List.mem_cons_of_mem _ (lookup_mem h)
theorem pu_isE {low : List (Str × Bool)} {cv : Value} {cV : V} {ce : Expr} (hK : X.K = z.K) (hz : Zc cls d oe) (hf : ∃ vs, oe.data = .fields vs) (T : ∀ p ∈ low, ExcC z.K (He.ga z.K p.1) ∧ PySem.W.kitOne z.K (.ref (He.ga z.K p.1)) cv = some p.2)
    (hg : Gl X "isinstance") (hm : X.mg "isinstance" = none) (hcv : ∀ u, RelV cV u → u = cv) (hc : PE (X.suite a ((a, oe) :: pn)) ce (tC cV))
    (hN : X.N[i]? = some x := by rfl) (hv : Vis X.env.scope x := by first | exact Or.inl rfl | exact Or.inr (Or.inl rfl) | exact Or.inr (Or.inr rfl)) (hd : (x == ("__debug__" : Str)) = false := by decide) (hcd : (x == ("__classdict__" : Str)) = false := by decide)
    (s1 : starEach [.Name x q, ce] X.env = (false, eval (.Name x q) X.env) :: starEach [ce] X.env := by rfl) (s2 : starEach [ce] X.env = (false, eval ce X.env) :: starEach [] X.env := by rfl) (hpl : (backTo pos (starEach [ce] X.env)).any (·.1) = false := by rfl) :
    PE (X.suite a ((a, oe) :: pn)) (.Call (.Name "isinstance" p) [.Name x q, ce] [] pos) (tP (z.xs a cls d) (eIsE i fun s => low.lookup s)) := PE_imp (pe_callB (X := X.suite a ((a, oe) :: pn)) (cl_isG (X := X) (cv := cv) (low := low) hz hf (by rw [hK]; exact T)) hg hm (by rfl) (pa_cons (pe_var (X := X.suite a ((a, oe) :: pn)) hN hv hd hcd) (pa_cons hc pa_nil s2) s1) (by decide) (by decide) s1 hpl) fun σ H Q h => by
  obtain ⟨O, env, R, P⟩ := h
  unfold eIsE at P
  cases e : env[i]? with
  | none => rw [e] at P; exact P.elim
  | some sl =>
    rw [e] at P
    cases sl with
    | ex x0 =>
      dsimp only at P
      obtain ⟨h1, ec, h3⟩ := ex_at R e
      split at P
      · rename_i b el
        have mem := lookup_mem el
        refine ⟨V.ref a, h1, x0.cls, b, cV, mem, by rw [hK]; exact ec, rfl, hcv, ?_, P _ H (SameC.refl H) R (SameO.refl _) ⟨.bl b, True.intro, True.intro⟩⟩
        rcases h3 with ⟨_, h4⟩ | ⟨dx, vs, h4, h5, h6⟩
        · exact .inl h4
        · exact .inr ⟨dx, vs, h4, (wo_in h5).2⟩
      · exact P.elim
    | _ => exact P.elim
end
end UbP
namespace UbP
open PySem PySem.Spec PyProof.Rows L2 UbM Ub
theorem DqAll.eraseIdx {K : PySem.W.Frag} {H : Hp} : ∀ {vs : List V} {ds : List D} (i : Nat), DqAll K H vs ds → DqAll K H (vs.eraseIdx i) (ds.eraseIdx i)
  | _, _, _, .nil => .nil
  | _, _, 0, .cons _ h2 => h2
  | _, _, i + 1, .cons h1 h2 => .cons h1 (DqAll.eraseIdx i h2)
theorem insI_perm (x : Int) : ∀ l, (insI x l).Perm (x :: l)
  | [] => .refl _
  | y :: ys => by
    unfold insI
    split
    · exact .refl _
    · exact ((insI_perm x ys).cons y).trans (.swap x y ys)
theorem sortI_perm : ∀ l, (sortI l).Perm l
  | [] => .refl _
  | x :: xs => (insI_perm x _).trans ((sortI_perm xs).cons x)
theorem insI_sorted (x : Int) : ∀ l, l.Pairwise (· ≤ ·) → (insI x l).Pairwise (· ≤ ·)
  | [], _ => by unfold insI; exact List.pairwise_singleton _ _
  | y :: ys, h => by
    obtain ⟨h1, h2⟩ := List.pairwise_cons.mp h
    unfold insI
    split
    · rename_i hxy
      exact List.pairwise_cons.mpr ⟨fun z hz => (List.mem_cons.mp hz).elim (fun e => e ▸ hxy) fun hz => Int.le_trans hxy (h1 z hz), h⟩
    · rename_i hxy
      refine List.pairwise_cons.mpr ⟨fun z hz => ?_, insI_sorted x ys h2⟩
      rcases List.mem_cons.mp ((insI_perm x ys).mem_iff.mp hz) with e | hz
      · rw [e]; omega
      · exact h1 z hz
theorem sortI_sorted : ∀ l, (sortI l).Pairwise (· ≤ ·)
  | [] => .nil
  | x :: xs => insI_sorted x _ (sortI_sorted xs)
theorem sorted_unique : ∀ {a b : List Int}, a.Perm b → a.Pairwise (· ≤ ·) → b.Pairwise (· ≤ ·) → a = b
  | [], b, h, _, _ => (List.Perm.nil_eq h)
  | x :: a, [], h, _, _ => by simpa using h.length_eq
  | x :: a, y :: b, h, ha, hb => by
    obtain ⟨a1, a2⟩ := List.pairwise_cons.mp ha
    obtain ⟨b1, b2⟩ := List.pairwise_cons.mp hb
    have hxy : x = y := by
      have h1 : x ∈ y :: b := h.mem_iff.mp List.mem_cons_self
      have h2 : y ∈ x :: a := h.mem_iff.mpr List.mem_cons_self
      rcases List.mem_cons.mp h1 with e | h1
      · exact e
      · rcases List.mem_cons.mp h2 with e | h2
        · exact e.symm
        · have := b1 x h1
          have := a1 y h2
          omega
    subst hxy
    rw [sorted_unique (h.cons_inv) a2 b2]
theorem us_sort {K : PySem.W.Frag} : UnS K sortD fun x H Q => rSortedI K [x] H Q := by
  intro S σ H Q x d w cl hd e k
  unfold sortD at e
  split at e
  · obtain ⟨l, xs, rfl, h1, h2⟩ := dv_lst hd
    obtain ⟨ns, en, e2⟩ := Option.bind_eq_some_iff.mp e
    cases e2
    rw [intsOf_some en] at h2
    rw [dq_ints h2] at h1
    refine ⟨l, ns, rfl, .inl (.inl h1), fun ns' p hp hs np => ?_⟩
    have := sorted_unique (hp.trans (sortI_perm ns).symm) hs (sortI_sorted ns)
    subst this
    refine k_lst cl np ?_ k
    have go : ∀ l : List Int, DqAll K (wo S H) (l.map V.int) (l.map .int) := fun l => by
      induction l with
      | nil => exact .nil
      | cons a l ih => exact .cons (.int a) ih
    exact go _
  · cases e
theorem us_maxl {K : PySem.W.Frag} : UnS K maxlD fun x H Q => rMax K [x] H Q := by
  intro S σ H Q x d w cl hd e k
  unfold maxlD at e
  split at e
  · obtain ⟨l, xs, rfl, h1, h2⟩ := dv_lst hd
    obtain ⟨ns, en, e2⟩ := Option.bind_eq_some_iff.mp e
    obtain ⟨m, em, e3⟩ := Option.bind_eq_some_iff.mp e2
    rw [intsOf_some en] at h2
    rw [dq_ints h2] at h1
    refine ⟨l, ns, rfl, .inl (.inl h1), ?_, fun m' g1 g2 => ?_⟩
    · cases ns with
      | nil => cases em
      | cons a l => simp
    · rw [maxL_of g1 g2] at em
      cases em
      exact k_int e3 k
  · cases e
theorem us_minl {K : PySem.W.Frag} : UnS K minlD fun x H Q => rMin K [x] H Q := by
  intro S σ H Q x d w cl hd e k
  unfold minlD at e
  split at e
  · obtain ⟨l, xs, rfl, h1, h2⟩ := dv_lst hd
    obtain ⟨ns, en, e2⟩ := Option.bind_eq_some_iff.mp e
    obtain ⟨m, em, e3⟩ := Option.bind_eq_some_iff.mp e2
    rw [intsOf_some en] at h2
    rw [dq_ints h2] at h1
    refine ⟨l, ns, rfl, .inl (.inl h1), ?_, fun m' g1 g2 => ?_⟩
    · cases ns with
      | nil => cases em
      | cons a l => simp
    · rw [minL_of g1 g2] at em
      cases em
      exact k_int e3 k
  · cases e
section
variable {X : Cx} {z : Z} {e a : Expr} {fa fb : M Vw} {p apos : Pos}
/-- xs.index(x) -/
theorem pu_idx (hK : X.K = z.K) (hu : X.A.units + 65 < cLine) (ho : PE X a (tP z fa)) (ha : PE X e (tP z fb))
    (hbase : attributeBase a "index" X.env (eval a X.env) = eval a X.env := by rfl)
    (hfew : ((backTo p (starEach [e] X.env)).all (fun x => !x.1) && (backToKw p (keywordEach [] X.env)).all (fun x => x.1.isSome) && decide ([e].length + ([] : List Keyword).length + (if ([] : List Keyword).isEmpty then 0 else 1) < 30)) = true := by rfl)
    (hline : (apos.endLine == p.line) = true := by rfl) (hs : starEach [e] X.env = (false, eval e X.env) :: starEach [] X.env := by rfl) (hplain : (backTo p (starEach [] X.env)).any (·.1) = false := by rfl) :
    PE X (.Call (.Attribute a "index" apos) [e] [] p) (tP z (eIdx fa fb)) := PE_imp (pe_bm PySem.F.plainAttrs_list PySem.F.slot_list_index PySem.F.type_list_index (mt_idxA hu) ho (pa_cons ha pa_nil hs) hbase hfew hline hs hplain) fun σ H Q ⟨O, env, R, P⟩ => by
  refine tG_mono (post_bnd bkE R P) fun v H1 ⟨env1, w, R1, s1, so1, V, P1⟩ => ?_
  obtain ⟨d0, e0, P1⟩ := post_now P1
  obtain ⟨hl, P1⟩ := post_if P1
  have ty : tyV X.K "list" v H1 := by
    have hv := V.1.now R1 e0
    cases d0 with
    | lst ds =>
      obtain ⟨q, xs, rfl, h1, _⟩ := dv_lst hv
      exact ty_list h1
    | _ => cases hl
  refine ⟨ty, ?_⟩
  refine tG_mono (post_bnd bkE R1 P1) fun u H2 ⟨env2, w2, R2, s2, so2, V2, P2⟩ => ?_
  obtain ⟨d1, e1, P3⟩ := post_now P2
  obtain ⟨d2, e2, P4⟩ := post_now P3
  obtain ⟨r1, e3, P5⟩ := post_optE P4
  rw [hK]
  exact os_idx _ σ H2 Q v u d1 d2 r1 R2.cl ((vmove s2 so2 V.1).now R2 e1) (V2.1.now R2 e2) e3 fun v' H' e V' N => post_new R2 P5 e V' N
end
end UbP
namespace UbP
open PySem PySem.Spec PyProof.Rows L2 UbM Ub
end UbP
namespace UbP
open PySem PySem.Spec PyProof.Rows L2 UbM Ub
theorem _root_.L2.Room.units65 {k : Nat} {A : Around} (r : L2.Room k A) : A.units + 65 < cLine := by have := r.un; omega
theorem bb_sorted : bootBuiltins "sorted" = some (.builtin "sorted") := by decide +kernel
theorem bt_ValueError : bootBuiltins "ValueError" = some (.type "ValueError") := by decide +kernel
theorem os_and {K : PySem.W.Frag} : OpS K andD (rI0 fun i j => .int (Builtin.bitAnd i j)) := by
  intro S σ H Q x y a b w cl ha hb e k
  unfold andD at e
  split at e
  · cases dv_int ha
    cases dv_int hb
    split at e
    · rename_i i j hl
      obtain ⟨n, rfl⟩ := Int.eq_ofNat_of_zero_le hl.1
      obtain ⟨m, rfl⟩ := Int.eq_ofNat_of_zero_le hl.2
      exact ⟨_, _, rfl, rfl, k_int e k⟩
    · cases e
  · cases e
theorem or_nat (n m : Nat) : Builtin.bitOr (n : Int) (m : Int) = ((n ||| m : Nat) : Int) := by
  have h1 : ∀ k : Nat, decide ((0 : Int) ≤ Builtin.bitNot (k : Int)) = false := fun k => decide_eq_false (by unfold Builtin.bitNot; omega)
  have h2 : ∀ x : Int, Builtin.bitNot (Builtin.bitNot x) = x := fun x => by unfold Builtin.bitNot; omega
  unfold Builtin.bitOr Builtin.bitAnd
  rw [h1, h1]
  show Builtin.bitNot (Builtin.bitNot _) = _
  rw [h2, h2, h2]
  rfl
theorem os_or {K : PySem.W.Frag} : OpS K orD (rI0 fun i j => .int (Builtin.bitOr i j)) := by
  intro S σ H Q x y a b w cl ha hb e k
  unfold orD at e
  split at e
  · cases dv_int ha
    cases dv_int hb
    split at e
    · rename_i i j hl
      obtain ⟨n, rfl⟩ := Int.eq_ofNat_of_zero_le hl.1
      obtain ⟨m, rfl⟩ := Int.eq_ofNat_of_zero_le hl.2
      refine ⟨_, _, rfl, rfl, ?_⟩
      show Q (V.int (Builtin.bitOr (n : Int) (m : Int))) H
      rw [or_nat]
      exact k_int e k
    · cases e
  · cases e
theorem op_andA {X : Cx} : OpR X (binaryOp .BitAnd) (rI0 fun i j => .int (Builtin.bitAnd i j)) := op_and
theorem op_orA {X : Cx} : OpR X (binaryOp .BitOr) (rI0 fun i j => .int (Builtin.bitOr i j)) := op_or
end UbP
namespace UbMz
open PySem PySem.Spec PyProof.Rows L2 Ub UbM
def sIt : Bool → Heap → Addr → Addr → Nat → Prop
  | true, h, i, l, k => h.IsTupleIter i l k
  | false, h, i, l, k => h.IsListIter i l k
def sAt : Bool → Heap → Addr → Array Value → Prop
  | true, h, l, xs => h.IsTuple l xs
  | false, h, l, xs => h.IsList l xs
def Sq : Bool → PySem.W.Frag → Hp → Addr → List V → Prop
  | true, K, H, a, xs => SqT K H a xs
  | false, K, H, a, xs => SqL K H a xs
theorem sIt.move {t : Bool} {h h' : Heap} {i l : Addr} {k : Nat} (x : sIt t h i l k) (e : ∀ o, h.get? i = some o → h'.get? i = some o) : sIt t h' i l k := by
  cases t with
  | true => exact Heap.IsTupleIter.at x e
  | false => exact Heap.IsListIter.at x e
theorem sAt.move {t : Bool} {h h' : Heap} {l : Addr} {xs : Array Value} (x : sAt t h l xs) (e : ∀ o, h.get? l = some o → h'.get? l = some o) : sAt t h' l xs := by
  cases t with
  | true => exact Heap.IsTuple.at x e
  | false => exact Heap.IsList.at x e
theorem sIt.cell {t : Bool} {h : Heap} {i l : Addr} {k : Nat} (x : sIt t h i l k) : ∃ o, h.get? i = some o ∧ ∀ v, o.data ≠ .cell v := by
  cases t with
  | true =>
    obtain ⟨o, e, _, d⟩ := x
    exact ⟨o, e, fun v z => by rw [d] at z; cases z⟩
  | false =>
    obtain ⟨o, e, _, d⟩ := x
    exact ⟨o, e, fun v z => by rw [d] at z; cases z⟩
def itN : Bool → String
  | true => "tuple_iterator"
  | false => "list_iterator"
abbrev it0 (t : Bool) (l : Addr) : Obj := { cls := .type (itN t), data := .fields #[.ref l, .int 0 0] }
abbrev z1 (h : Heap) (t1 : Bool) (l1 : Addr) : Heap := h.push (it0 t1 l1)
abbrev z2 (h : Heap) (t1 t2 : Bool) (l1 l2 : Addr) : Heap := (z1 h t1 l1).push (it0 t2 l2)
abbrev z3 (h : Heap) (t1 t2 : Bool) (l1 l2 : Addr) : Heap := (z2 h t1 t2 l1 l2).push { cls := .type "tuple", data := .seq #[.ref h.objs.size, .ref (z1 h t1 l1).objs.size] }
abbrev z4 (h : Heap) (t1 t2 : Bool) (l1 l2 : Addr) : Heap := (z3 h t1 t2 l1 l2).push { cls := .type "tuple", data := .seq #[.none, .none] }
abbrev z5 (h : Heap) (t1 t2 : Bool) (l1 l2 : Addr) : Heap := (z4 h t1 t2 l1 l2).push { cls := .type "zip", data := .fields #[.none, .bool false, .bool false, .ref (z2 h t1 t2 l1 l2).objs.size, .ref (z3 h t1 t2 l1 l2).objs.size] }
end UbMz
namespace UbEn
open PySem PySem.Spec PyProof.Rows L2 Ub UbM
open AutoSeq1 (wpAny_loadPart')
theorem meetsT (l : Addr) (items : Array Value) (n : Nat) (dct : Option Addr) (sl : Array (Option Value)) :
    Meets (Builtin.«enumerate.__new__» ⟨[.type "enumerate", .ref l], []⟩) (fun _ R s => s.heap.get? l = some { cls := .type "tuple", dict := dct, data := .seq items n, slots := sl } ∧
      R (.ok (.ret (.ref (s.heap.push (UbMz.it0 true l)).objs.size))) { s with heap := (s.heap.push (UbMz.it0 true l)).push { cls := .type "enumerate", data := .fields #[.none, .bool false, .ref s.heap.objs.size, rawInt 0, .none, .none] } }) :=
  .of_wp fun prog w A R s h => by
    obtain ⟨hp, g, d, tk, os⟩ := s
    obtain ⟨hl, h⟩ := h
    have hsub := sub_enumerate
    have hL : Heap.IsTuple (Shared.heap ⟨hp, g, d, tk, os⟩) l items := ⟨_, hl, rfl, n, rfl⟩
    wp_walk using wpAny_loadPart' hl
    refine wpAny_stack_any fun st => wpAny_pure ?_
    split
    · rename_i c _ _ _ _ _
      cases hc : (c == Value.type "enumerate") <;>
        (wp_walk using wpAny_loadPart' hl, wpAny_pyIter_tuple hL
         exact ⟨_, rfl, h⟩)
    · wp_walk using wpAny_loadPart' hl, wpAny_pyIter_tuple hL
      exact ⟨_, rfl, h⟩
section
variable {prog : Program} {w : World} {A : Around} {E : Value → Shared → Prop} {s : Shared}
theorem callT {l : Addr} {items : Array Value} {Q : Value → Shared → Prop} (hL : s.heap.IsTuple l items)
    (h : ∀ h', IsEnum h' (s.heap.objs.size + 1) s.heap.objs.size 0 .none → h'.IsTupleIter s.heap.objs.size l 0 →
      (∀ b o, s.heap.get? b = some o → h'.get? b = some o) → Q (.ref (s.heap.objs.size + 1)) { s with heap := h' }) :
    wpAny (model prog w) A (call (.type "enumerate") [.ref l]) Q E s := by
  obtain ⟨⟨c, dct, dt, sl⟩, hl, hc, n, hd⟩ := hL
  replace hc : c = .type "tuple" := hc
  replace hd : dt = .seq items n := hd
  subst hc hd
  refine callType_new F.called_enumerate (by decide) (F.typeCall_enumerate_1 _) (F.newCall_enumerate_1 _) (fun obj => F.args_object_init_2 obj _) F.entry_enumerate_new
    (meetsT l items n dct sl) ⟨hl, ?_⟩
  have n1 : (s.heap.push (UbMz.it0 true l)).objs.size = s.heap.objs.size + 1 := Heap.size_push ..
  have p1 : ∀ {h : Heap} {o : Obj} {d : Addr} {v : Obj}, h.get? d = some v → (h.push o).get? d = some v := fun e => Heap.get?_push_of_some _ e
  have g2 : ((s.heap.push (UbMz.it0 true l)).push { cls := .type "enumerate", data := .fields #[.none, .bool false, .ref s.heap.objs.size, rawInt 0, .none, .none] }).get? (s.heap.push (UbMz.it0 true l)).objs.size = some _ := Heap.get?_push_size _ rfl
  have g1 : ((s.heap.push (UbMz.it0 true l)).push { cls := .type "enumerate", data := .fields #[.none, .bool false, .ref s.heap.objs.size, rawInt 0, .none, .none] }).get? s.heap.objs.size = some (UbMz.it0 true l) := p1 (Heap.get?_push_size _ rfl)
  show _ ∧ _
  rw [n1] at g2 ⊢
  exact ⟨⟨_, g2, rfl⟩, h _ g2 ⟨_, g1, rfl, rfl⟩ fun c o x => p1 (p1 x)⟩
variable {e it l : Addr} {i : Nat} {xs : Array Value} {x old : Value}
theorem en_item {Q : Value → Shared → Prop} (he : IsEnum s.heap e it i old) (hit : s.heap.IsTupleIter it l i) (hl : s.heap.IsTuple l xs) (hx : xs[i]? = some x) (hne : e ≠ it)
    (hQ : ∀ h', IsEnumOut h' e it ((i : Int) + 1) x s.heap.objs.size → h'.IsTupleIter it l (i + 1) →
      h'.get? s.heap.objs.size = some { cls := .type "tuple", data := .seq #[.int i s.toks, x] } →
      (∀ b o, b ≠ e → b ≠ it → s.heap.get? b = some o → h'.get? b = some o) → Q (.ref s.heap.objs.size) { s with heap := h', toks := s.toks + 1 }) :
    wpAny (model prog w) A (Builtin.«enumerate.__next__» ⟨[.ref e], []⟩) (fun fin s' => ∃ v, fin = .done (.ret v) ∧ Q v s') E s := by
  obtain ⟨hp, g, d, tk, os⟩ := s
  show wpAny _ _ (field (.ref e) 2 >>= _) _ _ _
  refine wpAny_bind (wpAny_field he rfl (x := .ref it) rfl ?_)
  refine wpAny_bind (RZ.nextOf_tuple_item hit hl hx fun hA jA sA => ?_)
  replace sA : Heap.SameBut it hp hA := sA
  have eA : IsEnum hA e it i old := (sA.2 e hne).trans he
  show wpAny _ _ (field (.ref e) 3 >>= _) _ _ ⟨hA, g, d, tk, os⟩
  refine wpAny_bind (wpAny_field eA rfl (x := rawInt i) rfl ?_)
  show wpAny _ _ (field (.ref e) 4 >>= _) _ _ ⟨hA, g, d, tk, os⟩
  refine wpAny_bind (wpAny_field eA rfl (x := .none) rfl ?_)
  show wpAny _ _ (mkInt i >>= _) _ _ ⟨hA, g, d, tk, os⟩
  refine wpAny_bind (wpAny_mkInt ?_)
  show wpAny _ _ (setField (.ref e) 3 (rawInt ((i : Int) + 1)) >>= _) _ _ ⟨hA, g, d, tk + 1, os⟩
  refine wpAny_bind (wpAny_setField_rec eA (by simp) fun hB eB sB => ?_)
  replace sB : Heap.SameBut e hA hB := sB
  replace eB : IsEnum hB e it ((i : Int) + 1) old := eB
  show wpAny _ _ (setField (.ref e) 4 .none >>= _) _ _ ⟨hB, g, d, tk + 1, os⟩
  refine wpAny_bind (wpAny_setField_rec eB (by simp) fun hC eC sC => ?_)
  replace sC : Heap.SameBut e hB hC := sC
  replace eC : IsEnum hC e it ((i : Int) + 1) old := eC
  show wpAny _ _ (newTuple [.int i tk, x] >>= _) _ _ ⟨hC, g, d, tk + 1, os⟩
  refine wpAny_bind (wpAny_newTuple ?_)
  have eD : IsEnum (hC.push { cls := .type "tuple", data := .seq #[.int i tk, x] }) e it ((i : Int) + 1) old := Heap.get?_push_of_some _ eC
  have nC : hC.objs.size = hp.objs.size := by rw [sC.1, sB.1, sA.1]
  have hel : e < hp.objs.size := Heap.lt_size he
  have tD : (hC.push { cls := .type "tuple", data := .seq #[.int i tk, x] }).get? hp.objs.size = some { cls := .type "tuple", data := .seq #[.int i tk, x] } := by
    have := Heap.get?_push_size hC (o := { cls := .type "tuple", data := .seq #[.int i tk, x] }) rfl
    rwa [nC] at this
  have kD : ∀ b o, b ≠ e → b ≠ it → hp.get? b = some o → (hC.push { cls := .type "tuple", data := .seq #[.int i tk, x] }).get? b = some o := fun b o b1 b2 q =>
    Heap.get?_push_of_some _ (sC.extBut b o b1 (sB.extBut b o b1 (sA.extBut b o b2 q)))
  have jD : (hC.push { cls := .type "tuple", data := .seq #[.int i tk, x] }).IsTupleIter it l (i + 1) := jA.at fun o q => Heap.get?_push_of_some _ (sC.extBut _ _ (Ne.symm hne) (sB.extBut _ _ (Ne.symm hne) q))
  generalize hC.push { cls := .type "tuple", data := .seq #[.int i tk, x] } = hD at eD tD kD jD
  show wpAny _ _ (Builtin.SmallTypes.ownedTupleIsFree (.ref e) >>= _) _ _ ⟨hD, g, d, tk + 1, os⟩
  rw [nC]
  refine wpAny_bind ?_
  unfold Builtin.SmallTypes.ownedTupleIsFree
  refine wpAny_bind (wpAny_field eD rfl (x := .none) rfl (wpAny_pure ?_))
  simp only [if_true]
  refine wpAny_bind (wpAny_rule ?_)
  refine wpAny_bind (wpAny_field eD rfl (x := old) rfl ?_)
  refine wpAny_bind (wpAny_setField_rec eD (by simp) fun hF eF sF => ?_)
  replace sF : Heap.SameBut e hD hF := sF
  replace eF : IsEnum hF e it ((i : Int) + 1) x := eF
  show wpAny _ _ (Builtin.SmallTypes.ownedTupleHandOut (.ref e) (.ref hp.objs.size) >>= _) _ _ ⟨hF, g, d, tk + 1, os⟩
  refine wpAny_bind ?_
  unfold Builtin.SmallTypes.ownedTupleHandOut
  refine wpAny_bind (wpAny_setField_rec eF (by simp) fun hG eG sG => ?_)
  replace sG : Heap.SameBut e hF hG := sG
  replace eG : IsEnumOut hG e it ((i : Int) + 1) x hp.objs.size := eG
  refine wpAny_setField_rec eG (by simp) fun hM eM sM => ?_
  replace sM : Heap.SameBut e hG hM := sM
  replace eM : IsEnumOut hM e it ((i : Int) + 1) x hp.objs.size := eM
  have up : ∀ b o, b ≠ e → hD.get? b = some o → hM.get? b = some o := fun b o b1 q => sM.extBut _ _ b1 (sG.extBut _ _ b1 (sF.extBut _ _ b1 q))
  exact wpAny_bind (wpAny_letGo (wpAny_pure ⟨_, rfl, hQ hM eM (jD.at fun o q => up _ o (Ne.symm hne) q) (up _ _ (Nat.ne_of_gt hel) tD) fun b o b1 b2 q => up b o b1 (kD b o b1 b2 q)⟩))
theorem pe_item {Q : Option Value → Shared → Prop} (he : IsEnum s.heap e it i old) (hit : s.heap.IsTupleIter it l i) (hl : s.heap.IsTuple l xs) (hx : xs[i]? = some x) (hne : e ≠ it)
    (hQ : ∀ h', IsEnumOut h' e it ((i : Int) + 1) x s.heap.objs.size → h'.IsTupleIter it l (i + 1) →
      h'.get? s.heap.objs.size = some { cls := .type "tuple", data := .seq #[.int i s.toks, x] } →
      (∀ b o, b ≠ e → b ≠ it → s.heap.get? b = some o → h'.get? b = some o) → Q (some (.ref s.heap.objs.size)) { s with heap := h', toks := s.toks + 1 }) :
    wpAny (model prog w) A (pyNext (.ref e)) Q E s := by
  have hT : s.TypeIs (.ref e) "enumerate" := ⟨_, he, rfl⟩
  unfold pyNext
  exact wpAny_bind (wpAny_attempt (wpAny_callSpecial?_slot (name := Str.ofString "__next__") hT F.slot_enumerate_next
    (wpAny_call_entry F.slot_enumerate_next hT F.entry_enumerate_next
      (en_item he hit hl hx hne fun h' a b c k => wpAny_pure (hQ h' a b c k)) (F.args_enumerate_next_1 _))))
theorem pe_end {Q : Option Value → Shared → Prop} (hh : A.handled = none) (he : IsEnum s.heap e it i old) (hit : s.heap.IsTupleIter it l i) (hl : s.heap.IsTuple l xs) (hx : xs[i]? = none)
    (hQ : ∀ h', Heap.ExtBut it s.heap h' → Q none { s with heap := h' }) : wpAny (model prog w) A (pyNext (.ref e)) Q E s := by
  have hT : s.TypeIs (.ref e) "enumerate" := ⟨_, he, rfl⟩
  unfold pyNext
  refine wpAny_bind (wpAny_attempt (wpAny_callSpecial?_slot (name := Str.ofString "__next__") hT F.slot_enumerate_next
    (wpAny_call_entry F.slot_enumerate_next hT F.entry_enumerate_next ?_ (F.args_enumerate_next_1 _))))
  show wpAny _ _ (field (.ref e) 2 >>= _) _ _ _
  refine wpAny_bind (wpAny_field he rfl (x := .ref it) rfl ?_)
  refine wpAny_bind (RZ.nextOf_tuple_end hh hit hl hx fun h' x he' hx' => ?_)
  obtain ⟨o, ho, hc⟩ := hx'
  refine wpAny_bind (wpAny_isInstance (T := "StopIteration") (b := true) ⟨o, ho, hc⟩ isSubtype_stop ?_)
  exact wpAny_pure (hQ _ he')
end
def IteT (K : PySem.W.Frag) (a : Addr) : It :=
  ⟨fun i H => ∃ (xs : List V) (x : V), SqT K H a xs ∧ xs[i]? = some x, fun i H v H' => ∃ T x, v = .ref T ∧ H T = none ∧ H' = upd H T (.tup [.int (i : Nat), x]) ∧ ∀ xs, SqT K H a xs → xs[i]? = some x, fun i H => ∃ xs : List V, SqT K H a xs ∧ xs.length ≤ i⟩
theorem turnT {P : Program} {w : World} {K : PySem.W.Frag} {elts : List Expr} {kk : Nat} {tpos : Pos} (a e it : Addr) :
    Turn P w K (.Tuple elts kk tpos) (IteT K a) [e, it] e (fun i h => (∃ old, IsEnum h e it ((i : Nat) : Int) old) ∧ h.IsTupleIter it a i ∧ e ≠ it) where
  mem := by simp
  obj := fun i h st b hb => by
    obtain ⟨⟨old, he⟩, ⟨o, ho, hc, hd⟩, _⟩ := st
    have e' : b = e ∨ b = it := by simpa using hb
    rcases e' with z | z
    · rw [z]; exact ⟨_, he, fun v q => nomatch q⟩
    · rw [z]; exact ⟨o, ho, fun v q => by rw [hd] at q; cases q⟩
  keep := fun i h h' st k => by
    obtain ⟨⟨old, he⟩, hi, hne⟩ := st
    exact ⟨⟨old, k e (by simp) _ he⟩, hi.at fun o q => k it (by simp) o q, hne⟩
  item := by
    intro X hP hw hK hc i pins s σ H E I hf st hg
    subst hP hw hK
    obtain ⟨⟨old, he⟩, hit, hne⟩ := st
    obtain ⟨xs, x, hq, hx⟩ := hg
    obtain ⟨its, rv, p, hz⟩ := I.tuple hq
    obtain ⟨u, hu, ru⟩ := rv.get hx
    have hel : e < s.heap.objs.size := Heap.lt_size he
    have hil : it < s.heap.objs.size := by obtain ⟨_, q, _⟩ := hit; exact Heap.lt_size q
    refine pe_item he hit p (x := u) (by simpa using hu) hne fun h' ho hit' hT hk => ?_
    refine ⟨_, rfl, wpAny_letOwnedTupleGo_enum (s := { s with heap := h', toks := s.toks + 1 }) ho fun h'' he' sb => ?_⟩
    have hT2 : h''.get? s.heap.objs.size = some { cls := .type "tuple", data := .seq #[.int i s.toks, u] } := (sb.2 _ (Nat.ne_of_gt hel)).trans hT
    have new : ObjOk X.prog X.w (upd H s.heap.objs.size (.tup [.int (i : Nat), x])) h'' s.heap.objs.size (.tup [.int (i : Nat), x]) :=
      ⟨by show 2 ≤ sizeLine; decide, [.int i s.toks, u], .cons ⟨_, rfl⟩ (.cons ru .nil), ⟨_, hT2, rfl, _, rfl⟩⟩
    have I1 : Inv X pins σ (upd H s.heap.objs.size (.tup [.int (i : Nat), x])) { s with heap := h'', toks := s.toks + 1 } :=
      I.turnedNew (ch := [e, it]) (fun b ob hb q => (sb.2 b (fun z => hb (by simp [z]))).trans (hk b ob (fun z => hb (by simp [z])) (fun z => hb (by simp [z])) q)) hf (Nat.le_refl _) new
    refine ⟨.ref s.heap.objs.size, _, I1, rfl, ⟨_, x, rfl, I.hok.fresh (Nat.le_refl _), rfl, fun ys hy => by rw [I.tuple_inj hy hq]; exact hx⟩, ⟨⟨u, ?_⟩, hit'.at fun o q => (sb.2 it (Ne.symm hne)).trans q, hne⟩, fun b hb => ?_⟩
    · have e1 : ((i + 1 : Nat) : Int) = (i : Int) + 1 := by omega
      rw [e1]
      exact he'
    · have hb' : b < s.heap.objs.size := by
        have e' : b = e ∨ b = it := by simpa using hb
        rcases e' with z | z
        · rw [z]; exact hel
        · rw [z]; exact hil
      rw [upd_ne (Nat.ne_of_lt hb')]
      exact (hf b hb).1
  done := by
    intro X hP hw hK hc i pins s σ H E I hf st hg
    subst hP hw hK
    obtain ⟨⟨old, he⟩, hit, hne⟩ := st
    obtain ⟨xs, hq, hx⟩ := hg
    obtain ⟨its, rv, p, hz⟩ := I.tuple hq
    obtain ⟨f0, f1, f2, f3, f4, f5⟩ := hf it (by simp)
    have hl := rv.length
    exact pe_end (I.ok.hd hc) he hit p (by simp; omega) fun h' eb => ⟨rfl, I.turned (t' := s.toks) (fun b o hb q => eb b o hb q) f0 f1 f3 f4 f5⟩
  self := fun A i s Q E st h => by
    obtain ⟨⟨_, he⟩, _⟩ := st
    exact wpAny_pyIter_enum he h
def IteG (K : PySem.W.Frag) : Bool → Addr → It
  | true, a => IteT K a
  | false, a => Ite K a
def iEnumA (K : PySem.W.Frag) (ta : TA) : TI := fun σ H R => ta σ H fun vs H1 => ∃ t a xs, vs = [.ref a] ∧ UbMz.Sq t K H1 a xs ∧ R (IteG K t a) H1
theorem pi_enumA {X : Cx} {e : Expr} {ta : TA} {p pos tpos : Pos} {elts : List Expr} {kk : Nat} (hg : Gl X "enumerate") (hm : X.mg "enumerate" = none) (ha : PA X [e] ta) (hs : starEach [e] X.env = [(false, eval e X.env)] := by rfl) :
    PI X (.Tuple elts kk tpos) (.Call (.Name "enumerate" p) [e] [] pos) (iEnumA X.K ta) := by
  refine ⟨fun pins s σ H R I h => ?_⟩
  refine Call_ (ld_blt I hg hm boot_enumerate (PyProof.Rows.callWith_type1 (thn (ha.run pos pins s σ H _ I h) fun us s1 ⟨vs, H1, I1, r1, q1⟩ => ?_) hs rfl))
  obtain ⟨t, a, xs, ex, hq, q⟩ := q1
  subst ex
  cases r1 with
  | cons r rr =>
    cases rr
    cases r
    have hle : ∀ b, b ∈ [s1.heap.objs.size + 1, s1.heap.objs.size] → s1.heap.objs.size ≤ b := fun b hb => by
      have e' : b = s1.heap.objs.size + 1 ∨ b = s1.heap.objs.size := by simpa using hb
      rcases e' with z | z
      · rw [z]; exact Nat.le_add_right _ _
      · rw [z]; exact Nat.le_refl _
    cases t with
    | true =>
      obtain ⟨its, rv, p', hz⟩ := I1.tuple hq
      refine callT p' fun h' he hit hk => wpAny_pyIter_enum he ?_
      have I2 : Inv X pins σ H1 { s1 with heap := h' } := I1.kept (t' := s1.toks) hk
      exact ⟨s1.heap.objs.size + 1, [s1.heap.objs.size + 1, s1.heap.objs.size], _, _, H1, rfl, I2, turnT a (s1.heap.objs.size + 1) s1.heap.objs.size, ⟨⟨.none, he⟩, hit, Nat.succ_ne_self _⟩, fun b hb => I1.fpOk (hle b hb) (I1.hok.fresh (hle b hb)), q⟩
    | false =>
      obtain ⟨its, rv, p', hz⟩ := I1.list hq
      refine call_enumerate_list p'.isList fun h' he hit _ hk => wpAny_pyIter_enum he ?_
      have I2 : Inv X pins σ H1 { s1 with heap := h' } := I1.kept (t' := s1.toks) hk
      exact ⟨s1.heap.objs.size + 1, [s1.heap.objs.size + 1, s1.heap.objs.size], _, _, H1, rfl, I2, turn_enum a (s1.heap.objs.size + 1) s1.heap.objs.size, ⟨⟨.none, he⟩, hit, Nat.succ_ne_self _⟩, fun b hb => I1.fpOk (hle b hb) (I1.hok.fresh (hle b hb)), q⟩
end UbEn
namespace UbP
open PySem PySem.Spec PyProof.Rows L2 UbM Ub
section
variable {K : PySem.W.Frag} {S : SS} {H : Hp} {a b : Addr} {xs ys : List V} {ds es : List D} {t t1 t2 : Bool}
theorem sqh (h : UbMz.Sq t K (wo S H) a xs) : UbMz.Sq t K H a xs := by
  cases t with
  | true => exact Same.tseq wo_same h
  | false => exact Same.seq wo_same h
theorem it_enumT (h1 : SqT K (wo S H) a xs) (h2 : DqAll K (wo S H) xs ds) : ItOk K S H (UbEn.IteT K a) (enumF ds) := ⟨fun i S' H' e c => by
  have hl := h2.len
  have q : SqT K H' a xs := Same.tseq wo_same (UbG.SameT.tseq e h1)
  rw [enum_len]
  refine ⟨fun hi => ⟨xs, xs[i]'(by omega), q, List.getElem?_eq_getElem _⟩, fun hi => ⟨xs, q, by omega⟩, fun x H'' hi y => ?_⟩
  obtain ⟨T, x1, rfl, nT, rfl, y⟩ := y
  obtain ⟨d, e1, e2⟩ := h2.at (y xs q)
  have e2' := Dq.monoT e _ _ e2
  refine ⟨sameNew nT, _, enum_at e1, ?_⟩
  rw [wo_new (c.new nT)]
  exact .tup (.inl (.inl upd_same)) (.cons (.int _) (.cons (e2'.mono (sameNew (wo_none nT))) .nil))⟩
theorem sq_any {d : D} {v : V} (h : Dq K (wo S H) v d) {ds : List D} (e : seqOf d = some ds) : ∃ t a xs, v = .ref a ∧ UbMz.Sq t K (wo S H) a xs ∧ DqAll K (wo S H) xs ds := by
  cases h with
  | lst h1 h2 => cases e; exact ⟨false, _, _, rfl, .inl (.inl h1), h2⟩
  | lsf h1 h2 => cases e; exact ⟨false, _, _, rfl, h1, h2⟩
  | tup h1 h2 => cases e; exact ⟨true, _, _, rfl, h1, h2⟩
  | _ => cases e
end
section
variable {X : Cx} {z : Z} {tg e e2 : Expr} {fa fb : M Vw} {pos p p2 tpos : Pos} {elts : List Expr} {kk : Nat} {O : SS} {σ : L2.St} {env : Env} {H : Hp}
theorem pu_iEn (hK : X.K = z.K) (hg : Gl X "enumerate") (hm : X.mg "enumerate" = none) (ha : PE X e (tP z fa)) (hs : starEach [e] X.env = [(false, eval e X.env)] := by rfl) : PI X (.Tuple elts kk tpos) (.Call (.Name "enumerate" p) [e] [] pos) (tI z (iEn fa)) := PI_imp (UbEn.pi_enumA hg hm (pa_cons ha pa_nil hs) hs) fun σ H R ⟨O, env, RT, P⟩ =>
  tG_mono (post_bnd bkI RT P) fun v H1 ⟨env1, w, R1, s1, so1, V, P1⟩ => by
    obtain ⟨d, e1, P2⟩ := post_stay P1
    obtain ⟨ds, e2, P3⟩ := post_opt P2
    obtain ⟨t, a, xs, rfl, h1, h2⟩ := sq_any (V.1.stay e1) e2
    rw [hK]
    refine ⟨t, a, xs, rfl, sqh h1, P3 _ H1 (SameC.refl _) R1 (SameO.refl _) ?_⟩
    cases t with
    | true => exact it_enumT h1 h2
    | false => exact it_enum h1 h2
theorem dq_intsF {K : PySem.W.Frag} {H : Hp} (f : Nat → Int) : ∀ l : List Nat, DqAll K H (l.map fun i => V.int (f i)) (l.map fun i => D.int (f i))
  | [] => .nil
  | _ :: l => .cons (.int _) (dq_intsF f l)
theorem pu_rg1 (hc : X.calm = true) (hg : Gl X "list") (hm : X.mg "list" = none) (hg2 : Gl X "range") (hm2 : X.mg "range" = none) (ha : PE X e (tP z fa))
    (hs : starEach [e] X.env = (false, eval e X.env) :: starEach [] X.env := by rfl)
    (hs2 : starEach [.Call (.Name "range" p2) [e] [] pos] X.env = (false, eval (.Call (.Name "range" p2) [e] [] pos) X.env) :: starEach [] X.env := by rfl) {pos2 : Pos} :
    PE X (.Call (.Name "list" p) [.Call (.Name "range" p2) [e] [] pos] [] pos2) (tP z (eRg1 fa)) := PE_imp (pe_listRg hc hg hm (prg_1 hg2 hm2 ha hs) hs2) (by
  refine pu_un (r := fun v H1 Q => ∃ n : Int, v = .int n ∧ RgOk 0 n ∧ ∀ q, H1 q = none → Q (.ref q) (upd H1 q (.lst (rgV 0 n)))) ?_
  intro S σ H Q x a w cl ha e k
  unfold rg1D at e
  split at e
  · rename_i j
    cases dv_int ha
    split at e
    · rename_i hb
      have hb := of_decide_eq_true hb
      cases e
      refine ⟨j, rfl, hb, fun q nq => k_lst cl nq ?_ k⟩
      unfold rgV intsL
      rw [show j - 0 = j by omega]
      exact dq_intsF _ _
    · cases e
  · cases e)
end
end UbP
namespace UbTm
open PySem PySem.Spec PyProof.Rows L2
abbrev Su := Addr → Value → Option Addr → TS
/-- the ends of a suite whose name in slot k goes -/
def gone (k : Nat) (D : Ends) : Ends := { nx := fun a b => D.nx (a.set k none) b, rt := D.rt, bk := fun a b => D.bk (a.set k none) b, ct := fun a b => D.ct (a.set k none) b }
def enter (n : Option Nat) (t : TS) (D : Ends) (a : Addr) : L2.St → Hp → Prop := match n with
  | none => fun σ H => t D σ H
  | some k => fun σ H => t (gone k D) (σ.set k (some (.ref a))) H
def wish (K : PySem.W.Frag) (W0 : WX) (D : Ends) : List (Value × Option Nat × Su) → WX
  | [] => W0
  | (v, n, t) :: more => fun cl dx σ H => ∃ k, PySem.W.exmOne K cl v = some k ∧ (k = true → ∀ a, H a = none → enter n (t a cl dx) D a σ H) ∧ (k = false → wish K W0 D more cl dx σ H)
inductive Cls (X : Cx) : List ExceptHandler → List (Value × Option Nat × Su) → Prop
  | nil : Cls X [] []
  | bare {y : Str} {v : Value} {t : Su} {q : Stmt} {qs : List Stmt} {p1 p2 : Pos} {es : List ExceptHandler} {l : List (Value × Option Nat × Su)} (nm : Names X y v)
      (su : ∀ (a : Addr) (ob : Obj) (cl : Value) (dx : Option Addr) (pn : List (Addr × Obj)), Zc cl dx ob → (∃ us, ob.data = .fields us) → PSs (X.suite a ((a, ob) :: pn)) (q :: qs) (t a cl dx)) (rest : Cls X es l) :
      Cls X (.ExceptHandler (some (.Name y p1)) none (q :: qs) p2 :: es) ((v, none, t) :: l)
  | as {y m : Str} {k : Nat} {v : Value} {t : Su} {q : Stmt} {qs : List Stmt} {p1 p2 : Pos} {es : List ExceptHandler} {l : List (Value × Option Nat × Su)} (nm : Names X y v) (at_ : X.N[k]? = some m) (loc : X.env.kindOf m = some .local)
      (su : ∀ (a : Addr) (ob : Obj) (cl : Value) (dx : Option Addr) (pn : List (Addr × Obj)), Zc cl dx ob → (∃ us, ob.data = .fields us) → PSs (X.suite a ((a, ob) :: pn)) (q :: qs) (t a cl dx)) (rest : Cls X es l) :
      Cls X (.ExceptHandler (some (.Name y p1)) (some m) (q :: qs) p2 :: es) ((v, some k, t) :: l)
section
variable {X : Cx} {body : List Stmt} {e1 : ExceptHandler} {es : List ExceptHandler} {l : List (Value × Option Nat × Su)} {pos : Pos} {tb : WX → TS} {W0 : WX}
/-- where an error of the body goes -/
abbrev errGo (X : Cx) (es : List ExceptHandler) (G : Flow → Shared → Prop) : Value → Shared → Prop := fun u a =>
  wpAny (model X.prog X.w) X.A (noteFrame u X.env) (fun _ b => wpAny (model X.prog X.w) X.A (setFlight u none) (fun _ c => wpAny (model X.prog X.w) X.A (handleBy u X.env es) G X.xe c) X.xe b) X.xe a
theorem ps_tryM (stk : X.stack = X.env :: X.outer) (frm : X.env.frame = some X.env.locals) (nd : X.N.Nodup) (tk : Takes X W0)
    (hb : ∀ (V : WX) (pn : List (Addr × Obj)) (xe : Value → Shared → Prop), Takes (X.tr pn xe) V → PassesOwn (model X.prog X.w) X.A X.env xe → PSs (X.tr pn xe) body (tb V))
    (cs : Cls X (e1 :: es) l) : PS X (.Try body (e1 :: es) [] [] pos) (fun D σ H => tb (wish X.K W0 D l) D σ H) := by
  refine ⟨fun pins s0 σ0 H0 D J0 start => wpAny_Try_except ?_⟩
  have okX := J0.ok
  have frA : X.A.frames = some (X.env :: X.outer) := okX.frames.trans (congrArg some stk)
  have takes : Takes (X.tr (X.pn ++ pins) (errGo X (e1 :: es) (SP X pins D))) (wish X.K W0 D l) := fun u st caught => by
    rcases caught with ⟨a, B, sI, pins', σ, H, cl, dx, rfl, Jt, nb, up, sky, free, os, ag, w⟩
    have J : Inv X pins σ H sI := Jt.ofTry okX
    have sky2 : Sky B (X.env :: X.outer) a (Zc cl dx) X.env.locals st.heap := stk ▸ sky
    show wpAny (model X.prog X.w) X.A (noteFrame (.ref a) X.env) _ _ _
    refine Sky.land Zc.steady frA frm sky2 fun h3 fl3 up3 => ?_
    have u3 := up.trans up3
    have J3 : Inv X pins σ H { st with heap := h3 } := J.landed nb fl3.1 u3 os ag
    rcases fl3.there with ⟨ob3, us3, get3, zc3, dat3⟩
    have off : a ∉ frs (X.env :: X.outer) := fun m => by
      rcases fl3.2.2.1.mem m with ⟨_, ob', get', un⟩
      exact un us3 (by rw [get3] at get'; cases get'; exact dat3)
    have offL : a ≠ X.env.locals := fun z => off (List.mem_filterMap.mpr ⟨X.env, List.mem_cons_self, frm.trans (congrArg some z.symm)⟩)
    have offF : a ∉ X.fs := fun m => by
      rcases List.mem_filterMap.mp m with ⟨e, me, q⟩
      exact off (List.mem_filterMap.mpr ⟨e, List.mem_cons_of_mem _ me, q⟩)
    have JS := J3.suite get3 dat3 free offL offF
    -- is it this clause's class?
    have ask : ∀ {y : Str} {v : Value} {k : Bool} {p1 : Pos} {R : Value → Shared → Prop} {Q : Bool → Shared → Prop} {E : Value → Shared → Prop} (nm : Names X y v) (ek : PySem.W.exmOne X.K cl v = some k), Q k { st with heap := h3 } →
        wpAny (model X.prog X.w) (X.A.mark (some (.ref a))) (eval (.Name y p1) X.env) (fun c s => wpAny (model X.prog X.w) (X.A.mark (some (.ref a))) (excMatches (.ref a) c) Q E s) R { st with heap := h3 } := by
      intro y v k p1 R Q E nm ek q
      have LT : PySem.W.Looks (model X.prog X.w) h3 (typeOf (.ref a)) cl := fun A1 Q1 E1 s1 st1 q1 => wpAny_typeOf_ref (st1 _ _ get3) (by rw [zc3.1]; exact q1)
      have fin := (PySem.W.exm_one (M := model X.prog X.w) J3.kIn LT ek).here (A := X.A.mark (some (.ref a))) (E := E) (s := { st with heap := h3 }) q
      rcases nm with ⟨g, db, m | ⟨m, bv, nn⟩⟩
      · exact ld_glob (X := X.suite a ((a, ob3) :: (X.pn ++ pins))) JS g m fin db
      · exact ld_blt (X := X.suite a ((a, ob3) :: (X.pn ++ pins))) JS g m bv fin nn db
    suffices each : ∀ {es' : List ExceptHandler} {l' : List (Value × Option Nat × Su)}, Cls X es' l' → wish X.K W0 D l' cl dx σ H → wpAny (model X.prog X.w) X.A (handleBy (.ref a) X.env es') (SP X pins D) X.xe { st with heap := h3 } from each cs w
    intro es' l' hk
    induction hk with
    | nil =>
      intro w
      refine wpAny_handleBy_nil ?_
      rcases id fl3 with ⟨_, _, _, ob, us, T, oT, ts', get, _, dat, h1, _⟩
      unfold PySem.passOn
      refine wpAny_bind (wpAny_field get dat h1 ?_)
      rw [if_neg (by simp : ¬(Value.ref T == Value.none) = true), frm]
      have last : wpAny (model X.prog X.w) X.A (setFlight (.ref a) (some X.env.locals)) (fun _ s4 => wpAny (model X.prog X.w) X.A (throw (.ref a) : Sem Flow) (SP X pins D) X.xe s4) X.xe { st with heap := h3 } :=
        HandSPX.setFlight_upZ fl3 fun h4 held up4 => wpAny_throw (tk _ _ ⟨a, B, sI, pins, σ, H, cl, dx, rfl, J, nb, u3.trans up4, .inr (.inr (stk.symm ▸ held)), free, os, ag, w⟩)
      first | exact wpAny_bind (wpAny_pure (wpAny_bind last)) | exact wpAny_bind last
    | bare nm su rest ih =>
      rintro ⟨k, ek, yes, no⟩
      refine wpAny_handleBy_cons (codeAny_handlers_test (ask nm ek ?_)) (by intro q; cases q)
      cases k with
      | false => exact ih (no rfl)
      | true =>
        refine codeAny_handlers_suite (HandSPX.lands_againZ fl3 fun h4 fl4 up4 => ?_)
        have J4 : Inv X pins σ H { st with heap := h4 } := J.landed nb fl4.1 (u3.trans up4) os ag
        rcases fl4.there with ⟨ob4, us4, get4, zc4, dat4⟩
        refine wpAny_mono ((su a ob4 cl dx (X.pn ++ pins) zc4 ⟨_, dat4⟩).run [] _ _ H D (J4.suite get4 dat4 free offL offF) (yes rfl a free)) (fun fl s6 fin => ?_) (fun _ _ z => z.elim)
        cases fl with
        | next => rcases fin with ⟨σ6, H6, J6, q6⟩; exact ⟨σ6, H6, J6.unsuite okX, q6⟩
        | brk => rcases fin with ⟨σ6, H6, J6, q6⟩; exact ⟨σ6, H6, J6.unsuite okX, q6⟩
        | cont => rcases fin with ⟨σ6, H6, J6, q6⟩; exact ⟨σ6, H6, J6.unsuite okX, q6⟩
        | ret u => rcases fin with ⟨v6, σ6, H6, J6, r6, q6⟩; exact ⟨v6, σ6, H6, J6.unsuite okX, r6, q6⟩
    | as nm at_ loc su rest ih =>
      rintro ⟨k, ek, yes, no⟩
      refine wpAny_handleBy_cons (codeAny_handlers_test (ask nm ek ?_)) (by intro q; cases q)
      cases k with
      | false => exact ih (no rfl)
      | true =>
        refine codeAny_handlers_suite_as (HandSPX.lands_againZ fl3 fun h4 fl4 up4 => ?_)
        have J4 : Inv X pins σ H { st with heap := h4 } := J.landed nb fl4.1 (u3.trans up4) os ag
        rcases fl4.there with ⟨ob4, us4, get4, zc4, dat4⟩
        refine store_ok (X := X.suite a ((a, ob4) :: (X.pn ++ pins))) (v := .ref a) (J4.suite get4 dat4 free offL offF) nd at_ (.inl loc) rfl (fun s5 J5 => ?_) (.inr loc)
        refine wpAny_mono ((su a ob4 cl dx (X.pn ++ pins) zc4 ⟨_, dat4⟩).run [] s5 _ H _ J5 (yes rfl a free)) (fun fl s6 fin => ?_) (fun _ _ z => z.elim)
        cases fl with
        | next => rcases fin with ⟨σ6, H6, J6, q6⟩; exact gone_ok (J6.unsuite okX) nd at_ loc fun s7 J7 => ⟨_, _, J7, q6⟩
        | brk => rcases fin with ⟨σ6, H6, J6, q6⟩; exact gone_ok (J6.unsuite okX) nd at_ loc fun s7 J7 => ⟨_, _, J7, q6⟩
        | cont => rcases fin with ⟨σ6, H6, J6, q6⟩; exact gone_ok (J6.unsuite okX) nd at_ loc fun s7 J7 => ⟨_, _, J7, q6⟩
        | ret u => rcases fin with ⟨v6, σ6, H6, J6, r6, q6⟩; exact gone_ok (J6.unsuite okX) nd at_ loc fun s7 J7 => ⟨_, _, _, J7, r6, q6⟩
  refine wpAny_mono ((hb _ _ _ takes PassesOwn.looking).run [] s0 σ0 H0 D (J0.toTry _) start) (fun fl st fin => ?_) (fun _ _ hh => hh)
  cases fl with
  | next =>
    rcases fin with ⟨σ, H, J, q⟩
    exact wpAny_execs_nil ⟨σ, H, J.ofTry okX, q⟩
  | ret u =>
    rcases fin with ⟨v, σ, H, J, r, q⟩
    exact ⟨v, σ, H, J.ofTry okX, r, q⟩
  | brk => rcases fin with ⟨σ, H, J, q⟩; exact ⟨σ, H, J.ofTry okX, q⟩
  | cont => rcases fin with ⟨σ, H, J, q⟩; exact ⟨σ, H, J.ofTry okX, q⟩
end
end UbTm
namespace UbP
open PySem PySem.Spec PyProof.Rows L2 UbM Ub
section
variable {X : Cx} {x : Str} {z : Z} {body : List Stmt} {pos : Pos}
/-- one clause of a try, as plain -/
def clauseF (ok : Str → Option Bool) (n : Option Nat) (fs : M Fl) (x : Ex) (e : Env) (rest : Res Fl) : Res Fl := match ok x.cls with
  | none => .bad
  | some false => rest
  | some true => match n with
    | none => afterS none (fs e)
    | some i => match e[i]? with
      | some .no => afterS (some i) (fs (e.set i (.ex x)))
      | _ => .bad
theorem clause_wish {B : Fm} {σ σ' : L2.St} {env e : Env} {H H' : Hp} {D : Ends} {n : Option Nat} {c : Value} {ok : Str → Option Bool} {fs : M Fl} {more : List (Value × Option Nat × UbTm.Su)} {rest : Res Fl} {x : Ex} {cls : Value} {d : Option Addr}
    (hz : z.xi = none) (hok : ∀ s b, ok s = some b → PySem.W.exmOne z.K (.ref (He.ga z.K s)) c = some b)
    (R : RelT z B.O H' σ' e) (b : Base B σ' e H') (st : Stp B.O σ env H σ' e H') (hX : ExR z.K (wo (cells σ' e B.O) H') x cls d)
    (P : PostS z B σ env H D (clauseF ok n fs x e rest)) (go : PostS z B σ env H D rest → UbTm.wish z.K z.W D more cls d σ' H') :
    UbTm.wish z.K z.W D ((c, n, fun a cls d => tS (z.xs a cls d) fs) :: more) cls d σ' H' := by
  unfold clauseF at P
  cases ek : ok x.cls with
  | none => rw [ek] at P; exact P.elim
  | some k =>
    rw [ek] at P
    refine ⟨k, by rw [hX.1]; exact hok _ _ ek, fun hk a na => ?_, fun hk => ?_⟩
    · subst hk
      dsimp only at P
      cases n with
      | none => exact ⟨B, e, R.toX (noEx hz R), b, suite_only st P⟩
      | some i =>
        dsimp only at P
        cases ei : e[i]? with
        | none => rw [ei] at P; exact P.elim
        | some s =>
          rw [ei] at P
          cases s with
          | no =>
            obtain ⟨R2, C⟩ := setEx (a := a) hz R ei hX
            have hl : i < B.env0.length := by rw [← b.len]; exact get_lt ei
            exact ⟨B, _, R2, C.base b, suite_as (st.trans C.stp) hl (fun c h => by
              obtain ⟨c', h'⟩ := (b.par i).mpr ⟨c, h⟩
              rw [ei] at h'
              cases h') P⟩
          | _ => exact P.elim
    · subst hk
      exact go P
theorem after_calm {n : Option Nat} {r Y : Res Fl} {g : Ex → Env → Res Fl} : (match afterS n r with
    | .ok f e => .ok f e
    | .bad => .bad
    | .exc x e => g x e) = afterS n r := by
  cases r with
  | exc x e => rfl
  | bad => rfl
  | ok f e =>
    unfold afterS
    cases n with
    | none =>
      dsimp only
      generalize (exFree e && okFl f) = b
      cases b <;> rfl
    | some i =>
      dsimp only
      generalize (exFree (e.set i .no) && okFl f) = b
      cases b <;> rfl
theorem try2_eq {fb f1 f2 : M Fl} {ok1 ok2 : Str → Option Bool} {n1 n2 : Option Nat} {env e : Env} {x : Ex} (h : fb env = .exc x e) :
    sTry (sTry fb ok1 n1 f1) ok2 n2 f2 env = clauseF ok1 n1 f1 x e (clauseF ok2 n2 f2 x e (.exc x e)) := by
  unfold sTry
  rw [h]
  dsimp only
  unfold clauseF
  cases ok1 x.cls with
  | none => rfl
  | some k =>
    cases k with
    | false => rfl
    | true =>
      dsimp only
      cases n1 with
      | none => exact after_calm (Y := .bad)
      | some i =>
        dsimp only
        cases e[i]? with
        | none => rfl
        | some s => cases s <;> first | rfl | exact after_calm (Y := .bad)
theorem pu_stry2 {n1 n2 : Option Nat} {c1 c2 : Value} {h1 h2 : ExceptHandler} {fb f1 f2 : M Fl} {ok1 ok2 : Str → Option Bool} (hz : z.xi = none) (hK : X.K = z.K) (hs : X.stack = X.env :: X.outer) (hf : X.env.frame = some X.env.locals) (hN : X.N.Nodup) (tk : Takes X z.W)
    (hok1 : ∀ s b, ok1 s = some b → PySem.W.exmOne z.K (.ref (He.ga z.K s)) c1 = some b)
    (hok2 : ∀ s b, ok2 s = some b → PySem.W.exmOne z.K (.ref (He.ga z.K s)) c2 = some b)
    (hb : ∀ (W : WX) (pn : List (Addr × Obj)) (xe : Value → Shared → Prop), Takes (X.tr pn xe) W → PassesOwn (model X.prog X.w) X.A X.env xe → PSs (X.tr pn xe) body (tS (z.try_ W) fb))
    (cs : UbTm.Cls X [h1, h2] [(c1, n1, fun a cls d => tS (z.xs a cls d) f1), (c2, n2, fun a cls d => tS (z.xs a cls d) f2)]) :
    PS X (.Try body [h1, h2] [] [] pos) (tS z (sTry (sTry fb ok1 n1 f1) ok2 n2 f2)) := PS_imp (UbTm.ps_tryM (tb := fun W => tS (z.try_ W) fb) (W0 := z.W) hs hf hN tk hb cs) fun D σ H ⟨B, env, R, b, P⟩ => by
  refine ⟨B, env, ⟨R.len, R.dat, R.own, R.inj, R.out, R.ex, R.cl, R.tb⟩, b, ?_⟩
  cases eb : fb env with
  | ok f e =>
    unfold sTry at P
    rw [eb] at P
    exact postS_toW P
  | bad =>
    unfold sTry at P
    rw [eb] at P
    exact P
  | exc x e =>
    rw [try2_eq eb] at P
    intro cls d σ' H' R' b' st hX
    have R' : RelT z B.O H' σ' e := ⟨R'.len, R'.dat, R'.own, R'.inj, R'.out, R'.ex, R'.cl, R'.tb⟩
    rw [hK]
    exact clause_wish hz hok1 R' b' st hX P fun P => clause_wish hz hok2 R' b' st hX P fun P => P cls d σ' H' R' b' st hX
end
end UbP
namespace UbMs
open PySem PySem.Spec PyProof.Rows L2 Ub UbM UbMz
abbrev y0 (x0 : Str) (t0 : Tok) : Obj := { cls := .type "str_ascii_iterator", data := .fields #[.str x0 t0, .int 0 0] }
abbrev y1 (h : Heap) (x0 : Str) (t0 : Tok) : Heap := h.push (y0 x0 t0)
end UbMs
namespace UbP
open PySem PySem.Spec PyProof.Rows L2 UbM Ub
end UbP
namespace UbP
open PySem PySem.Spec PyProof.Rows L2 UbM Ub
end UbP
namespace UbP
open PySem PySem.Spec PyProof.Rows L2 UbM Ub
end UbP
namespace UbP
open PySem PySem.Spec PyProof.Rows L2 UbM Ub
end UbP
namespace UbP
open PySem PySem.Spec PyProof.Rows L2 UbM Ub
end UbP
namespace UbP
open PySem PySem.Spec PyProof.Rows L2 UbM Ub
end UbP
namespace UbP
open PySem PySem.Spec PyProof.Rows L2 UbM Ub
theorem facN_eq : ∀ n : Nat, facN n = Builtin.Math.factorialNat n
  | 0 => rfl
  | n + 1 => by
    unfold facN
    rw [PySem.W.mc_fac_succ, facN_eq n]
section
variable {X : Cx} {z : Z} {a b e : Expr} {fa fb : M Vw} {pos p apos : Pos} {x : Str}
def rFac : List V → Hp → VK → Prop := fun vs H Q => ∃ a : Int, vs = [.int a] ∧ 0 ≤ a ∧ a ≤ 100 ∧ Q (.int (facN a.toNat : Nat)) H
theorem cr_fac : CallR X (.builtin "math.factorial") rFac := by
  intro pins s σ H vs us Q I r h
  obtain ⟨a, rfl, h0, h1, q⟩ := h
  obtain ⟨u, rfl, ru⟩ := r.one
  obtain ⟨t, rfl⟩ := ru
  have hk : a ≤ 20000 := by omega
  have g := PySem.W.mg_run_factorial a t (by show ¬a > 2 ^ 63 - 1; omega) (by omega) (by show ¬a > 20000; omega) (by
    show (Builtin.Math.factorialNat a.toNat).log2 < bitsLine
    exact PySem.W.mc_size (PySem.W.mc_fac_le a.toNat (by omega)) (by omega))
  refine call_function_meets PySem.W.MGF.kind_factorial PySem.W.MGF.plain_factorial PySem.W.MGF.entry_factorial (PySem.W.MGF.args_factorial _) g.meets ?_
  rw [← facN_eq]
  exact ⟨.int _, H, I.tok _, ⟨_, rfl⟩, q⟩
theorem us_fac {K : PySem.W.Frag} : UnS K facD fun x H Q => rFac [x] H Q := by
  intro S σ H Q v d w cl hv e k
  unfold facD at e
  split at e
  · rename_i i
    cases dv_int hv
    split at e
    · rename_i h
      exact ⟨i, rfl, h.1, h.2, k_int e k⟩
    · cases e
  · cases e
theorem pu_fac (hm : X.mg x = some (.builtin "math.factorial")) (hg : Gl X x) (ha : PE X a (tP z fa)) (hdb : (x == ("__debug__" : Str)) = false := by decide)
    (hs : starEach [a] X.env = (false, eval a X.env) :: starEach [] X.env := by rfl) (hpl : (backTo pos (starEach [] X.env)).any (·.1) = false := by rfl) : PE X (.Call (.Name x p) [a] [] pos) (tP z (eU facD fa)) :=
  PE_imp (pe_callBfun cr_fac hg hm (pa_cons ha pa_nil hs) hdb hs hpl) (pu_un us_fac)
theorem erase_map (f : Int → V) : ∀ (l : List Int) (j : Nat), (l.eraseIdx j).map f = (l.map f).eraseIdx j
  | [], _ => rfl
  | _ :: _, 0 => rfl
  | x :: l, j + 1 => by
    show f x :: (l.eraseIdx j).map f = f x :: (l.map f).eraseIdx j
    rw [erase_map f l j]
theorem pu_remove (ho : PE X a (tP z fa)) (ha : PE X e (tP z fb))
    (hbase : attributeBase a "remove" X.env (eval a X.env) = eval a X.env := by rfl)
    (hfew : ((backTo p (starEach [e] X.env)).all (fun x => !x.1) && (backToKw p (keywordEach [] X.env)).all (fun x => x.1.isSome) && decide ([e].length + ([] : List Keyword).length + (if ([] : List Keyword).isEmpty then 0 else 1) < 30)) = true := by rfl)
    (hline : (apos.endLine == p.line) = true := by rfl) (hs : starEach [e] X.env = (false, eval e X.env) :: starEach [] X.env := by rfl) (hplain : (backTo p (starEach [] X.env)).any (·.1) = false := by rfl) :
    PE X (.Call (.Attribute a "remove" apos) [e] [] p) (tP z (eRem fa fb)) := PE_imp (pe_bm PySem.F.plainAttrs_list PySem.F.slot_list_remove PySem.F.type_list_remove mt_remove ho (pa_cons ha pa_nil hs) hbase hfew hline hs hplain) fun σ H Q ⟨O, env, R, P⟩ =>
  tG_mono (post_recv bkE R P) fun v H1 ⟨env1, i, ds0, b, R1, s1, so1, g, ev, hσ, P1⟩ => by
    subst ev
    obtain ⟨xs0, h0, _⟩ := get_list R1 g hσ
    refine ⟨ty_list h0, ?_⟩
    refine tG_mono (post_bnd bkE R1 P1) fun u H2 ⟨env2, w2, R2, s2, so2, V2, P2⟩ => ?_
    obtain ⟨d, e1, P3⟩ := post_now P2
    have hu := V2.1.now R2 e1
    obtain ⟨ds, g2, P4⟩ := post_ownL P3
    obtain ⟨xs, h1, h2⟩ := get_list R2 g2 hσ
    cases d with
    | int k =>
      cases dv_int hu
      dsimp only at P4
      obtain ⟨ns, en, P5⟩ := post_opt P4
      obtain ⟨j, ej, P6⟩ := post_opt P5
      have hxs := ints_V h2 en
      subst hxs
      rw [List.findIdx?_eq_some_iff_getElem] at ej
      obtain ⟨hj, e1, e2⟩ := ej
      obtain ⟨R3, s3, so3⟩ := R2.putL (xs := (ns.map V.int).eraseIdx j) g2 hσ (h2.eraseIdx j)
      refine ⟨b, ns, k, j, rfl, rfl, h1, by rw [List.getElem?_eq_getElem hj, of_decide_eq_true e1], fun m hm z => ?_, ?_⟩
      · have hmn : m < ns.length := by omega
        rw [List.getElem?_eq_getElem hmn] at z
        have := e2 m hm
        rw [Option.some.inj z] at this
        exact this (decide_eq_true rfl)
      · have em : (ns.eraseIdx j).map V.int = (ns.map V.int).eraseIdx j := erase_map _ _ _
        rw [em]
        exact post_change P6 R3 s3 so3 .non ⟨True.intro, True.intro⟩
    | _ => exact P4.elim
end
end UbP
section
open PySem PySem.Spec PyProof.Rows L2 Ub UbM
local macro_rules | `(tactic| walk_at "un") => `(tactic| try dsimp only [L2.start, tVar, tC, tOp, tUn, tTest, tB, tAnd, tOr, tNot, tAndV, tOrV, tNotV, tIf, tNext, tSeq, tBreak, tCont, tDrop, tRet, tRetN, tIfS, tNever, gName, gNil, gCons, gSub, tAsg, tPar, tSl, tPart, tNoPart, tNil, tCons, tCall, tCallS, tCB, tBM, tBM0, tChain, tTupN, tLstN, gTup, Cx.nox, Cx.wish, cxOf, List.map, List.replicate, List.length, List.cons_append, List.nil_append, List.set, List.getElem?_cons_zero, List.getElem?_cons_succ, Nat.reduceAdd, Nat.reduceSub])
local macro_rules | `(tactic| walk_at "dp") => `(tactic| first | assumption | exact .int _ | exact .bl _ | exact .str _ | exact .non | exact Ub.Dp.mono (by assumption) _ _ (by walk_at "dp"))
local macro_rules | `(tactic| walk_at "fr") => `(tactic| first | assumption | exact Ub.Fr.mono (by assumption) (by walk_at "fr"))
local macro_rules | `(tactic| walk_at "dps") => `(tactic| first | exact .nil | (refine' .cons ?j1 ?j2; (case j1 => walk_at "dp"); (case j2 => walk_at "dps")))
local macro_rules | `(tactic| walk_at "st") => `(tactic| first
  | (with_reducible refine ⟨_, rfl, ?_⟩)
  | (with_reducible refine rdAdd ?_)
  | (with_reducible refine rdSub ?_)
  | (with_reducible refine rdNeg ?_)
  | (with_reducible refine rdEqI ?_)
  | (with_reducible refine rdNeI ?_)
  | (with_reducible refine rdLt ?_)
  | (with_reducible refine rdGt ?_)
  | (with_reducible refine rdLe ?_)
  | (with_reducible refine rdGe ?_)
  | (with_reducible refine rdInt ?_)
  | (with_reducible refine rdIntB ?_)
  | (with_reducible refine rdAbs ?_)
  | (with_reducible refine rdGcd ?_)
  | (with_reducible refine rdEqB ?_)
  | (with_reducible refine rdEqS ?_)
  | (with_reducible refine rdNeS ?_)
  | ((with_reducible refine' ixFr0 ?k1 ?_); (case k1 => walk_at "fr"))
  | ((with_reducible refine' ixFr1 ?k1 ?_); (case k1 => walk_at "fr"))
  | ((with_reducible refine' ixP0 ?k1 ?_); (case k1 => walk_at "dp"))
  | ((with_reducible refine' ixP1 ?k1 ?_); (case k1 => walk_at "dp"))
  | ((with_reducible refine' rdIsN ?k1 ?_); (case k1 => walk_at "dp"))
  | ((with_reducible refine' rdNotN ?k1 ?_); (case k1 => walk_at "dp"))
  | ((with_reducible refine' isiInt ?k1 ?_); (case k1 => walk_at "dp"))
  | ((with_reducible refine' isiBool ?k1 ?_); (case k1 => walk_at "dp"))
  | ((with_reducible refine' isiStr ?k1 ?_); (case k1 => walk_at "dp"))
  | ((with_reducible refine' isiTup ?k1 ?_); (case k1 => walk_at "dp"))
  | ((with_reducible refine' isiLst ?k1 ?_); (case k1 => walk_at "dp"))
  | ((with_reducible refine' rdIxL ?k1 ?k2 ?_); (case k1 => first | assumption | exact .inl (.inl (by assumption)) | exact .inl (.inl upd_same)); (case k2 => exact rfl))
  | ((with_reducible refine' rdMul ?k1 ?_); (case k1 => first | exact .inl (.inr ⟨by decide, by decide⟩) | exact .inl (.inl ⟨by decide, by decide⟩) | exact mulW (by assumption) (by assumption) (by omega)))
  | ((with_reducible refine' rdLenL ?k1 ?_); (case k1 => first | assumption | exact .inl (.inl (by assumption))))
  | ((with_reducible refine' rdLenT ?k1 ?_); (case k1 => first | assumption | exact .inl (.inl (by assumption))))
  | (with_reducible refine rdMin2 ?_)
  | ((with_reducible refine' rdTupD (K := ‹PySem.W.Frag›) ?k1 ?k2 (fun _ _ _ _ => ?_)); (case k1 => walk_at "dps"); (case k2 => exact small_line (Nat.le_of_ble_eq_true rfl)))
  | (with_reducible refine ⟨_, by rfl, ?_⟩))
local macro_rules | `(tactic| walk_at "go") => `(tactic| repeat walk_at "st")
local macro_rules | `(tactic| walk_at "for") => `(tactic| try dsimp only [tFor, iRng1, iRng2, iList, iTup, tCons, tC, tNil, tVar, tOp, tCB, tUn, List.getElem?_cons_zero, List.getElem?_cons_succ])
local macro_rules | `(tactic| walk_at "ew") => `(tactic| (simp only [dInt, dBool, dStr, dTup, dLst, dNon, Bool.not_true, Bool.not_false, reduceIte, Bool.false_eq_true, Bool.true_eq_false, decide_true, decide_false, Bool.not_not, if_true, if_false, decide_eq_true_eq, true_and, and_true]))
local macro_rules | `(tactic| walk_at "ev") => `(tactic| try walk_at "ew")
local macro_rules | `(tactic| walk_at "gv") => `(tactic| repeat first | walk_at "st" | walk_at "ew")
local macro_rules | `(tactic| walk_at "it") => `(tactic| try dsimp only [iRng1, iRng2, iList, iTup, iZip, iEnum])
namespace UbK
open UbP
def topS (i : Nat) : Stmt := PySem.Challenge.pw_unbent_k54_medians_and_shared_costs.main.body.getD i (.Pass ⟨0, 0, 0, 0⟩)
def topM (i j : Nat) : Stmt := match topS i with
  | .ClassDef _ _ _ body _ _ _ _ _ _ _ => body.getD j (.Pass ⟨0, 0, 0, 0⟩)
  | _ => .Pass ⟨0, 0, 0, 0⟩
def tf0 : List He.Defn := [("_ascend", none), ("check_size", none)]
def tbs (K : PySem.W.Frag) : List Addr := tf0.map fun p => (He.cT K p).2
abbrev s__law_make : Stmt := topS 32
abbrev N__law_make : List Str := ["p", "q", "a", "b", "k", "rest"]
theorem sc__law_make : FnScope N__law_make ["p", "q"] (defScope s__law_make) := ⟨rfl, rfl, rfl, by decide +kernel, rfl, by decide +kernel, by decide +kernel⟩
abbrev s__law_add : Stmt := topS 33
abbrev N__law_add : List Str := ["a", "b"]
theorem sc__law_add : FnScope N__law_add ["a", "b"] (defScope s__law_add) := ⟨rfl, rfl, rfl, by decide +kernel, rfl, by decide +kernel, by decide +kernel⟩
abbrev s__law_less : Stmt := topS 36
abbrev N__law_less : List Str := ["a", "b"]
theorem sc__law_less : FnScope N__law_less ["a", "b"] (defScope s__law_less) := ⟨rfl, rfl, rfl, by decide +kernel, rfl, by decide +kernel, by decide +kernel⟩
abbrev s__law_minus : Stmt := topS 35
abbrev N__law_minus : List Str := ["a", "b"]
theorem sc__law_minus : FnScope N__law_minus ["a", "b"] (defScope s__law_minus) := ⟨rfl, rfl, rfl, by decide +kernel, rfl, by decide +kernel, by decide +kernel⟩
abbrev s__law_orders : Stmt := topS 43
abbrev N__law_orders : List Str := ["agents", "found", "agent", "rest", "other"]
theorem sc__law_orders : FnScope N__law_orders ["agents"] (defScope s__law_orders) := ⟨rfl, rfl, rfl, by decide +kernel, rfl, by decide +kernel, by decide +kernel⟩
abbrev s__law_times : Stmt := topS 34
abbrev N__law_times : List Str := ["a", "b"]
theorem sc__law_times : FnScope N__law_times ["a", "b"] (defScope s__law_times) := ⟨rfl, rfl, rfl, by decide +kernel, rfl, by decide +kernel, by decide +kernel⟩
abbrev s__law_share : Stmt := topS 44
abbrev N__law_share : List Str := ["costs", "members", "agent", "orders", "total", "order", "before", "k"]
theorem sc__law_share : FnScope N__law_share ["costs", "members", "agent"] (defScope s__law_share) := ⟨rfl, rfl, rfl, by decide +kernel, rfl, by decide +kernel, by decide +kernel⟩
abbrev s__law_charge : Stmt := topS 45
abbrev N__law_charge : List Str := ["costs", "bids", "members", "turn", "k", "paid"]
theorem sc__law_charge : FnScope N__law_charge ["costs", "bids"] (defScope s__law_charge) := ⟨rfl, rfl, rfl, by decide +kernel, rfl, by decide +kernel, by decide +kernel⟩
abbrev s__law_take : Stmt := topS 31
abbrev N__law_take : List Str := ["draws", "bound"]
theorem sc__law_take : FnScope N__law_take ["draws", "bound"] (defScope s__law_take) := ⟨rfl, rfl, rfl, by decide +kernel, rfl, by decide +kernel, by decide +kernel⟩
abbrev s__law_fraction : Stmt := topS 37
abbrev N__law_fraction : List Str := ["draws", "least", "kind", "value"]
theorem sc__law_fraction : FnScope N__law_fraction ["draws", "least"] (defScope s__law_fraction) := ⟨rfl, rfl, rfl, by decide +kernel, rfl, by decide +kernel, by decide +kernel⟩
abbrev s__law_has : Stmt := topS 41
abbrev N__law_has : List Str := ["group", "agent"]
theorem sc__law_has : FnScope N__law_has ["group", "agent"] (defScope s__law_has) := ⟨rfl, rfl, rfl, by decide +kernel, rfl, by decide +kernel, by decide +kernel⟩
abbrev s__law_costs : Stmt := topS 42
abbrev N__law_costs : List Str := ["draws", "count", "parts", "costs", "group", "cost", "part", "k"]
theorem sc__law_costs : FnScope N__law_costs ["draws", "count"] (defScope s__law_costs) := ⟨rfl, rfl, rfl, by decide +kernel, rfl, by decide +kernel, by decide +kernel⟩
abbrev s__law_draws : Stmt := topS 30
abbrev N__law_draws : List Str := ["script", "draws", "cell", "number", "first", "k", "seed"]
theorem sc__law_draws : FnScope N__law_draws ["script"] (defScope s__law_draws) := ⟨rfl, rfl, rfl, by decide +kernel, rfl, by decide +kernel, by decide +kernel⟩
abbrev s__law_middle : Stmt := topS 40
abbrev N__law_middle : List Str := ["rows", "rest", "k"]
theorem sc__law_middle : FnScope N__law_middle ["rows"] (defScope s__law_middle) := ⟨rfl, rfl, rfl, by decide +kernel, rfl, by decide +kernel, by decide +kernel⟩
abbrev s__law_peak : Stmt := topS 39
abbrev N__law_peak : List Str := ["draws"]
theorem sc__law_peak : FnScope N__law_peak ["draws"] (defScope s__law_peak) := ⟨rfl, rfl, rfl, by decide +kernel, rfl, by decide +kernel, by decide +kernel⟩
abbrev s_sign : Stmt := topS 14
abbrev N_sign : List Str := ["a"]
theorem sc_sign : FnScope N_sign ["a"] (defScope s_sign) := ⟨rfl, rfl, rfl, by decide +kernel, rfl, by decide +kernel, by decide +kernel⟩
abbrev s_compare : Stmt := topS 15
abbrev N_compare : List Str := ["a", "b"]
theorem sc_compare : FnScope N_compare ["a", "b"] (defScope s_compare) := ⟨rfl, rfl, rfl, by decide +kernel, rfl, by decide +kernel, by decide +kernel⟩
abbrev s__ascend : Stmt := topS 24
abbrev N__ascend : List Str := ["costs", "agents", "cost", "group", "agent"]
theorem sc__ascend : FnScope N__ascend ["costs", "agents"] (defScope s__ascend) := ⟨rfl, rfl, rfl, by decide +kernel, rfl, by decide +kernel, by decide +kernel⟩
abbrev s_make : Stmt := topS 10
abbrev N_make : List Str := ["p", "q", "common"]
theorem sc_make : FnScope N_make ["p", "q"] (defScope s_make) := ⟨rfl, rfl, rfl, by decide +kernel, rfl, by decide +kernel, by decide +kernel⟩
abbrev s_add : Stmt := topS 11
abbrev N_add : List Str := ["a", "b"]
theorem sc_add : FnScope N_add ["a", "b"] (defScope s_add) := ⟨rfl, rfl, rfl, by decide +kernel, rfl, by decide +kernel, by decide +kernel⟩
abbrev s__cost_less_together : Stmt := topS 25
abbrev N__cost_less_together : List Str := ["costs", "group", "cost", "other", "together"]
theorem sc__cost_less_together : FnScope N__cost_less_together ["costs"] (defScope s__cost_less_together) := ⟨rfl, rfl, rfl, by decide +kernel, rfl, by decide +kernel, by decide +kernel⟩
abbrev s__are_costs : Stmt := topS 26
abbrev N__are_costs : List Str := ["costs", "agents"]
theorem sc__are_costs : FnScope N__are_costs ["costs", "agents"] (defScope s__are_costs) := ⟨rfl, rfl, rfl, by decide +kernel, rfl, by decide +kernel, by decide +kernel⟩
abbrev s__group : Stmt := topS 21
abbrev N__group : List Str := ["agents", "agent"]
theorem sc__group : FnScope N__group ["agents"] (defScope s__group) := ⟨rfl, rfl, rfl, by decide +kernel, rfl, by decide +kernel, by decide +kernel⟩
abbrev s__members : Stmt := topS 20
abbrev N__members : List Str := ["group", "agent"]
theorem sc__members : FnScope N__members ["group"] (defScope s__members) := ⟨rfl, rfl, rfl, by decide +kernel, rfl, by decide +kernel, by decide +kernel⟩
abbrev s_multiply : Stmt := topS 13
abbrev N_multiply : List Str := ["a", "b"]
theorem sc_multiply : FnScope N_multiply ["a", "b"] (defScope s_multiply) := ⟨rfl, rfl, rfl, by decide +kernel, rfl, by decide +kernel, by decide +kernel⟩
abbrev s_subtract : Stmt := topS 12
abbrev N_subtract : List Str := ["a", "b"]
theorem sc_subtract : FnScope N_subtract ["a", "b"] (defScope s_subtract) := ⟨rfl, rfl, rfl, by decide +kernel, rfl, by decide +kernel, by decide +kernel⟩
abbrev s__share : Stmt := topS 22
abbrev N__share : List Str := ["costs", "group", "agent", "many", "found", "before", "added", "size", "orders"]
theorem sc__share : FnScope N__share ["costs", "group", "agent"] (defScope s__share) := ⟨rfl, rfl, rfl, by decide +kernel, rfl, by decide +kernel, by decide +kernel⟩
abbrev s__staying : Stmt := topS 27
abbrev N__staying : List Str := ["costs", "bids", "served", "group", "agent"]
theorem sc__staying : FnScope N__staying ["costs", "bids", "served"] (defScope s__staying) := ⟨rfl, rfl, rfl, by decide +kernel, rfl, by decide +kernel, by decide +kernel⟩
abbrev s_TooLarge___init__ : Stmt := topM 3 0
abbrev N_TooLarge___init__ : List Str := ["self", "limit", "__class__"]
theorem sc_TooLarge___init__ : NdefX.NScope N_TooLarge___init__ ["self", "limit"] ["__class__"] (defScope s_TooLarge___init__) := NdefX.nscope_by (by decide +kernel)
abbrev s_check_size : Stmt := topS 8
abbrev N_check_size : List Str := ["sizes", "most", "size"]
theorem sc_check_size : FnScope N_check_size ["sizes", "most"] (defScope s_check_size) := ⟨rfl, rfl, rfl, by decide +kernel, rfl, by decide +kernel, by decide +kernel⟩
abbrev s_charge : Stmt := topS 28
abbrev N_charge : List Str := ["costs", "bids", "served", "staying", "paid", "agent"]
theorem sc_charge : FnScope N_charge ["costs", "bids"] (defScope s_charge) := ⟨rfl, rfl, rfl, by decide +kernel, rfl, by decide +kernel, by decide +kernel⟩
abbrev s_InvalidWishes___init__ : Stmt := topM 4 0
abbrev N_InvalidWishes___init__ : List Str := ["self", "reason", "__class__"]
theorem sc_InvalidWishes___init__ : NdefX.NScope N_InvalidWishes___init__ ["self", "reason"] ["__class__"] (defScope s_InvalidWishes___init__) := NdefX.nscope_by (by decide +kernel)
abbrev s_median : Stmt := topS 19
abbrev N_median : List Str := ["peaks", "phantoms"]
theorem sc_median : FnScope N_median ["peaks", "phantoms"] (defScope s_median) := ⟨rfl, rfl, rfl, by decide +kernel, rfl, by decide +kernel, by decide +kernel⟩
abbrev s__law_refusal : Stmt := topS 46
abbrev N__law_refusal : List Str := ["what", "first", "second", "e"]
theorem sc__law_refusal : FnScope N__law_refusal ["what", "first", "second"] (defScope s__law_refusal) := ⟨rfl, rfl, rfl, by decide +kernel, rfl, by decide +kernel, by decide +kernel⟩
abbrev s__law_same : Stmt := topS 38
abbrev N__law_same : List Str := ["value", "due", "k"]
theorem sc__law_same : FnScope N__law_same ["value", "due"] (defScope s__law_same) := ⟨rfl, rfl, rfl, by decide +kernel, rfl, by decide +kernel, by decide +kernel⟩
abbrev s__law_medians : Stmt := topS 47
abbrev N__law_medians : List Str := ["draws", "peaks", "phantoms", "passed", "due", "at", "other", "wrong", "k"]
theorem sc__law_medians : FnScope N__law_medians ["draws"] (defScope s__law_medians) := ⟨rfl, rfl, rfl, by decide +kernel, rfl, by decide +kernel, by decide +kernel⟩
abbrev s_share : Stmt := topS 23
abbrev N_share : List Str := ["costs", "group", "agent"]
theorem sc_share : FnScope N_share ["costs", "group", "agent"] (defScope s_share) := ⟨rfl, rfl, rfl, by decide +kernel, rfl, by decide +kernel, by decide +kernel⟩
abbrev s_law : Stmt := topS 48
abbrev N_law : List Str := ["script", "draws", "count", "costs", "everyone", "k", "bids", "agent", "due", "passed", "total", "liar", "lied", "other", "truth", "wrong", "faults", "fault"]
theorem sc_law : FnScope N_law ["script"] (defScope s_law) := ⟨rfl, rfl, rfl, by decide +kernel, rfl, by decide +kernel, by decide +kernel⟩
def d__law_make : He.DefD := ⟨("_law_make", none), "_law_make", "_law_make", defArgs s__law_make, defBody s__law_make, defScope s__law_make, [], []⟩
def d__law_add : He.DefD := ⟨("_law_add", none), "_law_add", "_law_add", defArgs s__law_add, defBody s__law_add, defScope s__law_add, [], []⟩
def d__law_less : He.DefD := ⟨("_law_less", none), "_law_less", "_law_less", defArgs s__law_less, defBody s__law_less, defScope s__law_less, [], []⟩
def d__law_minus : He.DefD := ⟨("_law_minus", none), "_law_minus", "_law_minus", defArgs s__law_minus, defBody s__law_minus, defScope s__law_minus, [], []⟩
def d__law_orders : He.DefD := ⟨("_law_orders", none), "_law_orders", "_law_orders", defArgs s__law_orders, defBody s__law_orders, defScope s__law_orders, [], []⟩
def d__law_times : He.DefD := ⟨("_law_times", none), "_law_times", "_law_times", defArgs s__law_times, defBody s__law_times, defScope s__law_times, [], []⟩
def d__law_share : He.DefD := ⟨("_law_share", none), "_law_share", "_law_share", defArgs s__law_share, defBody s__law_share, defScope s__law_share, [], []⟩
def d__law_charge : He.DefD := ⟨("_law_charge", none), "_law_charge", "_law_charge", defArgs s__law_charge, defBody s__law_charge, defScope s__law_charge, [], []⟩
def d__law_take : He.DefD := ⟨("_law_take", none), "_law_take", "_law_take", defArgs s__law_take, defBody s__law_take, defScope s__law_take, [], []⟩
def d__law_fraction : He.DefD := ⟨("_law_fraction", none), "_law_fraction", "_law_fraction", defArgs s__law_fraction, defBody s__law_fraction, defScope s__law_fraction, [], []⟩
def d__law_has : He.DefD := ⟨("_law_has", none), "_law_has", "_law_has", defArgs s__law_has, defBody s__law_has, defScope s__law_has, [], []⟩
def d__law_costs : He.DefD := ⟨("_law_costs", none), "_law_costs", "_law_costs", defArgs s__law_costs, defBody s__law_costs, defScope s__law_costs, [], []⟩
def d__law_draws : He.DefD := ⟨("_law_draws", none), "_law_draws", "_law_draws", defArgs s__law_draws, defBody s__law_draws, defScope s__law_draws, [], []⟩
def d__law_middle : He.DefD := ⟨("_law_middle", none), "_law_middle", "_law_middle", defArgs s__law_middle, defBody s__law_middle, defScope s__law_middle, [], []⟩
def d__law_peak : He.DefD := ⟨("_law_peak", none), "_law_peak", "_law_peak", defArgs s__law_peak, defBody s__law_peak, defScope s__law_peak, [], []⟩
def d_sign : He.DefD := ⟨("sign", none), "sign", "sign", defArgs s_sign, defBody s_sign, defScope s_sign, [], []⟩
def d_compare : He.DefD := ⟨("compare", none), "compare", "compare", defArgs s_compare, defBody s_compare, defScope s_compare, [], []⟩
def d__ascend : He.DefD := ⟨("_ascend", none), "_ascend", "_ascend", defArgs s__ascend, defBody s__ascend, defScope s__ascend, [], []⟩
def d_make : He.DefD := ⟨("make", none), "make", "make", defArgs s_make, defBody s_make, defScope s_make, [.int 1], []⟩
def d_add : He.DefD := ⟨("add", none), "add", "add", defArgs s_add, defBody s_add, defScope s_add, [], []⟩
def d__cost_less_together : He.DefD := ⟨("_cost_less_together", none), "_cost_less_together", "_cost_less_together", defArgs s__cost_less_together, defBody s__cost_less_together, defScope s__cost_less_together, [], []⟩
def d__are_costs : He.DefD := ⟨("_are_costs", none), "_are_costs", "_are_costs", defArgs s__are_costs, defBody s__are_costs, defScope s__are_costs, [], []⟩
def d__group : He.DefD := ⟨("_group", none), "_group", "_group", defArgs s__group, defBody s__group, defScope s__group, [], []⟩
def d__members : He.DefD := ⟨("_members", none), "_members", "_members", defArgs s__members, defBody s__members, defScope s__members, [], []⟩
def d_multiply : He.DefD := ⟨("multiply", none), "multiply", "multiply", defArgs s_multiply, defBody s_multiply, defScope s_multiply, [], []⟩
def d_subtract : He.DefD := ⟨("subtract", none), "subtract", "subtract", defArgs s_subtract, defBody s_subtract, defScope s_subtract, [], []⟩
def d__share : He.DefD := ⟨("_share", none), "_share", "_share", defArgs s__share, defBody s__share, defScope s__share, [], []⟩
def d__staying : He.DefD := ⟨("_staying", none), "_staying", "_staying", defArgs s__staying, defBody s__staying, defScope s__staying, [], []⟩
def d_TooLarge___init__ : He.DefD := ⟨("TooLarge", some "__init__"), "__init__", "TooLarge.__init__", defArgs s_TooLarge___init__, defBody s_TooLarge___init__, defScope s_TooLarge___init__, [], []⟩
def d_check_size : He.DefD := ⟨("check_size", none), "check_size", "check_size", defArgs s_check_size, defBody s_check_size, defScope s_check_size, [], []⟩
def d_charge : He.DefD := ⟨("charge", none), "charge", "charge", defArgs s_charge, defBody s_charge, defScope s_charge, [], []⟩
def d_InvalidWishes___init__ : He.DefD := ⟨("InvalidWishes", some "__init__"), "__init__", "InvalidWishes.__init__", defArgs s_InvalidWishes___init__, defBody s_InvalidWishes___init__, defScope s_InvalidWishes___init__, [], []⟩
def d_median : He.DefD := ⟨("median", none), "median", "median", defArgs s_median, defBody s_median, defScope s_median, [], []⟩
def d__law_refusal : He.DefD := ⟨("_law_refusal", none), "_law_refusal", "_law_refusal", defArgs s__law_refusal, defBody s__law_refusal, defScope s__law_refusal, [], []⟩
def d__law_same : He.DefD := ⟨("_law_same", none), "_law_same", "_law_same", defArgs s__law_same, defBody s__law_same, defScope s__law_same, [], []⟩
def d__law_medians : He.DefD := ⟨("_law_medians", none), "_law_medians", "_law_medians", defArgs s__law_medians, defBody s__law_medians, defScope s__law_medians, [], []⟩
def d_share : He.DefD := ⟨("share", none), "share", "share", defArgs s_share, defBody s_share, defScope s_share, [], []⟩
def d_law : He.DefD := ⟨("law", none), "law", "law", defArgs s_law, defBody s_law, defScope s_law, [], []⟩
def fn : List He.DefD := [d__law_make, d__law_add, d__law_less, d__law_minus, d__law_orders, d__law_times, d__law_share, d__law_charge, d__law_take, d__law_fraction, d__law_has, d__law_costs, d__law_draws, d__law_middle, d__law_peak, d_sign, d_compare, d__ascend, d_make, d_add, d__cost_less_together, d__are_costs, d__group, d__members, d_multiply, d_subtract, d__share, d__staying, d_check_size, d_charge, d_median, d__law_refusal, d__law_same, d__law_medians, d_share, d_law]
def fs : List He.DefD := [d_TooLarge___init__, d_InvalidWishes___init__]
abbrev fileS : Str := PySem.Challenge.pw_unbent_k54_medians_and_shared_costs.main.file
def fa : List He.Fa := ([.glo "_law_make", .glo "_law_add", .glo "_law_less", .glo "_law_minus", .glo "_law_orders", .glo "_law_times", .glo "_law_share", .glo "_law_charge", .glo "_law_take", .glo "_law_fraction", .glo "_law_has", .glo "_law_costs", .glo "_law_draws", .glo "_law_middle", .glo "_law_peak", .glo "sign", .glo "compare", .glo "_ascend", .glo "make", .glo "add", .glo "_cost_less_together", .glo "_are_costs", .glo "_group", .glo "_members", .glo "multiply", .glo "subtract", .glo "_share", .glo "_staying", .glo "check_size", .glo "charge"] : List He.Fa) ++ ([.glo "median", .glo "_law_refusal", .glo "_law_same", .glo "_law_medians", .glo "share", .glo "law", .glo "InvalidCosts", .glo "InvalidWishes", .glo "TooLarge", .glo "UnbentError", .noat "InvalidWishes" "reason", .noat "TooLarge" "limit", .free "ValueError", .free "abs", .free "any", .free "bool", .free "enumerate", .free "int", .free "isinstance", .free "len", .free "list", .free "max", .free "min", .free "range", .free "reversed", .free "sorted", .free "str", .free "sum", .free "super", .free "tuple"] : List He.Fa) ++ ([.exc "InvalidCosts", .glo "ZeroDenominator", .exc "ZeroDenominator", .exm "InvalidCosts" "TooLarge" false, .exm "InvalidWishes" "TooLarge" false, .exm "TooLarge" "TooLarge" true, .exm "ZeroDenominator" "TooLarge" false, .exm "InvalidCosts" "UnbentError" true, .exm "InvalidWishes" "UnbentError" true, .exm "TooLarge" "UnbentError" true, .exm "ZeroDenominator" "UnbentError" true, .int "_MOST_PEAKS" 1000, .int "_MOST_AGENTS" 6] : List He.Fa)
def ex (K : PySem.W.Frag) : Bool := (He.eqO (PySem.W.nsIn K mainGlobals "factorial") (some (some (.builtin "math.factorial"))) && (He.eqO (PySem.W.nsIn K mainGlobals "gcd") (some (some (.builtin "math.gcd"))) && (UbC.oexB K (He.ga K "TooLarge") && (UbC.oexB K (He.ga K "InvalidWishes") && (xfB K (He.ga K "TooLarge") && (excCB K (He.ga K "InvalidCosts") && (excCB K (He.ga K "InvalidWishes") && (excCB K (He.ga K "TooLarge") && (excCB K (He.ga K "ZeroDenominator") && (decide (PySem.W.kitOne K (.ref (He.ga K "InvalidCosts")) (.ref (He.ga K "InvalidCosts")) = some true) && (decide (PySem.W.kitOne K (.ref (He.ga K "InvalidWishes")) (.ref (He.ga K "InvalidCosts")) = some false) && (decide (PySem.W.kitOne K (.ref (He.ga K "TooLarge")) (.ref (He.ga K "InvalidCosts")) = some false) && (decide (PySem.W.kitOne K (.ref (He.ga K "ZeroDenominator")) (.ref (He.ga K "InvalidCosts")) = some false) && (decide (PySem.W.kitOne K (.ref (He.ga K "InvalidCosts")) (.ref (He.ga K "InvalidWishes")) = some false) && (decide (PySem.W.kitOne K (.ref (He.ga K "InvalidWishes")) (.ref (He.ga K "InvalidWishes")) = some true) && (decide (PySem.W.kitOne K (.ref (He.ga K "TooLarge")) (.ref (He.ga K "InvalidWishes")) = some false) && (decide (PySem.W.kitOne K (.ref (He.ga K "ZeroDenominator")) (.ref (He.ga K "InvalidWishes")) = some false) && (decide (PySem.W.kitOne K (.ref (He.ga K "InvalidCosts")) (.type "ValueError") = some true) && (decide (PySem.W.kitOne K (.ref (He.ga K "InvalidWishes")) (.type "ValueError") = some true) && (decide (PySem.W.kitOne K (.ref (He.ga K "TooLarge")) (.type "ValueError") = some true) && (decide (PySem.W.kitOne K (.ref (He.ga K "ZeroDenominator")) (.type "ValueError") = some true) && (UbS.supDefB K fileS d_TooLarge___init__ && (UbS.supDefB K fileS d_InvalidWishes___init__ && (UbS.supB K (He.ga K "TooLarge") && (UbS.supB K (He.ga K "InvalidWishes") && true)))))))))))))))))))))))))
abbrev tf : List He.Defn := tf0
def adl : List Addr := ([3, 6, 4, 52, 74, 95, 107, 119, 128, 136, 143, 150, 157, 164, 171, 178, 183, 188, 195, 202, 209, 216, 223, 228, 235, 242, 249, 256, 263, 270, 277, 284, 291, 298, 305, 312, 319, 324, 329, 334] : List Addr) ++ ([339, 346, 351, 356, 0, 51, 73, 94, 106, 118, 127, 135, 129, 142, 149, 156, 163, 170, 177, 182, 187, 194, 201, 208, 215, 222, 227, 234, 241, 248, 255, 262, 269, 276, 283, 290, 297, 304, 311, 318] : List Addr) ++ ([323, 328, 333, 338, 345, 350, 355, 50, 53, 71, 72, 92, 93, 105, 117, 122, 124, 125, 126, 130, 132, 133, 134, 137, 139, 140, 141, 144, 146, 147, 148, 151, 153, 154, 155, 158, 160, 161, 162, 165] : List Addr) ++ ([167, 168, 169, 172, 174, 175, 176, 179, 181, 184, 186, 189, 191, 192, 193, 196, 198, 199, 200, 203, 205, 206, 207, 210, 212, 213, 214, 217, 219, 220, 221, 224, 226, 229, 231, 232, 233, 236, 238, 239] : List Addr) ++ ([240, 243, 245, 246, 247, 250, 252, 253, 254, 257, 259, 260, 261, 264, 266, 267, 268, 271, 273, 274, 275, 278, 280, 281, 282, 285, 287, 288, 289, 292, 294, 295, 296, 299, 301, 302, 303, 306, 308, 309] : List Addr) ++ ([310, 313, 315, 316, 317, 320, 322, 325, 327, 330, 332, 335, 337, 340, 342, 343, 344, 347, 349, 352, 354, 70, 59, 91, 80, 65, 67, 68, 69, 86, 88, 89, 90, 2] : List Addr)
abbrev R : PySem.W.OpenRow := PySem.W.OpenLaw.row PySem.Challenge.rw_unbent_k54_medians_and_shared_costs
abbrev loose : List Str := (["factorial", "gcd", "UnbentError", "TooLarge", "InvalidWishes", "ZeroDenominator", "InvalidCosts", "check_size", "make", "add", "subtract", "multiply", "sign", "compare", "_MOST_PEAKS", "_MOST_AGENTS", "median", "_members", "_group", "_share", "share", "_ascend", "_cost_less_together", "_are_costs", "_staying", "charge", "_law_draws", "_law_take", "_law_make", "_law_add"] : List Str) ++ (["_law_times", "_law_minus", "_law_less", "_law_fraction", "_law_same", "_law_peak", "_law_middle", "_law_has", "_law_costs", "_law_orders", "_law_share", "_law_charge", "_law_refusal", "_law_medians"] : List Str)
abbrev hk : PySem.W.Hook := UbS.hookL adl fa fn tf fs ex
def ob (s : PySem.W.SharedT) : UbS.AlS := UbS.obsL adl fa fn tf fs ex (HandSHeadRun.getT s)
theorem ob_eq (s : PySem.W.SharedT) : ob s = hk.obs s.abs := UbS.obsL_eq (HandSHeadRun.getT_eq s)
theorem runHead (w : World) : HandSHeadRun.RunEqI R (PySem.W.view R.prog [0, 48]) hk ob 4000 loose w := by
  unfold HandSHeadRun.RunEqI
  kernel_rfl
end UbK
end
namespace UbP
open PySem
section
variable {α β : Type}
def sat (r : Res α) (P : α → Env → Prop) (E : Ex → Env → Prop) : Prop := match r with
  | .ok a e => P a e
  | .exc x e => E x e
  | .bad => False
@[irreducible] def fsat (r : FRes) (P : Vw → List Ct → Prop) (E : Ex → List Ct → Prop) : Prop := match r with
  | .ret w cs => P w cs
  | .exc x cs => E x cs
  | .bad => False
variable {P P' : α → Env → Prop} {E E' : Ex → Env → Prop} {e e' : Env} {a : α}
theorem sat_mono {r : Res α} (h : sat r P E) (i : ∀ a e, P a e → P' a e) (j : ∀ x e, E x e → E' x e) : sat r P' E' := by
  cases r with
  | ok a e => exact i _ _ h
  | exc x e => exact j _ _ h
  | bad => exact h
theorem fsat_eq {r : FRes} {w : Vw} {cs : List Ct} (h : fsat r (fun v c => v = w ∧ c = cs) fun _ _ => False) : r = .ret w cs := by
  with_unfolding_all
      cases r with
      | ret v c => obtain ⟨rfl, rfl⟩ := (show v = w ∧ c = cs from h); rfl
      | exc x e => exact h.elim
      | bad => exact h.elim
theorem fsat_exc {r : FRes} {x : Ex} {cs : List Ct} (h : fsat r (fun _ _ => False) fun v c => v = x ∧ c = cs) : r = .exc x cs := by
  with_unfolding_all
      cases r with
      | exc v c => obtain ⟨rfl, rfl⟩ := (show v = x ∧ c = cs from h); rfl
      | ret x e => exact h.elim
      | bad => exact h.elim
theorem sat_bnd {m : M α} {k : α → M β} {P : β → Env → Prop} : sat (bnd m k e) P E = sat (m e) (fun a e' => sat (k a e') P E) E := by
  unfold bnd
  cases m e with
  | ok a e1 => rfl
  | exc x e1 => rfl
  | bad => rfl
theorem sat_optI {c : Prop} [Decidable c] {o : Option α} : sat (optM (if c then o else none) e) P E = (c ∧ sat (optM o e) P E) := by
  by_cases h : c
  · rw [if_pos h]; exact propext ⟨fun z => ⟨h, z⟩, fun z => z.2⟩
  · rw [if_neg h]; exact propext ⟨fun z => z.elim, fun z => h z.1⟩
theorem sat_optMap {o : Option β} {f : β → α} : sat (optM (o.map f) e) P E = sat (optM o e) (fun b e => P (f b) e) E := by cases o <;> rfl
theorem sat_optBind {o : Option β} {f : β → Option α} : sat (optM (o.bind f) e) P E = sat (optM o e) (fun b e => sat (optM (f b) e) P E) E := by cases o <;> rfl
theorem sat_iteB {k : Bool} {m n : M α} : sat ((if k = true then m else n) e) P E = ((k = true → sat (m e) P E) ∧ (k = false → sat (n e) P E)) := by
  cases k
  · exact propext ⟨fun h => ⟨fun z => by simp at z, fun _ => h⟩, fun h => h.2 rfl⟩
  · exact propext ⟨fun h => ⟨fun _ => h, fun z => by simp at z⟩, fun h => h.1 rfl⟩
theorem sat_iteM {c : Prop} [Decidable c] {m n : M α} : sat ((if c then m else n) e) P E = if c then sat (m e) P E else sat (n e) P E := by split <;> rfl
/-- a slot's reading -/
def rdS (i : Nat) : Option Sl → Option Vw
  | some (.dat d) => some (.d d)
  | some (.own _) => some (.o i)
  | some (.par _) => some (.o i)
  | _ => none
theorem eV_eq {i : Nat} : eV i e = match rdS i e[i]? with | some w => .ok w e | none => .bad := by
  unfold eV
  cases h : e[i]? with
  | none => rfl
  | some s => cases s <;> rfl
theorem sat_eV {i : Nat} {P : Vw → Env → Prop} : sat (eV i e) P E = match rdS i e[i]? with | some w => P w e | none => False := by
  rw [eV_eq]
  cases rdS i e[i]? <;> rfl
end
theorem sat_callB {f : Fn} {ms : List Bool} {dv : List D} {ws : List Vw} {e : Env} {P : Vw → Env → Prop} {E : Ex → Env → Prop} : sat (callB f ms dv ws e) P E = match mkArgs ms ws e with
    | none => False
    | some args => nodup (ownIx ms ws ++ lookIx ms ws) = true ∧ fsat (f (args ++ dv.map .dat))
      (fun w cs => passOk (lookIx ms ws) w cs = true ∧ match putBack ms ws cs e with | some e' => P w e' | none => False)
      (fun x cs => (lookIx ms ws).isEmpty = true ∧ match putBack ms ws cs e with | some e' => E x e' | none => False) := by
  with_unfolding_all
      unfold callB
      cases mkArgs ms ws e with
      | none => rfl
      | some args =>
        by_cases hn : nodup (ownIx ms ws ++ lookIx ms ws) = true
        · simp only [hn, if_true, true_and]
          cases f (args ++ dv.map .dat) with
          | ret w cs =>
            by_cases hp : passOk (lookIx ms ws) w cs = true
            · simp only [hp, if_true, fsat, true_and]
              cases putBack ms ws cs e <;> rfl
            · simp [hp, fsat, sat]
          | exc x cs =>
            by_cases hp : (lookIx ms ws).isEmpty = true
            · simp only [hp, if_true, fsat, true_and]
              cases putBack ms ws cs e <;> rfl
            · have hp : (lookIx ms ws).isEmpty = false := by simpa using hp
              simp [hp, fsat, sat]
          | bad => rfl
        · have hn : nodup (ownIx ms ws ++ lookIx ms ws) = false := by simpa using hn
          simp [hn, sat]
theorem fsat_run {k : Nat} {b : M Fl} {args : List Sl} {P : Vw → List Ct → Prop} {E : Ex → List Ct → Prop} : fsat (run k b args) P E = sat (b (args ++ List.replicate k .no))
    (fun f e => match f with
      | .nx => P (.d .non) (pars e)
      | .rt (.d d) => P (.d d) (pars e)
      | .rt (.f c) => P (.f c) (pars e)
      | _ => False)
    (fun x e => E x (pars e)) := by
  with_unfolding_all
      unfold run
      cases b (args ++ List.replicate k .no) with
      | ok f e =>
        cases f with
        | nx => rfl
        | rt w => cases w <;> rfl
        | bk => rfl
        | ct => rfl
      | exc x e => rfl
      | bad => rfl
theorem sat_sSeq {a b : M Fl} {e : Env} {P : Fl → Env → Prop} {E : Ex → Env → Prop} : sat (sSeq a b e) P E = sat (a e) (fun f e' => match f with
    | .nx => sat (b e') P E
    | f => P f e') E := by
  unfold sSeq
  rw [sat_bnd]
  congr
  funext f e1
  cases f <;> rfl
theorem sat_sRet {a : M Vw} {e : Env} {P : Fl → Env → Prop} {E : Ex → Env → Prop} : sat (sRet a e) P E = sat (a e) (fun w e => match w with
    | .d d => P (.rt (.d d)) e
    | .f c => P (.rt (.f c)) e
    | .o i => match e[i]? with
      | some (.own c) => P (.rt (.f c)) (e.set i .no)
      | _ => False) E := by
  unfold sRet
  rw [sat_bnd]
  congr
  funext w e1
  cases w with
  | o i =>
    show sat (match e1[i]? with | some (.own c) => Res.ok (Fl.rt (.f c)) (e1.set i .no) | _ => Res.bad) P E = (match e1[i]? with | some (.own c) => P (.rt (.f c)) (e1.set i .no) | _ => False)
    cases e1[i]? with
    | none => rfl
    | some s => cases s <;> rfl
  | _ => rfl
theorem sat_putM {tg : Tg} {d : D} {e : Env} {P : Fl → Env → Prop} {E : Ex → Env → Prop} : sat (putM tg d e) P E = match putT tg d e with | some e' => P .nx e' | none => False := by
  unfold putM
  cases putT tg d e <;> rfl
theorem sat_frz {i : Nat} {b : M Fl} {e : Env} {P : Fl → Env → Prop} {E : Ex → Env → Prop} : sat (frz i b e) P E = match frzE i e with | some e' => sat (b e') P E | none => False := by
  unfold frz
  cases frzE i e <;> rfl
/-- one turn of a loop: the target, then the body -/
def turn (tg : Tg) (d : D) (b : M Fl) : M Fl := fun e => match putT tg d e with
  | none => .bad
  | some e1 => b e1
theorem sat_turn {tg : Tg} {d : D} {b : M Fl} {e : Env} {P : Fl → Env → Prop} {E : Ex → Env → Prop} : sat (turn tg d b e) P E = match putT tg d e with | some e1 => sat (b e1) P E | none => False := by
  unfold turn
  cases putT tg d e <;> rfl
/-- the flow behind one turn -/
def goOn (N : Env → Prop) (P : Fl → Env → Prop) : Fl → Env → Prop
  | .nx, e => N e
  | .ct, e => N e
  | .bk, e => P .nx e
  | .rt w, e => P (.rt w) e
theorem sat_forL {α : Type} {tg : Tg} {b : M Fl} {g : α → D} {P : Fl → Env → Prop} {E : Ex → Env → Prop} {e : Env} {xs : List α} (I : List α → Env → Prop) (h0 : I [] e)
    (hs : ∀ pre x post e, xs = pre ++ x :: post → I pre e → sat (turn tg (g x) b e) (goOn (I (pre ++ [x])) P) E) (he : ∀ e, I xs e → P .nx e) : sat (forL tg b (xs.map g) e) P E := by
  have go : ∀ (post pre : List α) (e : Env), xs = pre ++ post → I pre e → sat (forL tg b (post.map g) e) P E := by
    intro post
    induction post with
    | nil =>
      intro pre e hx hi
      rw [List.append_nil] at hx
      subst hx
      exact he e hi
    | cons x post ih =>
      intro pre e hx hi
      have h := hs pre x post e hx hi
      rw [sat_turn] at h
      show sat (match putT tg (g x) e with | none => Res.bad | some e1 => _) P E
      cases ht : putT tg (g x) e with
      | none => rw [ht] at h; exact h.elim
      | some e1 =>
        rw [ht] at h
        show sat (match b e1 with | .ok .nx e2 => _ | .ok .ct e2 => _ | .ok .bk e2 => _ | .ok (.rt w) e2 => _ | .exc x e2 => _ | .bad => _) P E
        have h : sat (b e1) _ _ := h
        cases hb : b e1 with
        | ok f e2 =>
          rw [hb] at h
          cases f with
          | nx => exact ih (pre ++ [x]) e2 (by rw [hx, List.append_assoc]; rfl) h
          | ct => exact ih (pre ++ [x]) e2 (by rw [hx, List.append_assoc]; rfl) h
          | bk => exact h
          | rt w => exact h
        | exc x e2 => rw [hb] at h; exact h
        | bad => rw [hb] at h; exact h
  exact go xs [] e rfl h0
theorem sat_whl {t : M Bool} {b : M Fl} {P : Fl → Env → Prop} {E : Ex → Env → Prop} (I : Env → Prop) (μ : Env → Nat)
    (hs : ∀ e, I e → sat (t e) (fun k e1 => (k = true → sat (b e1) (goOn (fun e2 => I e2 ∧ μ e2 < μ e) P) E) ∧ (k = false → P .nx e1)) E) : ∀ (n : Nat) (e : Env), I e → μ e < n → sat (whl t b n e) P E
  | 0, e, _, h => absurd h (Nat.not_lt_zero _)
  | n + 1, e, hi, h => by
    show sat (bnd t _ e) P E
    rw [sat_bnd]
    refine sat_mono (hs e hi) (fun k e1 hk => ?_) (fun _ _ z => z)
    cases k with
    | false => exact hk.2 rfl
    | true =>
      show sat (bnd b _ e1) P E
      rw [sat_bnd]
      refine sat_mono (hk.1 rfl) (fun f e2 hf => ?_) (fun _ _ z => z)
      cases f with
      | nx => exact sat_whl I μ hs n e2 hf.1 (by have := hf.2; omega)
      | ct => exact sat_whl I μ hs n e2 hf.1 (by have := hf.2; omega)
      | bk => exact hf
      | rt w => exact hf
/-- one element of a comprehension -/
def lcStep (tg : Tg) (c : M Bool) (x : M Vw) (vs : List Nat) (d : D) : M (Option D) := fun e => match putT tg d e with
    | none => .bad
    | some e1 => match c e1 with
      | .ok false e2 => .ok none (wipeE e2 vs)
      | .ok true e2 => match x e2 with
        | .ok w e3 => match w.stay with
          | some y => .ok (some y) (wipeE e3 vs)
          | none => .bad
        | _ => .bad
      | _ => .bad
theorem sat_lcStep {tg : Tg} {c : M Bool} {x : M Vw} {vs : List Nat} {d : D} {e : Env} {P : Option D → Env → Prop} {E : Ex → Env → Prop} : sat (lcStep tg c x vs d e) P E = match putT tg d e with
    | none => False
    | some e1 => sat (c e1) (fun k e2 => if k = true then sat (x e2) (fun w e3 => match w.stay with | some y => P (some y) (wipeE e3 vs) | none => False) (fun _ _ => False) else P none (wipeE e2 vs)) (fun _ _ => False) := by
  unfold lcStep
  cases putT tg d e with
  | none => rfl
  | some e1 =>
    show sat (match c e1 with | .ok false e2 => _ | .ok true e2 => _ | _ => _) P E = sat (c e1) _ _
    cases c e1 with
    | ok k e2 =>
      cases k with
      | false => rfl
      | true =>
        show sat (match x e2 with | .ok w e3 => _ | _ => _) P E = sat (x e2) _ _
        cases x e2 with
        | ok w e3 =>
          show sat (match w.stay with | some y => _ | none => _) P E = match w.stay with | some y => _ | none => _
          cases w.stay <;> rfl
        | exc x e3 => rfl
        | bad => rfl
    | exc x e2 => rfl
    | bad => rfl
theorem sat_lcGo {α : Type} {tg : Tg} {c : M Bool} {x : M Vw} {vs : List Nat} {g : α → D} {xs : List α} {P : List D → Env → Prop} {E : Ex → Env → Prop} {e : Env} (hl : xs.length ≤ LIM) (I : List α → List D → Env → Prop) (h0 : I [] [] e)
    (hs : ∀ pre y post acc e, xs = pre ++ y :: post → I pre acc e → sat (lcStep tg c x vs (g y) e) (fun o e' => I (pre ++ [y]) (acc ++ o.toList) e') (fun _ _ => False)) (he : ∀ acc e, I xs acc e → P acc e) : sat (lcGo tg c x vs (xs.map g) [] e) P E := by
  have go : ∀ (post pre : List α) (acc : List D) (e : Env), xs = pre ++ post → acc.length ≤ pre.length → I pre acc e → sat (lcGo tg c x vs (post.map g) acc e) P E := by
    intro post
    induction post with
    | nil =>
      intro pre acc e hx _ hi
      rw [List.append_nil] at hx
      subst hx
      exact he acc e hi
    | cons y post ih =>
      intro pre acc e hx ha hi
      have h := hs pre y post acc e hx hi
      have hlen : pre.length + (post.length + 1) ≤ LIM := by rw [hx] at hl; simpa using hl
      rw [sat_lcStep] at h
      show sat (match putT tg (g y) e with | none => Res.bad | some e1 => _) P E
      cases ht : putT tg (g y) e with
      | none => rw [ht] at h; exact h.elim
      | some e1 =>
        rw [ht] at h
        show sat (match c e1 with | .ok false e2 => _ | .ok true e2 => _ | _ => _) P E
        have h : sat (c e1) _ _ := h
        cases hc : c e1 with
        | ok k e2 =>
          rw [hc] at h
          cases k with
          | false =>
            have h : I (pre ++ [y]) (acc ++ []) (wipeE e2 vs) := h
            rw [List.append_nil] at h
            exact ih (pre ++ [y]) acc _ (by rw [hx, List.append_assoc]; rfl) (by simp; omega) h
          | true =>
            show sat (match x e2 with | .ok w e3 => _ | _ => _) P E
            have h : sat (x e2) _ _ := h
            cases hx2 : x e2 with
            | ok w e3 =>
              rw [hx2] at h
              show sat (match w.stay with | some y => _ | none => _) P E
              have h : (match w.stay with | some y => _ | none => False) := h
              cases hw : w.stay with
              | none => rw [hw] at h; exact h.elim
              | some z =>
                rw [hw] at h
                show sat ((if acc.length < LIM then _ else _) : Res _) P E
                rw [if_pos (by omega)]
                exact ih (pre ++ [y]) (acc ++ [z]) _ (by rw [hx, List.append_assoc]; rfl) (by simp; omega) h
            | exc x e3 => rw [hx2] at h; exact h.elim
            | bad => rw [hx2] at h; exact h.elim
        | exc x e2 => rw [hc] at h; exact h.elim
        | bad => rw [hc] at h; exact h.elim
  exact go xs [] [] e rfl (Nat.le_refl _) h0
theorem sat_eLc {it : M (List D)} {tg : Tg} {c : M Bool} {x : M Vw} {vs : List Nat} {e : Env} {P : Vw → Env → Prop} {E : Ex → Env → Prop} : sat (eLc it tg c x vs e) P E = sat (it e) (fun ds e => freeAt e vs = true ∧ sat (lcGo tg c x vs ds [] (wipeE e vs)) (fun ys e' => P (.f (.l ys)) (backE e e' vs)) fun _ _ => False) E := by
  unfold eLc
  rw [sat_bnd]
  congr
  funext ds e1
  show sat (if _ then _ else _) P E = _
  by_cases h : freeAt e1 vs = true
  · rw [if_pos h]
    cases lcGo tg c x vs ds [] (wipeE e1 vs) with
    | ok ys e2 => exact propext ⟨fun z => ⟨h, z⟩, fun z => z.2⟩
    | exc x e2 => exact propext ⟨fun z => z.elim, fun z => z.2⟩
    | bad => exact propext ⟨fun z => z.elim, fun z => z.2⟩
  · rw [if_neg h]
    exact propext ⟨fun z => z.elim, fun z => h z.1⟩
/-- one element of any or all -/
def gxStep (tg : Tg) (x : M Vw) (vs : List Nat) (d : D) : M Bool := fun e => match putT tg d e with
    | none => .bad
    | some e1 => match x e1 with
      | .ok (.d (.bl b)) e3 => .ok b (wipeE e3 vs)
      | _ => .bad
theorem sat_gxStep {tg : Tg} {x : M Vw} {vs : List Nat} {d : D} {e : Env} {P : Bool → Env → Prop} {E : Ex → Env → Prop} : sat (gxStep tg x vs d e) P E = match putT tg d e with
    | none => False
    | some e1 => sat (x e1) (fun w e3 => match w with | .d (.bl b) => P b (wipeE e3 vs) | _ => False) (fun _ _ => False) := by
  unfold gxStep
  cases putT tg d e with
  | none => rfl
  | some e1 =>
    show sat (match x e1 with | .ok (.d (.bl b)) e3 => _ | _ => _) P E = sat (x e1) _ _
    cases x e1 with
    | ok w e3 =>
      cases w with
      | d d => cases d <;> rfl
      | o i => rfl
      | f c => rfl
    | exc x e3 => rfl
    | bad => rfl
/-- elements that leave all as it was -/
theorem sat_gxGo {α : Type} {st : Bool} {tg : Tg} {x : M Vw} {vs : List Nat} {g : α → D} {xs : List α} {P : Bool → Env → Prop} {E : Ex → Env → Prop} {e : Env} (f : α → Bool)
    (hs : ∀ y, y ∈ xs → sat (gxStep tg x vs (g y) e) (fun b e' => b = f y ∧ e' = e) (fun _ _ => False)) (he : P (if st then xs.any f else xs.all f) e) : sat (gxGo st tg x vs (xs.map g) e) P E := by
  induction xs with
  | nil =>
    show P (!st) e
    cases st <;> simpa using he
  | cons y ys ih =>
    have h := hs y (List.mem_cons_self ..)
    rw [sat_gxStep] at h
    show sat (match putT tg (g y) e with | none => Res.bad | some e1 => _) P E
    cases ht : putT tg (g y) e with
    | none => rw [ht] at h; exact h.elim
    | some e1 =>
      rw [ht] at h
      show sat (match x e1 with | .ok (.d (.bl b)) e3 => _ | _ => _) P E
      have h : sat (x e1) _ _ := h
      cases hx : x e1 with
      | ok w e3 =>
        rw [hx] at h
        cases w with
        | d d =>
          cases d with
          | bl b =>
            obtain ⟨rfl, h2⟩ := h
            show sat (if f y = st then _ else _) P E
            rw [h2]
            by_cases hb : f y = st
            · rw [if_pos hb]
              show P st e
              cases st <;> simpa [hb] using he
            · rw [if_neg hb]
              refine ih (fun z hz => hs z (List.mem_cons_of_mem _ hz)) ?_
              cases st <;> simp_all
          | _ => exact h.elim
        | o i => exact h.elim
        | f c => exact h.elim
      | exc x e3 => rw [hx] at h; exact h.elim
      | bad => rw [hx] at h; exact h.elim
theorem sat_eGx {st : Bool} {it : M (List D)} {tg : Tg} {x : M Vw} {vs : List Nat} {e : Env} {P : Vw → Env → Prop} {E : Ex → Env → Prop} : sat (eGx st it tg x vs e) P E = sat (it e) (fun ds e => freeAt e vs = true ∧ sat (gxGo st tg x vs ds (wipeE e vs)) (fun b e' => P (.d (.bl b)) (backE e e' vs)) fun _ _ => False) E := by
  unfold eGx
  rw [sat_bnd]
  congr
  funext ds e1
  show sat (if _ then _ else _) P E = _
  by_cases h : freeAt e1 vs = true
  · rw [if_pos h]
    cases gxGo st tg x vs ds (wipeE e1 vs) with
    | ok ys e2 => exact propext ⟨fun z => ⟨h, z⟩, fun z => z.2⟩
    | exc x e2 => exact propext ⟨fun z => z.elim, fun z => z.2⟩
    | bad => exact propext ⟨fun z => z.elim, fun z => z.2⟩
  · rw [if_neg h]
    exact propext ⟨fun z => z.elim, fun z => h z.1⟩
theorem sat_ownL {i : Nat} {e : Env} {P : List D → Env → Prop} {E : Ex → Env → Prop} : sat (ownL i e) P E = match getO i e with | some (.l ds) => P ds e | _ => False := by
  unfold ownL
  cases getO i e with
  | none => rfl
  | some c => cases c <;> rfl
theorem sat_ownN {i : Nat} {c : Ct} {e : Env} {P : Fl → Env → Prop} {E : Ex → Env → Prop} : sat (ownN i c e) P E = match e[i]? with
    | some .no => P .nx (e.set i (.own c))
    | some (.dat _) => P .nx (e.set i (.own c))
    | some (.own _) => P .nx (e.set i (.own c))
    | _ => False := by
  unfold ownN
  cases e[i]? with
  | none => rfl
  | some s => cases s <;> rfl
theorem sat_datM {i : Nat} {e : Env} {P : D → Env → Prop} {E : Ex → Env → Prop} : sat (datM i e) P E = match e[i]? with
    | some (.dat d) => P d e
    | _ => False := by
  unfold datM
  cases e[i]? with
  | none => rfl
  | some s => cases s <;> rfl
theorem sat_iR1 {a : M Vw} {e : Env} {P : List D → Env → Prop} {E : Ex → Env → Prop} : sat (iR1 a e) P E = sat (a e) (fun w e => sat (nowM w e) (fun d e => match d with | .int j => bigI j = true ∧ P (intsL 0 j.toNat) e | _ => False) E) E := by
  unfold iR1
  rw [sat_bnd]
  congr
  funext w e1
  rw [sat_bnd]
  congr
  funext d e2
  cases d with
  | int j =>
    show sat ((if bigI j = true then ret (intsL 0 j.toNat) else optM none) e2) P E = _
    rw [sat_iteM]
    by_cases h : bigI j = true
    · rw [if_pos h]; exact propext ⟨fun z => ⟨h, z⟩, fun z => z.2⟩
    · rw [if_neg h]; exact propext ⟨fun z => z.elim, fun z => h z.1⟩
  | _ => rfl
theorem sat_iR2 {a b : M Vw} {e : Env} {P : List D → Env → Prop} {E : Ex → Env → Prop} : sat (iR2 a b e) P E = sat (a e) (fun w e => sat (b e) (fun u e => sat (nowM w e) (fun d e => sat (nowM u e) (fun c e => match d, c with | .int i, .int j => (bigI i && bigI j) = true ∧ P (intsL i (j - i).toNat) e | _, _ => False) E) E) E) E := by
  unfold iR2
  rw [sat_bnd]
  congr
  funext w e1
  rw [sat_bnd]
  congr
  funext u e1
  rw [sat_bnd]
  congr
  funext d e2
  rw [sat_bnd]
  congr
  funext c e3
  cases d with
  | int i =>
    cases c with
    | int j =>
      show sat ((if (bigI i && bigI j) = true then ret (intsL i (j - i).toNat) else optM none) e3) P E = _
      rw [sat_iteM]
      by_cases h : (bigI i && bigI j) = true
      · rw [if_pos h]; exact propext ⟨fun z => ⟨h, z⟩, fun z => z.2⟩
      · rw [if_neg h]; exact propext ⟨fun z => z.elim, fun z => h z.1⟩
    | _ => rfl
  | _ => rfl
theorem sat_sItem {o i v : M Vw} {e : Env} {P : Fl → Env → Prop} {E : Ex → Env → Prop} : sat (sItem o i v e) P E = sat (v e) (fun u e => sat (o e) (fun w e => sat (i e) (fun z e => sat (optM (viewI w) e) (fun k e => sat (stayM u e) (fun d e => sat (nowM z e) (fun n e => sat (ownL k e) (fun ds e => match n with
    | .int m => match ixI ds.length m with | some j => P .nx (setO k (.l (ds.set j d)) e) | none => False
    | _ => False) E) E) E) E) E) E) E := by
  unfold sItem
  rw [sat_bnd]; congr; funext u e1
  rw [sat_bnd]; congr; funext w e2
  rw [sat_bnd]; congr; funext z e3
  rw [sat_bnd]; congr; funext k e4
  rw [sat_bnd]; congr; funext d e5
  rw [sat_bnd]; congr; funext n e6
  rw [sat_bnd]; congr; funext ds e7
  cases n with
  | int m =>
    show sat ((match ixI ds.length m with | some j => bnd (putL k (ds.set j d)) fun _ => ret Fl.nx | none => optM none) e7) P E = (match ixI ds.length m with | some j => P .nx (setO k (.l (ds.set j d)) e7) | none => False)
    cases ixI ds.length m <;> rfl
  | _ => rfl
theorem sat_sAug {i : Nat} {v : M Vw} {e : Env} {P : Fl → Env → Prop} {E : Ex → Env → Prop} : sat (sAug i v e) P E = sat (datM i e) (fun d e => sat (v e) (fun u e => sat (nowM u e) (fun c e => sat (optM (addD d c) e) (fun w e => match w with | .d (.int z) => sat (putM (.nm i) (.int z) e) P E | _ => False) E) E) E) E := by
  unfold sAug
  rw [sat_bnd]; congr; funext u e1
  rw [sat_bnd]; congr; funext w e2
  rw [sat_bnd]; congr; funext z e3
  rw [sat_bnd]; congr; funext k e4
  cases k with
  | d x => cases x <;> rfl
  | o i => rfl
  | f c => rfl
theorem sat_sRaise {x : Str} {fs : List Str} {ok : List D → Bool} {as : List (M Vw)} {e : Env} {P : Fl → Env → Prop} {E : Ex → Env → Prop} : sat (sRaise x fs ok as e) P E = sat (eArgs as e) (fun ws e => sat (optM (stays ws) e) (fun ds e => ok ds = true ∧ E ⟨x, fs.zip ds⟩ e) E) E := by
  unfold sRaise
  rw [sat_bnd]; congr; funext u e1
  rw [sat_bnd]; congr; funext ds e2
  show sat (if ok ds = true then _ else _) P E = _
  by_cases h : ok ds = true
  · rw [if_pos h]; exact propext ⟨fun z => ⟨h, z⟩, fun z => z.2⟩
  · rw [if_neg h]; exact propext ⟨fun z => z.elim, fun z => h z.1⟩
theorem sat_sTry {b s : M Fl} {ok : Str → Option Bool} {n : Option Nat} {e : Env} {P : Fl → Env → Prop} {E : Ex → Env → Prop} : sat (sTry b ok n s e) P E = sat (b e) P fun x e' => match ok x.cls with
    | none => False
    | some false => E x e'
    | some true => match n with
      | none => sat (afterS none (s e')) P E
      | some i => match e'[i]? with
        | some .no => sat (afterS (some i) (s (e'.set i (.ex x)))) P E
        | _ => False := by
  unfold sTry
  cases b e with
  | ok f e' => rfl
  | bad => rfl
  | exc x e' =>
    show sat (match ok x.cls with | none => _ | some false => _ | some true => _) P E = (match ok x.cls with | none => _ | some false => _ | some true => _)
    cases ok x.cls with
    | none => rfl
    | some k =>
      cases k with
      | false => rfl
      | true =>
        cases n with
        | none => rfl
        | some i =>
          show sat (match e'[i]? with | some .no => afterS (some i) (s (e'.set i (.ex x))) | _ => .bad) P E = (match e'[i]? with | some .no => sat (afterS (some i) (s (e'.set i (.ex x)))) P E | _ => False)
          cases e'[i]? with
          | none => rfl
          | some s => cases s <;> rfl
theorem sat_after {n : Option Nat} {r : Res Fl} {P : Fl → Env → Prop} {E : Ex → Env → Prop} : sat (afterS n r) P E = sat r (fun f e => match n with
    | none => (exFree e && okFl f) = true ∧ P f e
    | some i => (exFree (e.set i .no) && okFl f) = true ∧ P f (e.set i .no)) fun _ _ => False := by
  unfold afterS
  cases r with
  | ok f e =>
    cases n with
    | none =>
      show sat (if (exFree e && okFl f) = true then _ else _) P E = (_ ∧ _)
      by_cases h : (exFree e && okFl f) = true
      · rw [if_pos h]; exact propext ⟨fun z => ⟨h, z⟩, fun z => z.2⟩
      · rw [if_neg h]; exact propext ⟨fun z => z.elim, fun z => h z.1⟩
    | some i =>
      show sat (if (exFree (e.set i .no) && okFl f) = true then _ else _) P E = (_ ∧ _)
      by_cases h : (exFree (e.set i .no) && okFl f) = true
      · rw [if_pos h]; exact propext ⟨fun z => ⟨h, z⟩, fun z => z.2⟩
      · rw [if_neg h]; exact propext ⟨fun z => z.elim, fun z => h z.1⟩
  | exc x e => rfl
  | bad => rfl
theorem sat_sFor {it : M (List D)} {tg : Tg} {b : M Fl} {e : Env} {P : Fl → Env → Prop} {E : Ex → Env → Prop} : sat (sFor it tg b e) P E = sat (it e) (fun ds e => sat (forL tg b ds e) P E) E := by
  unfold sFor
  rw [sat_bnd]
class Kwt (α : Type) where
  P : α → Env → Prop
class Kwe where
  E : Ex → Env → Prop
class KwtF where
  P : Vw → List Ct → Prop
class KweF where
  E : Ex → List Ct → Prop
@[irreducible] def st {α : Type} (r : Res α) [c : Kwt α] [q : Kwe] : Prop := sat r c.P q.E
@[irreducible] def fst' (r : FRes) [c : KwtF] [q : KweF] : Prop := fsat r c.P q.E
section
variable {α β : Type} {e : Env} {a : α} {c : Kwt α} {d : Kwt β} {q : Kwe}
theorem sat_st {r : Res α} {P : α → Env → Prop} {E : Ex → Env → Prop} : sat r P E = @st α r ⟨P⟩ ⟨E⟩ := by with_unfolding_all exact rfl
theorem fsat_st {r : FRes} {P : Vw → List Ct → Prop} {E : Ex → List Ct → Prop} : fsat r P E = @fst' r ⟨P⟩ ⟨E⟩ := by with_unfolding_all exact rfl
theorem st_ok : @st α (.ok a e) c q = c.P a e := by with_unfolding_all exact rfl
theorem st_exc {x : Ex} : @st α (.exc x e) c q = q.E x e := by with_unfolding_all exact rfl
theorem st_bad : @st α .bad c q = False := by with_unfolding_all exact rfl
theorem fst_ret {c : KwtF} {q : KweF} {w : Vw} {cs : List Ct} : @fst' (.ret w cs) c q = c.P w cs := by with_unfolding_all exact rfl
theorem fst_exc {c : KwtF} {q : KweF} {w : Ex} {cs : List Ct} : @fst' (.exc w cs) c q = q.E w cs := by with_unfolding_all exact rfl
theorem st_ret : @st α (ret a e) c q = c.P a e := by with_unfolding_all exact rfl
theorem st_bnd {m : M β} {k : β → M α} : @st α (bnd m k e) c q = @st β (m e) ⟨fun a e' => @st α (k a e') c q⟩ q := by with_unfolding_all exact sat_bnd
theorem st_optS : @st α (optM (some a) e) c q = c.P a e := by with_unfolding_all exact rfl
theorem st_optN : @st α (optM (none : Option α) e) c q = False := by with_unfolding_all exact rfl
theorem st_optI {p : Prop} [Decidable p] {o : Option α} : @st α (optM (if p then o else none) e) c q = (p ∧ @st α (optM o e) c q) := by with_unfolding_all exact sat_optI
theorem st_optMap {o : Option β} {f : β → α} : @st α (optM (o.map f) e) c q = @st β (optM o e) ⟨fun b e => c.P (f b) e⟩ q := by with_unfolding_all exact sat_optMap
theorem st_optBind {o : Option β} {f : β → Option α} : @st α (optM (o.bind f) e) c q = @st β (optM o e) ⟨fun b e => @st α (optM (f b) e) c q⟩ q := by with_unfolding_all exact sat_optBind
theorem st_iteB {k : Bool} {m n : M α} : @st α ((if k = true then m else n) e) c q = ((k = true → @st α (m e) c q) ∧ (k = false → @st α (n e) c q)) := by with_unfolding_all exact sat_iteB
end
section
variable {e : Env} {a b x y : M Vw} {c : Kwt Vw} {cb : Kwt Bool} {cd : Kwt D} {cl : Kwt (List D)} {cf : Kwt Fl} {q : Kwe} {t u : M Bool}
theorem st_now_d {d : D} : @st D (nowM (.d d) e) cd q = cd.P d e := by with_unfolding_all exact rfl
theorem st_now_f {d : Ct} : @st D (nowM (.f d) e) cd q = cd.P d.toD e := by with_unfolding_all exact rfl
theorem st_now_o {i : Nat} : @st D (nowM (.o i) e) cd q = match getO i e with | some k => cd.P k.toD e | none => False := by
  with_unfolding_all
      show sat (match (getO i e).map Ct.toD with | some d => _ | none => _) _ _ = _
      cases getO i e <;> rfl
theorem st_stay_d {d : D} : @st D (stayM (.d d) e) cd q = cd.P d e := by with_unfolding_all exact rfl
theorem st_stay_f {d : Ct} : @st D (stayM (.f d) e) cd q = cd.P d.toD e := by with_unfolding_all exact rfl
theorem st_eC {d : D} : @st Vw (eC d e) c q = c.P (.d d) e := by with_unfolding_all exact rfl
theorem st_eV {i : Nat} : @st Vw (eV i e) c q = match rdS i e[i]? with | some w => c.P w e | none => False := by with_unfolding_all exact sat_eV
theorem st_eU {f : D → Option Vw} : @st Vw (eU f a e) c q = @st Vw (a e) ⟨fun w e => @st D (nowM w e) ⟨fun d e => @st Vw (optM (f d) e) c q⟩ q⟩ q := by
  with_unfolding_all
      unfold eU
      rw [st_bnd]; congr; funext w e1
      rw [st_bnd]
theorem st_eB {f : D → D → Option Vw} : @st Vw (eB f a b e) c q = @st Vw (a e) ⟨fun w e => @st Vw (b e) ⟨fun u e => @st D (nowM w e) ⟨fun d e => @st D (nowM u e) ⟨fun k e => @st Vw (optM (f d k) e) c q⟩ q⟩ q⟩ q⟩ q := by
  with_unfolding_all
      unfold eB
      rw [st_bnd]; congr; funext w e1
      rw [st_bnd]; congr; funext w e1
      rw [st_bnd]; congr; funext w e1
      rw [st_bnd]
theorem st_tB {f : D → D → Option Bool} : @st Bool (tB f a b e) cb q = @st Vw (a e) ⟨fun w e => @st Vw (b e) ⟨fun u e => @st D (nowM w e) ⟨fun d e => @st D (nowM u e) ⟨fun k e => @st Bool (optM (f d k) e) cb q⟩ q⟩ q⟩ q⟩ q := by
  with_unfolding_all
      unfold tB
      rw [st_bnd]; congr; funext w e1
      rw [st_bnd]; congr; funext w e1
      rw [st_bnd]; congr; funext w e1
      rw [st_bnd]
theorem st_truM {w : Vw} : @st Bool (truM w e) cb q = @st D (nowM w e) ⟨fun d e => @st Bool (optM (tru d) e) cb q⟩ q := by
  with_unfolding_all
      unfold truM
      rw [st_bnd]
theorem st_tE : @st Bool (tE a e) cb q = @st Vw (a e) ⟨fun w e => @st Bool (truM w e) cb q⟩ q := by
  with_unfolding_all
      unfold tE
      rw [st_bnd]
theorem st_tNot : @st Bool (tNot t e) cb q = @st Bool (t e) ⟨fun k e => cb.P (!k) e⟩ q := by
  with_unfolding_all
      unfold tNot
      rw [st_bnd]
      rfl
theorem st_tAnd : @st Bool (tAnd t u e) cb q = @st Bool (t e) ⟨fun k e => (k = true → @st Bool (u e) cb q) ∧ (k = false → cb.P false e)⟩ q := by
  with_unfolding_all
      unfold tAnd
      rw [st_bnd]; congr; funext k e1
      exact st_iteB
theorem st_tOr : @st Bool (tOr t u e) cb q = @st Bool (t e) ⟨fun k e => (k = true → cb.P true e) ∧ (k = false → @st Bool (u e) cb q)⟩ q := by
  with_unfolding_all
      unfold tOr
      rw [st_bnd]; congr; funext k e1
      exact st_iteB
theorem st_eAnd : @st Vw (eAnd a b e) c q = @st Vw (a e) ⟨fun w e => @st Bool (truM w e) ⟨fun k e => (k = true → @st Vw (b e) c q) ∧ (k = false → c.P w.dull e)⟩ q⟩ q := by
  with_unfolding_all
      unfold eAnd
      rw [st_bnd]; congr; funext k e1
      rw [st_bnd]; congr; funext k e1
      exact st_iteB
theorem st_eOr : @st Vw (eOr a b e) c q = @st Vw (a e) ⟨fun w e => @st Bool (truM w e) ⟨fun k e => (k = true → c.P w.dull e) ∧ (k = false → @st Vw (b e) c q)⟩ q⟩ q := by
  with_unfolding_all
      unfold eOr
      rw [st_bnd]; congr; funext k e1
      rw [st_bnd]; congr; funext k e1
      exact st_iteB
theorem st_eNot : @st Vw (eNot a e) c q = @st Vw (a e) ⟨fun w e => @st Bool (truM w e) ⟨fun k e => c.P (.d (.bl !k)) e⟩ q⟩ q := by
  with_unfolding_all
      unfold eNot
      rw [st_bnd]; congr; funext k e1
      rw [st_bnd]; rfl
theorem st_eIf : @st Vw (eIf t a b e) c q = @st Bool (t e) ⟨fun k e => (k = true → @st Vw (a e) c q) ∧ (k = false → @st Vw (b e) c q)⟩ q := by
  with_unfolding_all
      unfold eIf
      rw [st_bnd]; congr; funext k e1
      exact st_iteB
theorem st_tCh {f g : D → D → Option Bool} {z : M Vw} : @st Bool (tCh f g a b z e) cb q = @st Vw (a e) ⟨fun w e => @st Vw (b e) ⟨fun u e => @st D (nowM w e) ⟨fun d e => @st D (nowM u e) ⟨fun v e => @st Bool (optM (f d v) e) ⟨fun k e => (k = true → @st Vw (z e) ⟨fun z e => @st D (nowM u e) ⟨fun v e => @st D (nowM z e) ⟨fun y e => @st Bool (optM (g v y) e) cb q⟩ q⟩ q⟩ q) ∧ (k = false → cb.P false e)⟩ q⟩ q⟩ q⟩ q⟩ q := by
  with_unfolding_all
      unfold tCh
      rw [st_bnd]; congr; funext w e1
      rw [st_bnd]; congr; funext w e1
      rw [st_bnd]; congr; funext w e1
      rw [st_bnd]; congr; funext w e1
      rw [st_bnd]; congr; funext k e1
      rw [st_iteB]
      refine congr (congrArg And (implies_congr rfl ?_)) rfl
      rw [st_bnd]; congr; funext w e1
      rw [st_bnd]; congr; funext w e1
      rw [st_bnd]
theorem st_args0 {ca : Kwt (List Vw)} : @st (List Vw) (eArgs [] e) ca q = ca.P [] e := by with_unfolding_all exact rfl
theorem st_args1 {ca : Kwt (List Vw)} {as : List (M Vw)} : @st (List Vw) (eArgs (a :: as) e) ca q = @st Vw (a e) ⟨fun w e => @st (List Vw) (eArgs as e) ⟨fun ws e => ca.P (w :: ws) e⟩ q⟩ q := by
  with_unfolding_all
      unfold eArgs
      rw [st_bnd]; congr; funext w e1
      rw [st_bnd]; rfl
theorem st_guard {p : Prop} [Decidable p] {w : Vw} : @st Vw ((if p then ret w else optM none) e) c q = (p ∧ c.P w e) := by
  with_unfolding_all
      by_cases h : p
      · rw [if_pos h]; exact propext ⟨fun z => ⟨h, z⟩, fun z => z.2⟩
      · rw [if_neg h]; exact propext ⟨fun z => z.elim, fun z => h z.1⟩
theorem st_eTup {as : List (M Vw)} : @st Vw (eTup as e) c q = @st (List Vw) (eArgs as e) ⟨fun ws e => @st (List D) (optM (stays ws) e) ⟨fun ds e => ds.length < LIM ∧ c.P (.d (.tup ds)) e⟩ q⟩ q := by
  with_unfolding_all
      unfold eTup
      rw [st_bnd]; congr; funext w e1
      rw [st_bnd]; congr; funext ds e1
      exact st_guard
theorem st_eLst {as : List (M Vw)} : @st Vw (eLst as e) c q = @st (List Vw) (eArgs as e) ⟨fun ws e => @st (List D) (optM (stays ws) e) ⟨fun ds e => ds.length < LIM ∧ c.P (.f (.l ds)) e⟩ q⟩ q := by
  with_unfolding_all
      unfold eLst
      rw [st_bnd]; congr; funext w e1
      rw [st_bnd]; congr; funext ds e1
      exact st_guard
theorem st_intM {co : Kwt (Option Int)} : @st (Option Int) (intM a e) co q = @st Vw (a e) ⟨fun w e => @st D (nowM w e) ⟨fun d e => match d with | .int i => co.P (some i) e | _ => False⟩ q⟩ q := by
  with_unfolding_all
      unfold intM
      rw [st_bnd]; congr; funext w e1
      rw [st_bnd]; congr; funext d e1
      cases d <;> rfl
theorem st_eSl {lo hi : M (Option Int)} : @st Vw (eSl a lo hi e) c q = @st Vw (a e) ⟨fun w e => @st (Option Int) (lo e) ⟨fun l e => @st (Option Int) (hi e) ⟨fun h e => @st D (nowM w e) ⟨fun d e => @st Vw (optM (slD l h d) e) c q⟩ q⟩ q⟩ q⟩ q := by
  with_unfolding_all
      unfold eSl
      rw [st_bnd]; congr; funext w e1
      rw [st_bnd]; congr; funext w e1
      rw [st_bnd]; congr; funext w e1
      rw [st_bnd]
theorem st_ownL {i : Nat} : @st (List D) (ownL i e) cl q = match getO i e with | some (.l ds) => cl.P ds e | _ => False := by with_unfolding_all exact sat_ownL
theorem st_putL {i : Nat} {ds : List D} {cu : Kwt Unit} : @st Unit (putL i ds e) cu q = cu.P () (setO i (.l ds) e) := by with_unfolding_all exact rfl
theorem st_recv {cn : Kwt Nat} : @st Nat (recv a e) cn q = @st Vw (a e) ⟨fun w e => match viewI w with | some i => (match getO i e with | some (.l ds) => cn.P i e | _ => False) | none => False⟩ q := by
  with_unfolding_all
      unfold recv
      rw [st_bnd]; congr; funext w e1
      rw [st_bnd]
      cases viewI w with
      | none => rfl
      | some i =>
        rw [st_optS]
        show @st Nat (bnd _ _ e1) cn q = _
        rw [st_bnd, st_ownL]
        show (match getO i e1 with | some (.l ds) => cn.P i e1 | _ => False) = (match getO i e1 with | some (.l ds) => cn.P i e1 | _ => False)
        rfl
theorem st_eApp : @st Vw (eApp a b e) c q = @st Nat (recv a e) ⟨fun i e => @st Vw (b e) ⟨fun u e => @st D (stayM u e) ⟨fun d e => @st (List D) (ownL i e) ⟨fun ds e => ds.length < LIM ∧ c.P (.d .non) (setO i (.l (ds ++ [d])) e)⟩ q⟩ q⟩ q⟩ q := by
  with_unfolding_all
      unfold eApp
      rw [st_bnd]; congr; funext w e1
      rw [st_bnd]; congr; funext w e1
      rw [st_bnd]; congr; funext w e1
      rw [st_bnd]; congr; funext ds e1
      by_cases h : ds.length < LIM
      · rw [if_pos h]; exact propext ⟨fun z => ⟨h, z⟩, fun z => z.2⟩
      · rw [if_neg h]; exact propext ⟨fun z => z.elim, fun z => h z.1⟩
theorem st_ePop : @st Vw (ePop a e) c q = @st Nat (recv a e) ⟨fun i e => @st (List D) (ownL i e) ⟨fun ds e => @st D (optM ds.getLast? e) ⟨fun d e => c.P (.d d) (setO i (.l ds.dropLast) e)⟩ q⟩ q⟩ q := by
  with_unfolding_all
      unfold ePop
      rw [st_bnd]; congr; funext w e1
      rw [st_bnd]; congr; funext w e1
      rw [st_bnd]; rfl
theorem st_eRev : @st Vw (eRev a e) c q = @st Nat (recv a e) ⟨fun i e => @st (List D) (ownL i e) ⟨fun ds e => c.P (.d .non) (setO i (.l ds.reverse) e)⟩ q⟩ q := by
  with_unfolding_all
      unfold eRev
      rw [st_bnd]; congr; funext w e1
      rw [st_bnd]; rfl
theorem st_eExt : @st Vw (eExt a b e) c q = @st Nat (recv a e) ⟨fun i e => @st Vw (b e) ⟨fun u e => @st D (stayM u e) ⟨fun d e => @st (List D) (optM (UbP.listOf d) e) ⟨fun xs e => @st (List D) (ownL i e) ⟨fun ds e => ds.length + xs.length ≤ LIM ∧ c.P (.d .non) (setO i (.l (ds ++ xs)) e)⟩ q⟩ q⟩ q⟩ q⟩ q := by
  with_unfolding_all
      unfold eExt
      rw [st_bnd]; congr; funext w e1
      rw [st_bnd]; congr; funext w e1
      rw [st_bnd]; congr; funext w e1
      rw [st_bnd]; congr; funext w e1
      rw [st_bnd]; congr; funext ds e1
      by_cases h : ds.length + w.length ≤ LIM
      · rw [if_pos h]; exact propext ⟨fun z => ⟨h, z⟩, fun z => z.2⟩
      · rw [if_neg h]; exact propext ⟨fun z => z.elim, fun z => h z.1⟩
theorem st_callB {f : Fn} {ms : List Bool} {dv : List D} {ws : List Vw} : @st Vw (callB f ms dv ws e) c q = match mkArgs ms ws e with
    | none => False
    | some args => nodup (ownIx ms ws ++ lookIx ms ws) = true ∧ @fst' (f (args ++ dv.map .dat))
      ⟨fun w cs => passOk (lookIx ms ws) w cs = true ∧ match putBack ms ws cs e with | some e' => c.P w e' | none => False⟩
       ⟨fun x cs => (lookIx ms ws).isEmpty = true ∧ match putBack ms ws cs e with | some e' => q.E x e' | none => False⟩ := by with_unfolding_all exact sat_callB
theorem st_eCall {f : Fn} {ms : List Bool} {dv : List D} {as : List (M Vw)} : @st Vw (eCall f ms as dv e) c q = @st (List Vw) (eArgs as e) ⟨fun ws e => @st Vw (callB f ms dv ws e) c q⟩ q := by with_unfolding_all exact st_bnd
theorem fst_run {k : Nat} {b : M Fl} {args : List Sl} {c : KwtF} {q : KweF} : @fst' (run k b args) c q = @st Fl (b (args ++ List.replicate k .no))
    ⟨fun f e => match f with
      | .nx => c.P (.d .non) (pars e)
      | .rt (.d d) => c.P (.d d) (pars e)
      | .rt (.f k) => c.P (.f k) (pars e)
      | _ => False⟩
     ⟨fun x e => q.E x (pars e)⟩ := by with_unfolding_all exact fsat_run
theorem st_sSeq {a b : M Fl} : @st Fl (sSeq a b e) cf q = @st Fl (a e) ⟨fun f e' => match f with
    | .nx => @st Fl (b e') cf q
    | f => cf.P f e'⟩ q := by with_unfolding_all exact sat_sSeq
theorem st_sRet : @st Fl (sRet a e) cf q = @st Vw (a e) ⟨fun w e => match w with
    | .d d => cf.P (.rt (.d d)) e
    | .f c => cf.P (.rt (.f c)) e
    | .o i => match e[i]? with
      | some (.own κ) => cf.P (.rt (.f κ)) (e.set i .no)
      | _ => False⟩ q := by with_unfolding_all exact sat_sRet
theorem st_sNx : @st Fl (sNx e) cf q = cf.P .nx e := by with_unfolding_all exact rfl
theorem st_sBk : @st Fl (sBk e) cf q = cf.P .bk e := by with_unfolding_all exact rfl
theorem st_sCt : @st Fl (sCt e) cf q = cf.P .ct e := by with_unfolding_all exact rfl
theorem st_sRetN : @st Fl (sRetN e) cf q = cf.P (.rt (.d .non)) e := by with_unfolding_all exact rfl
theorem st_sIf {m n : M Fl} : @st Fl (sIf t m n e) cf q = @st Bool (t e) ⟨fun k e => (k = true → @st Fl (m e) cf q) ∧ (k = false → @st Fl (n e) cf q)⟩ q := by
  with_unfolding_all
      unfold sIf
      rw [st_bnd]; congr; funext k e1
      exact st_iteB
theorem st_putM {tg : Tg} {d : D} : @st Fl (putM tg d e) cf q = match putT tg d e with | some e' => cf.P .nx e' | none => False := by with_unfolding_all exact sat_putM
theorem st_sSet {i : Nat} : @st Fl (sSet i a e) cf q = @st Vw (a e) ⟨fun w e => @st D (stayM w e) ⟨fun d e => @st Fl (putM (.nm i) d e) cf q⟩ q⟩ q := by
  with_unfolding_all
      unfold sSet
      rw [st_bnd]; congr; funext k e1
      rw [st_bnd]
theorem st_sAsg {tg : Tg} : @st Fl (sAsg tg a e) cf q = @st Vw (a e) ⟨fun w e => @st D (stayM w e) ⟨fun d e => @st Fl (putM tg d e) cf q⟩ q⟩ q := by
  with_unfolding_all
      unfold sAsg
      rw [st_bnd]; congr; funext k e1
      rw [st_bnd]
theorem st_ownN {i : Nat} {k : Ct} : @st Fl (ownN i k e) cf q = match e[i]? with
    | some .no => cf.P .nx (e.set i (.own k))
    | some (.dat _) => cf.P .nx (e.set i (.own k))
    | some (.own _) => cf.P .nx (e.set i (.own k))
    | _ => False := by with_unfolding_all exact sat_ownN
theorem st_sOwn {i : Nat} : @st Fl (sOwn i a e) cf q = @st Vw (a e) ⟨fun w e => @st Ct (optM (newC w) e) ⟨fun d e => @st Fl (ownN i d e) cf q⟩ q⟩ q := by
  with_unfolding_all
      unfold sOwn
      rw [st_bnd]; congr; funext k e1
      rw [st_bnd]
theorem st_frz {i : Nat} {b : M Fl} : @st Fl (frz i b e) cf q = match frzE i e with | some e' => @st Fl (b e') cf q | none => False := by with_unfolding_all exact sat_frz
theorem st_sPar {i j : Nat} : @st Fl (sPar i j a b e) cf q = @st Vw (a e) ⟨fun w e => @st Vw (b e) ⟨fun u e => @st D (stayM w e) ⟨fun d e => @st D (stayM u e) ⟨fun k e => @st Fl (putM (.nm i) d e) ⟨fun _ e => @st Fl (putM (.nm j) k e) cf q⟩ q⟩ q⟩ q⟩ q⟩ q := by
  with_unfolding_all
      unfold sPar
      rw [st_bnd]; congr; funext w e1
      rw [st_bnd]; congr; funext w e1
      rw [st_bnd]; congr; funext w e1
      rw [st_bnd]; congr; funext w e1
      rw [st_bnd]
theorem st_sEx : @st Fl (sEx a e) cf q = @st Vw (a e) ⟨fun _ e => cf.P .nx e⟩ q := by
  with_unfolding_all
      unfold sEx
      rw [st_bnd]; rfl
theorem st_sItem {o i v : M Vw} : @st Fl (sItem o i v e) cf q = @st Vw (v e) ⟨fun u e => @st Vw (o e) ⟨fun w e => @st Vw (i e) ⟨fun z e => @st Nat (optM (viewI w) e) ⟨fun k e => @st D (stayM u e) ⟨fun d e => @st D (nowM z e) ⟨fun n e => @st (List D) (ownL k e) ⟨fun ds e => match n with
    | .int m => match ixI ds.length m with | some j => cf.P .nx (setO k (.l (ds.set j d)) e) | none => False
    | _ => False⟩ q⟩ q⟩ q⟩ q⟩ q⟩ q⟩ q := by with_unfolding_all exact sat_sItem
theorem st_sSlc {o i j v : M Vw} : @st Fl (sSlc o i j v e) cf q = @st Vw (v e) ⟨fun u e => @st Vw (o e) ⟨fun w e => @st Vw (i e) ⟨fun a e => @st Vw (j e) ⟨fun b e => @st Nat (optM (viewI w) e) ⟨fun k e => @st D (stayM u e) ⟨fun d e => @st (List D) (optM (UbP.listOf d) e) ⟨fun es e => @st D (nowM a e) ⟨fun x e => @st D (nowM b e) ⟨fun y e => @st (List D) (ownL k e) ⟨fun ds e => match x, y with
    | .int i, .int j => (0 ≤ i ∧ i ≤ j ∧ j ≤ ds.length ∧ ds.length + es.length ≤ LIM) ∧ cf.P .nx (setO k (.l (ds.take i.toNat ++ es ++ ds.drop j.toNat)) e)
    | _, _ => False⟩ q⟩ q⟩ q⟩ q⟩ q⟩ q⟩ q⟩ q⟩ q⟩ q := by
  unfold sSlc
  rw [st_bnd]; congr; funext u e1
  rw [st_bnd]; congr; funext w e1
  rw [st_bnd]; congr; funext a e1
  rw [st_bnd]; congr; funext b e1
  rw [st_bnd]; congr; funext k e1
  rw [st_bnd]; congr; funext d e1
  rw [st_bnd]; congr; funext es e1
  rw [st_bnd]; congr; funext x e1
  rw [st_bnd]; congr; funext y e1
  rw [st_bnd]; congr; funext ds e1
  with_unfolding_all
      cases x with
      | int i =>
        cases y with
        | int j =>
          dsimp only
          by_cases h : 0 ≤ i ∧ i ≤ j ∧ j ≤ ds.length ∧ ds.length + es.length ≤ LIM
          · rw [if_pos h]; exact propext ⟨fun z => ⟨h, z⟩, fun z => z.2⟩
          · rw [if_neg h]; exact propext ⟨fun z => z.elim, fun z => h z.1⟩
        | _ => rfl
      | _ => rfl
theorem st_sAgI {o i v : M Vw} : @st Fl (sAgI o i v e) cf q = @st Vw (o e) ⟨fun w e => @st Vw (i e) ⟨fun z e => @st Nat (optM (viewI w) e) ⟨fun k e => @st D (nowM z e) ⟨fun n e => @st Int (optM (intOf n) e) ⟨fun m e => @st (List D) (ownL k e) ⟨fun ds e => @st Int (optM ((atL ds m).bind intOf) e) ⟨fun a e => @st Vw (v e) ⟨fun u e => @st D (nowM u e) ⟨fun c e => @st Int (optM (intOf c) e) ⟨fun b e => @st (List D) (ownL k e) ⟨fun es e => @st Nat (optM (ixI es.length m) e) ⟨fun j e => cf.P .nx (setO k (.l (es.set j (.int (a + b)))) e)⟩ q⟩ q⟩ q⟩ q⟩ q⟩ q⟩ q⟩ q⟩ q⟩ q⟩ q⟩ q := by
  unfold sAgI
  rw [st_bnd]; congr; funext w e1
  rw [st_bnd]; congr; funext z e1
  rw [st_bnd]; congr; funext k e1
  rw [st_bnd]; congr; funext n e1
  rw [st_bnd]; congr; funext m e1
  rw [st_bnd]; congr; funext ds e1
  rw [st_bnd]; congr; funext a e1
  rw [st_bnd]; congr; funext u e1
  rw [st_bnd]; congr; funext c e1
  rw [st_bnd]; congr; funext b e1
  rw [st_bnd]; congr; funext es e1
  rw [st_bnd]; congr; funext j e1
  with_unfolding_all rfl
theorem int_of (i : Int) : intOf (.int i) = some i := rfl
theorem st_datM {i : Nat} : @st D (datM i e) cd q = match e[i]? with
    | some (.dat d) => cd.P d e
    | _ => False := by with_unfolding_all exact sat_datM
theorem st_sAug {i : Nat} {v : M Vw} : @st Fl (sAug i v e) cf q = @st D (datM i e) ⟨fun d e => @st Vw (v e) ⟨fun u e => @st D (nowM u e) ⟨fun k e => @st Vw (optM (addD d k) e) ⟨fun w e => match w with | .d (.int z) => @st Fl (putM (.nm i) (.int z) e) cf q | _ => False⟩ q⟩ q⟩ q⟩ q := by with_unfolding_all exact sat_sAug
theorem st_sRaise {x : Str} {fs : List Str} {ok : List D → Bool} {as : List (M Vw)} : @st Fl (sRaise x fs ok as e) cf q = @st (List Vw) (eArgs as e) ⟨fun ws e => @st (List D) (optM (stays ws) e) ⟨fun ds e => ok ds = true ∧ q.E ⟨x, fs.zip ds⟩ e⟩ q⟩ q := by with_unfolding_all exact sat_sRaise
theorem st_after {n : Option Nat} {r : Res Fl} : @st Fl (afterS n r) cf q = @st Fl r ⟨fun f e => match n with
    | none => (exFree e && okFl f) = true ∧ cf.P f e
    | some i => (exFree (e.set i .no) && okFl f) = true ∧ cf.P f (e.set i .no)⟩ ⟨fun _ _ => False⟩ := by with_unfolding_all exact sat_after
theorem st_sTry {b s : M Fl} {ok : Str → Option Bool} {n : Option Nat} : @st Fl (sTry b ok n s e) cf q = @st Fl (b e) ⟨cf.P⟩ ⟨fun x e' => match ok x.cls with
    | none => False
    | some false => q.E x e'
    | some true => match n with
      | none => @st Fl (afterS none (s e')) cf q
      | some i => match e'[i]? with
        | some .no => @st Fl (afterS (some i) (s (e'.set i (.ex x)))) cf q
        | _ => False⟩ := by with_unfolding_all exact sat_sTry
theorem st_sFor {it : M (List D)} {tg : Tg} {b : M Fl} : @st Fl (sFor it tg b e) cf q = @st (List D) (it e) ⟨fun ds e => @st Fl (forL tg b ds e) cf q⟩ q := by with_unfolding_all exact sat_sFor
theorem st_turn {tg : Tg} {d : D} {b : M Fl} : @st Fl (turn tg d b e) cf q = match putT tg d e with | some e1 => @st Fl (b e1) cf q | none => False := by with_unfolding_all exact sat_turn
theorem st_lcStep {tg : Tg} {t : M Bool} {x : M Vw} {vs : List Nat} {d : D} {co : Kwt (Option D)} : @st (Option D) (lcStep tg t x vs d e) co q = match putT tg d e with
    | none => False
    | some e1 => @st Bool (t e1) ⟨fun k e2 => (k = true → @st Vw (x e2) ⟨fun w e3 => match w.stay with | some y => co.P (some y) (wipeE e3 vs) | none => False⟩ ⟨fun _ _ => False⟩) ∧ (k = false → co.P none (wipeE e2 vs))⟩ ⟨fun _ _ => False⟩ := by
  with_unfolding_all
      unfold st
      rw [sat_lcStep]
      cases putT tg d e with
      | none => rfl
      | some e1 =>
        show sat (t e1) _ _ = sat (t e1) _ _
        congr
        funext k e2
        cases k
        · exact propext ⟨fun h => ⟨fun z => by simp at z, fun _ => h⟩, fun h => h.2 rfl⟩
        · exact propext ⟨fun h => ⟨fun _ => h, fun z => by simp at z⟩, fun h => h.1 rfl⟩
theorem st_gxStep {tg : Tg} {x : M Vw} {vs : List Nat} {d : D} : @st Bool (gxStep tg x vs d e) cb q = match putT tg d e with
    | none => False
    | some e1 => @st Vw (x e1) ⟨fun w e3 => match w with | .d (.bl b) => cb.P b (wipeE e3 vs) | _ => False⟩ ⟨fun _ _ => False⟩ := by with_unfolding_all exact sat_gxStep
theorem st_eLc {it : M (List D)} {tg : Tg} {t : M Bool} {x : M Vw} {vs : List Nat} : @st Vw (eLc it tg t x vs e) c q = @st (List D) (it e) ⟨fun ds e => freeAt e vs = true ∧ @st (List D) (lcGo tg t x vs ds [] (wipeE e vs)) ⟨fun ys e' => c.P (.f (.l ys)) (backE e e' vs)⟩ ⟨fun _ _ => False⟩⟩ q := by with_unfolding_all exact sat_eLc
theorem st_eGx {st' : Bool} {it : M (List D)} {tg : Tg} {x : M Vw} {vs : List Nat} : @st Vw (eGx st' it tg x vs e) c q = @st (List D) (it e) ⟨fun ds e => freeAt e vs = true ∧ @st Bool (gxGo st' tg x vs ds (wipeE e vs)) ⟨fun b e' => c.P (.d (.bl b)) (backE e e' vs)⟩ ⟨fun _ _ => False⟩⟩ q := by with_unfolding_all exact sat_eGx
theorem st_iE : @st (List D) (iE a e) cl q = @st Vw (a e) ⟨fun w e => @st D (stayM w e) ⟨fun d e => @st (List D) (optM (walkD d) e) cl q⟩ q⟩ q := by
  with_unfolding_all
      unfold iE
      rw [st_bnd]; congr; funext w e1
      rw [st_bnd]
theorem st_iR1 : @st (List D) (iR1 a e) cl q = @st Vw (a e) ⟨fun w e => @st D (nowM w e) ⟨fun d e => match d with | .int j => bigI j = true ∧ cl.P (intsL 0 j.toNat) e | _ => False⟩ q⟩ q := by with_unfolding_all exact sat_iR1
theorem st_iR2 : @st (List D) (iR2 a b e) cl q = @st Vw (a e) ⟨fun w e => @st Vw (b e) ⟨fun u e => @st D (nowM w e) ⟨fun d e => @st D (nowM u e) ⟨fun k e => match d, k with | .int i, .int j => (bigI i && bigI j) = true ∧ cl.P (intsL i (j - i).toNat) e | _, _ => False⟩ q⟩ q⟩ q⟩ q := by with_unfolding_all exact sat_iR2
theorem st_iEn : @st (List D) (iEn a e) cl q = @st Vw (a e) ⟨fun w e => @st D (stayM w e) ⟨fun d e => @st (List D) (optM (UbP.seqOf d) e) ⟨fun ds e => cl.P (enumF ds) e⟩ q⟩ q⟩ q := by
  with_unfolding_all
      unfold iEn
      rw [st_bnd]; congr; funext w e1
      rw [st_bnd]; congr; funext w e1
      rw [st_bnd]; rfl
theorem st_iZ : @st (List D) (iZ a b e) cl q = @st Vw (a e) ⟨fun w e => @st Vw (b e) ⟨fun u e => @st D (stayM w e) ⟨fun d e => @st D (stayM u e) ⟨fun k e => @st (List D) (optM (UbP.seqOf d) e) ⟨fun ds e => @st (List D) (optM (UbP.seqOf k) e) ⟨fun cs e => cl.P (List.zipWith (fun x y => .tup [x, y]) ds cs) e⟩ q⟩ q⟩ q⟩ q⟩ q⟩ q := by
  with_unfolding_all
      unfold iZ
      rw [st_bnd]; congr; funext w e1
      rw [st_bnd]; congr; funext w e1
      rw [st_bnd]; congr; funext w e1
      rw [st_bnd]; congr; funext w e1
      rw [st_bnd]; congr; funext w e1
      rw [st_bnd]; rfl
theorem st_iZ3 {d : M Vw} : @st (List D) (iZ3 a b d e) cl q = @st Vw (a e) ⟨fun w e => @st Vw (b e) ⟨fun u e => @st Vw (d e) ⟨fun v e => @st D (stayM w e) ⟨fun d e => @st D (stayM u e) ⟨fun k e => @st D (stayM v e) ⟨fun j e => @st (List D) (optM (UbP.listOf d) e) ⟨fun ds e => @st (List D) (optM (UbP.listOf k) e) ⟨fun cs e => @st (List D) (optM (UbP.listOf j) e) ⟨fun bs e => cl.P (zip3 ds cs bs) e⟩ q⟩ q⟩ q⟩ q⟩ q⟩ q⟩ q⟩ q⟩ q := by
  with_unfolding_all
      unfold iZ3
      rw [st_bnd]; congr; funext w e1
      rw [st_bnd]; congr; funext w e1
      rw [st_bnd]; congr; funext w e1
      rw [st_bnd]; congr; funext w e1
      rw [st_bnd]; congr; funext w e1
      rw [st_bnd]; congr; funext w e1
      rw [st_bnd]; congr; funext w e1
      rw [st_bnd]; congr; funext w e1
      rw [st_bnd]; rfl
theorem st_iRv : @st (List D) (iRv a e) cl q = @st Vw (a e) ⟨fun w e => @st D (stayM w e) ⟨fun d e => @st (List D) (optM (UbP.listOf d) e) ⟨fun ds e => cl.P ds.reverse e⟩ q⟩ q⟩ q := by
  with_unfolding_all
      unfold iRv
      rw [st_bnd]; congr; funext w e1
      rw [st_bnd]; congr; funext w e1
      rw [st_bnd]; rfl
end
section
variable {e : Env} {c : Kwt Vw} {cf : Kwt Fl} {q : Kwe}
theorem st_newB {x : Str} {f : Fn} {ms : List Bool} {dv : List D} {ws : List Vw} : @st Vw (newB x f ms dv ws e) c q = @st Vw (callB f (true :: ms) dv (.o e.length :: ws) (e ++ [.own (.o x [])]))
    ⟨fun w e' => w = .d .non ∧ match e'[e.length]? with | some (.own k) => c.P (.f k) (e'.take e.length) | _ => False⟩ ⟨fun x e' => q.E x (e'.take e.length)⟩ := by
  with_unfolding_all
      unfold newB st sat
      cases callB f (true :: ms) dv (.o e.length :: ws) (e ++ [.own (.o x [])]) with
      | bad => rfl
      | exc x e' => rfl
      | ok w e' =>
        cases w with
        | d d =>
          cases d with
          | non =>
            dsimp only
            cases e'[e.length]? with
            | none => simp
            | some s => cases s <;> simp
          | _ => simp
        | _ => simp
theorem st_eNew {x : Str} {f : Fn} {ms : List Bool} {as ks : List (M Vw)} {dv : List D} : @st Vw (eNew x f ms as ks dv e) c q = @st (List Vw) (eArgs as e) ⟨fun ws e => @st (List Vw) (eArgs ks e) ⟨fun zs e => @st Vw (newB x f ms dv (ws ++ zs) e) c q⟩ q⟩ q := by
  unfold eNew
  rw [st_bnd]; congr; funext ws e1
  rw [st_bnd]
theorem st_ownO {i : Nat} {co : Kwt (Str × List (Str × D))} : @st (Str × List (Str × D)) (ownO i e) co q = match getO i e with | some (.o x fs) => co.P (x, fs) e | _ => False := by
  with_unfolding_all
      unfold ownO st sat
      cases getO i e with
      | none => rfl
      | some k => cases k <;> rfl
theorem st_sFld {cs : List Str} {f : Str} {o v : M Vw} : @st Fl (sFld cs f o v e) cf q = @st Vw (v e) ⟨fun u e => @st Vw (o e) ⟨fun w e => @st Nat (optM (viewI w) e) ⟨fun k e => @st D (stayM u e) ⟨fun d e => @st (Str × List (Str × D)) (ownO k e) ⟨fun p e => (cs.contains p.1 = true ∧ p.2.length < 1000) ∧ cf.P .nx (setO k (.o p.1 (putFD f d p.2)) e)⟩ q⟩ q⟩ q⟩ q⟩ q := by
  unfold sFld
  rw [st_bnd]; congr; funext u e1
  rw [st_bnd]; congr; funext w e2
  rw [st_bnd]; congr; funext k e3
  rw [st_bnd]; congr; funext d e4
  rw [st_bnd]; congr; funext p e5
  with_unfolding_all
      by_cases h : cs.contains p.1 = true ∧ p.2.length < 1000
      · rw [if_pos h]; exact propext ⟨fun z => ⟨h, z⟩, fun z => z.2⟩
      · rw [if_neg h]; exact propext ⟨fun z => z.elim, fun z => h z.1⟩
end
end UbP
namespace UbP
open PySem UbM
def rD (r : Rat) : D := .tup [.int r.num, .int (r.den : Int)]
abbrev rsD (l : List Rat) : D := .lst (l.map rD)
abbrev isD (l : List Int) : D := .lst (l.map .int)
section
variable {α : Type}
theorem atL_nat (xs : List α) (k : Nat) : atL xs (k : Int) = xs[k]? := by
  unfold atL ixI
  rw [if_pos (Int.natCast_nonneg k)]
  by_cases h : k < xs.length
  · rw [if_pos (by omega)]; rfl
  · rw [if_neg (by omega), List.getElem?_eq_none (by omega)]; rfl
theorem atL0 (xs : List α) : atL xs 0 = xs[0]? := atL_nat xs 0
theorem atL1 (xs : List α) : atL xs 1 = xs[1]? := atL_nat xs 1
theorem atL2 (xs : List α) : atL xs 2 = xs[2]? := atL_nat xs 2
theorem atL3 (xs : List α) : atL xs 3 = xs[3]? := atL_nat xs 3
theorem atL4 (xs : List α) : atL xs 4 = xs[4]? := atL_nat xs 4
theorem atL5 (xs : List α) : atL xs 5 = xs[5]? := atL_nat xs 5
theorem ixI_nat {n k : Nat} (h : k < n) : ixI n (k : Int) = some k := by
  unfold ixI
  rw [if_pos (Int.natCast_nonneg k), if_pos (by omega)]
  rfl
theorem ixI0 {n : Nat} : ixI (n + 1) 0 = some 0 := ixI_nat (k := 0) (by omega)
theorem ixI1 {n : Nat} : ixI (n + 1 + 1) 1 = some 1 := ixI_nat (k := 1) (by omega)
theorem ixI2 {n : Nat} : ixI (n + 1 + 1 + 1) 2 = some 2 := ixI_nat (k := 2) (by omega)
theorem ixI3 {n : Nat} : ixI (n + 1 + 1 + 1 + 1) 3 = some 3 := ixI_nat (k := 3) (by omega)
end
theorem ix_r0 (r : Rat) : ixD (rD r) (.int 0) = some (.d (.int r.num)) := rfl
theorem ix_r1 (r : Rat) : ixD (rD r) (.int 1) = some (.d (.int (r.den : Int))) := rfl
theorem ix_lst (ds : List D) (i : Int) : ixD (.lst ds) (.int i) = (atL ds i).map .d := rfl
theorem ix_lsf (ds : List D) (i : Int) : ixD (.lsf ds) (.int i) = (atL ds i).map .d := rfl
theorem ix_tup (ds : List D) (i : Int) : ixD (.tup ds) (.int i) = (atL ds i).map .d := rfl
theorem len_lst (ds : List D) : lenD (.lst ds) = some (.d (.int (ds.length : Nat))) := rfl
theorem len_lsf (ds : List D) : lenD (.lsf ds) = some (.d (.int (ds.length : Nat))) := rfl
theorem len_tup (ds : List D) : lenD (.tup ds) = some (.d (.int (ds.length : Nat))) := rfl
theorem len_r (r : Rat) : lenD (rD r) = some (.d (.int 2)) := rfl
theorem eq_int (a b : Int) : eqD (.int a) (.int b) = some (decide (a = b)) := by
  show some (a == b) = _
  by_cases h : a = b
  · subst h; simp
  · simp [h]
theorem ne_int (a b : Int) : neD (.int a) (.int b) = some (!decide (a = b)) := by
  unfold neD; rw [eq_int]; rfl
theorem eq_str (a b : Str) : eqD (.str a) (.str b) = some (decide (a = b)) := by
  show some (a == b) = _
  by_cases h : a = b
  · subst h; simp
  · simp [h]
theorem ne_str (a b : Str) : neD (.str a) (.str b) = some (!decide (a = b)) := by
  unfold neD; rw [eq_str]; rfl
theorem eq_bl (a b : Bool) : eqD (.bl a) (.bl b) = some (decide (a = b)) := by
  show some (a == b) = _
  congr 1
theorem ne_bl (a b : Bool) : neD (.bl a) (.bl b) = some (!decide (a = b)) := by
  unfold neD; rw [eq_bl]; rfl
theorem eq_in (a : Int) : eqD (.int a) .non = some false := rfl
theorem eq_ni (a : Int) : eqD .non (.int a) = some false := rfl
theorem eq_nn : eqD .non .non = some true := rfl
theorem ne_in (a : Int) : neD (.int a) .non = some true := rfl
theorem ne_ni (a : Int) : neD .non (.int a) = some true := rfl
theorem ne_nn : neD .non .non = some false := rfl
mutual
theorem eqv_self : ∀ d : D, sh d 60 = true ∨ True → (∀ n, sh d n = true → eqv d d = true)
  | .non, _, n, h => rfl
  | .bl b, _, n, h => by unfold eqv; exact beq_self_eq_true b
  | .int i, _, n, h => by unfold eqv; exact beq_self_eq_true i
  | .str x, _, n, h => by unfold eqv; exact beq_self_eq_true x
  | .lst ds, _, n, h => by
    unfold eqv
    unfold sh at h
    exact eqv_selfs ds _ (Bool.and_eq_true_iff.mp h).2
  | .tup ds, _, n, h => by
    unfold eqv
    unfold sh at h
    exact eqv_selfs ds _ (Bool.and_eq_true_iff.mp h).2
  | .lsf ds, _, n, h => by unfold sh at h; cases h
  | .obj c fs, _, n, h => by unfold sh at h; cases h
theorem eqv_selfs : ∀ (ds : List D) (n : Nat), shAll ds n = true → eqvAll ds ds = true
  | [], n, h => rfl
  | d :: ds, n, h => by
    unfold shAll at h
    unfold eqvAll
    rw [eqv_self d (.inr trivial) n (Bool.and_eq_true_iff.mp h).1, eqv_selfs ds n (Bool.and_eq_true_iff.mp h).2]
    rfl
end
theorem shAll_map {α : Type} {g : α → D} {n : Nat} : ∀ (l : List α), (∀ x ∈ l, sh (g x) n = true) → shAll (l.map g) n = true
  | [], _ => rfl
  | x :: l, h => by
    rw [List.map_cons]
    unfold shAll
    rw [h x (List.mem_cons_self ..), shAll_map l fun y hy => h y (List.mem_cons_of_mem _ hy)]
    rfl
theorem sh_r (r : Rat) (n : Nat) : sh (rD r) (n + 1) = true := by
  unfold rD
  simp [sh, shAll]
theorem sh_rs (l : List Rat) (n : Nat) : sh (rsD l) (n + 2) = true := by
  unfold rsD
  simp only [sh, Nat.add_one_sub_one, Nat.zero_lt_succ, decide_true, Bool.true_and]
  exact shAll_map l fun r _ => sh_r r n
theorem rat_ext {r s : Rat} (h : r.num = s.num) (k : r.den = s.den) : r = s := Rat.ext h k
theorem eqv_r (r s : Rat) : eqv (rD r) (rD s) = decide (r = s) := by
  unfold rD
  simp only [eqv, eqvAll, Bool.and_true]
  by_cases h : r = s
  · subst h; simp
  · rw [decide_eq_false h]
    by_cases h1 : r.num = s.num
    · have h2 : r.den ≠ s.den := fun k => h (rat_ext h1 k)
      rw [h1]
      simp only [beq_self_eq_true, Bool.true_and]
      exact beq_eq_false_iff_ne.mpr (by omega)
    · simp [h1]
theorem eqv_rs : ∀ (l m : List Rat), eqvAll (l.map rD) (m.map rD) = decide (l = m)
  | [], [] => rfl
  | [], _ :: _ => by simp [eqvAll]
  | _ :: _, [] => by simp [eqvAll]
  | r :: l, s :: m => by
    simp only [List.map_cons, eqvAll, eqv_r, eqv_rs l m, List.cons.injEq, Bool.decide_and]
theorem eq_r (r s : Rat) : eqD (rD r) (rD s) = some (decide (r = s)) := by
  unfold eqD
  rw [sh_r, sh_r, eqv_r]
  simp
theorem ne_r (r s : Rat) : neD (rD r) (rD s) = some (!decide (r = s)) := by
  unfold neD; rw [eq_r]; rfl
theorem eq_rs (l m : List Rat) : eqD (rsD l) (rsD m) = some (decide (l = m)) := by
  unfold eqD
  rw [sh_rs l 58, sh_rs m 58]
  show (if _ then some (eqvAll (l.map rD) (m.map rD)) else none) = _
  rw [eqv_rs]
  simp
theorem ne_rs (l m : List Rat) : neD (rsD l) (rsD m) = some (!decide (l = m)) := by
  unfold neD; rw [eq_rs]; rfl
/-- sizes -/
theorem log2_lt {i : Int} {n : Nat} (h : i.natAbs < 2 ^ n) : UbP.log2 i ≤ n := by
  unfold UbP.log2
  by_cases h0 : i.natAbs = 0
  · rw [h0]; simp
  · have := (Nat.log2_lt h0).mpr h
    omega
theorem mul_ok {i j : Int} {a b : Nat} (ha : i.natAbs < 2 ^ a) (hb : j.natAbs < 2 ^ b) (h : a + b < 900000) : (smI i || smI j || decide (UbP.log2 i + UbP.log2 j < 900000)) = true := by
  have h1 := log2_lt ha
  have h2 := log2_lt hb
  rw [decide_eq_true (show UbP.log2 i + UbP.log2 j < 900000 by omega), Bool.or_true]
theorem mul_sm2 {i j : Int} (h : j.natAbs < 2 ^ 64) : (smI i || smI j || decide (UbP.log2 i + UbP.log2 j < 900000)) = true := by
  unfold smI
  rw [decide_eq_true h, Bool.or_true]; rfl
theorem log2_9 {i : Int} {n : Nat} (h : i.natAbs < 2 ^ n) (hn : n < 9000) : UbP.log2 i < 9000 := Nat.lt_of_le_of_lt (log2_lt h) hn
theorem ints0 (n : Nat) : intsL 0 n = (List.range n).map fun k => .int (k : Nat) := by
  unfold intsL
  congr
  funext k
  rw [Int.zero_add]
/-- a loop without memory: comprehension whose elements leave all as it was -/
theorem lc_map {α : Type} {tg : Tg} {c : M Bool} {x : M Vw} {vs : List Nat} {g : α → D} {xs : List α} {e : Env} {k : Kwt (List D)} {q : Kwe} (F : α → D) (hl : xs.length ≤ LIM)
    (hs : ∀ y, y ∈ xs → @st (Option D) (lcStep tg c x vs (g y) e) ⟨fun o e' => o = some (F y) ∧ e' = e⟩ ⟨fun _ _ => False⟩) (he : k.P (xs.map F) e) : @st (List D) (lcGo tg c x vs (xs.map g) [] e) k q := by
  with_unfolding_all
    refine sat_lcGo hl (fun pre acc e' => acc = pre.map F ∧ e' = e) ⟨rfl, rfl⟩ (fun pre y post acc e' hx ⟨ha, he'⟩ => ?_) (fun acc e' ⟨ha, he'⟩ => ?_)
    · subst ha
      subst he'
      refine sat_mono (hs y (by rw [hx]; simp)) (fun o e2 ⟨h1, h2⟩ => ?_) (fun _ _ z => z)
      subst h1
      subst h2
      exact ⟨by simp, rfl⟩
    · subst ha
      subst he'
      exact he
theorem gx_any {α : Type} {tg : Tg} {x : M Vw} {vs : List Nat} {g : α → D} {xs : List α} {e : Env} {k : Kwt Bool} {q : Kwe} (f : α → Bool)
    (hs : ∀ y, y ∈ xs → @st Bool (gxStep tg x vs (g y) e) ⟨fun b e' => b = f y ∧ e' = e⟩ ⟨fun _ _ => False⟩) (he : k.P (xs.any f) e) : @st Bool (gxGo true tg x vs (xs.map g) e) k q := by with_unfolding_all exact sat_gxGo f hs he
theorem for_inv {α : Type} {tg : Tg} {b : M Fl} {g : α → D} {e : Env} {xs : List α} {k : Kwt Fl} {q : Kwe} (I : List α → Env → Prop) (h0 : I [] e)
    (hs : ∀ pre x post e, xs = pre ++ x :: post → I pre e → @st Fl (turn tg (g x) b e) ⟨goOn (I (pre ++ [x])) k.P⟩ q) (he : ∀ e, I xs e → k.P .nx e) : @st Fl (forL tg b (xs.map g) e) k q := by with_unfolding_all exact sat_forL I h0 hs he
theorem lc_inv {α : Type} {tg : Tg} {c : M Bool} {x : M Vw} {vs : List Nat} {g : α → D} {xs : List α} {e : Env} {k : Kwt (List D)} {q : Kwe} (hl : xs.length ≤ LIM) (I : List α → List D → Env → Prop) (h0 : I [] [] e)
    (hs : ∀ pre y post acc e, xs = pre ++ y :: post → I pre acc e → @st (Option D) (lcStep tg c x vs (g y) e) ⟨fun o e' => I (pre ++ [y]) (acc ++ o.toList) e'⟩ ⟨fun _ _ => False⟩) (he : ∀ acc e, I xs acc e → k.P acc e) : @st (List D) (lcGo tg c x vs (xs.map g) [] e) k q := by with_unfolding_all exact sat_lcGo hl I h0 hs he
theorem st_mono {α : Type} {r : Res α} {c c' : Kwt α} {q q' : Kwe} (h : @st α r c q) (i : ∀ a e, c.P a e → c'.P a e) (j : ∀ x e, q.E x e → q'.E x e) : @st α r c' q' := by with_unfolding_all exact sat_mono h i j
theorem whl_inv {t : M Bool} {b : M Fl} {k : Kwt Fl} {q : Kwe} {e : Env} {n : Nat} (I : Env → Prop) (μ : Env → Nat) (h0 : I e) (hn : μ e < n)
    (hs : ∀ e, I e → @st Bool (t e) ⟨fun r e1 => (r = true → @st Fl (b e1) ⟨goOn (fun e2 => I e2 ∧ μ e2 < μ e) k.P⟩ q) ∧ (r = false → k.P .nx e1)⟩ q) : @st Fl (whl t b n e) k q := by with_unfolding_all exact sat_whl I μ hs n e h0 hn
def jk : Option D → Sl
  | none => .no
  | some d => .dat d
def putOk : Sl → Bool
  | .no => true
  | .dat _ => true
  | .own _ => true
  | _ => false
theorem putOk_no : putOk .no = true := rfl
theorem putOk_dat (d : D) : putOk (.dat d) = true := rfl
theorem putOk_own (d : Ct) : putOk (.own d) = true := rfl
theorem putOk_jk (d : Option D) : putOk (jk d) = true := by cases d <;> rfl
theorem isDat_jk (d : Option D) : isDat (jk d) = true := by cases d <;> rfl
theorem isDat_no : isDat .no = true := rfl
theorem isDat_dat (d : D) : isDat (.dat d) = true := rfl
theorem putN_eq (i : Nat) (d : D) (e : Env) : putN i d e = match e[i]? with | some s => (if putOk s = true then some (e.set i (.dat d)) else none) | none => none := by
  unfold putN
  cases e[i]? with
  | none => rfl
  | some s => cases s <;> rfl
theorem st_ownP {e : Env} {cf : Kwt Fl} {q : Kwe} {i : Nat} {k : Ct} : @st Fl (ownN i k e) cf q = match e[i]? with | some s => (putOk s = true ∧ cf.P .nx (e.set i (.own k))) | none => False := by
  rw [st_ownN]
  cases e[i]? with
  | none => rfl
  | some s => cases s <;> simp [putOk]
theorem pars_jk (d : Option D) (e : Env) : pars (jk d :: e) = pars e := by cases d <;> rfl
theorem pars_no (e : Env) : pars (.no :: e) = pars e := rfl
theorem pars_dat (d : D) (e : Env) : pars (.dat d :: e) = pars e := rfl
theorem pars_own (d : Ct) (e : Env) : pars (.own d :: e) = pars e := rfl
theorem pars_par (d : Ct) (e : Env) : pars (.par d :: e) = d :: pars e := rfl
theorem pars_nilW : pars [] = [] := rfl
def exF1 : Sl → Bool
  | .ex _ => false
  | _ => true
theorem exFree_nil : exFree [] = true := rfl
theorem exFree_cons (s : Sl) (e : Env) : exFree (s :: e) = (exF1 s && exFree e) := by
  unfold exFree
  rw [List.all_cons]
  cases s <;> rfl
theorem exF1_no : exF1 .no = true := rfl
theorem exF1_dat (d : D) : exF1 (.dat d) = true := rfl
theorem exF1_own (d : Ct) : exF1 (.own d) = true := rfl
theorem exF1_par (d : Ct) : exF1 (.par d) = true := rfl
theorem exF1_jk (d : Option D) : exF1 (jk d) = true := by cases d <;> rfl
theorem lim_le {n : Nat} (h : n ≤ 1000000) : n ≤ LIM := h
theorem fsat_out {r : FRes} {R : Vw → List Ct → Prop} (h : fsat r R fun _ _ => False) : ∃ w cs, r = .ret w cs ∧ R w cs := by
  with_unfolding_all
    cases r with
    | ret w cs => exact ⟨w, cs, rfl, h⟩
    | exc x cs => exact h.elim
    | bad => exact h.elim
theorem getD_ok {α : Type} {l : List α} {k : Nat} {d : α} (h : k < l.length) : l[k]? = some (l.getD k d) := by
  rw [List.getD_eq_getElem?_getD, List.getElem?_eq_getElem h]; rfl
theorem wk_lst (ds : List D) : walkD (.lst ds) = some ds := rfl
theorem ls_lst (ds : List D) : listD (.lst ds) = some (.f (.l ds)) := rfl
theorem tr_lst (ds : List D) : tru (.lst ds) = some (!ds.isEmpty) := rfl
theorem tp_lst (ds : List D) : tupD (.lst ds) = some (.d (.tup ds)) := rfl
theorem rv_lst (ds : List D) : revD (.lst ds) = some (.f (.l ds.reverse)) := rfl
theorem sl_lst (ds : List D) (l h : Option Int) : slD l h (.lst ds) = some (.f (.l (cut ds l h))) := rfl
theorem wk_lsf (ds : List D) : walkD (.lsf ds) = some ds := rfl
theorem ls_lsf (ds : List D) : listD (.lsf ds) = some (.f (.l ds)) := rfl
theorem tr_lsf (ds : List D) : tru (.lsf ds) = some (!ds.isEmpty) := rfl
theorem rv_lsf (ds : List D) : revD (.lsf ds) = some (.f (.l ds.reverse)) := rfl
theorem sl_lsf (ds : List D) (l h : Option Int) : slD l h (.lsf ds) = some (.f (.l (cut ds l h))) := rfl
theorem wk_tup (ds : List D) : walkD (.tup ds) = some ds := rfl
theorem ls_tup (ds : List D) : listD (.tup ds) = some (.f (.l ds)) := rfl
theorem tr_tup (ds : List D) : tru (.tup ds) = some (!ds.isEmpty) := rfl
theorem tp_tup (ds : List D) : tupD (.tup ds) = some (.d (.tup ds)) := rfl
theorem lo_lst (ds : List D) : UbP.listOf (.lst ds) = some ds := rfl
theorem tr_non  : tru .non = some false := rfl
theorem tr_bl (b : Bool) : tru (.bl b) = some b := rfl
theorem tr_int (b : Int) : tru (.int b) = some (b != 0) := rfl
theorem tr_r (b : Rat) : tru (rD b) = some true := rfl
theorem ii_non_int  : isiD "int" (.non) = some (.d (.bl false)) := rfl
theorem ii_non_bool  : isiD "bool" (.non) = some (.d (.bl false)) := rfl
theorem ii_non_str  : isiD "str" (.non) = some (.d (.bl false)) := rfl
theorem ii_non_list  : isiD "list" (.non) = some (.d (.bl false)) := rfl
theorem ii_non_tuple  : isiD "tuple" (.non) = some (.d (.bl false)) := rfl
theorem nn_non  : isNoD (.non) .non = some true := rfl
theorem nt_non  : notNoD (.non) .non = some false := rfl
theorem ii_bl_int (b : Bool) : isiD "int" (.bl b) = some (.d (.bl true)) := rfl
theorem ii_bl_bool (b : Bool) : isiD "bool" (.bl b) = some (.d (.bl true)) := rfl
theorem ii_bl_str (b : Bool) : isiD "str" (.bl b) = some (.d (.bl false)) := rfl
theorem ii_bl_list (b : Bool) : isiD "list" (.bl b) = some (.d (.bl false)) := rfl
theorem ii_bl_tuple (b : Bool) : isiD "tuple" (.bl b) = some (.d (.bl false)) := rfl
theorem nn_bl (b : Bool) : isNoD (.bl b) .non = some false := rfl
theorem nt_bl (b : Bool) : notNoD (.bl b) .non = some true := rfl
theorem ii_int_int (b : Int) : isiD "int" (.int b) = some (.d (.bl true)) := rfl
theorem ii_int_bool (b : Int) : isiD "bool" (.int b) = some (.d (.bl false)) := rfl
theorem ii_int_str (b : Int) : isiD "str" (.int b) = some (.d (.bl false)) := rfl
theorem ii_int_list (b : Int) : isiD "list" (.int b) = some (.d (.bl false)) := rfl
theorem ii_int_tuple (b : Int) : isiD "tuple" (.int b) = some (.d (.bl false)) := rfl
theorem nn_int (b : Int) : isNoD (.int b) .non = some false := rfl
theorem nt_int (b : Int) : notNoD (.int b) .non = some true := rfl
theorem ii_str_int (b : Str) : isiD "int" (.str b) = some (.d (.bl false)) := rfl
theorem ii_str_bool (b : Str) : isiD "bool" (.str b) = some (.d (.bl false)) := rfl
theorem ii_str_str (b : Str) : isiD "str" (.str b) = some (.d (.bl true)) := rfl
theorem ii_str_list (b : Str) : isiD "list" (.str b) = some (.d (.bl false)) := rfl
theorem ii_str_tuple (b : Str) : isiD "tuple" (.str b) = some (.d (.bl false)) := rfl
theorem nn_str (b : Str) : isNoD (.str b) .non = some false := rfl
theorem nt_str (b : Str) : notNoD (.str b) .non = some true := rfl
theorem ii_lst_int (b : List D) : isiD "int" (.lst b) = some (.d (.bl false)) := rfl
theorem ii_lst_bool (b : List D) : isiD "bool" (.lst b) = some (.d (.bl false)) := rfl
theorem ii_lst_str (b : List D) : isiD "str" (.lst b) = some (.d (.bl false)) := rfl
theorem ii_lst_list (b : List D) : isiD "list" (.lst b) = some (.d (.bl true)) := rfl
theorem ii_lst_tuple (b : List D) : isiD "tuple" (.lst b) = some (.d (.bl false)) := rfl
theorem nn_lst (b : List D) : isNoD (.lst b) .non = some false := rfl
theorem nt_lst (b : List D) : notNoD (.lst b) .non = some true := rfl
theorem ii_tup_int (b : List D) : isiD "int" (.tup b) = some (.d (.bl false)) := rfl
theorem ii_tup_bool (b : List D) : isiD "bool" (.tup b) = some (.d (.bl false)) := rfl
theorem ii_tup_str (b : List D) : isiD "str" (.tup b) = some (.d (.bl false)) := rfl
theorem ii_tup_list (b : List D) : isiD "list" (.tup b) = some (.d (.bl false)) := rfl
theorem ii_tup_tuple (b : List D) : isiD "tuple" (.tup b) = some (.d (.bl true)) := rfl
theorem nn_tup (b : List D) : isNoD (.tup b) .non = some false := rfl
theorem nt_tup (b : List D) : notNoD (.tup b) .non = some true := rfl
theorem ii_r_int (b : Rat) : isiD "int" (rD b) = some (.d (.bl false)) := rfl
theorem ii_r_bool (b : Rat) : isiD "bool" (rD b) = some (.d (.bl false)) := rfl
theorem ii_r_str (b : Rat) : isiD "str" (rD b) = some (.d (.bl false)) := rfl
theorem ii_r_list (b : Rat) : isiD "list" (rD b) = some (.d (.bl false)) := rfl
theorem ii_r_tuple (b : Rat) : isiD "tuple" (rD b) = some (.d (.bl true)) := rfl
theorem nn_r (b : Rat) : isNoD (rD b) .non = some false := rfl
theorem nt_r (b : Rat) : notNoD (rD b) .non = some true := rfl
theorem nn_bb (a b : Bool) : isNoD (.bl a) (.bl b) = some (decide (a = b)) := rfl
theorem nt_bb (a b : Bool) : notNoD (.bl a) (.bl b) = some (!decide (a = b)) := rfl
theorem op_add (a b : Int) : addD (.int a) (.int b) = some (.d (.int (a + b))) := rfl
theorem op_sub (a b : Int) : subD (.int a) (.int b) = some (.d (.int (a - b))) := rfl
theorem op_mul (a b : Int) : mulD (.int a) (.int b) = if smI a || smI b || decide (UbP.log2 a + UbP.log2 b < 900000) then some (.d (.int (a * b))) else none := rfl
theorem op_fdv (a b : Int) : fdivD (.int a) (.int b) = if b ≠ 0 ∧ UbP.log2 b < 9000 then some (.d (.int (a.fdiv b))) else none := rfl
theorem op_mod (a b : Int) : modD (.int a) (.int b) = if b ≠ 0 then some (.d (.int (a.fmod b))) else none := rfl
theorem op_pow (a b : Int) : powD (.int a) (.int b) = if 0 ≤ b ∧ b ≤ 100000 ∧ a.natAbs < 2 ^ 64 then some (.d (.int (a ^ b.toNat))) else none := rfl
theorem op_gcd (a b : Int) : gcdD (.int a) (.int b) = some (.d (.int (Nat.gcd a.natAbs b.natAbs : Nat))) := rfl
theorem op_lcm (a b : Int) : lcmD (.int a) (.int b) = if UbP.log2 a < 9000 ∧ UbP.log2 b < 9000 then some (.d (.int (Nat.lcm a.natAbs b.natAbs : Nat))) else none := rfl
theorem op_min (a b : Int) : minD (.int a) (.int b) = some (.d (.int (if b < a then b else a))) := rfl
theorem op_max (a b : Int) : maxD (.int a) (.int b) = some (.d (.int (if b > a then b else a))) := rfl
theorem op_lt (a b : Int) : ltD (.int a) (.int b) = some (decide (a < b)) := rfl
theorem op_le (a b : Int) : leD (.int a) (.int b) = some (decide (a ≤ b)) := rfl
theorem op_gt (a b : Int) : gtD (.int a) (.int b) = some (decide (b < a)) := rfl
theorem op_ge (a b : Int) : geD (.int a) (.int b) = some (decide (b ≤ a)) := rfl
theorem op_adds (a b : Str) : addD (.str a) (.str b) = if a.length + b.length ≤ LIM then some (.d (.str (a ++ b))) else none := rfl
theorem op_addl (a b : List D) : addD (.lst a) (.lst b) = if a.length + b.length ≤ LIM then some (.f (.l (a ++ b))) else none := rfl
theorem op_mull (a : List D) (b : Int) : mulD (.lst a) (.int b) = if b < 1000000 ∧ a.length * b.toNat ≤ LIM ∧ -1000000 < b then some (.f (.l (UbP.rep a b.toNat))) else none := rfl
theorem op_neg (a : Int) : negD (.int a) = some (.d (.int (-a))) := rfl
theorem op_abs (a : Int) : absD (.int a) = some (.d (.int (if a < 0 then -a else a))) := rfl
theorem op_int (a : Int) : intD (.int a) = some (.d (.int a)) := rfl
theorem op_intb (a : Bool) : intD (.bl a) = some (.d (.int (if a then 1 else 0))) := rfl
theorem vw_stay_d (d : D) : (Vw.d d).stay = some d := rfl
theorem vw_stay_f (c : Ct) : (Vw.f c).stay = some c.toD := rfl
theorem vw_stay_o (i : Nat) : (Vw.o i).stay = none := rfl
theorem vw_now_d (d : D) (e : Env) : (Vw.d d).now e = some d := rfl
theorem vw_now_f (c : Ct) (e : Env) : (Vw.f c).now e = some c.toD := rfl
theorem vw_now_o (i : Nat) (e : Env) : (Vw.o i).now e = (getO i e).map Ct.toD := rfl
theorem vw_dull_d (d : D) : (Vw.d d).dull = .d d := rfl
theorem vw_dull_f (c : Ct) : (Vw.f c).dull = .d c.toD := rfl
theorem vw_dull_o (i : Nat) : (Vw.o i).dull = .o i := rfl
theorem vw_new_f (c : Ct) : newC (.f c) = some c := rfl
theorem vw_view_d (d : D) : viewI (.d d) = none := rfl
theorem vw_view_f (c : Ct) : viewI (.f c) = none := rfl
theorem vw_view_o (i : Nat) : viewI (.o i) = some i := rfl
theorem vw_noL_d (d : D) : Vw.noL (.d d) = UbP.noL d := rfl
theorem vw_noL_f (c : Ct) : Vw.noL (.f c) = false := rfl
theorem toD_l (ds : List D) : Ct.toD (.l ds) = .lst ds := rfl
theorem toD_o (c : Str) (fs : List (Str × D)) : Ct.toD (.o c fs) = .obj c fs := rfl
end UbP
namespace UbM
def sumN (n : Nat) (f : Nat → Rat) : Rat := match n with
  | 0 => 0
  | k + 1 => sumN k f + f k
theorem sumN_congr {n : Nat} {f g : Nat → Rat} (h : ∀ i, i < n → f i = g i) : sumN n f = sumN n g := by
  induction n with
  | zero => rfl
  | succ n ih =>
    unfold sumN
    rw [ih fun i hi => h i (by omega), h n (by omega)]
theorem sumN_z {n : Nat} {f : Nat → Rat} (h : ∀ i, i < n → f i = 0) : sumN n f = 0 := by
  induction n with
  | zero => rfl
  | succ n ih =>
    unfold sumN
    rw [ih fun i hi => h i (by omega), h n (by omega), Rat.add_zero]
theorem sumN_add (n : Nat) (f g : Nat → Rat) : sumN n (fun i => f i + g i) = sumN n f + sumN n g := by
  induction n with
  | zero => unfold sumN; rw [Rat.add_zero]
  | succ n ih =>
    unfold sumN
    rw [ih]
    grind
theorem sumN_mul (n : Nat) (a : Rat) (f : Nat → Rat) : sumN n (fun i => a * f i) = a * sumN n f := by
  induction n with
  | zero => unfold sumN; grind
  | succ n ih =>
    unfold sumN
    rw [ih]
    grind
theorem sumN_lin (n : Nat) (a b : Rat) (f g : Nat → Rat) : sumN n (fun i => a * f i + b * g i) = a * sumN n f + b * sumN n g := by
  rw [sumN_add, sumN_mul, sumN_mul]
theorem sumN_one {n i : Nat} {f : Nat → Rat} (hi : i < n) (h : ∀ j, j < n → j ≠ i → f j = 0) : sumN n f = f i := by
  induction n with
  | zero => omega
  | succ n ih =>
    unfold sumN
    by_cases e : i = n
    · subst e
      rw [sumN_z fun j hj => h j (by omega) (by omega)]
      grind
    · rw [ih (by omega) fun j hj => h j (by omega), h n (by omega) (by omega)]
      grind
theorem sumN_more {n m : Nat} {f : Nat → Rat} (hm : n ≤ m) (h : ∀ j, n ≤ j → f j = 0) : sumN m f = sumN n f := by
  induction m with
  | zero =>
    have : n = 0 := by omega
    rw [this]
  | succ m ih =>
    by_cases e : n = m + 1
    · rw [e]
    · show sumN m f + f m = _
      rw [ih (by omega), h m (by omega), Rat.add_zero]
def sumR (l : List Rat) : Rat := l.foldl (· + ·) 0
theorem sumR_snoc (l : List Rat) (x : Rat) : sumR (l ++ [x]) = sumR l + x := by
  unfold sumR
  rw [List.foldl_append]
  rfl
theorem bd_sum {l : List Rat} {n : Nat} (h : ∀ x ∈ l, Bd n x) : Bd (l.length * (n + 1) + 1) (sumR l) := by
  have go : ∀ (p : List Rat) (k : Nat), (∀ x ∈ p, Bd n x) → k ≤ p.length → Bd (k * (n + 1) + 1) (sumR (p.take k)) := by
    intro p k
    induction k with
    | zero => intro _ _; rw [List.take_zero, Nat.zero_mul]; exact ⟨by decide +kernel, by decide +kernel⟩
    | succ k ih =>
      intro hp hk
      rw [List.take_succ_eq_append_getElem (by omega), sumR_snoc]
      refine (bd_add (ih hp (by omega)) (hp _ (List.getElem_mem (by omega)))).mono ?_
      rw [Nat.succ_mul]
      omega
  have := go l l.length h (Nat.le_refl _)
  rwa [List.take_length] at this
theorem mem_zipWith {α β γ : Type} {f : α → β → γ} : ∀ {a : List α} {b : List β} {z : γ}, z ∈ List.zipWith f a b → ∃ x ∈ a, ∃ y ∈ b, z = f x y
  | [], _, _, h => by simp at h
  | _ :: _, [], _, h => by simp at h
  | x :: a, y :: b, z, h => by
    rw [List.zipWith_cons_cons] at h
    rcases List.mem_cons.mp h with h | h
    · exact ⟨x, List.mem_cons_self .., y, List.mem_cons_self .., h⟩
    · obtain ⟨u, hu, v, hv, e⟩ := mem_zipWith h
      exact ⟨u, List.mem_cons_of_mem _ hu, v, List.mem_cons_of_mem _ hv, e⟩
def Fx (d B : Nat) (x : Rat) : Prop := 0 < d ∧ ∃ N : Int, x = Rat.divInt N d ∧ N.natAbs ≤ B
theorem Fx.mono {d B C : Nat} {x : Rat} (h : Fx d B x) (k : B ≤ C) : Fx d C x := ⟨h.1, by
  obtain ⟨N, e, hN⟩ := h.2
  exact ⟨N, e, by omega⟩⟩
theorem Fx.bd {d B n : Nat} {x : Rat} (h : Fx d B x) (h1 : d < 2 ^ n) (h2 : B < 2 ^ n) : Bd n x := by
  obtain ⟨h0, N, rfl, hN⟩ := h
  exact bd_divInt (by omega) (by omega) (by omega)
theorem Fx.mul {d B e C : Nat} {x y : Rat} (h : Fx d B x) (k : Fx e C y) : Fx (d * e) (B * C) (x * y) := by
  obtain ⟨h0, N, rfl, hN⟩ := h
  obtain ⟨k0, M, rfl, hM⟩ := k
  refine ⟨Nat.mul_pos h0 k0, N * M, ?_, ?_⟩
  · rw [Rat.divInt_mul_divInt, Int.natCast_mul]
  · rw [Int.natAbs_mul]
    exact Nat.mul_le_mul hN hM
theorem Fx.add {d B C : Nat} {x y : Rat} (h : Fx d B x) (k : Fx d C y) : Fx d (B + C) (x + y) := by
  obtain ⟨h0, N, rfl, hN⟩ := h
  obtain ⟨_, M, rfl, hM⟩ := k
  refine ⟨h0, N + M, ?_, by omega⟩
  have hd : (d : Int) ≠ 0 := by omega
  rw [Rat.divInt_add_divInt _ _ hd hd, ← Int.add_mul, Rat.divInt_mul_right hd]
theorem Fx.up {d B k : Nat} {x : Rat} (h : Fx d B x) (hk : 0 < k) : Fx (d * k) (B * k) x := by
  obtain ⟨h0, N, rfl, hN⟩ := h
  refine ⟨Nat.mul_pos h0 hk, N * k, ?_, ?_⟩
  · rw [Int.natCast_mul, Rat.divInt_mul_right (by omega)]
  · rw [Int.natAbs_mul, Int.natAbs_natCast]
    exact Nat.mul_le_mul_right _ hN
theorem fx_zero {d : Nat} (h : 0 < d) (B : Nat) : Fx d B 0 := ⟨h, 0, by rw [Rat.zero_divInt], by simp⟩
theorem fx_sum {l : List Rat} {d B : Nat} (hd : 0 < d) (h : ∀ x ∈ l, Fx d B x) : Fx d (l.length * B) (sumR l) := by
  have go : ∀ (p : List Rat) (k : Nat), (∀ x ∈ p, Fx d B x) → k ≤ p.length → Fx d (k * B) (sumR (p.take k)) := by
    intro p k
    induction k with
    | zero => intro _ _; rw [List.take_zero]; exact fx_zero hd _
    | succ k ih =>
      intro hp hk
      rw [List.take_succ_eq_append_getElem (by omega), sumR_snoc, Nat.succ_mul]
      exact (ih hp (by omega)).add (hp _ (List.getElem_mem (by omega)))
  have := go l l.length h (Nat.le_refl _)
  rwa [List.take_length] at this
def Fk (k : Nat) (x : Rat) : Prop := Fx (12 ^ k) (48 ^ k) x
theorem Fk.succ {k : Nat} {x : Rat} (h : Fk k x) : Fk (k + 1) x := by
  unfold Fk
  rw [Nat.pow_succ, Nat.pow_succ]
  exact (Fx.up h (by decide)).mono (Nat.mul_le_mul_left _ (by decide))
theorem Fk.mono {k n : Nat} {x : Rat} (h : Fk k x) (hn : k ≤ n) : Fk n x := by
  obtain ⟨d, rfl⟩ := Nat.exists_eq_add_of_le hn
  induction d with
  | zero => exact h
  | succ d ih => exact Fk.succ (ih (by omega))
theorem Fk.bd {a n : Nat} {x : Rat} (h : Fk a x) (h2 : 48 ^ a < 2 ^ n) : Bd n x := Fx.bd h (Nat.lt_of_le_of_lt (Nat.pow_le_pow_left (by decide) a) h2) h2
end UbM
namespace UbP
open PySem UbM
section
variable {e : Env} {a b d : M Vw} {c : Kwt Vw} {q : Kwe}
theorem st_eChn {f g : D → D → Option Bool} : @st Vw (eChn f g a b d e) c q = @st Bool (tCh f g a b d e) ⟨fun k e => c.P (.d (.bl k)) e⟩ q := by
  unfold eChn
  rw [st_bnd]
  have : (fun (k : Bool) (e' : Env) => @st Vw (ret (Vw.d (D.bl k)) e') c q) = fun k e => c.P (.d (.bl k)) e := by
    funext k e'
    exact st_ret
  rw [this]
theorem st_eIdx : @st Vw (eIdx a b e) c q = @st Vw (a e) ⟨fun w e => @st D (nowM w e) ⟨fun d0 e => isLst d0 = true ∧ @st Vw (b e) ⟨fun u e => @st D (nowM w e) ⟨fun d e => @st D (nowM u e) ⟨fun k e => @st Vw (optM (idxD d k) e) c q⟩ q⟩ q⟩ q⟩ q⟩ q := by
  unfold eIdx
  rw [st_bnd]; congr; funext w e1
  rw [st_bnd]; congr; funext d0 e2
  by_cases h : isLst d0 = true
  · rw [if_pos h, h, st_bnd]
    have : (fun (u : Vw) (e : Env) => @st Vw (bnd (nowM w) (fun d => bnd (nowM u) fun c => optM (idxD d c)) e) c q) = fun u e => @st D (nowM w e) ⟨fun d e => @st D (nowM u e) ⟨fun k e => @st Vw (optM (idxD d k) e) c q⟩ q⟩ q := by
      funext u e3
      rw [st_bnd]; congr; funext d e4
      rw [st_bnd]
    rw [this]
    exact propext ⟨fun z => ⟨rfl, z⟩, fun z => z.2⟩
  · rw [if_neg h]
    apply propext
    constructor
    · intro z; rw [st_optN] at z; exact z.elim
    · intro z; exact absurd z.1 h
theorem isL_l (ds : List D) : isLst (.lst ds) = true := rfl
theorem st_ePopA : @st Vw (ePopA a b e) c q = @st Nat (recv a e) ⟨fun i e => @st Vw (b e) ⟨fun u e => @st D (nowM u e) ⟨fun n e => @st (List D) (ownL i e) ⟨fun ds e => match n with
    | .int k => match ixI ds.length k with | some j => @st D (optM ds[j]? e) ⟨fun d e => ds.length < LIM ∧ c.P (.d d) (setO i (.l (ds.eraseIdx j)) e)⟩ q | none => False
    | _ => False⟩ q⟩ q⟩ q⟩ q := by
  unfold ePopA
  rw [st_bnd]; congr; funext i e1
  rw [st_bnd]; congr; funext u e2
  rw [st_bnd]; congr; funext n e3
  rw [st_bnd]; congr; funext ds e4
  cases n with
  | int k =>
    dsimp only
    cases ixI ds.length k with
    | none => exact st_optN
    | some j =>
      dsimp only
      rw [st_bnd]; congr; funext d e5
      by_cases h : ds.length < LIM
      · rw [if_pos h]
        apply propext
        constructor
        · intro z; exact ⟨h, by with_unfolding_all exact z⟩
        · intro z; with_unfolding_all exact z.2
      · rw [if_neg h]
        apply propext
        constructor
        · intro z; rw [st_optN] at z; exact z.elim
        · intro z; exact absurd z.1 h
  | _ => exact st_optN
theorem st_eEf {i : Nat} {low : List Str} {f : Str} : @st Vw (eEf i low f e) c q = match e[i]? with
    | some (.ex x) => match (if low.contains x.cls then x.fs.lookup f else none) with | some d => c.P (.d d) e | none => False
    | _ => False := by
  with_unfolding_all
      unfold eEf
      cases e[i]? with
      | none => rfl
      | some s =>
        cases s with
        | ex x =>
          dsimp only
          cases (if low.contains x.cls then x.fs.lookup f else none) <;> rfl
        | _ => rfl
theorem st_eIsE {i : Nat} {ok : Str → Option Bool} : @st Vw (eIsE i ok e) c q = match e[i]? with
    | some (.ex x) => match ok x.cls with | some k => c.P (.d (.bl k)) e | none => False
    | _ => False := by
  with_unfolding_all
      unfold eIsE
      cases e[i]? with
      | none => rfl
      | some s =>
        cases s with
        | ex x =>
          dsimp only
          cases ok x.cls <;> rfl
        | _ => rfl
theorem st_eLc2 {it it1 : M (List D)} {tg tg1 : Tg} {t1 : M Bool} {x : M Vw} {vs vs1 : List Nat} : @st Vw (eLc2 it tg it1 tg1 t1 x vs vs1 e) c q = @st (List D) (it e) ⟨fun ds e => freeAt e vs = true ∧ @st (List D) (lc2Go tg it1 tg1 t1 x vs vs1 ds [] (wipeE e vs)) ⟨fun ys e' => c.P (.f (.l ys)) (backE e e' vs)⟩ ⟨fun _ _ => False⟩⟩ q := by
  with_unfolding_all
      unfold eLc2
      rw [st_bnd]
      congr
      funext ds e1
      by_cases h : freeAt e1 vs = true
      · rw [h]
        show sat (match lc2Go tg it1 tg1 t1 x vs vs1 ds [] (wipeE e1 vs) with | .ok ys e' => _ | _ => _) _ _ = _
        cases lc2Go tg it1 tg1 t1 x vs vs1 ds [] (wipeE e1 vs) with
        | ok ys e' => simp [st, sat]
        | exc x e' => simp [st, sat]
        | bad => simp [st, sat]
      · have h' : freeAt e1 vs = false := by simpa using h
        rw [h']
        simp [st, sat]
end
theorem add_t (a b : List D) : addD (.tup a) (.tup b) = if a.length + b.length ≤ LIM then some (.d (.tup (a ++ b))) else none := rfl
theorem sl_t (ds : List D) (l h : Option Int) : slD l h (.tup ds) = some (.d (.tup (cut ds l h))) := rfl
theorem sl_s (x : Str) (l h : Option Int) : slD l h (.str x) = if x.length ≤ LIM then some (.d (.str (cutT x l h))) else none := rfl
theorem wk_str (x : Str) : walkD (.str x) = some (signsD x) := rfl
theorem in_sgn (c : Nat) (z : Str) : inD (.str (sgn c)) (.str z) = some (decide (c ∈ z.cps.toList)) := rfl
theorem ints_of (ns : List Int) : intsOf (ns.map .int) = some ns := by
  induction ns with
  | nil => rfl
  | cons n ns ih =>
    show (intsOf (ns.map .int)).map (n :: ·) = _
    rw [ih]; rfl
end UbP
namespace UbP
open PySem UbM
end UbP
namespace UbP
theorem nc0 : ((0 : Nat) : Int) = 0 := rfl
theorem nc1 : ((1 : Nat) : Int) = 1 := rfl
theorem nc2 : ((2 : Nat) : Int) = 2 := rfl
theorem nc3 : ((3 : Nat) : Int) = 3 := rfl
theorem nc4 : ((4 : Nat) : Int) = 4 := rfl
theorem nc5 : ((5 : Nat) : Int) = 5 := rfl
theorem nc6 : ((6 : Nat) : Int) = 6 := rfl
end UbP
namespace UbP
open PySem
theorem str_inj (s t : String) : (Str.ofString s = Str.ofString t) = (s = t) := by
  apply propext
  constructor
  · intro h
    rw [Str.ofString_eq_toList, Str.ofString_eq_toList] at h
    have h1 : s.toList.map Char.toNat = t.toList.map Char.toNat := by
      have := congrArg (fun x : Str => x.cps.toList) h
      simpa using this
    have inj : ∀ (a b : List Char), a.map Char.toNat = b.map Char.toNat → a = b := by
      intro a
      induction a with
      | nil => intro b h; cases b with
        | nil => rfl
        | cons c b => simp at h
      | cons c a ih => intro b h; cases b with
        | nil => simp at h
        | cons d b =>
          simp only [List.map_cons, List.cons.injEq] at h
          rw [ih b h.2]
          congr 1
          exact Char.ext (UInt32.toNat_inj.mp h.1)
    have := inj _ _ h1
    exact String.ext (by simpa using this)
  · rintro rfl; rfl
theorem so_lst (ds : List D) : seqOf (.lst ds) = some ds := rfl
theorem so_lsf (ds : List D) : seqOf (.lsf ds) = some ds := rfl
theorem so_tup (ds : List D) : seqOf (.tup ds) = some ds := rfl
end UbP
namespace UbM
abbrev at0 (l : List Int) (j : Nat) : Int := l.getD j 0
def cdL (a : Nat) (l : List Int) : Nat := l.foldl (fun g x => Nat.gcd g x.natAbs) a
theorem cdL_dvd : ∀ (l : List Int) (a : Nat), cdL a l ∣ a ∧ ∀ x ∈ l, cdL a l ∣ x.natAbs
  | [], a => ⟨Nat.dvd_refl _, fun _ h => by cases h⟩
  | x :: l, a => by
    obtain ⟨h1, h2⟩ := cdL_dvd l (Nat.gcd a x.natAbs)
    refine ⟨Nat.dvd_trans h1 (Nat.gcd_dvd_left ..), fun y hy => ?_⟩
    rcases List.mem_cons.mp hy with rfl | hy
    · exact Nat.dvd_trans h1 (Nat.gcd_dvd_right ..)
    · exact h2 y hy
def mixL (l p : List Int) (c : Nat) : List Int := List.zipWith (fun a b => (at0 p c).fdiv (Nat.gcd (at0 l c).natAbs (at0 p c).natAbs : Nat) * a - (at0 l c).fdiv (Nat.gcd (at0 l c).natAbs (at0 p c).natAbs : Nat) * b) l p
def witL (l p : List Int) (c : Nat) : List Int := if at0 l c = 0 then l else if cdL 0 (mixL l p c) < 2 then mixL l p c else (mixL l p c).map fun x => x.fdiv (cdL 0 (mixL l p c) : Nat)
theorem at0_zip (f : Int → Int → Int) (l p : List Int) (hl : l.length = p.length) (h : f 0 0 = 0) (j : Nat) : at0 (List.zipWith f l p) j = f (at0 l j) (at0 p j) := by
  unfold at0
  simp only [List.getD_eq_getElem?_getD, List.getElem?_zipWith]
  by_cases hj : j < l.length
  · rw [List.getElem?_eq_getElem hj, List.getElem?_eq_getElem (show j < p.length by omega)]; rfl
  · rw [List.getElem?_eq_none (show l.length ≤ j by omega), List.getElem?_eq_none (show p.length ≤ j by omega)]
    simp [h]
theorem at0_map (f : Int → Int) (l : List Int) (h : f 0 = 0) (j : Nat) : at0 (l.map f) j = f (at0 l j) := by
  unfold at0
  simp only [List.getD_eq_getElem?_getD, List.getElem?_map]
  cases l[j]? with
  | none => simp [h]
  | some x => rfl
theorem at0_mem {l : List Int} {j : Nat} (h : at0 l j ≠ 0) : at0 l j ∈ l := by
  unfold at0 at h ⊢
  rw [List.getD_eq_getElem?_getD] at h ⊢
  by_cases hj : j < l.length
  · rw [List.getElem?_eq_getElem hj]
    exact List.getElem_mem hj
  · rw [List.getElem?_eq_none (by omega)] at h
    exact absurd rfl h
theorem at0_bits {l : List Int} {n : Nat} (h : ∀ x ∈ l, x.natAbs < 2 ^ n) (j : Nat) : (at0 l j).natAbs < 2 ^ n := by
  by_cases hj : at0 l j = 0
  · rw [hj]; exact Nat.two_pow_pos n
  · exact h _ (at0_mem hj)
theorem fdiv_le {a : Int} {g : Nat} {n : Nat} (hg : (g : Int) ∣ a) (h : a.natAbs < 2 ^ n) : (a.fdiv g).natAbs < 2 ^ n := by
  rw [Int.fdiv_eq_ediv_of_nonneg _ (by omega), Int.natAbs_ediv_of_dvd hg]
  exact Nat.lt_of_le_of_lt (Nat.div_le_self ..) h
theorem fdiv_eq {a : Int} {g : Nat} (hg : (g : Int) ∣ a) (h : g ≠ 0) : (a.fdiv g : Rat) = (a : Rat) / (g : Rat) := by
  obtain ⟨c, rfl⟩ := hg
  rw [Int.mul_fdiv_cancel_left _ (by omega), Rat.intCast_mul]
  have : (g : Rat) ≠ 0 := by simpa using h
  rw [show (((g : Nat) : Int) : Rat) = (g : Rat) from Rat.intCast_natCast g]
  grind
theorem mixL_len {l p : List Int} {c : Nat} (hl : l.length = p.length) : (mixL l p c).length = l.length := by
  unfold mixL
  rw [List.length_zipWith]
  omega
theorem mixL_bits {l p : List Int} {c n : Nat} (h1 : ∀ x ∈ l, x.natAbs < 2 ^ n) (h2 : ∀ x ∈ p, x.natAbs < 2 ^ n) : ∀ x ∈ mixL l p c, x.natAbs < 2 ^ (2 * n + 1) := by
  intro x hx
  obtain ⟨a, ha, b, hb, rfl⟩ := mem_zipWith hx
  have e1 := fdiv_le (dvd_r (at0 l c) (at0 p c)) (at0_bits h2 c)
  have e2 := fdiv_le (dvd_l (at0 l c) (at0 p c)) (at0_bits h1 c)
  have := sub_lt (mul_lt e1 (h1 a ha)) (mul_lt e2 (h2 b hb))
  rwa [show max (n + n) (n + n) + 1 = 2 * n + 1 by omega] at this
structure WitOk (l p w : List Int) (c n : Nat) : Prop where
  len : w.length = l.length
  comb : ∃ a b : Rat, a ≠ 0 ∧ ∀ j, (at0 w j : Rat) = a * at0 l j + b * at0 p j
  zero : at0 w c = 0
  bits : ∀ x ∈ w, x.natAbs < 2 ^ (2 * n + 1)
theorem witL_ok {l p : List Int} {c n : Nat} (hl : l.length = p.length) (hp : at0 p c ≠ 0) (h1 : ∀ x ∈ l, x.natAbs < 2 ^ n) (h2 : ∀ x ∈ p, x.natAbs < 2 ^ n) : WitOk l p (witL l p c) c n := by
  unfold witL
  by_cases h0 : at0 l c = 0
  · rw [if_pos h0]
    exact ⟨rfl, ⟨1, 0, by decide, fun j => by grind⟩, h0, fun x hx => Nat.lt_of_lt_of_le (h1 x hx) (Nat.pow_le_pow_right (by decide) (by omega))⟩
  · rw [if_neg h0]
    have hg : Nat.gcd (at0 l c).natAbs (at0 p c).natAbs ≠ 0 := by have := gcd_pos (p := at0 l c) hp; omega
    have hgQ : ((Nat.gcd (at0 l c).natAbs (at0 p c).natAbs : Nat) : Rat) ≠ 0 := by simpa using hg
    have ht := fdiv_eq (dvd_r (at0 l c) (at0 p c)) hg
    have hf := fdiv_eq (dvd_l (at0 l c) (at0 p c)) hg
    have hpQ : (at0 p c : Rat) ≠ 0 := by simpa using hp
    have at_mix : ∀ j, (at0 (mixL l p c) j : Rat) = (at0 p c : Rat) / (Nat.gcd (at0 l c).natAbs (at0 p c).natAbs : Nat) * at0 l j + (-((at0 l c : Rat) / (Nat.gcd (at0 l c).natAbs (at0 p c).natAbs : Nat))) * at0 p j := fun j => by
      unfold mixL
      rw [at0_zip _ l p hl (by simp), Rat.intCast_sub, Rat.intCast_mul, Rat.intCast_mul, ht, hf]
      grind
    have zero_mix : at0 (mixL l p c) c = 0 := by
      have := at_mix c
      have e : (at0 (mixL l p c) c : Rat) = 0 := by rw [this]; grind
      simpa using e
    by_cases hd : cdL 0 (mixL l p c) < 2
    · rw [if_pos hd]
      exact ⟨mixL_len hl, ⟨_, _, by grind, at_mix⟩, zero_mix, mixL_bits h1 h2⟩
    · rw [if_neg hd]
      have hdv : ∀ x ∈ mixL l p c, ((cdL 0 (mixL l p c) : Nat) : Int) ∣ x := fun x hx => Int.ofNat_dvd_left.mpr ((cdL_dvd _ 0).2 x hx)
      have hdQ : ((cdL 0 (mixL l p c) : Nat) : Rat) ≠ 0 := by simpa using (show cdL 0 (mixL l p c) ≠ 0 by omega)
      refine ⟨by rw [List.length_map]; exact mixL_len hl, ⟨(at0 p c : Rat) / (Nat.gcd (at0 l c).natAbs (at0 p c).natAbs : Nat) / (cdL 0 (mixL l p c) : Nat), (-((at0 l c : Rat) / (Nat.gcd (at0 l c).natAbs (at0 p c).natAbs : Nat))) / (cdL 0 (mixL l p c) : Nat), by grind, fun j => ?_⟩, ?_, fun x hx => ?_⟩
      · rw [at0_map _ _ (by simp)]
        by_cases hz : at0 (mixL l p c) j = 0
        · have := at_mix j
          rw [hz] at this ⊢
          rw [Int.zero_fdiv]
          grind
        · rw [fdiv_eq (hdv _ (at0_mem hz)) (by omega), at_mix j]
          grind
      · rw [at0_map _ _ (by simp), zero_mix, Int.zero_fdiv]
      · obtain ⟨y, hy, rfl⟩ := List.mem_map.mp hx
        exact fdiv_le (hdv y hy) (mixL_bits h1 h2 y hy)
/-- the sum of a line's products -/
def ev (W : Nat) (l : List Int) (X : Nat → Rat) : Rat := sumN W fun j => (at0 l j : Rat) * X j
theorem ev_comb {W : Nat} {l p w : List Int} {a b : Rat} (h : ∀ j, (at0 w j : Rat) = a * at0 l j + b * at0 p j) (X : Nat → Rat) : ev W w X = a * ev W l X + b * ev W p X := by
  unfold ev
  rw [← sumN_lin]
  exact sumN_congr fun j _ => by rw [h j]; grind
/-- a combination of lines -/
def Co (L : List (List Int)) (v : List Int) : Prop := ∃ y : Nat → Rat, ∀ j, (at0 v j : Rat) = sumN L.length fun i => y i * at0 (L.getD i []) j
theorem Co.mem {L : List (List Int)} {v : List Int} (h : v ∈ L) : Co L v := by
  obtain ⟨i, hi, e⟩ := List.getElem_of_mem h
  refine ⟨fun k => if k = i then 1 else 0, fun j => ?_⟩
  rw [sumN_one hi]
  · show _ = (if i = i then (1 : Rat) else 0) * _
    rw [if_pos rfl, List.getD_eq_getElem?_getD, List.getElem?_eq_getElem hi, e]
    show _ = 1 * (at0 v j : Rat)
    grind
  · intro k _ hk
    show (if k = i then (1 : Rat) else 0) * _ = 0
    rw [if_neg hk]
    grind
theorem Co.comb {L : List (List Int)} {u v w : List Int} {a b : Rat} (hu : Co L u) (hv : Co L v) (h : ∀ j, (at0 w j : Rat) = a * at0 u j + b * at0 v j) : Co L w := by
  obtain ⟨y, hy⟩ := hu
  obtain ⟨z, hz⟩ := hv
  refine ⟨fun i => a * y i + b * z i, fun j => ?_⟩
  rw [h j, hy j, hz j, ← sumN_lin]
  exact sumN_congr fun i _ => by grind
/-- lines of one length with small numbers -/
def LOk (W n : Nat) (l : List Int) : Prop := l.length = W ∧ ∀ x ∈ l, x.natAbs < 2 ^ n
structure Elim (L : List (List Int)) (W b k : Nat) (P : List (Nat × List Int)) (R : List (List Int)) : Prop where
  okP : ∀ p ∈ P, LOk W ((b + 1) * 2 ^ P.length - 1) p.2
  okR : ∀ l ∈ R, LOk W ((b + 1) * 2 ^ P.length - 1) l
  num : P.length + R.length = L.length
  cnt : P.length ≤ k
  zR : ∀ l ∈ R, ∀ j, j < k → at0 l j = 0
  lt : ∀ p ∈ P, p.1 < k
  asc : (P.map (·.1)).Pairwise (· < ·)
  lead : ∀ p ∈ P, at0 p.2 p.1 ≠ 0 ∧ ∀ j, j < p.1 → at0 p.2 j = 0
  cross : ∀ p ∈ P, ∀ q ∈ P, p.1 ≠ q.1 → at0 p.2 q.1 = 0
  coP : ∀ p ∈ P, Co L p.2
  coR : ∀ l ∈ R, Co L l
  back : ∀ V X, (∀ p ∈ P, ev V p.2 X = 0) → (∀ l ∈ R, ev V l X = 0) → ∀ l ∈ L, ev V l X = 0
theorem Elim.start {L : List (List Int)} {W b : Nat} (h : ∀ l ∈ L, LOk W b l) : Elim L W b 0 [] L :=
  { okP := fun _ h => (List.not_mem_nil h).elim
    okR := fun l hl => ⟨(h l hl).1, fun x hx => by have := (h l hl).2 x hx; simpa using this⟩
    num := by simp
    cnt := Nat.le_refl _
    zR := fun _ _ _ h => absurd h (Nat.not_lt_zero _)
    lt := fun _ h => (List.not_mem_nil h).elim
    asc := List.Pairwise.nil
    lead := fun _ h => (List.not_mem_nil h).elim
    cross := fun _ h => (List.not_mem_nil h).elim
    coP := fun _ h => (List.not_mem_nil h).elim
    coR := fun l hl => Co.mem hl
    back := fun _ _ _ h => h }
theorem Elim.step {L : List (List Int)} {W b k : Nat} {P : List (Nat × List Int)} {R O : List (List Int)} {v : List Int} (h : Elim L W b k P R) (hv : v ∈ R) (hO : ∀ l ∈ O, l ∈ R) (hR : ∀ l ∈ R, l = v ∨ l ∈ O) (hlen : O.length + 1 = R.length) (hk : at0 v k ≠ 0) :
    Elim L W b (k + 1) ((P.map fun p => (p.1, witL p.2 v k)) ++ [(k, v)]) (O.map fun l => witL l v k) := by
  have hb : 2 * ((b + 1) * 2 ^ P.length - 1) + 1 = (b + 1) * 2 ^ (P.length + 1) - 1 := by
    have := Nat.mul_pos (show 0 < b + 1 by omega) (Nat.two_pow_pos P.length)
    rw [Nat.pow_succ, ← Nat.mul_assoc]
    omega
  have okv := h.okR v hv
  have wo : ∀ l, LOk W ((b + 1) * 2 ^ P.length - 1) l → WitOk l v (witL l v k) k ((b + 1) * 2 ^ P.length - 1) := fun l hl => witL_ok (by rw [hl.1, okv.1]) hk hl.2 okv.2
  have lenP : ((P.map fun p => (p.1, witL p.2 v k)) ++ [(k, v)]).length = P.length + 1 := by simp
  have up : ∀ l, LOk W ((b + 1) * 2 ^ P.length - 1) l → LOk W ((b + 1) * 2 ^ (P.length + 1) - 1) (witL l v k) := fun l hl => ⟨by rw [(wo l hl).len, hl.1], by rw [← hb]; exact (wo l hl).bits⟩
  have zv : ∀ j, j < k → at0 v j = 0 := h.zR v hv
  have keep : ∀ l, LOk W ((b + 1) * 2 ^ P.length - 1) l → ∀ j, j < k → at0 l j = 0 → at0 (witL l v k) j = 0 := fun l hl j hj hz => by
    obtain ⟨a, c, _, e⟩ := (wo l hl).comb
    have := e j
    rw [hz, zv j hj] at this
    have e2 : (at0 (witL l v k) j : Rat) = 0 := by rw [this]; grind
    simpa using e2
  have keepN : ∀ l, LOk W ((b + 1) * 2 ^ P.length - 1) l → ∀ j, j < k → at0 l j ≠ 0 → at0 (witL l v k) j ≠ 0 := fun l hl j hj hz he => by
    obtain ⟨a, c, ha, e⟩ := (wo l hl).comb
    have := e j
    rw [he, zv j hj] at this
    have hz : (at0 l j : Rat) ≠ 0 := by simpa using hz
    have e3 : (0 : Rat) = a * at0 l j := by rw [show ((0 : Int) : Rat) = 0 from rfl] at this; rw [this]; grind
    have : a * (at0 l j : Rat) ≠ 0 := by
      intro h0
      rcases Rat.mul_eq_zero.mp h0 with h0 | h0
      · exact ha h0
      · exact hz h0
    exact this e3.symm
  constructor
  · intro p hp
    rw [lenP]
    rcases List.mem_append.mp hp with hp | hp
    · obtain ⟨q, hq, rfl⟩ := List.mem_map.mp hp
      exact up _ (h.okP q hq)
    · rw [List.mem_singleton.mp hp]
      exact ⟨okv.1, fun x hx => Nat.lt_of_lt_of_le (okv.2 x hx) (Nat.pow_le_pow_right (by decide) (by omega))⟩
  · intro l hl
    rw [lenP]
    obtain ⟨q, hq, rfl⟩ := List.mem_map.mp hl
    exact up _ (h.okR q (hO q hq))
  · rw [lenP, List.length_map]
    have := h.num
    omega
  · rw [lenP]
    exact Nat.succ_le_succ h.cnt
  · intro l hl j hj
    obtain ⟨q, hq, rfl⟩ := List.mem_map.mp hl
    by_cases e : j = k
    · rw [e]; exact (wo q (h.okR q (hO q hq))).zero
    · exact keep q (h.okR q (hO q hq)) j (by omega) (h.zR q (hO q hq) j (by omega))
  · intro p hp
    rcases List.mem_append.mp hp with hp | hp
    · obtain ⟨q, hq, rfl⟩ := List.mem_map.mp hp
      exact Nat.lt_succ_of_lt (h.lt q hq)
    · rw [List.mem_singleton.mp hp]; exact Nat.lt_succ_self k
  · rw [List.map_append, List.map_map]
    refine List.pairwise_append.mpr ⟨h.asc, List.pairwise_singleton .., fun x hx y hy => ?_⟩
    obtain ⟨q, hq, rfl⟩ := List.mem_map.mp hx
    rw [List.mem_singleton.mp hy]
    exact h.lt q hq
  · intro p hp
    rcases List.mem_append.mp hp with hp | hp
    · obtain ⟨q, hq, rfl⟩ := List.mem_map.mp hp
      exact ⟨keepN _ (h.okP q hq) _ (h.lt q hq) (h.lead q hq).1, fun j hj => keep _ (h.okP q hq) j (by have := h.lt q hq; have : j < q.1 := hj; omega) ((h.lead q hq).2 j hj)⟩
    · rw [List.mem_singleton.mp hp]
      exact ⟨hk, zv⟩
  · intro p hp q hq hne
    rcases List.mem_append.mp hp with hp | hp
    · obtain ⟨p0, hp0, rfl⟩ := List.mem_map.mp hp
      rcases List.mem_append.mp hq with hq | hq
      · obtain ⟨q0, hq0, rfl⟩ := List.mem_map.mp hq
        exact keep _ (h.okP p0 hp0) _ (h.lt q0 hq0) (h.cross p0 hp0 q0 hq0 hne)
      · rw [List.mem_singleton.mp hq]
        exact (wo _ (h.okP p0 hp0)).zero
    · rw [List.mem_singleton.mp hp] at hne ⊢
      rcases List.mem_append.mp hq with hq | hq
      · obtain ⟨q0, hq0, rfl⟩ := List.mem_map.mp hq
        exact zv _ (h.lt q0 hq0)
      · rw [List.mem_singleton.mp hq] at hne
        exact absurd rfl hne
  · intro p hp
    rcases List.mem_append.mp hp with hp | hp
    · obtain ⟨q, hq, rfl⟩ := List.mem_map.mp hp
      obtain ⟨a, c, _, e⟩ := (wo _ (h.okP q hq)).comb
      exact Co.comb (h.coP q hq) (h.coR v hv) e
    · rw [List.mem_singleton.mp hp]
      exact h.coR v hv
  · intro l hl
    obtain ⟨q, hq, rfl⟩ := List.mem_map.mp hl
    obtain ⟨a, c, _, e⟩ := (wo _ (h.okR q (hO q hq))).comb
    exact Co.comb (h.coR q (hO q hq)) (h.coR v hv) e
  · intro V X h1 h2
    have hv0 : ev V v X = 0 := h1 (k, v) (by simp)
    have undo : ∀ l, LOk W ((b + 1) * 2 ^ P.length - 1) l → ev V (witL l v k) X = 0 → ev V l X = 0 := fun l hl he => by
      obtain ⟨a, c, ha, e⟩ := (wo l hl).comb
      rw [ev_comb e, hv0] at he
      grind
    refine h.back V X (fun p hp => undo _ (h.okP p hp) (h1 (p.1, witL p.2 v k) (List.mem_append_left _ (List.mem_map_of_mem hp)))) (fun l hl => ?_)
    rcases hR l hl with rfl | hl2
    · exact hv0
    · exact undo _ (h.okR l hl) (h2 _ (List.mem_map_of_mem hl2))
end UbM
namespace UbP
open PySem UbM
abbrev natsD (l : List Nat) : D := .lst (l.map fun (n : Nat) => D.int (n : Int))
abbrev strsD (l : List Str) : D := .lst (l.map .str)
structure Kd where
  nm : Str
  w : Rat
  a : Rat
  ws : List Rat
def kdD (k : Kd) : D := .tup [.str k.nm, rD k.w, rD k.a, rsD k.ws]
structure Ag where
  nm : Str
  ks : List Kd
def agD (a : Ag) : D := .tup [.str a.nm, .lst (a.ks.map kdD)]
inductive Nd where
  | part | budget | even | bound (r : Rat) | envy (a b : Nat) (sw : List Nat) | order (a : Nat) (ch : List Nat)
def Nd.wd : Nd → Str
  | .part => "part" | .budget => "budget" | .even => "even" | .bound _ => "bound" | .envy _ _ _ => "envy" | .order _ _ => "order"
def ndD : Nd → D
  | .part => .tup [.str "part"]
  | .budget => .tup [.str "budget"]
  | .even => .tup [.str "even"]
  | .bound r => .tup [.str "bound", rD r]
  | .envy a b sw => .tup [.str "envy", .int (a : Nat), .int (b : Nat), natsD sw]
  | .order a ch => .tup [.str "order", .int (a : Nat), natsD ch]
abbrev agsD (l : List Ag) : D := .lst (l.map agD)
abbrev kdsD (l : List Kd) : D := .lst (l.map kdD)
abbrev ndsD (l : List Nd) : D := .lst (l.map ndD)
structure Gm where
  ags : List Ag
  outs : List Str
  aim : Str
  pay : Bool
  lots : Bool
  nds : List Nd
def gmF (g : Gm) : List (Str × D) := [("agents", agsD g.ags), ("outcomes", strsD g.outs), ("aim", .str g.aim), ("payments", .bl g.pay), ("lots", .bl g.lots), ("needs", ndsD g.nds)]
def gmO (g : Gm) : D := .obj "Game" (gmF g)
def gmC (g : Gm) : Ct := .o "Game" (gmF g)
theorem gmC_toD (g : Gm) : (gmC g).toD = gmO g := rfl
theorem gf_ag (g : Gm) : fldD ["Game"] "agents" (gmO g) = some (.d (agsD g.ags)) := rfl
theorem gf_ou (g : Gm) : fldD ["Game"] "outcomes" (gmO g) = some (.d (strsD g.outs)) := rfl
theorem gf_ai (g : Gm) : fldD ["Game"] "aim" (gmO g) = some (.d (.str g.aim)) := rfl
theorem gf_pa (g : Gm) : fldD ["Game"] "payments" (gmO g) = some (.d (.bl g.pay)) := rfl
theorem gf_lo (g : Gm) : fldD ["Game"] "lots" (gmO g) = some (.d (.bl g.lots)) := rfl
theorem gf_nd (g : Gm) : fldD ["Game"] "needs" (gmO g) = some (.d (ndsD g.nds)) := rfl
theorem nn_gm (g : Gm) : isNoD (gmO g) .non = some false := rfl
theorem nt_gm (g : Gm) : notNoD (gmO g) .non = some true := rfl
theorem sh_int (i : Int) (n : Nat) : UbP.sh (.int i) n = true := by unfold UbP.sh; rfl
theorem sh_nats (l : List Nat) (n : Nat) : UbP.sh (natsD l) (n + 1) = true := by
  unfold UbP.sh
  rw [decide_eq_true (Nat.succ_pos n), Nat.add_sub_cancel]
  exact shAll_map l fun _ _ => sh_int _ _
theorem eq_same {d : D} (h : UbP.sh d 60 = true) : eqD d d = some true := by
  unfold eqD
  rw [h, eqv_self d (.inr trivial) _ h]
  simp
theorem ne_same {d : D} (h : UbP.sh d 60 = true) : neD d d = some false := by
  unfold neD
  rw [eq_same h]
  rfl
theorem eqv_nats : ∀ (l m : List Nat), eqvAll (l.map fun (n : Nat) => D.int (n : Int)) (m.map fun (n : Nat) => D.int (n : Int)) = decide (l = m)
  | [], [] => rfl
  | [], _ :: _ => rfl
  | _ :: _, [] => rfl
  | a :: l, b :: m => by
    show (eqv (.int (a : Int)) (.int (b : Int)) && eqvAll _ _) = _
    rw [eqv_nats l m]
    have : eqv (.int (a : Int)) (.int (b : Int)) = decide (a = b) := by
      show ((a : Int) == (b : Int)) = _
      by_cases h : a = b
      · subst h; simp
      · rw [decide_eq_false h]
        have : ¬((a : Int) = (b : Int)) := fun z => h (Int.ofNat.inj z)
        simpa using this
    rw [this]
    by_cases h1 : a = b <;> by_cases h2 : l = m <;> simp [h1, h2]
theorem eq_nats (l m : List Nat) : eqD (natsD l) (natsD m) = some (decide (l = m)) := by
  unfold eqD
  rw [sh_nats l 59, sh_nats m 59]
  show some (eqvAll _ _) = _
  rw [eqv_nats]
theorem ne_nats (l m : List Nat) : neD (natsD l) (natsD m) = some (!decide (l = m)) := by
  unfold neD
  rw [eq_nats]
  rfl
end UbP
namespace UbP
open PySem UbM
def Nd.once : Nd → Bool
  | .envy _ _ _ => false
  | .order _ _ => false
  | _ => true
theorem nd_ix0 (d : Nd) : ixD (ndD d) (.int 0) = some (.d (.str d.wd)) := by cases d <;> rfl
end UbP
namespace UbP
open PySem UbM
def Nd.flagged : Nd → Bool
  | .part => true
  | .budget => true
  | .even => true
  | _ => false
theorem in_three (d : Nd) : inD (.str d.wd) (.tup [.str "part", .str "budget", .str "even"]) = some d.flagged := by cases d <;> dsimp only [Nd.wd, Nd.flagged] <;> rfl
theorem in_four (d : Nd) : inD (.str d.wd) (.tup [.str "part", .str "budget", .str "even", .str "bound"]) = some d.once := by cases d <;> dsimp only [Nd.wd, Nd.once] <;> rfl
end UbP
namespace UbP
theorem ix_ag0 (a : Ag) : ixD (agD a) (.int 0) = some (.d (.str a.nm)) := rfl
theorem ix_ag1 (a : Ag) : ixD (agD a) (.int 1) = some (.d (kdsD a.ks)) := rfl
theorem ix_kd0 (k : Kd) : ixD (kdD k) (.int 0) = some (.d (.str k.nm)) := rfl
theorem ix_kd1 (k : Kd) : ixD (kdD k) (.int 1) = some (.d (rD k.w)) := rfl
theorem ix_kd2 (k : Kd) : ixD (kdD k) (.int 2) = some (.d (rD k.a)) := rfl
theorem ix_kd3 (k : Kd) : ixD (kdD k) (.int 3) = some (.d (rsD k.ws)) := rfl
theorem put_ag (ts : List Tg) (a : Ag) (e : Env) : putT (.tp ts) (agD a) e = putTs ts [.str a.nm, kdsD a.ks] e := rfl
theorem put_kd (ts : List Tg) (k : Kd) (e : Env) : putT (.tp ts) (kdD k) e = putTs ts [.str k.nm, rD k.w, rD k.a, rsD k.ws] e := rfl
theorem ii_kd (k : Kd) : isiD "list" (kdD k) = some (.d (.bl false)) := rfl
end UbP
namespace UbM
def fib2 : Nat → Nat × Nat
  | 0 => (0, 1)
  | n + 1 => match fib2 n with | (a, b) => (b, a + b)
def fib (n : Nat) : Nat := (fib2 n).1
theorem fib_step (n : Nat) : fib (n + 2) = fib n + fib (n + 1) := rfl
def Enf (m a b : Nat) : Prop := b < fib m ∨ (b < a ∧ a < fib (m + 1))
theorem Enf.pos {m a b : Nat} (h : Enf m a b) : 0 < m := by
  cases m with
  | zero =>
    rcases h with h | ⟨h1, h2⟩
    · have : b < 0 := h
      omega
    · have : a < 1 := h2
      omega
  | succ m => omega
theorem Enf.step {m a b : Nat} (hb : 0 < b) (h : Enf m a b) : Enf (m - 1) b (a % b) := by
  have hm := h.pos
  obtain ⟨k, rfl⟩ : ∃ k, m = k + 1 := ⟨m - 1, by omega⟩
  rw [Nat.add_sub_cancel]
  have hr := Nat.mod_lt a hb
  rcases h with h | ⟨h1, h2⟩
  · exact .inr ⟨hr, h⟩
  · by_cases hk : b < fib (k + 1)
    · exact .inr ⟨hr, hk⟩
    · left
      rw [fib_step] at h2
      have h3 := Nat.div_add_mod a b
      have h4 : 1 ≤ a / b := (Nat.le_div_iff_mul_le hb).mpr (by omega)
      have h5 : b * 1 ≤ b * (a / b) := Nat.mul_le_mul_left b h4
      omega
theorem fib_5000 : 2 ^ 3400 ≤ fib 5000 := by decide +kernel
theorem enf_of {a b n : Nat} (h : b < 2 ^ n) (hn : n ≤ 3400) : Enf 5000 a b := .inl (Nat.lt_of_lt_of_le h (Nat.le_trans (Nat.pow_le_pow_right (by decide) hn) fib_5000))
end UbM
namespace UbK
open UbP
def ok_TooLarge (s : PySem.Str) : Option Bool := if s = "InvalidCosts" then some false else if s = "InvalidWishes" then some false else if s = "TooLarge" then some true else if s = "ZeroDenominator" then some false else none
def ok_UnbentError (s : PySem.Str) : Option Bool := if s = "InvalidCosts" then some true else if s = "InvalidWishes" then some true else if s = "TooLarge" then some true else if s = "ZeroDenominator" then some true else none
def low_limit : List PySem.Str := ["TooLarge"]
def iso_InvalidCosts : List (PySem.Str × Bool) := [("InvalidCosts", true), ("InvalidWishes", false), ("TooLarge", false), ("ZeroDenominator", false)]
def iso_InvalidWishes : List (PySem.Str × Bool) := [("InvalidCosts", false), ("InvalidWishes", true), ("TooLarge", false), ("ZeroDenominator", false)]
def iso_ValueError : List (PySem.Str × Bool) := [("InvalidCosts", true), ("InvalidWishes", true), ("TooLarge", true), ("ZeroDenominator", true)]
def b__law_make : M Fl := (sSeq (sSet 2 (eU absD (eV 0)))
  (sSeq (sSet 3 (eV 1))
  (sSeq (sFor (iR1 (eC (.int 5000))) (.nm 4) (sSeq (sIf (tB eqD (eV 3) (eC (.int 0))) sBk sNx)
  (sSeq (sSet 5 (eB modD (eU intD (eV 2)) (eV 3)))
  (sSeq (sSet 2 (eV 3))
  (sSet 3 (eV 5))))))
  (sRet (eTup [(eB fdivD (eV 0) (eV 2)), (eB fdivD (eV 1) (eV 2))])))))
def p__law_make : Fn := run 4 b__law_make
def b__law_add : M Fl := (sRet (eCall p__law_make [false, false] [(eB addD (eB mulD (eB ixD (eV 0) (eC (.int 0))) (eB ixD (eV 1) (eC (.int 1)))) (eB mulD (eB ixD (eV 1) (eC (.int 0))) (eB ixD (eV 0) (eC (.int 1))))), (eB mulD (eB ixD (eV 0) (eC (.int 1))) (eB ixD (eV 1) (eC (.int 1))))] []))
def p__law_add : Fn := run 0 b__law_add
def b__law_less : M Fl := (sRet (eB (cB ltD) (eB mulD (eB ixD (eV 0) (eC (.int 0))) (eB ixD (eV 1) (eC (.int 1)))) (eB mulD (eB ixD (eV 1) (eC (.int 0))) (eB ixD (eV 0) (eC (.int 1))))))
def p__law_less : Fn := run 0 b__law_less
def b__law_minus : M Fl := (sRet (eCall p__law_make [false, false] [(eB subD (eB mulD (eB ixD (eV 0) (eC (.int 0))) (eB ixD (eV 1) (eC (.int 1)))) (eB mulD (eB ixD (eV 1) (eC (.int 0))) (eB ixD (eV 0) (eC (.int 1))))), (eB mulD (eB ixD (eV 0) (eC (.int 1))) (eB ixD (eV 1) (eC (.int 1))))] []))
def p__law_minus : Fn := run 0 b__law_minus
def b__law_orders (p__law_orders : Fn) : M Fl := (sSeq (sIf (tB eqD (eU lenD (eV 0)) (eC (.int 0))) (sRet (eLst [(eLst [])])) sNx)
  (sSeq (sOwn 1 (eLst []))
  (sSeq (sFor (iE (eV 0)) (.nm 2) (sFor (iE (eCall (p__law_orders) [false] [(eLc (iE (eV 0)) (.nm 4) (tB neD (eV 4) (eV 2)) (eV 4) [4])] [])) (.nm 3) (sEx (eApp (eV 1) (eB addD (eLst [(eV 2)]) (eV 3))))))
  (sRet (eV 1)))))
def p__law_orders : Nat → Fn
  | 0 => fun _ => .bad
  | n + 1 => run 4 (b__law_orders (p__law_orders n))
def b__law_times : M Fl := (sRet (eCall p__law_make [false, false] [(eB mulD (eB ixD (eV 0) (eC (.int 0))) (eB ixD (eV 1) (eC (.int 0)))), (eB mulD (eB ixD (eV 0) (eC (.int 1))) (eB ixD (eV 1) (eC (.int 1))))] []))
def p__law_times : Fn := run 0 b__law_times
def b__law_share : M Fl := (sSeq (sSet 3 (eCall (p__law_orders 70) [false] [(eV 1)] []))
  (sSeq (sSet 4 (eTup [(eC (.int 0)), (eC (.int 1))]))
  (sSeq (sFor (iE (eV 3)) (.nm 5) (sSeq (sSet 6 (eU sumD (eLc (iE (eSl (eV 5) (ret none) (intM (eIdx (eV 5) (eV 2))))) (.nm 7) (ret true) (eB shlD (eC (.int 1)) (eV 7)) [7])))
  (sSet 4 (eCall p__law_add [false, false] [(eV 4), (eCall p__law_minus [false, false] [(eB ixD (eV 0) (eB addD (eV 6) (eB shlD (eC (.int 1)) (eV 2)))), (eB ixD (eV 0) (eV 6))] [])] []))))
  (sRet (eCall p__law_times [false, false] [(eV 4), (eTup [(eC (.int 1)), (eU lenD (eV 3))])] [])))))
def p__law_share : Fn := run 5 b__law_share
def b__law_charge : M Fl := (sSeq (sSet 2 (eRg1 (eU lenD (eV 1))))
  (sSeq (sFor (iR1 (eB addD (eU lenD (eV 1)) (eC (.int 1)))) (.nm 3) (sSet 2 (eLc (iE (eV 2)) (.nm 4) (tNot (tE (eCall p__law_less [false, false] [(eB ixD (eV 1) (eV 4)), (eCall p__law_share [false, false, false] [(eV 0), (eV 2), (eV 4)] [])] []))) (eV 4) [4])))
  (sSeq (sOwn 5 (eLst []))
  (sSeq (sFor (iR1 (eU lenD (eV 1))) (.nm 4) (sIf (tB inD (eV 4) (eV 2)) (sEx (eApp (eV 5) (eCall p__law_share [false, false, false] [(eV 0), (eV 2), (eV 4)] []))) (sEx (eApp (eV 5) (eTup [(eC (.int 0)), (eC (.int 1))])))))
  (frz 5 (sRet (eTup [(eV 2), (eV 5)])))))))
def p__law_charge : Fn := run 4 b__law_charge
def b__law_take : M Fl := (sSeq (sIf (tB eqD (eU lenD (eV 0)) (eC (.int 0))) (sRet (eC (.int 0))) sNx)
  (sRet (eB modD (eU intD (ePop (eV 0))) (eV 1))))
def p__law_take : Fn := run 0 b__law_take
def b__law_fraction : M Fl := (sSeq (sSet 2 (eCall p__law_take [true, false] [(eV 0), (eC (.int 8))] []))
  (sSeq (sIf (tB eqD (eV 2) (eC (.int 0))) (sRet (eTup [(eC (.int 0)), (eC (.int 1))])) sNx)
  (sSeq (sIf (tB eqD (eV 2) (eC (.int 1))) (sRet (eCall p__law_make [false, false] [(eCall p__law_take [true, false] [(eV 0), (eB powD (eC (.int 10)) (eC (.int 9)))] []), (eB addD (eC (.int 1)) (eCall p__law_take [true, false] [(eV 0), (eB powD (eC (.int 10)) (eC (.int 6)))] []))] [])) sNx)
  (sSeq (sSet 3 (eCall p__law_make [false, false] [(eB addD (eCall p__law_take [true, false] [(eV 0), (eC (.int 13))] []) (eV 1)), (eB addD (eC (.int 1)) (eCall p__law_take [true, false] [(eV 0), (eC (.int 3))] []))] []))
  (sRet (eV 3))))))
def p__law_fraction : Fn := run 2 b__law_fraction
def b__law_has : M Fl := (sRet (eB (cB eqD) (eB modD (eU intD (eB fdivD (eV 0) (eB shlD (eC (.int 1)) (eV 1)))) (eC (.int 2))) (eC (.int 1))))
def p__law_has : Fn := run 0 b__law_has
def b__law_costs : M Fl := (sSeq (sSet 2 (eLc (iR1 (eCall p__law_take [true, false] [(eV 0), (eC (.int 5))] [])) (.nm 7) (ret true) (eLst [(eCall p__law_take [true, false] [(eV 0), (eB shlD (eC (.int 1)) (eV 1))] []), (eCall p__law_fraction [true, false] [(eV 0), (eC (.int 0))] [])]) [7]))
  (sSeq (sOwn 3 (eLst []))
  (sSeq (sFor (iR1 (eB shlD (eC (.int 1)) (eV 1))) (.nm 4) (sSeq (sSet 5 (eTup [(eC (.int 0)), (eC (.int 1))]))
  (sSeq (sFor (iE (eV 2)) (.nm 6) (sIf (tB gtD (eU lenD (eLc (iR1 (eV 1)) (.nm 7) (tAnd (tE (eCall p__law_has [false, false] [(eV 4), (eV 7)] [])) (tE (eCall p__law_has [false, false] [(eB ixD (eV 6) (eC (.int 0))), (eV 7)] []))) (eV 7) [7])) (eC (.int 0))) (sSet 5 (eCall p__law_add [false, false] [(eV 5), (eB ixD (eV 6) (eC (.int 1)))] [])) sNx))
  (sEx (eApp (eV 3) (eV 5))))))
  (sRet (eV 3)))))
def p__law_costs : Fn := run 6 b__law_costs
def b__law_draws : M Fl := (sSeq (sOwn 1 (eLst []))
  (sSeq (sFor (iE (eV 0)) (.nm 2) (sSeq (sSet 3 (eU absD (eV 2)))
  (sSeq (sIf (tB ltD (eV 3) (eB powD (eC (.int 10)) (eC (.int 18)))) (sSeq (sSet 4 (eB modD (eU intD (eB addD (eB mulD (eV 3) (eC (.int 48271))) (eC (.int 11)))) (eC (.int 2147483647))))
  (sSeq (sEx (eApp (eV 1) (eB modD (eU intD (eB addD (eB mulD (eV 4) (eC (.int 69621))) (eV 3))) (eC (.int 2147483629)))))
  (sSeq (sEx (eApp (eV 1) (eB modD (eU intD (eB addD (eV 4) (eB fdivD (eV 3) (eC (.int 7))))) (eC (.int 1000003)))))
  (sSet 3 (eC (.int 0)))))) sNx)
  (sFor (iR1 (eC (.int 60))) (.nm 5) (sIf (tB gtD (eV 3) (eC (.int 0))) (sSeq (sEx (eApp (eV 1) (eB modD (eU intD (eV 3)) (eC (.int 997)))))
  (sSet 3 (eB fdivD (eV 3) (eC (.int 997))))) sNx)))))
  (sSeq (sSet 6 (eC (.int 1)))
  (sSeq (sIf (tB gtD (eU lenD (eV 0)) (eC (.int 0))) (sSet 6 (eB addD (eC (.int 1)) (eU absD (eB ixD (eV 0) (eC (.int 0)))))) sNx)
  (sSeq (sFor (iR1 (eC (.int 60))) (.nm 5) (sSeq (sSet 6 (eB modD (eU intD (eB addD (eB mulD (eV 6) (eC (.int 48271))) (eC (.int 69621)))) (eC (.int 2147483647))))
  (sEx (eApp (eV 1) (eB fdivD (eV 6) (eC (.int 5)))))))
  (frz 1 (sRet (eU revD (eV 1)))))))))
def p__law_draws : Fn := run 6 b__law_draws
def b__law_middle : M Fl := (sSeq (sOwn 1 (eU listD (eV 0)))
  (sSeq (sFor (iR1 (eB fdivD (eU lenD (eV 0)) (eC (.int 2)))) (.nm 2) (sSeq (sEx (eRem (eV 1) (eU minlD (eV 1))))
  (sEx (eRem (eV 1) (eU maxlD (eV 1))))))
  (frz 1 (sRet (eB ixD (eV 1) (eC (.int 0)))))))
def p__law_middle : Fn := run 2 b__law_middle
def b__law_peak : M Fl := (sSeq (sIf (tB eqD (eCall p__law_take [true, false] [(eV 0), (eC (.int 9))] []) (eC (.int 0))) (sRet (eB addD (eB powD (eC (.int 10)) (eC (.int 20))) (eCall p__law_take [true, false] [(eV 0), (eC (.int 5))] []))) sNx)
  (sRet (eB subD (eCall p__law_take [true, false] [(eV 0), (eC (.int 41))] []) (eC (.int 20)))))
def p__law_peak : Fn := run 0 b__law_peak
def b_sign : M Fl := (sSeq (sIf (tB gtD (eB ixD (eV 0) (eC (.int 0))) (eC (.int 0))) (sRet (eC (.int 1))) sNx)
  (sRet (eIf (tB ltD (eB ixD (eV 0) (eC (.int 0))) (eC (.int 0))) (eU negD (eC (.int 1))) (eC (.int 0)))))
def p_sign : Fn := run 0 b_sign
def b_compare : M Fl := (sRet (eCall p_sign [false] [(eTup [(eB subD (eB mulD (eB ixD (eV 0) (eC (.int 0))) (eB ixD (eV 1) (eC (.int 1)))) (eB mulD (eB ixD (eV 1) (eC (.int 0))) (eB ixD (eV 0) (eC (.int 1))))), (eB mulD (eB ixD (eV 0) (eC (.int 1))) (eB ixD (eV 1) (eC (.int 1))))])] []))
def p_compare : Fn := run 0 b_compare
def b__ascend : M Fl := (sSeq (sFor (iEn (eV 0)) (.tp [(.nm 3), (.nm 2)]) (sIf (tE (eGx true (iR1 (eV 1)) (.nm 4) (eB (cB ltD) (eCall p_compare [false, false] [(eB ixD (eV 0) (eB orD (eV 3) (eB shlD (eC (.int 1)) (eV 4)))), (eV 2)] []) (eC (.int 0))) [4])) (sRet (eC (.bl false))) sNx))
  (sRet (eC (.bl true))))
def p__ascend : Fn := run 3 b__ascend
def b_make : M Fl := (sSeq (sIf (tB eqD (eV 1) (eC (.int 0))) (sRaise "ZeroDenominator" [] List.isEmpty []) sNx)
  (sSeq (sSet 2 (eB gcdD (eV 0) (eV 1)))
  (sSeq (sIf (tB ltD (eV 1) (eC (.int 0))) (sSet 2 (eU negD (eV 2))) sNx)
  (sRet (eTup [(eB fdivD (eV 0) (eV 2)), (eB fdivD (eV 1) (eV 2))])))))
def p_make : Fn := run 1 b_make
def b_add : M Fl := (sRet (eCall p_make [false, false] [(eB addD (eB mulD (eB ixD (eV 0) (eC (.int 0))) (eB ixD (eV 1) (eC (.int 1)))) (eB mulD (eB ixD (eV 1) (eC (.int 0))) (eB ixD (eV 0) (eC (.int 1))))), (eB mulD (eB ixD (eV 0) (eC (.int 1))) (eB ixD (eV 1) (eC (.int 1))))] []))
def p_add : Fn := run 0 b_add
def b__cost_less_together : M Fl := (sSeq (sFor (iEn (eV 0)) (.tp [(.nm 1), (.nm 2)]) (sFor (iR1 (eV 1)) (.nm 3) (sSeq (sSet 4 (eCall p_add [false, false] [(eB ixD (eV 0) (eB orD (eV 1) (eV 3))), (eB ixD (eV 0) (eB andD (eV 1) (eV 3)))] []))
  (sIf (tB gtD (eCall p_compare [false, false] [(eV 4), (eCall p_add [false, false] [(eV 2), (eB ixD (eV 0) (eV 3))] [])] []) (eC (.int 0))) (sRet (eC (.bl false))) sNx))))
  (sRet (eC (.bl true))))
def p__cost_less_together : Fn := run 4 b__cost_less_together
def b__are_costs : M Fl := (sSeq (sIf (tOr (tB neD (eU lenD (eV 0)) (eB shlD (eC (.int 1)) (eV 1))) (tB neD (eB ixD (eV 0) (eC (.int 0))) (eTup [(eC (.int 0)), (eC (.int 1))]))) (sRet (eC (.bl false))) sNx)
  (sRet (eAnd (eCall p__ascend [false, false] [(eV 0), (eV 1)] []) (eCall p__cost_less_together [false] [(eV 0)] []))))
def p__are_costs : Fn := run 0 b__are_costs
def b__group : M Fl := (sRet (eU sumD (eLc (iE (eV 0)) (.nm 1) (ret true) (eB shlD (eC (.int 1)) (eV 1)) [1])))
def p__group : Fn := run 1 b__group
def b__members : M Fl := (sRet (eLc (iR1 (eC (.int 6))) (.nm 1) (tB eqD (eB andD (eB shrD (eV 0) (eV 1)) (eC (.int 1))) (eC (.int 1))) (eV 1) [1]))
def p__members : Fn := run 1 b__members
def b_multiply : M Fl := (sRet (eCall p_make [false, false] [(eB mulD (eB ixD (eV 0) (eC (.int 0))) (eB ixD (eV 1) (eC (.int 0)))), (eB mulD (eB ixD (eV 0) (eC (.int 1))) (eB ixD (eV 1) (eC (.int 1))))] []))
def p_multiply : Fn := run 0 b_multiply
def b_subtract : M Fl := (sRet (eCall p_make [false, false] [(eB subD (eB mulD (eB ixD (eV 0) (eC (.int 0))) (eB ixD (eV 1) (eC (.int 1)))) (eB mulD (eB ixD (eV 1) (eC (.int 0))) (eB ixD (eV 0) (eC (.int 1))))), (eB mulD (eB ixD (eV 0) (eC (.int 1))) (eB ixD (eV 1) (eC (.int 1))))] []))
def p_subtract : Fn := run 0 b_subtract
def b__share : M Fl := (sSeq (sSet 3 (eU lenD (eCall p__members [false] [(eV 1)] [])))
  (sSeq (sSet 4 (eTup [(eC (.int 0)), (eC (.int 1))]))
  (sSeq (sFor (iR1 (eU lenD (eV 0))) (.nm 5) (sIf (tAnd (tB eqD (eB orD (eV 5) (eV 1)) (eV 1)) (tB eqD (eB andD (eB shrD (eV 5) (eV 2)) (eC (.int 1))) (eC (.int 0)))) (sSeq (sSet 6 (eCall p_subtract [false, false] [(eB ixD (eV 0) (eB orD (eV 5) (eB shlD (eC (.int 1)) (eV 2)))), (eB ixD (eV 0) (eV 5))] []))
  (sSeq (sSet 7 (eU lenD (eCall p__members [false] [(eV 5)] [])))
  (sSeq (sSet 8 (eB mulD (eU facD (eV 7)) (eU facD (eB subD (eB subD (eV 3) (eV 7)) (eC (.int 1))))))
  (sSet 4 (eCall p_add [false, false] [(eV 4), (eCall p_multiply [false, false] [(eV 6), (eCall p_make [false, false] [(eV 8), (eU facD (eV 3))] [])] [])] []))))) sNx))
  (sRet (eV 4)))))
def p__share : Fn := run 6 b__share
def b__staying : M Fl := (sSeq (sSet 3 (eCall p__group [false] [(eV 2)] []))
  (sRet (eLc (iE (eV 2)) (.nm 4) (tB geD (eCall p_compare [false, false] [(eB ixD (eV 1) (eV 4)), (eCall p__share [false, false, false] [(eV 0), (eV 3), (eV 4)] [])] []) (eC (.int 0))) (eV 4) [4])))
def p__staying : Fn := run 2 b__staying
def b_check_size : M Fl := (sIf (tE (eGx true (iE (eV 0)) (.nm 2) (eB (cB gtD) (eV 2) (eV 1)) [2])) (sRaise "TooLarge" ["limit"] okT [(eC (.str "size"))]) sNx)
def p_check_size : Fn := run 1 b_check_size
def b_charge : M Fl := (sSeq (sEx (eCall p_check_size [false, false] [(eLst [(eU lenD (eV 1))]), (eC (.int 6))] []))
  (sSeq (sIf (tNot (tE (eCall p__are_costs [false, false] [(eV 0), (eU lenD (eV 1))] []))) (sRaise "InvalidCosts" [] List.isEmpty []) sNx)
  (sSeq (sSet 2 (eRg1 (eU lenD (eV 1))))
  (sSeq (sSet 3 (eCall p__staying [false, false, false] [(eV 0), (eV 1), (eV 2)] []))
  (sSeq (whl (tB ltD (eU lenD (eV 3)) (eU lenD (eV 2))) (sSeq (sSet 2 (eV 3))
  (sSet 3 (eCall p__staying [false, false, false] [(eV 0), (eV 1), (eV 2)] []))) 100000)
  (sSeq (sOwn 4 (eB mulD (eLst [(eTup [(eC (.int 0)), (eC (.int 1))])]) (eU lenD (eV 1))))
  (sSeq (sFor (iE (eV 2)) (.nm 5) (sItem (eV 4) (eV 5) (eCall p__share [false, false, false] [(eV 0), (eCall p__group [false] [(eV 2)] []), (eV 5)] [])))
  (frz 4 (sRet (eTup [(eV 2), (eV 4)]))))))))))
def p_charge : Fn := run 4 b_charge
def b_median : M Fl := (sSeq (sEx (eCall p_check_size [false, false] [(eLst [(eU lenD (eV 0))]), (eC (.int 1000))] []))
  (sSeq (sIf (tOr (tB eqD (eU lenD (eV 0)) (eC (.int 0))) (tB neD (eU lenD (eV 1)) (eB subD (eU lenD (eV 0)) (eC (.int 1))))) (sRaise "InvalidWishes" ["reason"] okT [(eC (.str "list"))]) sNx)
  (sRet (eB ixD (eU sortD (eB addD (eU listD (eV 0)) (eU listD (eV 1)))) (eB subD (eU lenD (eV 0)) (eC (.int 1)))))))
def p_median : Fn := run 0 b_median
def b__law_refusal : M Fl := (sSeq (sTry (sTry (sIf (tB eqD (eV 0) (eC (.str "median"))) (sEx (eCall p_median [false, false] [(eV 1), (eV 2)] [])) (sEx (eCall p_charge [false, false] [(eV 1), (eV 2)] []))) ok_TooLarge (some 3) (sRet (eEf 3 low_limit "limit"))) ok_UnbentError (some 3) (sRet (eLst [(eIsE 3 fun s => iso_InvalidWishes.lookup s), (eIsE 3 fun s => iso_InvalidCosts.lookup s), (eIsE 3 fun s => iso_ValueError.lookup s)])))
  (sRet (eC (.str ""))))
def p__law_refusal : Fn := run 1 b__law_refusal
def b__law_same (p__law_same : Fn) : M Fl := (sSeq (sIf (tOr (tE (eU (isiD "tuple") (eV 1))) (tE (eU (isiD "list") (eV 1)))) (sSeq (sIf (tOr (tB neD (eU (isiD "tuple") (eV 1)) (eU (isiD "tuple") (eV 0))) (tB neD (eU (isiD "list") (eV 1)) (eU (isiD "list") (eV 0)))) (sRet (eC (.bl false))) sNx)
  (sSeq (sIf (tB neD (eU lenD (eV 0)) (eU lenD (eV 1))) (sRet (eC (.bl false))) sNx)
  (sSeq (sFor (iR1 (eU lenD (eV 1))) (.nm 2) (sIf (tNot (tE (eCall (p__law_same) [false, false] [(eB ixD (eV 0) (eV 2)), (eB ixD (eV 1) (eV 2))] []))) (sRet (eC (.bl false))) sNx))
  (sRet (eC (.bl true)))))) sNx)
  (sSeq (sIf (tB neD (eU (isiD "bool") (eV 1)) (eU (isiD "bool") (eV 0))) (sRet (eC (.bl false))) sNx)
  (sSeq (sIf (tOr (tB neD (eU (isiD "int") (eV 1)) (eU (isiD "int") (eV 0))) (tB neD (eU (isiD "str") (eV 1)) (eU (isiD "str") (eV 0)))) (sRet (eC (.bl false))) sNx)
  (sRet (eB (cB eqD) (eV 0) (eV 1))))))
def p__law_same : Nat → Fn
  | 0 => fun _ => .bad
  | n + 1 => run 1 (b__law_same (p__law_same n))
def b__law_medians : M Fl := (sSeq (sSet 1 (eLc (iR1 (eB addD (eC (.int 1)) (eCall p__law_take [true, false] [(eV 0), (eC (.int 9))] []))) (.nm 8) (ret true) (eCall p__law_peak [true] [(eV 0)] []) [8]))
  (sSeq (sSet 2 (eLc (iR1 (eB subD (eU lenD (eV 1)) (eC (.int 1)))) (.nm 8) (ret true) (eCall p__law_peak [true] [(eV 0)] []) [8]))
  (sSeq (sSet 3 (eLst [(eU listD (eV 1)), (eU listD (eV 2))]))
  (sSeq (sSet 4 (eCall p__law_middle [false] [(eB addD (eV 1) (eV 2))] []))
  (sSeq (sIf (tOr (tNot (tE (eCall (p__law_same 70) [false, false] [(eCall p_median [false, false] [(eB ixD (eV 3) (eC (.int 0))), (eB ixD (eV 3) (eC (.int 1)))] []), (eV 4)] []))) (tNot (tE (eCall (p__law_same 70) [false, false] [(eV 3), (eLst [(eV 1), (eV 2)])] [])))) (sRet (eC (.bl false))) sNx)
  (sSeq (sSet 5 (eCall p__law_take [true, false] [(eV 0), (eU lenD (eV 1))] []))
  (sSeq (sSet 6 (eCall p_median [false, false] [(eB addD (eB addD (eSl (eV 1) (ret none) (intM (eV 5))) (eLst [(eCall p__law_peak [true] [(eV 0)] [])])) (eSl (eV 1) (intM (eB addD (eV 5) (eC (.int 1)))) (ret none))), (eU listD (eV 2))] []))
  (sSeq (sIf (tAnd (tNot (tCh leD leD (eB ixD (eV 1) (eV 5)) (eV 4) (eV 6))) (tNot (tCh leD leD (eV 6) (eV 4) (eB ixD (eV 1) (eV 5))))) (sRet (eC (.bl false))) sNx)
  (sSeq (sSet 7 (eLst [(eC (.bl true)), (eC (.bl false)), (eC (.bl true))]))
  (sSeq (sIf (tOr (tB neD (eCall p__law_refusal [false, false, false] [(eC (.str "median")), (eV 1), (eB addD (eV 2) (eLst [(eC (.int 0))]))] []) (eV 7)) (tB neD (eCall p__law_refusal [false, false, false] [(eC (.str "median")), (eLst []), (eLst [])] []) (eV 7))) (sRet (eC (.bl false))) sNx)
  (sRet (eB (cB eqD) (eCall p__law_refusal [false, false, false] [(eC (.str "median")), (eLc (iR1 (eC (.int 1001))) (.nm 8) (ret true) (eC (.int 0)) [8]), (eLst [])] []) (eC (.str "size"))))))))))))))
def p__law_medians : Fn := run 8 b__law_medians
def b_share : M Fl := (sSeq (sEx (eCall p_check_size [false, false] [(eLst [(eU lenD (eV 0))]), (eB shlD (eC (.int 1)) (eC (.int 6)))] []))
  (sRet (eCall p__share [false, false, false] [(eV 0), (eV 1), (eV 2)] [])))
def p_share : Fn := run 0 b_share
def b_law_3 : M Fl := (sSeq (sSet 15 (eLst [(eC (.bl false)), (eC (.bl true)), (eC (.bl true))]))
  (sSeq (sOwn 16 (eLst [(eB addD (eV 3) (eLst [(eTup [(eC (.int 0)), (eC (.int 1))])])), (eSl (eV 3) (intM (eC (.int 1))) (ret none)), (eB addD (eLst [(eTup [(eC (.int 1)), (eC (.int 1))])]) (eSl (eV 3) (intM (eC (.int 1))) (ret none)))]))
  (sSeq (sEx (eApp (eV 16) (eB addD (eSl (eV 3) (ret none) (intM (eB subD (eU lenD (eV 3)) (eC (.int 1))))) (eLst [(eCall p__law_minus [false, false] [(eTup [(eU negD (eC (.int 1))), (eC (.int 1))]), (eB ixD (eV 3) (eB subD (eU lenD (eV 3)) (eC (.int 1))))] [])]))))
  (frz 16 (sSeq (sFor (iE (eV 16)) (.nm 17) (sIf (tB neD (eCall p__law_refusal [false, false, false] [(eC (.str "charge")), (eV 17), (eV 6)] []) (eV 15)) (sRet (eC (.bl false))) sNx))
  (sRet (eB (cB eqD) (eCall p__law_refusal [false, false, false] [(eC (.str "charge")), (eV 3), (eLc (iR1 (eC (.int 7))) (.nm 5) (ret true) (eTup [(eC (.int 0)), (eC (.int 1))]) [5])] []) (eC (.str "size")))))))))
def b_law_2 : M Fl := (sSeq (sIf (tB gtD (eV 2) (eC (.int 0))) (sSeq (sSet 11 (eCall p__law_take [true, false] [(eV 1), (eV 2)] []))
  (sSeq (sSet 12 (eB addD (eB addD (eSl (eV 6) (ret none) (intM (eV 11))) (eLst [(eCall p__law_fraction [true, false] [(eV 1), (eU negD (eC (.int 1)))] [])])) (eSl (eV 6) (intM (eB addD (eV 11) (eC (.int 1)))) (ret none))))
  (sSeq (sSet 13 (eCall p_charge [false, false] [(eU listD (eV 3)), (eV 12)] []))
  (sSeq (sSet 14 (eCall p__law_times [false, false] [(eTup [(eU intD (eB (cB inD) (eV 11) (eB ixD (eV 8) (eC (.int 0))))), (eC (.int 1))]), (eCall p__law_minus [false, false] [(eB ixD (eV 6) (eV 11)), (eB ixD (eB ixD (eV 8) (eC (.int 1))) (eV 11))] [])] []))
  (sIf (tE (eCall p__law_less [false, false] [(eV 14), (eCall p__law_times [false, false] [(eTup [(eU intD (eB (cB inD) (eV 11) (eB ixD (eV 13) (eC (.int 0))))), (eC (.int 1))]), (eCall p__law_minus [false, false] [(eB ixD (eV 6) (eV 11)), (eB ixD (eB ixD (eV 13) (eC (.int 1))) (eV 11))] [])] [])] [])) (sRet (eC (.bl false))) sNx))))) sNx)
  b_law_3)
def b_law_1 : M Fl := (frz 6 (sSeq (sSet 9 (eLst [(eU listD (eV 3)), (eU listD (eV 6))]))
  (sSeq (sSet 8 (eCall p__law_charge [false, false] [(eV 3), (eV 6)] []))
  (sSeq (sIf (tOr (tNot (tE (eCall (p__law_same 70) [false, false] [(eCall p_charge [false, false] [(eB ixD (eV 9) (eC (.int 0))), (eB ixD (eV 9) (eC (.int 1)))] []), (eV 8)] []))) (tNot (tE (eCall (p__law_same 70) [false, false] [(eV 9), (eLst [(eV 3), (eV 6)])] [])))) (sRet (eC (.bl false))) sNx)
  (sSeq (sSet 10 (eTup [(eC (.int 0)), (eC (.int 1))]))
  (sSeq (sFor (iR1 (eV 2)) (.nm 5) (sSeq (sSet 10 (eCall p__law_add [false, false] [(eV 10), (eB ixD (eB ixD (eV 8) (eC (.int 1))) (eV 5))] []))
  (sIf (tAnd (tB inD (eV 5) (eB ixD (eV 8) (eC (.int 0)))) (tE (eCall p__law_less [false, false] [(eB ixD (eV 6) (eV 5)), (eB ixD (eB ixD (eV 8) (eC (.int 1))) (eV 5))] []))) (sRet (eC (.bl false))) sNx)))
  (sSeq (sIf (tB neD (eV 10) (eB ixD (eV 3) (eU sumD (eLc (iE (eB ixD (eV 8) (eC (.int 0)))) (.nm 5) (ret true) (eB shlD (eC (.int 1)) (eV 5)) [5])))) (sRet (eC (.bl false))) sNx)
  b_law_2)))))))
def b_law : M Fl := (sSeq (sOwn 1 (eCall p__law_draws [false] [(eV 0)] []))
  (sSeq (sIf (tNot (tE (eCall p__law_medians [true] [(eV 1)] []))) (sRet (eC (.bl false))) sNx)
  (sSeq (sSet 2 (eCall p__law_take [true, false] [(eV 1), (eC (.int 5))] []))
  (sSeq (sSet 3 (eCall p__law_costs [true, false] [(eV 1), (eV 2)] []))
  (sSeq (sSet 4 (eB subD (eB shlD (eC (.int 1)) (eV 2)) (eC (.int 1))))
  (sSeq (sOwn 6 (eLc (iR1 (eV 2)) (.nm 5) (ret true) (eCall p__law_fraction [true, false] [(eV 1), (eU negD (eC (.int 1)))] []) [5]))
  (sSeq (sFor (iR1 (eV 2)) (.nm 7) (sSeq (sSet 8 (eCall p__law_share [false, false, false] [(eV 3), (eRg1 (eV 2)), (eV 7)] []))
  (sSeq (sIf (tNot (tE (eCall (p__law_same 70) [false, false] [(eCall p_share [false, false, false] [(eU listD (eV 3)), (eV 4), (eV 7)] []), (eV 8)] []))) (sRet (eC (.bl false))) sNx)
  (sIf (tB eqD (eCall p__law_take [true, false] [(eV 1), (eC (.int 2))] []) (eC (.int 0))) (sItem (eV 6) (eV 7) (eCall p__law_add [false, false] [(eV 8), (eCall p__law_make [false, false] [(eB subD (eCall p__law_take [true, false] [(eV 1), (eC (.int 3))] []) (eC (.int 1))), (eB addD (eC (.int 1)) (eCall p__law_take [true, false] [(eV 1), (eC (.int 2))] []))] [])] [])) sNx))))
  b_law_1)))))))
def p_law : Fn := run 17 b_law
end UbK
section
open PySem UbP UbM
local macro_rules | `(tactic| walk_at "wp") => `(tactic| simp -implicitDefEqProofs only [sat_st, fsat_st, fst_run, st_ok, st_exc, st_bad, st_ret, st_bnd, st_optS, st_optN, st_optI, st_optMap, st_optBind, st_iteB, st_now_d, st_now_f, st_now_o, st_stay_d, st_stay_f, st_eC, st_eV, st_eU, st_eB, st_tB, st_truM, st_tE, st_tNot, st_tAnd, st_tOr, st_tCh, st_eAnd, st_eOr, st_eNot, st_eIf, st_args0, st_args1, st_eTup, st_eLst, st_intM, st_eSl, st_ownL, st_putL, st_recv, st_eApp, st_ePop, st_eRev, st_eExt, st_callB, st_eCall, st_newB, st_eNew, st_ownO, st_eChn, st_eIdx, isL_l, st_ePopA, st_eEf, st_eIsE, st_eLc2, add_t, sl_t, sl_s, wk_str, in_sgn, st_sFld, st_sSlc, st_sAgI, int_of, fst_ret, fst_exc, st_sSeq, st_sRet, st_sNx, st_sBk, st_sCt, st_sRetN, st_sIf, st_putM, st_sSet, st_sAsg, st_ownP, st_sOwn, st_frz, st_sPar, st_sEx, st_sItem, sItem2, sPut, st_datM, st_sAug, st_sRaise, st_after, st_sTry, st_sFor, st_turn, st_lcStep, st_gxStep, st_eLc, st_eGx, st_iE, st_iR1, st_iR2, st_iEn, st_iZ, st_iZ3, st_iRv, rdS,
  goOn, cB, vI, vB, wk_lst, ls_lst, tr_lst, tp_lst, rv_lst, sl_lst, wk_lsf, ls_lsf, tr_lsf, rv_lsf, sl_lsf, wk_tup, ls_tup, tr_tup, tp_tup, lo_lst, so_lst, so_lsf, so_tup, tr_non, tr_bl, tr_int, tr_r, ii_non_int, ii_non_bool, ii_non_str, ii_non_list, ii_non_tuple, nn_non, nt_non, ii_bl_int, ii_bl_bool, ii_bl_str, ii_bl_list, ii_bl_tuple, nn_bl, nt_bl, nn_bb, nt_bb, ii_int_int, ii_int_bool, ii_int_str, ii_int_list, ii_int_tuple, nn_int, nt_int, ii_str_int, ii_str_bool, ii_str_str, ii_str_list, ii_str_tuple, nn_str, nt_str, ii_lst_int, ii_lst_bool, ii_lst_str, ii_lst_list, ii_lst_tuple, nn_lst, nt_lst, ii_tup_int, ii_tup_bool, ii_tup_str, ii_tup_list, ii_tup_tuple, nn_tup, nt_tup, ii_r_int, ii_r_bool, ii_r_str, ii_r_list, ii_r_tuple, nn_r, nt_r, op_add, op_sub, op_mul, op_fdv, op_mod, op_pow, op_gcd, op_lcm, op_min, op_max, op_lt, op_le, op_gt, op_ge, op_adds, op_addl, op_mull, op_neg, op_abs, op_int, op_intb,
  ix_r0, ix_r1, ix_lst, ix_lsf, ix_tup, len_lst, len_lsf, len_tup, len_r, eq_int, ne_int, eq_str, ne_str, eq_bl, ne_bl, eq_in, eq_ni, eq_nn, ne_in, ne_ni, ne_nn, eq_r, ne_r, eq_rs, ne_rs, atL_nat, atL0, atL1, atL2, atL3, atL4, atL5, ixI0, ixI1, ixI2, ixI3,
  LIM, stays, vw_stay_d, vw_stay_f, vw_stay_o, vw_now_d, vw_now_f, vw_now_o, vw_dull_d, vw_dull_f, vw_dull_o, vw_new_f, vw_view_d, vw_view_f, vw_view_o, vw_noL_d, vw_noL_f, toD_l, toD_o, mkArgs, ownIx, lookIx, nodup, passOk, putBack, putT, putTs, putN_eq, putOk_no, putOk_dat, putOk_own, putOk_jk, isDat_jk, isDat_no, isDat_dat, pars_jk, pars_no, pars_dat, pars_own, pars_par, pars_nilW, exFree_nil, exFree_cons, exF1_no, exF1_dat, exF1_own, exF1_par, exF1_jk, frzE, getO, setO, wipeE, backE, freeAt,  okT, okFl,
  List.cons_append, List.nil_append, List.append_nil, List.replicate_succ, List.replicate_zero, List.set_cons_zero, List.set_cons_succ, List.getElem?_cons_zero, List.getElem?_cons_succ, List.map_cons, List.map_nil, List.getD_cons_zero, List.getD_cons_succ, List.all_cons, List.all_nil, List.contains_cons, List.contains_nil, List.isEmpty_nil, List.isEmpty_cons, List.take_succ_cons, List.take_zero, List.zip_cons_cons, List.zip_nil_left, List.length_cons, List.length_nil, List.length_map, List.getElem?_map, Option.toList,
  Option.map_some, Option.map_none, Option.bind_some, Option.bind_none, Option.isNone_none, Option.isNone_some, Option.some.injEq, Bool.and_true, Bool.true_and, Bool.and_false, Bool.false_and, Bool.or_true, Bool.or_false, Bool.true_or, Bool.false_or, Bool.not_true, Bool.not_false, and_true, true_and, false_and, and_false, if_true, if_false, reduceCtorEq, eq_self, Bool.false_eq_true, Bool.true_eq_false, forall_const, false_implies, true_implies, imp_self, implies_true, Nat.reduceAdd, Nat.reduceSub, Nat.reduceBEq, beq_self_eq_true, decide_true, decide_false, reduceIte, Nat.reduceEqDiff, Nat.reduceLT, Nat.reduceLeDiff, decide_eq_true_eq, decide_eq_false_iff_not, Bool.not_eq_true', Bool.not_eq_false', Bool.not_not, ne_eq, not_false_eq_true, not_true_eq_false, String.reduceBEq, String.reduceEq, Int.toNat_natCast])
local macro_rules | `(tactic| walk_at "wg") => `(tactic| simp -implicitDefEqProofs only [sat_st, fsat_st, fst_run, st_ok, st_exc, st_bad, st_ret, st_bnd, st_optS, st_optN, st_optI, st_optMap, st_optBind, st_iteB, st_now_d, st_now_f, st_now_o, st_stay_d, st_stay_f, st_eC, st_eV, st_eU, st_eB, st_tB, st_truM, st_tE, st_tNot, st_tAnd, st_tOr, st_tCh, st_eAnd, st_eOr, st_eNot, st_eIf, st_args0, st_args1, st_eTup, st_eLst, st_intM, st_eSl, st_ownL, st_putL, st_recv, st_eApp, st_ePop, st_eRev, st_eExt, st_callB, st_eCall, st_newB, st_eNew, st_ownO, st_eChn, st_eIdx, isL_l, st_ePopA, st_eEf, st_eIsE, st_eLc2, add_t, sl_t, sl_s, wk_str, in_sgn, st_sFld, st_sSlc, st_sAgI, int_of, fst_ret, fst_exc, st_sSeq, st_sRet, st_sNx, st_sBk, st_sCt, st_sRetN, st_sIf, st_putM, st_sSet, st_sAsg, st_ownP, st_sOwn, st_frz, st_sPar, st_sEx, st_sItem, sItem2, sPut, st_datM, st_sAug, st_sRaise, st_after, st_sTry, st_sFor, st_turn, st_lcStep, st_gxStep, st_eLc, st_eGx, st_iE, st_iR1, st_iR2, st_iEn, st_iZ, st_iZ3, st_iRv, rdS,
  goOn, cB, vI, vB, wk_lst, ls_lst, tr_lst, tp_lst, rv_lst, sl_lst, wk_lsf, ls_lsf, tr_lsf, rv_lsf, sl_lsf, wk_tup, ls_tup, tr_tup, tp_tup, lo_lst, so_lst, so_lsf, so_tup, tr_non, tr_bl, tr_int, tr_r, ii_non_int, ii_non_bool, ii_non_str, ii_non_list, ii_non_tuple, nn_non, nt_non, ii_bl_int, ii_bl_bool, ii_bl_str, ii_bl_list, ii_bl_tuple, nn_bl, nt_bl, nn_bb, nt_bb, ii_int_int, ii_int_bool, ii_int_str, ii_int_list, ii_int_tuple, nn_int, nt_int, ii_str_int, ii_str_bool, ii_str_str, ii_str_list, ii_str_tuple, nn_str, nt_str, ii_lst_int, ii_lst_bool, ii_lst_str, ii_lst_list, ii_lst_tuple, nn_lst, nt_lst, ii_tup_int, ii_tup_bool, ii_tup_str, ii_tup_list, ii_tup_tuple, nn_tup, nt_tup, ii_r_int, ii_r_bool, ii_r_str, ii_r_list, ii_r_tuple, nn_r, nt_r, op_add, op_sub, op_mul, op_fdv, op_mod, op_pow, op_gcd, op_lcm, op_min, op_max, op_lt, op_le, op_gt, op_ge, op_adds, op_addl, op_mull, op_neg, op_abs, op_int, op_intb,
  ix_r0, ix_r1, ix_lst, ix_lsf, ix_tup, len_lst, len_lsf, len_tup, len_r, eq_int, ne_int, eq_str, ne_str, eq_bl, ne_bl, eq_in, eq_ni, eq_nn, ne_in, ne_ni, ne_nn, eq_r, ne_r, eq_rs, ne_rs, atL_nat, atL0, atL1, atL2, atL3, atL4, atL5, ixI0, ixI1, ixI2, ixI3,
  LIM, stays, vw_stay_d, vw_stay_f, vw_stay_o, vw_now_d, vw_now_f, vw_now_o, vw_dull_d, vw_dull_f, vw_dull_o, vw_new_f, vw_view_d, vw_view_f, vw_view_o, vw_noL_d, vw_noL_f, toD_l, toD_o, mkArgs, ownIx, lookIx, nodup, passOk, putBack, putT, putTs, putN_eq, putOk_no, putOk_dat, putOk_own, putOk_jk, isDat_jk, isDat_no, isDat_dat, pars_jk, pars_no, pars_dat, pars_own, pars_par, pars_nilW, exFree_nil, exFree_cons, exF1_no, exF1_dat, exF1_own, exF1_par, exF1_jk, frzE, getO, setO, wipeE, backE, freeAt,  okT, okFl,
  List.cons_append, List.nil_append, List.append_nil, List.replicate_succ, List.replicate_zero, List.set_cons_zero, List.set_cons_succ, List.getElem?_cons_zero, List.getElem?_cons_succ, List.map_cons, List.map_nil, List.getD_cons_zero, List.getD_cons_succ, List.all_cons, List.all_nil, List.contains_cons, List.contains_nil, List.isEmpty_nil, List.isEmpty_cons, List.take_succ_cons, List.take_zero, List.zip_cons_cons, List.zip_nil_left, List.length_cons, List.length_nil, List.length_map, List.getElem?_map, Option.toList,
  Option.map_some, Option.map_none, Option.bind_some, Option.bind_none, Option.isNone_none, Option.isNone_some, Option.some.injEq, Bool.and_true, Bool.true_and, Bool.and_false, Bool.false_and, Bool.or_true, Bool.or_false, Bool.true_or, Bool.false_or, Bool.not_true, Bool.not_false, and_true, true_and, false_and, and_false, if_true, if_false, reduceCtorEq, eq_self, Bool.false_eq_true, Bool.true_eq_false, forall_const, false_implies, true_implies, imp_self, implies_true, Nat.reduceAdd, Nat.reduceSub, Nat.reduceBEq, beq_self_eq_true, decide_true, decide_false, reduceIte, Nat.reduceEqDiff, Nat.reduceLT, Nat.reduceLeDiff, decide_eq_true_eq, decide_eq_false_iff_not, Bool.not_eq_true', Bool.not_eq_false', Bool.not_not, ne_eq, not_false_eq_true, not_true_eq_false, String.reduceBEq, String.reduceEq, Int.toNat_natCast, nc0, nc1, nc2, nc3, nc4, nc5, nc6, Int.reduceLE, Int.reduceLT, Int.reduceEq, Int.reduceGE, Int.reduceGT, str_inj, nd_ix0, in_three, in_four, gf_ag, gf_ou, gf_ai, gf_pa, gf_lo, gf_nd, gmC_toD, nn_gm, nt_gm, eq_nats, ne_nats, ix_ag0, ix_ag1, ix_kd0, ix_kd1, ix_kd2, ix_kd3, put_ag, put_kd, ii_kd])
namespace UbK
def RowC (c : Ct) : Prop := ∃ ns : List Int, c = .l (ns.map .int)
theorem fmod_rng {a m : Int} (hm : 0 < m) : 0 ≤ a.fmod m ∧ a.fmod m < m := by
  rw [Int.fmod_eq_emod_of_nonneg _ (by omega)]
  exact ⟨Int.emod_nonneg _ (by omega), Int.emod_lt_of_pos _ hm⟩
theorem t__law_take {c : Ct} {m : Int} (hc : RowC c) (hm : 0 < m) : ∃ v c', p__law_take [.par c, .dat (.int m)] = .ret (.d (.int v)) [c'] ∧ 0 ≤ v ∧ v < m ∧ RowC c' := by
  have key : fsat (p__law_take [.par c, .dat (.int m)]) (fun w cs => ∃ v c', w = .d (.int v) ∧ cs = [c'] ∧ 0 ≤ v ∧ v < m ∧ RowC c') fun _ _ => False := by
    obtain ⟨ns, rfl⟩ := hc
    rcases List.eq_nil_or_concat ns with rfl | ⟨ns', z, rfl⟩
    · unfold p__law_take b__law_take
      walk_at "wg"
      exact ⟨0, _, rfl, rfl, by omega, hm, ⟨[], rfl⟩⟩
    · rw [List.concat_eq_append, List.map_append]
      unfold p__law_take b__law_take
      walk_at "wg"
      refine ⟨fun h => absurd h (by simp; omega), fun _ => ?_⟩
      rw [List.getLast?_concat, List.dropLast_concat]
      walk_at "wg"
      exact ⟨by omega, _, _, rfl, rfl, (fmod_rng hm).1, (fmod_rng hm).2, ⟨ns', rfl⟩⟩
  obtain ⟨w, cs, e, v, c', rfl, rfl, q⟩ := fsat_out key
  exact ⟨v, c', e, q⟩
theorem lst2 (l : List Int) (a b : Int) : l.map D.int ++ [.int a] ++ [.int b] = (l ++ [a] ++ [b]).map D.int := by rw [List.map_append, List.map_append]; rfl
theorem lst1 (l : List Int) (a : Int) : l.map D.int ++ [.int a] = (l ++ [a]).map D.int := by rw [List.map_append]; rfl
theorem t__law_draws {ns : List Int} (hl : ns.length ≤ 63) : ∃ c, p__law_draws [.dat (.lsf (ns.map .int))] = .ret (.f c) [] ∧ RowC c := by
  have key : fsat (p__law_draws [.dat (.lsf (ns.map .int))]) (fun w cs => ∃ c : Ct, w = .f c ∧ cs = [] ∧ RowC c) fun _ _ => False := by
    unfold p__law_draws b__law_draws
    have h1 : Int.natAbs 48271 < 2 ^ 64 := by decide
    have h2 : Int.natAbs 69621 < 2 ^ 64 := by decide
    walk_at "wg"
    refine for_inv (fun pre e => ∃ (l : List Int) (s2 s3 s4 s5 : Option D), e = [.dat (.lsf (ns.map .int)), .own (.l (l.map .int)), jk s2, jk s3, jk s4, jk s5, .no] ∧ l.length ≤ 62 * pre.length) ⟨[], none, none, none, none, rfl, by simp⟩ ?_ ?_
    · rintro pre x post e hx ⟨l, s2, s3, s4, s5, rfl, hll⟩
      have hpl : pre.length + 1 ≤ 63 := by
        have := congrArg List.length hx
        rw [List.length_append, List.length_cons] at this
        omega
      walk_at "wg"
      rw [show intsL 0 (Int.toNat 60) = (List.range 60).map fun (k : Nat) => D.int (k : Int) from ints0 60]
      have inner : ∀ (l : List Int) (y : Int) (s4 s5 : Option D), l.length ≤ 62 * pre.length + 2 → @st Fl (forL (Tg.nm 5) (sIf (tB gtD (eV 3) (eC (D.int 0))) (sSeq (sEx (eApp (eV 1) (eB modD (eU intD (eV 3)) (eC (D.int 997))))) (sSet 3 (eB fdivD (eV 3) (eC (D.int 997))))) sNx) ((List.range 60).map fun (k : Nat) => D.int (k : Int)) [.dat (.lsf (ns.map .int)), .own (.l (l.map .int)), .dat (.int x), .dat (.int y), jk s4, jk s5, .no]) ⟨fun f e => f = .nx ∧ ∃ (l : List Int) (s2 s3 s4 s5 : Option D), e = [.dat (.lsf (ns.map .int)), .own (.l (l.map .int)), jk s2, jk s3, jk s4, jk s5, .no] ∧ l.length ≤ 62 * (pre ++ [x]).length⟩ ⟨fun _ _ => False⟩ := fun l y s4 s5 hl2 => by
        refine for_inv (fun pre' e => ∃ (l : List Int) (y : Int) (s4 s5 : Option D), e = [.dat (.lsf (ns.map .int)), .own (.l (l.map .int)), .dat (.int x), .dat (.int y), jk s4, jk s5, .no] ∧ l.length ≤ 62 * pre.length + 2 + pre'.length) ⟨l, y, s4, s5, rfl, by simpa using hl2⟩ ?_ ?_
        · rintro pre' k post' e hx' ⟨l, y, s4, s5, rfl, hl3⟩
          have hk : pre'.length + 1 ≤ 60 := by
            have := congrArg List.length hx'
            rw [List.length_append, List.length_cons, List.length_range] at this
            omega
          walk_at "wg"
          refine ⟨fun _ => ⟨by omega, by decide +kernel, l ++ [y.fmod 997], y.fdiv 997, s4, some (.int (k : Int)), ?_, ?_⟩, fun _ => ⟨l, y, s4, some (.int (k : Int)), rfl, ?_⟩⟩
          · rw [lst1]; rfl
          · rw [List.length_append, List.length_append]; simp; omega
          · rw [List.length_append]; simp; omega
        · rintro e ⟨l, y, s4, s5, rfl, hl3⟩
          rw [List.length_range] at hl3
          exact ⟨rfl, l, some (.int x), some (.int y), s4, s5, rfl, by rw [List.length_append]; simp; omega⟩
      refine ⟨by decide, fun _ => ⟨mul_sm2 h1, mul_sm2 h2, by omega, by decide +kernel, by rw [List.length_append, List.length_map]; simp; omega, by decide, ?_⟩, fun _ => ⟨by decide, ?_⟩⟩
      · rw [lst2]
        refine st_mono (inner _ 0 (some _) s5 (by rw [List.length_append, List.length_append]; simp; omega)) (fun f e ⟨hf, h⟩ => ?_) (fun _ _ z => z.elim)
        subst hf
        exact h
      · refine st_mono (inner l _ s4 s5 (by omega)) (fun f e ⟨hf, h⟩ => ?_) (fun _ _ z => z.elim)
        subst hf
        exact h
    · rintro e ⟨l, s2, s3, s4, s5, rfl, hll⟩
      walk_at "wg"
      rw [show intsL 0 (Int.toNat 60) = (List.range 60).map fun (k : Nat) => D.int (k : Int) from ints0 60]
      have fin : ∀ (y : Int), @st Fl (forL (Tg.nm 5) (sSeq (sSet 6 (eB modD (eU intD (eB addD (eB mulD (eV 6) (eC (D.int 48271))) (eC (D.int 69621)))) (eC (D.int 2147483647)))) (sEx (eApp (eV 1) (eB fdivD (eV 6) (eC (D.int 5)))))) ((List.range 60).map fun (k : Nat) => D.int (k : Int)) [.dat (.lsf (ns.map .int)), .own (.l (l.map .int)), jk s2, jk s3, jk s4, jk s5, .dat (.int y)]) ⟨fun f e => f = .nx ∧ ∃ (l : List Int) (y : Int) (s2 s3 s4 s5 : Option D), e = [.dat (.lsf (ns.map .int)), .own (.l (l.map .int)), jk s2, jk s3, jk s4, jk s5, .dat (.int y)] ∧ l.length ≤ 5000⟩ ⟨fun _ _ => False⟩ := fun y => by
        refine for_inv (fun pre' e => ∃ (l' : List Int) (y : Int) (s5 : Option D), e = [.dat (.lsf (ns.map .int)), .own (.l (l'.map .int)), jk s2, jk s3, jk s4, jk s5, .dat (.int y)] ∧ l'.length = l.length + pre'.length) ⟨l, y, s5, rfl, rfl⟩ ?_ ?_
        · rintro pre' k post' e hx' ⟨l', y, s5, rfl, hl3⟩
          have hk : pre'.length + 1 ≤ 60 := by
            have := congrArg List.length hx'
            rw [List.length_append, List.length_cons, List.length_range] at this
            omega
          walk_at "wg"
          refine ⟨mul_sm2 h1, by decide +kernel, by omega, l' ++ [((y * 48271 + 69621).fmod 2147483647).fdiv 5], (y * 48271 + 69621).fmod 2147483647, some (.int (k : Int)), ?_, ?_⟩
          · rw [lst1]; rfl
          · rw [List.length_append, List.length_append, hl3]; rfl
        · rintro e ⟨l', y, s5, rfl, hl3⟩
          rw [List.length_range] at hl3
          exact ⟨rfl, l', y, s2, s3, s4, s5, rfl, by omega⟩
      refine ⟨fun h0 => ?_, fun _ => ⟨by decide, ?_⟩⟩
      · rw [getD_ok (d := 0) (show 0 < ns.length by omega)]
        walk_at "wg"
        refine ⟨by decide, ?_⟩
        rw [show intsL 0 (Int.toNat 60) = (List.range 60).map fun (k : Nat) => D.int (k : Int) from ints0 60]
        refine st_mono (fin _) (fun f e ⟨hf, l, y, s2, s3, s4, s5, he, h⟩ => ?_) (fun _ _ z => z.elim)
        subst hf he
        walk_at "wg"
        exact ⟨_, rfl, l.reverse, by rw [List.map_reverse]⟩
      · refine st_mono (fin _) (fun f e ⟨hf, l, y, s2, s3, s4, s5, he, h⟩ => ?_) (fun _ _ z => z.elim)
        subst hf he
        walk_at "wg"
        exact ⟨_, rfl, l.reverse, by rw [List.map_reverse]⟩
  obtain ⟨w, cs, e, c, rfl, rfl, h⟩ := fsat_out key
  exact ⟨c, e, h⟩
theorem t_make {p q : Int} {n : Nat} (hq : q ≠ 0) (h2 : q.natAbs < 2 ^ n) (hn : n < 9000) : p_make [.dat (.int p), .dat (.int q)] = .ret (.d (rD (Rat.divInt p q))) [] := by
  refine fsat_eq ?_
  unfold p_make b_make
  have hg := gcd_pos (p := p) hq
  have hgl : (Nat.gcd p.natAbs q.natAbs) < 2 ^ n := Nat.lt_of_le_of_lt (Nat.le_of_dvd (by omega) (Nat.gcd_dvd_right ..)) h2
  have hg2 : UbP.log2 ((Nat.gcd p.natAbs q.natAbs : Nat) : Int) < 9000 := log2_9 (n := n) (by rw [Int.natAbs_natCast]; exact hgl) (by omega)
  have hg3 : UbP.log2 (-((Nat.gcd p.natAbs q.natAbs : Nat) : Int)) < 9000 := log2_9 (n := n) (by rw [Int.natAbs_neg, Int.natAbs_natCast]; exact hgl) (by omega)
  walk_at "wp"
  refine ⟨fun h => absurd h hq, fun _ => ⟨fun hq0 => ⟨⟨by omega, hg3⟩, ⟨by omega, hg3⟩, ?_⟩, fun hq0 => ⟨⟨by omega, hg2⟩, ⟨by omega, hg2⟩, ?_⟩⟩⟩
  · rw [num_neg hq0, den_neg hq0]; rfl
  · rw [Int.fdiv_eq_ediv_of_nonneg _ (by omega), Int.fdiv_eq_ediv_of_nonneg _ (by omega), num_pos (show 0 < q by omega), den_pos (show 0 < q by omega)]; rfl
theorem t_add {a b : Rat} {n m : Nat} (ha : Bd n a) (hb : Bd m b) (hn : n + m < 9000) : p_add [.dat (rD a), .dat (rD b)] = .ret (.d (rD (a + b))) [] := by
  refine fsat_eq ?_
  unfold p_add b_add
  walk_at "wp"
  refine ⟨mul_ok ha.1 (den_lt hb) (by omega), mul_ok hb.1 (den_lt ha) (by omega), mul_ok (den_lt ha) (den_lt hb) (by omega), ?_⟩
  rw [t_make (n := n + m) (Int.mul_ne_zero (den_ne a) (den_ne b)) (mul_lt (den_lt ha) (den_lt hb)) (by omega), add_as]
  walk_at "wp"
theorem t_multiply {a b : Rat} {n m : Nat} (ha : Bd n a) (hb : Bd m b) (hn : n + m < 9000) : p_multiply [.dat (rD a), .dat (rD b)] = .ret (.d (rD (a * b))) [] := by
  refine fsat_eq ?_
  unfold p_multiply b_multiply
  walk_at "wp"
  refine ⟨mul_ok ha.1 hb.1 (by omega), mul_ok (den_lt ha) (den_lt hb) (by omega), ?_⟩
  rw [t_make (n := n + m) (Int.mul_ne_zero (den_ne a) (den_ne b)) (mul_lt (den_lt ha) (den_lt hb)) (by omega), mul_as]
  walk_at "wp"
theorem t_subtract {a b : Rat} {n m : Nat} (ha : Bd n a) (hb : Bd m b) (hn : n + m < 9000) : p_subtract [.dat (rD a), .dat (rD b)] = .ret (.d (rD (a - b))) [] := by
  refine fsat_eq ?_
  unfold p_subtract b_subtract
  walk_at "wg"
  refine ⟨mul_ok ha.1 (den_lt hb) (by omega), mul_ok hb.1 (den_lt ha) (by omega), mul_ok (den_lt ha) (den_lt hb) (by omega), ?_⟩
  rw [t_make (n := n + m) (Int.mul_ne_zero (den_ne a) (den_ne b)) (mul_lt (den_lt ha) (den_lt hb)) (by omega), sub_as]
  walk_at "wg"
theorem sgn_pair (x y : Int) : p_sign [.dat (.tup [.int x, .int y])] = .ret (.d (.int (if 0 < x then 1 else if x < 0 then -1 else 0))) [] := by
  refine fsat_eq ?_
  unfold p_sign b_sign
  walk_at "wg"
  refine ⟨fun h => by rw [if_pos h], fun h => ⟨fun h2 => by rw [if_neg h, if_pos h2], fun h2 => by rw [if_neg h, if_neg h2]⟩⟩
theorem t_compare {a b : Rat} {n m : Nat} (ha : Bd n a) (hb : Bd m b) (hn : n + m < 800000) : p_compare [.dat (rD a), .dat (rD b)] = .ret (.d (.int (if b < a then 1 else if a < b then -1 else 0))) [] := by
  refine fsat_eq ?_
  unfold p_compare b_compare
  walk_at "wg"
  refine ⟨mul_ok ha.1 (den_lt hb) (by omega), mul_ok hb.1 (den_lt ha) (by omega), mul_ok (den_lt ha) (den_lt hb) (by omega), ?_⟩
  rw [sgn_pair]
  walk_at "wg"
  have e1 : (0 < a.num * (b.den : Int) - b.num * (a.den : Int)) = (b < a) := by
    rw [Rat.lt_iff]
    exact propext ⟨fun h => by omega, fun h => by omega⟩
  have e2 : (a.num * (b.den : Int) - b.num * (a.den : Int) < 0) = (a < b) := by
    rw [Rat.lt_iff]
    exact propext ⟨fun h => by omega, fun h => by omega⟩
  simp only [e1, e2]
theorem cmp_lt (a b : Rat) : ((if b < a then (1 : Int) else if a < b then -1 else 0) < 0) = (a < b) := by
  by_cases h1 : b < a
  · rw [if_pos h1]; exact propext ⟨fun h => by omega, fun h => absurd h (Rat.not_lt.mpr (Rat.le_of_lt h1))⟩
  · rw [if_neg h1]
    by_cases h2 : a < b
    · rw [if_pos h2]; exact propext ⟨fun _ => h2, fun _ => by decide⟩
    · rw [if_neg h2]; exact propext ⟨fun h => by omega, fun h => absurd h h2⟩
theorem cmp_gt (a b : Rat) : (0 < (if b < a then (1 : Int) else if a < b then -1 else 0)) = (b < a) := by
  by_cases h1 : b < a
  · rw [if_pos h1]; exact propext ⟨fun _ => h1, fun _ => by decide⟩
  · rw [if_neg h1]
    by_cases h2 : a < b
    · rw [if_pos h2]; exact propext ⟨fun h => by omega, fun h => absurd h h1⟩
    · rw [if_neg h2]; exact propext ⟨fun h => by omega, fun h => absurd h h1⟩
theorem cut1 {α : Type} (l : List α) : cut l (some 1) none = l.drop 1 := by
  unfold cut sIx
  simp
  cases l with
  | nil => simp
  | cons a l => simp [Nat.min_eq_left]
theorem enum_map {α : Type} (g : α → D) (l : List α) : enumF (l.map g) = (l.zipIdx).map fun p => D.tup [.int (p.2 : Nat), g p.1] := by
  unfold enumF
  apply List.ext_getElem?
  intro k
  rw [List.length_map, List.getElem?_map, List.getElem?_map, List.getElem?_zipIdx]
  by_cases h : k < l.length
  · rw [List.getElem?_range h, List.getElem?_eq_getElem h]
    show some (D.tup [.int (k : Nat), (l.map g).getD k .non]) = some (D.tup [.int ((0 + k : Nat)), g l[k]])
    rw [List.getD_eq_getElem?_getD, List.getElem?_map, List.getElem?_eq_getElem h, Nat.zero_add]
    rfl
  · rw [List.getElem?_eq_none (by rw [List.length_range]; omega), List.getElem?_eq_none (by omega)]
    rfl
theorem zipIdx_split {α : Type} {l : List α} {pre post : List (α × Nat)} {p : α × Nat} (h : l.zipIdx = pre ++ p :: post) : p.2 = pre.length ∧ l[p.2]? = some p.1 ∧ p.2 < l.length := by
  have e := congrArg (fun z => z[pre.length]?) h
  simp only [List.getElem?_append_right (Nat.le_refl _), Nat.sub_self, List.getElem?_cons_zero, List.getElem?_zipIdx] at e
  obtain ⟨x, h1, h2⟩ := Option.map_eq_some_iff.mp e
  subst h2
  have := (List.getElem?_eq_some_iff.mp h1).1
  exact ⟨by show 0 + pre.length = _; omega, by show l[0 + pre.length]? = _; rw [Nat.zero_add]; exact h1, by show 0 + pre.length < _; omega⟩
theorem cut_to {α : Type} (l : List α) (k : Nat) (h : k ≤ l.length) : cut l none (some (k : Int)) = l.take k := by
  have e1 : sIx l.length l.length (some (k : Int)) = k := by
    show (if (k : Int) < 0 then ((k : Int) + (l.length : Int)).toNat else min ((k : Int)).toNat l.length) = k
    rw [if_neg (by omega), Int.toNat_natCast, Nat.min_eq_left h]
  show (l.drop 0).take (sIx l.length l.length (some (k : Int)) - 0) = _
  rw [e1]
  rfl
theorem cut_frm {α : Type} (l : List α) (k : Nat) : cut l (some (k : Int)) none = l.drop k := by
  have e1 : sIx l.length 0 (some (k : Int)) = min k l.length := by
    show (if (k : Int) < 0 then ((k : Int) + (l.length : Int)).toNat else min ((k : Int)).toNat l.length) = _
    rw [if_neg (by omega), Int.toNat_natCast]
  show (l.drop (sIx l.length 0 (some (k : Int)))).take (l.length - sIx l.length 0 (some (k : Int))) = _
  rw [e1, List.take_of_length_le (by rw [List.length_drop]; omega)]
  by_cases h : k ≤ l.length
  · rw [Nat.min_eq_left h]
  · rw [Nat.min_eq_right (by omega), List.drop_of_length_le (Nat.le_refl _), List.drop_of_length_le (by omega)]
theorem bigI_small {n : Nat} (h : n ≤ 1000) : bigI (n : Int) = true := by
  unfold bigI
  exact decide_eq_true (by omega)
theorem at_range {n i : Nat} {pre post : List Nat} (hx : List.range n = pre ++ i :: post) : i = pre.length ∧ i < n := by
  have h1 := congrArg (·[pre.length]?) hx
  simp only [List.getElem?_append_right (Nat.le_refl _), Nat.sub_self, List.getElem?_cons_zero] at h1
  have h2 : pre.length < n := by
    have := congrArg List.length hx
    rw [List.length_range, List.length_append, List.length_cons] at this
    omega
  rw [List.getElem?_range h2] at h1
  exact ⟨(Option.some.inj h1).symm, by have := Option.some.inj h1; omega⟩
theorem erase_perm {α : Type} : ∀ (l : List α) (j : Nat) (h : j < l.length), (l[j] :: l.eraseIdx j).Perm l
  | a :: l, 0, _ => List.Perm.refl _
  | a :: l, j + 1, h => by
    have hj : j < l.length := by rw [List.length_cons] at h; omega
    exact (List.Perm.swap a l[j] _).trans (.cons a (erase_perm l j hj))
theorem erase_map {α : Type} (f : α → D) : ∀ (l : List α) (j : Nat), (l.eraseIdx j).map f = (l.map f).eraseIdx j
  | [], _ => rfl
  | a :: l, 0 => rfl
  | a :: l, j + 1 => by
    show f a :: (l.eraseIdx j).map f = f a :: (l.map f).eraseIdx j
    rw [erase_map f l j]
theorem flat_nats (w : Nat) (l : List Nat) : (flat (.int (w : Int)) && (l.map fun x : Nat => D.int (x : Int)).all flat) = true := by
  rw [Bool.and_eq_true_iff, List.all_eq_true]
  refine ⟨rfl, fun d hd => ?_⟩
  obtain ⟨x, _, e⟩ := List.mem_map.mp hd
  rw [← e]; rfl
theorem in_nats (w : Nat) (l : List Nat) : inD (.int (w : Int)) (.lst (l.map fun x : Nat => .int (x : Int))) = some (decide (w ∈ l)) := by
  show (if ((flat (.int (w : Int)) && (l.map fun x : Nat => D.int (x : Int)).all flat) || (sh (.int (w : Int)) 40 && shAll (l.map fun x : Nat => D.int (x : Int)) 59)) = true then some (mem (.int (w : Int)) (l.map fun x : Nat => D.int (x : Int))) else none) = _
  rw [if_pos (by rw [flat_nats]; rfl)]
  congr 1
  unfold mem
  induction l with
  | nil => rfl
  | cons y l ih =>
    rw [List.map_cons, List.any_cons, ih]
    show ((y : Int) == (w : Int) || decide (w ∈ l)) = _
    rw [Bool.eq_iff_iff, Bool.or_eq_true, beq_iff_eq, decide_eq_true_eq, decide_eq_true_eq, List.mem_cons]
    constructor
    · rintro (h | h)
      · exact .inl (by omega)
      · exact .inr h
    · rintro (h | h)
      · exact .inl (by omega)
      · exact .inr h
theorem idx_nats {w : Nat} {l : List Nat} (h : w ∈ l) : idxD (.lst (l.map fun x : Nat => .int (x : Int))) (.int (w : Int)) = some (.d (.int (l.idxOf w : Nat))) := by
  show (if ((flat (.int (w : Int)) && (l.map fun x : Nat => D.int (x : Int)).all flat) || (sh (.int (w : Int)) 40 && shAll (l.map fun x : Nat => D.int (x : Int)) 59)) = true then ((l.map fun x : Nat => D.int (x : Int)).findIdx? (fun y => eqv y (.int (w : Int)))).bind (fun j => vI (j : Nat)) else none) = _
  rw [if_pos (by rw [flat_nats]; rfl)]
  have : ∀ l : List Nat, w ∈ l → (l.map fun x : Nat => D.int (x : Int)).findIdx? (fun y => eqv y (.int (w : Int))) = some (l.idxOf w) := by
    intro l
    induction l with
    | nil => intro h; cases h
    | cons y l ih =>
      intro h
      rw [List.map_cons, List.findIdx?_cons]
      show (if ((y : Int) == (w : Int)) = true then some 0 else _) = _
      by_cases e : y = w
      · subst e
        rw [if_pos (beq_self_eq_true _), List.idxOf_cons_self]
      · have hw : w ∈ l := by
          rcases List.mem_cons.mp h with h | h
          · exact absurd h.symm e
          · exact h
        rw [if_neg (by rw [beq_iff_eq]; omega), ih hw, List.idxOf_cons, show (y == w) = false from beq_eq_false_iff_ne.mpr e]
        rfl
  rw [this l h]
  rfl
theorem ints_of (l : List Int) : intsOf (l.map D.int) = some l := by
  induction l with
  | nil => rfl
  | cons x l ih => show (intsOf (l.map D.int)).map (x :: ·) = _; rw [ih]; rfl
theorem t__law_make {p q : Int} {n : Nat} (hq : 0 < q) (h2 : q.natAbs < 2 ^ n) (hn : n ≤ 3400) : p__law_make [.dat (.int p), .dat (.int q)] = .ret (.d (rD (Rat.divInt p q))) [] := by
  refine fsat_eq ?_
  unfold p__law_make b__law_make
  have ha : ∀ i : Int, (if i < 0 then -i else i) = (i.natAbs : Int) := fun i => by omega
  have hg := gcd_pos (p := p) (q := q) (by omega)
  have hgl : (Nat.gcd p.natAbs q.natAbs) < 2 ^ n := Nat.lt_of_le_of_lt (Nat.le_of_dvd (by omega) (Nat.gcd_dvd_right ..)) h2
  have hg2 : UbP.log2 ((Nat.gcd p.natAbs q.natAbs : Nat) : Int) < 9000 := log2_9 (n := n) (by rw [Int.natAbs_natCast]; exact hgl) (by omega)
  walk_at "wp"
  rw [ha, show q = ((q.natAbs : Nat) : Int) by omega]
  refine ⟨by decide, ?_⟩
  rw [ints0]
  refine for_inv (fun pre e => ∃ (x y : Nat) (s u : Option D), e = [.dat (.int p), .dat (.int (q.natAbs : Nat)), .dat (.int x), .dat (.int y), jk s, jk u] ∧ Nat.gcd x y = Nat.gcd p.natAbs q.natAbs ∧ Enf (5000 - pre.length) x y) ⟨p.natAbs, q.natAbs, none, none, rfl, rfl, enf_of h2 hn⟩ ?_ ?_
  · rintro pre k post e hx ⟨x, y, s, u, rfl, hgg, hn⟩
    walk_at "wp"
    rw [Int.fmod_eq_emod_of_nonneg _ (by omega)]
    refine ⟨fun h0 => ?_, fun h0 => ⟨h0, y, x % y, some (.int (k : Int)), some (.int ((x % y : Nat) : Int)), rfl, ?_, ?_⟩⟩
    · have h0 : y = 0 := by omega
      subst h0
      rw [Nat.gcd_zero_right] at hgg
      subst hgg
      have e1 : (q.natAbs : Int) = q := by omega
      refine ⟨⟨by omega, hg2⟩, ⟨by omega, hg2⟩, ?_⟩
      rw [e1, Int.fdiv_eq_ediv_of_nonneg _ (by omega), Int.fdiv_eq_ediv_of_nonneg _ (by omega), num_pos hq, den_pos hq]; rfl
    · rw [← hgg, Nat.gcd_comm y, ← Nat.gcd_rec, Nat.gcd_comm]
    · rw [List.length_append]
      have := hn.step (show 0 < y by omega)
      rwa [Nat.sub_sub] at this
  · rintro e ⟨x, y, s, u, rfl, _, hn⟩
    have := hn.pos
    simp at this
theorem t__law_add {a b : Rat} {n m : Nat} (ha : Bd n a) (hb : Bd m b) (hn : n + m ≤ 3400) : p__law_add [.dat (rD a), .dat (rD b)] = .ret (.d (rD (a + b))) [] := by
  refine fsat_eq ?_
  unfold p__law_add b__law_add
  walk_at "wp"
  refine ⟨mul_ok ha.1 (den_lt hb) (by omega), mul_ok hb.1 (den_lt ha) (by omega), mul_ok (den_lt ha) (den_lt hb) (by omega), ?_⟩
  rw [t__law_make (n := n + m) (Int.mul_pos (Int.natCast_pos.mpr a.den_pos) (Int.natCast_pos.mpr b.den_pos)) (mul_lt (den_lt ha) (den_lt hb)) (by omega), add_as]
  walk_at "wp"
theorem t__law_times {a b : Rat} {n m : Nat} (ha : Bd n a) (hb : Bd m b) (hn : n + m ≤ 3400) : p__law_times [.dat (rD a), .dat (rD b)] = .ret (.d (rD (a * b))) [] := by
  refine fsat_eq ?_
  unfold p__law_times b__law_times
  walk_at "wp"
  refine ⟨mul_ok ha.1 hb.1 (by omega), mul_ok (den_lt ha) (den_lt hb) (by omega), ?_⟩
  rw [t__law_make (n := n + m) (Int.mul_pos (Int.natCast_pos.mpr a.den_pos) (Int.natCast_pos.mpr b.den_pos)) (mul_lt (den_lt ha) (den_lt hb)) (by omega), mul_as]
  walk_at "wp"
theorem sub_as (a b : Rat) : Rat.divInt (a.num * (b.den : Int) - b.num * (a.den : Int)) ((a.den : Int) * (b.den : Int)) = a - b := by
  have h := add_as a (-b)
  rw [show (-b).num = -b.num from Rat.neg_num b, show (-b).den = b.den from Rat.neg_den b, ← Rat.sub_eq_add_neg] at h
  rw [← h, Int.neg_mul, Int.sub_eq_add_neg]
theorem t__law_minus {a b : Rat} {n m : Nat} (ha : Bd n a) (hb : Bd m b) (hn : n + m ≤ 3400) : p__law_minus [.dat (rD a), .dat (rD b)] = .ret (.d (rD (a - b))) [] := by
  refine fsat_eq ?_
  unfold p__law_minus b__law_minus
  walk_at "wp"
  refine ⟨mul_ok ha.1 (den_lt hb) (by omega), mul_ok hb.1 (den_lt ha) (by omega), mul_ok (den_lt ha) (den_lt hb) (by omega), ?_⟩
  rw [t__law_make (n := n + m) (Int.mul_pos (Int.natCast_pos.mpr a.den_pos) (Int.natCast_pos.mpr b.den_pos)) (mul_lt (den_lt ha) (den_lt hb)) (by omega), sub_as]
  walk_at "wp"
theorem bd_frac {p q : Int} (hp : p.natAbs < 2 ^ 31) (h1 : 1 ≤ q) (h2 : q < 2 ^ 31) : Bd 31 (Rat.divInt p q) := bd_divInt (by omega) (by omega) (by omega)
theorem t__law_fraction {c : Ct} {m : Int} (hc : RowC c) (h1 : -8 ≤ m) (h2 : m ≤ 0) : ∃ r c', p__law_fraction [.par c, .dat (.int m)] = .ret (.d (rD r)) [c'] ∧ Bd 31 r ∧ (m = 0 → 0 ≤ r.num) ∧ RowC c' := by
  have key : fsat (p__law_fraction [.par c, .dat (.int m)]) (fun w cs => ∃ r c', w = .d (rD r) ∧ cs = [c'] ∧ Bd 31 r ∧ (m = 0 → 0 ≤ r.num) ∧ RowC c') fun _ _ => False := by
    unfold p__law_fraction b__law_fraction
    walk_at "wg"
    obtain ⟨v1, c0, e1, _, _, d0⟩ := t__law_take (m := 8) hc (by decide)
    rw [e1]
    walk_at "wg"
    refine ⟨fun _ => ?_, fun _ => ⟨fun _ => ?_, fun _ => ?_⟩⟩
    · exact ⟨0, _, rfl, rfl, by unfold Bd; decide, fun _ => by decide, d0⟩
    · obtain ⟨v2, c0, e2, g2, l2, d0⟩ := t__law_take (m := 10 ^ 9) d0 (by decide)
      rw [show (10 : Int) ^ Int.toNat 9 = 10 ^ 9 from rfl, e2]
      walk_at "wg"
      obtain ⟨v3, c0, e3, g3, l3, d0⟩ := t__law_take (m := 10 ^ 6) d0 (by decide)
      rw [show (10 : Int) ^ Int.toNat 6 = 10 ^ 6 from rfl, e3]
      walk_at "wg"
      rw [t__law_make (n := 31) (by omega) (by omega) (by decide)]
      walk_at "wg"
      exact ⟨by decide, by decide, _, _, rfl, rfl, bd_frac (by omega) (by omega) (by omega), fun _ => Rat.num_nonneg.mpr (Rat.divInt_nonneg g2 (by omega)), d0⟩
    · obtain ⟨v2, c0, e2, g2, l2, d0⟩ := t__law_take (m := 13) d0 (by decide)
      rw [e2]
      walk_at "wg"
      obtain ⟨v3, c0, e3, g3, l3, d0⟩ := t__law_take (m := 3) d0 (by decide)
      rw [e3]
      walk_at "wg"
      rw [t__law_make (n := 31) (by omega) (by omega) (by decide)]
      walk_at "wg"
      exact ⟨_, _, rfl, rfl, bd_frac (by omega) (by omega) (by omega), fun h => Rat.num_nonneg.mpr (Rat.divInt_nonneg (by omega) (by omega)), d0⟩
  obtain ⟨w, cs, e, v, c', rfl, rfl, q⟩ := fsat_out key
  exact ⟨v, c', e, q⟩
theorem same_int (n : Nat) (i : Int) : p__law_same (n + 1) [.dat (.int i), .dat (.int i)] = .ret (.d (.bl true)) [] := by
  refine fsat_eq ?_
  show fsat (run 1 (b__law_same (p__law_same n)) _) _ _
  unfold b__law_same
  walk_at "wg"
theorem same_tup (n : Nat) {ds : List D} (hl : ds.length ≤ 1000) (h : ∀ d ∈ ds, p__law_same n [.dat d, .dat d] = .ret (.d (.bl true)) []) : p__law_same (n + 1) [.dat (.tup ds), .dat (.tup ds)] = .ret (.d (.bl true)) [] := by
  refine fsat_eq ?_
  show fsat (run 1 (b__law_same (p__law_same n)) _) _ _
  unfold b__law_same
  walk_at "wg"
  rw [ints0]
  refine ⟨bigI_small (by omega), ?_⟩
  refine for_inv (fun pre e => ∃ s2 : Option D, e = [.dat (.tup ds), .dat (.tup ds), jk s2]) ⟨none, rfl⟩ ?_ ?_
  · rintro pre i post e hx ⟨s2, rfl⟩
    obtain ⟨h1, h2⟩ := at_range hx
    walk_at "wg"
    rw [getD_ok (d := .non) h2]
    walk_at "wg"
    rw [getD_ok (d := .non) h2]
    walk_at "wg"
    rw [h _ (List.mem_of_getElem? (getD_ok (d := .non) h2))]
    walk_at "wg"
    exact ⟨some _, rfl⟩
  · rintro e ⟨s2, rfl⟩
    walk_at "wg"
theorem same_lst (n : Nat) {ds : List D} (hl : ds.length ≤ 1000) (h : ∀ d ∈ ds, p__law_same n [.dat d, .dat d] = .ret (.d (.bl true)) []) : p__law_same (n + 1) [.dat (.lst ds), .dat (.lst ds)] = .ret (.d (.bl true)) [] := by
  refine fsat_eq ?_
  show fsat (run 1 (b__law_same (p__law_same n)) _) _ _
  unfold b__law_same
  walk_at "wg"
  rw [ints0]
  refine ⟨bigI_small (by omega), ?_⟩
  refine for_inv (fun pre e => ∃ s2 : Option D, e = [.dat (.lst ds), .dat (.lst ds), jk s2]) ⟨none, rfl⟩ ?_ ?_
  · rintro pre i post e hx ⟨s2, rfl⟩
    obtain ⟨h1, h2⟩ := at_range hx
    walk_at "wg"
    rw [getD_ok (d := .non) h2]
    walk_at "wg"
    rw [getD_ok (d := .non) h2]
    walk_at "wg"
    rw [h _ (List.mem_of_getElem? (getD_ok (d := .non) h2))]
    walk_at "wg"
    exact ⟨some _, rfl⟩
  · rintro e ⟨s2, rfl⟩
    walk_at "wg"
theorem same_r (n : Nat) (r : Rat) : p__law_same (n + 2) [.dat (rD r), .dat (rD r)] = .ret (.d (.bl true)) [] := same_tup (n + 1) (ds := [.int r.num, .int (r.den : Int)]) (by show 2 ≤ 1000; decide) fun d hd => by
  have : d = .int r.num ∨ d = .int (r.den : Int) := by simpa using hd
  rcases this with rfl | rfl <;> exact same_int n _
theorem same_rs (n : Nat) {l : List Rat} (hl : l.length ≤ 1000) : p__law_same (n + 3) [.dat (rsD l), .dat (rsD l)] = .ret (.d (.bl true)) [] := same_lst (n + 2) (by rw [List.length_map]; exact hl) fun d hd => by
  obtain ⟨r, _, rfl⟩ := List.mem_map.mp hd
  exact same_r n r
section
theorem srt_perm : ∀ l : List Int, (sortI l).Perm l
  | [] => .refl _
  | x :: l => by
    have ins : ∀ (x : Int) (l : List Int), (insI x l).Perm (x :: l) := fun x l => by
      induction l with
      | nil => exact .refl _
      | cons y ys ih =>
        unfold insI
        split
        · exact .refl _
        · exact (ih.cons y).trans (.swap x y ys)
    exact (ins x _).trans ((srt_perm l).cons x)
theorem srt_sorted : ∀ l : List Int, (sortI l).Pairwise (· ≤ ·)
  | [] => List.Pairwise.nil
  | x :: l => by
    have ins : ∀ (x : Int) (l : List Int), l.Pairwise (· ≤ ·) → (insI x l).Pairwise (· ≤ ·) := fun x l => by
      induction l with
      | nil => intro _; exact List.pairwise_singleton _ _
      | cons y ys ih =>
        intro h
        obtain ⟨h1, h2⟩ := List.pairwise_cons.mp h
        unfold insI
        split
        · rename_i c
          refine List.pairwise_cons.mpr ⟨fun z hz => ?_, h⟩
          rcases List.mem_cons.mp hz with rfl | hz
          · exact c
          · have := h1 z hz; omega
        · rename_i c
          refine List.pairwise_cons.mpr ⟨fun z hz => ?_, ih h2⟩
          have ip : ∀ (x : Int) (l : List Int) (z : Int), z ∈ insI x l → z = x ∨ z ∈ l := fun x l z => by
            induction l with
            | nil => intro hz; exact .inl (List.mem_singleton.mp hz)
            | cons w ws ih2 =>
              intro hz
              unfold insI at hz
              split at hz
              · rcases List.mem_cons.mp hz with e | hz
                · exact .inl e
                · exact .inr hz
              · rcases List.mem_cons.mp hz with e | hz
                · exact .inr (by rw [e]; exact List.mem_cons_self)
                · rcases ih2 hz with e | hz
                  · exact .inl e
                  · exact .inr (List.mem_cons_of_mem _ hz)
          rcases ip x ys z hz with e | hz
          · omega
          · exact h1 z hz
    exact ins x _ (srt_sorted l)
theorem srt_len (l : List Int) : (sortI l).length = l.length := (srt_perm l).length_eq
theorem fold_max : ∀ (l : List Int) (a : Int), (l.foldl max a = a ∨ l.foldl max a ∈ l) ∧ a ≤ l.foldl max a ∧ ∀ y ∈ l, y ≤ l.foldl max a
  | [], a => ⟨.inl rfl, by show a ≤ a; omega, fun y hy => by cases hy⟩
  | x :: l, a => by
    obtain ⟨h1, h2, h3⟩ := fold_max l (max a x)
    show (l.foldl max (max a x) = a ∨ l.foldl max (max a x) ∈ x :: l) ∧ a ≤ l.foldl max (max a x) ∧ ∀ y ∈ x :: l, y ≤ l.foldl max (max a x)
    refine ⟨?_, by omega, fun y hy => ?_⟩
    · rcases h1 with e | e
      · rcases Int.le_total a x with c | c
        · exact .inr (by rw [e, Int.max_eq_right c]; exact List.mem_cons_self)
        · exact .inl (by rw [e, Int.max_eq_left c])
      · exact .inr (List.mem_cons_of_mem _ e)
    · rcases List.mem_cons.mp hy with rfl | hy
      · omega
      · exact h3 y hy
theorem fold_min : ∀ (l : List Int) (a : Int), (l.foldl min a = a ∨ l.foldl min a ∈ l) ∧ l.foldl min a ≤ a ∧ ∀ y ∈ l, l.foldl min a ≤ y
  | [], a => ⟨.inl rfl, by show a ≤ a; omega, fun y hy => by cases hy⟩
  | x :: l, a => by
    obtain ⟨h1, h2, h3⟩ := fold_min l (min a x)
    show (l.foldl min (min a x) = a ∨ l.foldl min (min a x) ∈ x :: l) ∧ l.foldl min (min a x) ≤ a ∧ ∀ y ∈ x :: l, l.foldl min (min a x) ≤ y
    refine ⟨?_, by omega, fun y hy => ?_⟩
    · rcases h1 with e | e
      · rcases Int.le_total a x with c | c
        · exact .inl (by rw [e, Int.min_eq_left c])
        · exact .inr (by rw [e, Int.min_eq_right c]; exact List.mem_cons_self)
      · exact .inr (List.mem_cons_of_mem _ e)
    · rcases List.mem_cons.mp hy with rfl | hy
      · omega
      · exact h3 y hy
theorem minL_of {l : List Int} {a : Int} (h : a ∈ l) (hm : ∀ y ∈ l, a ≤ y) : minL l = some a := by
  cases l with
  | nil => cases h
  | cons x l =>
    obtain ⟨h1, h2, h3⟩ := fold_min l x
    show some (l.foldl min x) = _
    congr 1
    have hx := hm x List.mem_cons_self
    have hin : l.foldl min x ∈ x :: l := by
      rcases h1 with e | e
      · rw [e]; exact List.mem_cons_self
      · exact List.mem_cons_of_mem _ e
    have := hm _ hin
    rcases List.mem_cons.mp h with e | h
    · omega
    · have := h3 a h; omega
theorem maxL_of {l : List Int} {a : Int} (h : a ∈ l) (hm : ∀ y ∈ l, y ≤ a) : maxL l = some a := by
  cases l with
  | nil => cases h
  | cons x l =>
    obtain ⟨h1, h2, h3⟩ := fold_max l x
    show some (l.foldl max x) = _
    congr 1
    have hx := hm x List.mem_cons_self
    have hin : l.foldl max x ∈ x :: l := by
      rcases h1 with e | e
      · rw [e]; exact List.mem_cons_self
      · exact List.mem_cons_of_mem _ e
    have := hm _ hin
    rcases List.mem_cons.mp h with e | h
    · omega
    · have := h3 a h; omega
theorem find_in {l : List Int} {a : Int} (h : a ∈ l) : ∃ j, ∃ hj : j < l.length, l.findIdx? (fun x => decide (x = a)) = some j ∧ l[j] = a := by
  cases e : l.findIdx? (fun x => decide (x = a)) with
  | none =>
    rw [List.findIdx?_eq_none_iff] at e
    have := e a h
    simp at this
  | some j =>
    rw [List.findIdx?_eq_some_iff_getElem] at e
    obtain ⟨hj, e1, _⟩ := e
    exact ⟨j, hj, rfl, of_decide_eq_true e1⟩
def midI (l : List Int) : Int := (sortI l).getD (l.length / 2) 0
/-- the middle part of a sorted list -/
def cutM (s : List Int) (n k : Nat) : List Int := (s.drop k).take (2 * n + 1 - 2 * k)
theorem cutM_step {s : List Int} {n k : Nat} (hs : s.length = 2 * n + 1) (hk : k < n) : ∃ a t b, cutM s n k = a :: (t ++ [b]) ∧ t = cutM s n (k + 1) := by
  have h1 : k < s.length := by omega
  have h2 : 2 * n - k < s.length := by omega
  refine ⟨s[k], cutM s n (k + 1), s[2 * n - k], ?_, rfl⟩
  unfold cutM
  rw [List.drop_eq_getElem_cons h1, show 2 * n + 1 - 2 * k = (2 * n - 2 * k) + 1 by omega, List.take_succ_cons]
  congr 1
  rw [show 2 * n - 2 * k = (2 * n + 1 - 2 * (k + 1)) + 1 by omega, List.take_succ]
  congr 1
  rw [List.getElem?_drop, show k + 1 + (2 * n + 1 - 2 * (k + 1)) = 2 * n - k by omega, List.getElem?_eq_getElem h2]
  rfl
theorem cutM_sorted {s : List Int} (h : s.Pairwise (· ≤ ·)) (n k : Nat) : (cutM s n k).Pairwise (· ≤ ·) := h.sublist ((List.take_sublist _ _).trans (List.drop_sublist _ _))
theorem t__law_middle {l : List Int} {n : Nat} (hl : l.length = 2 * n + 1) (hn : n ≤ 100) : p__law_middle [.dat (.lst (l.map .int))] = .ret (.d (.int (midI l))) [] := by
  refine fsat_eq ?_
  unfold p__law_middle b__law_middle eRem
  walk_at "wg"
  have hd : ((l.length : Nat) : Int).fdiv 2 = (n : Int) := by rw [hl, Int.fdiv_eq_ediv_of_nonneg _ (by decide)]; omega
  have hsl := srt_len l
  have hss := srt_sorted l
  have hmid : midI l = (sortI l).getD n 0 := by unfold midI; rw [hl, show (2 * n + 1) / 2 = n by omega]
  rw [hd, Int.toNat_natCast, ints0, hmid]
  have hp0 := srt_perm l
  generalize sortI l = s at hsl hss hp0 ⊢
  have hs : s.length = 2 * n + 1 := by omega
  refine ⟨by decide, bigI_small (by omega), ?_⟩
  refine for_inv (xs := List.range n) (fun pre e => ∃ (r : List Int) (s2 : Option D), e = [.dat (.lst (l.map .int)), .own (.l (r.map .int)), jk s2] ∧ r.Perm (cutM s n pre.length)) ⟨l, none, rfl, ?_⟩ ?_ ?_
  · show l.Perm ((s.drop 0).take (2 * n + 1 - 0))
    rw [List.drop_zero, List.take_of_length_le (by omega)]
    exact hp0.symm
  · rintro pre k post e hx ⟨r, s2, rfl, hr⟩
    obtain ⟨h1, hk⟩ := at_range hx
    rw [← h1] at hr
    obtain ⟨a, t, b, e1, e2⟩ := cutM_step hs hk
    have hso := cutM_sorted hss n k
    rw [e1] at hr hso
    obtain ⟨ha, hso2⟩ := List.pairwise_cons.mp hso
    have hb := (List.pairwise_append.mp hso2).2.2
    have hmin : minlD (.lst (r.map .int)) = some (.d (.int a)) := by
      show (intsOf (r.map .int)).bind (fun ns => (minL ns).bind vI) = _
      rw [ints_of]
      show (minL r).bind vI = _
      rw [minL_of (hr.mem_iff.mpr List.mem_cons_self) fun y hy => by
        rcases List.mem_cons.mp (hr.mem_iff.mp hy) with q | q
        · omega
        · exact ha y q]
      rfl
    obtain ⟨j, hj, ej, hja⟩ := find_in (hr.mem_iff.mpr (show a ∈ a :: (t ++ [b]) from List.mem_cons_self))
    have hr2 : (r.eraseIdx j).Perm (t ++ [b]) := by
      have := (erase_perm r j hj).trans hr
      rw [hja] at this
      exact this.cons_inv
    have hmax : maxlD (.lst ((r.eraseIdx j).map .int)) = some (.d (.int b)) := by
      show (intsOf ((r.eraseIdx j).map .int)).bind (fun ns => (maxL ns).bind vI) = _
      rw [ints_of]
      show (maxL (r.eraseIdx j)).bind vI = _
      rw [maxL_of (hr2.mem_iff.mpr (show b ∈ t ++ [b] by simp)) fun y hy => by
        rcases List.mem_append.mp (hr2.mem_iff.mp hy) with q | q
        · exact hb y q b (List.mem_singleton.mpr rfl)
        · rw [List.mem_singleton.mp q]; omega]
      rfl
    obtain ⟨j2, hj2, ej2, hjb⟩ := find_in (hr2.mem_iff.mpr (show b ∈ t ++ [b] by simp))
    have hr3 : ((r.eraseIdx j).eraseIdx j2).Perm t := by
      have := (erase_perm _ j2 hj2).trans hr2
      rw [hjb] at this
      exact (this.trans (List.perm_append_comm (l₂ := [b]))).cons_inv
    walk_at "wg"
    rw [hmin]
    walk_at "wg"
    rw [ints_of]
    walk_at "wg"
    rw [ej]
    walk_at "wg"
    rw [← UbK.erase_map D.int]
    rw [hmax]
    walk_at "wg"
    rw [ints_of]
    walk_at "wg"
    rw [ej2]
    walk_at "wg"
    refine ⟨(r.eraseIdx j).eraseIdx j2, some (.int (k : Int)), by rw [← UbK.erase_map D.int]; rfl, ?_⟩
    rw [List.length_append, ← h1]
    rw [e2] at hr3
    exact hr3
  · rintro e ⟨r, s2, rfl, hr⟩
    rw [List.length_range] at hr
    have e1 : cutM s n n = [s.getD n 0] := by
      unfold cutM
      rw [show 2 * n + 1 - 2 * n = 1 by omega, List.drop_eq_getElem_cons (by omega), List.take_succ_cons, List.take_zero, List.getD_eq_getElem?_getD, List.getElem?_eq_getElem (by omega)]
      rfl
    rw [e1] at hr
    rw [List.perm_singleton.mp hr]
    walk_at "wg"
end
section
theorem t_check_size {n m : Int} : p_check_size [.dat (.lst [.int n]), .dat (.int m)] = if m < n then .exc ⟨"TooLarge", [("limit", .str "size")]⟩ [] else .ret (.d .non) [] := by
  by_cases h : m < n
  · rw [if_pos h]
    refine fsat_exc ?_
    unfold p_check_size b_check_size
    walk_at "wg"
    refine gx_any (g := id) (xs := [D.int n]) (fun _ => true) (fun x hx => ?_) ?_
    · rw [List.mem_singleton] at hx
      subst hx
      walk_at "wg"
      dsimp only [id]
      walk_at "wg"
      exact h
    · walk_at "wg"
      rw [show List.any [D.int n] (fun _ => true) = true from rfl]
      walk_at "wg"
      decide
  · rw [if_neg h]
    refine fsat_eq ?_
    unfold p_check_size b_check_size
    walk_at "wg"
    refine gx_any (g := id) (xs := [D.int n]) (fun _ => false) (fun x hx => ?_) ?_
    · rw [List.mem_singleton] at hx
      subst hx
      walk_at "wg"
      dsimp only [id]
      walk_at "wg"
      omega
    · walk_at "wg"
      rw [show List.any [D.int n] (fun _ => false) = false from rfl]
      walk_at "wg"
abbrev isD (l : List Int) : D := .lst (l.map .int)
theorem t_median {a b : List Int} (h1 : a.length ≤ 100) (h2 : a.length = b.length + 1) : p_median [.dat (isD a), .dat (isD b)] = .ret (.d (.int (midI (a ++ b)))) [] := by
  refine fsat_eq ?_
  unfold p_median b_median
  walk_at "wg"
  rw [t_check_size, if_neg (by omega)]
  walk_at "wg"
  refine ⟨fun z => by omega, fun _ => ⟨fun z => z (by omega), fun _ => ⟨by omega, ?_⟩⟩⟩
  rw [← List.map_append, show sortD (.lst ((a ++ b).map D.int)) = some (.f (.l ((sortI (a ++ b)).map .int))) from by
    show (intsOf _).bind _ = _
    rw [ints_of]
    rfl]
  have hsl := srt_len (a ++ b)
  rw [List.length_append] at hsl
  have hmid : midI (a ++ b) = (sortI (a ++ b)).getD (a.length - 1) 0 := by unfold midI; rw [List.length_append, show (a.length + b.length) / 2 = a.length - 1 by omega]
  rw [hmid]
  generalize sortI (a ++ b) = s at hsl ⊢
  walk_at "wg"
  rw [show (a.length : Int) - 1 = ((a.length - 1 : Nat) : Int) by omega]
  walk_at "wg"
  rw [getD_ok (l := s) (d := 0) (show a.length - 1 < s.length by omega)]
  walk_at "wg"
theorem t_median_size {b : List Int} {a : List D} (h1 : a.length = 1001) : p_median [.dat (.lst a), .dat (isD b)] = .exc ⟨"TooLarge", [("limit", .str "size")]⟩ [] := by
  refine fsat_exc ?_
  unfold p_median b_median
  walk_at "wg"
  rw [t_check_size, if_pos (by omega)]
  walk_at "wg"
theorem t_median_bad {a b : List Int} (h1 : a.length ≤ 100) (h2 : a.length = 0 ∨ a.length ≠ b.length + 1) : p_median [.dat (isD a), .dat (isD b)] = .exc ⟨"InvalidWishes", [("reason", .str "list")]⟩ [] := by
  refine fsat_exc ?_
  unfold p_median b_median
  walk_at "wg"
  rw [t_check_size, if_neg (by omega)]
  walk_at "wg"
  exact ⟨fun _ => by decide +kernel, fun _ => ⟨fun _ => by decide +kernel, fun _ => by omega⟩⟩
theorem t__law_peak {c : Ct} (hc : RowC c) : ∃ v c', p__law_peak [.par c] = .ret (.d (.int v)) [c'] ∧ RowC c' := by
  have key : fsat (p__law_peak [.par c]) (fun w cs => ∃ v c', w = .d (.int v) ∧ cs = [c'] ∧ RowC c') fun _ _ => False := by
    unfold p__law_peak b__law_peak
    walk_at "wg"
    obtain ⟨v, c, e, g1, g2, d0⟩ := t__law_take (m := 9) hc (by decide)
    rw [e]
    walk_at "wg"
    refine ⟨fun _ => ⟨by decide, ?_⟩, fun _ => ?_⟩
    · obtain ⟨v, c, e, g1, g2, d0⟩ := t__law_take (m := 5) d0 (by decide)
      rw [e]
      walk_at "wg"
      exact ⟨_, c, rfl, rfl, d0⟩
    · obtain ⟨v, c, e, g1, g2, d0⟩ := t__law_take (m := 41) d0 (by decide)
      rw [e]
      walk_at "wg"
      exact ⟨_, c, rfl, rfl, d0⟩
  obtain ⟨w, cs, e, v, c', rfl, rfl, q⟩ := fsat_out key
  exact ⟨v, c', e, q⟩
end
section
theorem med_size {x y : D} (h : p_median [.dat x, .dat y] = .exc ⟨"TooLarge", [("limit", .str "size")]⟩ []) : p__law_refusal [.dat (.str (Str.ofString "median")), .dat x, .dat y] = .ret (.d (.str (Str.ofString "size"))) [] := by
  refine fsat_eq ?_
  unfold p__law_refusal b__law_refusal
  walk_at "wg"
  rw [h]
  walk_at "wg"
  rw [show ok_TooLarge (Str.ofString "TooLarge") = some true from by decide +kernel]
  dsimp only
  rw [show low_limit.contains (Str.ofString "TooLarge") = true from by decide +kernel, if_pos rfl]
  rfl
theorem med_wish {x y : D} (h : p_median [.dat x, .dat y] = .exc ⟨"InvalidWishes", [("reason", .str "list")]⟩ []) : p__law_refusal [.dat (.str (Str.ofString "median")), .dat x, .dat y] = .ret (.f (.l [.bl true, .bl false, .bl true])) [] := by
  refine fsat_eq ?_
  unfold p__law_refusal b__law_refusal
  walk_at "wg"
  rw [h]
  walk_at "wg"
  rw [show ok_TooLarge (Str.ofString "InvalidWishes") = some false from by decide +kernel, show ok_UnbentError (Str.ofString "InvalidWishes") = some true from by decide +kernel, show List.lookup (Str.ofString "InvalidWishes") iso_InvalidWishes = some true from by decide +kernel, show List.lookup (Str.ofString "InvalidWishes") iso_InvalidCosts = some false from by decide +kernel, show List.lookup (Str.ofString "InvalidWishes") iso_ValueError = some true from by decide +kernel]
theorem chg_size {x y : D} (h : p_charge [.dat x, .dat y] = .exc ⟨"TooLarge", [("limit", .str "size")]⟩ []) : p__law_refusal [.dat (.str (Str.ofString "charge")), .dat x, .dat y] = .ret (.d (.str (Str.ofString "size"))) [] := by
  refine fsat_eq ?_
  unfold p__law_refusal b__law_refusal
  walk_at "wg"
  rw [h]
  walk_at "wg"
  rw [show ok_TooLarge (Str.ofString "TooLarge") = some true from by decide +kernel]
  dsimp only
  rw [show low_limit.contains (Str.ofString "TooLarge") = true from by decide +kernel, if_pos rfl]
  rfl
theorem chg_cost {x y : D} (h : p_charge [.dat x, .dat y] = .exc ⟨"InvalidCosts", []⟩ []) : p__law_refusal [.dat (.str (Str.ofString "charge")), .dat x, .dat y] = .ret (.f (.l [.bl false, .bl true, .bl true])) [] := by
  refine fsat_eq ?_
  unfold p__law_refusal b__law_refusal
  walk_at "wg"
  rw [h]
  walk_at "wg"
  rw [show ok_TooLarge (Str.ofString "InvalidCosts") = some false from by decide +kernel, show ok_UnbentError (Str.ofString "InvalidCosts") = some true from by decide +kernel, show List.lookup (Str.ofString "InvalidCosts") iso_InvalidWishes = some false from by decide +kernel, show List.lookup (Str.ofString "InvalidCosts") iso_InvalidCosts = some true from by decide +kernel, show List.lookup (Str.ofString "InvalidCosts") iso_ValueError = some true from by decide +kernel]
theorem mid_ge {l : List Int} {n : Nat} (hl : l.length = 2 * n + 1) {c : Int} : c ≤ midI l ↔ n + 1 ≤ (l.filter fun x => decide (c ≤ x)).length := by
  have hsl := srt_len l
  have hss := srt_sorted l
  have hp0 := srt_perm l
  have hmid : midI l = (sortI l).getD n 0 := by unfold midI; rw [hl, show (2 * n + 1) / 2 = n by omega]
  rw [hmid, ← (hp0.filter _).length_eq]
  generalize sortI l = s at hsl hss ⊢
  have hs : s.length = 2 * n + 1 := by omega
  have hn : n < s.length := by omega
  have ed : s = s.take n ++ s[n] :: s.drop (n + 1) := by
    rw [← List.drop_eq_getElem_cons hn, List.take_append_drop]
  have eg : s.getD n 0 = s[n] := by rw [List.getD_eq_getElem?_getD, List.getElem?_eq_getElem hn]; rfl
  have hss2 := hss
  rw [ed] at hss2
  obtain ⟨q1, q2, q3⟩ := List.pairwise_append.mp hss2
  obtain ⟨q4, q5⟩ := List.pairwise_cons.mp q2
  rw [eg]
  have ef : (s.filter fun x => decide (c ≤ x)).length = ((s.take n).filter fun x => decide (c ≤ x)).length + ((s[n] :: s.drop (n + 1)).filter fun x => decide (c ≤ x)).length := by
    conv => lhs; rw [ed]
    rw [List.filter_append, List.length_append]
  rw [ef]
  constructor
  · intro h
    have : (s[n] :: s.drop (n + 1)).filter (fun x => decide (c ≤ x)) = s[n] :: s.drop (n + 1) := by
      rw [List.filter_eq_self]
      intro x hx
      rcases List.mem_cons.mp hx with e | hx
      · rw [e]; exact decide_eq_true h
      · have := q4 x hx
        exact decide_eq_true (by omega)
    rw [this, List.length_cons, List.length_drop]
    omega
  · intro h
    apply Classical.byContradiction
    intro hc
    have h1 : (s.take n).filter (fun x => decide (c ≤ x)) = [] := by
      rw [List.filter_eq_nil_iff]
      intro x hx
      have := q3 x hx s[n] List.mem_cons_self
      simp; omega
    have h2 := List.length_filter_le (fun x => decide (c ≤ x)) (s.drop (n + 1))
    rw [h1, List.filter_cons, if_neg (by simp; omega)] at h
    rw [List.length_drop] at h2
    rw [List.length_nil, Nat.zero_add] at h
    omega
theorem mid_le {l : List Int} {n : Nat} (hl : l.length = 2 * n + 1) {c : Int} : midI l ≤ c ↔ n + 1 ≤ (l.filter fun x => decide (x ≤ c)).length := by
  have h := mid_ge hl (c := c + 1)
  have hc : (l.filter fun x => decide (c + 1 ≤ x)).length + (l.filter fun x => decide (x ≤ c)).length = l.length := by
    clear h hl
    induction l with
    | nil => rfl
    | cons x l ih =>
      rw [List.filter_cons, List.filter_cons, List.length_cons]
      by_cases d : x ≤ c
      · rw [if_neg (by simp; omega), if_pos (by simp; omega), List.length_cons]; omega
      · rw [if_pos (by simp; omega), if_neg (by simp; omega), List.length_cons]; omega
  constructor
  · intro k
    have : ¬c + 1 ≤ midI l := by omega
    rw [h] at this
    omega
  · intro k
    have : ¬(n + 1 ≤ (l.filter fun x => decide (c + 1 ≤ x)).length) := by omega
    rw [← h] at this
    omega
/-- by another peak the middle moves away from the true one, or stays -/
theorem mid_lie {a b : List Int} {n : Nat} {p y : Int} (hl : (a ++ p :: b).length = 2 * n + 1) : (p ≤ midI (a ++ p :: b) ∧ midI (a ++ p :: b) ≤ midI (a ++ y :: b)) ∨ (midI (a ++ y :: b) ≤ midI (a ++ p :: b) ∧ midI (a ++ p :: b) ≤ p) := by
  have hl2 : (a ++ y :: b).length = 2 * n + 1 := by rw [← hl, List.length_append, List.length_append]; rfl
  rcases Int.lt_trichotomy p (midI (a ++ p :: b)) with h | h | h
  · refine .inl ⟨by omega, (mid_ge hl2).mpr ?_⟩
    have g := (mid_ge hl (c := midI (a ++ p :: b))).mp (by omega)
    rw [List.filter_append, List.length_append, List.filter_cons, if_neg (by simp; omega)] at g
    rw [List.filter_append, List.length_append, List.filter_cons]
    split
    · rw [List.length_cons]; omega
    · exact g
  · rcases Int.le_total (midI (a ++ p :: b)) (midI (a ++ y :: b)) with k | k
    · exact .inl ⟨by omega, k⟩
    · exact .inr ⟨k, by omega⟩
  · refine .inr ⟨(mid_le hl2).mpr ?_, by omega⟩
    have g := (mid_le hl (c := midI (a ++ p :: b))).mp (by omega)
    rw [List.filter_append, List.length_append, List.filter_cons, if_neg (by simp; omega)] at g
    rw [List.filter_append, List.length_append, List.filter_cons]
    split
    · rw [List.length_cons]; omega
    · exact g
end
section
theorem t__law_medians {c : Ct} (hc : RowC c) : ∃ c', p__law_medians [.par c] = .ret (.d (.bl true)) [c'] ∧ RowC c' := by
  have key : fsat (p__law_medians [.par c]) (fun w cs => ∃ c', w = .d (.bl true) ∧ cs = [c'] ∧ RowC c') fun _ _ => False := by
    unfold p__law_medians b__law_medians
    walk_at "wg"
    obtain ⟨v, c, e, g1, g2, d0⟩ := t__law_take (m := 9) hc (by decide)
    rw [e]
    walk_at "wg"
    obtain ⟨n, hn1, hn9, hn⟩ : ∃ n : Nat, 1 ≤ n ∧ n ≤ 9 ∧ 1 + v = (n : Int) := ⟨(1 + v).toNat, by omega, by omega, by omega⟩
    rw [hn]
    walk_at "wg"
    rw [ints0]
    refine ⟨bigI_small (by omega), ?_⟩
    refine lc_inv (xs := List.range n) (lim_le (by rw [List.length_range]; omega)) (fun pre acc e => ∃ (l : List Int) (c : Ct), acc = l.map D.int ∧ l.length = pre.length ∧ RowC c ∧ e = [.par c, .no, .no, .no, .no, .no, .no, .no, .no]) ⟨[], c, rfl, rfl, d0, rfl⟩ ?_ ?_
    · rintro pre k post acc e hx ⟨l, c, rfl, hll, d0, rfl⟩
      walk_at "wg"
      obtain ⟨v, c, e, d0⟩ := t__law_peak d0
      rw [e]
      walk_at "wg"
      exact ⟨l ++ [v], c, by rw [List.map_append]; rfl, by rw [List.length_append, List.length_append, hll]; rfl, d0, rfl⟩
    rintro acc e ⟨P, c, rfl, hP, d0, rfl⟩
    rw [List.length_range] at hP
    walk_at "wg"
    rw [hP, show (n : Int) - 1 = ((n - 1 : Nat) : Int) by omega]
    walk_at "wg"
    rw [ints0]
    refine ⟨bigI_small (by omega), ?_⟩
    refine lc_inv (xs := List.range (n - 1)) (lim_le (by rw [List.length_range]; omega)) (fun pre acc e => ∃ (l : List Int) (c : Ct), acc = l.map D.int ∧ l.length = pre.length ∧ RowC c ∧ e = [.par c, .dat (isD P), .no, .no, .no, .no, .no, .no, .no]) ⟨[], c, rfl, rfl, d0, rfl⟩ ?_ ?_
    · rintro pre k post acc e hx ⟨l, c, rfl, hll, d0, rfl⟩
      walk_at "wg"
      obtain ⟨v, c, e, d0⟩ := t__law_peak d0
      rw [e]
      walk_at "wg"
      exact ⟨l ++ [v], c, by rw [List.map_append]; rfl, by rw [List.length_append, List.length_append, hll]; rfl, d0, rfl⟩
    rintro acc e ⟨F, c, rfl, hF, d0, rfl⟩
    rw [List.length_range] at hF
    walk_at "wg"
    have hPF : (P ++ F).length = 2 * (n - 1) + 1 := by rw [List.length_append]; omega
    refine ⟨by omega, ?_⟩
    rw [← List.map_append, t__law_middle hPF (by omega)]
    walk_at "wg"
    rw [show p_median [.dat (.lst (P.map D.int)), .dat (.lst (F.map D.int))] = _ from t_median (by omega) (by omega)]
    walk_at "wg"
    rw [same_int 69]
    walk_at "wg"
    have hs1 : ∀ l : List Int, l.length ≤ 100 → p__law_same 69 [.dat (isD l), .dat (isD l)] = .ret (.d (.bl true)) [] := fun l hl => same_lst 68 (by rw [List.length_map]; omega) fun d hd => by
      obtain ⟨i, _, rfl⟩ := List.mem_map.mp hd
      exact same_int 67 i
    rw [show p__law_same 70 [.dat (.lst [.lst (P.map D.int), .lst (F.map D.int)]), .dat (.lst [.lst (P.map D.int), .lst (F.map D.int)])] = .ret (.d (.bl true)) [] from same_lst 69 (by show 2 ≤ 1000; decide) fun d hd => by
      rcases List.mem_cons.mp hd with rfl | hd
      · exact hs1 P (by omega)
      · rw [List.mem_singleton.mp hd]
        exact hs1 F (by omega)]
    walk_at "wg"
    obtain ⟨v2, c, e, g3, g4, d0⟩ := t__law_take (m := (P.length : Int)) d0 (by omega)
    rw [e]
    walk_at "wg"
    obtain ⟨a, ha, rfl⟩ : ∃ a : Nat, a < P.length ∧ v2 = (a : Int) := ⟨v2.toNat, by omega, by omega⟩
    obtain ⟨y, c, e, d0⟩ := t__law_peak d0
    rw [e]
    walk_at "wg"
    have c1 : cut (P.map D.int) none (some (a : Int)) = (P.take a).map D.int := by rw [cut_to _ _ (by rw [List.length_map]; omega), List.map_take]
    have c2 : cut (P.map D.int) (some ((a : Int) + 1)) none = (P.drop (a + 1)).map D.int := by rw [show (a : Int) + 1 = ((a + 1 : Nat) : Int) from rfl, cut_frm, List.map_drop]
    have l1 : (P.take a).length = a := by rw [List.length_take]; omega
    have l2 : (P.drop (a + 1)).length = P.length - (a + 1) := List.length_drop
    have e3 : (P.take a).map D.int ++ [.int y] ++ (P.drop (a + 1)).map D.int = (P.take a ++ y :: P.drop (a + 1)).map D.int := by rw [List.map_append, List.map_cons, List.append_assoc]; rfl
    have hPs : P = P.take a ++ P[a] :: P.drop (a + 1) := by rw [← List.drop_eq_getElem_cons ha, List.take_append_drop]
    rw [c1, c2, e3]
    refine ⟨by rw [List.length_map]; omega, by rw [List.length_append, List.length_map, List.length_map, List.length_singleton]; omega, ?_⟩
    have l3 : (P.take a ++ y :: P.drop (a + 1)).length = P.length := by rw [List.length_append, List.length_cons]; omega
    rw [show p_median [.dat (.lst ((P.take a ++ y :: P.drop (a + 1)).map D.int)), .dat (.lst (F.map D.int))] = _ from t_median (by omega) (by omega)]
    walk_at "wg"
    have hA1 : P.take a ++ P[a] :: (P.drop (a + 1) ++ F) = P ++ F := by
      conv => rhs; rw [hPs]
      rw [List.append_assoc]
      rfl
    have hA2 : P.take a ++ y :: (P.drop (a + 1) ++ F) = P.take a ++ y :: P.drop (a + 1) ++ F := by
      rw [List.append_assoc]
      rfl
    have hlie := mid_lie (a := P.take a) (b := P.drop (a + 1) ++ F) (p := P[a]) (y := y) (n := n - 1) (by rw [hA1]; exact hPF)
    rw [hA1, hA2] at hlie
    rw [List.getElem?_eq_getElem ha]
    generalize hPa : P[a] = p at hlie hPs
    generalize midI (P ++ F) = due at hlie ⊢
    generalize midI (P.take a ++ y :: P.drop (a + 1) ++ F) = oth at hlie ⊢
    walk_at "wg"
    have hr1 := med_wish (x := isD P) (y := isD (F ++ [0])) (t_median_bad (by omega) (.inr (by rw [List.length_append, List.length_singleton]; omega)))
    have hr2 := med_wish (x := isD []) (y := isD []) (t_median_bad (by decide) (.inl rfl))
    have hr3 : ∀ ds : List D, ds.length = 1001 → p__law_refusal [.dat (.str (Str.ofString "median")), .dat (.lst ds), .dat (isD [])] = .ret (.d (.str (Str.ofString "size"))) [] := fun ds hd => med_size (t_median_size hd)
    have eF : F.map D.int ++ [.int 0] = (F ++ [0]).map D.int := by rw [List.map_append]; rfl
    refine ⟨fun h1 => ⟨fun h2 => ⟨fun h3 => ?na, fun h3 => by exfalso; omega⟩, fun h2 => ?nb⟩, fun h1 => ⟨fun h3 => ?nc, fun h3 => by exfalso; omega⟩⟩
    case' na =>
      rw [List.getElem?_eq_getElem ha, hPa]
      walk_at "wg"
      refine ⟨fun z => by exfalso; omega, fun _ => ?_⟩
    case' nc =>
      rw [List.getElem?_eq_getElem ha, hPa]
      walk_at "wg"
      refine ⟨fun z => by exfalso; omega, fun _ => ?_⟩
    all_goals
      rw [eF]
      refine ⟨by omega, ?_⟩
      rw [hr1]
      walk_at "wg"
      rw [show neD (D.lst [.bl true, .bl false, .bl true]) (D.lst [.bl true, .bl false, .bl true]) = some false from ne_same rfl]
      walk_at "wg"
      rw [show p__law_refusal [.dat (.str (Str.ofString "median")), .dat (.lst []), .dat (.lst [])] = _ from hr2]
      walk_at "wg"
      rw [show neD (D.lst [.bl true, .bl false, .bl true]) (D.lst [.bl true, .bl false, .bl true]) = some false from ne_same rfl]
      walk_at "wg"
      rw [ints0]
      refine ⟨by decide, ?_⟩
      refine lc_map (xs := List.range 1001) (fun _ => D.int 0) (lim_le (by rw [List.length_range]; omega)) (fun k hk => ?_) ?_
      · walk_at "wg"
      walk_at "wg"
      rw [show p__law_refusal [.dat (.str (Str.ofString "median")), .dat (.lst ((List.range 1001).map fun _ => D.int 0)), .dat (.lst [])] = _ from hr3 _ (by rw [List.length_map, List.length_range])]
      walk_at "wg"
      exact ⟨c, rfl, d0⟩
  obtain ⟨w, cs, e, c', rfl, rfl, q⟩ := fsat_out key
  exact ⟨c', e, q⟩
end
section
def bt (g k : Nat) : Bool := decide (g / 2 ^ k % 2 = 1)
def mb (g : Nat) : List Nat := (List.range 6).filter fun k => bt g k
def grp (l : List Nat) : Nat := (l.map fun k => 2 ^ k).sum
def hit (n g m : Nat) : Bool := (List.range n).any fun k => bt g k && bt m k
theorem shl_n {a : Nat} (h : a ≤ 6) : shlD (.int 1) (.int (a : Int)) = some (.d (.int ((2 ^ a : Nat) : Int))) := by
  have : a = 0 ∨ a = 1 ∨ a = 2 ∨ a = 3 ∨ a = 4 ∨ a = 5 ∨ a = 6 := by omega
  rcases this with rfl | rfl | rfl | rfl | rfl | rfl | rfl <;> rfl
theorem shr_n (n a : Nat) : shrD (.int (n : Int)) (.int (a : Int)) = some (.d (.int ((n / 2 ^ a : Nat) : Int))) := by
  show (if 0 ≤ (a : Int) then vI ((n : Int) / 2 ^ ((a : Int)).toNat) else none) = _
  rw [if_pos (by omega), Int.toNat_natCast]
  show some (Vw.d (.int ((n : Int) / 2 ^ a))) = _
  congr 3
theorem and_n (n m : Nat) : andD (.int (n : Int)) (.int (m : Int)) = some (.d (.int ((n &&& m : Nat) : Int))) := by
  show (if 0 ≤ (n : Int) ∧ 0 ≤ (m : Int) then vI ((((n : Int)).toNat &&& ((m : Int)).toNat : Nat) : Int) else none) = _
  rw [if_pos (by omega), Int.toNat_natCast, Int.toNat_natCast]
  rfl
theorem or_n (n m : Nat) : orD (.int (n : Int)) (.int (m : Int)) = some (.d (.int ((n ||| m : Nat) : Int))) := by
  show (if 0 ≤ (n : Int) ∧ 0 ≤ (m : Int) then vI ((((n : Int)).toNat ||| ((m : Int)).toNat : Nat) : Int) else none) = _
  rw [if_pos (by omega), Int.toNat_natCast, Int.toNat_natCast]
  rfl
theorem and_1 (n : Nat) : andD (.int (n : Int)) (.int 1) = some (.d (.int ((n % 2 : Nat) : Int))) := by
  have := and_n n 1
  rw [Nat.and_one_is_mod] at this
  exact this
theorem filt_one {α : Type} (l : List α) (x : α) (f : α → Bool) : (l ++ [x]).filter f = l.filter f ++ (if f x = true then [x] else []) := by
  rw [List.filter_append]
  congr 1
  by_cases h : f x = true
  · rw [if_pos h, List.filter_cons_of_pos h]; rfl
  · rw [if_neg h, List.filter_cons_of_neg h]; rfl
theorem p2_log : ∀ k, k ≤ 6 → ¬((2 ^ k : Nat) : Int) = 0 ∧ log2 ((2 ^ k : Nat) : Int) < 9000 := by decide +kernel
theorem t__law_has {g k : Nat} (hk : k ≤ 6) : p__law_has [.dat (.int (g : Int)), .dat (.int (k : Int))] = .ret (.d (.bl (bt g k))) [] := by
  refine fsat_eq ?_
  unfold p__law_has b__law_has
  walk_at "wg"
  rw [shl_n hk]
  walk_at "wg"
  refine ⟨p2_log k hk, ?_⟩
  have e1 : ((g : Nat) : Int).fdiv ((2 ^ k : Nat) : Int) = ((g / 2 ^ k : Nat) : Int) := by
    rw [Int.fdiv_eq_ediv_of_nonneg _ (Int.natCast_nonneg _)]
    exact (Int.natCast_ediv ..).symm
  rw [e1, Int.fmod_eq_emod_of_nonneg _ (by decide)]
  unfold bt
  generalize g / 2 ^ k = x
  congr 3
  exact propext ⟨fun h => by omega, fun h => by omega⟩
theorem t__members (g : Nat) : p__members [.dat (.int (g : Int))] = .ret (.f (.l ((mb g).map fun (k : Nat) => D.int (k : Int)))) [] := by
  refine fsat_eq ?_
  unfold p__members b__members
  walk_at "wg"
  refine ⟨by decide, ?_⟩
  rw [show Int.toNat 6 = 6 from rfl, ints0]
  refine lc_inv (xs := List.range 6) (lim_le (by rw [List.length_range]; decide)) (fun pre acc e => acc = (pre.filter fun k => bt g k).map (fun (k : Nat) => D.int (k : Int)) ∧ e = [.dat (.int (g : Int)), .no]) ⟨rfl, rfl⟩ ?_ ?_
  · rintro pre k post acc e hx ⟨rfl, rfl⟩
    walk_at "wg"
    rw [shr_n]
    walk_at "wg"
    rw [and_1]
    walk_at "wg"
    rw [filt_one, List.map_append]
    unfold bt
    refine ⟨fun c => ?_, fun c => ?_⟩
    · rw [if_pos (decide_eq_true (by omega))]
      rfl
    · rw [if_neg (by rw [decide_eq_true_eq]; omega), List.map_nil, List.append_nil]
  · rintro acc e ⟨rfl, rfl⟩
    walk_at "wg"
    rfl
theorem sum_grp (l : List Nat) : sumD (.lst (l.map fun k : Nat => D.int ((2 ^ k : Nat) : Int))) = some (.d (.int (grp l : Nat))) := by
  rw [show (l.map fun k : Nat => D.int ((2 ^ k : Nat) : Int)) = (l.map fun k : Nat => ((2 ^ k : Nat) : Int)).map D.int from by rw [List.map_map]; rfl]
  show (intsOf _).bind (fun bs => vI bs.sum) = _
  rw [ints_of]
  show some (Vw.d (.int (l.map fun k : Nat => ((2 ^ k : Nat) : Int)).sum)) = _
  congr 3
  unfold grp
  induction l with
  | nil => rfl
  | cons x l ih =>
    rw [List.map_cons, List.sum_cons, ih, List.map_cons, List.sum_cons, Int.natCast_add]
theorem t__group {l : List Nat} (hl : l.length ≤ 6) (h6 : ∀ k ∈ l, k ≤ 6) : p__group [.dat (natsD l)] = .ret (.d (.int (grp l : Nat))) [] := by
  refine fsat_eq ?_
  unfold p__group b__group
  walk_at "wg"
  refine lc_map (fun k : Nat => D.int ((2 ^ k : Nat) : Int)) (lim_le (by omega)) (fun k hk => ?_) ?_
  · walk_at "wg"
    rw [shl_n (h6 k hk)]
    walk_at "wg"
  walk_at "wg"
  rw [sum_grp]
  walk_at "wg"
end
section
def partD (q : Nat × Rat) : D := .lst [.int (q.1 : Int), rD q.2]
structure PsOk (n : Nat) (ps : List (Nat × Rat)) : Prop where
  len : ps.length ≤ 4
  lt : ∀ q ∈ ps, q.1 < 2 ^ n
  bd : ∀ q ∈ ps, Bd 31 q.2
  nn : ∀ q ∈ ps, 0 ≤ q.2
def cst (n : Nat) (ps : List (Nat × Rat)) (g : Nat) : Rat := sumR (ps.map fun q => if hit n g q.1 = true then q.2 else 0)
def cstL (n : Nat) (ps : List (Nat × Rat)) : List Rat := (List.range (2 ^ n)).map (cst n ps)
theorem hit_len (n g m : Nat) : decide (0 < ((List.range n).filter fun k => bt g k && bt m k).length) = hit n g m := by
  unfold hit
  rw [Bool.eq_iff_iff, decide_eq_true_eq, List.any_eq_true, List.length_pos_iff_exists_mem]
  constructor
  · rintro ⟨x, hx⟩
    obtain ⟨h1, h2⟩ := List.mem_filter.mp hx
    exact ⟨x, h1, h2⟩
  · rintro ⟨x, h1, h2⟩
    exact ⟨x, List.mem_filter.mpr ⟨h1, h2⟩⟩
theorem bd_zero31 : Bd 31 (0 : Rat) := by unfold Bd; decide +kernel
theorem cst_bd {n : Nat} {ps : List (Nat × Rat)} (h : PsOk n ps) (g : Nat) (pre : List (Nat × Rat)) (hp : ∀ q ∈ pre, q ∈ ps) (hl : pre.length ≤ 4) : Bd 129 (cst n pre g) := by
  unfold cst
  refine (bd_sum (n := 31) fun x hx => ?_).mono ?_
  · obtain ⟨q, hq, rfl⟩ := List.mem_map.mp hx
    split
    · exact h.bd q (hp q hq)
    · exact bd_zero31
  · rw [List.length_map]
    omega
theorem t__law_costs {c : Ct} {n : Nat} (hc : RowC c) (hn : n ≤ 4) : ∃ ps c', p__law_costs [.par c, .dat (.int (n : Int))] = .ret (.f (.l ((cstL n ps).map rD))) [c'] ∧ PsOk n ps ∧ RowC c' := by
  have h16 : 2 ^ n ≤ 2 ^ 4 := Nat.pow_le_pow_right (by decide) hn
  have hpos : 0 < 2 ^ n := Nat.two_pow_pos n
  have key : fsat (p__law_costs [.par c, .dat (.int (n : Int))]) (fun w cs => ∃ ps c', w = .f (.l ((cstL n ps).map rD)) ∧ cs = [c'] ∧ PsOk n ps ∧ RowC c') fun _ _ => False := by
    unfold p__law_costs b__law_costs
    walk_at "wg"
    obtain ⟨v, c, e, g1, g2, d0⟩ := t__law_take (m := 5) hc (by decide)
    rw [e]
    walk_at "wg"
    obtain ⟨m, hm, rfl⟩ : ∃ m : Nat, m ≤ 4 ∧ v = (m : Int) := ⟨v.toNat, by omega, by omega⟩
    rw [Int.toNat_natCast, ints0]
    refine ⟨bigI_small (by omega), ?_⟩
    refine lc_inv (xs := List.range m) (lim_le (by rw [List.length_range]; omega)) (fun pre acc e => ∃ (ps : List (Nat × Rat)) (c : Ct), acc = ps.map partD ∧ ps.length = pre.length ∧ (∀ q ∈ ps, q.1 < 2 ^ n ∧ Bd 31 q.2 ∧ 0 ≤ q.2) ∧ RowC c ∧ e = [.par c, .dat (.int (n : Int)), .no, .no, .no, .no, .no, .no]) ⟨[], c, rfl, rfl, (by intro q hq; cases hq), d0, rfl⟩ ?_ ?_
    · rintro pre k post acc e hx ⟨ps, c, rfl, hpl, hps, d0, rfl⟩
      walk_at "wg"
      rw [shl_n (by omega)]
      walk_at "wg"
      obtain ⟨v, c, e, g1, g2, d0⟩ := t__law_take (m := ((2 ^ n : Nat) : Int)) d0 (by omega)
      rw [e]
      walk_at "wg"
      obtain ⟨w, hw, rfl⟩ : ∃ w : Nat, w < 2 ^ n ∧ v = (w : Int) := ⟨v.toNat, by omega, by omega⟩
      obtain ⟨r, c, e, hb, hnn, d0⟩ := t__law_fraction (m := 0) d0 (by decide) (by decide)
      rw [e]
      walk_at "wg"
      refine ⟨ps ++ [(w, r)], c, by rw [List.map_append]; rfl, by rw [List.length_append, List.length_append, hpl]; rfl, fun q hq => ?_, d0, rfl⟩
      rcases List.mem_append.mp hq with hq | hq
      · exact hps q hq
      · rw [List.mem_singleton.mp hq]
        exact ⟨hw, hb, Rat.num_nonneg.mp (hnn rfl)⟩
    rintro acc e ⟨ps, c, rfl, hpl, hps, d0, rfl⟩
    rw [List.length_range] at hpl
    have P : PsOk n ps := ⟨by omega, fun q hq => (hps q hq).1, fun q hq => (hps q hq).2.1, fun q hq => (hps q hq).2.2⟩
    walk_at "wg"
    rw [shl_n (by omega)]
    walk_at "wg"
    rw [ints0]
    refine ⟨bigI_small (by omega), ?_⟩
    refine for_inv (xs := List.range (2 ^ n)) (fun pre e => ∃ (s4 s5 s6 : Option D), e = [.par c, .dat (.int (n : Int)), .dat (.lst (ps.map partD)), .own (.l ((pre.map (cst n ps)).map rD)), jk s4, jk s5, jk s6, .no]) ⟨none, none, none, rfl⟩ ?_ ?_
    · rintro pre g post e hx ⟨s4, s5, s6, rfl⟩
      obtain ⟨h1, hg⟩ := at_range hx
      walk_at "wg"
      refine for_inv (xs := ps) (fun pre2 e => ∃ (s6 : Option D), e = [.par c, .dat (.int (n : Int)), .dat (.lst (ps.map partD)), .own (.l ((pre.map (cst n ps)).map rD)), .dat (.int (g : Int)), .dat (rD (cst n pre2 g)), jk s6, .no]) ⟨s6, rfl⟩ ?_ ?_
      · rintro pre2 q post2 e hx2 ⟨s6, rfl⟩
        have hq : q ∈ ps := by rw [hx2]; simp
        have hsum : cst n (pre2 ++ [q]) g = cst n pre2 g + (if hit n g q.1 = true then q.2 else 0) := by
          unfold cst
          rw [List.map_append]
          exact sumR_snoc _ _
        have hpb := cst_bd P g pre2 (fun z hz => by rw [hx2]; simp [hz]) (by have := congrArg List.length hx2; rw [List.length_append, List.length_cons] at this; have := P.len; omega)
        rw [hsum]
        generalize cst n pre2 g = a0 at hpb ⊢
        walk_at "wg"
        rw [ints0]
        refine ⟨bigI_small (by omega), ?_⟩
        refine lc_inv (xs := List.range n) (lim_le (by rw [List.length_range]; omega)) (fun pre3 acc e => acc = (pre3.filter fun k => bt g k && bt q.1 k).map (fun (k : Nat) => D.int (k : Int)) ∧ e = [.par c, .dat (.int (n : Int)), .dat (.lst (ps.map partD)), .own (.l ((pre.map (cst n ps)).map rD)), .dat (.int (g : Int)), .dat (rD a0), .dat (partD q), .no]) ⟨rfl, rfl⟩ ?_ ?_
        · rintro pre3 k post3 acc e hx3 ⟨rfl, rfl⟩
          obtain ⟨_, hk⟩ := at_range hx3
          walk_at "wg"
          rw [t__law_has (by omega)]
          walk_at "wg"
          rw [filt_one, List.map_append]
          rw [show partD q = .lst [.int (q.1 : Int), rD q.2] from rfl]
          walk_at "wg"
          refine ⟨fun b1 => ?_, fun b1 => ?_⟩
          · rw [t__law_has (by omega)]
            walk_at "wg"
            rw [b1, Bool.true_and]
            refine ⟨fun b2 => ?_, fun b2 => ?_⟩
            · rw [if_pos b2]
              rfl
            · rw [if_neg (by rw [b2]; decide), List.map_nil, List.append_nil]
          · rw [b1, Bool.false_and, if_neg (by decide), List.map_nil, List.append_nil]
        · rintro acc e ⟨rfl, rfl⟩
          walk_at "wg"
          have hh := hit_len n g q.1
          refine ⟨fun b1 => ?_, fun b1 => ?_⟩
          · rw [show partD q = .lst [.int (q.1 : Int), rD q.2] from rfl]
            walk_at "wg"
            rw [t__law_add hpb (P.bd q hq) (by decide)]
            walk_at "wg"
            rw [if_pos (by rw [← hh]; exact decide_eq_true (by omega))]
            exact ⟨some (partD q), rfl⟩
          · rw [if_neg (by rw [← hh, decide_eq_true_eq]; omega)]
            exact ⟨some (partD q), by rw [show a0 + 0 = a0 by grind]; rfl⟩
      · rintro e ⟨s6, rfl⟩
        walk_at "wg"
        exact ⟨by omega, some (.int (g : Int)), some (rD (cst n ps g)), s6, by rw [List.map_append, List.map_append]; rfl⟩
    · rintro e ⟨s4, s5, s6, rfl⟩
      walk_at "wg"
      exact ⟨ps, c, rfl, rfl, P, d0⟩
  obtain ⟨w, cs, e, ps, c', rfl, rfl, q⟩ := fsat_out key
  exact ⟨ps, c', e, q⟩
end
section
def ordF : Nat → List Nat → List (List Nat)
  | 0, _ => []
  | f + 1, l => if l = [] then [[]] else l.flatMap fun x => (ordF f (l.filter fun y => decide (y ≠ x))).map fun r => x :: r
def bef (o : List Nat) (a : Nat) : Nat := grp (o.take (o.idxOf a))
def cnt (g a b : Nat) : Nat := if b ||| g = g ∧ bt b a = false then facN (mb b).length * facN ((mb g).length - (mb b).length - 1) else 0
def h1 (m b : Nat) : Int := if hit 4 b m = true then 1 else 0
def pc (g m : Nat) : Nat := (mb (g &&& m)).length
def sumI (n : Nat) (f : Nat → Int) : Int := match n with
  | 0 => 0
  | n + 1 => sumI n f + f n
theorem f_cnt : ∀ g, g < 16 → ∀ a, a < 4 → bt g a = true → ∀ b, b < 16 → ((ordF 5 (mb g)).map fun o => bef o a).count b = cnt g a b := by decide +kernel
theorem f_ordl : ∀ g, g < 16 → (ordF 5 (mb g)).length = facN (mb g).length := by decide +kernel
def okO (g a : Nat) (o : List Nat) : Bool := decide (a ∈ o) && decide (o.length ≤ 4) && o.all (fun k => decide (k < 4)) && decide (bef o a < 16) && !bt (bef o a) a && decide (bef o a + 2 ^ a ≤ g) && decide ((bef o a ||| 2 ^ a) = bef o a + 2 ^ a)
theorem f_ord : ∀ g, g < 16 → ∀ a, a < 4 → bt g a = true → (ordF 5 (mb g)).all (okO g a) = true := by decide +kernel
theorem f_sum : ∀ m, m < 16 → ∀ g, g < 16 → ∀ a, a < 4 → bt g a = true → sumI 16 (fun b => (cnt g a b : Int) * (h1 m (b ||| 2 ^ a) - h1 m b)) * (pc g m : Int) = if bt m a = true then (facN (mb g).length : Int) else 0 := by decide +kernel
theorem f_eff : ∀ m, m < 16 → ∀ g, g < 16 → ((mb g).filter fun a => bt m a).length = pc g m ∧ hit 4 g m = decide (0 < pc g m) := by decide +kernel
theorem f_mono : ∀ m, m < 16 → ∀ g, g < 16 → ∀ k, k < 16 → g ||| k = k → pc g m ≤ pc k m := by decide +kernel
theorem f_asc : ∀ m, m < 16 → ∀ g, g < 16 → ∀ a, a < 4 → h1 m g ≤ h1 m (g ||| 2 ^ a) := by decide +kernel
theorem f_sub : ∀ m, m < 16 → ∀ g, g < 16 → ∀ k, k < 16 → h1 m (g ||| k) + h1 m (g &&& k) ≤ h1 m g + h1 m k := by decide +kernel
theorem f_mb : ∀ g, g < 16 → (∀ k ∈ mb g, k < 4) ∧ grp (mb g) = g ∧ (mb g).length ≤ 4 ∧ (∀ k, k < 4 → (bt g k = true ↔ k ∈ mb g)) := by decide +kernel
theorem f_hit : ∀ n, n < 5 → ∀ b, b < 2 ^ n → ∀ m, m < 16 → hit n b m = hit 4 b m := by decide +kernel
theorem f_pos : ∀ m, m < 16 → ∀ g, g < 16 → ∀ a, a < 4 → bt g a = true → bt m a = true → 0 < pc g m := by decide +kernel
end
section
theorem filt_lt {l : List Nat} {x : Nat} (h : x ∈ l) : (l.filter fun y => decide (y ≠ x)).length < l.length := by
  induction l with
  | nil => cases h
  | cons z l ih =>
    rw [List.filter_cons]
    by_cases c : z = x
    · rw [if_neg (by rw [decide_eq_true_eq]; exact fun k => k c)]
      have := List.length_filter_le (fun y => decide (y ≠ x)) l
      rw [List.length_cons]
      omega
    · rw [if_pos (decide_eq_true c), List.length_cons, List.length_cons]
      rcases List.mem_cons.mp h with e | e
      · exact absurd e.symm c
      · have := ih e
        omega
theorem ord_fuel : ∀ (f f' : Nat) (l : List Nat), l.length < f → l.length < f' → ordF f l = ordF f' l
  | 0, _, l, h, _ => by omega
  | _, 0, l, _, h => by omega
  | f + 1, f' + 1, l, h1, h2 => by
    unfold ordF
    by_cases c : l = []
    · rw [if_pos c, if_pos c]
    · rw [if_neg c, if_neg c, List.flatMap, List.flatMap]
      congr 1
      refine List.map_congr_left fun x hx => ?_
      have := filt_lt hx
      rw [ord_fuel f f' _ (by omega) (by omega)]
theorem ord_len : ∀ (f : Nat) (l : List Nat), l.length ≤ 4 → (ordF f l).length ≤ 4 ^ l.length
  | 0, l, _ => Nat.zero_le _
  | f + 1, l, h => by
    unfold ordF
    by_cases c : l = []
    · rw [if_pos c, c]; decide
    · rw [if_neg c]
      have key : ∀ m : List Nat, (∀ x ∈ m, x ∈ l) → (m.flatMap fun x => (ordF f (l.filter fun y => decide (y ≠ x))).map fun r => x :: r).length ≤ m.length * 4 ^ (l.length - 1) := by
        intro m
        induction m with
        | nil => intro _; show 0 ≤ _; omega
        | cons x m ih =>
          intro hm
          have hx := hm x List.mem_cons_self
          have h1 := filt_lt hx
          have h2 := ord_len f (l.filter fun y => decide (y ≠ x)) (by omega)
          have h3 : 4 ^ (l.filter fun y => decide (y ≠ x)).length ≤ 4 ^ (l.length - 1) := Nat.pow_le_pow_right (by decide) (by omega)
          have h4 := ih fun y hy => hm y (List.mem_cons_of_mem _ hy)
          rw [List.flatMap_cons, List.length_append, List.length_map, List.length_cons, Nat.succ_mul]
          omega
      have := key l fun x hx => hx
      have hp : 0 < l.length := List.length_pos_iff.mpr c
      have h5 : 4 ^ l.length = 4 * 4 ^ (l.length - 1) := by
        conv => lhs; rw [show l.length = (l.length - 1) + 1 by omega]
        rw [Nat.pow_succ, Nat.mul_comm]
      have h6 : l.length * 4 ^ (l.length - 1) ≤ 4 * 4 ^ (l.length - 1) := Nat.mul_le_mul_right _ h
      omega
theorem hlen : ∀ (f : Nat) (l : List Nat), l.length ≤ 4 → ∀ r ∈ ordF f l, r.length ≤ 100 := by
  have : ∀ (f : Nat) (l : List Nat), ∀ r ∈ ordF f l, r.length ≤ l.length := by
    intro f
    induction f with
    | zero => intro l r hr; cases hr
    | succ f ih =>
      intro l r hr
      unfold ordF at hr
      split at hr
      · rw [List.mem_singleton.mp hr]; exact Nat.zero_le _
      · obtain ⟨x, hx, hr⟩ := List.mem_flatMap.mp hr
        obtain ⟨r', hr', rfl⟩ := List.mem_map.mp hr
        have := ih _ r' hr'
        have := filt_lt hx
        rw [List.length_cons]
        omega
  intro f l h r hr
  have := this f l r hr
  omega
theorem t__law_orders : ∀ (f : Nat) (l : List Nat), l.length ≤ 4 → l.length < f → p__law_orders f [.dat (natsD l)] = .ret (.f (.l ((ordF f l).map natsD))) []
  | 0, l, _, h => by omega
  | f + 1, l, h4, hf => by
    refine fsat_eq ?_
    show fsat (run 4 (b__law_orders (p__law_orders f)) [.dat (natsD l)]) _ _
    unfold b__law_orders
    walk_at "wg"
    refine ⟨fun c => ?_, fun c => ?_⟩
    · have : l = [] := List.length_eq_zero_iff.mp (by omega)
      subst this
      rfl
    · have hne : l ≠ [] := fun z => c (by rw [z]; rfl)
      have hbig := ord_len (f + 1) l h4
      have hp4 : 4 ^ l.length ≤ 4 ^ 4 := Nat.pow_le_pow_right (by decide) h4
      unfold ordF at hbig
      rw [if_neg hne] at hbig
      refine for_inv (xs := l) (fun pre e => ∃ (s2 s3 s4 : Option D), e = [.dat (natsD l), .own (.l ((pre.flatMap fun x => (ordF f (l.filter fun y => decide (y ≠ x))).map fun r => x :: r).map natsD)), jk s2, jk s3, .no]) ⟨none, none, none, rfl⟩ ?_ ?_
      · rintro pre x post e hx ⟨s2, s3, s4, rfl⟩
        have hxl : x ∈ l := by rw [hx]; simp
        have h1 := filt_lt hxl
        walk_at "wg"
        refine lc_inv (xs := l) (lim_le (by omega)) (fun pre2 acc e => acc = (pre2.filter fun y => decide (y ≠ x)).map (fun (k : Nat) => D.int (k : Int)) ∧ e = [.dat (natsD l), .own (.l ((pre.flatMap fun x => (ordF f (l.filter fun y => decide (y ≠ x))).map fun r => x :: r).map natsD)), .dat (.int (x : Int)), jk s3, .no]) ⟨rfl, rfl⟩ ?_ ?_
        · rintro pre2 y post2 acc e hx2 ⟨rfl, rfl⟩
          walk_at "wg"
          rw [filt_one, List.map_append]
          refine ⟨fun c => ?_, fun c => ?_⟩
          · rw [if_pos (decide_eq_true (show ¬y = x from fun z => c (by rw [z])))]
            rfl
          · rw [if_neg (by rw [decide_eq_true_eq]; exact fun z => z (by omega)), List.map_nil, List.append_nil]
        rintro acc e ⟨rfl, rfl⟩
        walk_at "wg"
        rw [show p__law_orders f [.dat (.lst ((l.filter fun y => decide (y ≠ x)).map fun (k : Nat) => D.int (k : Int)))] = _ from t__law_orders f (l.filter fun y => decide (y ≠ x)) (by omega) (by omega)]
        walk_at "wg"
        have hpre : (pre.flatMap fun x => (ordF f (l.filter fun y => decide (y ≠ x))).map fun r => x :: r).length + (ordF f (l.filter fun y => decide (y ≠ x))).length ≤ 256 := by
          have e1 : (l.flatMap fun x => (ordF f (l.filter fun y => decide (y ≠ x))).map fun r => x :: r) = (pre.flatMap fun x => (ordF f (l.filter fun y => decide (y ≠ x))).map fun r => x :: r) ++ (((ordF f (l.filter fun y => decide (y ≠ x))).map fun r => x :: r) ++ post.flatMap fun x => (ordF f (l.filter fun y => decide (y ≠ x))).map fun r => x :: r) := by
            conv => lhs; arg 2; rw [hx]
            rw [List.flatMap_append, List.flatMap_cons]
          rw [e1, List.length_append, List.length_append, List.length_map] at hbig
          omega
        have hfm : ((pre ++ [x]).flatMap fun x => (ordF f (l.filter fun y => decide (y ≠ x))).map fun r => x :: r) = (pre.flatMap fun x => (ordF f (l.filter fun y => decide (y ≠ x))).map fun r => x :: r) ++ (ordF f (l.filter fun y => decide (y ≠ x))).map fun r => x :: r := by
          rw [List.flatMap_append, List.flatMap_cons, List.flatMap_nil, List.append_nil]
        rw [hfm]
        generalize (pre.flatMap fun x => (ordF f (l.filter fun y => decide (y ≠ x))).map fun r => x :: r) = A at hpre ⊢
        have hrl : ∀ r ∈ ordF f (l.filter fun y => decide (y ≠ x)), r.length ≤ 100 := hlen f _ (by omega)
        generalize ordF f (l.filter fun y => decide (y ≠ x)) = rs at hpre hrl ⊢
        refine for_inv (xs := rs) (fun pre3 e => ∃ (s3 : Option D), e = [.dat (natsD l), .own (.l ((A ++ pre3.map fun r => x :: r).map natsD)), .dat (.int (x : Int)), jk s3, .no]) ⟨s3, by rw [List.map_nil, List.append_nil]⟩ ?_ ?_
        · rintro pre3 r post3 e hx3 ⟨s3, rfl⟩
          have hl3 : pre3.length + 1 ≤ rs.length := by rw [hx3, List.length_append, List.length_cons]; omega
          have hr := hrl r (by rw [hx3]; simp)
          walk_at "wg"
          refine ⟨by omega, by rw [List.length_append, List.length_map]; omega, some (natsD r), ?_⟩
          rw [List.map_append (f := fun r => x :: r), ← List.append_assoc, List.map_append (l₂ := [r].map fun r => x :: r)]
          rfl
        · rintro e ⟨s3, rfl⟩
          exact ⟨some (.int (x : Int)), s3, none, rfl⟩
      · rintro e ⟨s2, s3, s4, rfl⟩
        walk_at "wg"
        conv => rhs; unfold ordF
        rw [if_neg hne]
end
section
structure CsF (n d : Nat) (Cs : List Rat) : Prop where
  hn : n ≤ 4
  len : Cs.length = 2 ^ n
  dp : 0 < d
  dlt : d < 2 ^ 124
  fx : ∀ x ∈ Cs, Fx d (2 ^ 126) x
def shF (C : Nat → Rat) (g a : Nat) : Rat := sumN 16 fun b => (cnt g a b : Rat) / (facN (mb g).length : Rat) * (C (b ||| 2 ^ a) - C b)
theorem f_or : ∀ b, b < 16 → ∀ a, a < 4 → bt b a = false → b ||| 2 ^ a = b + 2 ^ a := by decide +kernel
theorem f_fac : ∀ g, g < 16 → 0 < facN (mb g).length ∧ facN (mb g).length * (24 / facN (mb g).length) = 24 ∧ 0 < 24 / facN (mb g).length := by decide +kernel
theorem f_cle : ∀ g, g < 16 → ∀ a, a < 4 → bt g a = true → ∀ b, b < 16 → cnt g a b * (24 / facN (mb g).length) ≤ 24 := by decide +kernel
theorem f_top : ∀ n, n < 5 → ∀ g, g < 2 ^ n → ∀ a, a < n → ∀ b, b < 2 ^ n → b ||| 2 ^ a < 2 ^ n := by decide +kernel
theorem count_sum (f : Nat → Rat) : ∀ L : List Nat, (∀ b ∈ L, b < 16) → sumR (L.map f) = sumN 16 fun b => (L.count b : Rat) * f b
  | [], _ => by
    refine (sumN_z fun b _ => ?_).symm
    rw [List.count_nil]
    show (0 : Rat) * _ = 0
    grind
  | x :: L, h => by
    have ih := count_sum f L fun b hb => h b (List.mem_cons_of_mem _ hb)
    have hx := h x List.mem_cons_self
    have e1 : sumR ((x :: L).map f) = f x + sumR (L.map f) := by
      show (L.map f).foldl (· + ·) (0 + f x) = f x + (L.map f).foldl (· + ·) 0
      have : ∀ (l : List Rat) (a b : Rat), l.foldl (· + ·) (a + b) = a + l.foldl (· + ·) b := by
        intro l
        induction l with
        | nil => intro a b; rfl
        | cons y l ih => intro a b; show l.foldl (· + ·) (a + b + y) = a + l.foldl (· + ·) (b + y); rw [← ih]; congr 1; grind
      rw [← this]
      congr 1
      grind
    have e2 : (sumN 16 fun b => ((x :: L).count b : Rat) * f b) = (sumN 16 fun b => if b = x then f b else 0) + sumN 16 fun b => (L.count b : Rat) * f b := by
      rw [← sumN_add]
      refine sumN_congr fun b _ => ?_
      rw [List.count_cons]
      by_cases c : b = x
      · rw [if_pos c, c, if_pos (by simp), Rat.natCast_add]
        show (_ + 1) * _ = _
        grind
      · rw [if_neg c, if_neg (by simpa using fun z => c z.symm), Nat.add_zero]
        grind
    rw [e1, e2, ih, sumN_one hx fun j _ hj => if_neg hj, if_pos rfl]
theorem share_ord {C : Nat → Rat} {g a : Nat} (hg : g < 16) (ha : a < 4) (hb : bt g a = true) : sumR ((ordF 5 (mb g)).map fun o => C (bef o a + 2 ^ a) - C (bef o a)) * (1 / (facN (mb g).length : Rat)) = shF C g a := by
  have ho := List.all_eq_true.mp (f_ord g hg a ha hb)
  have hlt : ∀ b ∈ (ordF 5 (mb g)).map fun o => bef o a, b < 16 := fun b hb' => by
    obtain ⟨o, h1, rfl⟩ := List.mem_map.mp hb'
    have := ho o h1
    unfold okO at this
    simp only [Bool.and_eq_true, decide_eq_true_eq] at this
    exact this.1.1.1.2
  have e := count_sum (fun b => C (b + 2 ^ a) - C b) ((ordF 5 (mb g)).map fun o => bef o a) hlt
  rw [List.map_map] at e
  have e' : sumR ((ordF 5 (mb g)).map fun o => C (bef o a + 2 ^ a) - C (bef o a)) = sumN 16 fun b => (((ordF 5 (mb g)).map fun o => bef o a).count b : Rat) * (C (b + 2 ^ a) - C b) := e
  rw [e', Rat.mul_comm, ← sumN_mul]
  unfold shF
  refine sumN_congr fun b hb' => ?_
  rw [f_cnt g hg a ha hb b hb']
  by_cases c : bt b a = false
  · rw [f_or b hb' a ha c, Rat.div_def, Rat.div_def]
    grind
  · have : cnt g a b = 0 := by unfold cnt; rw [if_neg fun z => c z.2]
    rw [this]
    show _ * ((0 : Rat) * _) = (0 : Rat) / _ * _
    rw [Rat.div_def]
    grind
end
section
theorem Fx.neg' {d B : Nat} {x : Rat} (h : Fx d B x) : Fx d B (-x) := by
  obtain ⟨h0, N, rfl, hN⟩ := h
  exact ⟨h0, -N, by rw [Rat.neg_divInt], by rw [Int.natAbs_neg]; exact hN⟩
theorem Fx.sub' {d B C : Nat} {x y : Rat} (h : Fx d B x) (k : Fx d C y) : Fx d (B + C) (x - y) := by
  rw [show x - y = x + -y by grind]
  exact h.add (Fx.neg' k)
theorem CsF.at' {n d : Nat} {Cs : List Rat} (F : CsF n d Cs) {b : Nat} (hb : b < 2 ^ n) : Fx d (2 ^ 126) (Cs.getD b 0) := F.fx _ (List.mem_of_getElem? (getD_ok (by rw [F.len]; exact hb)))
theorem CsF.bd {n d : Nat} {Cs : List Rat} (F : CsF n d Cs) {b : Nat} (hb : b < 2 ^ n) : Bd 127 (Cs.getD b 0) := (F.at' hb).bd (Nat.lt_trans F.dlt (by decide)) (by decide)
theorem n16 {n : Nat} (hn : n ≤ 4) : 2 ^ n ≤ 16 := by
  have := Nat.pow_le_pow_right (show 0 < 2 by decide) hn
  omega
theorem f_inv0 : ∀ k, k ≤ 4 → (1 / (facN k : Rat)).num = 1 ∧ (1 / (facN k : Rat)).den = facN k := by decide +kernel
theorem f_inv (k : Nat) (h : k ≤ 4) : D.tup [.int 1, .int (facN k : Nat)] = rD (1 / (facN k : Rat)) := by
  obtain ⟨h1, h2⟩ := f_inv0 k h
  show _ = D.tup [.int _, .int _]
  rw [h1, h2]
theorem f_invb (k : Nat) (h : k ≤ 4) : Bd 20 (1 / (facN k : Rat)) := by
  have : ∀ k, k ≤ 4 → (1 / (facN k : Rat)).num.natAbs < 2 ^ 20 ∧ (1 / (facN k : Rat)).den < 2 ^ 20 := by decide +kernel
  exact this k h
theorem t__law_share {n d : Nat} {Cs : List Rat} (F : CsF n d Cs) {g a : Nat} (hg : g < 2 ^ n) (ha : a < n) (hb : bt g a = true) : p__law_share [.dat (rsD Cs), .dat (natsD (mb g)), .dat (.int (a : Int))] = .ret (.d (rD (shF (fun b => Cs.getD b 0) g a))) [] := by
  have hn := F.hn
  have h16 := n16 hn
  have hml := (f_mb g (by omega)).2.2.1
  have ho := List.all_eq_true.mp (f_ord g (by omega) a (by omega) hb)
  have hol := f_ordl g (by omega)
  have hfac := f_fac g (by omega)
  have h24 : facN (mb g).length ≤ 24 := by
    have := hfac.2.1
    exact Nat.le_of_dvd (by decide) ⟨_, this.symm⟩
  have hso := share_ord (C := fun b => Cs.getD b 0) (show g < 16 by omega) (show a < 4 by omega) hb
  have hCl := F.len
  have h2a := Nat.two_pow_pos a
  refine fsat_eq ?_
  unfold p__law_share b__law_share
  walk_at "wg"
  rw [t__law_orders 70 (mb g) hml (by omega), ord_fuel 70 5 (mb g) (by omega) (by omega)]
  walk_at "wg"
  have hfx : ∀ pre : List (List Nat), (∀ o ∈ pre, o ∈ ordF 5 (mb g)) → pre.length ≤ 24 → Bd 132 (sumR (pre.map fun o => Cs.getD (bef o a + 2 ^ a) 0 - Cs.getD (bef o a) 0)) := fun pre hp hl => by
    have := fx_sum (l := pre.map fun o => Cs.getD (bef o a + 2 ^ a) 0 - Cs.getD (bef o a) 0) (d := d) (B := 2 ^ 126 + 2 ^ 126) F.dp fun x hx => by
      obtain ⟨o, hom, rfl⟩ := List.mem_map.mp hx
      have := ho o (hp o hom)
      unfold okO at this
      simp only [Bool.and_eq_true, decide_eq_true_eq] at this
      have hle := this.1.2
      exact Fx.sub' (F.at' (by omega)) (F.at' (by omega))
    refine this.bd (Nat.lt_trans F.dlt (by decide)) ?_
    rw [List.length_map]
    have : pre.length * (2 ^ 126 + 2 ^ 126) ≤ 24 * (2 ^ 126 + 2 ^ 126) := Nat.mul_le_mul_right _ hl
    exact Nat.lt_of_le_of_lt this (by decide)
  rw [← hol] at hso h24
  generalize hO : ordF 5 (mb g) = O at ho hfx hso h24 hol
  refine for_inv (xs := O) (fun pre e => ∃ (s5 s6 : Option D), e = [.dat (rsD Cs), .dat (natsD (mb g)), .dat (.int (a : Int)), .dat (.lst (O.map natsD)), .dat (rD (sumR (pre.map fun o => Cs.getD (bef o a + 2 ^ a) 0 - Cs.getD (bef o a) 0))), jk s5, jk s6, .no]) ⟨none, none, rfl⟩ ?_ ?_
  · rintro pre o post e hx ⟨s5, s6, rfl⟩
    have hoO : o ∈ O := by rw [hx]; simp
    have hok := ho o hoO
    unfold okO at hok
    simp only [Bool.and_eq_true, decide_eq_true_eq, List.all_eq_true] at hok
    obtain ⟨⟨⟨⟨⟨⟨k1, k2⟩, k3⟩, k4⟩, k5⟩, k6⟩, k7⟩ := hok
    have hb1 := hfx pre (fun z hz => by rw [hx]; simp [hz]) (by have := congrArg List.length hx; rw [List.length_append, List.length_cons] at this; omega)
    have hs : sumR ((pre ++ [o]).map fun o => Cs.getD (bef o a + 2 ^ a) 0 - Cs.getD (bef o a) 0) = sumR (pre.map fun o => Cs.getD (bef o a + 2 ^ a) 0 - Cs.getD (bef o a) 0) + (Cs.getD (bef o a + 2 ^ a) 0 - Cs.getD (bef o a) 0) := by
      rw [List.map_append]
      exact sumR_snoc _ _
    rw [hs]
    generalize sumR (pre.map fun o => Cs.getD (bef o a + 2 ^ a) 0 - Cs.getD (bef o a) 0) = a0 at hb1 ⊢
    walk_at "wg"
    rw [idx_nats k1]
    walk_at "wg"
    have hcut : cut (o.map fun (k : Nat) => D.int (k : Int)) none (some ((o.idxOf a : Nat) : Int)) = (o.take (o.idxOf a)).map fun (k : Nat) => D.int (k : Int) := by
      rw [cut_to _ _ (by rw [List.length_map]; exact List.idxOf_le_length), List.map_take]
    rw [hcut]
    refine lc_map (fun k : Nat => D.int ((2 ^ k : Nat) : Int)) (lim_le (by rw [List.length_take]; omega)) (fun k hk => ?_) ?_
    · have := k3 k (List.mem_of_mem_take hk)
      walk_at "wg"
      rw [shl_n (by omega)]
      walk_at "wg"
    walk_at "wg"
    rw [sum_grp]
    walk_at "wg"
    rw [shl_n (by omega)]
    walk_at "wg"
    rw [show grp (o.take (o.idxOf a)) = bef o a from rfl, show (bef o a : Int) + ((2 ^ a : Nat) : Int) = ((bef o a + 2 ^ a : Nat) : Int) from rfl]
    walk_at "wg"
    rw [getD_ok (l := Cs) (d := 0) (show bef o a + 2 ^ a < Cs.length by omega)]
    walk_at "wg"
    rw [getD_ok (l := Cs) (d := 0) (show bef o a < Cs.length by omega)]
    walk_at "wg"
    have hy1 := F.bd (show bef o a + 2 ^ a < 2 ^ n by omega)
    have hy2 := F.bd (show bef o a < 2 ^ n by omega)
    rw [t__law_minus hy1 hy2 (by decide)]
    walk_at "wg"
    rw [t__law_add hb1 (bd_sub hy1 hy2) (by decide)]
    walk_at "wg"
    exact ⟨some (natsD o), some (.int (bef o a : Nat)), rfl⟩
  · rintro e ⟨s5, s6, rfl⟩
    walk_at "wg"
    have hb1 := hfx O (fun o h => h) h24
    rw [hol, f_inv _ hml]
    rw [hol] at hso
    have hb2 : Bd 20 (1 / (facN (mb g).length : Rat)) := f_invb _ hml
    rw [t__law_times hb1 hb2 (by decide)]
    walk_at "wg"
    rw [hso]
theorem bt_shr {b a : Nat} : (((b / 2 ^ a % 2 : Nat) : Int) = 0) = (bt b a = false) := by
  unfold bt
  rw [decide_eq_false_iff_not]
  generalize b / 2 ^ a = x
  exact propext ⟨fun h => by omega, fun h => by omega⟩
def shT (C : Nat → Rat) (g a b : Nat) : Rat := (cnt g a b : Rat) / (facN (mb g).length : Rat) * (C (b ||| 2 ^ a) - C b)
theorem cnt_0 {g a b : Nat} (h : ¬(b ||| g = g ∧ bt b a = false)) : cnt g a b = 0 := by unfold cnt; rw [if_neg h]
theorem shT_0 {C : Nat → Rat} {g a b : Nat} (h : cnt g a b = 0) : shT C g a b = 0 := by
  unfold shT
  rw [h]
  show (0 : Rat) / _ * _ = 0
  rw [Rat.div_def]
  grind
def KB : Nat := 24 * (2 ^ 126 + 2 ^ 126)
theorem shT_fx {n d : Nat} {Cs : List Rat} (F : CsF n d Cs) {g a b : Nat} (hg : g < 2 ^ n) (ha : a < n) (hb : bt g a = true) (hbn : b < 2 ^ n) : Fx (24 * d) KB (shT (fun b => Cs.getD b 0) g a b) := by
  have h16 := n16 F.hn
  have hn := F.hn
  obtain ⟨f1, f2, f3⟩ := f_fac g (by omega)
  have hc := f_cle g (by omega) a (by omega) hb b (by omega)
  have ht := f_top n (by omega) g hg a ha b hbn
  unfold shT KB
  refine Fx.mul ?_ (Fx.sub' (F.at' ht) (F.at' hbn))
  have h0 : Fx (facN (mb g).length) (cnt g a b) ((cnt g a b : Rat) / (facN (mb g).length : Rat)) := ⟨f1, (cnt g a b : Int), by rw [Rat.divInt_eq_div]; rfl, by rw [Int.natAbs_natCast]; exact Nat.le_refl _⟩
  have h1 := h0.up f3
  rw [f2] at h1
  exact h1.mono hc
theorem sh_part {n d : Nat} {Cs : List Rat} (F : CsF n d Cs) {g a : Nat} (hg : g < 2 ^ n) (ha : a < n) (hb : bt g a = true) : ∀ m, m ≤ 2 ^ n → Fx (24 * d) (m * KB) (sumN m (shT (fun b => Cs.getD b 0) g a))
  | 0, _ => fx_zero (Nat.mul_pos (by decide) F.dp) _
  | m + 1, h => by
    have ih := sh_part F hg ha hb m (by omega)
    have := ih.add (shT_fx F hg ha hb (show m < 2 ^ n by omega))
    have e : (m + 1) * KB = m * KB + KB := Nat.succ_mul m KB
    rw [e]
    generalize m * KB = X at this ⊢
    exact this
theorem sh_bd {n d : Nat} {Cs : List Rat} (F : CsF n d Cs) {g a : Nat} (hg : g < 2 ^ n) (ha : a < n) (hb : bt g a = true) {m : Nat} (hm : m ≤ 2 ^ n) : Bd 140 (sumN m (shT (fun b => Cs.getD b 0) g a)) := by
  have h16 := n16 F.hn
  have hd := F.dlt
  refine (sh_part F hg ha hb m hm).bd (by omega) ?_
  have : m * KB ≤ 16 * KB := Nat.mul_le_mul_right _ (by omega)
  exact Nat.lt_of_le_of_lt this (by decide)
theorem sh_full {n : Nat} (hn : n ≤ 4) {C : Nat → Rat} {g a : Nat} (hg : g < 2 ^ n) : sumN (2 ^ n) (shT C g a) = shF C g a := by
  have h16 := n16 hn
  refine (sumN_more (n := 2 ^ n) (m := 16) h16 fun j hj => shT_0 (cnt_0 fun z => ?_)).symm
  have : j ≤ j ||| g := Nat.left_le_or
  rw [z.1] at this
  omega
theorem f_sm : ∀ k, k ≤ 4 → smI ((facN k : Nat) : Int) = true := by decide +kernel
theorem f_blt : ∀ b, b < 16 → ∀ g, g < 16 → ∀ a, a < 4 → (bt g a = true ∧ (b ||| g) = g ∧ bt b a = false) → (mb b).length + 1 ≤ (mb g).length := by decide +kernel
theorem t__share {n d : Nat} {Cs : List Rat} (F : CsF n d Cs) {g a : Nat} (hg : g < 2 ^ n) (ha : a < n) (hb : bt g a = true) : p__share [.dat (rsD Cs), .dat (.int (g : Int)), .dat (.int (a : Int))] = .ret (.d (rD (shF (fun b => Cs.getD b 0) g a))) [] := by
  have hn := F.hn
  have h16 := n16 hn
  have hCl := F.len
  have hml := (f_mb g (by omega)).2.2.1
  have hfac := f_fac g (by omega)
  refine fsat_eq ?_
  unfold p__share b__share
  walk_at "wg"
  rw [t__members]
  walk_at "wg"
  rw [hCl, ints0]
  refine ⟨bigI_small (by omega), ?_⟩
  refine for_inv (xs := List.range (2 ^ n)) (fun pre e => ∃ (s5 s6 s7 s8 : Option D), e = [.dat (rsD Cs), .dat (.int (g : Int)), .dat (.int (a : Int)), .dat (.int ((mb g).length : Nat)), .dat (rD (sumN pre.length (shT (fun b => Cs.getD b 0) g a))), jk s5, jk s6, jk s7, jk s8]) ⟨none, none, none, none, rfl⟩ ?_ ?_
  · rintro pre b post e hx ⟨s5, s6, s7, s8, rfl⟩
    obtain ⟨h1, hbn⟩ := at_range hx
    have hp : (pre ++ [b]).length = pre.length + 1 := by rw [List.length_append]; rfl
    have hs : sumN (pre.length + 1) (shT (fun b => Cs.getD b 0) g a) = sumN pre.length (shT (fun b => Cs.getD b 0) g a) + shT (fun b => Cs.getD b 0) g a b := by rw [h1]; rfl
    have hbd := sh_bd F hg ha hb (show pre.length ≤ 2 ^ n by omega)
    rw [hp, hs]
    generalize sumN pre.length (shT (fun b => Cs.getD b 0) g a) = a0 at hbd ⊢
    walk_at "wg"
    rw [or_n]
    walk_at "wg"
    have cut0 : cnt g a b = 0 → a0 + shT (fun b => Cs.getD b 0) g a b = a0 := fun z => by rw [shT_0 z]; grind
    refine ⟨fun c1 => ?_, fun c1 => ?_⟩
    · have c1' : b ||| g = g := by omega
      rw [shr_n]
      walk_at "wg"
      rw [and_1]
      walk_at "wg"
      rw [bt_shr]
      refine ⟨fun c2 => ?_, fun c2 => ?_⟩
      · rw [shl_n (by omega)]
        walk_at "wg"
        rw [or_n]
        walk_at "wg"
        have ht := f_top n (by omega) g hg a ha b hbn
        rw [getD_ok (l := Cs) (d := 0) (show b ||| 2 ^ a < Cs.length by omega)]
        walk_at "wg"
        rw [getD_ok (l := Cs) (d := 0) (show b < Cs.length by omega)]
        walk_at "wg"
        rw [t_subtract (F.bd ht) (F.bd hbn) (by decide)]
        walk_at "wg"
        rw [t__members]
        walk_at "wg"
        have hmb := (f_mb b (by omega)).2.2.1
        have hlt := f_blt b (by omega) g (by omega) a (by omega) ⟨hb, c1', c2⟩
        have fac_n : ∀ k : Nat, k ≤ 100 → facD (.int (k : Int)) = some (.d (.int (facN k : Nat))) := fun k hk => by
          show (if 0 ≤ (k : Int) ∧ (k : Int) ≤ 100 then vI (facN ((k : Int)).toNat : Nat) else none) = _
          rw [if_pos (by omega), Int.toNat_natCast]
          rfl
        rw [fac_n _ (by omega)]
        walk_at "wg"
        rw [show ((mb g).length : Int) - ((mb b).length : Int) - 1 = (((mb g).length - (mb b).length - 1 : Nat) : Int) by omega, fac_n _ (by omega)]
        walk_at "wg"
        rw [fac_n _ (by omega)]
        walk_at "wg"
        have hcn : cnt g a b = facN (mb b).length * facN ((mb g).length - (mb b).length - 1) := by unfold cnt; rw [if_pos ⟨c1', c2⟩]
        have hsm : smI ((facN (mb b).length : Nat) : Int) = true := f_sm _ hmb
        rw [hsm]
        refine ⟨rfl, ?_⟩
        rw [← Int.natCast_mul, ← hcn]
        have hF24 : facN (mb g).length ≤ 24 := Nat.le_of_dvd (by decide) ⟨_, hfac.2.1.symm⟩
        rw [t_make (n := 20) (by have := hfac.1; omega) (by rw [Int.natAbs_natCast]; omega) (by decide)]
        walk_at "wg"
        have e1 : Rat.divInt ((cnt g a b : Nat) : Int) ((facN (mb g).length : Nat) : Int) = (cnt g a b : Rat) / (facN (mb g).length : Rat) := by rw [Rat.divInt_eq_div]; rfl
        rw [e1]
        have hq : Bd 20 ((cnt g a b : Rat) / (facN (mb g).length : Rat)) := by
          have h0 : Fx (facN (mb g).length) (cnt g a b) ((cnt g a b : Rat) / (facN (mb g).length : Rat)) := ⟨hfac.1, (cnt g a b : Int), by rw [Rat.divInt_eq_div]; rfl, by rw [Int.natAbs_natCast]; exact Nat.le_refl _⟩
          have h1 := h0.up hfac.2.2
          rw [hfac.2.1] at h1
          exact (h1.mono (f_cle g (by omega) a (by omega) hb b (by omega))).bd (by decide) (by decide)
        have hdf := bd_sub (F.bd ht) (F.bd hbn)
        rw [t_multiply hdf hq (by decide)]
        walk_at "wg"
        rw [t_add hbd (bd_mul hdf hq) (by decide)]
        walk_at "wg"
        refine ⟨some (.int (b : Int)), some (rD (Cs.getD (b ||| 2 ^ a) 0 - Cs.getD b 0)), some (.int ((mb b).length : Nat)), some (.int (cnt g a b : Nat)), ?_⟩
        unfold shT
        rw [Rat.mul_comm ((cnt g a b : Rat) / (facN (mb g).length : Rat))]
        rfl
      · rw [cut0 (cnt_0 fun z => c2 z.2)]
        exact ⟨some (.int (b : Int)), s6, s7, s8, rfl⟩
    · rw [cut0 (cnt_0 fun z => c1 (by rw [z.1]))]
      exact ⟨some (.int (b : Int)), s6, s7, s8, rfl⟩
  · rintro e ⟨s5, s6, s7, s8, rfl⟩
    rw [List.length_range, sh_full hn hg]
    walk_at "wg"
end
section
theorem sumR_cons (x : Rat) (l : List Rat) : sumR (x :: l) = x + sumR l := by
  show l.foldl (· + ·) (0 + x) = x + l.foldl (· + ·) 0
  have : ∀ (l : List Rat) (a b : Rat), l.foldl (· + ·) (a + b) = a + l.foldl (· + ·) b := by
    intro l
    induction l with
    | nil => intro a b; rfl
    | cons y l ih => intro a b; show l.foldl (· + ·) (a + b + y) = a + l.foldl (· + ·) (b + y); rw [← ih]; congr 1; grind
  rw [← this]
  congr 1
  grind
def c4 (ps : List (Nat × Rat)) (b : Nat) : Rat := sumR (ps.map fun q => q.2 * (h1 q.1 b : Rat))
def indR (m g a : Nat) : Rat := if bt m a = true then 1 / (pc g m : Rat) else 0
def wF (ps : List (Nat × Rat)) (g a : Nat) : Rat := sumR (ps.map fun q => q.2 * indR q.1 g a)
theorem cst_c4 {n : Nat} (hn : n ≤ 4) {ps : List (Nat × Rat)} (h : PsOk n ps) {b : Nat} (hb : b < 2 ^ n) : (cstL n ps).getD b 0 = c4 ps b := by
  have h16 := n16 hn
  unfold cstL
  rw [List.getD_eq_getElem?_getD, List.getElem?_map, List.getElem?_range hb]
  show cst n ps b = c4 ps b
  unfold cst c4
  congr 1
  refine List.map_congr_left fun q hq => ?_
  have := h.lt q hq
  unfold h1
  rw [f_hit n (by omega) b hb q.1 (by omega)]
  by_cases c : hit 4 b q.1 = true
  · rw [if_pos c, if_pos c]
    show _ = _ * (1 : Rat)
    grind
  · rw [if_neg c, if_neg c]
    show _ = _ * (0 : Rat)
    grind
theorem shF_cost {n : Nat} (hn : n ≤ 4) {ps : List (Nat × Rat)} (h : PsOk n ps) {g a : Nat} (hg : g < 2 ^ n) (ha : a < n) : shF (fun b => (cstL n ps).getD b 0) g a = shF (c4 ps) g a := by
  unfold shF
  refine sumN_congr fun b _ => ?_
  by_cases c : b ||| g = g ∧ bt b a = false
  · have hb : b ≤ b ||| g := Nat.left_le_or
    rw [c.1] at hb
    have ht := f_top n (by omega) g hg a ha b (by omega)
    dsimp only
    rw [cst_c4 hn h ht, cst_c4 hn h (by omega)]
  · have := cnt_0 c
    exact (shT_0 (C := fun b => (cstL n ps).getD b 0) this).trans (shT_0 (C := c4 ps) this).symm
theorem sumI_N (f : Nat → Int) : ∀ n, ((sumI n f : Int) : Rat) = sumN n fun i => (f i : Rat)
  | 0 => rfl
  | n + 1 => by
    show ((sumI n f + f n : Int) : Rat) = sumN n _ + _
    rw [Rat.intCast_add, sumI_N f n]
theorem f_sum0 : ∀ m, m < 16 → ∀ g, g < 16 → ∀ a, a < 4 → (bt g a = true ∧ bt m a = false) → sumI 16 (fun b => (cnt g a b : Int) * (h1 m (b ||| 2 ^ a) - h1 m b)) = 0 := by decide +kernel
theorem shF_one {m g a : Nat} (hm : m < 16) (hg : g < 16) (ha : a < 4) (hb : bt g a = true) : shF (fun b => (h1 m b : Rat)) g a = indR m g a := by
  have hs := f_sum m hm g hg a ha hb
  have hs0 := fun c => f_sum0 m hm g hg a ha ⟨hb, c⟩
  have hf := (f_fac g hg).1
  have hf0 : (facN (mb g).length : Rat) ≠ 0 := by
    have : ((facN (mb g).length : Nat) : Rat) ≠ ((0 : Nat) : Rat) := fun z => by have := Rat.natCast_inj.mp z; omega
    exact this
  have e : shF (fun b => (h1 m b : Rat)) g a = (1 / (facN (mb g).length : Rat)) * ((sumI 16 fun b => (cnt g a b : Int) * (h1 m (b ||| 2 ^ a) - h1 m b) : Int) : Rat) := by
    rw [sumI_N, ← sumN_mul]
    unfold shF
    refine sumN_congr fun b _ => ?_
    rw [Rat.intCast_mul, Rat.intCast_sub, Rat.div_def, Rat.div_def]
    show (cnt g a b : Rat) * _ * _ = _ * ((cnt g a b : Rat) * _)
    grind
  rw [e]
  generalize (sumI 16 fun b => (cnt g a b : Int) * (h1 m (b ||| 2 ^ a) - h1 m b)) = S at hs hs0
  unfold indR
  by_cases c : bt m a = true
  · rw [if_pos c] at hs ⊢
    have hp := f_pos m hm g hg a ha hb c
    have hp0 : (pc g m : Rat) ≠ 0 := by
      have : ((pc g m : Nat) : Rat) ≠ ((0 : Nat) : Rat) := fun z => by have := Rat.natCast_inj.mp z; omega
      exact this
    have h2 : (S : Rat) * (pc g m : Rat) = (facN (mb g).length : Rat) := by
      have := congrArg (fun i : Int => (i : Rat)) hs
      have this : ((S * (pc g m : Int) : Int) : Rat) = (((facN (mb g).length : Nat) : Int) : Rat) := this
      rw [Rat.intCast_mul] at this
      exact this
    rw [← h2, Rat.div_def, Rat.div_def, Rat.inv_mul_rev]
    have hS : (S : Rat) ≠ 0 := fun z => hf0 (by rw [← h2, z]; grind)
    have i1 := Rat.mul_inv_cancel _ hS
    generalize (S : Rat)⁻¹ = T at i1 ⊢
    generalize ((pc g m : Rat))⁻¹ = U
    grind
  · rw [if_neg c, hs0 (by simpa using c)]
    show _ * (0 : Rat) = 0
    grind
theorem shF_lin (x : Rat) (A B : Nat → Rat) (g a : Nat) : shF (fun b => x * A b + B b) g a = x * shF A g a + shF B g a := by
  unfold shF
  rw [← sumN_mul, ← sumN_add]
  exact sumN_congr fun b _ => by grind
theorem shF_w {g a : Nat} (hg : g < 16) (ha : a < 4) (hb : bt g a = true) : ∀ ps : List (Nat × Rat), (∀ q ∈ ps, q.1 < 16) → shF (c4 ps) g a = wF ps g a
  | [], _ => by
    have : shF (c4 []) g a = 0 := sumN_z fun b _ => by
      show _ * ((0 : Rat) - 0) = 0
      grind
    rw [this]
    rfl
  | q :: ps, h => by
    have ih := shF_w hg ha hb ps fun z hz => h z (List.mem_cons_of_mem _ hz)
    have e : c4 (q :: ps) = fun b => q.2 * (h1 q.1 b : Rat) + c4 ps b := by
      funext b
      exact sumR_cons _ _
    rw [e, shF_lin q.2 (fun b => (h1 q.1 b : Rat)) (c4 ps), shF_one (h q List.mem_cons_self) hg ha hb, ih]
    exact (sumR_cons _ _).symm
/-- what all pay together is the cost -/
theorem eff_one {m g : Nat} (hm : m < 16) (hg : g < 16) : sumR ((mb g).map fun a => indR m g a) = (h1 m g : Rat) := by
  obtain ⟨e1, e2⟩ := f_eff m hm g hg
  have key : ∀ l : List Nat, sumR (l.map fun a => indR m g a) = ((l.filter fun a => bt m a).length : Rat) * (1 / (pc g m : Rat)) := by
    intro l
    induction l with
    | nil => show (0 : Rat) = (0 : Rat) * _; grind
    | cons x l ih =>
      rw [List.map_cons, sumR_cons, ih, List.filter_cons]
      unfold indR
      by_cases c : bt m x = true
      · rw [if_pos c, if_pos c, List.length_cons, Rat.natCast_add]
        show _ = (_ + (1 : Rat)) * _
        grind
      · rw [if_neg c, if_neg c]
        grind
  rw [key, e1]
  unfold h1
  rw [e2]
  by_cases hp : 0 < pc g m
  · rw [if_pos (decide_eq_true hp)]
    have hp0 : (pc g m : Rat) ≠ 0 := by
      have : ((pc g m : Nat) : Rat) ≠ ((0 : Nat) : Rat) := fun z => by have := Rat.natCast_inj.mp z; omega
      exact this
    rw [Rat.div_def]
    have := Rat.mul_inv_cancel _ hp0
    show _ = (1 : Rat)
    grind
  · rw [if_neg (by rw [decide_eq_true_eq]; exact hp), show pc g m = 0 by omega]
    show (0 : Rat) * _ = (0 : Rat)
    grind
theorem eff_all {g : Nat} (hg : g < 16) : ∀ ps : List (Nat × Rat), (∀ q ∈ ps, q.1 < 16) → sumR ((mb g).map fun a => wF ps g a) = c4 ps g
  | [], _ => by
    have : ∀ l : List Nat, sumR (l.map fun a => wF [] g a) = 0 := fun l => by
      induction l with
      | nil => rfl
      | cons x l ih => rw [List.map_cons, sumR_cons, ih]; show (0 : Rat) + 0 = 0; grind
    rw [this]
    rfl
  | q :: ps, h => by
    have ih := eff_all hg ps fun z hz => h z (List.mem_cons_of_mem _ hz)
    have e : ∀ l : List Nat, sumR (l.map fun a => wF (q :: ps) g a) = q.2 * sumR (l.map fun a => indR q.1 g a) + sumR (l.map fun a => wF ps g a) := fun l => by
      induction l with
      | nil => show (0 : Rat) = q.2 * 0 + 0; grind
      | cons x l ih2 =>
        rw [List.map_cons, sumR_cons, ih2, List.map_cons, sumR_cons, List.map_cons, sumR_cons]
        have : wF (q :: ps) g x = q.2 * indR q.1 g x + wF ps g x := sumR_cons _ _
        rw [this]
        grind
    rw [e, eff_one (h q List.mem_cons_self) hg, ih]
    exact (sumR_cons _ _).symm
/-- in a greater group nobody pays more -/
theorem ind_mono {m g k a : Nat} (hm : m < 16) (hg : g < 16) (hk : k < 16) (ha : a < 4) (hb : bt g a = true) (hgk : g ||| k = k) : indR m k a ≤ indR m g a := by
  unfold indR
  by_cases c : bt m a = true
  · rw [if_pos c, if_pos c]
    have hp := f_pos m hm g hg a ha hb c
    have hle := f_mono m hm g hg k hk hgk
    have h1 : (0 : Rat) < (pc g m : Rat) := by
      have : ((0 : Nat) : Rat) < ((pc g m : Nat) : Rat) := Rat.natCast_lt_natCast.mpr hp
      exact this
    have h2 : (pc g m : Rat) ≤ (pc k m : Rat) := Rat.natCast_le_natCast.mpr hle
    rw [Rat.div_def, Rat.div_def, Rat.one_mul, Rat.one_mul]
    generalize (pc g m : Rat) = x at h1 h2
    generalize (pc k m : Rat) = y at h2
    have hy : 0 < y := by grind
    have ix := Rat.mul_inv_cancel x (by grind)
    have iy := Rat.mul_inv_cancel y (by grind)
    have px : 0 < x⁻¹ := Rat.inv_pos.mpr h1
    have py : 0 < y⁻¹ := Rat.inv_pos.mpr hy
    have h3 : 0 ≤ (y - x) * (x⁻¹ * y⁻¹) := Rat.mul_nonneg (by grind) (Rat.le_of_lt (Rat.mul_pos px py))
    have h4 : (y - x) * (x⁻¹ * y⁻¹) = x⁻¹ - y⁻¹ := by
      generalize x⁻¹ = u at ix ⊢
      generalize y⁻¹ = v at iy ⊢
      grind
    grind
  · rw [if_neg c, if_neg c]; exact Rat.le_refl
theorem w_mono {g k a : Nat} (hg : g < 16) (hk : k < 16) (ha : a < 4) (hb : bt g a = true) (hgk : g ||| k = k) : ∀ ps : List (Nat × Rat), (∀ q ∈ ps, q.1 < 16 ∧ 0 ≤ q.2) → wF ps k a ≤ wF ps g a
  | [], _ => Rat.le_refl
  | q :: ps, h => by
    have ih := w_mono hg hk ha hb hgk ps fun z hz => h z (List.mem_cons_of_mem _ hz)
    obtain ⟨hq, hw⟩ := h q List.mem_cons_self
    have h1 := ind_mono hq hg hk ha hb hgk
    have h2 : 0 ≤ q.2 * (indR q.1 g a - indR q.1 k a) := Rat.mul_nonneg hw (by grind)
    have e1 : wF (q :: ps) k a = q.2 * indR q.1 k a + wF ps k a := sumR_cons _ _
    have e2 : wF (q :: ps) g a = q.2 * indR q.1 g a + wF ps g a := sumR_cons _ _
    rw [e1, e2]
    grind
theorem c4_le {b k : Nat} : ∀ ps : List (Nat × Rat), (∀ q ∈ ps, 0 ≤ q.2 ∧ h1 q.1 b ≤ h1 q.1 k) → c4 ps b ≤ c4 ps k
  | [], _ => Rat.le_refl
  | q :: ps, h => by
    have ih := c4_le ps fun z hz => h z (List.mem_cons_of_mem _ hz)
    obtain ⟨hw, hh⟩ := h q List.mem_cons_self
    have hh' : (h1 q.1 b : Rat) ≤ (h1 q.1 k : Rat) := Rat.intCast_le_intCast.mpr hh
    have h2 : 0 ≤ q.2 * ((h1 q.1 k : Rat) - (h1 q.1 b : Rat)) := Rat.mul_nonneg hw (by grind)
    have e1 : c4 (q :: ps) b = q.2 * (h1 q.1 b : Rat) + c4 ps b := sumR_cons _ _
    have e2 : c4 (q :: ps) k = q.2 * (h1 q.1 k : Rat) + c4 ps k := sumR_cons _ _
    rw [e1, e2]
    grind
theorem c4_sub {b k : Nat} (hb : b < 16) (hk : k < 16) : ∀ ps : List (Nat × Rat), (∀ q ∈ ps, q.1 < 16 ∧ 0 ≤ q.2) → c4 ps (b ||| k) + c4 ps (b &&& k) ≤ c4 ps b + c4 ps k
  | [], _ => by show (0 : Rat) + 0 ≤ 0 + 0; exact Rat.le_refl
  | q :: ps, h => by
    have ih := c4_sub hb hk ps fun z hz => h z (List.mem_cons_of_mem _ hz)
    obtain ⟨hq, hw⟩ := h q List.mem_cons_self
    have hh := f_sub q.1 hq b hb k hk
    have hh' : ((h1 q.1 (b ||| k) + h1 q.1 (b &&& k) : Int) : Rat) ≤ ((h1 q.1 b + h1 q.1 k : Int) : Rat) := Rat.intCast_le_intCast.mpr hh
    rw [Rat.intCast_add, Rat.intCast_add] at hh'
    have h2 := Rat.mul_nonneg hw (show 0 ≤ ((h1 q.1 b : Rat) + (h1 q.1 k : Rat)) - ((h1 q.1 (b ||| k) : Rat) + (h1 q.1 (b &&& k) : Rat)) by grind)
    have e : ∀ x, c4 (q :: ps) x = q.2 * (h1 q.1 x : Rat) + c4 ps x := fun x => sumR_cons _ _
    rw [e, e, e, e]
    grind
end
section
def dnP (ps : List (Nat × Rat)) : Nat := match ps with
  | [] => 1
  | q :: ps => q.2.den * dnP ps
theorem dn_ok : ∀ ps : List (Nat × Rat), (∀ q ∈ ps, Bd 31 q.2) → 0 < dnP ps ∧ dnP ps ≤ (2 ^ 31 - 1) ^ ps.length ∧ ∀ q ∈ ps, Fx (dnP ps) ((2 ^ 31 - 1) ^ ps.length) q.2
  | [], _ => ⟨by decide, by decide, fun q hq => by cases hq⟩
  | q :: ps, h => by
    obtain ⟨h0, h2, h3⟩ := dn_ok ps fun z hz => h z (List.mem_cons_of_mem _ hz)
    obtain ⟨b1, b2⟩ : q.2.num.natAbs < 2 ^ 31 ∧ q.2.den < 2 ^ 31 := h q List.mem_cons_self
    have hd := q.2.den_pos
    have e : (2 ^ 31 - 1) ^ (q :: ps).length = (2 ^ 31 - 1) * (2 ^ 31 - 1) ^ ps.length := by rw [List.length_cons, Nat.pow_succ, Nat.mul_comm]
    rw [e]
    generalize (2 ^ 31 - 1) ^ ps.length = M at h2 h3 ⊢
    refine ⟨Nat.mul_pos hd h0, Nat.mul_le_mul (by omega) h2, fun z hz => ?_⟩
    rcases List.mem_cons.mp hz with rfl | hz
    · have f0 : Fx z.2.den z.2.num.natAbs z.2 := ⟨hd, z.2.num, (Rat.num_divInt_den z.2).symm, Nat.le_refl _⟩
      exact (f0.up h0).mono (Nat.mul_le_mul (by omega) h2)
    · have := (h3 z hz).up hd
      rw [Nat.mul_comm] at this
      exact this.mono (by rw [Nat.mul_comm]; exact Nat.mul_le_mul (by omega) (Nat.le_refl _))
theorem cs_fx {n : Nat} (hn : n ≤ 4) {ps : List (Nat × Rat)} (h : PsOk n ps) : CsF n (dnP ps) (cstL n ps) := by
  obtain ⟨h0, h2, h3⟩ := dn_ok ps h.bd
  have hp : (2 ^ 31 - 1) ^ ps.length ≤ (2 ^ 31 - 1) ^ 4 := Nat.pow_le_pow_right (by decide) h.len
  refine ⟨hn, by unfold cstL; rw [List.length_map, List.length_range], h0, Nat.lt_of_le_of_lt (Nat.le_trans h2 hp) (by decide), fun x hx => ?_⟩
  unfold cstL at hx
  obtain ⟨g, hg, rfl⟩ := List.mem_map.mp hx
  unfold cst
  refine (fx_sum (d := dnP ps) (B := (2 ^ 31 - 1) ^ 4) h0 fun y hy => ?_).mono ?_
  · obtain ⟨q, hq, rfl⟩ := List.mem_map.mp hy
    split
    · exact (h3 q hq).mono hp
    · exact fx_zero h0 _
  · rw [List.length_map]
    have : ps.length * (2 ^ 31 - 1) ^ 4 ≤ 4 * (2 ^ 31 - 1) ^ 4 := Nat.mul_le_mul_right _ h.len
    exact Nat.le_trans this (by decide)
def ascB (n : Nat) (Cs : List Rat) : Bool := (List.range (2 ^ n)).all fun g => (List.range n).all fun a => !decide (Cs.getD (g ||| 2 ^ a) 0 < Cs.getD g 0)
theorem f_top0 : ∀ n, n < 5 → ∀ a, a < n → ∀ b, b < 2 ^ n → b ||| 2 ^ a < 2 ^ n := by decide +kernel
theorem t__ascend {n : Nat} {Cs : List Rat} (hn : n ≤ 4) (hl : Cs.length = 2 ^ n) (hb : ∀ x ∈ Cs, Bd 127 x) : p__ascend [.dat (rsD Cs), .dat (.int (n : Int))] = .ret (.d (.bl (ascB n Cs))) [] := by
  have h16 := n16 hn
  have hbd : ∀ b, b < 2 ^ n → Bd 127 (Cs.getD b 0) := fun b h => hb _ (List.mem_of_getElem? (getD_ok (by omega)))
  refine fsat_eq ?_
  unfold p__ascend b__ascend
  walk_at "wg"
  rw [enum_map]
  refine for_inv (xs := Cs.zipIdx) (fun pre e => ∃ (s2 s3 : Option D), e = [.dat (rsD Cs), .dat (.int (n : Int)), jk s2, jk s3, .no] ∧ ((List.range pre.length).all fun g => (List.range n).all fun a => !decide (Cs.getD (g ||| 2 ^ a) 0 < Cs.getD g 0)) = true) ⟨none, none, rfl, rfl⟩ ?_ ?_
  · rintro pre ⟨x, g⟩ post e hx ⟨s2, s3, rfl, hall⟩
    obtain ⟨h1, h2, h3⟩ := zipIdx_split hx
    dsimp only at h1 h2 h3
    have hgn : g < 2 ^ n := by omega
    have hxg : Cs.getD g 0 = x := by rw [List.getD_eq_getElem?_getD, h2]; rfl
    walk_at "wg"
    rw [ints0]
    refine ⟨bigI_small (by omega), ?_⟩
    refine gx_any (xs := List.range n) (fun a => decide (Cs.getD (g ||| 2 ^ a) 0 < Cs.getD g 0)) (fun a ha => ?_) ?_
    · have ha := List.mem_range.mp ha
      have ht := f_top0 n (by omega) a ha g hgn
      walk_at "wg"
      rw [shl_n (by omega)]
      walk_at "wg"
      rw [or_n]
      walk_at "wg"
      rw [getD_ok (l := Cs) (d := 0) (show g ||| 2 ^ a < Cs.length by omega)]
      walk_at "wg"
      rw [t_compare (hbd _ ht) (by rw [← hxg]; exact hbd g hgn) (by decide)]
      walk_at "wg"
      exact decide_eq_decide.mpr (by rw [cmp_lt, hxg])
    · walk_at "wg"
      have hany : (List.range n).any (fun a => decide (Cs.getD (g ||| 2 ^ a) 0 < Cs.getD g 0)) = !(List.range n).all fun a => !decide (Cs.getD (g ||| 2 ^ a) 0 < Cs.getD g 0) := by
        rw [List.any_eq_not_all_not]
      rw [hany]
      refine ⟨fun c => ?_, fun c => ?_⟩
      · have : ascB n Cs = false := by
          unfold ascB
          rw [List.all_eq_false]
          exact ⟨g, List.mem_range.mpr hgn, by simpa using c⟩
        rw [this]
      · refine ⟨some (rD x), some (.int (g : Int)), rfl, ?_⟩
        rw [List.length_append, List.length_singleton, List.range_succ, List.all_append, hall, ← h1]
        simpa using c
  · rintro e ⟨s2, s3, rfl, hall⟩
    walk_at "wg"
    rw [List.length_zipIdx, hl] at hall
    unfold ascB
    rw [hall]
theorem t__cost_less_together {n d : Nat} {Cs : List Rat} (F : CsF n d Cs) (hs : ∀ b k, b < 2 ^ n → k < 2 ^ n → Cs.getD (b ||| k) 0 + Cs.getD (b &&& k) 0 ≤ Cs.getD b 0 + Cs.getD k 0) : p__cost_less_together [.dat (rsD Cs)] = .ret (.d (.bl true)) [] := by
  have hn := F.hn
  have h16 := n16 hn
  have hl := F.len
  refine fsat_eq ?_
  unfold p__cost_less_together b__cost_less_together
  walk_at "wg"
  rw [enum_map]
  refine for_inv (xs := Cs.zipIdx) (fun pre e => ∃ (s1 s2 s3 s4 : Option D), e = [.dat (rsD Cs), jk s1, jk s2, jk s3, jk s4]) ⟨none, none, none, none, rfl⟩ ?_ ?_
  · rintro pre ⟨x, g⟩ post e hx ⟨s1, s2, s3, s4, rfl⟩
    obtain ⟨h1, h2, h3⟩ := zipIdx_split hx
    dsimp only at h1 h2 h3
    have hgn : g < 2 ^ n := by omega
    have hxg : Cs.getD g 0 = x := by rw [List.getD_eq_getElem?_getD, h2]; rfl
    walk_at "wg"
    rw [ints0]
    refine ⟨bigI_small (by omega), ?_⟩
    refine for_inv (xs := List.range g) (fun pre2 e => ∃ (s3 s4 : Option D), e = [.dat (rsD Cs), .dat (.int (g : Int)), .dat (rD x), jk s3, jk s4]) ⟨s3, s4, rfl⟩ ?_ ?_
    · rintro pre2 k post2 e hx2 ⟨s3, s4, rfl⟩
      obtain ⟨_, hk⟩ := at_range hx2
      have hkn : k < 2 ^ n := by omega
      have hor : g ||| k < 2 ^ n := Nat.or_lt_two_pow hgn hkn
      have han : g &&& k < 2 ^ n := Nat.and_lt_two_pow g hkn
      have hle := hs g k hgn hkn
      rw [hxg] at hle
      walk_at "wg"
      rw [or_n]
      walk_at "wg"
      rw [getD_ok (l := Cs) (d := 0) (show g ||| k < Cs.length by omega)]
      walk_at "wg"
      rw [and_n]
      walk_at "wg"
      rw [getD_ok (l := Cs) (d := 0) (show g &&& k < Cs.length by omega)]
      walk_at "wg"
      rw [t_add (F.bd hor) (F.bd han) (by decide)]
      walk_at "wg"
      rw [getD_ok (l := Cs) (d := 0) (show k < Cs.length by omega)]
      walk_at "wg"
      have hxb : Bd 127 x := by rw [← hxg]; exact F.bd hgn
      rw [t_add hxb (F.bd hkn) (by decide)]
      walk_at "wg"
      rw [t_compare (bd_add (F.bd hor) (F.bd han)) (bd_add hxb (F.bd hkn)) (by decide)]
      walk_at "wg"
      refine ⟨fun c => ?_, fun _ => ⟨some (.int (k : Int)), some (rD (Cs.getD (g ||| k) 0 + Cs.getD (g &&& k) 0)), rfl⟩⟩
      rw [cmp_gt] at c
      exact absurd hle (Rat.not_le.mpr c)
    · rintro e ⟨s3, s4, rfl⟩
      exact ⟨some (.int (g : Int)), some (rD x), s3, s4, rfl⟩
  · rintro e ⟨s1, s2, s3, s4, rfl⟩
    walk_at "wg"
theorem ne_r (r s : Rat) : neD (rD r) (rD s) = some (!decide (r = s)) := by unfold neD; rw [eq_r]; rfl
theorem are_yes {n d : Nat} {Cs : List Rat} (F : CsF n d Cs) (h0 : Cs.getD 0 0 = 0) (ha : ascB n Cs = true) (hs : ∀ b k, b < 2 ^ n → k < 2 ^ n → Cs.getD (b ||| k) 0 + Cs.getD (b &&& k) 0 ≤ Cs.getD b 0 + Cs.getD k 0) : p__are_costs [.dat (rsD Cs), .dat (.int (n : Int))] = .ret (.d (.bl true)) [] := by
  have hn := F.hn
  have hl := F.len
  have hp := Nat.two_pow_pos n
  refine fsat_eq ?_
  unfold p__are_costs b__are_costs
  walk_at "wg"
  rw [shl_n (by omega)]
  walk_at "wg"
  refine ⟨fun z => absurd (by omega) z, fun _ => ?_⟩
  rw [getD_ok (l := Cs) (d := 0) (show 0 < Cs.length by omega)]
  walk_at "wg"
  rw [show (D.tup [.int 0, .int 1]) = rD 0 from rfl]
  rw [ne_r]
  walk_at "wg"
  refine ⟨fun z => absurd h0 z, fun _ => ?_⟩
  rw [t__ascend hn hl (fun x hx => (F.fx x hx).bd (Nat.lt_trans F.dlt (by decide)) (by decide)), ha]
  walk_at "wg"
  rw [t__cost_less_together F hs]
  walk_at "wg"
theorem are_no_len {n : Nat} {Cs : List Rat} (hn : n ≤ 6) (h : Cs.length ≠ 2 ^ n) : p__are_costs [.dat (rsD Cs), .dat (.int (n : Int))] = .ret (.d (.bl false)) [] := by
  refine fsat_eq ?_
  unfold p__are_costs b__are_costs
  walk_at "wg"
  rw [shl_n (by omega)]
  walk_at "wg"
  exact fun z => absurd (by omega) h
theorem are_no_0 {n : Nat} {Cs : List Rat} (hn : n ≤ 6) (hl : Cs.length = 2 ^ n) (h : Cs.getD 0 0 ≠ 0) : p__are_costs [.dat (rsD Cs), .dat (.int (n : Int))] = .ret (.d (.bl false)) [] := by
  have hp := Nat.two_pow_pos n
  refine fsat_eq ?_
  unfold p__are_costs b__are_costs
  walk_at "wg"
  rw [shl_n (by omega)]
  walk_at "wg"
  intro _
  rw [getD_ok (l := Cs) (d := 0) (show 0 < Cs.length by omega)]
  walk_at "wg"
  rw [show (D.tup [.int 0, .int 1]) = rD 0 from rfl]
  rw [ne_r]
  walk_at "wg"
  exact fun z => absurd z h
theorem are_no_asc {n : Nat} {Cs : List Rat} (hn : n ≤ 4) (hl : Cs.length = 2 ^ n) (hb : ∀ x ∈ Cs, Bd 127 x) (ha : ascB n Cs = false) : p__are_costs [.dat (rsD Cs), .dat (.int (n : Int))] = .ret (.d (.bl false)) [] := by
  have hp := Nat.two_pow_pos n
  refine fsat_eq ?_
  unfold p__are_costs b__are_costs
  walk_at "wg"
  rw [shl_n (by omega)]
  walk_at "wg"
  intro _
  rw [getD_ok (l := Cs) (d := 0) (show 0 < Cs.length by omega)]
  walk_at "wg"
  rw [show (D.tup [.int 0, .int 1]) = rD 0 from rfl]
  rw [ne_r]
  walk_at "wg"
  intro _
  rw [t__ascend hn hl hb, ha]
  walk_at "wg"
end
section
def keepM (C B : Nat → Rat) (g : Nat) : Nat := grp ((mb g).filter fun k => !decide (B k < shF C g k))
def itM (C B : Nat → Rat) (n : Nat) : Nat → Nat
  | 0 => 2 ^ n - 1
  | j + 1 => keepM C B (itM C B n j)
def fourB (p0 p1 p2 p3 : Bool) (k : Nat) : Bool := match k with
  | 0 => p0
  | 1 => p1
  | 2 => p2
  | _ => p3
theorem f_filt0 : ∀ g, g < 16 → ∀ p0 p1 p2 p3 : Bool, mb (grp ((mb g).filter (fourB p0 p1 p2 p3))) = (mb g).filter (fourB p0 p1 p2 p3) ∧ (grp ((mb g).filter (fourB p0 p1 p2 p3)) ||| g) = g := by decide +kernel
theorem f_filt {g : Nat} (hg : g < 16) (P : Nat → Bool) : mb (grp ((mb g).filter P)) = (mb g).filter P ∧ (grp ((mb g).filter P) ||| g) = g := by
  have e : (mb g).filter P = (mb g).filter (fourB (P 0) (P 1) (P 2) (P 3)) := List.filter_congr fun k hk => by
    have := (f_mb g hg).1 k hk
    have : k = 0 ∨ k = 1 ∨ k = 2 ∨ k = 3 := by omega
    rcases this with rfl | rfl | rfl | rfl <;> rfl
  rw [e]
  exact f_filt0 g hg _ _ _ _
theorem keep_mb {C B : Nat → Rat} {g : Nat} (hg : g < 16) : mb (keepM C B g) = (mb g).filter (fun k => !decide (B k < shF C g k)) ∧ (keepM C B g ||| g) = g ∧ keepM C B g ≤ g := by
  obtain ⟨h1, h2⟩ := f_filt hg fun k => !decide (B k < shF C g k)
  refine ⟨h1, h2, ?_⟩
  have : keepM C B g ≤ keepM C B g ||| g := Nat.left_le_or
  rw [show (keepM C B g ||| g) = g from h2] at this
  exact this
theorem it_lt {C B : Nat → Rat} {n : Nat} (hn : n ≤ 4) : ∀ j, itM C B n j < 2 ^ n
  | 0 => by
    have := Nat.two_pow_pos n
    show 2 ^ n - 1 < 2 ^ n
    omega
  | j + 1 => by
    have ih := it_lt (C := C) (B := B) hn j
    have h16 := n16 hn
    have := (keep_mb (C := C) (B := B) (show itM C B n j < 16 by omega)).2.2
    show keepM C B (itM C B n j) < 2 ^ n
    omega
theorem keep_same {C B : Nat → Rat} {g : Nat} (hg : g < 16) (h : (mb g).length ≤ (mb (keepM C B g)).length) : keepM C B g = g := by
  rw [(keep_mb hg).1] at h
  have : (mb g).filter (fun k => !decide (B k < shF C g k)) = mb g := List.filter_sublist.eq_of_length_le h
  unfold keepM
  rw [this]
  exact (f_mb g hg).2.1
theorem f_full : ∀ n, n < 5 → mb (2 ^ n - 1) = List.range n ∧ (mb (2 ^ n - 1)).length = n := by decide +kernel
theorem f_btn : ∀ n, n < 5 → ∀ g, g < 2 ^ n → ∀ k, k ∈ mb g → k < n ∧ bt g k = true := by decide +kernel
theorem it_fix {C B : Nat → Rat} {n j : Nat} (h : keepM C B (itM C B n j) = itM C B n j) : ∀ m, itM C B n (j + m) = itM C B n j
  | 0 => rfl
  | m + 1 => by
    show keepM C B (itM C B n (j + m)) = _
    rw [it_fix h m]
    exact h
/-- the final group -/
def endM (C B : Nat → Rat) (n : Nat) : Nat := itM C B n (n + 1)
def paidM (C : Nat → Rat) (n g : Nat) : List Rat := (List.range n).map fun k => if bt g k = true then shF C g k else 0
def chD (C B : Nat → Rat) (n : Nat) : D := .tup [natsD (mb (endM C B n)), rsD (paidM C n (endM C B n))]
theorem cmp_ge' (a b : Rat) : (0 ≤ (if b < a then (1 : Int) else if a < b then -1 else 0)) = ¬a < b := by
  by_cases h1 : b < a
  · rw [if_pos h1]
    exact propext ⟨fun _ z => by grind, fun _ => by decide⟩
  · rw [if_neg h1]
    by_cases h2 : a < b
    · rw [if_pos h2]
      exact propext ⟨fun z => absurd z (by decide), fun z => absurd h2 z⟩
    · rw [if_neg h2]
      exact propext ⟨fun _ => h2, fun _ => by decide⟩
structure BsB (n : Nat) (bs : List Rat) : Prop where
  len : bs.length = n
  bd : ∀ x ∈ bs, Bd 150 x
theorem BsB.at' {n : Nat} {bs : List Rat} (h : BsB n bs) {k : Nat} (hk : k < n) : bs[k]? = some (bs.getD k 0) ∧ Bd 150 (bs.getD k 0) := by
  have e := getD_ok (l := bs) (d := 0) (show k < bs.length by rw [h.len]; exact hk)
  exact ⟨e, h.bd _ (List.mem_of_getElem? e)⟩
theorem shF_bd {n d : Nat} {Cs : List Rat} (F : CsF n d Cs) {g a : Nat} (hg : g < 2 ^ n) (ha : a < n) (hb : bt g a = true) : Bd 140 (shF (fun b => Cs.getD b 0) g a) := by
  have := sh_bd F hg ha hb (Nat.le_refl _)
  rw [sh_full F.hn hg] at this
  exact this
theorem t__staying {n d : Nat} {Cs bs : List Rat} (F : CsF n d Cs) (hB : BsB n bs) {g : Nat} (hg : g < 2 ^ n) : p__staying [.dat (rsD Cs), .dat (rsD bs), .dat (natsD (mb g))] = .ret (.f (.l ((mb (keepM (fun b => Cs.getD b 0) (fun k => bs.getD k 0) g)).map fun (k : Nat) => D.int (k : Int)))) [] := by
  have hn := F.hn
  have h16 := n16 hn
  obtain ⟨m1, m2, m3, m4⟩ := f_mb g (by omega)
  refine fsat_eq ?_
  unfold p__staying b__staying
  walk_at "wg"
  rw [t__group (by omega) (fun k hk => by have := m1 k hk; omega), m2]
  walk_at "wg"
  rw [(keep_mb (C := fun b => Cs.getD b 0) (B := fun k => bs.getD k 0) (show g < 16 by omega)).1]
  refine lc_inv (xs := mb g) (lim_le (by omega)) (fun pre acc e => acc = (pre.filter fun k => !decide (bs.getD k 0 < shF (fun b => Cs.getD b 0) g k)).map (fun (k : Nat) => D.int (k : Int)) ∧ e = [.dat (rsD Cs), .dat (rsD bs), .dat (natsD (mb g)), .dat (.int (g : Int)), .no]) ⟨rfl, rfl⟩ ?_ ?_
  · rintro pre k post acc e hx ⟨rfl, rfl⟩
    have hk : k ∈ mb g := by rw [hx]; simp
    obtain ⟨hkn, hkb⟩ := f_btn n (by omega) g hg k hk
    obtain ⟨e1, e2⟩ := hB.at' hkn
    walk_at "wg"
    rw [e1]
    walk_at "wg"
    rw [t__share F hg hkn hkb]
    walk_at "wg"
    rw [t_compare e2 (shF_bd F hg hkn hkb) (by decide)]
    walk_at "wg"
    rw [filt_one, List.map_append, cmp_ge']
    refine ⟨fun c => ?_, fun c => ?_⟩
    · rw [if_pos (by rw [decide_eq_false c]; rfl)]
      rfl
    · rw [if_neg (by rw [decide_eq_true (Classical.byContradiction fun z => c z)]; decide), List.map_nil, List.append_nil]
  · rintro acc e ⟨rfl, rfl⟩
    walk_at "wg"
theorem rg1_n {n : Nat} (h : n ≤ 1000) : rg1D (.int (n : Int)) = some (.f (.l ((List.range n).map fun (k : Nat) => D.int (k : Int)))) := by
  have : rgOk 0 (n : Int) = true := decide_eq_true (by omega)
  show (if rgOk 0 (n : Int) = true then some (Vw.f (.l (intsL 0 ((n : Int)).toNat))) else none) = _
  rw [if_pos this, Int.toNat_natCast, ints0]
/-- what the served pay, as far as it is written -/
def paidP (C : Nat → Rat) (n g : Nat) (pre : List Nat) : List Rat := (List.range n).map fun k => if k ∈ pre then shF C g k else 0
theorem paid_set {C : Nat → Rat} {n g a : Nat} {pre : List Nat} : (paidP C n g pre).set a (shF C g a) = paidP C n g (pre ++ [a]) := by
  unfold paidP
  apply List.ext_getElem?
  intro i
  rw [List.getElem?_set, List.getElem?_map]
  by_cases hi : i < n
  · rw [List.getElem?_map, List.getElem?_range hi]
    by_cases c : a = i
    · subst c
      rw [if_pos rfl, if_pos (by rw [List.length_map, List.length_range]; exact hi)]
      show _ = some (if a ∈ pre ++ [a] then shF C g a else 0)
      rw [if_pos (by simp)]
    · rw [if_neg c]
      show some _ = some _
      have : (i ∈ pre ++ [a]) = (i ∈ pre) := by
        rw [List.mem_append, List.mem_singleton]
        exact propext ⟨fun z => z.elim id fun z => absurd z.symm c, .inl⟩
      congr 1
      show (if i ∈ pre then shF C g i else 0) = if i ∈ pre ++ [a] then shF C g i else 0
      by_cases d : i ∈ pre
      · rw [if_pos d, if_pos (by rw [this]; exact d)]
      · rw [if_neg d, if_neg (by rw [this]; exact d)]
  · rw [List.getElem?_map, List.getElem?_eq_none (l := List.range n) (by rw [List.length_range]; omega)]
    by_cases c : a = i
    · rw [if_pos c, if_neg (by rw [List.length_map, List.length_range]; omega)]
      rfl
    · rw [if_neg c]
      rfl
theorem paid_end {C : Nat → Rat} {n g : Nat} (hn : n ≤ 4) (hg : g < 2 ^ n) : paidP C n g (mb g) = paidM C n g := by
  have h16 := n16 hn
  unfold paidP paidM
  refine List.map_congr_left fun k hk => ?_
  have hk := List.mem_range.mp hk
  have := (f_mb g (by omega)).2.2.2 k (by omega)
  by_cases c : bt g k = true
  · rw [if_pos c, if_pos (this.mp c)]
  · rw [if_neg c, if_neg fun z => c (this.mpr z)]
theorem t_charge {n d : Nat} {Cs bs : List Rat} (F : CsF n d Cs) (hB : BsB n bs) (hA : p__are_costs [.dat (rsD Cs), .dat (.int (n : Int))] = .ret (.d (.bl true)) []) : p_charge [.dat (rsD Cs), .dat (rsD bs)] = .ret (.d (chD (fun b => Cs.getD b 0) (fun k => bs.getD k 0) n)) [] := by
  have hn := F.hn
  have h16 := n16 hn
  have hbl := hB.len
  refine fsat_eq ?_
  unfold p_charge b_charge
  walk_at "wg"
  rw [t_check_size, if_neg (by omega)]
  walk_at "wg"
  rw [hbl, hA]
  unfold eRg1
  walk_at "wg"
  rw [hbl, rg1_n (by omega)]
  walk_at "wg"
  rw [← (f_full n (by omega)).1]
  rw [show p__staying [.dat (rsD Cs), .dat (rsD bs), .dat (natsD (mb (2 ^ n - 1)))] = _ from t__staying F hB (it_lt (C := fun b => Cs.getD b 0) (B := fun k => bs.getD k 0) hn 0)]
  walk_at "wg"
  generalize hC : (fun b => Cs.getD b 0) = C
  generalize hBf : (fun k => bs.getD k 0) = Bf
  refine whl_inv (n := 100000) (fun e => ∃ (j : Nat), e = [.dat (rsD Cs), .dat (rsD bs), .dat (natsD (mb (itM C Bf n j))), .dat (natsD (mb (itM C Bf n (j + 1)))), .no, .no] ∧ j + (mb (itM C Bf n j)).length ≤ n) (fun e => match e with
      | [_, _, .dat (.lst l), _, _, _] => l.length
      | _ => 0) ⟨0, rfl, by show 0 + (mb (2 ^ n - 1)).length ≤ n; rw [(f_full n (by omega)).2]; omega⟩ (by show ((mb (2 ^ n - 1)).map _).length < _; rw [List.length_map, (f_full n (by omega)).2]; omega) ?_
  rintro e ⟨j, rfl, hj⟩
  have hlt := it_lt (C := C) (B := Bf) hn j
  have hlt1 := it_lt (C := C) (B := Bf) hn (j + 1)
  walk_at "wg"
  refine ⟨fun c => ?_, fun c => ?_⟩
  · have hst := t__staying F hB hlt1
    rw [hC, hBf] at hst
    rw [hst]
    walk_at "wg"
    exact ⟨⟨j + 1, rfl, by omega⟩, by omega⟩
  · have h16' : itM C Bf n j < 16 := by omega
    have hfix : keepM C Bf (itM C Bf n j) = itM C Bf n j := keep_same h16' (by
      show (mb (itM C Bf n j)).length ≤ (mb (itM C Bf n (j + 1))).length
      omega)
    have hend : endM C Bf n = itM C Bf n j := by
      unfold endM
      have := it_fix (n := n) hfix (n + 1 - j)
      rw [show j + (n + 1 - j) = n + 1 by omega] at this
      exact this
    have hch : chD C Bf n = .tup [natsD (mb (itM C Bf n j)), rsD (paidM C n (itM C Bf n j))] := by unfold chD; rw [hend]
    rw [hch]
    generalize (mb (itM C Bf n (j + 1))) = X
    generalize itM C Bf n j = g at hlt h16'
    refine ⟨⟨by omega, by omega, by omega⟩, ?_⟩
    obtain ⟨m1, m2, m3, m4⟩ := f_mb g h16'
    have hrep : rep [D.tup [.int 0, .int 1]] bs.length = (paidP C n g []).map rD := by
      rw [hbl]
      unfold paidP
      clear hC hBf
      have : ∀ m, rep [D.tup [.int 0, .int 1]] m = ((List.range m).map fun k => if k ∈ ([] : List Nat) then shF C g k else 0).map rD := by
        intro m
        induction m with
        | zero => rfl
        | succ m ih =>
          have e1 : ∀ k, rep [D.tup [.int 0, .int 1]] k = List.replicate k (D.tup [.int 0, .int 1]) := by
            intro k
            induction k with
            | zero => rfl
            | succ k ih => show [D.tup [.int 0, .int 1]] ++ rep _ k = _; rw [ih]; rfl
          rw [e1, List.range_succ, List.map_append, List.map_append, ← ih, e1, List.replicate_succ']
          rfl
      exact this n
    rw [hrep]
    refine for_inv (xs := mb g) (fun pre e => ∃ (s5 : Option D), e = [.dat (rsD Cs), .dat (rsD bs), .dat (natsD (mb g)), .dat (natsD X), .own (.l ((paidP C n g pre).map rD)), jk s5]) ⟨none, rfl⟩ ?_ ?_
    · rintro pre a post e hx ⟨s5, rfl⟩
      have ha : a ∈ mb g := by rw [hx]; simp
      obtain ⟨han, hab⟩ := f_btn n (by omega) g hlt a ha
      have hpl : (paidP C n g pre).length = n := by unfold paidP; rw [List.length_map, List.length_range]
      have hsh := t__share F hlt han hab
      rw [hC] at hsh
      rw [← paid_set]
      generalize paidP C n g pre = P at hpl ⊢
      walk_at "wg"
      rw [t__group (by omega) (fun k hk => by have := m1 k hk; omega), m2]
      walk_at "wg"
      rw [hsh]
      walk_at "wg"
      rw [hpl, ixI_nat han]
      exact ⟨some (.int (a : Int)), by rw [List.map_set]; rfl⟩
    · rintro e ⟨s5, rfl⟩
      walk_at "wg"
      rw [paid_end hn hlt]
end
section
theorem less_iff' (a b : Rat) : (a.num * (b.den : Int) < b.num * (a.den : Int)) = (a < b) := propext (Rat.lt_iff a b).symm
theorem t__law_less {a b : Rat} {n m : Nat} (ha : Bd n a) (hb : Bd m b) (hn : n + m < 800000) : p__law_less [.dat (rD a), .dat (rD b)] = .ret (.d (.bl (decide (a < b)))) [] := by
  refine fsat_eq ?_
  unfold p__law_less b__law_less
  walk_at "wg"
  refine ⟨mul_ok ha.1 (den_lt hb) (by omega), mul_ok hb.1 (den_lt ha) (by omega), ?_⟩
  simp only [less_iff']
theorem t__law_charge {n d : Nat} {Cs bs : List Rat} (F : CsF n d Cs) (hB : BsB n bs) : p__law_charge [.dat (rsD Cs), .dat (rsD bs)] = .ret (.d (chD (fun b => Cs.getD b 0) (fun k => bs.getD k 0) n)) [] := by
  have hn := F.hn
  have h16 := n16 hn
  have hbl := hB.len
  refine fsat_eq ?_
  unfold p__law_charge b__law_charge eRg1
  walk_at "wg"
  rw [hbl, rg1_n (by omega)]
  walk_at "wg"
  rw [← (f_full n (by omega)).1]
  rw [hbl, show (n : Int) + 1 = ((n + 1 : Nat) : Int) from rfl]
  walk_at "wg"
  generalize hC : (fun b => Cs.getD b 0) = C
  generalize hBf : (fun k => bs.getD k 0) = Bf
  rw [ints0]
  refine ⟨bigI_small (by omega), ?_⟩
  refine for_inv (xs := List.range (n + 1)) (fun pre e => ∃ (s3 : Option D), e = [.dat (rsD Cs), .dat (rsD bs), .dat (natsD (mb (itM C Bf n pre.length))), jk s3, .no, .no]) ⟨none, rfl⟩ ?_ ?_
  · rintro pre j post e hx ⟨s3, rfl⟩
    have hlt := it_lt (C := C) (B := Bf) hn pre.length
    have hp : (pre ++ [j]).length = pre.length + 1 := by rw [List.length_append]; rfl
    rw [hp, show itM C Bf n (pre.length + 1) = keepM C Bf (itM C Bf n pre.length) from rfl]
    generalize itM C Bf n pre.length = g at hlt ⊢
    obtain ⟨m1, m2, m3, m4⟩ := f_mb g (by omega)
    rw [(keep_mb (C := C) (B := Bf) (show g < 16 by omega)).1]
    walk_at "wg"
    refine lc_inv (xs := mb g) (lim_le (by omega)) (fun pre acc e => acc = (pre.filter fun k => !decide (Bf k < shF C g k)).map (fun (k : Nat) => D.int (k : Int)) ∧ e = [.dat (rsD Cs), .dat (rsD bs), .dat (natsD (mb g)), .dat (.int (j : Int)), .no, .no]) ⟨rfl, rfl⟩ ?_ ?_
    · rintro pre k post acc e hx ⟨rfl, rfl⟩
      have hk : k ∈ mb g := by rw [hx]; simp
      obtain ⟨hkn, hkb⟩ := f_btn n (by omega) g hlt k hk
      obtain ⟨e1, e2⟩ := hB.at' hkn
      have hsh := t__law_share F hlt hkn hkb
      have hsb := shF_bd F hlt hkn hkb
      rw [hC] at hsh hsb
      have hBk : bs.getD k 0 = Bf k := by rw [← hBf]
      rw [hBk] at e1 e2
      walk_at "wg"
      rw [e1]
      walk_at "wg"
      rw [hsh]
      walk_at "wg"
      rw [t__law_less e2 hsb (by decide)]
      walk_at "wg"
      rw [filt_one, List.map_append]
      refine ⟨fun c => ?_, fun c => ?_⟩
      · rw [if_pos (by rw [decide_eq_false c]; rfl)]
        rfl
      · rw [if_neg (by rw [decide_eq_true c]; decide), List.map_nil, List.append_nil]
    · rintro acc e ⟨rfl, rfl⟩
      walk_at "wg"
      exact ⟨some (.int (j : Int)), rfl⟩
  · rintro e ⟨s3, rfl⟩
    rw [List.length_range]
    have hlt := it_lt (C := C) (B := Bf) hn (n + 1)
    rw [show itM C Bf n (n + 1) = endM C Bf n from rfl] at hlt ⊢
    unfold chD
    generalize endM C Bf n = g at hlt ⊢
    obtain ⟨m1, m2, m3, m4⟩ := f_mb g (by omega)
    walk_at "wg"
    rw [hbl, ints0]
    refine ⟨bigI_small (by omega), ?_⟩
    refine for_inv (xs := List.range n) (fun pre e => ∃ (s4 : Option D), e = [.dat (rsD Cs), .dat (rsD bs), .dat (natsD (mb g)), jk s3, jk s4, .own (.l ((pre.map fun k => if bt g k = true then shF C g k else 0).map rD))]) ⟨none, rfl⟩ ?_ ?_
    · rintro pre k post e hx ⟨s4, rfl⟩
      obtain ⟨hkl, hk⟩ := at_range hx
      have hbk := m4 k (by omega)
      walk_at "wg"
      rw [in_nats]
      walk_at "wg"
      rw [List.map_append, List.map_append]
      refine ⟨fun c => ?_, fun c => ?_⟩
      · have hb := hbk.mpr c
        have hsh := t__law_share F hlt hk hb
        rw [hC] at hsh
        rw [hsh]
        walk_at "wg"
        refine ⟨by omega, some (.int (k : Int)), ?_⟩
        rw [if_pos hb]
        rfl
      · refine ⟨by omega, some (.int (k : Int)), ?_⟩
        rw [show [k].map (fun k => if bt g k = true then shF C g k else 0) = [0] from by rw [List.map_cons, if_neg fun z => c (hbk.mp z)]; rfl]
        rfl
    · rintro e ⟨s4, rfl⟩
      walk_at "wg"
      rfl
theorem t_charge_bad {Cs bs : List Rat} {n : Nat} (hbl : bs.length = n) (hn : n ≤ 6) (hA : p__are_costs [.dat (rsD Cs), .dat (.int (n : Int))] = .ret (.d (.bl false)) []) : p_charge [.dat (rsD Cs), .dat (rsD bs)] = .exc ⟨"InvalidCosts", []⟩ [] := by
  refine fsat_exc ?_
  unfold p_charge b_charge
  walk_at "wg"
  rw [t_check_size, if_neg (by omega)]
  walk_at "wg"
  rw [hbl, hA]
  walk_at "wg"
theorem t_charge_size {Cs : List Rat} {ds : List D} (h : ds.length = 7) : p_charge [.dat (rsD Cs), .dat (.lst ds)] = .exc ⟨"TooLarge", [("limit", .str "size")]⟩ [] := by
  refine fsat_exc ?_
  unfold p_charge b_charge
  walk_at "wg"
  rw [t_check_size, if_pos (by omega)]
  walk_at "wg"
theorem f_subs : ∀ h, h < 16 → ∀ g, g < 16 → ((h ||| g) = g ↔ ∀ k, k < 4 → (bt h k = true → bt g k = true)) := by decide +kernel
theorem f_full2 : ∀ n, n < 5 → ∀ h, h < 2 ^ n → (h ||| (2 ^ n - 1)) = 2 ^ n - 1 := by decide +kernel
theorem keep_bt {C B : Nat → Rat} {g k : Nat} (hg : g < 16) (hk : k < 4) : bt (keepM C B g) k = true ↔ bt g k = true ∧ ¬B k < shF C g k := by
  have hlt : keepM C B g < 16 := by have := (keep_mb (C := C) (B := B) hg).2.2; omega
  rw [(f_mb _ hlt).2.2.2 k hk, (keep_mb hg).1, List.mem_filter, (f_mb g hg).2.2.2 k hk, Bool.not_eq_true', decide_eq_false_iff_not]
theorem end_fix {C B : Nat → Rat} {n : Nat} (hn : n ≤ 4) : keepM C B (endM C B n) = endM C B n := by
  have h16 := n16 hn
  have key : ∀ m, (∃ j, j < m ∧ keepM C B (itM C B n j) = itM C B n j) ∨ (mb (itM C B n m)).length + m ≤ n := by
    intro m
    induction m with
    | zero => right; show (mb (2 ^ n - 1)).length + 0 ≤ n; rw [(f_full n (by omega)).2]; omega
    | succ m ih =>
      rcases ih with ⟨j, hj, e⟩ | h
      · exact .inl ⟨j, by omega, e⟩
      · have hlt := it_lt (C := C) (B := B) hn m
        by_cases c : (mb (itM C B n m)).length ≤ (mb (keepM C B (itM C B n m))).length
        · exact .inl ⟨m, by omega, keep_same (by omega) c⟩
        · right
          show (mb (keepM C B (itM C B n m))).length + (m + 1) ≤ n
          omega
  rcases key (n + 1) with ⟨j, hj, e⟩ | h
  · have := it_fix (n := n) e (n + 1 - j)
    rw [show j + (n + 1 - j) = n + 1 by omega] at this
    show keepM C B (itM C B n (n + 1)) = itM C B n (n + 1)
    rw [this]
    exact e
  · omega
def MonoF (n : Nat) (C : Nat → Rat) : Prop := ∀ g k a, g < 2 ^ n → k < 2 ^ n → a < 4 → bt g a = true → (g ||| k) = k → shF C k a ≤ shF C g a
theorem sub_end {C B : Nat → Rat} {n h : Nat} (hn : n ≤ 4) (hm : MonoF n C) (hh : h < 2 ^ n) (hf : ∀ k, k < 4 → bt h k = true → ¬B k < shF C h k) : (h ||| endM C B n) = endM C B n := by
  have h16 := n16 hn
  have key : ∀ j, (h ||| itM C B n j) = itM C B n j := by
    intro j
    induction j with
    | zero => exact f_full2 n (by omega) h hh
    | succ j ih =>
      have hlt := it_lt (C := C) (B := B) hn j
      have hlt1 := it_lt (C := C) (B := B) hn (j + 1)
      refine (f_subs h (by omega) _ (by omega)).mpr fun k hk hb => ?_
      refine (keep_bt (by omega) hk).mpr ⟨(f_subs h (by omega) _ (by omega)).mp ih k hk hb, fun z => ?_⟩
      have h1 := hm h (itM C B n j) k hh hlt hk hb ih
      exact hf k hk hb (Std.lt_of_lt_of_le z h1)
  exact key (n + 1)
def utlM (C B : Nat → Rat) (n l : Nat) (v : Rat) : Rat := if bt (endM C B n) l = true then v - shF C (endM C B n) l else 0
theorem no_gain {C B B' : Nat → Rat} {n l : Nat} (hn : n ≤ 4) (hl : l < n) (hm : MonoF n C) (he : ∀ k, k ≠ l → B' k = B k) : utlM C B' n l (B l) ≤ utlM C B n l (B l) := by
  have h16 := n16 hn
  have hlt := it_lt (C := C) (B := B) hn (n + 1)
  have hlt' := it_lt (C := C) (B := B') hn (n + 1)
  have hx := end_fix (C := C) (B := B) hn
  have hx' := end_fix (C := C) (B := B') hn
  have hnn : 0 ≤ utlM C B n l (B l) := by
    unfold utlM
    by_cases c : bt (endM C B n) l = true
    · rw [if_pos c]
      rw [← hx] at c
      have := ((keep_bt (by show itM C B n (n + 1) < 16; omega) (by omega)).mp c).2
      grind
    · rw [if_neg c]; exact Rat.le_refl
  unfold utlM at hnn ⊢
  by_cases c' : bt (endM C B' n) l = true
  · rw [if_pos c']
    by_cases d : B l < shF C (endM C B' n) l
    · grind
    · have hs := sub_end (B := B) hn hm (show endM C B' n < 2 ^ n from hlt') fun k hk hb => by
        by_cases e : k = l
        · rw [e]; exact d
        · rw [← hx'] at hb
          have := ((keep_bt (by show itM C B' n (n + 1) < 16; omega) hk).mp hb).2
          rw [he k e] at this
          exact this
      have hb := (f_subs _ (by show itM C B' n (n + 1) < 16; omega) _ (by show itM C B n (n + 1) < 16; omega)).mp hs l (by omega) c'
      have h1 : shF C (endM C B n) l ≤ shF C (endM C B' n) l := hm _ _ l hlt' hlt (by omega) c' hs
      rw [if_pos hb]
      grind
  · rw [if_neg c']
    exact hnn
end
section
theorem f_h0 : ∀ m, m < 16 → h1 m 0 = 0 := by decide +kernel
theorem f_mbn : ∀ n, n < 5 → ∀ g, g < 2 ^ n → mb g = (List.range n).filter fun k => bt g k := by decide +kernel
variable {n : Nat} {ps : List (Nat × Rat)}
theorem ps16 (hn : n ≤ 4) (h : PsOk n ps) : ∀ q ∈ ps, q.1 < 16 ∧ 0 ≤ q.2 := fun q hq => ⟨by have := h.lt q hq; have := n16 hn; omega, h.nn q hq⟩
theorem cs_mono (hn : n ≤ 4) (h : PsOk n ps) : MonoF n fun b => (cstL n ps).getD b 0 := fun g k a hg hk ha hb hgk => by
  have h16 := n16 hn
  have hp := ps16 hn h
  have han : a < n := (f_btn n (by omega) g hg a (((f_mb g (by omega)).2.2.2 a ha).mp hb)).1
  have hbk : bt k a = true := (f_subs g (by omega) k (by omega)).mp hgk a ha hb
  rw [shF_cost hn h hg han, shF_cost hn h hk han, shF_w (by omega) ha hb ps fun q hq => (hp q hq).1, shF_w (by omega) ha hbk ps fun q hq => (hp q hq).1]
  exact w_mono (by omega) (by omega) ha hb hgk ps hp
theorem cs_zero (hn : n ≤ 4) (h : PsOk n ps) : (cstL n ps).getD 0 0 = 0 := by
  rw [cst_c4 hn h (Nat.two_pow_pos n)]
  have : ∀ ps : List (Nat × Rat), (∀ q ∈ ps, q.1 < 16) → c4 ps 0 = 0 := by
    intro ps
    induction ps with
    | nil => intro _; rfl
    | cons q ps ih =>
      intro hh
      have e : c4 (q :: ps) 0 = q.2 * (h1 q.1 0 : Rat) + c4 ps 0 := sumR_cons _ _
      rw [e, ih fun z hz => hh z (List.mem_cons_of_mem _ hz), f_h0 q.1 (hh q List.mem_cons_self)]
      show _ * (0 : Rat) + 0 = 0
      grind
  exact this ps fun q hq => (ps16 hn h q hq).1
theorem cs_asc (hn : n ≤ 4) (h : PsOk n ps) : ascB n (cstL n ps) = true := by
  have h16 := n16 hn
  unfold ascB
  refine List.all_eq_true.mpr fun g hg => List.all_eq_true.mpr fun a ha => ?_
  have hg := List.mem_range.mp hg
  have ha := List.mem_range.mp ha
  rw [Bool.not_eq_true', decide_eq_false_iff_not, Rat.not_lt, cst_c4 hn h hg, cst_c4 hn h (f_top0 n (by omega) a ha g hg)]
  exact c4_le ps fun q hq => ⟨h.nn q hq, f_asc q.1 (ps16 hn h q hq).1 g (by omega) a (by omega)⟩
theorem cs_sub (hn : n ≤ 4) (h : PsOk n ps) : ∀ b k, b < 2 ^ n → k < 2 ^ n → (cstL n ps).getD (b ||| k) 0 + (cstL n ps).getD (b &&& k) 0 ≤ (cstL n ps).getD b 0 + (cstL n ps).getD k 0 := fun b k hb hk => by
  have h16 := n16 hn
  rw [cst_c4 hn h (Nat.or_lt_two_pow hb hk), cst_c4 hn h (Nat.and_lt_two_pow b hk), cst_c4 hn h hb, cst_c4 hn h hk]
  exact c4_sub (by omega) (by omega) ps (ps16 hn h)
theorem cs_are (hn : n ≤ 4) (h : PsOk n ps) : p__are_costs [.dat (rsD (cstL n ps)), .dat (.int (n : Int))] = .ret (.d (.bl true)) [] := are_yes (cs_fx hn h) (cs_zero hn h) (cs_asc hn h) (cs_sub hn h)
theorem cs_nn (hn : n ≤ 4) (h : PsOk n ps) {b : Nat} (hb : b < 2 ^ n) : 0 ≤ (cstL n ps).getD b 0 := by
  rw [cst_c4 hn h hb]
  have : ∀ ps : List (Nat × Rat), (∀ q ∈ ps, 0 ≤ q.2) → 0 ≤ c4 ps b := by
    intro ps
    induction ps with
    | nil => intro _; exact Rat.le_refl
    | cons q ps ih =>
      intro hh
      have e : c4 (q :: ps) b = q.2 * (h1 q.1 b : Rat) + c4 ps b := sumR_cons _ _
      have h1' : (0 : Rat) ≤ (h1 q.1 b : Rat) := by
        have : (0 : Int) ≤ h1 q.1 b := by unfold h1; split <;> decide
        exact Rat.intCast_le_intCast.mpr this
      have := Rat.mul_nonneg (hh q List.mem_cons_self) h1'
      have := ih fun z hz => hh z (List.mem_cons_of_mem _ hz)
      rw [e]
      grind
  exact this ps h.nn
theorem paid_sum (hn : n ≤ 4) (h : PsOk n ps) {g : Nat} (hg : g < 2 ^ n) : sumR (paidM (fun b => (cstL n ps).getD b 0) n g) = (cstL n ps).getD g 0 := by
  have h16 := n16 hn
  have hp := ps16 hn h
  rw [cst_c4 hn h hg, ← eff_all (show g < 16 by omega) ps fun q hq => (hp q hq).1, f_mbn n (by omega) g hg]
  unfold paidM
  have : ∀ l : List Nat, (∀ k ∈ l, k < n) → sumR (l.map fun k => if bt g k = true then shF (fun b => (cstL n ps).getD b 0) g k else 0) = sumR ((l.filter fun k => bt g k).map fun a => wF ps g a) := by
    intro l
    induction l with
    | nil => intro _; rfl
    | cons x l ih =>
      intro hl
      have hx := hl x List.mem_cons_self
      rw [List.map_cons, sumR_cons, ih fun k hk => hl k (List.mem_cons_of_mem _ hk), List.filter_cons]
      by_cases c : bt g x = true
      · rw [if_pos c, if_pos c, List.map_cons, sumR_cons, shF_cost hn h hg hx, shF_w (by omega) (by omega) c ps fun q hq => (hp q hq).1]
      · rw [if_neg c, if_neg c]
        grind
  exact this _ fun k hk => List.mem_range.mp hk
end
section
variable {n : Nat} {ps : List (Nat × Rat)}
theorem f_bit0 : ∀ n, n < 5 → 0 < n → (2 ^ n - 2) ||| 2 ^ 0 = 2 ^ n - 1 := by decide +kernel
theorem chg_bad {Cs bs : List Rat} (hbl : bs.length = n) (hn : n ≤ 6) (hA : p__are_costs [.dat (rsD Cs), .dat (.int (n : Int))] = .ret (.d (.bl false)) []) : p__law_refusal [.dat (.str (Str.ofString "charge")), .dat (rsD Cs), .dat (rsD bs)] = .ret (.f (.l [.bl false, .bl true, .bl true])) [] := chg_cost (t_charge_bad hbl hn hA)
def flt (Cs : List Rat) : List (List Rat) := [Cs ++ [0], Cs.drop 1, 1 :: Cs.drop 1, Cs.take (Cs.length - 1) ++ [-1 - Cs.getD (Cs.length - 1) 0]]
theorem flt_bad (hn : n ≤ 4) (h : PsOk n ps) {bs : List Rat} (hbl : bs.length = n) : ∀ f ∈ flt (cstL n ps), p__law_refusal [.dat (.str (Str.ofString "charge")), .dat (rsD f), .dat (rsD bs)] = .ret (.f (.l [.bl false, .bl true, .bl true])) [] := by
  have F := cs_fx hn h
  have hl := F.len
  have hp := Nat.two_pow_pos n
  have h16 := n16 hn
  intro f hf
  refine chg_bad hbl (by omega) ?_
  have : f = cstL n ps ++ [0] ∨ f = (cstL n ps).drop 1 ∨ f = 1 :: (cstL n ps).drop 1 ∨ f = (cstL n ps).take ((cstL n ps).length - 1) ++ [-1 - (cstL n ps).getD ((cstL n ps).length - 1) 0] := by simpa [flt] using hf
  rcases this with rfl | rfl | rfl | rfl
  · exact are_no_len (by omega) (by rw [List.length_append, hl]; show 2 ^ n + 1 ≠ 2 ^ n; omega)
  · exact are_no_len (by omega) (by rw [List.length_drop, hl]; omega)
  · exact are_no_0 (by omega) (by rw [List.length_cons, List.length_drop, hl]; omega) (by show (1 : Rat) ≠ 0; decide)
  · have hll : ((cstL n ps).take ((cstL n ps).length - 1) ++ [-1 - (cstL n ps).getD ((cstL n ps).length - 1) 0]).length = 2 ^ n := by
      rw [List.length_append, List.length_take, List.length_singleton, hl]
      omega
    have hlast := F.at' (show (cstL n ps).length - 1 < 2 ^ n by omega)
    have hnn := cs_nn hn h (show (cstL n ps).length - 1 < 2 ^ n by omega)
    have hbl1 : Bd 127 (-1 - (cstL n ps).getD ((cstL n ps).length - 1) 0) := by
      have h1 : Fx (dnP ps) (dnP ps) (-1 : Rat) := Fx.neg' ⟨F.dp, (dnP ps : Int), by
        have h0 : ((dnP ps : Nat) : Rat) ≠ 0 := by
          have : ((dnP ps : Nat) : Rat) ≠ ((0 : Nat) : Rat) := fun z => by have := Rat.natCast_inj.mp z; have := F.dp; omega
          exact this
        rw [Rat.divInt_eq_div]
        show (1 : Rat) = (dnP ps : Rat) / (dnP ps : Rat)
        rw [Rat.div_def]
        exact (Rat.mul_inv_cancel _ h0).symm, by rw [Int.natAbs_natCast]; exact Nat.le_refl _⟩
      have hd := F.dlt
      exact (Fx.sub' h1 hlast).bd (by omega) (by omega)
    generalize hv : -1 - (cstL n ps).getD ((cstL n ps).length - 1) 0 = v at hll hbl1 ⊢
    have hat : ((cstL n ps).take ((cstL n ps).length - 1) ++ [v]).getD (2 ^ n - 1) 0 = v := by
      rw [List.getD_eq_getElem?_getD, List.getElem?_append_right (by rw [List.length_take]; omega), List.length_take, show 2 ^ n - 1 - min ((cstL n ps).length - 1) (cstL n ps).length = 0 by omega]
      rfl
    rcases Nat.eq_zero_or_pos n with z | z
    · subst z
      refine are_no_0 (by omega) hll ?_
      rw [show (2 ^ 0 - 1 : Nat) = 0 from rfl] at hat
      rw [hat, ← hv]
      grind
    · have h2n : 2 ≤ 2 ^ n := by
        have := Nat.pow_le_pow_right (show 0 < 2 by decide) z
        omega
      refine are_no_asc hn hll (fun x hx => ?_) ?_
      · rcases List.mem_append.mp hx with hx | hx
        · have hx := List.mem_of_mem_take hx
          exact (F.fx x hx).bd (Nat.lt_trans F.dlt (by decide)) (by decide)
        · rw [List.mem_singleton.mp hx]; exact hbl1
      · unfold ascB
        rw [List.all_eq_false]
        refine ⟨2 ^ n - 2, List.mem_range.mpr (by omega), ?_⟩
        rw [Bool.not_eq_true, List.all_eq_false]
        refine ⟨0, List.mem_range.mpr z, ?_⟩
        rw [f_bit0 n (by omega) z, hat]
        have hg : ((cstL n ps).take ((cstL n ps).length - 1) ++ [v]).getD (2 ^ n - 2) 0 = (cstL n ps).getD (2 ^ n - 2) 0 := by
          rw [List.getD_eq_getElem?_getD, List.getElem?_append_left (by rw [List.length_take]; omega), List.getElem?_take_of_lt (by omega), List.getD_eq_getElem?_getD]
        rw [hg]
        have := cs_nn hn h (show 2 ^ n - 2 < 2 ^ n by omega)
        have : v < (cstL n ps).getD (2 ^ n - 2) 0 := by rw [← hv]; grind
        rw [decide_eq_true this]
        decide
theorem pars_jk (s : Option D) (e : UbP.Env) : pars (jk s :: e) = pars e := by cases s <;> rfl
theorem law_3 (hn : n ≤ 4) (h : PsOk n ps) {bs : List Rat} (hB : BsB n bs) {c : Ct} (hc : RowC c) {x : D} {s4 s5 s7 s8 s9 s10 s11 s12 s13 s14 : Option D} {cf : Kwt Fl} {q : Kwe} (hk : ∀ e, UbP.pars e = [] → cf.P (.rt (.d (.bl true))) e) : @st Fl (b_law_3 [.dat x, .own c, .dat (.int (n : Int)), .dat (rsD (cstL n ps)), jk s4, jk s5, .dat (rsD bs), jk s7, jk s8, jk s9, jk s10, jk s11, jk s12, jk s13, jk s14, .no, .no, .no]) cf q := by
  have hbad := flt_bad hn h hB.len
  have hbd : ∀ b, b < 2 ^ n → Bd 127 ((cstL n ps).getD b 0) := fun b hb => (cs_fx hn h).bd hb
  have hl := (cs_fx hn h).len
  have hp := Nat.two_pow_pos n
  have h16 := n16 hn
  generalize cstL n ps = Cs at hbad hl hbd ⊢
  unfold b_law_3
  walk_at "wg"
  have hcut : cut (Cs.map rD) (some 1) none = (Cs.drop 1).map rD := by rw [cut1, List.map_drop]
  rw [hcut]
  refine ⟨by omega, by rw [List.length_map, List.length_drop]; omega, ?_⟩
  rw [show (Cs.length : Int) - 1 = ((Cs.length - 1 : Nat) : Int) by omega]
  walk_at "wg"
  rw [getD_ok (l := Cs) (d := 0) (show Cs.length - 1 < Cs.length by omega)]
  walk_at "wg"
  rw [show (D.tup [.int (-1), .int 1]) = rD (-1) from rfl]
  rw [t__law_minus (n := 5) (by unfold Bd; decide) (hbd (Cs.length - 1) (by omega)) (by decide)]
  walk_at "wg"
  have hcut2 : cut (Cs.map rD) none (some ((Cs.length - 1 : Nat) : Int)) = (Cs.take (Cs.length - 1)).map rD := by rw [cut_to _ _ (by rw [List.length_map]; omega), List.map_take]
  rw [hcut2]
  refine ⟨by rw [List.length_map, List.length_take]; omega, ?_⟩
  have hxs : [D.lst (Cs.map rD ++ [D.tup [.int 0, .int 1]]), .lst ((Cs.drop 1).map rD), .lst (D.tup [.int 1, .int 1] :: (Cs.drop 1).map rD), D.lst ((Cs.take (Cs.length - 1)).map rD ++ [rD (-1 - Cs.getD (Cs.length - 1) 0)])] = (flt Cs).map rsD := by
    unfold flt
    show [D.lst (Cs.map rD ++ [rD 0]), rsD (Cs.drop 1), rsD (1 :: Cs.drop 1), D.lst ((Cs.take (Cs.length - 1)).map rD ++ [rD (-1 - Cs.getD (Cs.length - 1) 0)])] = [D.lst ((Cs ++ [0]).map rD), rsD (Cs.drop 1), rsD (1 :: Cs.drop 1), D.lst ((Cs.take (Cs.length - 1) ++ [-1 - Cs.getD (Cs.length - 1) 0]).map rD)]
    rw [List.map_append, List.map_append]
    rfl
  rw [hxs]
  have h7 : ∀ ds : List D, ds.length = 7 → p__law_refusal [.dat (.str (Str.ofString "charge")), .dat (rsD Cs), .dat (.lst ds)] = .ret (.d (.str (Str.ofString "size"))) [] := fun ds hd => chg_size (t_charge_size hd)
  refine for_inv (xs := flt Cs) (fun pre e => ∃ s17 : Option D, e = [.dat x, .own c, .dat (.int (n : Int)), .dat (rsD Cs), jk s4, jk s5, .dat (rsD bs), jk s7, jk s8, jk s9, jk s10, jk s11, jk s12, jk s13, jk s14, .dat (.lst [.bl false, .bl true, .bl true]), .dat (.lst ((flt Cs).map rsD)), jk s17]) ⟨none, rfl⟩ ?_ ?_
  · rintro pre f post e hx ⟨s17, rfl⟩
    have hf := hbad f (by rw [hx]; simp)
    generalize flt Cs = FL
    walk_at "wg"
    rw [hf]
    walk_at "wg"
    rw [show neD (D.lst [.bl false, .bl true, .bl true]) (D.lst [.bl false, .bl true, .bl true]) = some false from ne_same rfl]
    walk_at "wg"
    exact ⟨some (rsD f), rfl⟩
  · rintro e ⟨s17, rfl⟩
    generalize flt Cs = FL
    walk_at "wg"
    rw [show Int.toNat 7 = 7 from rfl, ints0]
    refine ⟨by decide, ?_⟩
    refine lc_map (xs := List.range 7) (fun _ => D.tup [.int 0, .int 1]) (lim_le (by rw [List.length_range]; omega)) (fun k hk => ?_) ?_
    · walk_at "wg"
    walk_at "wg"
    rw [h7 _ (by rw [List.length_map, List.length_range])]
    walk_at "wg"
    refine hk _ ?_
    show pars (jk s4 :: jk s5 :: Sl.dat (rsD bs) :: jk s7 :: jk s8 :: jk s9 :: jk s10 :: jk s11 :: jk s12 :: jk s13 :: jk s14 :: Sl.dat (.lst [.bl false, .bl true, .bl true]) :: Sl.dat (.lst (FL.map rsD)) :: [jk s17]) = []
    rw [pars_jk, pars_jk]
    show pars (jk s7 :: jk s8 :: jk s9 :: jk s10 :: jk s11 :: jk s12 :: jk s13 :: jk s14 :: Sl.dat (.lst [.bl false, .bl true, .bl true]) :: Sl.dat (.lst (FL.map rsD)) :: [jk s17]) = []
    rw [pars_jk, pars_jk, pars_jk, pars_jk, pars_jk, pars_jk, pars_jk, pars_jk]
    show pars [jk s17] = []
    rw [pars_jk]
    rfl
theorem same_ch {C B : Nat → Rat} (hn : n ≤ 4) (m : Nat) : p__law_same (m + 5) [.dat (chD C B n), .dat (chD C B n)] = .ret (.d (.bl true)) [] := by
  have hlt := it_lt (C := C) (B := B) hn (n + 1)
  have h16 := n16 hn
  have hm := (f_mb (endM C B n) (by show itM C B n (n + 1) < 16; omega)).2.2.1
  refine same_tup (m + 4) (ds := [natsD (mb (endM C B n)), rsD (paidM C n (endM C B n))]) (by show 2 ≤ 1000; decide) fun d hd => ?_
  rcases List.mem_cons.mp hd with rfl | hd
  · refine same_lst (m + 3) (by rw [List.length_map]; omega) fun d hd => ?_
    obtain ⟨i, _, rfl⟩ := List.mem_map.mp hd
    exact same_int (m + 2) i
  · rw [List.mem_singleton.mp hd]
    exact same_rs (m + 1) (by unfold paidM; rw [List.length_map, List.length_range]; omega)
theorem law_2 (hn : n ≤ 4) (h : PsOk n ps) {bs : List Rat} (hB : BsB n bs) {c : Ct} (hc : RowC c) {x : D} {s4 s5 s7 s9 s10 : Option D} {cf : Kwt Fl} {q : Kwe} (hk : ∀ e, UbP.pars e = [] → cf.P (.rt (.d (.bl true))) e) : @st Fl (b_law_2 [.dat x, .own c, .dat (.int (n : Int)), .dat (rsD (cstL n ps)), jk s4, jk s5, .dat (rsD bs), jk s7, .dat (chD (fun b => (cstL n ps).getD b 0) (fun k => bs.getD k 0) n), jk s9, jk s10, .no, .no, .no, .no, .no, .no, .no]) cf q := by
  have h3 := fun (c : Ct) (hc : RowC c) (a b d e : Option D) => law_3 hn h hB hc (x := x) (s4 := s4) (s5 := s5) (s7 := s7) (s8 := some (chD (fun b => (cstL n ps).getD b 0) (fun k => bs.getD k 0) n)) (s9 := s9) (s10 := s10) (s11 := a) (s12 := b) (s13 := d) (s14 := e) (q := q) hk
  unfold b_law_2
  walk_at "wg"
  refine ⟨fun c0 => ?_, fun _ => h3 c hc none none none none⟩
  obtain ⟨v, c, e, g1, g2, d0⟩ := t__law_take (m := (n : Int)) hc (by omega)
  rw [e]
  walk_at "wg"
  obtain ⟨l, hl, rfl⟩ : ∃ l : Nat, l < n ∧ v = (l : Int) := ⟨v.toNat, by omega, by omega⟩
  obtain ⟨r, c, e, hr, _, d0⟩ := t__law_fraction (m := -1) d0 (by decide) (by decide)
  rw [show (.int (-1) : D) = .int (-1) from rfl] at e
  rw [e]
  walk_at "wg"
  have F := cs_fx hn h
  have h16 := n16 hn
  have hbl := hB.len
  have hB' : BsB n (bs.set l r) := ⟨by rw [List.length_set]; exact hbl, fun y hy => by
    rcases List.mem_or_eq_of_mem_set hy with hy | hy
    · exact hB.bd y hy
    · rw [hy]; exact hr.mono (by decide)⟩
  have c1 : cut (bs.map rD) none (some (l : Int)) = (bs.take l).map rD := by rw [cut_to _ _ (by rw [List.length_map]; omega), List.map_take]
  have c2 : cut (bs.map rD) (some ((l : Int) + 1)) none = (bs.drop (l + 1)).map rD := by rw [show (l : Int) + 1 = ((l + 1 : Nat) : Int) from rfl, cut_frm, List.map_drop]
  have c3 : (bs.take l).map rD ++ [rD r] ++ (bs.drop (l + 1)).map rD = (bs.set l r).map rD := by
    rw [List.set_eq_take_append_cons_drop, if_pos (by omega), List.map_append, List.map_cons, List.append_assoc]
    rfl
  rw [c1, c2, c3]
  refine ⟨by rw [List.length_map, List.length_take]; omega, by rw [List.length_append, List.length_map, List.length_map, List.length_take, List.length_drop, List.length_singleton]; omega, ?_⟩
  rw [show p_charge [.dat (.lst ((cstL n ps).map rD)), .dat (.lst ((bs.set l r).map rD))] = _ from t_charge F hB' (cs_are hn h)]
  have hng := no_gain (C := fun b => (cstL n ps).getD b 0) (B := fun k => bs.getD k 0) (B' := fun k => (bs.set l r).getD k 0) hn hl (cs_mono hn h) fun k hkl => by
    show (bs.set l r).getD k 0 = bs.getD k 0
    rw [List.getD_eq_getElem?_getD, List.getElem?_set_ne (fun z => hkl z.symm), ← List.getD_eq_getElem?_getD]
  have hlt := it_lt (C := fun b => (cstL n ps).getD b 0) (B := fun k => bs.getD k 0) hn (n + 1)
  have hlt' := it_lt (C := fun b => (cstL n ps).getD b 0) (B := fun k => (bs.set l r).getD k 0) hn (n + 1)
  have hpd : ∀ S, S < 2 ^ n → (paidM (fun b => (cstL n ps).getD b 0) n S)[l]? = some (if bt S l = true then shF (fun b => (cstL n ps).getD b 0) S l else 0) ∧ Bd 140 (if bt S l = true then shF (fun b => (cstL n ps).getD b 0) S l else 0) := fun S hS => by
    refine ⟨by unfold paidM; rw [List.getElem?_map, List.getElem?_range hl]; rfl, ?_⟩
    by_cases c : bt S l = true
    · rw [if_pos c]; exact shF_bd F hS hl c
    · rw [if_neg c]; unfold Bd; decide +kernel
  have hmem : ∀ S, S < 2 ^ n → decide (l ∈ mb S) = bt S l := fun S hS => by
    rw [Bool.eq_iff_iff, decide_eq_true_eq]
    exact ((f_mb S (by omega)).2.2.2 l (by omega)).symm
  have hu : ∀ S (v : Rat), (if bt S l = true then (1 : Rat) else 0) * (v - if bt S l = true then shF (fun b => (cstL n ps).getD b 0) S l else 0) = if bt S l = true then v - shF (fun b => (cstL n ps).getD b 0) S l else 0 := fun S v => by
    by_cases c : bt S l = true
    · rw [if_pos c, if_pos c, if_pos c]; grind
    · rw [if_neg c, if_neg c, if_neg c]; grind
  have h01 : ∀ b : Bool, D.tup [.int (if b = true then 1 else 0), .int 1] = rD (if b = true then (1 : Rat) else 0) ∧ Bd 5 (if b = true then (1 : Rat) else 0) := fun b => by
    cases b
    · exact ⟨rfl, by unfold Bd; decide⟩
    · exact ⟨rfl, by unfold Bd; decide⟩
  obtain ⟨b1, b2⟩ := hB.at' hl
  unfold utlM at hng
  unfold chD at h3 ⊢
  change endM _ _ n < 2 ^ n at hlt hlt'
  generalize endM (fun b => (cstL n ps).getD b 0) (fun k => bs.getD k 0) n = S at hlt hng h3 ⊢
  generalize endM (fun b => (cstL n ps).getD b 0) (fun k => (bs.set l r).getD k 0) n = S' at hlt' hng ⊢
  obtain ⟨p1, p2⟩ := hpd S hlt
  obtain ⟨p3, p4⟩ := hpd S' hlt'
  have m1 := hmem S hlt
  have m2 := hmem S' hlt'
  have u1 := hu S
  have u2 := hu S'
  clear hpd hmem hu
  generalize paidM (fun b => (cstL n ps).getD b 0) n S = P at p1 h3 ⊢
  generalize paidM (fun b => (cstL n ps).getD b 0) n S' = P' at p3 ⊢
  generalize shF (fun b => (cstL n ps).getD b 0) S l = x1 at p1 p2 u1 hng
  generalize shF (fun b => (cstL n ps).getD b 0) S' l = x2 at p3 p4 u2 hng
  walk_at "wg"
  rw [in_nats]
  walk_at "wg"
  rw [b1]
  walk_at "wg"
  rw [p1]
  walk_at "wg"
  rw [t__law_minus b2 p2 (by decide)]
  walk_at "wg"
  have i1 : ∀ S, decide (l ∈ mb S) = bt S l → (if l ∈ mb S then (1 : Int) else 0) = if bt S l = true then 1 else 0 := fun S m => by
    by_cases z : l ∈ mb S
    · rw [if_pos z, if_pos (by rw [← m]; exact decide_eq_true z)]
    · rw [if_neg z, if_neg (by rw [← m, decide_eq_true_eq]; exact z)]
  have d1 := bd_sub b2 p2
  rw [i1 S m1, (h01 (bt S l)).1, t__law_times (h01 (bt S l)).2 d1 (by decide), u1]
  walk_at "wg"
  rw [in_nats]
  walk_at "wg"
  rw [b1]
  walk_at "wg"
  rw [p3]
  walk_at "wg"
  rw [t__law_minus b2 p4 (by decide)]
  walk_at "wg"
  have d2 := bd_sub b2 p4
  rw [i1 S' m2, (h01 (bt S' l)).1, t__law_times (h01 (bt S' l)).2 d2 (by decide), u2]
  walk_at "wg"
  have e1 := bd_mul (h01 (bt S l)).2 d1
  have e2 := bd_mul (h01 (bt S' l)).2 d2
  rw [u1] at e1
  rw [u2] at e2
  rw [t__law_less e1 e2 (by decide)]
  walk_at "wg"
  refine ⟨fun z => absurd hng (Rat.not_le.mpr z), fun _ => ?_⟩
  exact h3 c d0 (some (.int (l : Int))) (some (.lst ((bs.set l r).map rD))) (some (.tup [natsD (mb S'), rsD P'])) (some (rD (if bt S l = true then bs.getD l 0 - x1 else 0)))
theorem law_1 (hn : n ≤ 4) (h : PsOk n ps) {bs : List Rat} (hB : BsB n bs) {c : Ct} (hc : RowC c) {x : D} {s4 s7 s8 : Option D} {cf : Kwt Fl} {q : Kwe} (hk : ∀ e, UbP.pars e = [] → cf.P (.rt (.d (.bl true))) e) : @st Fl (b_law_1 [.dat x, .own c, .dat (.int (n : Int)), .dat (rsD (cstL n ps)), jk s4, .no, .own (.l (bs.map rD)), jk s7, jk s8, .no, .no, .no, .no, .no, .no, .no, .no, .no]) cf q := by
  have F := cs_fx hn h
  have h16 := n16 hn
  have hbl := hB.len
  have hCl := F.len
  have hlt := it_lt (C := fun b => (cstL n ps).getD b 0) (B := fun k => bs.getD k 0) hn (n + 1)
  have h2 := fun (s5 s7 s9 s10 : Option D) => law_2 hn h hB hc (x := x) (s4 := s4) (s5 := s5) (s7 := s7) (s9 := s9) (s10 := s10) (q := q) hk
  unfold b_law_1
  walk_at "wg"
  rw [t__law_charge F hB]
  walk_at "wg"
  rw [t_charge F hB (cs_are hn h)]
  walk_at "wg"
  rw [same_ch hn 65]
  walk_at "wg"
  rw [show p__law_same 70 [.dat (.lst [.lst ((cstL n ps).map rD), .lst (bs.map rD)]), .dat (.lst [.lst ((cstL n ps).map rD), .lst (bs.map rD)])] = .ret (.d (.bl true)) [] from same_lst 69 (by show 2 ≤ 1000; decide) fun d hd => by
    rcases List.mem_cons.mp hd with rfl | hd
    · exact same_rs 66 (by omega)
    · rw [List.mem_singleton.mp hd]
      exact same_rs 66 (by omega)]
  walk_at "wg"
  have hfix := end_fix (C := fun b => (cstL n ps).getD b 0) (B := fun k => bs.getD k 0) hn
  have hps := paid_sum hn h (g := endM (fun b => (cstL n ps).getD b 0) (fun k => bs.getD k 0) n) hlt
  have hpl : (paidM (fun b => (cstL n ps).getD b 0) n (endM (fun b => (cstL n ps).getD b 0) (fun k => bs.getD k 0) n)).length = n := by unfold paidM; rw [List.length_map, List.length_range]
  have hpb : ∀ k, k < n → Bd 140 ((paidM (fun b => (cstL n ps).getD b 0) n (endM (fun b => (cstL n ps).getD b 0) (fun k => bs.getD k 0) n)).getD k 0) ∧ (k ∈ mb (endM (fun b => (cstL n ps).getD b 0) (fun k => bs.getD k 0) n) → ¬bs.getD k 0 < (paidM (fun b => (cstL n ps).getD b 0) n (endM (fun b => (cstL n ps).getD b 0) (fun k => bs.getD k 0) n)).getD k 0) := fun k hkn => by
    have e : (paidM (fun b => (cstL n ps).getD b 0) n (endM (fun b => (cstL n ps).getD b 0) (fun k => bs.getD k 0) n)).getD k 0 = if bt (endM (fun b => (cstL n ps).getD b 0) (fun k => bs.getD k 0) n) k = true then shF (fun b => (cstL n ps).getD b 0) (endM (fun b => (cstL n ps).getD b 0) (fun k => bs.getD k 0) n) k else 0 := by
      unfold paidM
      rw [List.getD_eq_getElem?_getD, List.getElem?_map, List.getElem?_range hkn]
      rfl
    rw [e]
    refine ⟨?_, fun hm => ?_⟩
    · by_cases z : bt (endM (fun b => (cstL n ps).getD b 0) (fun k => bs.getD k 0) n) k = true
      · rw [if_pos z]; exact shF_bd F hlt hkn z
      · rw [if_neg z]; unfold Bd; decide +kernel
    · have hb := ((f_mb _ (show endM (fun b => (cstL n ps).getD b 0) (fun k => bs.getD k 0) n < 16 by show itM _ _ n (n + 1) < 16; omega)).2.2.2 k (by omega)).mpr hm
      rw [if_pos hb]
      rw [← hfix] at hb
      exact ((keep_bt (by show itM _ _ n (n + 1) < 16; omega) (by omega)).mp hb).2
  have hgs := f_mb (endM (fun b => (cstL n ps).getD b 0) (fun k => bs.getD k 0) n) (by show itM _ _ n (n + 1) < 16; omega)
  unfold chD at h2 ⊢
  change endM _ _ n < 2 ^ n at hlt
  clear hfix
  generalize endM (fun b => (cstL n ps).getD b 0) (fun k => bs.getD k 0) n = S at hlt hps hpl hpb hgs h2 ⊢
  generalize paidM (fun b => (cstL n ps).getD b 0) n S = P at hps hpl hpb h2 ⊢
  obtain ⟨q1, q2, q3, q4⟩ := hgs
  have hbsum : ∀ m, m ≤ n → Bd 565 (sumR (P.take m)) := fun m hm => by
    refine (bd_sum (n := 140) fun y hy => ?_).mono ?_
    · obtain ⟨i, hi⟩ := List.mem_iff_getElem?.mp (List.mem_of_mem_take hy)
      have := (List.getElem?_eq_some_iff.mp hi).1
      have e : P.getD i 0 = y := by rw [List.getD_eq_getElem?_getD, hi]; rfl
      rw [← e]
      exact (hpb i (by omega)).1
    · have : (P.take m).length ≤ 4 := by rw [List.length_take]; omega
      omega
  refine ⟨bigI_small (by omega), ?_⟩
  rw [ints0]
  refine for_inv (xs := List.range n) (fun pre e => ∃ s5 : Option D, e = [.dat x, .own c, .dat (.int (n : Int)), .dat (rsD (cstL n ps)), jk s4, jk s5, .dat (rsD bs), jk s7, .dat (.tup [natsD (mb S), rsD P]), .dat (.lst [.lst ((cstL n ps).map rD), .lst (bs.map rD)]), .dat (rD (sumR (P.take pre.length))), .no, .no, .no, .no, .no, .no, .no]) ⟨none, rfl⟩ ?_ ?_
  · rintro pre k post e hx ⟨s5, rfl⟩
    obtain ⟨hk1, hk2⟩ := at_range hx
    have hPk := getD_ok (l := P) (d := 0) (show k < P.length by omega)
    have hs : sumR (P.take (pre ++ [k]).length) = sumR (P.take pre.length) + P.getD k 0 := by
      rw [List.length_append, List.length_singleton, ← hk1, List.take_succ, hPk]
      exact sumR_snoc _ _
    have hb1 := hbsum pre.length (by omega)
    obtain ⟨hb2, hb3⟩ := hpb k hk2
    obtain ⟨f1, f2⟩ := hB.at' hk2
    rw [hs]
    generalize sumR (P.take pre.length) = a0 at hb1 ⊢
    walk_at "wg"
    rw [hPk]
    walk_at "wg"
    rw [t__law_add hb1 hb2 (by decide)]
    walk_at "wg"
    rw [in_nats]
    walk_at "wg"
    refine ⟨fun z => ?_, fun z => ⟨some (.int (k : Int)), rfl⟩⟩
    rw [f1]
    walk_at "wg"
    rw [hPk]
    walk_at "wg"
    rw [t__law_less f2 hb2 (by decide)]
    walk_at "wg"
    exact ⟨fun y => absurd y (hb3 z), fun _ => ⟨some (.int (k : Int)), rfl⟩⟩
  · rintro e ⟨s5, rfl⟩
    rw [List.length_range, List.take_of_length_le (by omega), hps]
    walk_at "wg"
    refine lc_map (xs := mb S) (fun k : Nat => D.int ((2 ^ k : Nat) : Int)) (lim_le (by omega)) (fun k hk => ?_) ?_
    · have := q1 k hk
      walk_at "wg"
      rw [shl_n (by omega)]
      walk_at "wg"
    walk_at "wg"
    rw [sum_grp, q2]
    walk_at "wg"
    rw [getD_ok (l := cstL n ps) (d := 0) (show S < (cstL n ps).length by omega)]
    walk_at "wg"
    exact h2 s5 s7 (some (.lst [.lst ((cstL n ps).map rD), .lst (bs.map rD)])) (some (rD ((cstL n ps).getD S 0)))
end
theorem f_fullb : ∀ n, n < 5 → ∀ a, a < n → bt (2 ^ n - 1) a = true := by decide +kernel
theorem t_share {n d : Nat} {Cs : List Rat} (F : CsF n d Cs) {g a : Nat} (hg : g < 2 ^ n) (ha : a < n) (hb : bt g a = true) : p_share [.dat (rsD Cs), .dat (.int (g : Int)), .dat (.int (a : Int))] = .ret (.d (rD (shF (fun b => Cs.getD b 0) g a))) [] := by
  have h16 := n16 F.hn
  have hl := F.len
  refine fsat_eq ?_
  unfold p_share b_share
  walk_at "wg"
  rw [show shlD (.int 1) (.int 6) = some (.d (.int 64)) from rfl]
  walk_at "wg"
  rw [t_check_size, if_neg (by omega)]
  walk_at "wg"
  rw [t__share F hg ha hb]
  walk_at "wg"
theorem law_pure (ns : List Int) (hl : ns.length ≤ 63) : p_law [.dat (.lsf (ns.map D.int))] = .ret (.d (.bl true)) [] := by
  refine fsat_eq ?_
  unfold p_law b_law eRg1
  walk_at "wg"
  obtain ⟨c, e, d0⟩ := t__law_draws hl
  rw [show p__law_draws [.dat (.lsf (ns.map D.int))] = _ from e]
  obtain ⟨ds, rfl⟩ : ∃ ds, c = .l ds := by
    obtain ⟨l, rfl⟩ := d0
    exact ⟨_, rfl⟩
  walk_at "wg"
  obtain ⟨c, e, d0⟩ := t__law_medians d0
  rw [e]
  walk_at "wg"
  obtain ⟨v, c, e, g1, g2, d0⟩ := t__law_take (m := 5) d0 (by decide)
  rw [e]
  walk_at "wg"
  obtain ⟨n, hn, rfl⟩ : ∃ n : Nat, n ≤ 4 ∧ v = (n : Int) := ⟨v.toNat, by omega, by omega⟩
  obtain ⟨ps, c, e, h, d0⟩ := t__law_costs d0 hn
  rw [e]
  have F := cs_fx hn h
  have h16 := n16 hn
  have hCl := F.len
  have hp2 := Nat.two_pow_pos n
  walk_at "wg"
  rw [shl_n (by omega)]
  walk_at "wg"
  rw [show ((2 ^ n : Nat) : Int) - 1 = ((2 ^ n - 1 : Nat) : Int) by omega]
  rw [ints0]
  refine ⟨bigI_small (by omega), ?_⟩
  refine lc_inv (xs := List.range n) (lim_le (by rw [List.length_range]; omega)) (fun pre acc e => ∃ (bs : List Rat) (c : Ct), acc = bs.map rD ∧ bs.length = pre.length ∧ (∀ y ∈ bs, Bd 150 y) ∧ RowC c ∧ e = [.dat (.lsf (ns.map D.int)), .own c, .dat (.int (n : Int)), .dat (rsD (cstL n ps)), .dat (.int ((2 ^ n - 1 : Nat) : Int)), .no, .no, .no, .no, .no, .no, .no, .no, .no, .no, .no, .no, .no]) ⟨[], c, rfl, rfl, (by intro y hy; cases hy), d0, rfl⟩ ?_ ?_
  · rintro pre k post acc e hx ⟨bs, c, rfl, hbl, hbb, d0, rfl⟩
    walk_at "wg"
    obtain ⟨r, c, e, hr, _, d0⟩ := t__law_fraction (m := -1) d0 (by decide) (by decide)
    rw [e]
    walk_at "wg"
    refine ⟨bs ++ [r], c, by rw [List.map_append]; rfl, by rw [List.length_append, List.length_append, hbl]; rfl, fun y hy => ?_, d0, rfl⟩
    rcases List.mem_append.mp hy with hy | hy
    · exact hbb y hy
    · rw [List.mem_singleton.mp hy]; exact hr.mono (by decide)
  rintro acc e ⟨bs, c, rfl, hbl, hbb, d0, rfl⟩
  rw [List.length_range] at hbl
  walk_at "wg"
  rw [ints0]
  refine ⟨bigI_small (by omega), ?_⟩
  refine for_inv (xs := List.range n) (fun pre e => ∃ (bs : List Rat) (c : Ct) (s7 s8 : Option D), e = [.dat (.lsf (ns.map D.int)), .own c, .dat (.int (n : Int)), .dat (rsD (cstL n ps)), .dat (.int ((2 ^ n - 1 : Nat) : Int)), .no, .own (.l (bs.map rD)), jk s7, jk s8, .no, .no, .no, .no, .no, .no, .no, .no, .no] ∧ bs.length = n ∧ (∀ y ∈ bs, Bd 150 y) ∧ RowC c) ⟨bs, c, none, none, rfl, hbl, hbb, d0⟩ ?_ ?_
  · rintro pre a post e hx ⟨bs, c, s7, s8, rfl, hbl, hbb, d0⟩
    obtain ⟨_, ha⟩ := at_range hx
    have hfb := f_fullb n (by omega) a ha
    have hglt : 2 ^ n - 1 < 2 ^ n := by omega
    have hsb := shF_bd F hglt ha hfb
    walk_at "wg"
    rw [rg1_n (by omega)]
    walk_at "wg"
    rw [← (f_full n (by omega)).1]
    rw [show p__law_share [.dat (rsD (cstL n ps)), .dat (.lst ((mb (2 ^ n - 1)).map fun (k : Nat) => D.int (k : Int))), .dat (.int (a : Int))] = _ from t__law_share F hglt ha hfb]
    walk_at "wg"
    rw [show p_share [.dat (.lst ((cstL n ps).map rD)), .dat (.int ((2 ^ n - 1 : Nat) : Int)), .dat (.int (a : Int))] = _ from t_share F hglt ha hfb]
    walk_at "wg"
    generalize shF (fun b => (cstL n ps).getD b 0) (2 ^ n - 1) a = due at hsb ⊢
    rw [same_r 68]
    walk_at "wg"
    obtain ⟨v, c, e, g1, g2, d0⟩ := t__law_take (m := 2) d0 (by decide)
    rw [e]
    walk_at "wg"
    refine ⟨fun z => ?_, fun z => ⟨bs, c, some (.int (a : Int)), some (rD due), rfl, hbl, hbb, d0⟩⟩
    obtain ⟨w, c, e, g3, g4, d0⟩ := t__law_take (m := 3) d0 (by decide)
    rw [e]
    walk_at "wg"
    obtain ⟨u, c, e, g5, g6, d0⟩ := t__law_take (m := 2) d0 (by decide)
    rw [e]
    walk_at "wg"
    rw [t__law_make (n := 5) (by omega) (by omega) (by decide)]
    walk_at "wg"
    have hsm : Bd 5 (Rat.divInt (w - 1) (1 + u)) := bd_divInt (by omega) (by omega) (by omega)
    rw [t__law_add hsb hsm (by decide)]
    walk_at "wg"
    rw [hbl, ixI_nat ha]
    dsimp only
    refine ⟨bs.set a (due + Rat.divInt (w - 1) (1 + u)), c, some (.int (a : Int)), some (rD due), by rw [List.map_set]; rfl, by rw [List.length_set]; exact hbl, fun y hy => ?_, d0⟩
    rcases List.mem_or_eq_of_mem_set hy with hy | hy
    · exact hbb y hy
    · rw [hy]; exact (bd_add hsb hsm).mono (by decide)
  · rintro e ⟨bs, c, s7, s8, rfl, hbl, hbb, d0⟩
    refine law_1 hn h ⟨hbl, hbb⟩ d0 (s4 := some (.int ((2 ^ n - 1 : Nat) : Int))) fun e he => ?_
    exact ⟨rfl, he⟩
end UbK
end
open PySem PySem.Spec PyProof.Rows L2 Ub UbM
local macro_rules | `(tactic| walk_at "un") => `(tactic| try dsimp only [L2.start, tVar, tC, tOp, tUn, tTest, tB, tAnd, tOr, tNot, tAndV, tOrV, tNotV, tIf, tNext, tSeq, tBreak, tCont, tDrop, tRet, tRetN, tIfS, tNever, gName, gNil, gCons, gSub, tAsg, tPar, tSl, tPart, tNoPart, tNil, tCons, tCall, tCallS, tCB, tBM, tBM0, tChain, tTupN, tLstN, gTup, Cx.nox, Cx.wish, cxOf, List.map, List.replicate, List.length, List.cons_append, List.nil_append, List.set, List.getElem?_cons_zero, List.getElem?_cons_succ, Nat.reduceAdd, Nat.reduceSub])
local macro_rules | `(tactic| walk_at "dp") => `(tactic| first | assumption | exact .int _ | exact .bl _ | exact .str _ | exact .non | exact Ub.Dp.mono (by assumption) _ _ (by walk_at "dp"))
local macro_rules | `(tactic| walk_at "fr") => `(tactic| first | assumption | exact Ub.Fr.mono (by assumption) (by walk_at "fr"))
local macro_rules | `(tactic| walk_at "dps") => `(tactic| first | exact .nil | (refine' .cons ?j1 ?j2; (case j1 => walk_at "dp"); (case j2 => walk_at "dps")))
local macro_rules | `(tactic| walk_at "st") => `(tactic| first
  | (with_reducible refine ⟨_, rfl, ?_⟩)
  | (with_reducible refine rdAdd ?_)
  | (with_reducible refine rdSub ?_)
  | (with_reducible refine rdNeg ?_)
  | (with_reducible refine rdEqI ?_)
  | (with_reducible refine rdNeI ?_)
  | (with_reducible refine rdLt ?_)
  | (with_reducible refine rdGt ?_)
  | (with_reducible refine rdLe ?_)
  | (with_reducible refine rdGe ?_)
  | (with_reducible refine rdInt ?_)
  | (with_reducible refine rdIntB ?_)
  | (with_reducible refine rdAbs ?_)
  | (with_reducible refine rdGcd ?_)
  | (with_reducible refine rdEqB ?_)
  | (with_reducible refine rdEqS ?_)
  | (with_reducible refine rdNeS ?_)
  | ((with_reducible refine' ixFr0 ?k1 ?_); (case k1 => walk_at "fr"))
  | ((with_reducible refine' ixFr1 ?k1 ?_); (case k1 => walk_at "fr"))
  | ((with_reducible refine' ixP0 ?k1 ?_); (case k1 => walk_at "dp"))
  | ((with_reducible refine' ixP1 ?k1 ?_); (case k1 => walk_at "dp"))
  | ((with_reducible refine' rdIsN ?k1 ?_); (case k1 => walk_at "dp"))
  | ((with_reducible refine' rdNotN ?k1 ?_); (case k1 => walk_at "dp"))
  | ((with_reducible refine' isiInt ?k1 ?_); (case k1 => walk_at "dp"))
  | ((with_reducible refine' isiBool ?k1 ?_); (case k1 => walk_at "dp"))
  | ((with_reducible refine' isiStr ?k1 ?_); (case k1 => walk_at "dp"))
  | ((with_reducible refine' isiTup ?k1 ?_); (case k1 => walk_at "dp"))
  | ((with_reducible refine' isiLst ?k1 ?_); (case k1 => walk_at "dp"))
  | ((with_reducible refine' rdIxL ?k1 ?k2 ?_); (case k1 => first | assumption | exact .inl (.inl (by assumption)) | exact .inl (.inl upd_same)); (case k2 => exact rfl))
  | ((with_reducible refine' rdMul ?k1 ?_); (case k1 => first | exact .inl (.inr ⟨by decide, by decide⟩) | exact .inl (.inl ⟨by decide, by decide⟩) | exact mulW (by assumption) (by assumption) (by omega)))
  | ((with_reducible refine' rdLenL ?k1 ?_); (case k1 => first | assumption | exact .inl (.inl (by assumption))))
  | ((with_reducible refine' rdLenT ?k1 ?_); (case k1 => first | assumption | exact .inl (.inl (by assumption))))
  | (with_reducible refine rdMin2 ?_)
  | ((with_reducible refine' rdTupD (K := ‹PySem.W.Frag›) ?k1 ?k2 (fun _ _ _ _ => ?_)); (case k1 => walk_at "dps"); (case k2 => exact small_line (Nat.le_of_ble_eq_true rfl)))
  | (with_reducible refine ⟨_, by rfl, ?_⟩))
local macro_rules | `(tactic| walk_at "go") => `(tactic| repeat walk_at "st")
local macro_rules | `(tactic| walk_at "for") => `(tactic| try dsimp only [tFor, iRng1, iRng2, iList, iTup, tCons, tC, tNil, tVar, tOp, tCB, tUn, List.getElem?_cons_zero, List.getElem?_cons_succ])
local macro_rules | `(tactic| walk_at "ew") => `(tactic| (simp only [dInt, dBool, dStr, dTup, dLst, dNon, Bool.not_true, Bool.not_false, reduceIte, Bool.false_eq_true, Bool.true_eq_false, decide_true, decide_false, Bool.not_not, if_true, if_false, decide_eq_true_eq, true_and, and_true]))
local macro_rules | `(tactic| walk_at "ev") => `(tactic| try walk_at "ew")
local macro_rules | `(tactic| walk_at "gv") => `(tactic| repeat first | walk_at "st" | walk_at "ew")
local macro_rules | `(tactic| walk_at "it") => `(tactic| try dsimp only [iRng1, iRng2, iList, iTup, iZip, iEnum])
namespace UbK
open UbP
structure Tx (K : PySem.W.Frag) (mg : Str → Option Value) : Prop where
  n_ValueError : mg "ValueError" = none
  n_abs : mg "abs" = none
  n_any : mg "any" = none
  n_bool : mg "bool" = none
  n_enumerate : mg "enumerate" = none
  n_int : mg "int" = none
  n_isinstance : mg "isinstance" = none
  n_len : mg "len" = none
  n_list : mg "list" = none
  n_max : mg "max" = none
  n_min : mg "min" = none
  n_range : mg "range" = none
  n_reversed : mg "reversed" = none
  n_sorted : mg "sorted" = none
  n_str : mg "str" = none
  n_sum : mg "sum" = none
  n_super : mg "super" = none
  n_tuple : mg "tuple" = none
  g_factorial : mg "factorial" = some (.builtin "math.factorial")
  g_gcd : mg "gcd" = some (.builtin "math.gcd")
  c__MOST_PEAKS : ∃ t, mg "_MOST_PEAKS" = some (.int 1000 t)
  c__MOST_AGENTS : ∃ t, mg "_MOST_AGENTS" = some (.int 6 t)
  e_InvalidCosts : ExcK K mg "InvalidCosts"
  e_ZeroDenominator : ExcK K mg "ZeroDenominator"
  m_InvalidCosts_TooLarge : PySem.W.exmOne K (.ref (He.ga K "InvalidCosts")) (.ref (He.ga K "TooLarge")) = some false
  m_InvalidWishes_TooLarge : PySem.W.exmOne K (.ref (He.ga K "InvalidWishes")) (.ref (He.ga K "TooLarge")) = some false
  m_TooLarge_TooLarge : PySem.W.exmOne K (.ref (He.ga K "TooLarge")) (.ref (He.ga K "TooLarge")) = some true
  m_ZeroDenominator_TooLarge : PySem.W.exmOne K (.ref (He.ga K "ZeroDenominator")) (.ref (He.ga K "TooLarge")) = some false
  m_InvalidCosts_UnbentError : PySem.W.exmOne K (.ref (He.ga K "InvalidCosts")) (.ref (He.ga K "UnbentError")) = some true
  m_InvalidWishes_UnbentError : PySem.W.exmOne K (.ref (He.ga K "InvalidWishes")) (.ref (He.ga K "UnbentError")) = some true
  m_TooLarge_UnbentError : PySem.W.exmOne K (.ref (He.ga K "TooLarge")) (.ref (He.ga K "UnbentError")) = some true
  m_ZeroDenominator_UnbentError : PySem.W.exmOne K (.ref (He.ga K "ZeroDenominator")) (.ref (He.ga K "UnbentError")) = some true
  gc_InvalidCosts : mg "InvalidCosts" = some (.ref (He.ga K "InvalidCosts"))
  gc_InvalidWishes : mg "InvalidWishes" = some (.ref (He.ga K "InvalidWishes"))
  gc_TooLarge : mg "TooLarge" = some (.ref (He.ga K "TooLarge"))
  gc_UnbentError : mg "UnbentError" = some (.ref (He.ga K "UnbentError"))
  x_TooLarge : UbC.OexI K (He.ga K "TooLarge")
  x_InvalidWishes : UbC.OexI K (He.ga K "InvalidWishes")
  na_InvalidWishes_reason : PySem.W.findIn K (.ref (He.ga K "InvalidWishes")) "reason" = some none
  na_TooLarge_limit : PySem.W.findIn K (.ref (He.ga K "TooLarge")) "limit" = some none
  xf_TooLarge : XfC K (He.ga K "TooLarge")
  ie_InvalidCosts : ExcC K (He.ga K "InvalidCosts")
  ie_InvalidWishes : ExcC K (He.ga K "InvalidWishes")
  ie_TooLarge : ExcC K (He.ga K "TooLarge")
  ie_ZeroDenominator : ExcC K (He.ga K "ZeroDenominator")
  ki_InvalidCosts_InvalidCosts : PySem.W.kitOne K (.ref (He.ga K "InvalidCosts")) (.ref (He.ga K "InvalidCosts")) = some true
  ki_InvalidWishes_InvalidCosts : PySem.W.kitOne K (.ref (He.ga K "InvalidWishes")) (.ref (He.ga K "InvalidCosts")) = some false
  ki_TooLarge_InvalidCosts : PySem.W.kitOne K (.ref (He.ga K "TooLarge")) (.ref (He.ga K "InvalidCosts")) = some false
  ki_ZeroDenominator_InvalidCosts : PySem.W.kitOne K (.ref (He.ga K "ZeroDenominator")) (.ref (He.ga K "InvalidCosts")) = some false
  ki_InvalidCosts_InvalidWishes : PySem.W.kitOne K (.ref (He.ga K "InvalidCosts")) (.ref (He.ga K "InvalidWishes")) = some false
  ki_InvalidWishes_InvalidWishes : PySem.W.kitOne K (.ref (He.ga K "InvalidWishes")) (.ref (He.ga K "InvalidWishes")) = some true
  ki_TooLarge_InvalidWishes : PySem.W.kitOne K (.ref (He.ga K "TooLarge")) (.ref (He.ga K "InvalidWishes")) = some false
  ki_ZeroDenominator_InvalidWishes : PySem.W.kitOne K (.ref (He.ga K "ZeroDenominator")) (.ref (He.ga K "InvalidWishes")) = some false
  ki_InvalidCosts_ValueError : PySem.W.kitOne K (.ref (He.ga K "InvalidCosts")) (.type "ValueError") = some true
  ki_InvalidWishes_ValueError : PySem.W.kitOne K (.ref (He.ga K "InvalidWishes")) (.type "ValueError") = some true
  ki_TooLarge_ValueError : PySem.W.kitOne K (.ref (He.ga K "TooLarge")) (.type "ValueError") = some true
  ki_ZeroDenominator_ValueError : PySem.W.kitOne K (.ref (He.ga K "ZeroDenominator")) (.type "ValueError") = some true
section
variable {P : Program} {w : World} {K : PySem.W.Frag} {mg : Str → Option Value} {base : Heap}
theorem hokc_TooLarge (T : Tx K mg) : ∀ s b, ok_TooLarge s = some b → PySem.W.exmOne K (.ref (He.ga K s)) (.ref (He.ga K "TooLarge")) = some b := by
  intro s b h
  unfold ok_TooLarge at h
  split at h
  · rename_i e
    subst e
    cases h
    exact T.m_InvalidCosts_TooLarge
  split at h
  · rename_i e
    subst e
    cases h
    exact T.m_InvalidWishes_TooLarge
  split at h
  · rename_i e
    subst e
    cases h
    exact T.m_TooLarge_TooLarge
  split at h
  · rename_i e
    subst e
    cases h
    exact T.m_ZeroDenominator_TooLarge
  cases h
theorem hokc_UnbentError (T : Tx K mg) : ∀ s b, ok_UnbentError s = some b → PySem.W.exmOne K (.ref (He.ga K s)) (.ref (He.ga K "UnbentError")) = some b := by
  intro s b h
  unfold ok_UnbentError at h
  split at h
  · rename_i e
    subst e
    cases h
    exact T.m_InvalidCosts_UnbentError
  split at h
  · rename_i e
    subst e
    cases h
    exact T.m_InvalidWishes_UnbentError
  split at h
  · rename_i e
    subst e
    cases h
    exact T.m_TooLarge_UnbentError
  split at h
  · rename_i e
    subst e
    cases h
    exact T.m_ZeroDenominator_UnbentError
  cases h
theorem hlow_limit (T : Tx K mg) : ∀ c ∈ low_limit, XfC K (He.ga K c) ∧ PySem.W.findIn K (.ref (He.ga K c)) "limit" = some none := fun c h => by
  simp only [low_limit, List.mem_cons, List.not_mem_nil, or_false] at h
  rcases h with rfl
  · exact ⟨T.xf_TooLarge, T.na_TooLarge_limit⟩
theorem hiso_InvalidCosts (T : Tx K mg) : ∀ p ∈ iso_InvalidCosts, ExcC K (He.ga K p.1) ∧ PySem.W.kitOne K (.ref (He.ga K p.1)) (.ref (He.ga K "InvalidCosts")) = some p.2 := fun p h => by
  simp only [iso_InvalidCosts, List.mem_cons, List.not_mem_nil, or_false] at h
  rcases h with rfl | rfl | rfl | rfl
  · exact ⟨T.ie_InvalidCosts, T.ki_InvalidCosts_InvalidCosts⟩
  · exact ⟨T.ie_InvalidWishes, T.ki_InvalidWishes_InvalidCosts⟩
  · exact ⟨T.ie_TooLarge, T.ki_TooLarge_InvalidCosts⟩
  · exact ⟨T.ie_ZeroDenominator, T.ki_ZeroDenominator_InvalidCosts⟩
theorem hiso_InvalidWishes (T : Tx K mg) : ∀ p ∈ iso_InvalidWishes, ExcC K (He.ga K p.1) ∧ PySem.W.kitOne K (.ref (He.ga K p.1)) (.ref (He.ga K "InvalidWishes")) = some p.2 := fun p h => by
  simp only [iso_InvalidWishes, List.mem_cons, List.not_mem_nil, or_false] at h
  rcases h with rfl | rfl | rfl | rfl
  · exact ⟨T.ie_InvalidCosts, T.ki_InvalidCosts_InvalidWishes⟩
  · exact ⟨T.ie_InvalidWishes, T.ki_InvalidWishes_InvalidWishes⟩
  · exact ⟨T.ie_TooLarge, T.ki_TooLarge_InvalidWishes⟩
  · exact ⟨T.ie_ZeroDenominator, T.ki_ZeroDenominator_InvalidWishes⟩
theorem hiso_ValueError (T : Tx K mg) : ∀ p ∈ iso_ValueError, ExcC K (He.ga K p.1) ∧ PySem.W.kitOne K (.ref (He.ga K p.1)) (.type "ValueError") = some p.2 := fun p h => by
  simp only [iso_ValueError, List.mem_cons, List.not_mem_nil, or_false] at h
  rcases h with rfl | rfl | rfl | rfl
  · exact ⟨T.ie_InvalidCosts, T.ki_InvalidCosts_ValueError⟩
  · exact ⟨T.ie_InvalidWishes, T.ki_InvalidWishes_ValueError⟩
  · exact ⟨T.ie_TooLarge, T.ki_TooLarge_ValueError⟩
  · exact ⟨T.ie_ZeroDenominator, T.ki_ZeroDenominator_ValueError⟩
theorem ok__law_make {f : Addr} {fd : FuncData} (T : Tx K mg) (F : FunD K "_law_make" "_law_make" (defArgs s__law_make) (defBody s__law_make) (defScope s__law_make) [] [] f fd) : FnOk P w K mg base (L2.CX P w) 1 f fd ["p", "q"] (spF K (tbs K) p__law_make 2) := F.ok sc__law_make (fun vs H Q E h => h.1) (fun cdv A outer s H vs Q E hr h => def_body (z := ⟨K, tbs K, none, fun cls d _ H => E cls d H⟩) (fb := b__law_make) (pu_scons (pu_sset (i := 2) sc__law_make.nd rfl (Or.inl rfl) (pu_B1 us_abs cl_abs (by rfl) T.n_abs bb_abs (pe_pv 0)))
 (pu_scons (pu_sset (i := 3) sc__law_make.nd rfl (Or.inl rfl) (pe_pv 1))
 (pu_scons (pu_sfor (tgt := (.nm 4)) PassesOwn.leaving rfl (pu_iR1 (by rfl) T.n_range pu_int) (pg_name (i := 4) sc__law_make.nd rfl (Or.inl rfl)) (pu_scons (pu_sif (pu_tcmp os_eq (op_eqA hr.units) (pe_pv 3) pu_int (nomark _)) (pu_sone pu_sbreak) pu_snil)
 (pu_scons (pu_sset (i := 5) sc__law_make.nd rfl (Or.inl rfl) (pu_op os_mod op_modN (pu_Y1 us_int cl_int (by rfl) T.n_int bb_int (pe_pv 2)) (pe_pv 3)))
 (pu_scons (pu_sset (i := 2) sc__law_make.nd rfl (Or.inl rfl) (pe_pv 3))
 (pu_sone (pu_sset (i := 3) sc__law_make.nd rfl (Or.inl rfl) (pe_pv 5)))))))
 (pu_sone (pu_sret (pu_tup (pu_cons (pu_op os_fdiv op_fdivX (pe_pv 0) (pe_pv 2)) (pu_cons (pu_op os_fdiv op_fdivX (pe_pv 1) (pe_pv 2)) pu_nil)))))))) rfl rfl h rfl)
theorem ok__law_add {f : Addr} {fd : FuncData} (T : Tx K mg) (F : FunD K "_law_add" "_law_add" (defArgs s__law_add) (defBody s__law_add) (defScope s__law_add) [] [] f fd) (C__law_make : Cal P w K mg base "_law_make" 1 ["p", "q"] [] (spF K (tbs K) p__law_make 2)) : FnOk P w K mg base (L2.CX P w) 2 f fd ["a", "b"] (spF K (tbs K) p__law_add 2) := F.ok sc__law_add (fun vs H Q E h => h.1) (fun cdv A outer s H vs Q E hr h => def_body (z := ⟨K, tbs K, none, fun cls d _ H => E cls d H⟩) (fb := b__law_add) (pu_sone (pu_sret (pu_call (z := _) (ms := [false, false]) rfl C__law_make (fun _ _ => .nil) rfl rfl hr (by decide) (by rfl) (takes_of rfl rfl rfl rfl) (pu_cons (pu_op os_add op_addA (pu_op os_mul op_mulA (pu_ix os_ix ix_seq (pe_pv 0) pu_int (fun _ _ => rfl)) (pu_ix os_ix ix_seq (pe_pv 1) pu_int (fun _ _ => rfl))) (pu_op os_mul op_mulA (pu_ix os_ix ix_seq (pe_pv 1) pu_int (fun _ _ => rfl)) (pu_ix os_ix ix_seq (pe_pv 0) pu_int (fun _ _ => rfl)))) (pu_cons (pu_op os_mul op_mulA (pu_ix os_ix ix_seq (pe_pv 0) pu_int (fun _ _ => rfl)) (pu_ix os_ix ix_seq (pe_pv 1) pu_int (fun _ _ => rfl))) pu_nil))))) rfl rfl h rfl)
theorem ok__law_less {f : Addr} {fd : FuncData} (T : Tx K mg) (F : FunD K "_law_less" "_law_less" (defArgs s__law_less) (defBody s__law_less) (defScope s__law_less) [] [] f fd) : FnOk P w K mg base (L2.CX P w) 1 f fd ["a", "b"] (spF K (tbs K) p__law_less 2) := F.ok sc__law_less (fun vs H Q E h => h.1) (fun cdv A outer s H vs Q E hr h => def_body (z := ⟨K, tbs K, none, fun cls d _ H => E cls d H⟩) (fb := b__law_less) (pu_sone (pu_sret (pu_cmp os_lt op_lt (pu_op os_mul op_mulA (pu_ix os_ix ix_seq (pe_pv 0) pu_int (fun _ _ => rfl)) (pu_ix os_ix ix_seq (pe_pv 1) pu_int (fun _ _ => rfl))) (pu_op os_mul op_mulA (pu_ix os_ix ix_seq (pe_pv 1) pu_int (fun _ _ => rfl)) (pu_ix os_ix ix_seq (pe_pv 0) pu_int (fun _ _ => rfl))) (nomark _)))) rfl rfl h rfl)
theorem ok__law_minus {f : Addr} {fd : FuncData} (T : Tx K mg) (F : FunD K "_law_minus" "_law_minus" (defArgs s__law_minus) (defBody s__law_minus) (defScope s__law_minus) [] [] f fd) (C__law_make : Cal P w K mg base "_law_make" 1 ["p", "q"] [] (spF K (tbs K) p__law_make 2)) : FnOk P w K mg base (L2.CX P w) 2 f fd ["a", "b"] (spF K (tbs K) p__law_minus 2) := F.ok sc__law_minus (fun vs H Q E h => h.1) (fun cdv A outer s H vs Q E hr h => def_body (z := ⟨K, tbs K, none, fun cls d _ H => E cls d H⟩) (fb := b__law_minus) (pu_sone (pu_sret (pu_call (z := _) (ms := [false, false]) rfl C__law_make (fun _ _ => .nil) rfl rfl hr (by decide) (by rfl) (takes_of rfl rfl rfl rfl) (pu_cons (pu_op os_sub op_sub (pu_op os_mul op_mulA (pu_ix os_ix ix_seq (pe_pv 0) pu_int (fun _ _ => rfl)) (pu_ix os_ix ix_seq (pe_pv 1) pu_int (fun _ _ => rfl))) (pu_op os_mul op_mulA (pu_ix os_ix ix_seq (pe_pv 1) pu_int (fun _ _ => rfl)) (pu_ix os_ix ix_seq (pe_pv 0) pu_int (fun _ _ => rfl)))) (pu_cons (pu_op os_mul op_mulA (pu_ix os_ix ix_seq (pe_pv 0) pu_int (fun _ _ => rfl)) (pu_ix os_ix ix_seq (pe_pv 1) pu_int (fun _ _ => rfl))) pu_nil))))) rfl rfl h rfl)
theorem ok__law_orders {f : Addr} {fd : FuncData} (T : Tx K mg) (F : FunD K "_law_orders" "_law_orders" (defArgs s__law_orders) (defBody s__law_orders) (defScope s__law_orders) [] [] f fd) (m_self : mg "_law_orders" = some (.ref f)) : ∀ n : Nat, FnOk P w K mg base (L2.CX P w) (1 + n) f fd ["agents"] (spF K (tbs K) (p__law_orders n) 1)
  | 0 => ⟨fun vs H Q E h => h.1, fun A outer s H args us vs Q E hr he hb hv h => by obtain ⟨_, _, _, _, _, z⟩ := h; exact z.elim⟩
  | n + 1 =>
    have C__law_orders : Cal P w K mg base "_law_orders" (1 + n) ["agents"] [] (spF K (tbs K) (p__law_orders n) 1) := ⟨f, fd, [], ok__law_orders T F  m_self n, m_self, F.kp, .nil, F.bindsN fun _ _ _ _ _ _ us hl => match us, hl with | [_], _ => rfl⟩
    F.ok sc__law_orders (fun vs H Q E h => h.1) (fun cdv A outer s H vs Q E hr h => def_body (z := ⟨K, tbs K, none, fun cls d _ H => E cls d H⟩) (fb := b__law_orders (p__law_orders n)) (pu_scons (pu_sif (pu_tcmp os_eq (op_eqA hr.units) (pu_B1 us_len cl_lenA (by rfl) T.n_len bb_len (pe_pv 0)) pu_int (nomark _)) (pu_sone (pu_sret (pu_lst (pu_cons (pu_lst pu_nil) pu_nil)))) pu_snil)
 (pu_scons (pu_sown (i := 1) sc__law_orders.nd rfl (Or.inl rfl) (pu_lst pu_nil))
 (pu_scons (pu_sfor (tgt := (.nm 2)) PassesOwn.leaving rfl (pu_iE rfl (pe_pv 0)) (pg_name (i := 2) sc__law_orders.nd rfl (Or.inr rfl)) (pu_sone (pu_sfor (tgt := (.nm 3)) PassesOwn.leaving rfl (pu_iE rfl (pu_call (z := _) (ms := [false]) rfl C__law_orders (fun _ _ => .nil) rfl rfl hr (Nat.le_refl _) (by rfl) (takes_of rfl rfl rfl rfl) (pu_cons (pu_lc (own := [("other", 4)]) (tgt := (.nm 4)) rfl sc__law_orders.nd  (pu_iE rfl (pe_pv 0)) (blkOk_by (N := N__law_orders) (sc := defScope s__law_orders) (by decide +kernel)) (fun _ _ _ _ _ => (pg_name (i := 4) sc__law_orders.nd rfl (by first | exact Or.inl rfl | exact Or.inr rfl))) (fun _ _ _ _ _ => (pts_one (pu_tcmp os_ne (op_neA hr.units) (pe_pv 4) (pe_pv 2) (nomark _)))) (fun _ _ _ _ _ => (pe_pv 4)) (by decide)) pu_nil))) (pg_name (i := 3) sc__law_orders.nd rfl (Or.inl rfl)) (pu_sone (pu_sex (pu_app (pe_pv 1) (pu_op os_add op_addA (pu_lst (pu_cons (pe_pv 2) pu_nil)) (pe_pv 3))))))))
 (pu_sone (pu_sret (pe_pv 1)))))) rfl rfl h rfl)
theorem ok__law_times {f : Addr} {fd : FuncData} (T : Tx K mg) (F : FunD K "_law_times" "_law_times" (defArgs s__law_times) (defBody s__law_times) (defScope s__law_times) [] [] f fd) (C__law_make : Cal P w K mg base "_law_make" 1 ["p", "q"] [] (spF K (tbs K) p__law_make 2)) : FnOk P w K mg base (L2.CX P w) 2 f fd ["a", "b"] (spF K (tbs K) p__law_times 2) := F.ok sc__law_times (fun vs H Q E h => h.1) (fun cdv A outer s H vs Q E hr h => def_body (z := ⟨K, tbs K, none, fun cls d _ H => E cls d H⟩) (fb := b__law_times) (pu_sone (pu_sret (pu_call (z := _) (ms := [false, false]) rfl C__law_make (fun _ _ => .nil) rfl rfl hr (by decide) (by rfl) (takes_of rfl rfl rfl rfl) (pu_cons (pu_op os_mul op_mulA (pu_ix os_ix ix_seq (pe_pv 0) pu_int (fun _ _ => rfl)) (pu_ix os_ix ix_seq (pe_pv 1) pu_int (fun _ _ => rfl))) (pu_cons (pu_op os_mul op_mulA (pu_ix os_ix ix_seq (pe_pv 0) pu_int (fun _ _ => rfl)) (pu_ix os_ix ix_seq (pe_pv 1) pu_int (fun _ _ => rfl))) pu_nil))))) rfl rfl h rfl)
theorem ok__law_share {f : Addr} {fd : FuncData} (T : Tx K mg) (F : FunD K "_law_share" "_law_share" (defArgs s__law_share) (defBody s__law_share) (defScope s__law_share) [] [] f fd) (C__law_add : Cal P w K mg base "_law_add" 2 ["a", "b"] [] (spF K (tbs K) p__law_add 2)) (C__law_minus : Cal P w K mg base "_law_minus" 2 ["a", "b"] [] (spF K (tbs K) p__law_minus 2)) (C__law_orders : Cal P w K mg base "_law_orders" 71 ["agents"] [] (spF K (tbs K) (p__law_orders 70) 1)) (C__law_times : Cal P w K mg base "_law_times" 2 ["a", "b"] [] (spF K (tbs K) p__law_times 2)) : FnOk P w K mg base (L2.CX P w) 72 f fd ["costs", "members", "agent"] (spF K (tbs K) p__law_share 3) := F.ok sc__law_share (fun vs H Q E h => h.1) (fun cdv A outer s H vs Q E hr h => def_body (z := ⟨K, tbs K, none, fun cls d _ H => E cls d H⟩) (fb := b__law_share) (pu_scons (pu_sset (i := 3) sc__law_share.nd rfl (Or.inl rfl) (pu_call (z := _) (ms := [false]) rfl C__law_orders (fun _ _ => .nil) rfl rfl hr (by decide) (by rfl) (takes_of rfl rfl rfl rfl) (pu_cons (pe_pv 1) pu_nil)))
 (pu_scons (pu_sset (i := 4) sc__law_share.nd rfl (Or.inl rfl) (pu_tup (pu_cons pu_int (pu_cons pu_int pu_nil))))
 (pu_scons (pu_sfor (tgt := (.nm 5)) PassesOwn.leaving rfl (pu_iE rfl (pe_pv 3)) (pg_name (i := 5) sc__law_share.nd rfl (Or.inl rfl)) (pu_scons (pu_sset (i := 6) sc__law_share.nd rfl (Or.inl rfl) (pu_B1 us_sum (cr_sum rfl) (by rfl) T.n_sum bb_sum (pu_lc (own := [("k", 7)]) (tgt := (.nm 7)) rfl sc__law_share.nd  (pu_iE rfl (pu_slice rfl (pe_pv 5) pu_pn (pu_ps (pu_idx rfl hr.units65 (pe_pv 5) (pe_pv 2))))) (blkOk_by (N := N__law_share) (sc := defScope s__law_share) (by decide +kernel)) (fun _ _ _ _ _ => (pg_name (i := 7) sc__law_share.nd rfl (by first | exact Or.inl rfl | exact Or.inr rfl))) (fun _ _ _ _ _ => pts_ret) (fun _ _ _ _ _ => (pu_op os_shl op_shl pu_int (pe_pv 7))) (by decide))))
 (pu_sone (pu_sset (i := 4) sc__law_share.nd rfl (Or.inl rfl) (pu_call (z := _) (ms := [false, false]) rfl C__law_add (fun _ _ => .nil) rfl rfl hr (by decide) (by rfl) (takes_of rfl rfl rfl rfl) (pu_cons (pe_pv 4) (pu_cons (pu_call (z := _) (ms := [false, false]) rfl C__law_minus (fun _ _ => .nil) rfl rfl hr (by decide) (by rfl) (takes_of rfl rfl rfl rfl) (pu_cons (pu_ix os_ix ix_seq (pe_pv 0) (pu_op os_add op_addA (pe_pv 6) (pu_op os_shl op_shl pu_int (pe_pv 2))) (fun _ _ => rfl)) (pu_cons (pu_ix os_ix ix_seq (pe_pv 0) (pe_pv 6) (fun _ _ => rfl)) pu_nil))) pu_nil)))))))
 (pu_sone (pu_sret (pu_call (z := _) (ms := [false, false]) rfl C__law_times (fun _ _ => .nil) rfl rfl hr (by decide) (by rfl) (takes_of rfl rfl rfl rfl) (pu_cons (pe_pv 4) (pu_cons (pu_tup (pu_cons pu_int (pu_cons (pu_B1 us_len cl_lenA (by rfl) T.n_len bb_len (pe_pv 3)) pu_nil))) pu_nil)))))))) rfl rfl h rfl)
theorem ok__law_charge {f : Addr} {fd : FuncData} (T : Tx K mg) (F : FunD K "_law_charge" "_law_charge" (defArgs s__law_charge) (defBody s__law_charge) (defScope s__law_charge) [] [] f fd) (C__law_less : Cal P w K mg base "_law_less" 1 ["a", "b"] [] (spF K (tbs K) p__law_less 2)) (C__law_share : Cal P w K mg base "_law_share" 72 ["costs", "members", "agent"] [] (spF K (tbs K) p__law_share 3)) : FnOk P w K mg base (L2.CX P w) 73 f fd ["costs", "bids"] (spF K (tbs K) p__law_charge 2) := F.ok sc__law_charge (fun vs H Q E h => h.1) (fun cdv A outer s H vs Q E hr h => def_body (z := ⟨K, tbs K, none, fun cls d _ H => E cls d H⟩) (fb := b__law_charge) (pu_scons (pu_sset (i := 2) sc__law_charge.nd rfl (Or.inr rfl) (pu_rg1 rfl (by rfl) T.n_list (by rfl) T.n_range (pu_B1 us_len cl_lenA (by rfl) T.n_len bb_len (pe_pv 1))))
 (pu_scons (pu_sfor (tgt := (.nm 3)) PassesOwn.leaving rfl (pu_iR1 (by rfl) T.n_range (pu_op os_add op_addA (pu_B1 us_len cl_lenA (by rfl) T.n_len bb_len (pe_pv 1)) pu_int)) (pg_name (i := 3) sc__law_charge.nd rfl (Or.inl rfl)) (pu_sone (pu_sset (i := 2) sc__law_charge.nd rfl (Or.inr rfl) (pu_lc (own := [("k", 4)]) (tgt := (.nm 4)) rfl sc__law_charge.nd  (pu_iE rfl (pe_pv 2)) (blkOk_by (N := N__law_charge) (sc := defScope s__law_charge) (by decide +kernel)) (fun _ _ _ _ _ => (pg_name (i := 4) sc__law_charge.nd rfl (by first | exact Or.inl rfl | exact Or.inr rfl))) (fun _ _ _ _ _ => (pts_one (pu_tnot (pu_truth rfl (pu_call (z := _) (ms := [false, false]) rfl C__law_less (fun _ _ => .nil) rfl rfl hr (by decide) (by rfl) takes0 (pu_cons (pu_ix os_ix ix_seq (pe_pv 1) (pe_pv 4) (fun _ _ => rfl)) (pu_cons (pu_call (z := _) (ms := [false, false, false]) rfl C__law_share (fun _ _ => .nil) rfl rfl hr (by decide) (by rfl) takes0 (pu_cons (pe_pv 0) (pu_cons (pe_pv 2) (pu_cons (pe_pv 4) pu_nil)))) pu_nil))))))) (fun _ _ _ _ _ => (pe_pv 4)) (by decide)))))
 (pu_scons (pu_sown (i := 5) sc__law_charge.nd rfl (Or.inl rfl) (pu_lst pu_nil))
 (pu_scons (pu_sfor (tgt := (.nm 4)) PassesOwn.leaving rfl (pu_iR1 (by rfl) T.n_range (pu_B1 us_len cl_lenA (by rfl) T.n_len bb_len (pe_pv 1))) (pg_name (i := 4) sc__law_charge.nd rfl (Or.inl rfl)) (pu_sone (pu_sif (pu_tcmp os_in (op_inB hr.units) (pe_pv 4) (pe_pv 2) (by with_unfolding_all rfl)) (pu_sone (pu_sex (pu_app (pe_pv 5) (pu_call (z := _) (ms := [false, false, false]) rfl C__law_share (fun _ _ => .nil) rfl rfl hr (by decide) (by rfl) (takes_of rfl rfl rfl rfl) (pu_cons (pe_pv 0) (pu_cons (pe_pv 2) (pu_cons (pe_pv 4) pu_nil))))))) (pu_sone (pu_sex (pu_app (pe_pv 5) (pu_tup (pu_cons pu_int (pu_cons pu_int pu_nil)))))))))
 (pu_frz (pu_sone (pu_sret (pu_tup (pu_cons (pe_pv 2) (pu_cons (pe_pv 5) pu_nil)))))))))) rfl rfl h rfl)
theorem ok__law_take {f : Addr} {fd : FuncData} (T : Tx K mg) (F : FunD K "_law_take" "_law_take" (defArgs s__law_take) (defBody s__law_take) (defScope s__law_take) [] [] f fd) : FnOk P w K mg base (L2.CX P w) 1 f fd ["draws", "bound"] (spF K (tbs K) p__law_take 2) := F.ok sc__law_take (fun vs H Q E h => h.1) (fun cdv A outer s H vs Q E hr h => def_body (z := ⟨K, tbs K, none, fun cls d _ H => E cls d H⟩) (fb := b__law_take) (pu_scons (pu_sif (pu_tcmp os_eq (op_eqA hr.units) (pu_B1 us_len cl_lenA (by rfl) T.n_len bb_len (pe_pv 0)) pu_int (nomark _)) (pu_sone (pu_sret pu_int)) pu_snil)
 (pu_sone (pu_sret (pu_op os_mod op_modN (pu_Y1 us_int cl_int (by rfl) T.n_int bb_int (pu_pop (pe_pv 0))) (pe_pv 1))))) rfl rfl h rfl)
theorem ok__law_fraction {f : Addr} {fd : FuncData} (T : Tx K mg) (F : FunD K "_law_fraction" "_law_fraction" (defArgs s__law_fraction) (defBody s__law_fraction) (defScope s__law_fraction) [] [] f fd) (C__law_make : Cal P w K mg base "_law_make" 1 ["p", "q"] [] (spF K (tbs K) p__law_make 2)) (C__law_take : Cal P w K mg base "_law_take" 1 ["draws", "bound"] [] (spF K (tbs K) p__law_take 2)) : FnOk P w K mg base (L2.CX P w) 2 f fd ["draws", "least"] (spF K (tbs K) p__law_fraction 2) := F.ok sc__law_fraction (fun vs H Q E h => h.1) (fun cdv A outer s H vs Q E hr h => def_body (z := ⟨K, tbs K, none, fun cls d _ H => E cls d H⟩) (fb := b__law_fraction) (pu_scons (pu_sset (i := 2) sc__law_fraction.nd rfl (Or.inl rfl) (pu_call (z := _) (ms := [true, false]) rfl C__law_take (fun _ _ => .nil) rfl rfl hr (by decide) (by rfl) (takes_of rfl rfl rfl rfl) (pu_cons (pe_pv 0) (pu_cons pu_int pu_nil))))
 (pu_scons (pu_sif (pu_tcmp os_eq (op_eqA hr.units) (pe_pv 2) pu_int (nomark _)) (pu_sone (pu_sret (pu_tup (pu_cons pu_int (pu_cons pu_int pu_nil))))) pu_snil)
 (pu_scons (pu_sif (pu_tcmp os_eq (op_eqA hr.units) (pe_pv 2) pu_int (nomark _)) (pu_sone (pu_sret (pu_call (z := _) (ms := [false, false]) rfl C__law_make (fun _ _ => .nil) rfl rfl hr (by decide) (by rfl) (takes_of rfl rfl rfl rfl) (pu_cons (pu_call (z := _) (ms := [true, false]) rfl C__law_take (fun _ _ => .nil) rfl rfl hr (by decide) (by rfl) (takes_of rfl rfl rfl rfl) (pu_cons (pe_pv 0) (pu_cons (pu_op os_pow op_pow pu_int pu_int) pu_nil))) (pu_cons (pu_op os_add op_addA pu_int (pu_call (z := _) (ms := [true, false]) rfl C__law_take (fun _ _ => .nil) rfl rfl hr (by decide) (by rfl) (takes_of rfl rfl rfl rfl) (pu_cons (pe_pv 0) (pu_cons (pu_op os_pow op_pow pu_int pu_int) pu_nil)))) pu_nil))))) pu_snil)
 (pu_scons (pu_sset (i := 3) sc__law_fraction.nd rfl (Or.inl rfl) (pu_call (z := _) (ms := [false, false]) rfl C__law_make (fun _ _ => .nil) rfl rfl hr (by decide) (by rfl) (takes_of rfl rfl rfl rfl) (pu_cons (pu_op os_add op_addA (pu_call (z := _) (ms := [true, false]) rfl C__law_take (fun _ _ => .nil) rfl rfl hr (by decide) (by rfl) (takes_of rfl rfl rfl rfl) (pu_cons (pe_pv 0) (pu_cons pu_int pu_nil))) (pe_pv 1)) (pu_cons (pu_op os_add op_addA pu_int (pu_call (z := _) (ms := [true, false]) rfl C__law_take (fun _ _ => .nil) rfl rfl hr (by decide) (by rfl) (takes_of rfl rfl rfl rfl) (pu_cons (pe_pv 0) (pu_cons pu_int pu_nil)))) pu_nil))))
 (pu_sone (pu_sret (pe_pv 3))))))) rfl rfl h rfl)
theorem ok__law_has {f : Addr} {fd : FuncData} (T : Tx K mg) (F : FunD K "_law_has" "_law_has" (defArgs s__law_has) (defBody s__law_has) (defScope s__law_has) [] [] f fd) : FnOk P w K mg base (L2.CX P w) 1 f fd ["group", "agent"] (spF K (tbs K) p__law_has 2) := F.ok sc__law_has (fun vs H Q E h => h.1) (fun cdv A outer s H vs Q E hr h => def_body (z := ⟨K, tbs K, none, fun cls d _ H => E cls d H⟩) (fb := b__law_has) (pu_sone (pu_sret (pu_cmp os_eq (op_eqA hr.units) (pu_op os_mod op_modN (pu_Y1 us_int cl_int (by rfl) T.n_int bb_int (pu_op os_fdiv op_fdivX (pe_pv 0) (pu_op os_shl op_shl pu_int (pe_pv 1)))) pu_int) pu_int (nomark _)))) rfl rfl h rfl)
theorem ok__law_costs {f : Addr} {fd : FuncData} (T : Tx K mg) (F : FunD K "_law_costs" "_law_costs" (defArgs s__law_costs) (defBody s__law_costs) (defScope s__law_costs) [] [] f fd) (C__law_add : Cal P w K mg base "_law_add" 2 ["a", "b"] [] (spF K (tbs K) p__law_add 2)) (C__law_fraction : Cal P w K mg base "_law_fraction" 2 ["draws", "least"] [] (spF K (tbs K) p__law_fraction 2)) (C__law_has : Cal P w K mg base "_law_has" 1 ["group", "agent"] [] (spF K (tbs K) p__law_has 2)) (C__law_take : Cal P w K mg base "_law_take" 1 ["draws", "bound"] [] (spF K (tbs K) p__law_take 2)) : FnOk P w K mg base (L2.CX P w) 3 f fd ["draws", "count"] (spF K (tbs K) p__law_costs 2) := F.ok sc__law_costs (fun vs H Q E h => h.1) (fun cdv A outer s H vs Q E hr h => def_body (z := ⟨K, tbs K, none, fun cls d _ H => E cls d H⟩) (fb := b__law_costs) (pu_scons (pu_setLc (i := 2) (own := [("k", 7)]) (tgt := (.nm 7)) rfl sc__law_costs.nd rfl rfl (sw_true rfl rfl rfl rfl) (pu_iR1 (by rfl) T.n_range (pu_call (z := _) (ms := [true, false]) rfl C__law_take (fun _ _ => .nil) rfl rfl hr (by decide) (by rfl) (takes_of rfl rfl rfl rfl) (pu_cons (pe_pv 0) (pu_cons pu_int pu_nil)))) (blkOk_by (N := N__law_costs) (sc := defScope s__law_costs) (by decide +kernel)) (fun _ _ _ _ _ => (pg_name (i := 7) sc__law_costs.nd rfl (by first | exact Or.inl rfl | exact Or.inr rfl))) (fun _ _ _ _ _ => pts_ret) (fun _ _ _ _ _ => (pu_lst (pu_cons (pu_call (z := _) (ms := [true, false]) rfl C__law_take (fun _ _ => .nil) rfl rfl hr (by decide) (by rfl) takes0 (pu_cons (pe_pv 0) (pu_cons (pu_op os_shl op_shl pu_int (pe_pv 1)) pu_nil))) (pu_cons (pu_call (z := _) (ms := [true, false]) rfl C__law_fraction (fun _ _ => .nil) rfl rfl hr (by decide) (by rfl) takes0 (pu_cons (pe_pv 0) (pu_cons pu_int pu_nil))) pu_nil)))) (by decide))
 (pu_scons (pu_sown (i := 3) sc__law_costs.nd rfl (Or.inl rfl) (pu_lst pu_nil))
 (pu_scons (pu_sfor (tgt := (.nm 4)) PassesOwn.leaving rfl (pu_iR1 (by rfl) T.n_range (pu_op os_shl op_shl pu_int (pe_pv 1))) (pg_name (i := 4) sc__law_costs.nd rfl (Or.inr rfl)) (pu_scons (pu_sset (i := 5) sc__law_costs.nd rfl (Or.inl rfl) (pu_tup (pu_cons pu_int (pu_cons pu_int pu_nil))))
 (pu_scons (pu_sfor (tgt := (.nm 6)) PassesOwn.leaving rfl (pu_iE rfl (pe_pv 2)) (pg_name (i := 6) sc__law_costs.nd rfl (Or.inr rfl)) (pu_sone (pu_sif (pu_tcmp os_gt op_gt (pu_B1 us_len cl_lenA (by rfl) T.n_len bb_len (pu_lc (own := [("k", 7)]) (tgt := (.nm 7)) rfl sc__law_costs.nd  (pu_iR1 (by rfl) T.n_range (pe_pv 1)) (blkOk_by (N := N__law_costs) (sc := defScope s__law_costs) (by decide +kernel)) (fun _ _ _ _ _ => (pg_name (i := 7) sc__law_costs.nd rfl (by first | exact Or.inl rfl | exact Or.inr rfl))) (fun _ _ _ _ _ => (pts_one (pu_wand (pu_truth rfl (pu_call (z := _) (ms := [false, false]) rfl C__law_has (fun _ _ => .nil) rfl rfl hr (by decide) (by rfl) takes0 (pu_cons (pe_pv 4) (pu_cons (pe_pv 7) pu_nil)))) (pu_wand1 (pu_truth rfl (pu_call (z := _) (ms := [false, false]) rfl C__law_has (fun _ _ => .nil) rfl rfl hr (by decide) (by rfl) takes0 (pu_cons (pu_ix os_ix ix_seq (pe_pv 6) pu_int (fun _ _ => rfl)) (pu_cons (pe_pv 7) pu_nil)))))).pt)) (fun _ _ _ _ _ => (pe_pv 7)) (by decide))) pu_int (nomark _)) (pu_sone (pu_sset (i := 5) sc__law_costs.nd rfl (Or.inl rfl) (pu_call (z := _) (ms := [false, false]) rfl C__law_add (fun _ _ => .nil) rfl rfl hr (by decide) (by rfl) (takes_of rfl rfl rfl rfl) (pu_cons (pe_pv 5) (pu_cons (pu_ix os_ix ix_seq (pe_pv 6) pu_int (fun _ _ => rfl)) pu_nil))))) pu_snil)))
 (pu_sone (pu_sex (pu_app (pe_pv 3) (pe_pv 5)))))))
 (pu_sone (pu_sret (pe_pv 3)))))) rfl rfl h rfl)
theorem ok__law_draws {f : Addr} {fd : FuncData} (T : Tx K mg) (F : FunD K "_law_draws" "_law_draws" (defArgs s__law_draws) (defBody s__law_draws) (defScope s__law_draws) [] [] f fd) : FnOk P w K mg base (L2.CX P w) 1 f fd ["script"] (spF K (tbs K) p__law_draws 1) := F.ok sc__law_draws (fun vs H Q E h => h.1) (fun cdv A outer s H vs Q E hr h => def_body (z := ⟨K, tbs K, none, fun cls d _ H => E cls d H⟩) (fb := b__law_draws) (pu_scons (pu_sown (i := 1) sc__law_draws.nd rfl (Or.inl rfl) (pu_lst pu_nil))
 (pu_scons (pu_sfor (tgt := (.nm 2)) PassesOwn.leaving rfl (pu_iE rfl (pe_pv 0)) (pg_name (i := 2) sc__law_draws.nd rfl (Or.inl rfl)) (pu_scons (pu_sset (i := 3) sc__law_draws.nd rfl (Or.inl rfl) (pu_B1 us_abs cl_abs (by rfl) T.n_abs bb_abs (pe_pv 2)))
 (pu_scons (pu_sif (pu_tcmp os_lt op_lt (pe_pv 3) (pu_op os_pow op_pow pu_int pu_int) (nomark _)) (pu_scons (pu_sset (i := 4) sc__law_draws.nd rfl (Or.inl rfl) (pu_op os_mod op_modN (pu_Y1 us_int cl_int (by rfl) T.n_int bb_int (pu_op os_add op_addA (pu_op os_mul op_mulA (pe_pv 3) pu_int) pu_int)) pu_int))
 (pu_scons (pu_sex (pu_app (pe_pv 1) (pu_op os_mod op_modN (pu_Y1 us_int cl_int (by rfl) T.n_int bb_int (pu_op os_add op_addA (pu_op os_mul op_mulA (pe_pv 4) pu_int) (pe_pv 3))) pu_int)))
 (pu_scons (pu_sex (pu_app (pe_pv 1) (pu_op os_mod op_modN (pu_Y1 us_int cl_int (by rfl) T.n_int bb_int (pu_op os_add op_addA (pe_pv 4) (pu_op os_fdiv op_fdivX (pe_pv 3) pu_int))) pu_int)))
 (pu_sone (pu_sset (i := 3) sc__law_draws.nd rfl (Or.inl rfl) pu_int))))) pu_snil)
 (pu_sone (pu_sfor (tgt := (.nm 5)) PassesOwn.leaving rfl (pu_iR1 (by rfl) T.n_range pu_int) (pg_name (i := 5) sc__law_draws.nd rfl (Or.inl rfl)) (pu_sone (pu_sif (pu_tcmp os_gt op_gt (pe_pv 3) pu_int (nomark _)) (pu_scons (pu_sex (pu_app (pe_pv 1) (pu_op os_mod op_modN (pu_Y1 us_int cl_int (by rfl) T.n_int bb_int (pe_pv 3)) pu_int)))
 (pu_sone (pu_sset (i := 3) sc__law_draws.nd rfl (Or.inl rfl) (pu_op os_fdiv op_fdivX (pe_pv 3) pu_int)))) pu_snil)))))))
 (pu_scons (pu_sset (i := 6) sc__law_draws.nd rfl (Or.inl rfl) pu_int)
 (pu_scons (pu_sif (pu_tcmp os_gt op_gt (pu_B1 us_len cl_lenA (by rfl) T.n_len bb_len (pe_pv 0)) pu_int (nomark _)) (pu_sone (pu_sset (i := 6) sc__law_draws.nd rfl (Or.inl rfl) (pu_op os_add op_addA pu_int (pu_B1 us_abs cl_abs (by rfl) T.n_abs bb_abs (pu_ix os_ix ix_seq (pe_pv 0) pu_int (fun _ _ => rfl)))))) pu_snil)
 (pu_scons (pu_sfor (tgt := (.nm 5)) PassesOwn.leaving rfl (pu_iR1 (by rfl) T.n_range pu_int) (pg_name (i := 5) sc__law_draws.nd rfl (Or.inl rfl)) (pu_scons (pu_sset (i := 6) sc__law_draws.nd rfl (Or.inl rfl) (pu_op os_mod op_modN (pu_Y1 us_int cl_int (by rfl) T.n_int bb_int (pu_op os_add op_addA (pu_op os_mul op_mulA (pe_pv 6) pu_int) pu_int)) pu_int))
 (pu_sone (pu_sex (pu_app (pe_pv 1) (pu_op os_fdiv op_fdivX (pe_pv 6) pu_int))))))
 (pu_frz (pu_sone (pu_sret (pu_rev rfl rfl (by rfl) T.n_list (by rfl) T.n_reversed (pe_pv 1)))))))))) rfl rfl h rfl)
theorem ok__law_middle {f : Addr} {fd : FuncData} (T : Tx K mg) (F : FunD K "_law_middle" "_law_middle" (defArgs s__law_middle) (defBody s__law_middle) (defScope s__law_middle) [] [] f fd) : FnOk P w K mg base (L2.CX P w) 1 f fd ["rows"] (spF K (tbs K) p__law_middle 1) := F.ok sc__law_middle (fun vs H Q E h => h.1) (fun cdv A outer s H vs Q E hr h => def_body (z := ⟨K, tbs K, none, fun cls d _ H => E cls d H⟩) (fb := b__law_middle) (pu_scons (pu_sown (i := 1) sc__law_middle.nd rfl (Or.inl rfl) (pu_Y1 us_list cl_list (by rfl) T.n_list bb_list (pe_pv 0)))
 (pu_scons (pu_sfor (tgt := (.nm 2)) PassesOwn.leaving rfl (pu_iR1 (by rfl) T.n_range (pu_op os_fdiv op_fdivX (pu_B1 us_len cl_lenA (by rfl) T.n_len bb_len (pe_pv 0)) pu_int)) (pg_name (i := 2) sc__law_middle.nd rfl (Or.inl rfl)) (pu_scons (pu_sex (pu_remove (pe_pv 1) (pu_B1 (us_minl ) (cr_min rfl) (by rfl) T.n_min bb_min (pe_pv 1))))
 (pu_sone (pu_sex (pu_remove (pe_pv 1) (pu_B1 (us_maxl ) (cr_max rfl) (by rfl) T.n_max bb_max (pe_pv 1)))))))
 (pu_frz (pu_sone (pu_sret (pu_ix os_ix ix_seq (pe_pv 1) pu_int (fun _ _ => rfl))))))) rfl rfl h rfl)
theorem ok__law_peak {f : Addr} {fd : FuncData} (T : Tx K mg) (F : FunD K "_law_peak" "_law_peak" (defArgs s__law_peak) (defBody s__law_peak) (defScope s__law_peak) [] [] f fd) (C__law_take : Cal P w K mg base "_law_take" 1 ["draws", "bound"] [] (spF K (tbs K) p__law_take 2)) : FnOk P w K mg base (L2.CX P w) 2 f fd ["draws"] (spF K (tbs K) p__law_peak 1) := F.ok sc__law_peak (fun vs H Q E h => h.1) (fun cdv A outer s H vs Q E hr h => def_body (z := ⟨K, tbs K, none, fun cls d _ H => E cls d H⟩) (fb := b__law_peak) (pu_scons (pu_sif (pu_tcmp os_eq (op_eqA hr.units) (pu_call (z := _) (ms := [true, false]) rfl C__law_take (fun _ _ => .nil) rfl rfl hr (by decide) (by rfl) (takes_of rfl rfl rfl rfl) (pu_cons (pe_pv 0) (pu_cons pu_int pu_nil))) pu_int (nomark _)) (pu_sone (pu_sret (pu_op os_add op_addA (pu_op os_pow op_pow pu_int pu_int) (pu_call (z := _) (ms := [true, false]) rfl C__law_take (fun _ _ => .nil) rfl rfl hr (by decide) (by rfl) (takes_of rfl rfl rfl rfl) (pu_cons (pe_pv 0) (pu_cons pu_int pu_nil)))))) pu_snil)
 (pu_sone (pu_sret (pu_op os_sub op_sub (pu_call (z := _) (ms := [true, false]) rfl C__law_take (fun _ _ => .nil) rfl rfl hr (by decide) (by rfl) (takes_of rfl rfl rfl rfl) (pu_cons (pe_pv 0) (pu_cons pu_int pu_nil))) pu_int)))) rfl rfl h rfl)
theorem ok_sign {f : Addr} {fd : FuncData} (T : Tx K mg) (F : FunD K "sign" "sign" (defArgs s_sign) (defBody s_sign) (defScope s_sign) [] [] f fd) : FnOk P w K mg base (L2.CX P w) 1 f fd ["a"] (spF K (tbs K) p_sign 1) := F.ok sc_sign (fun vs H Q E h => h.1) (fun cdv A outer s H vs Q E hr h => def_body (z := ⟨K, tbs K, none, fun cls d _ H => E cls d H⟩) (fb := b_sign) (pu_scons (pu_sif (pu_tcmp os_gt op_gt (pu_ix os_ix ix_seq (pe_pv 0) pu_int (fun _ _ => rfl)) pu_int (nomark _)) (pu_sone (pu_sret pu_int)) pu_snil)
 (pu_sone (pu_sret (pu_if (pu_tcmp os_lt op_lt (pu_ix os_ix ix_seq (pe_pv 0) pu_int (fun _ _ => rfl)) pu_int (nomark _)) (pu_neg pu_int) pu_int)))) rfl rfl h rfl)
theorem ok_compare {f : Addr} {fd : FuncData} (T : Tx K mg) (F : FunD K "compare" "compare" (defArgs s_compare) (defBody s_compare) (defScope s_compare) [] [] f fd) (C_sign : Cal P w K mg base "sign" 1 ["a"] [] (spF K (tbs K) p_sign 1)) : FnOk P w K mg base (L2.CX P w) 2 f fd ["a", "b"] (spF K (tbs K) p_compare 2) := F.ok sc_compare (fun vs H Q E h => h.1) (fun cdv A outer s H vs Q E hr h => def_body (z := ⟨K, tbs K, none, fun cls d _ H => E cls d H⟩) (fb := b_compare) (pu_sone (pu_sret (pu_call (z := _) (ms := [false]) rfl C_sign (fun _ _ => .nil) rfl rfl hr (by decide) (by rfl) (takes_of rfl rfl rfl rfl) (pu_cons (pu_tup (pu_cons (pu_op os_sub op_sub (pu_op os_mul op_mulA (pu_ix os_ix ix_seq (pe_pv 0) pu_int (fun _ _ => rfl)) (pu_ix os_ix ix_seq (pe_pv 1) pu_int (fun _ _ => rfl))) (pu_op os_mul op_mulA (pu_ix os_ix ix_seq (pe_pv 1) pu_int (fun _ _ => rfl)) (pu_ix os_ix ix_seq (pe_pv 0) pu_int (fun _ _ => rfl)))) (pu_cons (pu_op os_mul op_mulA (pu_ix os_ix ix_seq (pe_pv 0) pu_int (fun _ _ => rfl)) (pu_ix os_ix ix_seq (pe_pv 1) pu_int (fun _ _ => rfl))) pu_nil))) pu_nil)))) rfl rfl h rfl)
theorem ok__ascend {f : Addr} {fd : FuncData} (T : Tx K mg) (F : FunD K "_ascend" "_ascend" (defArgs s__ascend) (defBody s__ascend) (defScope s__ascend) [] [] f fd) (hf : f = He.fAd K (("_ascend", none) : He.Defn)) (TB : GxR.TabB base mg (He.cT K (("_ascend", none) : He.Defn)).1 (He.cT K (("_ascend", none) : He.Defn)).2) (C_compare : Cal P w K mg base "compare" 2 ["a", "b"] [] (spF K (tbs K) p_compare 2)) : FnOk P w K mg base (L2.CX P w) 4 f fd ["costs", "agents"] (spF K (tbs K) p__ascend 2) := UbG.FunD.okT F hf sc__ascend (fun vs H Q E h => h.1) (fun A outer s H vs Q E hr h => def_body (z := ⟨K, tbs K, none, fun cls d _ H => E cls d H⟩) (fb := b__ascend) (pu_scons (pu_sfor (tgt := (.tp [(.nm 3), (.nm 2)])) PassesOwn.leaving rfl (pu_iEn rfl (by rfl) T.n_enumerate (pe_pv 0)) (pg_tup rfl (pgs_cons (pg_name (i := 3) sc__ascend.nd rfl (Or.inr rfl)) (pgs_cons (pg_name (i := 2) sc__ascend.nd rfl (Or.inr rfl)) pgs_nil))) (pu_sone (pu_sif (pu_truth rfl (pu_any (c := (He.cT K (("_ascend", none) : He.Defn)).1) (P := (He.cT K (("_ascend", none) : He.Defn)).2) (k := 2) (own := [("agent", 4)]) (tg := (.nm 4)) (by show _ ∈ tbs K; unfold tbs tf0; simp) hr sc__ascend.nd (by rfl) T.n_any TB rfl (UbG.gexOk_by (N := N__ascend) (sc := defScope s__ascend) (by decide +kernel)) (pu_iR1 (by rfl) T.n_range (pe_pv 1)) (fun _ _ _ _ _ _ _ hrG => ⟨(pg_name (i := 4) sc__ascend.nd rfl (by first | exact Or.inl rfl | exact Or.inr rfl)), (pu_cmp os_lt op_lt (pu_call (z := _) (ms := [false, false]) rfl C_compare (fun _ _ => .nil) rfl rfl hrG (by decide) (by rfl) takes0 (pu_cons (pu_ix os_ix ix_seq (pe_pv 0) (pu_op os_or op_orA (pe_pv 3) (pu_op os_shl op_shl pu_int (pe_pv 4))) (fun _ _ => rfl)) (pu_cons (pe_pv 2) pu_nil))) pu_int (nomark _))⟩) (by decide))) (pu_sone (pu_sret pu_bl)) pu_snil)))
 (pu_sone (pu_sret pu_bl))) rfl rfl h rfl)
theorem ok_make {f : Addr} {fd : FuncData} (T : Tx K mg) (F : FunD K "make" "make" (defArgs s_make) (defBody s_make) (defScope s_make) [V.int 1] [] f fd) : FnOk P w K mg base (L2.CX P w) 1 f fd ["p", "q"] (spF K (tbs K) p_make 2) := F.ok sc_make (fun vs H Q E h => h.1) (fun cdv A outer s H vs Q E hr h => def_body (z := ⟨K, tbs K, none, fun cls d _ H => E cls d H⟩) (fb := b_make) (pu_scons (pu_sif (pu_tcmp os_eq (op_eqA hr.units) (pe_pv 1) pu_int (nomark _)) (pu_sone (pu_sraise0 rfl rfl T.e_ZeroDenominator (takes_of rfl rfl rfl rfl) (by rfl))) pu_snil)
 (pu_scons (pu_sset (i := 2) sc_make.nd rfl (Or.inl rfl) (pu_gcd T.g_gcd (by rfl) (pe_pv 0) (pe_pv 1)))
 (pu_scons (pu_sif (pu_tcmp os_lt op_lt (pe_pv 1) pu_int (nomark _)) (pu_sone (pu_sset (i := 2) sc_make.nd rfl (Or.inl rfl) (pu_neg (pe_pv 2)))) pu_snil)
 (pu_sone (pu_sret (pu_tup (pu_cons (pu_op os_fdiv op_fdivX (pe_pv 0) (pe_pv 2)) (pu_cons (pu_op os_fdiv op_fdivX (pe_pv 1) (pe_pv 2)) pu_nil)))))))) rfl rfl h rfl)
theorem ok_add {f : Addr} {fd : FuncData} (T : Tx K mg) (F : FunD K "add" "add" (defArgs s_add) (defBody s_add) (defScope s_add) [] [] f fd) (C_make : Cal P w K mg base "make" 1 ["p", "q"] [] (spF K (tbs K) p_make 2)) : FnOk P w K mg base (L2.CX P w) 2 f fd ["a", "b"] (spF K (tbs K) p_add 2) := F.ok sc_add (fun vs H Q E h => h.1) (fun cdv A outer s H vs Q E hr h => def_body (z := ⟨K, tbs K, none, fun cls d _ H => E cls d H⟩) (fb := b_add) (pu_sone (pu_sret (pu_call (z := _) (ms := [false, false]) rfl C_make (fun _ _ => .nil) rfl rfl hr (by decide) (by rfl) (takes_of rfl rfl rfl rfl) (pu_cons (pu_op os_add op_addA (pu_op os_mul op_mulA (pu_ix os_ix ix_seq (pe_pv 0) pu_int (fun _ _ => rfl)) (pu_ix os_ix ix_seq (pe_pv 1) pu_int (fun _ _ => rfl))) (pu_op os_mul op_mulA (pu_ix os_ix ix_seq (pe_pv 1) pu_int (fun _ _ => rfl)) (pu_ix os_ix ix_seq (pe_pv 0) pu_int (fun _ _ => rfl)))) (pu_cons (pu_op os_mul op_mulA (pu_ix os_ix ix_seq (pe_pv 0) pu_int (fun _ _ => rfl)) (pu_ix os_ix ix_seq (pe_pv 1) pu_int (fun _ _ => rfl))) pu_nil))))) rfl rfl h rfl)
theorem ok__cost_less_together {f : Addr} {fd : FuncData} (T : Tx K mg) (F : FunD K "_cost_less_together" "_cost_less_together" (defArgs s__cost_less_together) (defBody s__cost_less_together) (defScope s__cost_less_together) [] [] f fd) (C_add : Cal P w K mg base "add" 2 ["a", "b"] [] (spF K (tbs K) p_add 2)) (C_compare : Cal P w K mg base "compare" 2 ["a", "b"] [] (spF K (tbs K) p_compare 2)) : FnOk P w K mg base (L2.CX P w) 3 f fd ["costs"] (spF K (tbs K) p__cost_less_together 1) := F.ok sc__cost_less_together (fun vs H Q E h => h.1) (fun cdv A outer s H vs Q E hr h => def_body (z := ⟨K, tbs K, none, fun cls d _ H => E cls d H⟩) (fb := b__cost_less_together) (pu_scons (pu_sfor (tgt := (.tp [(.nm 1), (.nm 2)])) PassesOwn.leaving rfl (pu_iEn rfl (by rfl) T.n_enumerate (pe_pv 0)) (pg_tup rfl (pgs_cons (pg_name (i := 1) sc__cost_less_together.nd rfl (Or.inl rfl)) (pgs_cons (pg_name (i := 2) sc__cost_less_together.nd rfl (Or.inl rfl)) pgs_nil))) (pu_sone (pu_sfor (tgt := (.nm 3)) PassesOwn.leaving rfl (pu_iR1 (by rfl) T.n_range (pe_pv 1)) (pg_name (i := 3) sc__cost_less_together.nd rfl (Or.inl rfl)) (pu_scons (pu_sset (i := 4) sc__cost_less_together.nd rfl (Or.inl rfl) (pu_call (z := _) (ms := [false, false]) rfl C_add (fun _ _ => .nil) rfl rfl hr (by decide) (by rfl) (takes_of rfl rfl rfl rfl) (pu_cons (pu_ix os_ix ix_seq (pe_pv 0) (pu_op os_or op_orA (pe_pv 1) (pe_pv 3)) (fun _ _ => rfl)) (pu_cons (pu_ix os_ix ix_seq (pe_pv 0) (pu_op os_and op_andA (pe_pv 1) (pe_pv 3)) (fun _ _ => rfl)) pu_nil))))
 (pu_sone (pu_sif (pu_tcmp os_gt op_gt (pu_call (z := _) (ms := [false, false]) rfl C_compare (fun _ _ => .nil) rfl rfl hr (by decide) (by rfl) (takes_of rfl rfl rfl rfl) (pu_cons (pe_pv 4) (pu_cons (pu_call (z := _) (ms := [false, false]) rfl C_add (fun _ _ => .nil) rfl rfl hr (by decide) (by rfl) (takes_of rfl rfl rfl rfl) (pu_cons (pe_pv 2) (pu_cons (pu_ix os_ix ix_seq (pe_pv 0) (pe_pv 3) (fun _ _ => rfl)) pu_nil))) pu_nil))) pu_int (nomark _)) (pu_sone (pu_sret pu_bl)) pu_snil))))))
 (pu_sone (pu_sret pu_bl))) rfl rfl h rfl)
theorem ok__are_costs {f : Addr} {fd : FuncData} (T : Tx K mg) (F : FunD K "_are_costs" "_are_costs" (defArgs s__are_costs) (defBody s__are_costs) (defScope s__are_costs) [] [] f fd) (C__ascend : Cal P w K mg base "_ascend" 4 ["costs", "agents"] [] (spF K (tbs K) p__ascend 2)) (C__cost_less_together : Cal P w K mg base "_cost_less_together" 3 ["costs"] [] (spF K (tbs K) p__cost_less_together 1)) : FnOk P w K mg base (L2.CX P w) 5 f fd ["costs", "agents"] (spF K (tbs K) p__are_costs 2) := F.ok sc__are_costs (fun vs H Q E h => h.1) (fun cdv A outer s H vs Q E hr h => def_body (z := ⟨K, tbs K, none, fun cls d _ H => E cls d H⟩) (fb := b__are_costs) (pu_scons (pu_sif (pu_wor (pu_tcmp os_ne (op_neA hr.units) (pu_B1 us_len cl_lenA (by rfl) T.n_len bb_len (pe_pv 0)) (pu_op os_shl op_shl pu_int (pe_pv 1)) (nomark _)) (pu_wor1 (pu_tcmp os_ne (op_neA hr.units) (pu_ix os_ix ix_seq (pe_pv 0) pu_int (fun _ _ => rfl)) (pu_tup (pu_cons pu_int (pu_cons pu_int pu_nil))) (nomark _)))).pt (pu_sone (pu_sret pu_bl)) pu_snil)
 (pu_sone (pu_sret (pu_and rfl (pu_call (z := _) (ms := [false, false]) rfl C__ascend (fun _ _ => .nil) rfl rfl hr (by decide) (by rfl) (takes_of rfl rfl rfl rfl) (pu_cons (pe_pv 0) (pu_cons (pe_pv 1) pu_nil))) (pu_one (pu_call (z := _) (ms := [false]) rfl C__cost_less_together (fun _ _ => .nil) rfl rfl hr (by decide) (by rfl) (takes_of rfl rfl rfl rfl) (pu_cons (pe_pv 0) pu_nil))))))) rfl rfl h rfl)
theorem ok__group {f : Addr} {fd : FuncData} (T : Tx K mg) (F : FunD K "_group" "_group" (defArgs s__group) (defBody s__group) (defScope s__group) [] [] f fd) : FnOk P w K mg base (L2.CX P w) 1 f fd ["agents"] (spF K (tbs K) p__group 1) := F.ok sc__group (fun vs H Q E h => h.1) (fun cdv A outer s H vs Q E hr h => def_body (z := ⟨K, tbs K, none, fun cls d _ H => E cls d H⟩) (fb := b__group) (pu_sone (pu_sret (pu_B1 us_sum (cr_sum rfl) (by rfl) T.n_sum bb_sum (pu_lc (own := [("agent", 1)]) (tgt := (.nm 1)) rfl sc__group.nd  (pu_iE rfl (pe_pv 0)) (blkOk_by (N := N__group) (sc := defScope s__group) (by decide +kernel)) (fun _ _ _ _ _ => (pg_name (i := 1) sc__group.nd rfl (by first | exact Or.inl rfl | exact Or.inr rfl))) (fun _ _ _ _ _ => pts_ret) (fun _ _ _ _ _ => (pu_op os_shl op_shl pu_int (pe_pv 1))) (by decide))))) rfl rfl h rfl)
theorem ok__members {f : Addr} {fd : FuncData} (T : Tx K mg) (F : FunD K "_members" "_members" (defArgs s__members) (defBody s__members) (defScope s__members) [] [] f fd) : FnOk P w K mg base (L2.CX P w) 1 f fd ["group"] (spF K (tbs K) p__members 1) := F.ok sc__members (fun vs H Q E h => h.1) (fun cdv A outer s H vs Q E hr h => def_body (z := ⟨K, tbs K, none, fun cls d _ H => E cls d H⟩) (fb := b__members) (pu_sone (pu_sret (pu_lc (own := [("agent", 1)]) (tgt := (.nm 1)) rfl sc__members.nd  (pu_iR1 (by rfl) T.n_range (pu_glob (v := .int 6) (fun _ => .int _) (by rfl) T.c__MOST_AGENTS.choose_spec ⟨_, rfl⟩)) (blkOk_by (N := N__members) (sc := defScope s__members) (by decide +kernel)) (fun _ _ _ _ _ => (pg_name (i := 1) sc__members.nd rfl (by first | exact Or.inl rfl | exact Or.inr rfl))) (fun _ _ _ _ _ => (pts_one (pu_tcmp os_eq (op_eqA hr.units) (pu_op os_and op_andA (pu_op os_shr op_shr (pe_pv 0) (pe_pv 1)) pu_int) pu_int (nomark _)))) (fun _ _ _ _ _ => (pe_pv 1)) (by decide)))) rfl rfl h rfl)
theorem ok_multiply {f : Addr} {fd : FuncData} (T : Tx K mg) (F : FunD K "multiply" "multiply" (defArgs s_multiply) (defBody s_multiply) (defScope s_multiply) [] [] f fd) (C_make : Cal P w K mg base "make" 1 ["p", "q"] [] (spF K (tbs K) p_make 2)) : FnOk P w K mg base (L2.CX P w) 2 f fd ["a", "b"] (spF K (tbs K) p_multiply 2) := F.ok sc_multiply (fun vs H Q E h => h.1) (fun cdv A outer s H vs Q E hr h => def_body (z := ⟨K, tbs K, none, fun cls d _ H => E cls d H⟩) (fb := b_multiply) (pu_sone (pu_sret (pu_call (z := _) (ms := [false, false]) rfl C_make (fun _ _ => .nil) rfl rfl hr (by decide) (by rfl) (takes_of rfl rfl rfl rfl) (pu_cons (pu_op os_mul op_mulA (pu_ix os_ix ix_seq (pe_pv 0) pu_int (fun _ _ => rfl)) (pu_ix os_ix ix_seq (pe_pv 1) pu_int (fun _ _ => rfl))) (pu_cons (pu_op os_mul op_mulA (pu_ix os_ix ix_seq (pe_pv 0) pu_int (fun _ _ => rfl)) (pu_ix os_ix ix_seq (pe_pv 1) pu_int (fun _ _ => rfl))) pu_nil))))) rfl rfl h rfl)
theorem ok_subtract {f : Addr} {fd : FuncData} (T : Tx K mg) (F : FunD K "subtract" "subtract" (defArgs s_subtract) (defBody s_subtract) (defScope s_subtract) [] [] f fd) (C_make : Cal P w K mg base "make" 1 ["p", "q"] [] (spF K (tbs K) p_make 2)) : FnOk P w K mg base (L2.CX P w) 2 f fd ["a", "b"] (spF K (tbs K) p_subtract 2) := F.ok sc_subtract (fun vs H Q E h => h.1) (fun cdv A outer s H vs Q E hr h => def_body (z := ⟨K, tbs K, none, fun cls d _ H => E cls d H⟩) (fb := b_subtract) (pu_sone (pu_sret (pu_call (z := _) (ms := [false, false]) rfl C_make (fun _ _ => .nil) rfl rfl hr (by decide) (by rfl) (takes_of rfl rfl rfl rfl) (pu_cons (pu_op os_sub op_sub (pu_op os_mul op_mulA (pu_ix os_ix ix_seq (pe_pv 0) pu_int (fun _ _ => rfl)) (pu_ix os_ix ix_seq (pe_pv 1) pu_int (fun _ _ => rfl))) (pu_op os_mul op_mulA (pu_ix os_ix ix_seq (pe_pv 1) pu_int (fun _ _ => rfl)) (pu_ix os_ix ix_seq (pe_pv 0) pu_int (fun _ _ => rfl)))) (pu_cons (pu_op os_mul op_mulA (pu_ix os_ix ix_seq (pe_pv 0) pu_int (fun _ _ => rfl)) (pu_ix os_ix ix_seq (pe_pv 1) pu_int (fun _ _ => rfl))) pu_nil))))) rfl rfl h rfl)
theorem ok__share {f : Addr} {fd : FuncData} (T : Tx K mg) (F : FunD K "_share" "_share" (defArgs s__share) (defBody s__share) (defScope s__share) [] [] f fd) (C__members : Cal P w K mg base "_members" 1 ["group"] [] (spF K (tbs K) p__members 1)) (C_add : Cal P w K mg base "add" 2 ["a", "b"] [] (spF K (tbs K) p_add 2)) (C_make : Cal P w K mg base "make" 1 ["p", "q"] [] (spF K (tbs K) p_make 2)) (C_multiply : Cal P w K mg base "multiply" 2 ["a", "b"] [] (spF K (tbs K) p_multiply 2)) (C_subtract : Cal P w K mg base "subtract" 2 ["a", "b"] [] (spF K (tbs K) p_subtract 2)) : FnOk P w K mg base (L2.CX P w) 3 f fd ["costs", "group", "agent"] (spF K (tbs K) p__share 3) := F.ok sc__share (fun vs H Q E h => h.1) (fun cdv A outer s H vs Q E hr h => def_body (z := ⟨K, tbs K, none, fun cls d _ H => E cls d H⟩) (fb := b__share) (pu_scons (pu_sset (i := 3) sc__share.nd rfl (Or.inl rfl) (pu_B1 us_len cl_lenA (by rfl) T.n_len bb_len (pu_call (z := _) (ms := [false]) rfl C__members (fun _ _ => .nil) rfl rfl hr (by decide) (by rfl) (takes_of rfl rfl rfl rfl) (pu_cons (pe_pv 1) pu_nil))))
 (pu_scons (pu_sset (i := 4) sc__share.nd rfl (Or.inl rfl) (pu_tup (pu_cons pu_int (pu_cons pu_int pu_nil))))
 (pu_scons (pu_sfor (tgt := (.nm 5)) PassesOwn.leaving rfl (pu_iR1 (by rfl) T.n_range (pu_B1 us_len cl_lenA (by rfl) T.n_len bb_len (pe_pv 0))) (pg_name (i := 5) sc__share.nd rfl (Or.inl rfl)) (pu_sone (pu_sif (pu_wand (pu_tcmp os_eq (op_eqA hr.units) (pu_op os_or op_orA (pe_pv 5) (pe_pv 1)) (pe_pv 1) (nomark _)) (pu_wand1 (pu_tcmp os_eq (op_eqA hr.units) (pu_op os_and op_andA (pu_op os_shr op_shr (pe_pv 5) (pe_pv 2)) pu_int) pu_int (nomark _)))).pt (pu_scons (pu_sset (i := 6) sc__share.nd rfl (Or.inl rfl) (pu_call (z := _) (ms := [false, false]) rfl C_subtract (fun _ _ => .nil) rfl rfl hr (by decide) (by rfl) (takes_of rfl rfl rfl rfl) (pu_cons (pu_ix os_ix ix_seq (pe_pv 0) (pu_op os_or op_orA (pe_pv 5) (pu_op os_shl op_shl pu_int (pe_pv 2))) (fun _ _ => rfl)) (pu_cons (pu_ix os_ix ix_seq (pe_pv 0) (pe_pv 5) (fun _ _ => rfl)) pu_nil))))
 (pu_scons (pu_sset (i := 7) sc__share.nd rfl (Or.inl rfl) (pu_B1 us_len cl_lenA (by rfl) T.n_len bb_len (pu_call (z := _) (ms := [false]) rfl C__members (fun _ _ => .nil) rfl rfl hr (by decide) (by rfl) (takes_of rfl rfl rfl rfl) (pu_cons (pe_pv 5) pu_nil))))
 (pu_scons (pu_sset (i := 8) sc__share.nd rfl (Or.inl rfl) (pu_op os_mul op_mulA (pu_fac T.g_factorial (by rfl) (pe_pv 7)) (pu_fac T.g_factorial (by rfl) (pu_op os_sub op_sub (pu_op os_sub op_sub (pe_pv 3) (pe_pv 7)) pu_int))))
 (pu_sone (pu_sset (i := 4) sc__share.nd rfl (Or.inl rfl) (pu_call (z := _) (ms := [false, false]) rfl C_add (fun _ _ => .nil) rfl rfl hr (by decide) (by rfl) (takes_of rfl rfl rfl rfl) (pu_cons (pe_pv 4) (pu_cons (pu_call (z := _) (ms := [false, false]) rfl C_multiply (fun _ _ => .nil) rfl rfl hr (by decide) (by rfl) (takes_of rfl rfl rfl rfl) (pu_cons (pe_pv 6) (pu_cons (pu_call (z := _) (ms := [false, false]) rfl C_make (fun _ _ => .nil) rfl rfl hr (by decide) (by rfl) (takes_of rfl rfl rfl rfl) (pu_cons (pe_pv 8) (pu_cons (pu_fac T.g_factorial (by rfl) (pe_pv 3)) pu_nil))) pu_nil))) pu_nil)))))))) pu_snil)))
 (pu_sone (pu_sret (pe_pv 4)))))) rfl rfl h rfl)
theorem ok__staying {f : Addr} {fd : FuncData} (T : Tx K mg) (F : FunD K "_staying" "_staying" (defArgs s__staying) (defBody s__staying) (defScope s__staying) [] [] f fd) (C__group : Cal P w K mg base "_group" 1 ["agents"] [] (spF K (tbs K) p__group 1)) (C__share : Cal P w K mg base "_share" 3 ["costs", "group", "agent"] [] (spF K (tbs K) p__share 3)) (C_compare : Cal P w K mg base "compare" 2 ["a", "b"] [] (spF K (tbs K) p_compare 2)) : FnOk P w K mg base (L2.CX P w) 4 f fd ["costs", "bids", "served"] (spF K (tbs K) p__staying 3) := F.ok sc__staying (fun vs H Q E h => h.1) (fun cdv A outer s H vs Q E hr h => def_body (z := ⟨K, tbs K, none, fun cls d _ H => E cls d H⟩) (fb := b__staying) (pu_scons (pu_sset (i := 3) sc__staying.nd rfl (Or.inr rfl) (pu_call (z := _) (ms := [false]) rfl C__group (fun _ _ => .nil) rfl rfl hr (by decide) (by rfl) (takes_of rfl rfl rfl rfl) (pu_cons (pe_pv 2) pu_nil)))
 (pu_sone (pu_sret (pu_lc (own := [("agent", 4)]) (tgt := (.nm 4)) rfl sc__staying.nd  (pu_iE rfl (pe_pv 2)) (blkOk_by (N := N__staying) (sc := defScope s__staying) (by decide +kernel)) (fun _ _ _ _ _ => (pg_name (i := 4) sc__staying.nd rfl (by first | exact Or.inl rfl | exact Or.inr rfl))) (fun _ _ _ _ _ => (pts_one (pu_tcmp os_ge op_ge (pu_call (z := _) (ms := [false, false]) rfl C_compare (fun _ _ => .nil) rfl rfl hr (by decide) (by rfl) takes0 (pu_cons (pu_ix os_ix ix_seq (pe_pv 1) (pe_pv 4) (fun _ _ => rfl)) (pu_cons (pu_call (z := _) (ms := [false, false, false]) rfl C__share (fun _ _ => .nil) rfl rfl hr (by decide) (by rfl) takes0 (pu_cons (pe_pv 0) (pu_cons (pe_pv 3) (pu_cons (pe_pv 4) pu_nil)))) pu_nil))) pu_int (nomark _)))) (fun _ _ _ _ _ => (pe_pv 4)) (by decide))))) rfl rfl h rfl)
theorem ok_TooLarge___init__ {f : Addr} {fd : FuncData} {file : Str} (T : Tx K mg) (F : UbS.FunS K (He.ga K "TooLarge") file "__init__" "TooLarge.__init__" (defArgs s_TooLarge___init__) (defBody s_TooLarge___init__) (defScope s_TooLarge___init__) f fd) (B : UbS.SupC K (He.ga K "TooLarge")) (hfile : (P.main.file == file) = true) (htop : (P.main.scope.names.lookup ("super" : Str)).isSome = false) : FnOk P w K mg base (L2.CX P w) 1 f fd ["self", "limit"] (UbC.spEI (He.ga K "TooLarge") (UbC.fl1 "limit") UbC.okT) := by
  refine UbS.FunS.ok F B T.x_TooLarge.oex T.n_super hfile htop sc_TooLarge___init__ (by rfl) (by rfl) (by rfl) (by rfl) (fun _ _ _ => rfl) (fun _ _ _ => rfl) (fun _ _ _ => rfl) (fun _ _ _ => rfl) (fun vs H Q E h => ?_) (fun cc cda A outer s H vs Q E hr h => ?_)
  · obtain ⟨_, _, rfl, h, _⟩ := h
    obtain ⟨_, rfl, _⟩ := h
    rfl
  · obtain ⟨a, us, rfl, ⟨y, rfl, hy⟩, ha, q⟩ := h
    refine ⟨_, _, a, _, rfl, ha, (pa_cons (pe_joined (PJ.cons pe_str (PJ.cons (pe_fmt (pv 1)) PJ.nil))) pa_nil), (pss_one (ps_ost (pv 0) (pv 1))), ?_⟩
    dsimp only [N_TooLarge___init__]
    walk_at "un"
    dsimp only [NdefX.startF, tOst, tCons, tVar, tC, tNil, tFmt, tJs, List.map_cons, List.map_nil, List.length_cons, List.length_nil, List.replicate, List.cons_append, List.nil_append, List.append_nil, List.getElem?_cons_zero, List.getElem?_cons_succ]
    walk_at "go"
    refine ⟨UbC.flen0 (by decide +kernel), _, rfl, .inl ⟨y, rfl, by rw [sizeLine_eq]; omega, y, rfl, UbC.flen (by decide +kernel) hy, Nat.le_of_ble_eq_true rfl, ha, .str y, rfl, .ref a, rfl, a, _, rfl, T.x_TooLarge.oex, T.na_TooLarge_limit, .inl ⟨ha, fun d nd hd => q d nd hd⟩⟩⟩
theorem ok_check_size {f : Addr} {fd : FuncData} (T : Tx K mg) (F : FunD K "check_size" "check_size" (defArgs s_check_size) (defBody s_check_size) (defScope s_check_size) [] [] f fd) (hf : f = He.fAd K (("check_size", none) : He.Defn)) (TB : GxR.TabB base mg (He.cT K (("check_size", none) : He.Defn)).1 (He.cT K (("check_size", none) : He.Defn)).2) (X_TooLarge : UbC.CalX P w K mg base "TooLarge" 1 (UbC.spEI (He.ga K "TooLarge") (UbC.fl1 "limit") UbC.okT)) : FnOk P w K mg base (L2.CX P w) 3 f fd ["sizes", "most"] (spF K (tbs K) p_check_size 2) := UbG.FunD.okT F hf sc_check_size (fun vs H Q E h => h.1) (fun A outer s H vs Q E hr h => def_body (z := ⟨K, tbs K, none, fun cls d _ H => E cls d H⟩) (fb := b_check_size) (pu_sone (pu_sif (pu_truth rfl (pu_any (c := (He.cT K (("check_size", none) : He.Defn)).1) (P := (He.cT K (("check_size", none) : He.Defn)).2) (k := 1) (own := [("size", 2)]) (tg := (.nm 2)) (by show _ ∈ tbs K; unfold tbs tf0; simp) hr sc_check_size.nd (by rfl) T.n_any TB rfl (UbG.gexOk_by (N := N_check_size) (sc := defScope s_check_size) (by decide +kernel)) (pu_iE rfl (pe_pv 0)) (fun _ _ _ _ _ _ _ hrG => ⟨(pg_name (i := 2) sc_check_size.nd rfl (by first | exact Or.inl rfl | exact Or.inr rfl)), (pu_cmp os_gt op_gt (pe_pv 2) (pe_pv 1) (nomark _))⟩) (by decide))) (pu_sone (pu_sraise (fs := ["limit"]) (okd := okT) rfl rfl (takes_of rfl rfl rfl rfl) X_TooLarge hr (by decide) (by rfl) hok_okT (pu_cons pu_str pu_nil))) pu_snil)) rfl rfl h rfl)
theorem ok_charge {f : Addr} {fd : FuncData} (T : Tx K mg) (F : FunD K "charge" "charge" (defArgs s_charge) (defBody s_charge) (defScope s_charge) [] [] f fd) (C__are_costs : Cal P w K mg base "_are_costs" 5 ["costs", "agents"] [] (spF K (tbs K) p__are_costs 2)) (C__group : Cal P w K mg base "_group" 1 ["agents"] [] (spF K (tbs K) p__group 1)) (C__share : Cal P w K mg base "_share" 3 ["costs", "group", "agent"] [] (spF K (tbs K) p__share 3)) (C__staying : Cal P w K mg base "_staying" 4 ["costs", "bids", "served"] [] (spF K (tbs K) p__staying 3)) (C_check_size : Cal P w K mg base "check_size" 3 ["sizes", "most"] [] (spF K (tbs K) p_check_size 2)) : FnOk P w K mg base (L2.CX P w) 6 f fd ["costs", "bids"] (spF K (tbs K) p_charge 2) := F.ok sc_charge (fun vs H Q E h => h.1) (fun cdv A outer s H vs Q E hr h => def_body (z := ⟨K, tbs K, none, fun cls d _ H => E cls d H⟩) (fb := b_charge) (pu_scons (pu_sex (pu_call (z := _) (ms := [false, false]) rfl C_check_size (fun _ _ => .nil) rfl rfl hr (by decide) (by rfl) (takes_of rfl rfl rfl rfl) (pu_cons (pu_lst (pu_cons (pu_B1 us_len cl_lenA (by rfl) T.n_len bb_len (pe_pv 1)) pu_nil)) (pu_cons (pu_glob (v := .int 6) (fun _ => .int _) (by rfl) T.c__MOST_AGENTS.choose_spec ⟨_, rfl⟩) pu_nil))))
 (pu_scons (pu_sif (pu_tnot (pu_truth rfl (pu_call (z := _) (ms := [false, false]) rfl C__are_costs (fun _ _ => .nil) rfl rfl hr (by decide) (by rfl) (takes_of rfl rfl rfl rfl) (pu_cons (pe_pv 0) (pu_cons (pu_B1 us_len cl_lenA (by rfl) T.n_len bb_len (pe_pv 1)) pu_nil))))) (pu_sone (pu_sraise0 rfl rfl T.e_InvalidCosts (takes_of rfl rfl rfl rfl) (by rfl))) pu_snil)
 (pu_scons (pu_sset (i := 2) sc_charge.nd rfl (Or.inl rfl) (pu_rg1 rfl (by rfl) T.n_list (by rfl) T.n_range (pu_B1 us_len cl_lenA (by rfl) T.n_len bb_len (pe_pv 1))))
 (pu_scons (pu_sset (i := 3) sc_charge.nd rfl (Or.inl rfl) (pu_call (z := _) (ms := [false, false, false]) rfl C__staying (fun _ _ => .nil) rfl rfl hr (by decide) (by rfl) (takes_of rfl rfl rfl rfl) (pu_cons (pe_pv 0) (pu_cons (pe_pv 1) (pu_cons (pe_pv 2) pu_nil)))))
 (pu_scons (pu_swhile (n := 100000) PassesOwn.leaving (pu_tcmp os_lt op_lt (pu_B1 us_len cl_lenA (by rfl) T.n_len bb_len (pe_pv 3)) (pu_B1 us_len cl_lenA (by rfl) T.n_len bb_len (pe_pv 2)) (nomark _)) (pu_scons (pu_sset (i := 2) sc_charge.nd rfl (Or.inl rfl) (pe_pv 3))
 (pu_sone (pu_sset (i := 3) sc_charge.nd rfl (Or.inl rfl) (pu_call (z := _) (ms := [false, false, false]) rfl C__staying (fun _ _ => .nil) rfl rfl hr (by decide) (by rfl) (takes_of rfl rfl rfl rfl) (pu_cons (pe_pv 0) (pu_cons (pe_pv 1) (pu_cons (pe_pv 2) pu_nil))))))))
 (pu_scons (pu_sown (i := 4) sc_charge.nd rfl (Or.inl rfl) (pu_op os_mul op_mulA (pu_lst (pu_cons (pu_tup (pu_cons pu_int (pu_cons pu_int pu_nil))) pu_nil)) (pu_B1 us_len cl_lenA (by rfl) T.n_len bb_len (pe_pv 1))))
 (pu_scons (pu_sfor (tgt := (.nm 5)) PassesOwn.leaving rfl (pu_iE rfl (pe_pv 2)) (pg_name (i := 5) sc_charge.nd rfl (Or.inl rfl)) (pu_sone (pu_sitem (pu_call (z := _) (ms := [false, false, false]) rfl C__share (fun _ _ => .nil) rfl rfl hr (by decide) (by rfl) (takes_of rfl rfl rfl rfl) (pu_cons (pe_pv 0) (pu_cons (pu_call (z := _) (ms := [false]) rfl C__group (fun _ _ => .nil) rfl rfl hr (by decide) (by rfl) (takes_of rfl rfl rfl rfl) (pu_cons (pe_pv 2) pu_nil)) (pu_cons (pe_pv 5) pu_nil)))) (pg_sub (pe_pv 4) (pe_pv 5) set_list))))
 (pu_frz (pu_sone (pu_sret (pu_tup (pu_cons (pe_pv 2) (pu_cons (pe_pv 4) pu_nil))))))))))))) rfl rfl h rfl)
theorem ok_InvalidWishes___init__ {f : Addr} {fd : FuncData} {file : Str} (T : Tx K mg) (F : UbS.FunS K (He.ga K "InvalidWishes") file "__init__" "InvalidWishes.__init__" (defArgs s_InvalidWishes___init__) (defBody s_InvalidWishes___init__) (defScope s_InvalidWishes___init__) f fd) (B : UbS.SupC K (He.ga K "InvalidWishes")) (hfile : (P.main.file == file) = true) (htop : (P.main.scope.names.lookup ("super" : Str)).isSome = false) : FnOk P w K mg base (L2.CX P w) 1 f fd ["self", "reason"] (UbC.spEI (He.ga K "InvalidWishes") (UbC.fl1 "reason") UbC.okT) := by
  refine UbS.FunS.ok F B T.x_InvalidWishes.oex T.n_super hfile htop sc_InvalidWishes___init__ (by rfl) (by rfl) (by rfl) (by rfl) (fun _ _ _ => rfl) (fun _ _ _ => rfl) (fun _ _ _ => rfl) (fun _ _ _ => rfl) (fun vs H Q E h => ?_) (fun cc cda A outer s H vs Q E hr h => ?_)
  · obtain ⟨_, _, rfl, h, _⟩ := h
    obtain ⟨_, rfl, _⟩ := h
    rfl
  · obtain ⟨a, us, rfl, ⟨y, rfl, hy⟩, ha, q⟩ := h
    refine ⟨_, _, a, _, rfl, ha, (pa_cons (pe_joined (PJ.cons pe_str (PJ.cons (pe_fmt (pv 1)) PJ.nil))) pa_nil), (pss_one (ps_ost (pv 0) (pv 1))), ?_⟩
    dsimp only [N_InvalidWishes___init__]
    walk_at "un"
    dsimp only [NdefX.startF, tOst, tCons, tVar, tC, tNil, tFmt, tJs, List.map_cons, List.map_nil, List.length_cons, List.length_nil, List.replicate, List.cons_append, List.nil_append, List.append_nil, List.getElem?_cons_zero, List.getElem?_cons_succ]
    walk_at "go"
    refine ⟨UbC.flen0 (by decide +kernel), _, rfl, .inl ⟨y, rfl, by rw [sizeLine_eq]; omega, y, rfl, UbC.flen (by decide +kernel) hy, Nat.le_of_ble_eq_true rfl, ha, .str y, rfl, .ref a, rfl, a, _, rfl, T.x_InvalidWishes.oex, T.na_InvalidWishes_reason, .inl ⟨ha, fun d nd hd => q d nd hd⟩⟩⟩
theorem ok_median {f : Addr} {fd : FuncData} (T : Tx K mg) (F : FunD K "median" "median" (defArgs s_median) (defBody s_median) (defScope s_median) [] [] f fd) (X_InvalidWishes : UbC.CalX P w K mg base "InvalidWishes" 1 (UbC.spEI (He.ga K "InvalidWishes") (UbC.fl1 "reason") UbC.okT)) (C_check_size : Cal P w K mg base "check_size" 3 ["sizes", "most"] [] (spF K (tbs K) p_check_size 2)) : FnOk P w K mg base (L2.CX P w) 4 f fd ["peaks", "phantoms"] (spF K (tbs K) p_median 2) := F.ok sc_median (fun vs H Q E h => h.1) (fun cdv A outer s H vs Q E hr h => def_body (z := ⟨K, tbs K, none, fun cls d _ H => E cls d H⟩) (fb := b_median) (pu_scons (pu_sex (pu_call (z := _) (ms := [false, false]) rfl C_check_size (fun _ _ => .nil) rfl rfl hr (by decide) (by rfl) (takes_of rfl rfl rfl rfl) (pu_cons (pu_lst (pu_cons (pu_B1 us_len cl_lenA (by rfl) T.n_len bb_len (pe_pv 0)) pu_nil)) (pu_cons (pu_glob (v := .int 1000) (fun _ => .int _) (by rfl) T.c__MOST_PEAKS.choose_spec ⟨_, rfl⟩) pu_nil))))
 (pu_scons (pu_sif (pu_wor (pu_tcmp os_eq (op_eqA hr.units) (pu_B1 us_len cl_lenA (by rfl) T.n_len bb_len (pe_pv 0)) pu_int (nomark _)) (pu_wor1 (pu_tcmp os_ne (op_neA hr.units) (pu_B1 us_len cl_lenA (by rfl) T.n_len bb_len (pe_pv 1)) (pu_op os_sub op_sub (pu_B1 us_len cl_lenA (by rfl) T.n_len bb_len (pe_pv 0)) pu_int) (nomark _)))).pt (pu_sone (pu_sraise (fs := ["reason"]) (okd := okT) rfl rfl (takes_of rfl rfl rfl rfl) X_InvalidWishes hr (by decide) (by rfl) hok_okT (pu_cons pu_str pu_nil))) pu_snil)
 (pu_sone (pu_sret (pu_ix os_ix ix_seq (pu_B1 us_sort cr_sortedI (by rfl) T.n_sorted UbP.bb_sorted (pu_op os_add op_addA (pu_Y1 us_list cl_list (by rfl) T.n_list bb_list (pe_pv 0)) (pu_Y1 us_list cl_list (by rfl) T.n_list bb_list (pe_pv 1)))) (pu_op os_sub op_sub (pu_B1 us_len cl_lenA (by rfl) T.n_len bb_len (pe_pv 0)) pu_int) (fun _ _ => rfl)))))) rfl rfl h rfl)
theorem ok__law_refusal {f : Addr} {fd : FuncData} (T : Tx K mg) (F : FunD K "_law_refusal" "_law_refusal" (defArgs s__law_refusal) (defBody s__law_refusal) (defScope s__law_refusal) [] [] f fd) (C_charge : Cal P w K mg base "charge" 6 ["costs", "bids"] [] (spF K (tbs K) p_charge 2)) (C_median : Cal P w K mg base "median" 4 ["peaks", "phantoms"] [] (spF K (tbs K) p_median 2)) : FnOk P w K mg base (L2.CX P w) 7 f fd ["what", "first", "second"] (spF K (tbs K) p__law_refusal 3) := F.ok sc__law_refusal (fun vs H Q E h => h.1) (fun cdv A outer s H vs Q E hr h => def_body (z := ⟨K, tbs K, none, fun cls d _ H => E cls d H⟩) (fb := b__law_refusal) (pu_scons (pu_stry2 (n1 := (some 3)) (n2 := (some 3)) rfl rfl rfl rfl sc__law_refusal.nd (takes_of rfl rfl rfl rfl) (hokc_TooLarge T) (hokc_UnbentError T) (fun W pn xe tk po => (pu_sone (pu_sif (pu_tcmp os_eq (op_eqA hr.units) (pe_pv 0) pu_str (nomark _)) (pu_sone (pu_sex (pu_call (z := _) (ms := [false, false]) rfl C_median (fun _ _ => .nil) rfl rfl hr (by decide) (by rfl) tk (pu_cons (pe_pv 1) (pu_cons (pe_pv 2) pu_nil))))) (pu_sone (pu_sex (pu_call (z := _) (ms := [false, false]) rfl C_charge (fun _ _ => .nil) rfl rfl hr (by decide) (by rfl) tk (pu_cons (pe_pv 1) (pu_cons (pe_pv 2) pu_nil)))))))) (.as ⟨rfl, by decide, .inl T.gc_TooLarge⟩ rfl rfl (fun a oe cls d pn hz hf => (pu_sone (pu_sret (pu_eef (i := 3) rfl hz hf (hlow_limit T))))) (.as ⟨rfl, by decide, .inl T.gc_UnbentError⟩ rfl rfl (fun a oe cls d pn hz hf => (pu_sone (pu_sret (pu_lst (pu_cons (pu_isE (i := 3) (cV := .ref (He.ga K "InvalidWishes")) (cv := .ref (He.ga K "InvalidWishes")) rfl hz hf (hiso_InvalidWishes T) (by rfl) T.n_isinstance (fun _ h => h) (pe_glob (by rfl) T.gc_InvalidWishes rfl)) (pu_cons (pu_isE (i := 3) (cV := .ref (He.ga K "InvalidCosts")) (cv := .ref (He.ga K "InvalidCosts")) rfl hz hf (hiso_InvalidCosts T) (by rfl) T.n_isinstance (fun _ h => h) (pe_glob (by rfl) T.gc_InvalidCosts rfl)) (pu_cons (pu_isE (i := 3) (cV := .ty "ValueError") (cv := .type "ValueError") rfl hz hf (hiso_ValueError T) (by rfl) T.n_isinstance (fun _ h => h) (pe_bltn (v := .ty "ValueError") (by rfl) T.n_ValueError bt_ValueError rfl)) pu_nil))))))) .nil)))
 (pu_sone (pu_sret pu_str))) rfl rfl h rfl)
theorem ok__law_same {f : Addr} {fd : FuncData} (T : Tx K mg) (F : FunD K "_law_same" "_law_same" (defArgs s__law_same) (defBody s__law_same) (defScope s__law_same) [] [] f fd) (m_self : mg "_law_same" = some (.ref f)) : ∀ n : Nat, FnOk P w K mg base (L2.CX P w) (1 + n) f fd ["value", "due"] (spF K (tbs K) (p__law_same n) 2)
  | 0 => ⟨fun vs H Q E h => h.1, fun A outer s H args us vs Q E hr he hb hv h => by obtain ⟨_, _, _, _, _, z⟩ := h; exact z.elim⟩
  | n + 1 =>
    have C__law_same : Cal P w K mg base "_law_same" (1 + n) ["value", "due"] [] (spF K (tbs K) (p__law_same n) 2) := ⟨f, fd, [], ok__law_same T F  m_self n, m_self, F.kp, .nil, F.bindsN fun _ _ _ _ _ _ us hl => match us, hl with | [_, _], _ => rfl⟩
    F.ok sc__law_same (fun vs H Q E h => h.1) (fun cdv A outer s H vs Q E hr h => def_body (z := ⟨K, tbs K, none, fun cls d _ H => E cls d H⟩) (fb := b__law_same (p__law_same n)) (pu_scons (pu_sif (pu_wor (pu_truth rfl (pu_isi rfl isi_tuple (by rfl) T.n_isinstance (by rfl) T.n_tuple bb_tuple (pe_pv 1))) (pu_wor1 (pu_truth rfl (pu_isi rfl isi_list (by rfl) T.n_isinstance (by rfl) T.n_list bb_list (pe_pv 1))))).pt (pu_scons (pu_sif (pu_wor (pu_tcmp os_ne (op_neA hr.units) (pu_isi rfl isi_tuple (by rfl) T.n_isinstance (by rfl) T.n_tuple bb_tuple (pe_pv 1)) (pu_isi rfl isi_tuple (by rfl) T.n_isinstance (by rfl) T.n_tuple bb_tuple (pe_pv 0)) (nomark _)) (pu_wor1 (pu_tcmp os_ne (op_neA hr.units) (pu_isi rfl isi_list (by rfl) T.n_isinstance (by rfl) T.n_list bb_list (pe_pv 1)) (pu_isi rfl isi_list (by rfl) T.n_isinstance (by rfl) T.n_list bb_list (pe_pv 0)) (nomark _)))).pt (pu_sone (pu_sret pu_bl)) pu_snil)
 (pu_scons (pu_sif (pu_tcmp os_ne (op_neA hr.units) (pu_B1 us_len cl_lenA (by rfl) T.n_len bb_len (pe_pv 0)) (pu_B1 us_len cl_lenA (by rfl) T.n_len bb_len (pe_pv 1)) (nomark _)) (pu_sone (pu_sret pu_bl)) pu_snil)
 (pu_scons (pu_sfor (tgt := (.nm 2)) PassesOwn.leaving rfl (pu_iR1 (by rfl) T.n_range (pu_B1 us_len cl_lenA (by rfl) T.n_len bb_len (pe_pv 1))) (pg_name (i := 2) sc__law_same.nd rfl (Or.inl rfl)) (pu_sone (pu_sif (pu_tnot (pu_truth rfl (pu_call (z := _) (ms := [false, false]) rfl C__law_same (fun _ _ => .nil) rfl rfl hr (Nat.le_refl _) (by rfl) (takes_of rfl rfl rfl rfl) (pu_cons (pu_ix os_ix ix_seq (pe_pv 0) (pe_pv 2) (fun _ _ => rfl)) (pu_cons (pu_ix os_ix ix_seq (pe_pv 1) (pe_pv 2) (fun _ _ => rfl)) pu_nil))))) (pu_sone (pu_sret pu_bl)) pu_snil)))
 (pu_sone (pu_sret pu_bl))))) pu_snil)
 (pu_scons (pu_sif (pu_tcmp os_ne (op_neA hr.units) (pu_isi rfl isi_bool (by rfl) T.n_isinstance (by rfl) T.n_bool bb_bool (pe_pv 1)) (pu_isi rfl isi_bool (by rfl) T.n_isinstance (by rfl) T.n_bool bb_bool (pe_pv 0)) (nomark _)) (pu_sone (pu_sret pu_bl)) pu_snil)
 (pu_scons (pu_sif (pu_wor (pu_tcmp os_ne (op_neA hr.units) (pu_isi rfl isi_int (by rfl) T.n_isinstance (by rfl) T.n_int bb_int (pe_pv 1)) (pu_isi rfl isi_int (by rfl) T.n_isinstance (by rfl) T.n_int bb_int (pe_pv 0)) (nomark _)) (pu_wor1 (pu_tcmp os_ne (op_neA hr.units) (pu_isi rfl isi_str (by rfl) T.n_isinstance (by rfl) T.n_str bb_str (pe_pv 1)) (pu_isi rfl isi_str (by rfl) T.n_isinstance (by rfl) T.n_str bb_str (pe_pv 0)) (nomark _)))).pt (pu_sone (pu_sret pu_bl)) pu_snil)
 (pu_sone (pu_sret (pu_cmp os_eq (op_eqA hr.units) (pe_pv 0) (pe_pv 1) (nomark _))))))) rfl rfl h rfl)
theorem ok__law_medians {f : Addr} {fd : FuncData} (T : Tx K mg) (F : FunD K "_law_medians" "_law_medians" (defArgs s__law_medians) (defBody s__law_medians) (defScope s__law_medians) [] [] f fd) (C__law_middle : Cal P w K mg base "_law_middle" 1 ["rows"] [] (spF K (tbs K) p__law_middle 1)) (C__law_peak : Cal P w K mg base "_law_peak" 2 ["draws"] [] (spF K (tbs K) p__law_peak 1)) (C__law_refusal : Cal P w K mg base "_law_refusal" 7 ["what", "first", "second"] [] (spF K (tbs K) p__law_refusal 3)) (C__law_same : Cal P w K mg base "_law_same" 71 ["value", "due"] [] (spF K (tbs K) (p__law_same 70) 2)) (C__law_take : Cal P w K mg base "_law_take" 1 ["draws", "bound"] [] (spF K (tbs K) p__law_take 2)) (C_median : Cal P w K mg base "median" 4 ["peaks", "phantoms"] [] (spF K (tbs K) p_median 2)) : FnOk P w K mg base (L2.CX P w) 72 f fd ["draws"] (spF K (tbs K) p__law_medians 1) := F.ok sc__law_medians (fun vs H Q E h => h.1) (fun cdv A outer s H vs Q E hr h => def_body (z := ⟨K, tbs K, none, fun cls d _ H => E cls d H⟩) (fb := b__law_medians) (pu_scons (pu_setLc (i := 1) (own := [("k", 8)]) (tgt := (.nm 8)) rfl sc__law_medians.nd rfl rfl (sw_true rfl rfl rfl rfl) (pu_iR1 (by rfl) T.n_range (pu_op os_add op_addA pu_int (pu_call (z := _) (ms := [true, false]) rfl C__law_take (fun _ _ => .nil) rfl rfl hr (by decide) (by rfl) (takes_of rfl rfl rfl rfl) (pu_cons (pe_pv 0) (pu_cons pu_int pu_nil))))) (blkOk_by (N := N__law_medians) (sc := defScope s__law_medians) (by decide +kernel)) (fun _ _ _ _ _ => (pg_name (i := 8) sc__law_medians.nd rfl (by first | exact Or.inl rfl | exact Or.inr rfl))) (fun _ _ _ _ _ => pts_ret) (fun _ _ _ _ _ => (pu_call (z := _) (ms := [true]) rfl C__law_peak (fun _ _ => .nil) rfl rfl hr (by decide) (by rfl) takes0 (pu_cons (pe_pv 0) pu_nil))) (by decide))
 (pu_scons (pu_setLc (i := 2) (own := [("k", 8)]) (tgt := (.nm 8)) rfl sc__law_medians.nd rfl rfl (sw_true rfl rfl rfl rfl) (pu_iR1 (by rfl) T.n_range (pu_op os_sub op_sub (pu_B1 us_len cl_lenA (by rfl) T.n_len bb_len (pe_pv 1)) pu_int)) (blkOk_by (N := N__law_medians) (sc := defScope s__law_medians) (by decide +kernel)) (fun _ _ _ _ _ => (pg_name (i := 8) sc__law_medians.nd rfl (by first | exact Or.inl rfl | exact Or.inr rfl))) (fun _ _ _ _ _ => pts_ret) (fun _ _ _ _ _ => (pu_call (z := _) (ms := [true]) rfl C__law_peak (fun _ _ => .nil) rfl rfl hr (by decide) (by rfl) takes0 (pu_cons (pe_pv 0) pu_nil))) (by decide))
 (pu_scons (pu_sset (i := 3) sc__law_medians.nd rfl (Or.inl rfl) (pu_lst (pu_cons (pu_Y1 us_list cl_list (by rfl) T.n_list bb_list (pe_pv 1)) (pu_cons (pu_Y1 us_list cl_list (by rfl) T.n_list bb_list (pe_pv 2)) pu_nil))))
 (pu_scons (pu_sset (i := 4) sc__law_medians.nd rfl (Or.inl rfl) (pu_call (z := _) (ms := [false]) rfl C__law_middle (fun _ _ => .nil) rfl rfl hr (by decide) (by rfl) (takes_of rfl rfl rfl rfl) (pu_cons (pu_op os_add op_addA (pe_pv 1) (pe_pv 2)) pu_nil)))
 (pu_scons (pu_sif (pu_wor (pu_tnot (pu_truth rfl (pu_call (z := _) (ms := [false, false]) rfl C__law_same (fun _ _ => .nil) rfl rfl hr (by decide) (by rfl) (takes_of rfl rfl rfl rfl) (pu_cons (pu_call (z := _) (ms := [false, false]) rfl C_median (fun _ _ => .nil) rfl rfl hr (by decide) (by rfl) (takes_of rfl rfl rfl rfl) (pu_cons (pu_ix os_ix ix_seq (pe_pv 3) pu_int (fun _ _ => rfl)) (pu_cons (pu_ix os_ix ix_seq (pe_pv 3) pu_int (fun _ _ => rfl)) pu_nil))) (pu_cons (pe_pv 4) pu_nil))))) (pu_wor1 (pu_tnot (pu_truth rfl (pu_call (z := _) (ms := [false, false]) rfl C__law_same (fun _ _ => .nil) rfl rfl hr (by decide) (by rfl) (takes_of rfl rfl rfl rfl) (pu_cons (pe_pv 3) (pu_cons (pu_lst (pu_cons (pe_pv 1) (pu_cons (pe_pv 2) pu_nil))) pu_nil))))))).pt (pu_sone (pu_sret pu_bl)) pu_snil)
 (pu_scons (pu_sset (i := 5) sc__law_medians.nd rfl (Or.inl rfl) (pu_call (z := _) (ms := [true, false]) rfl C__law_take (fun _ _ => .nil) rfl rfl hr (by decide) (by rfl) (takes_of rfl rfl rfl rfl) (pu_cons (pe_pv 0) (pu_cons (pu_B1 us_len cl_lenA (by rfl) T.n_len bb_len (pe_pv 1)) pu_nil))))
 (pu_scons (pu_sset (i := 6) sc__law_medians.nd rfl (Or.inl rfl) (pu_call (z := _) (ms := [false, false]) rfl C_median (fun _ _ => .nil) rfl rfl hr (by decide) (by rfl) (takes_of rfl rfl rfl rfl) (pu_cons (pu_op os_add op_addA (pu_op os_add op_addA (pu_slice rfl (pe_pv 1) pu_pn (pu_ps (pe_pv 5))) (pu_lst (pu_cons (pu_call (z := _) (ms := [true]) rfl C__law_peak (fun _ _ => .nil) rfl rfl hr (by decide) (by rfl) (takes_of rfl rfl rfl rfl) (pu_cons (pe_pv 0) pu_nil)) pu_nil))) (pu_slice rfl (pe_pv 1) (pu_ps (pu_op os_add op_addA (pe_pv 5) pu_int)) pu_pn)) (pu_cons (pu_Y1 us_list cl_list (by rfl) T.n_list bb_list (pe_pv 2)) pu_nil))))
 (pu_scons (pu_sif (pu_wand (pu_tnot (pu_tchain os_le os_le op_le op_le (pu_ix os_ix ix_seq (pe_pv 1) (pe_pv 5) (fun _ _ => rfl)) (pe_pv 4) (pe_pv 6))) (pu_wand1 (pu_tnot (pu_tchain os_le os_le op_le op_le (pe_pv 6) (pe_pv 4) (pu_ix os_ix ix_seq (pe_pv 1) (pe_pv 5) (fun _ _ => rfl)))))).pt (pu_sone (pu_sret pu_bl)) pu_snil)
 (pu_scons (pu_sset (i := 7) sc__law_medians.nd rfl (Or.inl rfl) (pu_lst (pu_cons pu_bl (pu_cons pu_bl (pu_cons pu_bl pu_nil)))))
 (pu_scons (pu_sif (pu_wor (pu_tcmp os_ne (op_neA hr.units) (pu_call (z := _) (ms := [false, false, false]) rfl C__law_refusal (fun _ _ => .nil) rfl rfl hr (by decide) (by rfl) (takes_of rfl rfl rfl rfl) (pu_cons pu_str (pu_cons (pe_pv 1) (pu_cons (pu_op os_add op_addA (pe_pv 2) (pu_lst (pu_cons pu_int pu_nil))) pu_nil)))) (pe_pv 7) (nomark _)) (pu_wor1 (pu_tcmp os_ne (op_neA hr.units) (pu_call (z := _) (ms := [false, false, false]) rfl C__law_refusal (fun _ _ => .nil) rfl rfl hr (by decide) (by rfl) (takes_of rfl rfl rfl rfl) (pu_cons pu_str (pu_cons (pu_lst pu_nil) (pu_cons (pu_lst pu_nil) pu_nil)))) (pe_pv 7) (nomark _)))).pt (pu_sone (pu_sret pu_bl)) pu_snil)
 (pu_sone (pu_sret (pu_cmp os_eq (op_eqA hr.units) (pu_call (z := _) (ms := [false, false, false]) rfl C__law_refusal (fun _ _ => .nil) rfl rfl hr (by decide) (by rfl) (takes_of rfl rfl rfl rfl) (pu_cons pu_str (pu_cons (pu_lc (own := [("k", 8)]) (tgt := (.nm 8)) rfl sc__law_medians.nd  (pu_iR1 (by rfl) T.n_range pu_int) (blkOk_by (N := N__law_medians) (sc := defScope s__law_medians) (by decide +kernel)) (fun _ _ _ _ _ => (pg_name (i := 8) sc__law_medians.nd rfl (by first | exact Or.inl rfl | exact Or.inr rfl))) (fun _ _ _ _ _ => pts_ret) (fun _ _ _ _ _ => pu_int) (by decide)) (pu_cons (pu_lst pu_nil) pu_nil)))) pu_str (nomark _)))))))))))))) rfl rfl h rfl)
theorem ok_share {f : Addr} {fd : FuncData} (T : Tx K mg) (F : FunD K "share" "share" (defArgs s_share) (defBody s_share) (defScope s_share) [] [] f fd) (C__share : Cal P w K mg base "_share" 3 ["costs", "group", "agent"] [] (spF K (tbs K) p__share 3)) (C_check_size : Cal P w K mg base "check_size" 3 ["sizes", "most"] [] (spF K (tbs K) p_check_size 2)) : FnOk P w K mg base (L2.CX P w) 4 f fd ["costs", "group", "agent"] (spF K (tbs K) p_share 3) := F.ok sc_share (fun vs H Q E h => h.1) (fun cdv A outer s H vs Q E hr h => def_body (z := ⟨K, tbs K, none, fun cls d _ H => E cls d H⟩) (fb := b_share) (pu_scons (pu_sex (pu_call (z := _) (ms := [false, false]) rfl C_check_size (fun _ _ => .nil) rfl rfl hr (by decide) (by rfl) (takes_of rfl rfl rfl rfl) (pu_cons (pu_lst (pu_cons (pu_B1 us_len cl_lenA (by rfl) T.n_len bb_len (pe_pv 0)) pu_nil)) (pu_cons (pu_op os_shl op_shl pu_int (pu_glob (v := .int 6) (fun _ => .int _) (by rfl) T.c__MOST_AGENTS.choose_spec ⟨_, rfl⟩)) pu_nil))))
 (pu_sone (pu_sret (pu_call (z := _) (ms := [false, false, false]) rfl C__share (fun _ _ => .nil) rfl rfl hr (by decide) (by rfl) (takes_of rfl rfl rfl rfl) (pu_cons (pe_pv 0) (pu_cons (pe_pv 1) (pu_cons (pe_pv 2) pu_nil))))))) rfl rfl h rfl)
theorem ok_law {f : Addr} {fd : FuncData} (T : Tx K mg) (F : FunD K "law" "law" (defArgs s_law) (defBody s_law) (defScope s_law) [] [] f fd) (C__law_add : Cal P w K mg base "_law_add" 2 ["a", "b"] [] (spF K (tbs K) p__law_add 2)) (C__law_charge : Cal P w K mg base "_law_charge" 73 ["costs", "bids"] [] (spF K (tbs K) p__law_charge 2)) (C__law_costs : Cal P w K mg base "_law_costs" 3 ["draws", "count"] [] (spF K (tbs K) p__law_costs 2)) (C__law_draws : Cal P w K mg base "_law_draws" 1 ["script"] [] (spF K (tbs K) p__law_draws 1)) (C__law_fraction : Cal P w K mg base "_law_fraction" 2 ["draws", "least"] [] (spF K (tbs K) p__law_fraction 2)) (C__law_less : Cal P w K mg base "_law_less" 1 ["a", "b"] [] (spF K (tbs K) p__law_less 2)) (C__law_make : Cal P w K mg base "_law_make" 1 ["p", "q"] [] (spF K (tbs K) p__law_make 2)) (C__law_medians : Cal P w K mg base "_law_medians" 72 ["draws"] [] (spF K (tbs K) p__law_medians 1)) (C__law_minus : Cal P w K mg base "_law_minus" 2 ["a", "b"] [] (spF K (tbs K) p__law_minus 2)) (C__law_refusal : Cal P w K mg base "_law_refusal" 7 ["what", "first", "second"] [] (spF K (tbs K) p__law_refusal 3)) (C__law_same : Cal P w K mg base "_law_same" 71 ["value", "due"] [] (spF K (tbs K) (p__law_same 70) 2)) (C__law_share : Cal P w K mg base "_law_share" 72 ["costs", "members", "agent"] [] (spF K (tbs K) p__law_share 3)) (C__law_take : Cal P w K mg base "_law_take" 1 ["draws", "bound"] [] (spF K (tbs K) p__law_take 2)) (C__law_times : Cal P w K mg base "_law_times" 2 ["a", "b"] [] (spF K (tbs K) p__law_times 2)) (C_charge : Cal P w K mg base "charge" 6 ["costs", "bids"] [] (spF K (tbs K) p_charge 2)) (C_share : Cal P w K mg base "share" 4 ["costs", "group", "agent"] [] (spF K (tbs K) p_share 3)) : FnOk P w K mg base (L2.CX P w) 74 f fd ["script"] (spF K (tbs K) p_law 1) := F.ok sc_law (fun vs H Q E h => h.1) (fun cdv A outer s H vs Q E hr h => def_body (z := ⟨K, tbs K, none, fun cls d _ H => E cls d H⟩) (fb := b_law) (pu_scons (pu_sown (i := 1) sc_law.nd rfl (Or.inr rfl) (pu_call (z := _) (ms := [false]) rfl C__law_draws (fun _ _ => .nil) rfl rfl hr (by decide) (by rfl) (takes_of rfl rfl rfl rfl) (pu_cons (pe_pv 0) pu_nil)))
 (pu_scons (pu_sif (pu_tnot (pu_truth rfl (pu_call (z := _) (ms := [true]) rfl C__law_medians (fun _ _ => .nil) rfl rfl hr (by decide) (by rfl) (takes_of rfl rfl rfl rfl) (pu_cons (pe_pv 1) pu_nil)))) (pu_sone (pu_sret pu_bl)) pu_snil)
 (pu_scons (pu_sset (i := 2) sc_law.nd rfl (Or.inl rfl) (pu_call (z := _) (ms := [true, false]) rfl C__law_take (fun _ _ => .nil) rfl rfl hr (by decide) (by rfl) (takes_of rfl rfl rfl rfl) (pu_cons (pe_pv 1) (pu_cons pu_int pu_nil))))
 (pu_scons (pu_sset (i := 3) sc_law.nd rfl (Or.inl rfl) (pu_call (z := _) (ms := [true, false]) rfl C__law_costs (fun _ _ => .nil) rfl rfl hr (by decide) (by rfl) (takes_of rfl rfl rfl rfl) (pu_cons (pe_pv 1) (pu_cons (pe_pv 2) pu_nil))))
 (pu_scons (pu_sset (i := 4) sc_law.nd rfl (Or.inl rfl) (pu_op os_sub op_sub (pu_op os_shl op_shl pu_int (pe_pv 2)) pu_int))
 (pu_scons (pu_ownLc (i := 6) (own := [("k", 5)]) (tgt := (.nm 5)) rfl sc_law.nd rfl rfl (sw_true rfl rfl rfl rfl) (pu_iR1 (by rfl) T.n_range (pe_pv 2)) (blkOk_by (N := N_law) (sc := defScope s_law) (by decide +kernel)) (fun _ _ _ _ _ => (pg_name (i := 5) sc_law.nd rfl (by first | exact Or.inl rfl | exact Or.inr rfl))) (fun _ _ _ _ _ => pts_ret) (fun _ _ _ _ _ => (pu_call (z := _) (ms := [true, false]) rfl C__law_fraction (fun _ _ => .nil) rfl rfl hr (by decide) (by rfl) takes0 (pu_cons (pe_pv 1) (pu_cons (pu_neg pu_int) pu_nil)))) (by decide))
 (pu_scons (pu_sfor (tgt := (.nm 7)) PassesOwn.leaving rfl (pu_iR1 (by rfl) T.n_range (pe_pv 2)) (pg_name (i := 7) sc_law.nd rfl (Or.inl rfl)) (pu_scons (pu_sset (i := 8) sc_law.nd rfl (Or.inl rfl) (pu_call (z := _) (ms := [false, false, false]) rfl C__law_share (fun _ _ => .nil) rfl rfl hr (by decide) (by rfl) (takes_of rfl rfl rfl rfl) (pu_cons (pe_pv 3) (pu_cons (pu_rg1 rfl (by rfl) T.n_list (by rfl) T.n_range (pe_pv 2)) (pu_cons (pe_pv 7) pu_nil)))))
 (pu_scons (pu_sif (pu_tnot (pu_truth rfl (pu_call (z := _) (ms := [false, false]) rfl C__law_same (fun _ _ => .nil) rfl rfl hr (by decide) (by rfl) (takes_of rfl rfl rfl rfl) (pu_cons (pu_call (z := _) (ms := [false, false, false]) rfl C_share (fun _ _ => .nil) rfl rfl hr (by decide) (by rfl) (takes_of rfl rfl rfl rfl) (pu_cons (pu_Y1 us_list cl_list (by rfl) T.n_list bb_list (pe_pv 3)) (pu_cons (pe_pv 4) (pu_cons (pe_pv 7) pu_nil)))) (pu_cons (pe_pv 8) pu_nil))))) (pu_sone (pu_sret pu_bl)) pu_snil)
 (pu_sone (pu_sif (pu_tcmp os_eq (op_eqA hr.units) (pu_call (z := _) (ms := [true, false]) rfl C__law_take (fun _ _ => .nil) rfl rfl hr (by decide) (by rfl) (takes_of rfl rfl rfl rfl) (pu_cons (pe_pv 1) (pu_cons pu_int pu_nil))) pu_int (nomark _)) (pu_sone (pu_sitem (pu_call (z := _) (ms := [false, false]) rfl C__law_add (fun _ _ => .nil) rfl rfl hr (by decide) (by rfl) (takes_of rfl rfl rfl rfl) (pu_cons (pe_pv 8) (pu_cons (pu_call (z := _) (ms := [false, false]) rfl C__law_make (fun _ _ => .nil) rfl rfl hr (by decide) (by rfl) (takes_of rfl rfl rfl rfl) (pu_cons (pu_op os_sub op_sub (pu_call (z := _) (ms := [true, false]) rfl C__law_take (fun _ _ => .nil) rfl rfl hr (by decide) (by rfl) (takes_of rfl rfl rfl rfl) (pu_cons (pe_pv 1) (pu_cons pu_int pu_nil))) pu_int) (pu_cons (pu_op os_add op_addA pu_int (pu_call (z := _) (ms := [true, false]) rfl C__law_take (fun _ _ => .nil) rfl rfl hr (by decide) (by rfl) (takes_of rfl rfl rfl rfl) (pu_cons (pe_pv 1) (pu_cons pu_int pu_nil)))) pu_nil))) pu_nil))) (pg_sub (pe_pv 6) (pe_pv 7) set_list))) pu_snil)))))
 (pu_frz (pu_scons (pu_sset (i := 9) sc_law.nd rfl (Or.inl rfl) (pu_lst (pu_cons (pu_Y1 us_list cl_list (by rfl) T.n_list bb_list (pe_pv 3)) (pu_cons (pu_Y1 us_list cl_list (by rfl) T.n_list bb_list (pe_pv 6)) pu_nil))))
 (pu_scons (pu_sset (i := 8) sc_law.nd rfl (Or.inl rfl) (pu_call (z := _) (ms := [false, false]) rfl C__law_charge (fun _ _ => .nil) rfl rfl hr (by decide) (by rfl) (takes_of rfl rfl rfl rfl) (pu_cons (pe_pv 3) (pu_cons (pe_pv 6) pu_nil))))
 (pu_scons (pu_sif (pu_wor (pu_tnot (pu_truth rfl (pu_call (z := _) (ms := [false, false]) rfl C__law_same (fun _ _ => .nil) rfl rfl hr (by decide) (by rfl) (takes_of rfl rfl rfl rfl) (pu_cons (pu_call (z := _) (ms := [false, false]) rfl C_charge (fun _ _ => .nil) rfl rfl hr (by decide) (by rfl) (takes_of rfl rfl rfl rfl) (pu_cons (pu_ix os_ix ix_seq (pe_pv 9) pu_int (fun _ _ => rfl)) (pu_cons (pu_ix os_ix ix_seq (pe_pv 9) pu_int (fun _ _ => rfl)) pu_nil))) (pu_cons (pe_pv 8) pu_nil))))) (pu_wor1 (pu_tnot (pu_truth rfl (pu_call (z := _) (ms := [false, false]) rfl C__law_same (fun _ _ => .nil) rfl rfl hr (by decide) (by rfl) (takes_of rfl rfl rfl rfl) (pu_cons (pe_pv 9) (pu_cons (pu_lst (pu_cons (pe_pv 3) (pu_cons (pe_pv 6) pu_nil))) pu_nil))))))).pt (pu_sone (pu_sret pu_bl)) pu_snil)
 (pu_scons (pu_sset (i := 10) sc_law.nd rfl (Or.inl rfl) (pu_tup (pu_cons pu_int (pu_cons pu_int pu_nil))))
 (pu_scons (pu_sfor (tgt := (.nm 5)) PassesOwn.leaving rfl (pu_iR1 (by rfl) T.n_range (pe_pv 2)) (pg_name (i := 5) sc_law.nd rfl (Or.inl rfl)) (pu_scons (pu_sset (i := 10) sc_law.nd rfl (Or.inl rfl) (pu_call (z := _) (ms := [false, false]) rfl C__law_add (fun _ _ => .nil) rfl rfl hr (by decide) (by rfl) (takes_of rfl rfl rfl rfl) (pu_cons (pe_pv 10) (pu_cons (pu_ix os_ix ix_seq (pu_ix os_ix ix_seq (pe_pv 8) pu_int (fun _ _ => rfl)) (pe_pv 5) (fun _ _ => rfl)) pu_nil))))
 (pu_sone (pu_sif (pu_wand (pu_tcmp os_in (op_inB hr.units) (pe_pv 5) (pu_ix os_ix ix_seq (pe_pv 8) pu_int (fun _ _ => rfl)) (by with_unfolding_all rfl)) (pu_wand1 (pu_truth rfl (pu_call (z := _) (ms := [false, false]) rfl C__law_less (fun _ _ => .nil) rfl rfl hr (by decide) (by rfl) (takes_of rfl rfl rfl rfl) (pu_cons (pu_ix os_ix ix_seq (pe_pv 6) (pe_pv 5) (fun _ _ => rfl)) (pu_cons (pu_ix os_ix ix_seq (pu_ix os_ix ix_seq (pe_pv 8) pu_int (fun _ _ => rfl)) (pe_pv 5) (fun _ _ => rfl)) pu_nil)))))).pt (pu_sone (pu_sret pu_bl)) pu_snil))))
 (pu_scons (pu_sif (pu_tcmp os_ne (op_neA hr.units) (pe_pv 10) (pu_ix os_ix ix_seq (pe_pv 3) (pu_B1 us_sum (cr_sum rfl) (by rfl) T.n_sum bb_sum (pu_lc (own := [("k", 5)]) (tgt := (.nm 5)) rfl sc_law.nd  (pu_iE rfl (pu_ix os_ix ix_seq (pe_pv 8) pu_int (fun _ _ => rfl))) (blkOk_by (N := N_law) (sc := defScope s_law) (by decide +kernel)) (fun _ _ _ _ _ => (pg_name (i := 5) sc_law.nd rfl (by first | exact Or.inl rfl | exact Or.inr rfl))) (fun _ _ _ _ _ => pts_ret) (fun _ _ _ _ _ => (pu_op os_shl op_shl pu_int (pe_pv 5))) (by decide))) (fun _ _ => rfl)) (nomark _)) (pu_sone (pu_sret pu_bl)) pu_snil)
 (pu_scons (pu_sif (pu_tcmp os_gt op_gt (pe_pv 2) pu_int (nomark _)) (pu_scons (pu_sset (i := 11) sc_law.nd rfl (Or.inl rfl) (pu_call (z := _) (ms := [true, false]) rfl C__law_take (fun _ _ => .nil) rfl rfl hr (by decide) (by rfl) (takes_of rfl rfl rfl rfl) (pu_cons (pe_pv 1) (pu_cons (pe_pv 2) pu_nil))))
 (pu_scons (pu_sset (i := 12) sc_law.nd rfl (Or.inl rfl) (pu_op os_add op_addA (pu_op os_add op_addA (pu_slice rfl (pe_pv 6) pu_pn (pu_ps (pe_pv 11))) (pu_lst (pu_cons (pu_call (z := _) (ms := [true, false]) rfl C__law_fraction (fun _ _ => .nil) rfl rfl hr (by decide) (by rfl) (takes_of rfl rfl rfl rfl) (pu_cons (pe_pv 1) (pu_cons (pu_neg pu_int) pu_nil))) pu_nil))) (pu_slice rfl (pe_pv 6) (pu_ps (pu_op os_add op_addA (pe_pv 11) pu_int)) pu_pn)))
 (pu_scons (pu_sset (i := 13) sc_law.nd rfl (Or.inl rfl) (pu_call (z := _) (ms := [false, false]) rfl C_charge (fun _ _ => .nil) rfl rfl hr (by decide) (by rfl) (takes_of rfl rfl rfl rfl) (pu_cons (pu_Y1 us_list cl_list (by rfl) T.n_list bb_list (pe_pv 3)) (pu_cons (pe_pv 12) pu_nil))))
 (pu_scons (pu_sset (i := 14) sc_law.nd rfl (Or.inl rfl) (pu_call (z := _) (ms := [false, false]) rfl C__law_times (fun _ _ => .nil) rfl rfl hr (by decide) (by rfl) (takes_of rfl rfl rfl rfl) (pu_cons (pu_tup (pu_cons (pu_Y1 us_int cl_int (by rfl) T.n_int bb_int (pu_cmp os_in (op_inB hr.units) (pe_pv 11) (pu_ix os_ix ix_seq (pe_pv 8) pu_int (fun _ _ => rfl)) (by with_unfolding_all rfl))) (pu_cons pu_int pu_nil))) (pu_cons (pu_call (z := _) (ms := [false, false]) rfl C__law_minus (fun _ _ => .nil) rfl rfl hr (by decide) (by rfl) (takes_of rfl rfl rfl rfl) (pu_cons (pu_ix os_ix ix_seq (pe_pv 6) (pe_pv 11) (fun _ _ => rfl)) (pu_cons (pu_ix os_ix ix_seq (pu_ix os_ix ix_seq (pe_pv 8) pu_int (fun _ _ => rfl)) (pe_pv 11) (fun _ _ => rfl)) pu_nil))) pu_nil))))
 (pu_sone (pu_sif (pu_truth rfl (pu_call (z := _) (ms := [false, false]) rfl C__law_less (fun _ _ => .nil) rfl rfl hr (by decide) (by rfl) (takes_of rfl rfl rfl rfl) (pu_cons (pe_pv 14) (pu_cons (pu_call (z := _) (ms := [false, false]) rfl C__law_times (fun _ _ => .nil) rfl rfl hr (by decide) (by rfl) (takes_of rfl rfl rfl rfl) (pu_cons (pu_tup (pu_cons (pu_Y1 us_int cl_int (by rfl) T.n_int bb_int (pu_cmp os_in (op_inB hr.units) (pe_pv 11) (pu_ix os_ix ix_seq (pe_pv 13) pu_int (fun _ _ => rfl)) (by with_unfolding_all rfl))) (pu_cons pu_int pu_nil))) (pu_cons (pu_call (z := _) (ms := [false, false]) rfl C__law_minus (fun _ _ => .nil) rfl rfl hr (by decide) (by rfl) (takes_of rfl rfl rfl rfl) (pu_cons (pu_ix os_ix ix_seq (pe_pv 6) (pe_pv 11) (fun _ _ => rfl)) (pu_cons (pu_ix os_ix ix_seq (pu_ix os_ix ix_seq (pe_pv 13) pu_int (fun _ _ => rfl)) (pe_pv 11) (fun _ _ => rfl)) pu_nil))) pu_nil))) pu_nil)))) (pu_sone (pu_sret pu_bl)) pu_snil)))))) pu_snil)
 (pu_scons (pu_sset (i := 15) sc_law.nd rfl (Or.inl rfl) (pu_lst (pu_cons pu_bl (pu_cons pu_bl (pu_cons pu_bl pu_nil)))))
 (pu_scons (pu_sown (i := 16) sc_law.nd rfl (Or.inl rfl) (pu_lst (pu_cons (pu_op os_add op_addA (pe_pv 3) (pu_lst (pu_cons (pu_tup (pu_cons pu_int (pu_cons pu_int pu_nil))) pu_nil))) (pu_cons (pu_slice rfl (pe_pv 3) (pu_ps pu_int) pu_pn) (pu_cons (pu_op os_add op_addA (pu_lst (pu_cons (pu_tup (pu_cons pu_int (pu_cons pu_int pu_nil))) pu_nil)) (pu_slice rfl (pe_pv 3) (pu_ps pu_int) pu_pn)) pu_nil)))))
 (pu_scons (pu_sex (pu_app (pe_pv 16) (pu_op os_add op_addA (pu_slice rfl (pe_pv 3) pu_pn (pu_ps (pu_op os_sub op_sub (pu_B1 us_len cl_lenA (by rfl) T.n_len bb_len (pe_pv 3)) pu_int))) (pu_lst (pu_cons (pu_call (z := _) (ms := [false, false]) rfl C__law_minus (fun _ _ => .nil) rfl rfl hr (by decide) (by rfl) (takes_of rfl rfl rfl rfl) (pu_cons (pu_tup (pu_cons (pu_neg pu_int) (pu_cons pu_int pu_nil))) (pu_cons (pu_ix os_ix ix_seq (pe_pv 3) (pu_op os_sub op_sub (pu_B1 us_len cl_lenA (by rfl) T.n_len bb_len (pe_pv 3)) pu_int) (fun _ _ => rfl)) pu_nil))) pu_nil)))))
 (pu_frz (pu_scons (pu_sfor (tgt := (.nm 17)) PassesOwn.leaving rfl (pu_iE rfl (pe_pv 16)) (pg_name (i := 17) sc_law.nd rfl (Or.inl rfl)) (pu_sone (pu_sif (pu_tcmp os_ne (op_neA hr.units) (pu_call (z := _) (ms := [false, false, false]) rfl C__law_refusal (fun _ _ => .nil) rfl rfl hr (by decide) (by rfl) (takes_of rfl rfl rfl rfl) (pu_cons pu_str (pu_cons (pe_pv 17) (pu_cons (pe_pv 6) pu_nil)))) (pe_pv 15) (nomark _)) (pu_sone (pu_sret pu_bl)) pu_snil)))
 (pu_sone (pu_sret (pu_cmp os_eq (op_eqA hr.units) (pu_call (z := _) (ms := [false, false, false]) rfl C__law_refusal (fun _ _ => .nil) rfl rfl hr (by decide) (by rfl) (takes_of rfl rfl rfl rfl) (pu_cons pu_str (pu_cons (pe_pv 3) (pu_cons (pu_lc (own := [("k", 5)]) (tgt := (.nm 5)) rfl sc_law.nd  (pu_iR1 (by rfl) T.n_range pu_int) (blkOk_by (N := N_law) (sc := defScope s_law) (by decide +kernel)) (fun _ _ _ _ _ => (pg_name (i := 5) sc_law.nd rfl (by first | exact Or.inl rfl | exact Or.inr rfl))) (fun _ _ _ _ _ => pts_ret) (fun _ _ _ _ _ => (pu_tup (pu_cons pu_int (pu_cons pu_int pu_nil)))) (by decide)) pu_nil)))) pu_str (nomark _)))))))))))))))))))))))) rfl rfl h rfl)
end
theorem law_sp {K : PySem.W.Frag} {H : Hp} {a : Addr} {ns : List Int} {Q : VK} {E : XK} (hl : ns.length ≤ 63) (hT : ∀ p ∈ tf0, GxR.TabG H (He.cT K p).2) (hS : SqL K H a (ns.map V.int)) (q : ∀ H', Q (.bl true) H') : spF K (tbs K) p_law 1 [.ref a] H Q E := law_start (fun P hP => by obtain ⟨p, hp, rfl⟩ := List.mem_map.mp hP; exact hT p hp) hS (law_pure ns hl) q
theorem facts {w : World} {K : PySem.W.Frag} {h : Heap} {mg : Str → Option Value} {f : Addr} (X : K.In h) (G : h.Ns mainGlobals mg) (hfa : mg ("law" : Str) = some (.ref f)) (c0 : UbS.SaysS fa fn tf fs ex w h K) (P : Program) (hfile : (P.main.file == fileS) = true) (htop : (P.main.scope.names.lookup ("super" : Str)).isSome = false) :
    ∃ fd : FuncData, (∀ (s : Shared) (v : Value), BindsTo s fd ⟨[v], []⟩ [("script", v)]) ∧ ∀ base : Heap, K.In base → base.Ns mainGlobals mg → (∀ p ∈ tf, GxR.TabB base mg (He.cT K p).1 (He.cT K p).2) → FnOk P w K mg base (L2.CX P w) 74 f fd ["script"] (spF K (tbs K) p_law 1) := by
  have c := c0.x
  have cd := c.t.d
  have cm := c.more
  unfold ex at cm
  obtain ⟨cm0, cm⟩ := He.ba cm
  obtain ⟨cm1, cm⟩ := He.ba cm
  obtain ⟨cm2, cm⟩ := He.ba cm
  obtain ⟨cm3, cm⟩ := He.ba cm
  obtain ⟨cm4, cm⟩ := He.ba cm
  obtain ⟨cm5, cm⟩ := He.ba cm
  obtain ⟨cm6, cm⟩ := He.ba cm
  obtain ⟨cm7, cm⟩ := He.ba cm
  obtain ⟨cm8, cm⟩ := He.ba cm
  obtain ⟨cm9, cm⟩ := He.ba cm
  obtain ⟨cm10, cm⟩ := He.ba cm
  obtain ⟨cm11, cm⟩ := He.ba cm
  obtain ⟨cm12, cm⟩ := He.ba cm
  obtain ⟨cm13, cm⟩ := He.ba cm
  obtain ⟨cm14, cm⟩ := He.ba cm
  obtain ⟨cm15, cm⟩ := He.ba cm
  obtain ⟨cm16, cm⟩ := He.ba cm
  obtain ⟨cm17, cm⟩ := He.ba cm
  obtain ⟨cm18, cm⟩ := He.ba cm
  obtain ⟨cm19, cm⟩ := He.ba cm
  obtain ⟨cm20, cm⟩ := He.ba cm
  obtain ⟨cm21, cm⟩ := He.ba cm
  obtain ⟨cm22, cm⟩ := He.ba cm
  obtain ⟨cm23, cm⟩ := He.ba cm
  obtain ⟨cm24, cm⟩ := He.ba cm
  have T : Tx K mg := { n_ValueError := He.free_ok X G (cd.fact 42 rfl), n_abs := He.free_ok X G (cd.fact 43 rfl), n_any := He.free_ok X G (cd.fact 44 rfl), n_bool := He.free_ok X G (cd.fact 45 rfl), n_enumerate := He.free_ok X G (cd.fact 46 rfl), n_int := He.free_ok X G (cd.fact 47 rfl), n_isinstance := He.free_ok X G (cd.fact 48 rfl), n_len := He.free_ok X G (cd.fact 49 rfl), n_list := He.free_ok X G (cd.fact 50 rfl), n_max := He.free_ok X G (cd.fact 51 rfl), n_min := He.free_ok X G (cd.fact 52 rfl), n_range := He.free_ok X G (cd.fact 53 rfl), n_reversed := He.free_ok X G (cd.fact 54 rfl), n_sorted := He.free_ok X G (cd.fact 55 rfl), n_str := He.free_ok X G (cd.fact 56 rfl), n_sum := He.free_ok X G (cd.fact 57 rfl), n_super := He.free_ok X G (cd.fact 58 rfl), n_tuple := He.free_ok X G (cd.fact 59 rfl), g_factorial := PySem.W.mg_of X G (He.eqO_ok cm0), g_gcd := PySem.W.mg_of X G (He.eqO_ok cm1), c__MOST_PEAKS := He.int_ok X G (cd.fact 71 rfl), c__MOST_AGENTS := He.int_ok X G (cd.fact 72 rfl), e_InvalidCosts := ⟨He.glo_ok X G (cd.fact 36 rfl), (He.exc_ok (cd.fact 60 rfl)).1, (He.exc_ok (cd.fact 60 rfl)).2.1, (He.exc_ok (cd.fact 60 rfl)).2.2.1, (He.exc_ok (cd.fact 60 rfl)).2.2.2⟩, e_ZeroDenominator := ⟨He.glo_ok X G (cd.fact 61 rfl), (He.exc_ok (cd.fact 62 rfl)).1, (He.exc_ok (cd.fact 62 rfl)).2.1, (He.exc_ok (cd.fact 62 rfl)).2.2.1, (He.exc_ok (cd.fact 62 rfl)).2.2.2⟩, m_InvalidCosts_TooLarge := He.exm_ok (cd.fact 63 rfl), m_InvalidWishes_TooLarge := He.exm_ok (cd.fact 64 rfl), m_TooLarge_TooLarge := He.exm_ok (cd.fact 65 rfl), m_ZeroDenominator_TooLarge := He.exm_ok (cd.fact 66 rfl), m_InvalidCosts_UnbentError := He.exm_ok (cd.fact 67 rfl), m_InvalidWishes_UnbentError := He.exm_ok (cd.fact 68 rfl), m_TooLarge_UnbentError := He.exm_ok (cd.fact 69 rfl), m_ZeroDenominator_UnbentError := He.exm_ok (cd.fact 70 rfl), gc_InvalidCosts := He.glo_ok X G (cd.fact 36 rfl), gc_InvalidWishes := He.glo_ok X G (cd.fact 37 rfl), gc_TooLarge := He.glo_ok X G (cd.fact 38 rfl), gc_UnbentError := He.glo_ok X G (cd.fact 39 rfl), x_TooLarge := UbC.oexB_ok cm2, x_InvalidWishes := UbC.oexB_ok cm3, na_InvalidWishes_reason := He.noat_ok (cd.fact 40 rfl), na_TooLarge_limit := He.noat_ok (cd.fact 41 rfl), xf_TooLarge := xfB_ok cm4, ie_InvalidCosts := excCB_ok cm5, ie_InvalidWishes := excCB_ok cm6, ie_TooLarge := excCB_ok cm7, ie_ZeroDenominator := excCB_ok cm8, ki_InvalidCosts_InvalidCosts := of_decide_eq_true cm9, ki_InvalidWishes_InvalidCosts := of_decide_eq_true cm10, ki_TooLarge_InvalidCosts := of_decide_eq_true cm11, ki_ZeroDenominator_InvalidCosts := of_decide_eq_true cm12, ki_InvalidCosts_InvalidWishes := of_decide_eq_true cm13, ki_InvalidWishes_InvalidWishes := of_decide_eq_true cm14, ki_TooLarge_InvalidWishes := of_decide_eq_true cm15, ki_ZeroDenominator_InvalidWishes := of_decide_eq_true cm16, ki_InvalidCosts_ValueError := of_decide_eq_true cm17, ki_InvalidWishes_ValueError := of_decide_eq_true cm18, ki_TooLarge_ValueError := of_decide_eq_true cm19, ki_ZeroDenominator_ValueError := of_decide_eq_true cm20 }
  obtain ⟨fd_TooLarge___init__, F_TooLarge___init__⟩ := UbS.funS_of (c0.def_ 0 (d := d_TooLarge___init__) rfl) cm21
  have B_TooLarge___init__ := UbS.supB_ok cm23
  obtain ⟨fd_InvalidWishes___init__, F_InvalidWishes___init__⟩ := UbS.funS_of (c0.def_ 1 (d := d_InvalidWishes___init__) rfl) cm22
  have B_InvalidWishes___init__ := UbS.supB_ok cm24
  obtain ⟨fd__law_make, F__law_make⟩ := cd.def_ 0 (d := d__law_make) rfl
  have m__law_make := He.glo_ok X G (cd.fact 0 (f := .glo "_law_make") rfl)
  obtain ⟨fd__law_add, F__law_add⟩ := cd.def_ 1 (d := d__law_add) rfl
  have m__law_add := He.glo_ok X G (cd.fact 1 (f := .glo "_law_add") rfl)
  obtain ⟨fd__law_less, F__law_less⟩ := cd.def_ 2 (d := d__law_less) rfl
  have m__law_less := He.glo_ok X G (cd.fact 2 (f := .glo "_law_less") rfl)
  obtain ⟨fd__law_minus, F__law_minus⟩ := cd.def_ 3 (d := d__law_minus) rfl
  have m__law_minus := He.glo_ok X G (cd.fact 3 (f := .glo "_law_minus") rfl)
  obtain ⟨fd__law_orders, F__law_orders⟩ := cd.def_ 4 (d := d__law_orders) rfl
  have m__law_orders := He.glo_ok X G (cd.fact 4 (f := .glo "_law_orders") rfl)
  obtain ⟨fd__law_times, F__law_times⟩ := cd.def_ 5 (d := d__law_times) rfl
  have m__law_times := He.glo_ok X G (cd.fact 5 (f := .glo "_law_times") rfl)
  obtain ⟨fd__law_share, F__law_share⟩ := cd.def_ 6 (d := d__law_share) rfl
  have m__law_share := He.glo_ok X G (cd.fact 6 (f := .glo "_law_share") rfl)
  obtain ⟨fd__law_charge, F__law_charge⟩ := cd.def_ 7 (d := d__law_charge) rfl
  have m__law_charge := He.glo_ok X G (cd.fact 7 (f := .glo "_law_charge") rfl)
  obtain ⟨fd__law_take, F__law_take⟩ := cd.def_ 8 (d := d__law_take) rfl
  have m__law_take := He.glo_ok X G (cd.fact 8 (f := .glo "_law_take") rfl)
  obtain ⟨fd__law_fraction, F__law_fraction⟩ := cd.def_ 9 (d := d__law_fraction) rfl
  have m__law_fraction := He.glo_ok X G (cd.fact 9 (f := .glo "_law_fraction") rfl)
  obtain ⟨fd__law_has, F__law_has⟩ := cd.def_ 10 (d := d__law_has) rfl
  have m__law_has := He.glo_ok X G (cd.fact 10 (f := .glo "_law_has") rfl)
  obtain ⟨fd__law_costs, F__law_costs⟩ := cd.def_ 11 (d := d__law_costs) rfl
  have m__law_costs := He.glo_ok X G (cd.fact 11 (f := .glo "_law_costs") rfl)
  obtain ⟨fd__law_draws, F__law_draws⟩ := cd.def_ 12 (d := d__law_draws) rfl
  have m__law_draws := He.glo_ok X G (cd.fact 12 (f := .glo "_law_draws") rfl)
  obtain ⟨fd__law_middle, F__law_middle⟩ := cd.def_ 13 (d := d__law_middle) rfl
  have m__law_middle := He.glo_ok X G (cd.fact 13 (f := .glo "_law_middle") rfl)
  obtain ⟨fd__law_peak, F__law_peak⟩ := cd.def_ 14 (d := d__law_peak) rfl
  have m__law_peak := He.glo_ok X G (cd.fact 14 (f := .glo "_law_peak") rfl)
  obtain ⟨fd_sign, F_sign⟩ := cd.def_ 15 (d := d_sign) rfl
  have m_sign := He.glo_ok X G (cd.fact 15 (f := .glo "sign") rfl)
  obtain ⟨fd_compare, F_compare⟩ := cd.def_ 16 (d := d_compare) rfl
  have m_compare := He.glo_ok X G (cd.fact 16 (f := .glo "compare") rfl)
  obtain ⟨fd__ascend, F__ascend⟩ := cd.def_ 17 (d := d__ascend) rfl
  have m__ascend := He.glo_ok X G (cd.fact 17 (f := .glo "_ascend") rfl)
  obtain ⟨fd_make, F_make⟩ := cd.def_ 18 (d := d_make) rfl
  have m_make := He.glo_ok X G (cd.fact 18 (f := .glo "make") rfl)
  obtain ⟨fd_add, F_add⟩ := cd.def_ 19 (d := d_add) rfl
  have m_add := He.glo_ok X G (cd.fact 19 (f := .glo "add") rfl)
  obtain ⟨fd__cost_less_together, F__cost_less_together⟩ := cd.def_ 20 (d := d__cost_less_together) rfl
  have m__cost_less_together := He.glo_ok X G (cd.fact 20 (f := .glo "_cost_less_together") rfl)
  obtain ⟨fd__are_costs, F__are_costs⟩ := cd.def_ 21 (d := d__are_costs) rfl
  have m__are_costs := He.glo_ok X G (cd.fact 21 (f := .glo "_are_costs") rfl)
  obtain ⟨fd__group, F__group⟩ := cd.def_ 22 (d := d__group) rfl
  have m__group := He.glo_ok X G (cd.fact 22 (f := .glo "_group") rfl)
  obtain ⟨fd__members, F__members⟩ := cd.def_ 23 (d := d__members) rfl
  have m__members := He.glo_ok X G (cd.fact 23 (f := .glo "_members") rfl)
  obtain ⟨fd_multiply, F_multiply⟩ := cd.def_ 24 (d := d_multiply) rfl
  have m_multiply := He.glo_ok X G (cd.fact 24 (f := .glo "multiply") rfl)
  obtain ⟨fd_subtract, F_subtract⟩ := cd.def_ 25 (d := d_subtract) rfl
  have m_subtract := He.glo_ok X G (cd.fact 25 (f := .glo "subtract") rfl)
  obtain ⟨fd__share, F__share⟩ := cd.def_ 26 (d := d__share) rfl
  have m__share := He.glo_ok X G (cd.fact 26 (f := .glo "_share") rfl)
  obtain ⟨fd__staying, F__staying⟩ := cd.def_ 27 (d := d__staying) rfl
  have m__staying := He.glo_ok X G (cd.fact 27 (f := .glo "_staying") rfl)
  obtain ⟨fd_check_size, F_check_size⟩ := cd.def_ 28 (d := d_check_size) rfl
  have m_check_size := He.glo_ok X G (cd.fact 28 (f := .glo "check_size") rfl)
  obtain ⟨fd_charge, F_charge⟩ := cd.def_ 29 (d := d_charge) rfl
  have m_charge := He.glo_ok X G (cd.fact 29 (f := .glo "charge") rfl)
  obtain ⟨fd_median, F_median⟩ := cd.def_ 30 (d := d_median) rfl
  have m_median := He.glo_ok X G (cd.fact 30 (f := .glo "median") rfl)
  obtain ⟨fd__law_refusal, F__law_refusal⟩ := cd.def_ 31 (d := d__law_refusal) rfl
  have m__law_refusal := He.glo_ok X G (cd.fact 31 (f := .glo "_law_refusal") rfl)
  obtain ⟨fd__law_same, F__law_same⟩ := cd.def_ 32 (d := d__law_same) rfl
  have m__law_same := He.glo_ok X G (cd.fact 32 (f := .glo "_law_same") rfl)
  obtain ⟨fd__law_medians, F__law_medians⟩ := cd.def_ 33 (d := d__law_medians) rfl
  have m__law_medians := He.glo_ok X G (cd.fact 33 (f := .glo "_law_medians") rfl)
  obtain ⟨fd_share, F_share⟩ := cd.def_ 34 (d := d_share) rfl
  have m_share := He.glo_ok X G (cd.fact 34 (f := .glo "share") rfl)
  obtain ⟨fd_law, F_law⟩ := cd.def_ 35 (d := d_law) rfl
  have m_law := He.glo_ok X G (cd.fact 35 (f := .glo "law") rfl)
  have e := hfa.symm.trans m_law
  cases e
  have bl := FunD.bindsA (ps := ["script"]) F_law fun _ _ _ _ _ _ us hl => match us, hl with | [_], _ => rfl
  refine ⟨fd_law, fun s v => bl s [v] rfl, fun base _ _ TBs => ?_⟩
  have G__law_make : FnOk P w K mg base (L2.CX P w) 1 (He.ga K "_law_make") fd__law_make ["p", "q"] (spF K (tbs K) p__law_make 2) := ok__law_make T F__law_make 
  have C__law_make : Cal P w K mg base "_law_make" 1 ["p", "q"] [] (spF K (tbs K) p__law_make 2) := ⟨_, _, [], G__law_make, m__law_make, F__law_make.kp, .nil, F__law_make.bindsN fun _ _ _ _ _ _ us hl => match us, hl with | [_, _], _ => rfl⟩
  have G__law_add : FnOk P w K mg base (L2.CX P w) 2 (He.ga K "_law_add") fd__law_add ["a", "b"] (spF K (tbs K) p__law_add 2) := ok__law_add T F__law_add C__law_make
  have C__law_add : Cal P w K mg base "_law_add" 2 ["a", "b"] [] (spF K (tbs K) p__law_add 2) := ⟨_, _, [], G__law_add, m__law_add, F__law_add.kp, .nil, F__law_add.bindsN fun _ _ _ _ _ _ us hl => match us, hl with | [_, _], _ => rfl⟩
  have G__law_less : FnOk P w K mg base (L2.CX P w) 1 (He.ga K "_law_less") fd__law_less ["a", "b"] (spF K (tbs K) p__law_less 2) := ok__law_less T F__law_less 
  have C__law_less : Cal P w K mg base "_law_less" 1 ["a", "b"] [] (spF K (tbs K) p__law_less 2) := ⟨_, _, [], G__law_less, m__law_less, F__law_less.kp, .nil, F__law_less.bindsN fun _ _ _ _ _ _ us hl => match us, hl with | [_, _], _ => rfl⟩
  have G__law_minus : FnOk P w K mg base (L2.CX P w) 2 (He.ga K "_law_minus") fd__law_minus ["a", "b"] (spF K (tbs K) p__law_minus 2) := ok__law_minus T F__law_minus C__law_make
  have C__law_minus : Cal P w K mg base "_law_minus" 2 ["a", "b"] [] (spF K (tbs K) p__law_minus 2) := ⟨_, _, [], G__law_minus, m__law_minus, F__law_minus.kp, .nil, F__law_minus.bindsN fun _ _ _ _ _ _ us hl => match us, hl with | [_, _], _ => rfl⟩
  have G__law_orders : FnOk P w K mg base (L2.CX P w) 71 (He.ga K "_law_orders") fd__law_orders ["agents"] (spF K (tbs K) (p__law_orders 70) 1) := ok__law_orders T F__law_orders  m__law_orders 70
  have C__law_orders : Cal P w K mg base "_law_orders" 71 ["agents"] [] (spF K (tbs K) (p__law_orders 70) 1) := ⟨_, _, [], G__law_orders, m__law_orders, F__law_orders.kp, .nil, F__law_orders.bindsN fun _ _ _ _ _ _ us hl => match us, hl with | [_], _ => rfl⟩
  have G__law_times : FnOk P w K mg base (L2.CX P w) 2 (He.ga K "_law_times") fd__law_times ["a", "b"] (spF K (tbs K) p__law_times 2) := ok__law_times T F__law_times C__law_make
  have C__law_times : Cal P w K mg base "_law_times" 2 ["a", "b"] [] (spF K (tbs K) p__law_times 2) := ⟨_, _, [], G__law_times, m__law_times, F__law_times.kp, .nil, F__law_times.bindsN fun _ _ _ _ _ _ us hl => match us, hl with | [_, _], _ => rfl⟩
  have G__law_share : FnOk P w K mg base (L2.CX P w) 72 (He.ga K "_law_share") fd__law_share ["costs", "members", "agent"] (spF K (tbs K) p__law_share 3) := ok__law_share T F__law_share C__law_add C__law_minus C__law_orders C__law_times
  have C__law_share : Cal P w K mg base "_law_share" 72 ["costs", "members", "agent"] [] (spF K (tbs K) p__law_share 3) := ⟨_, _, [], G__law_share, m__law_share, F__law_share.kp, .nil, F__law_share.bindsN fun _ _ _ _ _ _ us hl => match us, hl with | [_, _, _], _ => rfl⟩
  have G__law_charge : FnOk P w K mg base (L2.CX P w) 73 (He.ga K "_law_charge") fd__law_charge ["costs", "bids"] (spF K (tbs K) p__law_charge 2) := ok__law_charge T F__law_charge C__law_less C__law_share
  have C__law_charge : Cal P w K mg base "_law_charge" 73 ["costs", "bids"] [] (spF K (tbs K) p__law_charge 2) := ⟨_, _, [], G__law_charge, m__law_charge, F__law_charge.kp, .nil, F__law_charge.bindsN fun _ _ _ _ _ _ us hl => match us, hl with | [_, _], _ => rfl⟩
  have G__law_take : FnOk P w K mg base (L2.CX P w) 1 (He.ga K "_law_take") fd__law_take ["draws", "bound"] (spF K (tbs K) p__law_take 2) := ok__law_take T F__law_take 
  have C__law_take : Cal P w K mg base "_law_take" 1 ["draws", "bound"] [] (spF K (tbs K) p__law_take 2) := ⟨_, _, [], G__law_take, m__law_take, F__law_take.kp, .nil, F__law_take.bindsN fun _ _ _ _ _ _ us hl => match us, hl with | [_, _], _ => rfl⟩
  have G__law_fraction : FnOk P w K mg base (L2.CX P w) 2 (He.ga K "_law_fraction") fd__law_fraction ["draws", "least"] (spF K (tbs K) p__law_fraction 2) := ok__law_fraction T F__law_fraction C__law_make C__law_take
  have C__law_fraction : Cal P w K mg base "_law_fraction" 2 ["draws", "least"] [] (spF K (tbs K) p__law_fraction 2) := ⟨_, _, [], G__law_fraction, m__law_fraction, F__law_fraction.kp, .nil, F__law_fraction.bindsN fun _ _ _ _ _ _ us hl => match us, hl with | [_, _], _ => rfl⟩
  have G__law_has : FnOk P w K mg base (L2.CX P w) 1 (He.ga K "_law_has") fd__law_has ["group", "agent"] (spF K (tbs K) p__law_has 2) := ok__law_has T F__law_has 
  have C__law_has : Cal P w K mg base "_law_has" 1 ["group", "agent"] [] (spF K (tbs K) p__law_has 2) := ⟨_, _, [], G__law_has, m__law_has, F__law_has.kp, .nil, F__law_has.bindsN fun _ _ _ _ _ _ us hl => match us, hl with | [_, _], _ => rfl⟩
  have G__law_costs : FnOk P w K mg base (L2.CX P w) 3 (He.ga K "_law_costs") fd__law_costs ["draws", "count"] (spF K (tbs K) p__law_costs 2) := ok__law_costs T F__law_costs C__law_add C__law_fraction C__law_has C__law_take
  have C__law_costs : Cal P w K mg base "_law_costs" 3 ["draws", "count"] [] (spF K (tbs K) p__law_costs 2) := ⟨_, _, [], G__law_costs, m__law_costs, F__law_costs.kp, .nil, F__law_costs.bindsN fun _ _ _ _ _ _ us hl => match us, hl with | [_, _], _ => rfl⟩
  have G__law_draws : FnOk P w K mg base (L2.CX P w) 1 (He.ga K "_law_draws") fd__law_draws ["script"] (spF K (tbs K) p__law_draws 1) := ok__law_draws T F__law_draws 
  have C__law_draws : Cal P w K mg base "_law_draws" 1 ["script"] [] (spF K (tbs K) p__law_draws 1) := ⟨_, _, [], G__law_draws, m__law_draws, F__law_draws.kp, .nil, F__law_draws.bindsN fun _ _ _ _ _ _ us hl => match us, hl with | [_], _ => rfl⟩
  have G__law_middle : FnOk P w K mg base (L2.CX P w) 1 (He.ga K "_law_middle") fd__law_middle ["rows"] (spF K (tbs K) p__law_middle 1) := ok__law_middle T F__law_middle 
  have C__law_middle : Cal P w K mg base "_law_middle" 1 ["rows"] [] (spF K (tbs K) p__law_middle 1) := ⟨_, _, [], G__law_middle, m__law_middle, F__law_middle.kp, .nil, F__law_middle.bindsN fun _ _ _ _ _ _ us hl => match us, hl with | [_], _ => rfl⟩
  have G__law_peak : FnOk P w K mg base (L2.CX P w) 2 (He.ga K "_law_peak") fd__law_peak ["draws"] (spF K (tbs K) p__law_peak 1) := ok__law_peak T F__law_peak C__law_take
  have C__law_peak : Cal P w K mg base "_law_peak" 2 ["draws"] [] (spF K (tbs K) p__law_peak 1) := ⟨_, _, [], G__law_peak, m__law_peak, F__law_peak.kp, .nil, F__law_peak.bindsN fun _ _ _ _ _ _ us hl => match us, hl with | [_], _ => rfl⟩
  have G_sign : FnOk P w K mg base (L2.CX P w) 1 (He.ga K "sign") fd_sign ["a"] (spF K (tbs K) p_sign 1) := ok_sign T F_sign 
  have C_sign : Cal P w K mg base "sign" 1 ["a"] [] (spF K (tbs K) p_sign 1) := ⟨_, _, [], G_sign, m_sign, F_sign.kp, .nil, F_sign.bindsN fun _ _ _ _ _ _ us hl => match us, hl with | [_], _ => rfl⟩
  have G_compare : FnOk P w K mg base (L2.CX P w) 2 (He.ga K "compare") fd_compare ["a", "b"] (spF K (tbs K) p_compare 2) := ok_compare T F_compare C_sign
  have C_compare : Cal P w K mg base "compare" 2 ["a", "b"] [] (spF K (tbs K) p_compare 2) := ⟨_, _, [], G_compare, m_compare, F_compare.kp, .nil, F_compare.bindsN fun _ _ _ _ _ _ us hl => match us, hl with | [_, _], _ => rfl⟩
  have G__ascend : FnOk P w K mg base (L2.CX P w) 4 (He.ga K "_ascend") fd__ascend ["costs", "agents"] (spF K (tbs K) p__ascend 2) := ok__ascend T F__ascend rfl (TBs (("_ascend", none) : He.Defn) (by unfold tf tf0; simp)) C_compare
  have C__ascend : Cal P w K mg base "_ascend" 4 ["costs", "agents"] [] (spF K (tbs K) p__ascend 2) := ⟨_, _, [], G__ascend, m__ascend, F__ascend.kp, .nil, F__ascend.bindsN fun _ _ _ _ _ _ us hl => match us, hl with | [_, _], _ => rfl⟩
  have G_make : FnOk P w K mg base (L2.CX P w) 1 (He.ga K "make") fd_make ["p", "q"] (spF K (tbs K) p_make 2) := ok_make T F_make 
  have C_make : Cal P w K mg base "make" 1 ["p", "q"] [] (spF K (tbs K) p_make 2) := by
    have F1 : FunD K "make" "make" (defArgs s_make) (defBody s_make) (defScope s_make) [V.int 1] [] (He.ga K "make") fd_make := F_make
    obtain ⟨ds, hd, hb⟩ := F1.binds1 (ps := ["p", "q"]) 2 1 (by simp) rfl (fun T kV doc pm an cdv ct us its hu hi => by
      match us, hu, its, hi with
      | [_, _], _, [_], _ =>
        refine ⟨_, rfl, ?_⟩
        rfl)
    exact ⟨_, _, ds, G_make, m_make, F_make.kp, hd, hb⟩
  have G_add : FnOk P w K mg base (L2.CX P w) 2 (He.ga K "add") fd_add ["a", "b"] (spF K (tbs K) p_add 2) := ok_add T F_add C_make
  have C_add : Cal P w K mg base "add" 2 ["a", "b"] [] (spF K (tbs K) p_add 2) := ⟨_, _, [], G_add, m_add, F_add.kp, .nil, F_add.bindsN fun _ _ _ _ _ _ us hl => match us, hl with | [_, _], _ => rfl⟩
  have G__cost_less_together : FnOk P w K mg base (L2.CX P w) 3 (He.ga K "_cost_less_together") fd__cost_less_together ["costs"] (spF K (tbs K) p__cost_less_together 1) := ok__cost_less_together T F__cost_less_together C_add C_compare
  have C__cost_less_together : Cal P w K mg base "_cost_less_together" 3 ["costs"] [] (spF K (tbs K) p__cost_less_together 1) := ⟨_, _, [], G__cost_less_together, m__cost_less_together, F__cost_less_together.kp, .nil, F__cost_less_together.bindsN fun _ _ _ _ _ _ us hl => match us, hl with | [_], _ => rfl⟩
  have G__are_costs : FnOk P w K mg base (L2.CX P w) 5 (He.ga K "_are_costs") fd__are_costs ["costs", "agents"] (spF K (tbs K) p__are_costs 2) := ok__are_costs T F__are_costs C__ascend C__cost_less_together
  have C__are_costs : Cal P w K mg base "_are_costs" 5 ["costs", "agents"] [] (spF K (tbs K) p__are_costs 2) := ⟨_, _, [], G__are_costs, m__are_costs, F__are_costs.kp, .nil, F__are_costs.bindsN fun _ _ _ _ _ _ us hl => match us, hl with | [_, _], _ => rfl⟩
  have G__group : FnOk P w K mg base (L2.CX P w) 1 (He.ga K "_group") fd__group ["agents"] (spF K (tbs K) p__group 1) := ok__group T F__group 
  have C__group : Cal P w K mg base "_group" 1 ["agents"] [] (spF K (tbs K) p__group 1) := ⟨_, _, [], G__group, m__group, F__group.kp, .nil, F__group.bindsN fun _ _ _ _ _ _ us hl => match us, hl with | [_], _ => rfl⟩
  have G__members : FnOk P w K mg base (L2.CX P w) 1 (He.ga K "_members") fd__members ["group"] (spF K (tbs K) p__members 1) := ok__members T F__members 
  have C__members : Cal P w K mg base "_members" 1 ["group"] [] (spF K (tbs K) p__members 1) := ⟨_, _, [], G__members, m__members, F__members.kp, .nil, F__members.bindsN fun _ _ _ _ _ _ us hl => match us, hl with | [_], _ => rfl⟩
  have G_multiply : FnOk P w K mg base (L2.CX P w) 2 (He.ga K "multiply") fd_multiply ["a", "b"] (spF K (tbs K) p_multiply 2) := ok_multiply T F_multiply C_make
  have C_multiply : Cal P w K mg base "multiply" 2 ["a", "b"] [] (spF K (tbs K) p_multiply 2) := ⟨_, _, [], G_multiply, m_multiply, F_multiply.kp, .nil, F_multiply.bindsN fun _ _ _ _ _ _ us hl => match us, hl with | [_, _], _ => rfl⟩
  have G_subtract : FnOk P w K mg base (L2.CX P w) 2 (He.ga K "subtract") fd_subtract ["a", "b"] (spF K (tbs K) p_subtract 2) := ok_subtract T F_subtract C_make
  have C_subtract : Cal P w K mg base "subtract" 2 ["a", "b"] [] (spF K (tbs K) p_subtract 2) := ⟨_, _, [], G_subtract, m_subtract, F_subtract.kp, .nil, F_subtract.bindsN fun _ _ _ _ _ _ us hl => match us, hl with | [_, _], _ => rfl⟩
  have G__share : FnOk P w K mg base (L2.CX P w) 3 (He.ga K "_share") fd__share ["costs", "group", "agent"] (spF K (tbs K) p__share 3) := ok__share T F__share C__members C_add C_make C_multiply C_subtract
  have C__share : Cal P w K mg base "_share" 3 ["costs", "group", "agent"] [] (spF K (tbs K) p__share 3) := ⟨_, _, [], G__share, m__share, F__share.kp, .nil, F__share.bindsN fun _ _ _ _ _ _ us hl => match us, hl with | [_, _, _], _ => rfl⟩
  have G__staying : FnOk P w K mg base (L2.CX P w) 4 (He.ga K "_staying") fd__staying ["costs", "bids", "served"] (spF K (tbs K) p__staying 3) := ok__staying T F__staying C__group C__share C_compare
  have C__staying : Cal P w K mg base "_staying" 4 ["costs", "bids", "served"] [] (spF K (tbs K) p__staying 3) := ⟨_, _, [], G__staying, m__staying, F__staying.kp, .nil, F__staying.bindsN fun _ _ _ _ _ _ us hl => match us, hl with | [_, _, _], _ => rfl⟩
  have G_TooLarge___init__ : FnOk P w K mg base (L2.CX P w) 1 (He.ma K (He.ga K "TooLarge") "__init__") fd_TooLarge___init__ ["self", "limit"] (UbC.spEI (He.ga K "TooLarge") (UbC.fl1 "limit") UbC.okT) := ok_TooLarge___init__ T F_TooLarge___init__ B_TooLarge___init__ hfile htop
  have X_TooLarge : UbC.CalX P w K mg base "TooLarge" 1 (UbC.spEI (He.ga K "TooLarge") (UbC.fl1 "limit") UbC.okT) := ⟨T.x_TooLarge, T.gc_TooLarge, _, _, G_TooLarge___init__, F_TooLarge___init__.bindsN fun _ _ _ _ _ _ us hl => match us, hl with | [_, _], _ => rfl⟩
  have G_check_size : FnOk P w K mg base (L2.CX P w) 3 (He.ga K "check_size") fd_check_size ["sizes", "most"] (spF K (tbs K) p_check_size 2) := ok_check_size T F_check_size rfl (TBs (("check_size", none) : He.Defn) (by unfold tf tf0; simp)) X_TooLarge
  have C_check_size : Cal P w K mg base "check_size" 3 ["sizes", "most"] [] (spF K (tbs K) p_check_size 2) := ⟨_, _, [], G_check_size, m_check_size, F_check_size.kp, .nil, F_check_size.bindsN fun _ _ _ _ _ _ us hl => match us, hl with | [_, _], _ => rfl⟩
  have G_charge : FnOk P w K mg base (L2.CX P w) 6 (He.ga K "charge") fd_charge ["costs", "bids"] (spF K (tbs K) p_charge 2) := ok_charge T F_charge C__are_costs C__group C__share C__staying C_check_size
  have C_charge : Cal P w K mg base "charge" 6 ["costs", "bids"] [] (spF K (tbs K) p_charge 2) := ⟨_, _, [], G_charge, m_charge, F_charge.kp, .nil, F_charge.bindsN fun _ _ _ _ _ _ us hl => match us, hl with | [_, _], _ => rfl⟩
  have G_InvalidWishes___init__ : FnOk P w K mg base (L2.CX P w) 1 (He.ma K (He.ga K "InvalidWishes") "__init__") fd_InvalidWishes___init__ ["self", "reason"] (UbC.spEI (He.ga K "InvalidWishes") (UbC.fl1 "reason") UbC.okT) := ok_InvalidWishes___init__ T F_InvalidWishes___init__ B_InvalidWishes___init__ hfile htop
  have X_InvalidWishes : UbC.CalX P w K mg base "InvalidWishes" 1 (UbC.spEI (He.ga K "InvalidWishes") (UbC.fl1 "reason") UbC.okT) := ⟨T.x_InvalidWishes, T.gc_InvalidWishes, _, _, G_InvalidWishes___init__, F_InvalidWishes___init__.bindsN fun _ _ _ _ _ _ us hl => match us, hl with | [_, _], _ => rfl⟩
  have G_median : FnOk P w K mg base (L2.CX P w) 4 (He.ga K "median") fd_median ["peaks", "phantoms"] (spF K (tbs K) p_median 2) := ok_median T F_median X_InvalidWishes C_check_size
  have C_median : Cal P w K mg base "median" 4 ["peaks", "phantoms"] [] (spF K (tbs K) p_median 2) := ⟨_, _, [], G_median, m_median, F_median.kp, .nil, F_median.bindsN fun _ _ _ _ _ _ us hl => match us, hl with | [_, _], _ => rfl⟩
  have G__law_refusal : FnOk P w K mg base (L2.CX P w) 7 (He.ga K "_law_refusal") fd__law_refusal ["what", "first", "second"] (spF K (tbs K) p__law_refusal 3) := ok__law_refusal T F__law_refusal C_charge C_median
  have C__law_refusal : Cal P w K mg base "_law_refusal" 7 ["what", "first", "second"] [] (spF K (tbs K) p__law_refusal 3) := ⟨_, _, [], G__law_refusal, m__law_refusal, F__law_refusal.kp, .nil, F__law_refusal.bindsN fun _ _ _ _ _ _ us hl => match us, hl with | [_, _, _], _ => rfl⟩
  have G__law_same : FnOk P w K mg base (L2.CX P w) 71 (He.ga K "_law_same") fd__law_same ["value", "due"] (spF K (tbs K) (p__law_same 70) 2) := ok__law_same T F__law_same  m__law_same 70
  have C__law_same : Cal P w K mg base "_law_same" 71 ["value", "due"] [] (spF K (tbs K) (p__law_same 70) 2) := ⟨_, _, [], G__law_same, m__law_same, F__law_same.kp, .nil, F__law_same.bindsN fun _ _ _ _ _ _ us hl => match us, hl with | [_, _], _ => rfl⟩
  have G__law_medians : FnOk P w K mg base (L2.CX P w) 72 (He.ga K "_law_medians") fd__law_medians ["draws"] (spF K (tbs K) p__law_medians 1) := ok__law_medians T F__law_medians C__law_middle C__law_peak C__law_refusal C__law_same C__law_take C_median
  have C__law_medians : Cal P w K mg base "_law_medians" 72 ["draws"] [] (spF K (tbs K) p__law_medians 1) := ⟨_, _, [], G__law_medians, m__law_medians, F__law_medians.kp, .nil, F__law_medians.bindsN fun _ _ _ _ _ _ us hl => match us, hl with | [_], _ => rfl⟩
  have G_share : FnOk P w K mg base (L2.CX P w) 4 (He.ga K "share") fd_share ["costs", "group", "agent"] (spF K (tbs K) p_share 3) := ok_share T F_share C__share C_check_size
  have C_share : Cal P w K mg base "share" 4 ["costs", "group", "agent"] [] (spF K (tbs K) p_share 3) := ⟨_, _, [], G_share, m_share, F_share.kp, .nil, F_share.bindsN fun _ _ _ _ _ _ us hl => match us, hl with | [_, _, _], _ => rfl⟩
  exact ok_law T F_law C__law_add C__law_charge C__law_costs C__law_draws C__law_fraction C__law_less C__law_make C__law_medians C__law_minus C__law_refusal C__law_same C__law_share C__law_take C__law_times C_charge C_share
end UbK
open PySem PySem.W PySem.Calls PyProof.Rows
set_option maxHeartbeats 0 in
theorem PySem.Challenge.cw_unbent_k54_medians_and_shared_costs_holds : PySem.Challenge.rw_unbent_k54_medians_and_shared_costs.Holds := by
  w_on; o_law
  refine HandSHeadRun.head_imp (r := OpenLaw.row PySem.Challenge.rw_unbent_k54_medians_and_shared_costs) (q := view (OpenLaw.row PySem.Challenge.rw_unbent_k54_medians_and_shared_costs).prog [0, 48]) (H := UbK.hk) (ob := UbK.ob) (M := 4000) (loose := UbK.loose) (d := HandSHeadRun.topDef (OpenLaw.row PySem.Challenge.rw_unbent_k54_medians_and_shared_costs).prog 48) (kwd := []) UbK.ob_eq UbK.runHead
    (by kernel_rfl) (by kernel_rfl) (by kernel_rfl) (by rfl) (by first | assumption | decide +kernel) (by decide +kernel) ⟨rfl, rfl, rfl, rfl, rfl, by decide +kernel⟩ ?hw ?hc
  case hw => w_witness2
  case hc =>
    refine UbG.endOfLawT (l := PySem.Challenge.rw_unbent_k54_medians_and_shared_costs) (n := 63) (k := 74) (x := "script") rfl (by decide) (by kernel_rfl) ⟨rfl, by decide, by decide⟩ UbK.tf ?F
    intro w mg fa h Y G hmg0
    obtain ⟨K, KX, c⟩ := Y
    have hmg : mg ("law" : PySem.Str) = some (.ref fa) := by
      have e : (HandSHeadRun.topDef (OpenLaw.row PySem.Challenge.rw_unbent_k54_medians_and_shared_costs).prog 48).name = ("law" : PySem.Str) := by kernel_rfl
      rw [← e]
      exact hmg0
    obtain ⟨fd, hb, hF⟩ := UbK.facts KX G hmg c (PySem.Challenge.rw_unbent_k54_medians_and_shared_costs).prog (by kernel_rfl) (by kernel_rfl)
    exact ⟨K, fd, UbP.spF K (UbK.tbs K) UbK.p_law 1, KX, c.x.hd, c.x.out, c.x.empty, hb, fun H a ns hl hz hT hS => UbK.law_sp hl hT hS fun _ => rfl, hF⟩
