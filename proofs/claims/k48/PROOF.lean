import PyProof.Rows.All
import Wide.All
import OpenK.AllK
import Wide.FinOn
import HandS.ForMost
import HandS.ForExc
import HandS.Wide
import HandS.Gcd
import HandS.IsInst
import HandS.Defaults
import HandS.ExcIs
import HandS.Flow
import HandS.Small
import HandS.HeadHook4
import HandS.HeadEnd
import HandS.AnyAll
import HandS.GenList
import HandS.NestedK
import HandS.HeadWalk
import HandS.Rev
import HandS.Conv
import PyProof.StrLaws
import HandS.ExcInit
import HandS.FStr
import HandS.MakeKwOnly
import HandS.ExcField
import HandS.CallSlots
import HandS.MakeKw
import KE.KExcSuper
import HandS.Nested
import PySem.PyData
import HandS.TupLe
import HandS.TupAny
import HandS.Text
import KE.KMathGC
import HandS.TupSets
import HandS.SortInts
import HandS.SortKw
import HandS.Deep
import HandS.Codes
import HandS.Steps
import HandS.Strs
import PyProof.Rows.SetFrom
import HandS.SetKeys
import PyProof.MinMaxWalk
import PyProof.WalkInts
import KE.KExcIs
import HandS.Zip
import HandS.TryMany
import HandS.Iter
import HandS.SetFor
import HandS.Head0
import HandS.Head1
import HandS.Head2
import HandS.HeadHook1
import HandS.HeadHook2
import HandS.HeadHook3
import HandS.Head3
import PySem.Challenge.RW_unbent_k48_deferred_acceptance
set_option Elab.async false
set_option linter.all false
set_option maxRecDepth 100000
set_option maxHeartbeats 4000000
namespace UbM
/-- m turns of Euclid are enough for a, b -/
def Enough (m a b : Nat) : Prop := ∃ e, (b < 2 ^ e ∧ 2 * e + 1 ≤ m) ∨ (b < a ∧ a < 2 ^ (e + 1) ∧ 2 * e + 2 ≤ m)
theorem Enough.pos {m a b : Nat} (h : Enough m a b) : 0 < m := by
  obtain ⟨e, h | h⟩ := h <;> omega
theorem half_mod {a b : Nat} (hb : 0 < b) (h : b < a) : 2 * (a % b) < a := by
  have h1 := Nat.mod_lt a hb
  have h2 := Nat.div_add_mod a b
  have h3 : 1 ≤ a / b := (Nat.le_div_iff_mul_le hb).mpr (by omega)
  have h4 : b * 1 ≤ b * (a / b) := Nat.mul_le_mul_left b h3
  omega
theorem Enough.step {m a b : Nat} (hb : 0 < b) (h : Enough m a b) : Enough (m - 1) b (a % b) := by
  obtain ⟨e, ⟨h1, h2⟩ | ⟨h1, h2, h3⟩⟩ := h
  · cases e with
    | zero =>
      have : b < 1 := h1
      omega
    | succ e =>
      refine ⟨e, .inr ⟨Nat.mod_lt _ hb, h1, by omega⟩⟩
  · refine ⟨e, .inl ⟨?_, by omega⟩⟩
    have h4 := half_mod hb h1
    have h5 : 2 ^ (e + 1) = 2 ^ e * 2 := Nat.pow_succ ..
    omega
theorem int_gcd (p q : Int) : q.gcd p = Nat.gcd p.natAbs q.natAbs := by
  unfold Int.gcd
  exact Nat.gcd_comm ..
theorem den_pos {p q : Int} (h : 0 < q) : q / ((Nat.gcd p.natAbs q.natAbs : Nat) : Int) = ((Rat.divInt p q).den : Int) := by
  rw [Rat.den_divInt, if_neg (by omega), int_gcd]
  have e : (q.natAbs : Int) = q := by omega
  rw [Int.natCast_ediv, e]
theorem gcd_pos {p q : Int} (h : q ≠ 0) : 0 < Nat.gcd p.natAbs q.natAbs := Nat.gcd_pos_of_pos_right _ (by omega)
theorem dvd_l (p q : Int) : ((Nat.gcd p.natAbs q.natAbs : Nat) : Int) ∣ p := Int.ofNat_dvd_left.mpr (Nat.gcd_dvd_left ..)
theorem dvd_r (p q : Int) : ((Nat.gcd p.natAbs q.natAbs : Nat) : Int) ∣ q := Int.ofNat_dvd_left.mpr (Nat.gcd_dvd_right ..)
def Bd (n : Nat) (r : Rat) : Prop := r.num.natAbs < 2 ^ n ∧ r.den < 2 ^ n
theorem Bd.mono {n m : Nat} {r : Rat} (h : Bd n r) (k : n ≤ m) : Bd m r := ⟨Nat.lt_of_lt_of_le h.1 (Nat.pow_le_pow_right (by decide) k), Nat.lt_of_lt_of_le h.2 (Nat.pow_le_pow_right (by decide) k)⟩
theorem mul_lt {i j : Int} {a b : Nat} (ha : i.natAbs < 2 ^ a) (hb : j.natAbs < 2 ^ b) : (i * j).natAbs < 2 ^ (a + b) := by
  rw [Int.natAbs_mul, Nat.pow_add]
  exact Nat.mul_lt_mul'' ha hb
theorem sub_lt {i j : Int} {a b : Nat} (ha : i.natAbs < 2 ^ a) (hb : j.natAbs < 2 ^ b) : (i - j).natAbs < 2 ^ (max a b + 1) := by
  have h1 : (2 : Nat) ^ a ≤ 2 ^ (max a b) := Nat.pow_le_pow_right (by decide) (by omega)
  have h2 : (2 : Nat) ^ b ≤ 2 ^ (max a b) := Nat.pow_le_pow_right (by decide) (by omega)
  have h3 : (2 : Nat) ^ (max a b + 1) = 2 ^ (max a b) * 2 := Nat.pow_succ ..
  omega
end UbM
namespace Ub
open PySem PySem.Spec PyProof.Rows L2 UbM
theorem sameNew {H : Hp} {p : Addr} {o : HO} (h : H p = none) : Same H (upd H p o) := fun b x e => by
  rw [upd_ne (ne_of_none e h)]
  exact e
theorem Same.tseq {K : PySem.W.Frag} {H H' : Hp} {a : Addr} {xs : List V} (e : Same H H') (h : SqT K H a xs) : SqT K H' a xs := by
  rcases h with (h | ⟨o, h⟩) | h
  · exact .inl (.inl (e _ _ h))
  · exact .inl (.inr ⟨o, e _ _ h⟩)
  · exact .inr h
mutual
theorem Dp.mono {K : PySem.W.Frag} {H H' : Hp} (e : Same H H') : ∀ (d : PyData) (v : V), Dp K H v d → Dp K H' v d
  | .none, _, h => by cases h; exact .non
  | .bool b, _, h => by cases h; exact .bl b
  | .int i, _, h => by cases h; exact .int i
  | .str x, _, h => by cases h; exact .str x
  | .list ds, _, h => by
    cases h with
    | lst hs ha => exact .lst (Same.seq e hs) (Dp.monoAll e ds _ ha)
  | .tuple ds, _, h => by
    cases h with
    | tup hs ha => exact .tup (Same.tseq e hs) (Dp.monoAll e ds _ ha)
  | .dict _, _, h => by cases h
theorem Dp.monoAll {K : PySem.W.Frag} {H H' : Hp} (e : Same H H') : ∀ (ds : List PyData) (vs : List V), DpAll K H vs ds → DpAll K H' vs ds
  | [], _, h => by cases h; exact .nil
  | d :: ds, _, h => by
    cases h with
    | cons h1 h2 => exact .cons (Dp.mono e d _ h1) (Dp.monoAll e ds _ h2)
end
/-- a fraction as data -/
def frD (r : Rat) : PyData := .tuple [.int r.num, .int (r.den : Int)]
/-- v is the fraction r -/
def Fr (K : PySem.W.Frag) (H : Hp) (v : V) (r : Rat) : Prop := Dp K H v (frD r)
theorem Fr.mono {K : PySem.W.Frag} {H H' : Hp} {v : V} {r : Rat} (e : Same H H') (h : Fr K H v r) : Fr K H' v r := Dp.mono e _ _ h
theorem Fr.get {K : PySem.W.Frag} {H : Hp} {v : V} {r : Rat} (h : Fr K H v r) : ∃ a, v = .ref a ∧ SqT K H a [.int r.num, .int (r.den : Int)] := by
  unfold Fr frD at h
  cases h with
  | tup hs ha =>
    cases ha with
    | cons h1 h2 =>
      cases h2 with
      | cons h2 h3 =>
        cases h3
        cases h1
        cases h2
        exact ⟨_, rfl, hs⟩
def CDivX (_ j : Int) : Prop := j ≠ 0 ∧ j.natAbs.log2 < 9000
section
variable {X : Cx}
theorem op_fdivX : OpR X (binaryOp .FloorDiv) (rI CDivX fun i j => .int (i.fdiv j)) := opI fun i j _ _ _ _ _ hc q => floordiv_int hc.1 q (.inl (PyProof.noPylong_of_log2 hc.2))
end
/-- * of two ints: one below 2 ^ 64, or together below a million bits -/
def CMulG (i j : Int) : Prop := CMul i j ∨ CMulW i j
section
variable {X : Cx}
theorem op_mulG : OpR X (binaryOp .Mult) (rI CMulG fun i j => .int (i * j)) := opI fun _ _ _ _ _ _ _ hc q => mul_int q (by
  rcases hc with hc | hc
  · exact hc.ok
  · exact hc.ok)
end
/-- at the name x stands a def that keeps the promise sp, by at most level k; dvs: the defaults that fill up -/
structure Cal (P : Program) (w : World) (K : PySem.W.Frag) (mg : Str → Option Value) (base : Heap) (x : Str) (k : Nat) (ps : List Str) (dvs : List V) (sp : Sp) : Prop where
  ex : ∃ (f : Addr) (fd : FuncData) (ds : List Value), FnOk P w K mg base (L2.CX P w) k f fd ps sp ∧ mg x = some (.ref f) ∧ PySem.W.keepIn K (.ref f) = true ∧ Vals dvs ds ∧ Binds K fd ps ds
theorem Cal.mono {P : Program} {w : World} {K : PySem.W.Frag} {mg : Str → Option Value} {base : Heap} {x : Str} {k : Nat} {ps : List Str} {dvs : List V} {sp sp' : Sp} (C : Cal P w K mg base x k ps dvs sp)
    (h : ∀ vs H Q E, sp' vs H Q E → sp vs H Q E) : Cal P w K mg base x k ps dvs sp' := by
  obtain ⟨f, fd, ds, F, r⟩ := C.ex
  exact ⟨f, fd, ds, F.imp h, r⟩
theorem bb_int : bootBuiltins "int" = some (.type "int") := by decide +kernel
theorem bb_abs : bootBuiltins "abs" = some (.builtin "abs") := by decide +kernel
theorem bb_list : bootBuiltins "list" = some (.type "list") := by decide +kernel
theorem bb_len : bootBuiltins "len" = some (.builtin "len") := by decide +kernel
theorem bb_isinstance : bootBuiltins "isinstance" = some (.builtin "isinstance") := by decide +kernel
theorem bb_tuple : bootBuiltins "tuple" = some (.type "tuple") := by decide +kernel
theorem bb_bool : bootBuiltins "bool" = some (.type "bool") := by decide +kernel
theorem bb_str : bootBuiltins "str" = some (.type "str") := by decide +kernel
theorem bb_any : bootBuiltins "any" = some (.builtin "any") := by decide +kernel
theorem bb_all : bootBuiltins "all" = some (.builtin "all") := by decide +kernel
/-- isinstance of data -/
def tyD : PyData → String
  | .none => "NoneType"
  | .bool _ => "bool"
  | .int _ => "int"
  | .str _ => "str"
  | .list _ => "list"
  | .tuple _ => "tuple"
  | .dict _ => "dict"
theorem tyx {K : PySem.W.Frag} {H : Hp} {v : V} {d : PyData} (h : Dp K H v d) : TyX K H v (.type (tyD d)) := by
  cases h with
  | non => exact .base .non
  | bl b => exact .base (.bl b)
  | int i => exact .base (.int i)
  | str x => exact .base (.str x)
  | lst hs _ =>
    rcases hs with (hs | ⟨o, hs⟩) | ⟨o, its, n, hl, hc, _⟩
    · exact .base (.lst hs)
    · exact .base (.frz hs)
    · exact .kList hl hc
  | tup hs _ =>
    rcases hs with (hs | ⟨o, hs⟩) | ⟨o, its, n, hl, hc, _⟩
    · exact .base (.tup hs)
    · exact .fTuple hs
    · exact .kTuple hl hc
/-- isinstance(x, T): the answer by the data's type -/
theorem isiD {K : PySem.W.Frag} {H : Hp} {v : V} {d : PyData} {T : String} {b : Bool} {Q : VK} (h : Dp K H v d) (k : kitB (tyD d) T = some b) (q : Q (.bl b) H) : rIsi K [v, .ty T] H Q := ⟨v, .ty T, .type (tyD d), .type T, b, rfl, .ty T, tyx h, kit_ty k, q⟩
theorem log2_le {x a : Nat} (h : x < 2 ^ a) : x.log2 ≤ a := by
  by_cases ha : a = 0
  · subst ha
    have : x = 0 := by omega
    subst this
    exact Nat.le_of_eq (by decide)
  · exact Nat.le_of_lt (PySem.Flt.log2_lt_of (by omega) h)
theorem mulW {i j : Int} {a b : Nat} (ha : i.natAbs < 2 ^ a) (hb : j.natAbs < 2 ^ b) (h : a + b ≤ 900000) : CMulG i j := .inr <| by
  have h1 := log2_le ha
  have h2 := log2_le hb
  unfold CMulW
  omega
def rInt1 : List V → Hp → VK → Prop := fun xs H Q => (∃ i, xs = [.int i] ∧ Q (.int i) H) ∨ ∃ k, xs = [.bl k] ∧ Q (.int (if k then 1 else 0)) H
def rMin2 : List V → Hp → VK → Prop := fun xs H Q => ∃ i j, xs = [.int i, .int j] ∧ Q (.int (if j < i then j else i)) H
def rAbs1 : List V → Hp → VK → Prop := fun xs H Q => ∃ i, xs = [.int i] ∧ Q (.int (if i < 0 then -i else i)) H
def rLenS (K : PySem.W.Frag) : List V → Hp → VK → Prop := fun xs H Q => ∃ p ys, xs = [.ref p] ∧ (SqL K H p ys ∨ SqT K H p ys) ∧ Q (.int ys.length) H
def rListOf (K : PySem.W.Frag) : List V → Hp → VK → Prop := fun xs H Q => ∃ p ys, xs = [.ref p] ∧ (SqL K H p ys ∨ SqT K H p ys) ∧ ∀ l, H l = none → Q (.ref l) (upd H l (.lst ys))
section
variable {X : Cx}
theorem cl_int : CallR X (.type "int") rInt1 := call_int1
theorem cl_abs : CallR X (.builtin "abs") rAbs1 := call_abs
theorem cl_len : CallR X (.builtin "len") (rLenS X.K) := call_len_seq
theorem cl_list : CallR X (.type "list") (rListOf X.K) := call_list_of
end
def rIsN1 : R2 := fun x y H Q => y = .non ∧ Q (.bl (decide (x = .non))) H
def rNotN1 : R2 := fun x y H Q => y = .non ∧ Q (.bl (!decide (x = .non))) H
section
variable {X : Cx}
theorem op_isNo : OpR X (compareOp .Is) rIsN1 := op_isN
theorem op_notNo : OpR X (compareOp .IsNot) rNotN1 := op_notN
end
/-- == and !=: of scalars, or of data -/
def rEqA (K : PySem.W.Frag) : R2 := fun x y H Q => rEq x y H Q ∨ rEqD K x y H Q
def rNeA (K : PySem.W.Frag) : R2 := fun x y H Q => rNe x y H Q ∨ rNeD K x y H Q
section
variable {X : Cx}
theorem op_eqA (hu : X.A.units + 64 < cLine) : OpR X (compareOp .Eq) (rEqA X.K) := fun pins s σ H x y v u Q I rx ry h => h.elim (op_eq pins s σ H x y v u Q I rx ry) (op_eqD hu pins s σ H x y v u Q I rx ry)
theorem op_neA (hu : X.A.units + 64 < cLine) : OpR X (compareOp .NotEq) (rNeA X.K) := fun pins s σ H x y v u Q I rx ry h => h.elim (op_ne pins s σ H x y v u Q I rx ry) (op_neD hu pins s σ H x y v u Q I rx ry)
end
section
variable {K : PySem.W.Frag} {H : Hp} {Q : VK} {σ : L2.St}
theorem rdAdd {i j : Int} (q : Q (.int (i + j)) H) : rI0 (fun i j => .int (i + j)) (.int i) (.int j) H Q := ⟨i, j, rfl, rfl, q⟩
theorem rdSub {i j : Int} (q : Q (.int (i - j)) H) : rI0 (fun i j => .int (i - j)) (.int i) (.int j) H Q := ⟨i, j, rfl, rfl, q⟩
theorem rdMul {i j : Int} (c : CMulG i j) (q : Q (.int (i * j)) H) : rI CMulG (fun i j => .int (i * j)) (.int i) (.int j) H Q := ⟨i, j, rfl, rfl, c, q⟩
theorem rdNeg {i : Int} (q : Q (.int (-i)) H) : rU (fun i => .int (-i)) (.int i) H Q := ⟨i, rfl, q⟩
theorem rdEqI {i j : Int} (q : Q (.bl (decide (i = j))) H) : rEqA K (.int i) (.int j) H Q := .inl <| ⟨rfl, by
  have e : decide (V.int i = V.int j) = decide (i = j) := by
    rw [dec_int]
    exact Bool.beq_eq_decide_eq ..
  rw [e]
  exact q⟩
theorem rdNeI {i j : Int} (q : Q (.bl (!decide (i = j))) H) : rNeA K (.int i) (.int j) H Q := .inl <| ⟨rfl, by
  have e : decide (V.int i = V.int j) = decide (i = j) := by
    rw [dec_int]
    exact Bool.beq_eq_decide_eq ..
  rw [e]
  exact q⟩
theorem rdLt {i j : Int} (q : Q (.bl (decide (i < j))) H) : rI0 (fun i j => .bl (decide (i < j))) (.int i) (.int j) H Q := ⟨i, j, rfl, rfl, q⟩
theorem rdGt {i j : Int} (q : Q (.bl (decide (j < i))) H) : rI0 (fun i j => .bl (decide (j < i))) (.int i) (.int j) H Q := ⟨i, j, rfl, rfl, q⟩
theorem rdLe {i j : Int} (q : Q (.bl (decide (i ≤ j))) H) : rI0 (fun i j => .bl (decide (i ≤ j))) (.int i) (.int j) H Q := ⟨i, j, rfl, rfl, q⟩
theorem rdGe {i j : Int} (q : Q (.bl (decide (j ≤ i))) H) : rI0 (fun i j => .bl (decide (j ≤ i))) (.int i) (.int j) H Q := ⟨i, j, rfl, rfl, q⟩
theorem rdInt {i : Int} (q : Q (.int i) H) : rInt1 [.int i] H Q := .inl ⟨i, rfl, q⟩
theorem rdMin2 {m n : Nat} (q : Q (.int ((min m n : Nat) : Int)) H) : rMin2 [.int (m : Int), .int (n : Int)] H Q := ⟨_, _, rfl, by
  have e : (if (n : Int) < m then (n : Int) else m) = ((min m n : Nat) : Int) := by split <;> omega
  rw [e]
  exact q⟩
theorem rdIntB {b : Bool} (q : Q (.int (if b then 1 else 0)) H) : rInt1 [.bl b] H Q := .inr ⟨b, rfl, q⟩
theorem rdAbs {i : Int} (q : Q (.int (i.natAbs : Int)) H) : rAbs1 [.int i] H Q := ⟨i, rfl, by
  have e : (if i < 0 then -i else i) = (i.natAbs : Int) := by split <;> omega
  rw [e]
  exact q⟩
theorem rdLenT {a : Addr} {xs : List V} (h : SqT K H a xs) (q : Q (.int (xs.length : Int)) H) : rLenS K [.ref a] H Q := ⟨a, xs, rfl, .inr h, q⟩
theorem rdLenL {a : Addr} {xs : List V} (h : SqL K H a xs) (q : Q (.int (xs.length : Int)) H) : rLenS K [.ref a] H Q := ⟨a, xs, rfl, .inl h, q⟩
theorem rdIxT {a : Addr} {xs : List V} {i : Int} {v : V} (h : SqT K H a xs) (e : atI xs i = some v) (q : Q v H) : rIx K (.ref a) (.int i) H Q := .inr (.inl ⟨a, xs, i, v, rfl, rfl, h, e, q⟩)
theorem rdIxL {a : Addr} {xs : List V} {i : Int} {v : V} (h : SqL K H a xs) (e : atI xs i = some v) (q : Q v H) : rIx K (.ref a) (.int i) H Q := .inl ⟨a, xs, i, v, rfl, rfl, h, e, q⟩
theorem ixFr0 {x : V} {r : Rat} (h : Fr K H x r) (q : Q (.int r.num) H) : rIx K x (.int 0) H Q := by
  obtain ⟨a, rfl, hs⟩ := h.get
  exact rdIxT hs rfl q
theorem ixFr1 {x : V} {r : Rat} (h : Fr K H x r) (q : Q (.int (r.den : Int)) H) : rIx K x (.int 1) H Q := by
  obtain ⟨a, rfl, hs⟩ := h.get
  exact rdIxT hs rfl q
theorem dpPair {x : V} {p q : Int} (h : Dp K H x (.tuple [.int p, .int q])) : ∃ a, x = .ref a ∧ SqT K H a [.int p, .int q] := by
  cases h with
  | tup hs ha =>
    cases ha with
    | cons h1 h2 =>
      cases h2 with
      | cons h2 h3 =>
        cases h3
        cases h1
        cases h2
        exact ⟨_, rfl, hs⟩
theorem ixP0 {x : V} {p z : Int} (h : Dp K H x (.tuple [.int p, .int z])) (q : Q (.int p) H) : rIx K x (.int 0) H Q := by
  obtain ⟨a, rfl, hs⟩ := dpPair h
  exact rdIxT hs rfl q
theorem ixP1 {x : V} {p z : Int} (h : Dp K H x (.tuple [.int p, .int z])) (q : Q (.int z) H) : rIx K x (.int 1) H Q := by
  obtain ⟨a, rfl, hs⟩ := dpPair h
  exact rdIxT hs rfl q
theorem rdGcd {a b : Int} (q : Q (.int ((Nat.gcd a.natAbs b.natAbs : Nat) : Int)) H) : rGcd [.int a, .int b] H Q := ⟨a, b, rfl, q⟩
end
theorem noExc {P : Program} {w : World} {H : Hp} {s : Shared} {e : Value} {s' : Shared} (z : L2.CX P w [] H s (fun _ _ _ => False) e s') : False := by
  obtain ⟨_, _, _, _, _, _, _, _, _, _, _, _, z⟩ := z
  exact z.elim
def dInt : PyData → Bool
  | .int _ => true
  | .bool _ => true
  | _ => false
def dBool : PyData → Bool
  | .bool _ => true
  | _ => false
def dStr : PyData → Bool
  | .str _ => true
  | _ => false
def dTup : PyData → Bool
  | .tuple _ => true
  | _ => false
def dLst : PyData → Bool
  | .list _ => true
  | _ => false
section
variable {K : PySem.W.Frag} {H : Hp} {Q : VK} {v : V} {d : PyData}
theorem isiInt (h : Dp K H v d) (q : Q (.bl (dInt d)) H) : rIsi K [v, .ty "int"] H Q := isiD h (by
  cases h with
  | non => exact (by decide +kernel : kitB "NoneType" "int" = some false)
  | bl b => exact (by decide +kernel : kitB "bool" "int" = some true)
  | int i => exact (by decide +kernel : kitB "int" "int" = some true)
  | str x => exact (by decide +kernel : kitB "str" "int" = some false)
  | lst h1 h2 => exact (by decide +kernel : kitB "list" "int" = some false)
  | tup h1 h2 => exact (by decide +kernel : kitB "tuple" "int" = some false)) q
theorem isiBool (h : Dp K H v d) (q : Q (.bl (dBool d)) H) : rIsi K [v, .ty "bool"] H Q := isiD h (by
  cases h with
  | non => exact (by decide +kernel : kitB "NoneType" "bool" = some false)
  | bl b => exact (by decide +kernel : kitB "bool" "bool" = some true)
  | int i => exact (by decide +kernel : kitB "int" "bool" = some false)
  | str x => exact (by decide +kernel : kitB "str" "bool" = some false)
  | lst h1 h2 => exact (by decide +kernel : kitB "list" "bool" = some false)
  | tup h1 h2 => exact (by decide +kernel : kitB "tuple" "bool" = some false)) q
theorem isiStr (h : Dp K H v d) (q : Q (.bl (dStr d)) H) : rIsi K [v, .ty "str"] H Q := isiD h (by
  cases h with
  | non => exact (by decide +kernel : kitB "NoneType" "str" = some false)
  | bl b => exact (by decide +kernel : kitB "bool" "str" = some false)
  | int i => exact (by decide +kernel : kitB "int" "str" = some false)
  | str x => exact (by decide +kernel : kitB "str" "str" = some true)
  | lst h1 h2 => exact (by decide +kernel : kitB "list" "str" = some false)
  | tup h1 h2 => exact (by decide +kernel : kitB "tuple" "str" = some false)) q
theorem isiTup (h : Dp K H v d) (q : Q (.bl (dTup d)) H) : rIsi K [v, .ty "tuple"] H Q := isiD h (by
  cases h with
  | non => exact (by decide +kernel : kitB "NoneType" "tuple" = some false)
  | bl b => exact (by decide +kernel : kitB "bool" "tuple" = some false)
  | int i => exact (by decide +kernel : kitB "int" "tuple" = some false)
  | str x => exact (by decide +kernel : kitB "str" "tuple" = some false)
  | lst h1 h2 => exact (by decide +kernel : kitB "list" "tuple" = some false)
  | tup h1 h2 => exact (by decide +kernel : kitB "tuple" "tuple" = some true)) q
theorem isiLst (h : Dp K H v d) (q : Q (.bl (dLst d)) H) : rIsi K [v, .ty "list"] H Q := isiD h (by
  cases h with
  | non => exact (by decide +kernel : kitB "NoneType" "list" = some false)
  | bl b => exact (by decide +kernel : kitB "bool" "list" = some false)
  | int i => exact (by decide +kernel : kitB "int" "list" = some false)
  | str x => exact (by decide +kernel : kitB "str" "list" = some false)
  | lst h1 h2 => exact (by decide +kernel : kitB "list" "list" = some true)
  | tup h1 h2 => exact (by decide +kernel : kitB "tuple" "list" = some false)) q
end
def dNon : PyData → Bool
  | .none => true
  | _ => false
section
variable {K : PySem.W.Frag} {H : Hp} {Q : VK} {v : V} {d : PyData}
theorem dNon_eq (h : Dp K H v d) : decide (v = .non) = dNon d := by cases h <;> rfl
theorem rdIsN (h : Dp K H v d) (q : Q (.bl (dNon d)) H) : rIsN1 v .non H Q := ⟨rfl, by rw [dNon_eq h]; exact q⟩
theorem rdNotN (h : Dp K H v d) (q : Q (.bl (!dNon d)) H) : rNotN1 v .non H Q := ⟨rfl, by rw [dNon_eq h]; exact q⟩
theorem rdEqB {i j : Bool} (q : Q (.bl (decide (i = j))) H) : rEqA K (.bl i) (.bl j) H Q := .inl <| ⟨rfl, by
  have e : decide (V.bl i = V.bl j) = decide (i = j) := by
    rw [dec_bl]
    exact Bool.beq_eq_decide_eq ..
  rw [e]
  exact q⟩
theorem rdEqS {i j : Str} (q : Q (.bl (decide (i = j))) H) : rEqA K (.str i) (.str j) H Q := .inl <| ⟨rfl, by
  have e : decide (V.str i = V.str j) = decide (i = j) := by
    rw [dec_str]
    exact Bool.beq_eq_decide_eq ..
  rw [e]
  exact q⟩
theorem rdNeS {i j : Str} (q : Q (.bl (!decide (i = j))) H) : rNeA K (.str i) (.str j) H Q := .inl <| ⟨rfl, by
  have e : decide (V.str i = V.str j) = decide (i = j) := by
    rw [dec_str]
    exact Bool.beq_eq_decide_eq ..
  rw [e]
  exact q⟩
end
/-- a display's reading, by name -/
def rTup : List V → Hp → VK → Prop := fun xs H Q => xs.length ≤ sizeLine ∧ ∀ p, H p = none → Q (.ref p) (upd H p (.tup xs))
def rLst : List V → Hp → VK → Prop := fun xs H Q => xs.length ≤ sizeLine ∧ ∀ p, H p = none → Q (.ref p) (upd H p (.lst xs))
def tTupN (t : TA) : TE := fun σ H Q => t σ H fun xs H1 => rTup xs H1 Q
def tLstN (t : TA) : TE := fun σ H Q => t σ H fun xs H1 => rLst xs H1 Q
section
variable {K : PySem.W.Frag} {H : Hp} {Q : VK}
theorem rdTupD {xs : List V} {ds : List PyData} (h : DpAll K H xs ds) (hz : xs.length ≤ sizeLine) (q : ∀ H' v, Same H H' → Dp K H' v (.tuple ds) → Q v H') : rTup xs H Q :=
  ⟨hz, fun p np => q _ _ (sameNew np) (.tup (.inl (.inl upd_same)) (Dp.monoAll (sameNew np) _ _ h))⟩
end
theorem small_line {n : Nat} (h : n ≤ 1000) : n ≤ sizeLine := Nat.le_of_lt (small1000 h)
theorem dpAll_len {K : PySem.W.Frag} {H : Hp} : ∀ {xs : List V} {ds : List PyData}, DpAll K H xs ds → xs.length = ds.length
  | _, _, .nil => rfl
  | _, _, .cons _ h2 => congrArg Nat.succ (dpAll_len h2)
end Ub
namespace Ub
open PySem PySem.Spec PyProof.Rows L2 UbM
/-- all stands but what is at d -/
def But (d : Addr) (H H' : Hp) : Prop := ∀ b o, b ≠ d → H b = some o → H' b = some o
/-- the deck at d, its cells at s -/
def DeckS (H : Hp) (d s : Addr) : Prop := ∃ (ns : List Int) (i r m : Int), H d = some (.lst [.ref s, .int i, .int r, .int m]) ∧ H s = some (.lst (ns.map V.int)) ∧ s ≠ d ∧ 0 ≤ i ∧ ns.length ≤ 63
/-- what a draw leaves: all but the deck's own list; the deck keeps its cells -/
structure SameX (d : Addr) (H H' : Hp) : Prop where
  but : But d H H'
  cells : ∀ s, DeckS H d s → DeckS H' d s
theorem SameX.refl {d : Addr} (H : Hp) : SameX d H H := ⟨fun _ _ _ h => h, fun _ h => h⟩
theorem SameX.trans {d : Addr} {H H1 H2 : Hp} (a : SameX d H H1) (b : SameX d H1 H2) : SameX d H H2 := ⟨fun c o n h => b.but c o n (a.but c o n h), fun s h => b.cells s (a.cells s h)⟩
theorem Same.x {d : Addr} {H H' : Hp} (a : Same H H') : SameX d H H' := ⟨fun b o _ h => a b o h, fun s ⟨ns, i, r, m, h1, h2, h3⟩ => ⟨ns, i, r, m, a _ _ h1, a _ _ h2, h3⟩⟩
theorem but_upd {d : Addr} {H : Hp} {o : HO} : But d H (upd H d o) := fun b x n h => by
  rw [upd_ne n]
  exact h
structure Deck (H : Hp) (d : Addr) : Prop where
  ex : ∃ (s : Addr) (ns : List Int) (i r m : Int), H d = some (.lst [.ref s, .int i, .int r, .int m]) ∧ H s = some (.lst (ns.map V.int)) ∧ s ≠ d ∧ 0 ≤ i ∧ ns.length ≤ 63
theorem Deck.mono {H H' : Hp} {d : Addr} (D : Deck H d) (e : Same H H') : Deck H' d := by
  obtain ⟨s, ns, i, r, m, h1, h2, h3, h4, h5⟩ := D.ex
  exact ⟨s, ns, i, r, m, e _ _ h1, e _ _ h2, h3, h4, h5⟩
/-- no list in it -/
def noL : PyData → Bool
  | .none | .bool _ | .int _ | .str _ => true
  | .list _ | .dict _ => false
  | .tuple ds => decide (ds.length ≤ 1000) && noLs ds
where noLs : List PyData → Bool
  | [] => true
  | d :: ds => noL d && noLs ds
theorem tseqX {K : PySem.W.Frag} {H H' : Hp} {d a : Addr} {xs : List V} (e : But d H H') (hd : ∃ ys, H d = some (.lst ys)) (h : SqT K H a xs) : SqT K H' a xs := by
  obtain ⟨ys, hd⟩ := hd
  rcases h with (h | ⟨o, h⟩) | h
  · exact .inl (.inl (e _ _ (ne_of h hd (by intro z; cases z)) h))
  · exact .inl (.inr ⟨o, e _ _ (ne_of h hd (by intro z; cases z)) h⟩)
  · exact .inr h
mutual
theorem Dp.monoX {K : PySem.W.Frag} {H H' : Hp} {d : Addr} (e : But d H H') (hd : ∃ ys, H d = some (.lst ys)) : ∀ (dt : PyData) (v : V), noL dt = true → Dp K H v dt → Dp K H' v dt
  | .none, _, _, h => by cases h; exact .non
  | .bool b, _, _, h => by cases h; exact .bl b
  | .int i, _, _, h => by cases h; exact .int i
  | .str x, _, _, h => by cases h; exact .str x
  | .list ds, _, n, _ => by
    unfold noL at n
    cases n
  | .tuple ds, _, n, h => by
    cases h with
    | tup hs ha => exact .tup (tseqX e hd hs) (Dp.monoXAll e hd ds _ (by unfold noL at n; exact (Bool.and_eq_true_iff.mp n).2) ha)
  | .dict _, _, _, h => by cases h
theorem Dp.monoXAll {K : PySem.W.Frag} {H H' : Hp} {d : Addr} (e : But d H H') (hd : ∃ ys, H d = some (.lst ys)) : ∀ (ds : List PyData) (vs : List V), noL.noLs ds = true → DpAll K H vs ds → DpAll K H' vs ds
  | [], _, _, h => by cases h; exact .nil
  | dt :: ds, _, n, h => by
    unfold noL.noLs at n
    obtain ⟨n1, n2⟩ := Bool.and_eq_true_iff.mp n
    cases h with
    | cons h1 h2 => exact .cons (Dp.monoX e hd dt _ n1 h1) (Dp.monoXAll e hd ds _ n2 h2)
end
theorem Deck.lst {H : Hp} {d : Addr} (D : Deck H d) : ∃ ys, H d = some (.lst ys) := by
  obtain ⟨s, ns, i, r, m, h1, _⟩ := D.ex
  exact ⟨_, h1⟩
theorem Deck.cells {H : Hp} {d : Addr} (D : Deck H d) : ∃ s, DeckS H d s := by
  obtain ⟨s, ns, i, r, m, h⟩ := D.ex
  exact ⟨s, ns, i, r, m, h⟩
/-- a list that was laid later than the deck is changed: the deck stands -/
theorem DeckS.upd {H H' : Hp} {d s a : Addr} {o : HO} (h0 : DeckS H d s) (h : DeckS H' d s) (ha : H a = none) : DeckS (upd H' a o) d s := by
  obtain ⟨_, _, _, _, g1, g2, _⟩ := h0
  obtain ⟨ns, i, r, m, h1, h2, h3⟩ := h
  exact ⟨ns, i, r, m, by rw [upd_ne (ne_of_none g1 ha)]; exact h1, by rw [upd_ne (ne_of_none g2 ha)]; exact h2, h3⟩
theorem SameX.upd {H H' : Hp} {d a : Addr} {o : HO} (h : SameX d H H') (ha : H a = none) : SameX d H (upd H' a o) := ⟨fun b x n e => by
  rw [upd_ne (ne_of_none e ha)]
  exact h.but _ _ n e, fun s hs => hs.upd (h.cells s hs) ha⟩
end Ub
namespace Ub
open PySem PySem.Spec PyProof.Rows L2 UbM
/-- v is a list of the fractions rs -/
def Frs (K : PySem.W.Frag) (H : Hp) (v : V) (rs : List Rat) : Prop := Dp K H v (.list (rs.map frD))
theorem Frs.mono {K : PySem.W.Frag} {H H' : Hp} {v : V} {rs : List Rat} (e : Same H H') (h : Frs K H v rs) : Frs K H' v rs := Dp.mono e _ _ h
theorem Frs.get {K : PySem.W.Frag} {H : Hp} {v : V} {rs : List Rat} (h : Frs K H v rs) : ∃ a xs, v = .ref a ∧ SqL K H a xs ∧ DpAll K H xs (rs.map frD) := by
  unfold Frs at h
  cases h with
  | lst h1 h2 => exact ⟨_, _, rfl, h1, h2⟩
theorem noL_frs : ∀ rs : List Rat, noL.noLs (rs.map frD) = true
  | [] => rfl
  | r :: rs => by
    show (noL (frD r) && noL.noLs (rs.map frD)) = true
    rw [noL_frs rs]
    rfl
/-- a tracked list of fractions, apart from the deck -/
structure Own (K : PySem.W.Frag) (H : Hp) (d a : Addr) (rs : List Rat) : Prop where
  ex : ∃ xs, H a = some (.lst xs) ∧ a ≠ d ∧ DpAll K H xs (rs.map frD)
theorem Own.mono {K : PySem.W.Frag} {H H' : Hp} {d a : Addr} {rs : List Rat} (h : Own K H d a rs) (e : Same H H') : Own K H' d a rs := by
  obtain ⟨xs, h1, h2, h3⟩ := h.ex
  exact ⟨xs, e _ _ h1, h2, Dp.monoAll e _ _ h3⟩
theorem Own.push {K : PySem.W.Frag} {H : Hp} {d a : Addr} {rs : List Rat} {v : V} {r : Rat} {xs : List V} (h1 : H a = some (.lst xs)) (h2 : a ≠ d) (h3 : DpAll K H xs (rs.map frD)) (hv : Fr K H v r) : Own K (upd H a (.lst (xs ++ [v]))) d a (rs ++ [r]) := by
  refine ⟨_, upd_same, h2, ?_⟩
  have e : But a H (upd H a (.lst (xs ++ [v]))) := but_upd
  have g := Dp.monoXAll e ⟨_, h1⟩ _ _ (noL_frs rs) h3
  have gv := Dp.monoX e ⟨_, h1⟩ (frD r) v rfl hv
  rw [List.map_append]
  exact app g gv
where
  app {K : PySem.W.Frag} {H : Hp} : ∀ {xs : List V} {ds : List PyData} {v : V} {d : PyData}, DpAll K H xs ds → Dp K H v d → DpAll K H (xs ++ [v]) (ds ++ [d])
    | _, _, _, _, .nil, h => .cons h .nil
    | _, _, _, _, .cons h1 h2, h => .cons h1 (app h2 h)
theorem dpAll_snoc {K : PySem.W.Frag} {H : Hp} {xs : List V} {ds : List PyData} {v : V} {d : PyData} (h : DpAll K H xs ds) (h2 : Dp K H v d) : DpAll K H (xs ++ [v]) (ds ++ [d]) := Own.push.app h h2
theorem forZip {K : PySem.W.Frag} {a b : Addr} {xs ys : List V} {g : TG} {tb : TS} {nx : L2.St → Hp → Prop} {rt : VK} {σ : L2.St} {H : Hp} (Pv : Nat → L2.St → Hp → Prop) (h0 : Pv 0 σ H) (hl : ∀ i σ H, Pv i σ H → SqL K H a xs ∧ SqL K H b ys)
    (hs : ∀ i x y σ H T, xs[i]? = some x → ys[i]? = some y → Pv i σ H → H T = none → g (.ref T) σ (upd H T (.tup [x, y])) fun σ2 H2 => tb { nx := Pv (i + 1), rt := rt, ct := Pv (i + 1), bk := nx } σ2 H2) (hd : ∀ σ H, Pv (min xs.length ys.length) σ H → nx σ H) :
    ∃ W : Nat → Nat → L2.St → Hp → Prop, (∃ m, W 0 m σ H) ∧ ∀ i m σ H, W i m σ H →
      ((Itz K a b).stop i H ∧ nx σ H) ∨ ((Itz K a b).go i H ∧ ∃ N : L2.St → Hp → Prop, (∀ σ' H', N σ' H' → ∃ m', m' < m ∧ W (i + 1) m' σ' H') ∧ ∀ x H', (Itz K a b).yld i H x H' → g x σ H' fun σ2 H2 => tb { nx := N, rt := rt, ct := N, bk := nx } σ2 H2) := by
  refine ⟨fun i m σ H => m = min xs.length ys.length - i ∧ i ≤ min xs.length ys.length ∧ Pv i σ H, ⟨_, rfl, Nat.zero_le _, h0⟩, ?_⟩
  rintro i m σ H ⟨rfl, hi, p⟩
  obtain ⟨q1, q2⟩ := hl i σ H p
  by_cases hlt : i < min xs.length ys.length
  · have l1 : i < xs.length := by omega
    have l2 : i < ys.length := by omega
    refine .inr ⟨⟨xs, ys, xs[i], ys[i], q1, q2, List.getElem?_eq_getElem l1, List.getElem?_eq_getElem l2⟩, Pv (i + 1), fun σ' H' p' => ⟨_, ?_, rfl, hlt, p'⟩, fun x H' yl => ?_⟩
    · omega
    · obtain ⟨T, x1, y1, rfl, nT, rfl, f1, f2⟩ := yl
      exact hs i x1 y1 σ H T (f1 _ q1) (f2 _ q2) p nT
  · have e : i = min xs.length ys.length := by omega
    refine .inl ⟨⟨xs, ys, q1, q2, by omega⟩, hd σ H (e ▸ p)⟩
end Ub
namespace UbG
open PySem PySem.Spec PyProof.Rows L2
/-- the expression's own scope: its names (with their places in N) are local or captured -/
structure GexOk (N : List Str) (sc scope : Scope) (own : List (Str × Nat)) : Prop where
  kind : scope.kind = .function
  co : scope.isCoroutine = false
  nocell : ∀ y ∈ scope.names, y.2 ≠ .cell
  dot : scope.names.lookup (".0" : Str) = some NameKind.local
  uniq : ∀ y ∈ scope.names, scope.names.lookup y.1 = some y.2
  ix : ∀ p ∈ own, N[p.2]? = some p.1
  free : ∀ y ∈ scope.names, y.2 = .free → sc.names.lookup y.1 = some .cell ∨ sc.names.lookup y.1 = some .free
  own : ∀ y ∈ scope.names, y.2 = .local → y.1 ∈ own.map (·.1) ∨ y.1 ∉ N
/-- the context of its frame -/
abbrev gex (X : Cx) (A : Around) (s : Shared) (H : Hp) (genv : Env) (fp : List Addr) (pn : List (Addr × Obj)) : Cx :=
  { X with A := A, s_0 := s, H_0 := H, env := genv, outer := X.stack, stack := genv :: X.stack, ex := fp, fn := fun _ => false, calm := true, pn := pn, xe := fun _ _ => False }
section
variable {X : Cx} {pins : List (Addr × Obj)} {σ : L2.St} {H : Hp} {s : Shared}
theorem Inv.same {s' : Shared} (I : Inv X pins σ H s) (hh : s'.heap = s.heap) (ho : s'.os = s.os) (hb : AllBare s'.gens) : Inv X pins σ H s' :=
  I.call' (ch := []) ho (by rw [hh]; exact Un.kept fun _ _ e => e) (by rw [hh]; exact I.hok) hb fun b z => absurd z (by simp)
theorem Inv.more {s' : Shared} (I : Inv X pins σ H s) (hh : ∀ b o, s.heap.get? b = some o → s'.heap.get? b = some o) (ho : s'.os = s.os) (hb : AllBare s'.gens) : Inv X pins σ H s' :=
  I.call' (ch := []) ho (Un.kept hh) (I.hok.kept hh) hb fun b z => absurd z (by simp)
theorem Inv.nofr (I : Inv X pins σ H s) {b : Addr} (hb : s.heap.objs.size ≤ b) : b ∉ frs X.stack := fun z => by
  rcases List.mem_cons.mp (I.stkSub _ z) with e | e
  · have h1 := I.lt
    rw [← e] at h1
    exact Nat.lt_irrefl _ (Nat.lt_of_lt_of_le h1 hb)
  · exact I.nofs hb e
theorem gex_start {scope : Scope} {own : List (Str × Nat)} {fp : List Addr} {A : Around} {genv : Env} {code : Value} {s5 : Shared} {m : Str → Option Value} {pn : List (Addr × Obj)} (I : Inv X pins σ H s) (ok : GexOk X.N X.env.scope scope own) (hN : X.N.Nodup)
    (hfp : ∀ b ∈ fp, FpOk X pins H b ∧ b < s.heap.objs.size) (hA : A.handled = none) (hfr : A.frames = some (genv :: X.stack)) (hg : genv = genEnv scope (cloFrom X.env.cells scope.names []) s.heap.objs.size code builtinsNs X.env)
    (os : s5.os = s.os) (bare : AllBare s5.gens) (kp : ∀ b o, s.heap.get? b = some o → s5.heap.get? b = some o) (ns : s5.heap.Ns s.heap.objs.size m)
    (hpn : ∀ p ∈ pn, s5.heap.get? p.1 = some p.2 ∧ s.heap.objs.size < p.1 ∧ ∀ v, p.2.data ≠ .cell v) : Inv (gex X A s H genv fp pn) [] (wipe σ (own.map (·.2))) H s5 := by
  have hfree : ∀ y ∈ scope.names, y.2 = .free → ∃ c, X.env.cells.lookup y.1 = some c := fun y hy e => by
    rcases ok.free y hy e with k | k
    · exact I.ok.has _ (.inl k)
    · exact I.ok.has _ (.inr k)
  have hL : genv.locals = s.heap.objs.size := by rw [hg]; rfl
  have hcl : genv.cells = cloFrom X.env.cells scope.names [] := by rw [hg]; rfl
  have hsc : genv.scope = scope := by rw [hg]; rfl
  have cm : ∀ {y c}, genv.cells.lookup y = some c → scope.names.lookup y = some .free ∧ X.env.cells.lookup y = some c ∧ c < s.heap.objs.size := fun {y c} e => by
    rw [hcl] at e
    rcases cloFrom_mem (PySem.mem_of_lookup e) with hm | ⟨h1, rfl⟩
    · cases hm
    · obtain ⟨c, hc⟩ := hfree _ h1 rfl
      rw [hc]
      obtain ⟨w, z⟩ := I.cell _ _ hc
      exact ⟨ok.uniq _ h1, rfl, z.lt⟩
  have look : ∀ {y}, scope.names.lookup y = some .free → ∃ c, genv.cells.lookup y = some c ∧ X.env.cells.lookup y = some c := fun {y} hl => by
    have hy : (y, NameKind.free) ∈ scope.names := PySem.mem_of_lookup hl
    obtain ⟨c', e'⟩ := mem_lookup (cloFrom_has (cells := X.env.cells) (acc := []) hy)
    rw [← hcl] at e'
    exact ⟨c', e', (cm e').2.1⟩
  have okG : (gex X A s H genv fp pn).Ok := by
    refine ⟨I.ok.mod, by show genv.scope.kind = _; rw [hsc]; exact ok.kind, by show genv.globals = _; rw [hg]; exact I.ok.glob, by show genv.builtins = _; rw [hg]; rfl, by show s.heap.objs.size ≤ genv.locals; rw [hL]; exact Nat.le_refl _,
      fun y z c e1 e2 => I.ok.inj y z c (cm e1).2.1 (cm e2).2.1, fun y hy => ?_, fun y c z e => ?_, fun _ => hA, hfr, .inr ⟨rfl, by show genv.frame = some genv.locals; rw [hg]; rfl⟩, fun b hb => ⟨?_, fun y c e z => (hfp b hb).1.2.2.2.2.1 y c (cm e).2.1 z⟩, I.bs, Nat.le_trans I.ok.bsz I.sz, fun b o e hb => ?_, fun b hb z => ?_, I.stack, I.stkFree⟩
    · show ∃ c, genv.cells.lookup y = some c
      rcases hy with hy | hy
      · have hy : genv.scope.names.lookup y = some .cell := hy
        rw [hsc] at hy
        exact absurd rfl (ok.nocell _ (PySem.mem_of_lookup hy))
      · have hy : genv.scope.names.lookup y = some .free := hy
        rw [hsc] at hy
        obtain ⟨c, h1, _⟩ := look hy
        exact ⟨c, h1⟩
    · cases z
    · show b ≠ genv.locals
      rw [hL]; exact Nat.ne_of_lt (hfp b hb).2
    · rcases (hfp b hb).1.2.2.2.1 with z | z
      · exact I.ok.noex b o e z
      · exact absurd (Nat.lt_of_lt_of_le (Heap.lt_size e) (Nat.le_trans I.ok.bsz z)) (Nat.lt_irrefl _)
    · rcases List.mem_cons.mp (I.stkSub b z) with z | z
      · exact (hfp b hb).1.2.1 z
      · exact (hfp b hb).1.2.2.1 z
  refine ⟨okG, os, bare, Un.kept kp, ⟨m, by show Heap.Ns _ genv.locals _; rw [hL]; exact ns, fun i y av e1 e2 e3 => ?_⟩, fun y c e => ?_, ?_, fun y c e => I.freeC y c (cm e).2.1, fun p hp => ?_, I.hok.kept kp, by rw [wipe_length]; exact I.len⟩
  · obtain ⟨e2, hne⟩ := wipe_some e2
    have hfr : scope.names.lookup y = some .free := by
      have e3 : Vis genv.scope y := e3
      rw [hsc] at e3
      rcases e3 with e3 | e3 | e3
      · rcases ok.own _ (PySem.mem_of_lookup e3) rfl with e' | e'
        · obtain ⟨p, hp, hpy⟩ := List.mem_map.mp e'
          have e3 := ok.ix p hp
          have : p.1 = y := hpy
          rw [this] at e3
          exact absurd (List.mem_map.mpr ⟨p, hp, nodup_ix hN e3 e1⟩) hne
        · exact absurd (List.mem_of_getElem? e1) e'
      · exact absurd rfl (ok.nocell _ (PySem.mem_of_lookup e3))
      · exact e3
    obtain ⟨m, hn, hl⟩ := I.loc
    have hvis : Vis X.env.scope y := (ok.free _ (PySem.mem_of_lookup hfr) rfl).elim (fun k => .inr (.inl k)) (fun k => .inr (.inr k))
    obtain ⟨w, r, q⟩ := hl i y av e1 e2 hvis
    refine ⟨w, r, .inr ⟨.inr (by show genv.scope.names.lookup y = _; rw [hsc]; exact hfr), ?_⟩⟩
    obtain ⟨c, h1, h2⟩ := look hfr
    rcases q with ⟨k, _⟩ | ⟨_, c', e', z⟩
    · have k : X.env.scope.names.lookup y = some .local := k
      rcases ok.free _ (PySem.mem_of_lookup hfr) rfl with k' | k' <;> rw [show X.env.scope.names.lookup y = _ from k'] at k <;> cases k
    · rw [h2] at e'; cases e'
      exact ⟨c, h1, z.keeps kp⟩
  · obtain ⟨w, z⟩ := I.cell y c (cm e).2.1
    exact ⟨w, z.keeps kp⟩
  · show H genv.locals = none
    rw [hL]; exact I.hok.fresh (Nat.le_refl _)
  · rw [List.append_nil] at hp
    obtain ⟨h1, h2, h3⟩ := hpn p hp
    refine ⟨h1, I.hok.fresh (Nat.le_of_lt h2), by show p.1 ≠ genv.locals; rw [hL]; exact Nat.ne_of_gt h2, Inv.nofr I (Nat.le_of_lt h2), h3⟩
end
/-- the end of its run -/
def GR (G : Cx) (fp : List Addr) (Qd : Hp → Prop) : GenEnd := fun n s₀ r s₁ => ((r = .ok (.ret .none) ∨ r = .ok .next) ∧ ∃ σ' H', Inv G [] σ' H' s₁ ∧ (∀ b ∈ fp, H' b = none) ∧ Qd H') ∨ ∃ e, r = .error e ∧ False
/-- a truth value is handed out; on stopv nobody asks further -/
def GY (G : Cx) (fp : List Addr) (stopv : Bool) (Qs : Hp → Prop) : Protocol := fun n s₀ v s kap =>
  ∃ b σ' H', v = .bool b ∧ Inv G [] σ' H' s ∧ (∀ b ∈ fp, H' b = none) ∧ (b = stopv → Qs H') ∧ (b ≠ stopv → ∀ s', s'.heap = s.heap → s'.os = s.os → AllBare s'.gens → kap (.send .none) s')
/-- what a turn is to give -/
def Turns (J : It) (g : TG) (te : TE) (vs : List Nat) (σw : L2.St) (stopv : Bool) (Qs Qd : Hp → Prop) (W : Nat → Nat → Hp → Prop) : Prop := ∀ i m H, W i m H →
  (J.stop i H ∧ Qd H) ∨ (J.go i H ∧ ∃ Nx : Hp → Prop, (∀ H', Nx H' → ∃ m', m' < m ∧ W (i + 1) m' H') ∧ ∀ x H', J.yld i H x H' → g x σw H' fun σ2 H2 => wipe σ2 vs = σw ∧ te σ2 H2 fun y H3 => ∃ b, y = .bl b ∧ (b = stopv → Qs H3) ∧ (b ≠ stopv → Nx H3))
theorem seg_gex {G : Cx} {Aw : Around} {tg iter elt : Expr} {scope : Scope} {pos : Pos} {J : It} {fp : List Addr} {it : Addr} {tn : Nat → Heap → Prop} {g : TG} {te : TE} {vs : List Nat} {σw : L2.St} {stopv : Bool} {Qs Qd : Hp → Prop} {W : Nat → Nat → Hp → Prop}
    (T : Turn G.prog G.w G.K tg J fp it tn) (hex : G.ex = fp) (hc : G.calm = true) (hxe : G.xe = fun _ _ => False) (hpn : ∀ b ∈ fp, ∀ p ∈ G.pn, p.1 ≠ b)
    (hA : Aw.over (.compLoop (.GeneratorExp elt [⟨tg, iter, [], 0⟩] scope pos) 0 (.ref it) .none G.env) [] = G.A) (hco : G.env.scope.isCoroutine = false)
    (pg : PG G tg g) (pe : PE G elt te) (turn : Turns J g te vs σw stopv Qs Qd W) :
    ∀ (n i m : Nat) (H : Hp) (s₀ s : Shared), m < n → W i m H → Inv G [] σw H s → tn i s.heap → (∀ b ∈ fp, H b = none) →
      Seg (model G.prog G.w) Aw (GR G fp Qd) (GY G fp stopv Qs) n s₀ (.compLoop (.GeneratorExp elt [⟨tg, iter, [], 0⟩] scope pos) 0 (.ref it) .none G.env)
        ((model G.prog G.w).den (.compLoop (.GeneratorExp elt [⟨tg, iter, [], 0⟩] scope pos) 0 (.ref it) .none G.env)) [] s := by
  have stat : ∀ {σ' : L2.St} {H' : Hp} {s' : Shared}, Inv G [] σ' H' s' → (∀ b ∈ fp, H' b = none) → ∀ b ∈ fp, FpOk G [] H' b := fun {σ' H' s'} I' hn b hb =>
    ⟨hn b hb, (I'.ok.exf b (by rw [hex]; exact hb)).1, I'.ok.exfs b (by rw [hex]; exact hb), .inl (by rw [hex]; exact hb), fun x c e => (I'.ok.exf b (by rw [hex]; exact hb)).2 x c e, fun p hp => by rw [List.append_nil] at hp; exact hpn b hb p hp⟩
  intro n
  induction n with
  | zero => intro i m H s₀ s hm; exact absurd hm (Nat.not_lt_zero _)
  | succ n ih =>
    intro i m H s₀ s hm w0 I st hn
    show Seg _ Aw _ _ _ s₀ _ ((compTurn (.GeneratorExp elt [⟨tg, iter, [], 0⟩] scope pos) 0 (.ref it) .none G.env).onRaise (leaving G.env)) [] s
    rw [compTurn_gen, Sem.onRaise_eq_wrap]
    refine seg_bind_wrap (wpAny_standAt ?_)
    rcases turn i m H w0 with ⟨stop, qd⟩ | ⟨go, Nx, hNx, step⟩
    · refine seg_bind_wrap ?_
      rw [hA]
      refine wpAny_mono (T.done G rfl rfl rfl hc i [] s σw H (fun _ _ => False) I (stat I hn) st stop) (fun r s6 ⟨hr, I6⟩ => ?_) fun _ _ z => z.elim
      subst hr
      exact seg_end (.ok .next) (.inl ⟨.inr rfl, σw, H, I6, hn, qd⟩)
    · refine seg_bind_wrap ?_
      rw [hA]
      refine wpAny_mono (T.item G rfl rfl rfl hc i [] s σw H (fun _ _ => False) I (stat I hn) st go) (fun r s6 ⟨u, hr, h6⟩ => ?_) fun _ _ z => z.elim
      subst hr
      refine seg_bind_wrap ?_
      rw [hA]
      refine wpAny_mono h6 (fun _ s7 ⟨x, H7, I7, r7, y7, st7, n7⟩ => ?_) fun _ _ z => z.elim
      have I7' := I7.pinned (stat I7 n7) (T.obj _ _ st7)
      refine seg_bind_wrap ?_
      rw [hA]
      refine wpAny_mono (pg.run _ s7 _ H7 x u _ I7' r7 (step x H7 y7)) (fun _ s8 ⟨σ8, H8, I8, hw8, q8⟩ => ?_) fun _ _ z => by rw [hxe] at z; exact z.elim
      refine seg_bind_wrap ?_
      simp only [List.forIn_nil]
      refine wpAny_pure ?_
      simp only [if_true]
      have hy : ∀ v, yieldOut G.env v = yieldValue v := fun v => by simp only [yieldOut, hco, Bool.false_eq_true, if_false]
      simp only [hy]
      rw [Sem.bind_eq_wrap', Sem.bind_eq_wrap', Sem.wrap_wrap, Sem.wrap_wrap]
      refine seg_wrap ?_
      rw [hA]
      refine wpAny_mono (pe.run _ s8 σ8 H8 _ I8 q8) (fun y s9 ⟨yv, H9, I9, r9, b, hb, hs, hnx⟩ => ?_) fun _ _ z => by rw [hxe] at z; exact z.elim
      subst hb
      have ey : y = Value.bool b := r9
      subst ey
      have pin' : ∀ b ∈ fp, ∀ o, s7.heap.get? b = some o → s9.heap.get? b = some o ∧ H9 b = none := fun b hb o e =>
        let z := I9.pin (b, o) (List.mem_append_right _ (List.mem_append_right _ (mem_pinsAt hb e)))
        ⟨z.1, z.2.1⟩
      have hl : σw.length = σ8.length := by rw [← hw8, wipe_length]
      have I10 : Inv G [] σw H9 s9 := (I9.unpinned (pins := [])).weak hl fun j v e => by
        rw [← hw8] at e
        exact (wipe_some e).1
      have n10 : ∀ b ∈ fp, H9 b = none := fun b hb => by
        obtain ⟨o, e, _⟩ := T.obj _ _ st7 b hb
        exact (pin' b hb o e).2
      have st10 : tn (i + 1) s9.heap := T.keep _ _ _ st7 fun b hb o e => (pin' b hb o e).1
      refine seg_at (seg_yield rfl rfl rfl ⟨b, σw, H9, rfl, I10, n10, hs, fun nb s' hh ho hbare => ?_⟩)
      obtain ⟨m', hm', w'⟩ := hNx H9 (hnx nb)
      refine seg_again rfl (ih (i + 1) m' H9 s' s' (by omega) w' (Inv.same I10 hh ho hbare) (by rw [hh]; exact st10) n10)
theorem seg_gex0 {G : Cx} {Aw : Around} {tg iter elt : Expr} {scope : Scope} {pos : Pos} {J : It} {fp : List Addr} {it : Addr} {tn : Nat → Heap → Prop} {n : Nat} {s₀ s : Shared} {R : GenEnd} {Y : Protocol}
    (T : Turn G.prog G.w G.K tg J fp it tn) (st : tn 0 s.heap)
    (loop : Seg (model G.prog G.w) Aw R Y n s₀ (.compLoop (.GeneratorExp elt [⟨tg, iter, [], 0⟩] scope pos) 0 (.ref it) .none G.env)
        ((model G.prog G.w).den (.compLoop (.GeneratorExp elt [⟨tg, iter, [], 0⟩] scope pos) 0 (.ref it) .none G.env)) [] s) :
    Seg (model G.prog G.w) Aw R Y n s₀ (.compStart (.GeneratorExp elt [⟨tg, iter, [], 0⟩] scope pos) 0 (.ref it) .none G.env)
        ((model G.prog G.w).den (.compStart (.GeneratorExp elt [⟨tg, iter, [], 0⟩] scope pos) 0 (.ref it) .none G.env)) [] s := by
  show Seg _ Aw _ _ _ s₀ _ ((compStart (.GeneratorExp elt [⟨tg, iter, [], 0⟩] scope pos) 0 (.ref it) .none G.env).onRaise (leaving G.env)) [] s
  unfold compStart
  rw [Sem.onRaise_eq_wrap]
  show Seg _ Aw _ _ _ s₀ _ ((ask >>= _).wrap _ _ _ _) [] s
  refine seg_bind_wrap (wpAny_askSetting ?_)
  split
  · exact seg_again rfl loop
  · first
      | exact seg_bind_wrap (wpAny_rule (seg_bind_wrap (wpAny_standAt (seg_bind_wrap (T.self _ 0 s _ _ st (seg_again rfl loop))))))
      | (refine seg_bind_wrap (wpAny_rule ?_); show Seg _ Aw _ _ _ s₀ _ ((standAt iter.pos >>= _).wrap _ _ _ _) [] s; exact seg_bind_wrap (wpAny_standAt (seg_bind_wrap (T.self _ 0 s _ _ st (seg_again rfl loop)))))
/-- the generator, not begun or asleep, at most n turns left -/
def GAt (G : Cx) (A : Around) (fp : List Addr) (stopv : Bool) (Qs Qd : Hp → Prop) (a : Addr) (g : Nat) (n : Nat) (s : Shared) : Prop :=
  s.heap.IsGen a g ∧ s.heap.NoLimit ∧ AllBare s.gens ∧ ∃ gs, s.gens[g]? = some gs ∧ ∀ s'', s''.heap = s.heap → s''.os = s.os → AllBare s''.gens → gs.Goes (model G.prog G.w) A (GR G fp Qd) (GY G fp stopv Qs) n (.send .none) s''
section
variable {G : Cx} {A : Around} {fp : List Addr} {Qs Qd : Hp → Prop} {a : Addr} {g : Nat} {R : Result → Shared → Prop}
theorem all_loop (hh : A.handled = none) (hd : A.depth < recursionLimit) (hgen : ∀ σ' H' s', Inv G [] σ' H' s' → s'.heap.IsGen a g)
    (hend : ∀ s' σ' H', Inv G [] σ' H' s' → (∀ b ∈ fp, H' b = none) → Qd H' → R (.ok (.ret (.bool true))) s')
    (hstop : ∀ s' σ' H', Inv G [] σ' H' s' → (∀ b ∈ fp, H' b = none) → Qs H' → R (.ok (.ret (.bool false))) s') :
    ∀ (n : Nat) (s : Shared), GAt G A.in1.in1 fp false Qs Qd a g n s → codeAny (model G.prog G.w) A (.builtin "all.loop" ⟨[.ref a], []⟩) R s := by
  have goes : ∀ {gs : GenState} {B : Around} {n : Nat} {r : Resume} {s : Shared}, gs.Goes (model G.prog G.w) B (GR G fp Qd) (GY G fp false Qs) n r s →
      gs.Goes (model G.prog G.w) B (fun n s₀ r s1 => ((r = .ok (.ret .none) ∨ r = .ok .next) ∧ (∃ σ' H', Inv G [] σ' H' s1 ∧ (∀ b ∈ fp, H' b = none) ∧ Qd H')) ∨ ∃ e, r = .error e ∧ (fun (_ : Value) (_ : Shared) => False) e s1) (GY G fp false Qs) n r s := fun h => h
  intro n
  induction n with
  | zero =>
    rintro s ⟨hg, hl, hb, gs, hgs, hgo⟩
    refine codeAny_builtin F.entry_all_loop ?_
    rw [Around.under_plainId F.plain_all_loop _]
    show wpAny _ A.in1 (pyNext (.ref a) >>= _) _ _ s
    refine wpAny_bind (next_genG (A := A.in1) hh hl hd hg hgs (goes (hgo _ rfl rfl (allBare_setGen hb rfl))) (fun v s₁ gs' hbare hv => ?_) (fun s₁ hp h' hk => ?_) fun e s₁ he => he.elim)
    · obtain ⟨b, σ', H', rfl, I', n', hs, hk⟩ := hv
      refine wpAny_bind (wpAny_holding (wpAny_truthy_bool ?_))
      refine wpAny_bind (wpAny_letGo ?_)
      cases b with
      | true => exact (hk (by decide) _ rfl rfl I'.bare).elim
      | false =>
        simp only [Bool.false_eq_true, if_false]
        exact wpAny_bind (wpAny_rule (wpAny_pure (hstop _ σ' H' (Inv.same I' rfl rfl (allBare_setGen I'.bare hbare)) n' (hs rfl))))
    · obtain ⟨σ', H', I', n', hq⟩ := hp
      refine wpAny_bind (wpAny_rule (wpAny_pure ?_))
      exact hend _ σ' H' (Inv.more I' hk rfl (allBare_setGen I'.bare rfl)) n' hq
  | succ n ih =>
    rintro s ⟨hg, hl, hb, gs, hgs, hgo⟩
    have hgl : g < s.gens.size := (Array.getElem?_eq_some_iff.mp hgs).1
    refine codeAny_builtin F.entry_all_loop ?_
    rw [Around.under_plainId F.plain_all_loop _]
    show wpAny _ A.in1 (pyNext (.ref a) >>= _) _ _ s
    refine wpAny_bind (GenW.wpAny_gsz (n := g + 1) hgl (next_genG (A := A.in1) hh hl hd hg hgs (goes (hgo _ rfl rfl (allBare_setGen hb rfl))) (fun v s₁ gs' hbare hv => ?_) (fun s₁ hp h' hk => ?_) fun e s₁ he => he.elim))
    · intro hsz
      obtain ⟨b, σ', H', rfl, I', n', hs, hk⟩ := hv
      refine wpAny_bind (wpAny_holding (wpAny_truthy_bool ?_))
      refine wpAny_bind (wpAny_letGo ?_)
      cases b with
      | true =>
        simp only [if_true]
        have hsz1 : g < s₁.gens.size := by
          have q : (s₁.setGen g gs').gens.size = s₁.gens.size := GenW.setGen_size _ _ _
          have hsz' : g + 1 ≤ (s₁.setGen g gs').gens.size := hsz
          omega
        refine wpAny_pure ⟨plainId_quiet F.plain_all_loop _, ih (s₁.setGen g gs') ⟨hgen σ' H' s₁ I', I'.nolimit, allBare_setGen I'.bare hbare, gs', setGen_at hsz1, fun s'' h1 h2 h3 => ?_⟩⟩
        exact hk (by decide) s'' h1 h2 h3
      | false =>
        simp only [Bool.false_eq_true, if_false]
        exact wpAny_bind (wpAny_rule (wpAny_pure (hstop _ σ' H' (Inv.same I' rfl rfl (allBare_setGen I'.bare hbare)) n' (hs rfl))))
    · intro hsz
      obtain ⟨σ', H', I', n', hq⟩ := hp
      refine wpAny_bind (wpAny_rule (wpAny_pure ?_))
      exact hend _ σ' H' (Inv.more I' hk rfl (allBare_setGen I'.bare rfl)) n' hq
theorem any_loop (hh : A.handled = none) (hd : A.depth < recursionLimit) (hgen : ∀ σ' H' s', Inv G [] σ' H' s' → s'.heap.IsGen a g)
    (hend : ∀ s' σ' H', Inv G [] σ' H' s' → (∀ b ∈ fp, H' b = none) → Qd H' → R (.ok (.ret (.bool false))) s')
    (hstop : ∀ s' σ' H', Inv G [] σ' H' s' → (∀ b ∈ fp, H' b = none) → Qs H' → R (.ok (.ret (.bool true))) s') :
    ∀ (n : Nat) (s : Shared), GAt G A.in1.in1 fp true Qs Qd a g n s → codeAny (model G.prog G.w) A (.builtin "any.loop" ⟨[.ref a], []⟩) R s := by
  have goes : ∀ {gs : GenState} {B : Around} {n : Nat} {r : Resume} {s : Shared}, gs.Goes (model G.prog G.w) B (GR G fp Qd) (GY G fp true Qs) n r s →
      gs.Goes (model G.prog G.w) B (fun n s₀ r s1 => ((r = .ok (.ret .none) ∨ r = .ok .next) ∧ (∃ σ' H', Inv G [] σ' H' s1 ∧ (∀ b ∈ fp, H' b = none) ∧ Qd H')) ∨ ∃ e, r = .error e ∧ (fun (_ : Value) (_ : Shared) => False) e s1) (GY G fp true Qs) n r s := fun h => h
  intro n
  induction n with
  | zero =>
    rintro s ⟨hg, hl, hb, gs, hgs, hgo⟩
    refine codeAny_builtin F.entry_any_loop ?_
    rw [Around.under_plainId F.plain_any_loop _]
    show wpAny _ A.in1 (pyNext (.ref a) >>= _) _ _ s
    refine wpAny_bind (next_genG (A := A.in1) hh hl hd hg hgs (goes (hgo _ rfl rfl (allBare_setGen hb rfl))) (fun v s₁ gs' hbare hv => ?_) (fun s₁ hp h' hk => ?_) fun e s₁ he => he.elim)
    · obtain ⟨b, σ', H', rfl, I', n', hs, hk⟩ := hv
      refine wpAny_bind (wpAny_holding (wpAny_truthy_bool ?_))
      refine wpAny_bind (wpAny_letGo ?_)
      cases b with
      | false => exact (hk (by decide) _ rfl rfl I'.bare).elim
      | true =>
        simp only [if_true]
        exact wpAny_bind (wpAny_rule (wpAny_pure (hstop _ σ' H' (Inv.same I' rfl rfl (allBare_setGen I'.bare hbare)) n' (hs rfl))))
    · obtain ⟨σ', H', I', n', hq⟩ := hp
      refine wpAny_bind (wpAny_rule (wpAny_pure ?_))
      exact hend _ σ' H' (Inv.more I' hk rfl (allBare_setGen I'.bare rfl)) n' hq
  | succ n ih =>
    rintro s ⟨hg, hl, hb, gs, hgs, hgo⟩
    have hgl : g < s.gens.size := (Array.getElem?_eq_some_iff.mp hgs).1
    refine codeAny_builtin F.entry_any_loop ?_
    rw [Around.under_plainId F.plain_any_loop _]
    show wpAny _ A.in1 (pyNext (.ref a) >>= _) _ _ s
    refine wpAny_bind (GenW.wpAny_gsz (n := g + 1) hgl (next_genG (A := A.in1) hh hl hd hg hgs (goes (hgo _ rfl rfl (allBare_setGen hb rfl))) (fun v s₁ gs' hbare hv => ?_) (fun s₁ hp h' hk => ?_) fun e s₁ he => he.elim))
    · intro hsz
      obtain ⟨b, σ', H', rfl, I', n', hs, hk⟩ := hv
      refine wpAny_bind (wpAny_holding (wpAny_truthy_bool ?_))
      refine wpAny_bind (wpAny_letGo ?_)
      cases b with
      | false =>
        simp only [Bool.false_eq_true, if_false]
        have hsz1 : g < s₁.gens.size := by
          have q : (s₁.setGen g gs').gens.size = s₁.gens.size := GenW.setGen_size _ _ _
          have hsz' : g + 1 ≤ (s₁.setGen g gs').gens.size := hsz
          omega
        refine wpAny_pure ⟨plainId_quiet F.plain_any_loop _, ih (s₁.setGen g gs') ⟨hgen σ' H' s₁ I', I'.nolimit, allBare_setGen I'.bare hbare, gs', setGen_at hsz1, fun s'' h1 h2 h3 => ?_⟩⟩
        exact hk (by decide) s'' h1 h2 h3
      | true =>
        simp only [if_true]
        exact wpAny_bind (wpAny_rule (wpAny_pure (hstop _ σ' H' (Inv.same I' rfl rfl (allBare_setGen I'.bare hbare)) n' (hs rfl))))
    · intro hsz
      obtain ⟨σ', H', I', n', hq⟩ := hp
      refine wpAny_bind (wpAny_rule (wpAny_pure ?_))
      exact hend _ σ' H' (Inv.more I' hk rfl (allBare_setGen I'.bare rfl)) n' hq
theorem call_all_gen {G : Cx} {A : Around} {fp : List Addr} {Qs Qd : Hp → Prop} {a : Addr} {g n : Nat} {s : Shared} {Q E : Value → Shared → Prop} (hh : A.handled = none) (hd : A.depth < recursionLimit) (hgen : ∀ σ' H' s', Inv G [] σ' H' s' → s'.heap.IsGen a g)
    (hG : GAt G A.in1.in1 fp false Qs Qd a g n s) (hend : ∀ s' σ' H', Inv G [] σ' H' s' → (∀ b ∈ fp, H' b = none) → Qd H' → Q (.bool true) s')
    (hstop : ∀ s' σ' H', Inv G [] σ' H' s' → (∀ b ∈ fp, H' b = none) → Qs H' → Q (.bool false) s') : wpAny (model G.prog G.w) A (call (.builtin "all") [.ref a]) Q E s := by
  refine call_function_tree F.kind_all F.plain_all F.entry_all (F.args_all1 _) ?_
  unfold Builtin.«all»
  refine wpAny_bind (m := oneArg "all" _) (wpAny_pure ?_)
  refine wpAny_bind (wpAny_pyIter_gen hG.1 ?_)
  exact wpAny_pure ⟨plainId_quiet F.plain_all_loop _, all_loop hh hd hgen hend hstop n s hG⟩
theorem call_any_gen {G : Cx} {A : Around} {fp : List Addr} {Qs Qd : Hp → Prop} {a : Addr} {g n : Nat} {s : Shared} {Q E : Value → Shared → Prop} (hh : A.handled = none) (hd : A.depth < recursionLimit) (hgen : ∀ σ' H' s', Inv G [] σ' H' s' → s'.heap.IsGen a g)
    (hG : GAt G A.in1.in1 fp true Qs Qd a g n s) (hend : ∀ s' σ' H', Inv G [] σ' H' s' → (∀ b ∈ fp, H' b = none) → Qd H' → Q (.bool false) s')
    (hstop : ∀ s' σ' H', Inv G [] σ' H' s' → (∀ b ∈ fp, H' b = none) → Qs H' → Q (.bool true) s') : wpAny (model G.prog G.w) A (call (.builtin "any") [.ref a]) Q E s := by
  refine call_function_tree F.kind_any F.plain_any F.entry_any (F.args_any1 _) ?_
  unfold Builtin.«any»
  refine wpAny_bind (m := oneArg "any" _) (wpAny_pure ?_)
  refine wpAny_bind (wpAny_pyIter_gen hG.1 ?_)
  exact wpAny_pure ⟨plainId_quiet F.plain_any_loop _, any_loop hh hd hgen hend hstop n s hG⟩
end
section
variable {X : Cx} {pins : List (Addr × Obj)} {σ : L2.St} {H : Hp} {s : Shared}
/-- the generator is made -/
theorem gex_made {c P : Addr} {tg elt iter : Expr} {gpos : Pos} {scope : Scope} {own : List (Str × Nat)} {k : Nat} {g : TG} {te : TE} {wi : TI} {stopv : Bool} {Qs Qd : Hp → Prop}
    (hr : Room (k + 1) X.A) (hN : X.N.Nodup) (TB : GxR.TabB X.base X.mg c P) (hcode : X.env.code = .ref c) (ok : GexOk X.N X.env.scope scope own) (hi : PI X tg iter wi)
    (hpe : ∀ (A : Around) (s : Shared) (H : Hp) (C : Addr) (code : Value) (fp : List Addr) (pn : List (Addr × Obj)), Room k A → let G := gex X A s H (genEnv scope (cloFrom X.env.cells scope.names []) C code builtinsNs X.env) fp pn
      PG G tg g ∧ PE G elt te)
    (hs : ∀ v, genFold iter X.env v = pure v) (I : Inv X pins σ H s)
    (h : wi σ H fun J H1 => GxR.TabG H1 P ∧ ∀ H2, GxR.Tabbed P H1 H2 → ∃ W : Nat → Nat → Hp → Prop, (∃ m, W 0 m H2) ∧ Turns J g te (own.map (·.2)) (wipe σ (own.map (·.2))) stopv Qs Qd W) :
    wpAny (model X.prog X.w) X.A (eval (.GeneratorExp elt [⟨tg, iter, [], 0⟩] scope gpos) X.env) (fun v s5 => ∃ (A' : Around) (sG : Shared) (HG : Hp) (genv : Env) (fp : List Addr) (pn : List (Addr × Obj)) (a : Addr) (gn n : Nat),
      v = .ref a ∧ GAt (gex X A' sG HG genv fp pn) X.A.in1.in1 fp stopv Qs Qd a gn n s5 ∧ (∀ σ' H' s', Inv (gex X A' sG HG genv fp pn) [] σ' H' s' → s'.heap.IsGen a gn) ∧
      (∀ σ' H' s', Inv (gex X A' sG HG genv fp pn) [] σ' H' s' → (∀ b ∈ fp, H' b = none) → Inv X pins σ H' s')) X.xe s := by
  have hfree : ∀ y ∈ scope.names, y.2 = .free → ∃ c, X.env.cells.lookup y.1 = some c := fun y hy e => by
    rcases ok.free y hy e with k | k
    · exact I.ok.has _ (.inl k)
    · exact I.ok.has _ (.inr k)
  refine wpAny_GeneratorExp_make ok.co (closure_ok hfree) ok.nocell ok.dot ok.kind (by have := hr.dp; omega) ?_ hs
  refine thn (hi.run pins s σ H _ I h) fun xv s1 hx => thn hx fun itv s2 h2 => ?_
  obtain ⟨it, fp, tn, J, H1, rfl, I2, T, st2, f2, ⟨ps, hP, ht⟩, q⟩ := h2
  have hPs : s2.heap.get? P = some { cls := .none, data := .fields ps } := I2.hok P _ hP
  have cd : PySem.W.CodeHd s2.heap c P := TB.code.keeps I2.bk
  have lim2 : s2.heap.NoLimit := I2.nolimit
  have cont : ∀ (code : Value) (h3 : Heap) (tk : Nat) (ps' : Array Value), Heap.ExtBut P s2.heap h3 → s2.heap.objs.size ≤ h3.objs.size → h3.get? P = some { cls := .none, data := .fields ps' } → (∃ more, ps' = ps ++ more) → TriplesOk ps'.toList →
      wpAny (model X.prog X.w) X.A (builtinsFor X.env.globals X.env.builtins) (fun bi s₄ =>
        ∀ h', h'.Ns s₄.heap.objs.size (fun y => if y = ".0" then some (.ref it) else none) → Heap.SameBut s₄.heap.objs.size (s₄.heap.push { cls := .type "frame", data := .dict #[] }) h' →
          (fun v s5 => ∃ (A' : Around) (sG : Shared) (HG : Hp) (genv : Env) (fp : List Addr) (pn : List (Addr × Obj)) (a : Addr) (gn n : Nat),
            v = .ref a ∧ GAt (gex X A' sG HG genv fp pn) X.A.in1.in1 fp stopv Qs Qd a gn n s5 ∧ (∀ σ' H' s', Inv (gex X A' sG HG genv fp pn) [] σ' H' s' → s'.heap.IsGen a gn) ∧
            (∀ σ' H' s', Inv (gex X A' sG HG genv fp pn) [] σ' H' s' → (∀ b ∈ fp, H' b = none) → Inv X pins σ H' s')) (Value.ref h'.objs.size) { s₄ with
            gens := s₄.gens.push (.fresh (.compStart (.GeneratorExp elt [⟨tg, iter, [], 0⟩] scope gpos) 0 (.ref it) .none (genEnv scope (cloFrom X.env.cells scope.names []) s₄.heap.objs.size code bi X.env))),
            toks := s₄.toks + 1 + 1 + 1,
            heap := h'.push { cls := .type "generator", data := .fields #[.int s₄.gens.size 0, .str "<genexpr>" (s₄.toks + 1), .str (X.env.qual ++ "<genexpr>") (s₄.toks + 1 + 1)] } }) X.xe { s2 with heap := h3, toks := tk } := by
    intro code h3 tk ps' hx hsz hP3 ⟨more, hmore⟩ ht3
    subst hmore
    obtain ⟨bm, ob, e1, e2, e3, e4, e5, e6, e7, e8⟩ := TB.bm
    have keep3 : ∀ b u, b ≠ P → s2.heap.get? b = some u → h3.get? b = some u := fun b u hb e => hx b u hb e
    refine wpAny_builtinsFor (m := X.mg) (by rw [I2.ok.glob]; exact (I2.mod.glob.keeps I2.bk).extBut hx TB.gP) e1 e2 (keep3 _ _ e4 (I2.bk _ _ e5)) e6 e7 e8 ?_
    intro h' hn' hs'
    have I3 : Inv X pins σ (upd H1 P (.tbl (ps ++ more))) { s2 with heap := h3, toks := tk } := GxR.inv_tab (g' := s2.gens) (d' := s2.drawn) I2 hP keep3 hP3 I2.bare
    have hT2 : GxR.Tabbed P H1 (upd H1 P (.tbl (ps ++ more))) := ⟨⟨ps ++ more, upd_same, ht3⟩, fun b hb => upd_ne hb⟩
    obtain ⟨W, ⟨m0, w0⟩, turn⟩ := q _ hT2
    have hsz' : h'.objs.size = h3.objs.size + 1 := by rw [hs'.1, Heap.size_push]
    have keep' : ∀ b o, h3.get? b = some o → h'.get? b = some o := fun b o e => hs'.extBut b o (Nat.ne_of_lt (Heap.lt_size e)) (Heap.get?_push_of_some _ e)
    have nP : ∀ b ∈ fp, b ≠ P := fun b hb z => by
      have := (f2 b hb).1
      rw [z, hP] at this
      cases this
    have sz : ∀ b ∈ fp, b < h3.objs.size := fun b hb => by
      obtain ⟨o, e, _⟩ := T.obj _ _ st2 b hb
      exact Heap.lt_size (keep3 b o (nP b hb) e)
    have f3 : ∀ b ∈ fp, FpOk X pins (upd H1 P (.tbl (ps ++ more))) b ∧ b < ({ s2 with heap := h3, toks := tk } : Shared).heap.objs.size := fun b hb =>
      ⟨⟨by rw [upd_ne (nP b hb)]; exact (f2 b hb).1, (f2 b hb).2⟩, sz b hb⟩
    generalize hgo : ({ cls := .type "generator", data := .fields #[.int s2.gens.size 0, .str "<genexpr>" (tk + 1), .str (X.env.qual ++ "<genexpr>") (tk + 1 + 1)] } : Obj) = go
    have hgen : ∀ h : Heap, h.get? h'.objs.size = some go → h.IsGen h'.objs.size s2.gens.size := fun h e => ⟨go, _, _, e, by rw [← hgo], by rw [← hgo], by rw [← hgo]⟩
    have hpush : (h'.push go).get? h'.objs.size = some go := by
      rw [← hgo]
      exact Heap.get?_push_size _ rfl
    have hgd : ∀ v, go.data ≠ .cell v := fun v z => by rw [← hgo] at z; cases z
    have keep5 : ∀ b o, h3.get? b = some o → (h'.push go).get? b = some o := fun b o e => Heap.get?_push_of_some _ (keep' b o e)
    have st5 : tn 0 (h'.push go) := T.keep _ _ _ st2 fun b hb o e => keep5 b o (keep3 b o (nP b hb) e)
    obtain ⟨genv, hge⟩ : ∃ genv, genv = genEnv scope (cloFrom X.env.cells scope.names []) h3.objs.size code builtinsNs X.env := ⟨_, rfl⟩
    obtain ⟨A', hA'⟩ : ∃ A', A' = X.A.in1.in1.over (.compLoop (.GeneratorExp elt [⟨tg, iter, [], 0⟩] scope gpos) 0 (.ref it) .none genv) [] := ⟨_, rfl⟩
    have roomA : Room k A' := by
      rw [hA']
      refine ⟨hr.hd, ?_, ?_⟩
      · have := hr.dp
        show X.A.depth + 1 + 3 * k + 5 < _
        omega
      · have := hr.un
        show X.A.units + 1 + 1 + 3 + 16 * k + 200 < _
        omega
    have frA : A'.frames = some (genv :: X.stack) := by
      rw [hA']
      show pushEnvs [genv] X.A.frames = _
      rw [I.ok.frames]
      rfl
    obtain ⟨pg, pe⟩ := hpe A' { s2 with heap := h3, toks := tk } (upd H1 P (.tbl (ps ++ more))) h3.objs.size code fp [(h'.objs.size, go)] roomA
    rw [← hge] at pg pe
    have lim5 : (h'.push go).NoLimit := I3.nolimit.keeps keep5
    refine ⟨A', { s2 with heap := h3, toks := tk }, upd H1 P (.tbl (ps ++ more)), genv, fp, [(h'.objs.size, go)], h'.objs.size, s2.gens.size, m0 + 1, rfl, ?_, fun σ' H' s' I' => hgen _ (I'.pin (h'.objs.size, go) (List.mem_append_left _ (List.mem_singleton.mpr rfl))).1, fun σ' H' s' I' n' => ?_⟩
    · refine ⟨hgen _ hpush, lim5, AllBare.push I2.bare rfl, _, Array.getElem?_push_size .., fun s'' hh ho hb => ⟨rfl, ?_⟩⟩
      show Seg _ _ _ _ _ _ (.compStart (.GeneratorExp elt [⟨tg, iter, [], 0⟩] scope gpos) 0 (.ref it) .none (genEnv scope (cloFrom X.env.cells scope.names []) h3.objs.size code builtinsNs X.env)) _ _ _
      rw [← hge]
      have IG : Inv (gex X A' { s2 with heap := h3, toks := tk } (upd H1 P (.tbl (ps ++ more))) genv fp [(h'.objs.size, go)]) [] (wipe σ (own.map (·.2))) (upd H1 P (.tbl (ps ++ more))) s'' := by
        refine gex_start (m := fun y => if y = ".0" then some (.ref it) else none) I3 ok hN f3 (by rw [hA']; exact hr.hd) frA hge ho hb (by rw [hh]; exact keep5) (by rw [hh]; exact hn'.push _) fun p hp => ?_
        rw [List.mem_singleton.mp hp, hh]
        refine ⟨hpush, ?_, hgd⟩
        show h3.objs.size < h'.objs.size
        omega
      refine seg_gex0 (G := gex X A' { s2 with heap := h3, toks := tk } (upd H1 P (.tbl (ps ++ more))) genv fp [(h'.objs.size, go)]) T (by rw [hh]; exact st5) ?_
      refine seg_gex (G := gex X A' { s2 with heap := h3, toks := tk } (upd H1 P (.tbl (ps ++ more))) genv fp [(h'.objs.size, go)]) T rfl rfl rfl (fun b hb p hp => ?_) hA'.symm (by show genv.scope.isCoroutine = false; rw [hge]; exact ok.co) pg pe turn (m0 + 1) 0 m0 _ _ _ (Nat.lt_succ_self _) w0 IG (by rw [hh]; exact st5) fun b hb => (f3 b hb).1.1
      rw [List.mem_singleton.mp hp]
      show h'.objs.size ≠ b
      exact Nat.ne_of_gt (by rw [hsz']; exact Nat.lt_succ_of_lt (sz b hb))
    · exact I3.call' (ch := fp) I'.os I'.base I'.hok I'.bare fun b hb => ⟨(f3 b hb).1.2.2.2.1, (f3 b hb).1.2.1, (f3 b hb).1.2.2.2.2.1, (f3 b hb).1.2.2.2.2.2⟩
  refine ⟨lim2, ?_⟩
  cases hf : codeAmong gpos ps.toList with
  | none =>
    refine wpAny_genexprCodeX hcode (cd.code hPs ht) (cd.tab hPs) hf fun c' h' tk hx hge hlt hco' _ htab' _ => ?_
    obtain ⟨o1, vs, f1, tf, fl, tg, inF, tx, tt, op, _, _, _, _, _, _, _, _, _, htr, _⟩ := hco'
    exact cont _ h' tk _ hx (Nat.le_trans hge (Nat.le_of_lt hlt)) htab'.2 ⟨_, rfl⟩ htr
  | some cv =>
    refine wpAny_genexprCode_hit hcode (cd.code hPs ht) hf ?_
    exact cont cv s2.heap s2.toks ps (Heap.ExtBut.refl _ _) (Nat.le_refl _) hPs ⟨#[], by simp⟩ ht
/-- all(test for tg in iter), any(..): behind it the def's table may have grown -/
def tAllG (P : Addr) (wi : TI) (g : TG) (te : TE) (vs : List Nat) : TE := fun σ H Q => wi σ H fun J H1 => GxR.TabG H1 P ∧ ∀ H2, GxR.Tabbed P H1 H2 → ∃ W : Nat → Nat → Hp → Prop, (∃ m, W 0 m H2) ∧ Turns J g te vs (wipe σ vs) false (fun H' => Q (.bl false) H') (fun H' => Q (.bl true) H') W
def tAnyG (P : Addr) (wi : TI) (g : TG) (te : TE) (vs : List Nat) : TE := fun σ H Q => wi σ H fun J H1 => GxR.TabG H1 P ∧ ∀ H2, GxR.Tabbed P H1 H2 → ∃ W : Nat → Nat → Hp → Prop, (∃ m, W 0 m H2) ∧ Turns J g te vs (wipe σ vs) true (fun H' => Q (.bl true) H') (fun H' => Q (.bl false) H') W
section
variable {c P : Addr} {tg elt iter : Expr} {p pos gpos : Pos} {scope : Scope} {own : List (Str × Nat)} {k : Nat} {g : TG} {te : TE} {wi : TI}
theorem pe_allG (hr : Room (k + 1) X.A) (hN : X.N.Nodup) (hg : Gl X "all") (hm : X.mg "all" = none) (hb : bootBuiltins "all" = some (.builtin "all")) (TB : GxR.TabB X.base X.mg c P) (hcode : X.env.code = .ref c) (ok : GexOk X.N X.env.scope scope own) (hi : PI X tg iter wi)
    (hpe : ∀ (A : Around) (s : Shared) (H : Hp) (C : Addr) (code : Value) (fp : List Addr) (pn : List (Addr × Obj)), Room k A → let G := gex X A s H (genEnv scope (cloFrom X.env.cells scope.names []) C code builtinsNs X.env) fp pn
      PG G tg g ∧ PE G elt te)
    (hs : ∀ v, genFold iter X.env v = pure v)
    (he : starEach [.GeneratorExp elt [⟨tg, iter, [], 0⟩] scope gpos] X.env = (false, eval (.GeneratorExp elt [⟨tg, iter, [], 0⟩] scope gpos) X.env) :: starEach [] X.env := by rfl) :
    PE X (.Call (.Name "all" p) [.GeneratorExp elt [⟨tg, iter, [], 0⟩] scope gpos] [] pos) (tAllG P wi g te (own.map (·.2))) := by
  refine ⟨fun pins s σ H Q I h => ?_⟩
  refine wpAny_Call_Name_kw (ld_blt I hg hm hb ?_)
  refine PyProof.Rows.callWith_builtin1 ?_ he (by rfl)
  rw [he]
  show wpAny _ _ (spliced ((false, eval (.GeneratorExp elt [⟨tg, iter, [], 0⟩] scope gpos) X.env) :: backTo pos (starEach [] X.env))) _ _ s
  refine Calls.spliced_cons (thn (gex_made (stopv := false) hr hN TB hcode ok hi hpe hs I h) fun v s5 ⟨A', sG, HG, genv, fp, pn, a, gn, n, hv, hG, hgen, back⟩ => ?_)
  subst hv
  refine Calls.spliced_nil ?_
  exact call_all_gen (G := gex X A' sG HG genv fp pn) hr.hd (by have := hr.dp; omega) hgen hG (fun s' σ' H' I' n' q => ⟨.bl true, H', back σ' H' s' I' n', rfl, q⟩) fun s' σ' H' I' n' q => ⟨.bl false, H', back σ' H' s' I' n', rfl, q⟩
theorem pe_anyG (hr : Room (k + 1) X.A) (hN : X.N.Nodup) (hg : Gl X "any") (hm : X.mg "any" = none) (hb : bootBuiltins "any" = some (.builtin "any")) (TB : GxR.TabB X.base X.mg c P) (hcode : X.env.code = .ref c) (ok : GexOk X.N X.env.scope scope own) (hi : PI X tg iter wi)
    (hpe : ∀ (A : Around) (s : Shared) (H : Hp) (C : Addr) (code : Value) (fp : List Addr) (pn : List (Addr × Obj)), Room k A → let G := gex X A s H (genEnv scope (cloFrom X.env.cells scope.names []) C code builtinsNs X.env) fp pn
      PG G tg g ∧ PE G elt te)
    (hs : ∀ v, genFold iter X.env v = pure v)
    (he : starEach [.GeneratorExp elt [⟨tg, iter, [], 0⟩] scope gpos] X.env = (false, eval (.GeneratorExp elt [⟨tg, iter, [], 0⟩] scope gpos) X.env) :: starEach [] X.env := by rfl) :
    PE X (.Call (.Name "any" p) [.GeneratorExp elt [⟨tg, iter, [], 0⟩] scope gpos] [] pos) (tAnyG P wi g te (own.map (·.2))) := by
  refine ⟨fun pins s σ H Q I h => ?_⟩
  refine wpAny_Call_Name_kw (ld_blt I hg hm hb ?_)
  refine PyProof.Rows.callWith_builtin1 ?_ he (by rfl)
  rw [he]
  show wpAny _ _ (spliced ((false, eval (.GeneratorExp elt [⟨tg, iter, [], 0⟩] scope gpos) X.env) :: backTo pos (starEach [] X.env))) _ _ s
  refine Calls.spliced_cons (thn (gex_made (stopv := true) hr hN TB hcode ok hi hpe hs I h) fun v s5 ⟨A', sG, HG, genv, fp, pn, a, gn, n, hv, hG, hgen, back⟩ => ?_)
  subst hv
  refine Calls.spliced_nil ?_
  exact call_any_gen (G := gex X A' sG HG genv fp pn) hr.hd (by have := hr.dp; omega) hgen hG (fun s' σ' H' I' n' q => ⟨.bl false, H', back σ' H' s' I' n', rfl, q⟩) fun s' σ' H' I' n' q => ⟨.bl true, H', back σ' H' s' I' n', rfl, q⟩
end
end
structure SameT (H H' : Hp) : Prop where
  but : ∀ b o, H b = some o → (∀ ps, o ≠ .tbl ps) → H' b = some o
  tab : ∀ P, GxR.TabG H P → GxR.TabG H' P
theorem SameT.refl (H : Hp) : SameT H H := ⟨fun _ _ h _ => h, fun _ h => h⟩
theorem SameT.trans {H H1 H2 : Hp} (a : SameT H H1) (b : SameT H1 H2) : SameT H H2 := ⟨fun c o h n => b.but c o (a.but c o h n) n, fun P h => b.tab P (a.tab P h)⟩
theorem TabG.mono {H H' : Hp} {P : Addr} (e : Same H H') (h : GxR.TabG H P) : GxR.TabG H' P := by
  obtain ⟨ps, h1, h2⟩ := h
  exact ⟨ps, e _ _ h1, h2⟩
theorem sameT {H H' : Hp} (e : Same H H') : SameT H H' := ⟨fun b o h _ => e b o h, fun _ h => TabG.mono e h⟩
theorem tabbedT {H H' : Hp} {P : Addr} (hP : GxR.TabG H P) (t : GxR.Tabbed P H H') : SameT H H' := by
  obtain ⟨ps, h1, h2⟩ := hP
  refine ⟨fun b o h n => ?_, fun Q h => ?_⟩
  · rw [t.2 b fun z => by rw [z, h1] at h; cases h; exact n ps rfl]
    exact h
  · by_cases hQ : Q = P
    · rw [hQ]
      exact t.1
    · obtain ⟨qs, g1, g2⟩ := h
      exact ⟨qs, by rw [t.2 Q hQ]; exact g1, g2⟩
section
variable {K : PySem.W.Frag} {H H' : Hp}
theorem SameT.seq {a : Addr} {xs : List V} (e : SameT H H') (h : SqL K H a xs) : SqL K H' a xs := by
  rcases h with (h | ⟨o, h⟩) | h
  · exact .inl (.inl (e.but _ _ h fun _ z => by cases z))
  · exact .inl (.inr ⟨o, e.but _ _ h fun _ z => by cases z⟩)
  · exact .inr h
theorem SameT.tseq {a : Addr} {xs : List V} (e : SameT H H') (h : SqT K H a xs) : SqT K H' a xs := by
  rcases h with (h | ⟨o, h⟩) | h
  · exact .inl (.inl (e.but _ _ h fun _ z => by cases z))
  · exact .inl (.inr ⟨o, e.but _ _ h fun _ z => by cases z⟩)
  · exact .inr h
mutual
theorem Dp.monoT (e : SameT H H') : ∀ (d : PyData) (v : V), Dp K H v d → Dp K H' v d
  | .none, _, h => by cases h; exact .non
  | .bool b, _, h => by cases h; exact .bl b
  | .int i, _, h => by cases h; exact .int i
  | .str x, _, h => by cases h; exact .str x
  | .list ds, _, h => by
    cases h with
    | lst hs ha => exact .lst (SameT.seq e hs) (Dp.monoTAll e ds _ ha)
  | .tuple ds, _, h => by
    cases h with
    | tup hs ha => exact .tup (SameT.tseq e hs) (Dp.monoTAll e ds _ ha)
  | .dict _, _, h => by cases h
theorem Dp.monoTAll (e : SameT H H') : ∀ (ds : List PyData) (vs : List V), DpAll K H vs ds → DpAll K H' vs ds
  | [], _, h => by cases h; exact .nil
  | d :: ds, _, h => by
    cases h with
    | cons h1 h2 => exact .cons (Dp.monoT e d _ h1) (Dp.monoTAll e ds _ h2)
end
theorem Fr.monoT {v : V} {r : Rat} (e : SameT H H') (h : Ub.Fr K H v r) : Ub.Fr K H' v r := Dp.monoT e _ _ h
theorem Frs.monoT {v : V} {rs : List Rat} (e : SameT H H') (h : Ub.Frs K H v rs) : Ub.Frs K H' v rs := Dp.monoT e _ _ h
end
section
variable {P : Program} {w : World} {K : PySem.W.Frag} {mg : Str → Option Value} {base : Heap} {x qual : Str} {params : Arguments} {body : List Stmt} {scope : Scope} {dvs : List V} {kws : List (Str × V)} {f : Addr} {fd : FuncData}
theorem FunD.okT {CX : CXT} {N ps : List Str} {k : Nat} {sp : Sp} {p : He.Defn} (F : FunD K x qual params body scope dvs kws f fd) (hf : f = He.fAd K p) (S : FnScope N ps scope) (len : ∀ vs H Q E, sp vs H Q E → vs.length = ps.length)
    (hbody : ∀ (A : Around) (outer : List Env) (s : Shared) (H : Hp) (vs : List V) (Q : VK) (E : XK), Room k (A.deeper (envOfC qual scope s.heap.objs.size f (.ref (He.cT K p).1))) → sp vs H Q E →
      ∃ t, PSs (cxOf CX P w K mg base N qual scope f (.ref (He.cT K p).1) A outer s H E) body t ∧ t { nx := fun _ H' => Q .non H', rt := Q } (start N vs) H) : FnOk P w K mg base CX (k + 1) f fd ps sp := by
  obtain ⟨oc, od, dV, kV, doc, pm, an, cdv, ct, osl, rfl, lk, hcd, _, _⟩ := F.ex
  obtain ⟨c, hc⟩ := He.codeIn_ref hcd
  subst hc
  have e : (He.cT K p).1 = c := He.codeOf_eq (by rw [← hf]; exact lk) rfl
  refine fn_of lk hcd S len fun A outer s H vs Q E hr hsp => ?_
  have h := hbody A outer s H vs Q E (by rw [e]; exact hr) hsp
  rw [e] at h
  exact h
end
theorem endOfLawT {l : PySem.W.OpenLaw} {n k : Nat} {q : Program} {loose : List Str} {XP : (Str → Option Value) → Heap → Prop} {YP : World → Heap → Prop} {d : DefRec} {x : Str}
    (most : l.most = some n) (small : n ≤ sizeLine) (plain : d.params.defaults = []) (room : Room k callerA) (tf : List He.Defn)
    (all : ∀ (w : World) (mg : Str → Option Value) (fa : Addr) (h : Heap), YP w h → h.Ns mainGlobals mg → mg d.name = some (.ref fa) → ∃ (K : PySem.W.Frag) (fd : FuncData) (sp : Sp), K.In h ∧
      (∀ p ∈ tf, PySem.W.codeHdIn K (He.cT K p).1 (He.cT K p).2 = true) ∧ (∀ p ∈ tf, K.lookup (He.cT K p).2 = none) ∧ (∀ p ∈ tf, h.get? (He.cT K p).2 = some { cls := .none, data := .fields #[] }) ∧
      (∀ (s : Shared) (u : Value), BindsTo s fd ⟨[u], []⟩ [(x, u)]) ∧ (∀ (H : Hp) (a : Addr) (ns : List Int), ns.length ≤ n → (∀ z ∈ ns, Builtin.Int.intBits z ≤ 1048576) → (∀ p ∈ tf, GxR.TabG H (He.cT K p).2) → SqL K H a (ns.map V.int) → sp [.ref a] H (fun v _ => v = .bl true) E0) ∧
      ∀ base : Heap, K.In base → base.Ns mainGlobals mg → (∀ p ∈ tf, GxR.TabB base mg (He.cT K p).1 (He.cT K p).2) → FnOk l.prog w K mg base (L2.CX l.prog w) k fa fd [x] sp) :
    PySem.W.WalkO q loose XP YP l.row.toRowW d [] (fun f vs => PySem.call f vs) := by
  refine LamX.walk_ofTsE (CX := fun w => L2.CX l.prog w) (x := x) most small plain room (fun w mg fa h Y hn hm => ?_) fun w H s e s' z => Ub.noExc z
  obtain ⟨K, fd, sp, kin, hd, out, emp, bnd, want, ok⟩ := all w mg fa h Y hn hm
  refine ⟨K, kin, fd, tf.map (He.cT K), sp, fun p hp => ?_, fun p hp => ?_, fun p hp => ?_, bnd, fun H a ns hl hb hT hS => want H a ns hl hb (fun p hp => ?_) hS, fun base k2 g2 tb => ok base k2 g2 fun p hp => ?_⟩
  · obtain ⟨q, hq, rfl⟩ := List.mem_map.mp hp
    exact emp q hq
  · obtain ⟨q, hq, rfl⟩ := List.mem_map.mp hp
    exact out q hq
  · obtain ⟨q, hq, rfl⟩ := List.mem_map.mp hp
    exact PySem.W.codeHd_of_K kin (hd q hq)
  · exact ⟨#[], hT _ (List.mem_map.mpr ⟨p, hp, rfl⟩), True.intro⟩
  · obtain ⟨a, b, c⟩ := tb _ (List.mem_map.mpr ⟨p, hp, rfl⟩)
    exact ⟨a, b, c⟩
def gexC (N : List Str) (sc scope : Scope) (own : List (Str × Nat)) : Bool :=
  decide (scope.kind = .function) && (decide (scope.isCoroutine = false) && (scope.names.all (fun y => decide (y.2 ≠ .cell)) && (decide (scope.names.lookup (".0" : Str) = some NameKind.local) && (scope.names.all (fun y => decide (scope.names.lookup y.1 = some y.2)) &&
    (own.all (fun p => decide (N[p.2]? = some p.1)) && (scope.names.all (fun y => decide (y.2 = .free → (sc.names.lookup y.1 = some .cell ∨ sc.names.lookup y.1 = some .free))) && scope.names.all (fun y => decide (y.2 = .local → (y.1 ∈ own.map (·.1) ∨ y.1 ∉ N)))))))))
theorem gexOk_by {N : List Str} {sc scope : Scope} {own : List (Str × Nat)} (h : gexC N sc scope own = true) : GexOk N sc scope own := by
  unfold gexC at h
  simp only [Bool.and_eq_true, List.all_eq_true, decide_eq_true_eq] at h
  obtain ⟨h1, h2, h3, h4, h5, h6, h7, h8⟩ := h
  exact ⟨h1, h2, h3, h4, h5, h6, h7, h8⟩
section
open RT
variable {prog : Program} {w : World} {A : Around} {E : Value → Shared → Prop} {s : Shared}
theorem call_list_revI {it l : Addr} {items : Array Value} {Q : Value → Shared → Prop} (hh : A.handled = none) (hit : s.heap.IsRevIter it l ((items.size : Int) - 1)) (hl : s.heap.IsList l items) (hne : l ≠ it) (hn : items.size ≤ sizeLine)
    (hQ : ∀ (h' : Heap) (tk : Nat) (acc : Array Value) (c' : Nat), (∀ b o, b ≠ it → s.heap.get? b = some o → h'.get? b = some o) → h'.get? s.heap.objs.size = some (lstObj acc c') → ItemsOf (fun i v => items[items.size - 1 - i]? = some v) acc items.size → Q (.ref s.heap.objs.size) { s with heap := h', toks := tk }) :
    wpAny (model prog w) A (call (.type "list") [.ref it]) Q E s := by
  have W := (Walks.listRev (prog := prog) (w := w) (A := A.in1.in1) hh it l hne items).toS
  obtain ⟨oi, hoi, _⟩ := id hit
  obtain ⟨ol, hol, _⟩ := id hl
  have hSi : s.heap.objs.size ≠ it := Nat.ne_of_gt (Heap.lt_size hoi)
  have hSl : s.heap.objs.size ≠ l := Nat.ne_of_gt (Heap.lt_size hol)
  have hSf : s.heap.objs.size ∉ [it, l] := by simp only [List.mem_cons, List.not_mem_nil, or_false, not_or]; exact ⟨hSi, hSl⟩
  refine callType_codes (Q₁ := fun obj s₁ => obj = .ref s.heap.objs.size ∧ s₁ = { s with heap := s.heap.push { cls := .type "list", data := .seq #[] } }) F.called_list (F.typeCall_list_1 _) F.entry_list_init
    (code_list_new _ ⟨rfl, rfl⟩) fun obj s₁ h₁ => ?_
  obtain ⟨rfl, rfl⟩ := h₁
  have hS : (s.heap.push { cls := .type "list", data := .seq #[] }).get? s.heap.objs.size = some { cls := .type "list", data := .seq #[] } := Heap.get?_push_size _ rfl
  refine ⟨⟨_, hS, rfl⟩, F.args_list_init_2 _ _, ?_⟩
  show wpAny _ A.in1.in1 (do let old ← Builtin.List.listItems (.ref s.heap.objs.size); Builtin.List.listUpdate (.ref s.heap.objs.size) (fun _ => #[]); letGo old.toList.reverse; Builtin.List.listExtendWith (.ref s.heap.objs.size) (.ref it) .none) _ _ _
  refine wpAny_bind ?_
  unfold Builtin.List.listItems
  refine wpAny_bind (wpAny_seqItems hS rfl (wpAny_pure ?_))
  show wpAny _ A.in1.in1 (updateSeq s.heap.objs.size (fun _ => #[]) >>= fun _ => letGo (#[] : Array Value).toList.reverse >>= fun _ => Builtin.List.listExtendWith (.ref s.heap.objs.size) (.ref it) .none) _ _ _
  refine wpAny_bind (wpAny_updateSeq hS rfl ?_)
  have hS2 := Heap.get?_update_self (Obj.mapSeq (fun _ => (#[] : Array Value))) hS rfl
  refine wpAny_bind (wpAny_letGo ?_)
  have kp : ∀ b o, s.heap.get? b = some o → ((s.heap.push { cls := .type "list", data := .seq #[] }).update s.heap.objs.size (Obj.mapSeq (fun _ => (#[] : Array Value)))).get? b = some o := fun b o e =>
    (Heap.get?_update_other _ _ (Ne.symm (Nat.ne_of_lt (Heap.lt_size e)))).trans (Heap.get?_push_of_some _ e)
  generalize ((s.heap.push { cls := .type "list", data := .seq #[] }).update s.heap.objs.size (Obj.mapSeq (fun _ => (#[] : Array Value)))) = h2 at hS2 kp ⊢
  have hit1 : h2.IsRevIter it l ((items.size : Int) - 1) := hit.at fun o e => kp it o e
  have hl1 : h2.IsList l items := hl.at fun o e => kp l o e
  have hT : ({ s with heap := h2 } : Shared).TypeIs (.ref it) "list_reverseiterator" := Heap.IsRevIter.typeIs (s := { s with heap := h2 }) hit1
  have h1 : Builtin.List.listSameRef (.ref s.heap.objs.size) (.ref it) = false := by simp [Builtin.List.listSameRef, hSi]
  unfold Builtin.List.listExtendWith
  refine wpAny_bind (wpAny_typeOf hT ?_)
  rw [if_neg (by rw [h1]; decide)]
  refine wpAny_bind (wpAny_pyIter_revIter (s := { s with heap := h2 }) hit1 ?_)
  refine wpAny_bind (wpAny_holding ?_)
  unfold Builtin.List.listLengthHint
  refine wpAny_bind (wpAny_specialOf hT nolen_lri ?_)
  show wpAny _ A.in1.in1 (specialOf (Value.ref it) (Str.ofString "__length_hint__") >>= _) _ _ _
  refine wpAny_bind (wpAny_specialOf hT hint_lri ?_)
  generalize hid : ("list_reverseiterator.__length_hint__" : String) = id0
  wp_delta
  rw [show splitId id0 = some ("list_reverseiterator", "__length_hint__") from by subst hid; decide +kernel]
  subst hid
  refine wpAny_bind (wpAny_isInstance (b := true) hT (by rw [isSubtype_type]; kernel_rfl) ?_)
  refine wpAny_pure ?_
  rw [if_neg (by decide)]
  have e0 : ((items.size : Nat) : Int) - 1 - ((0 : Nat) : Int) = (items.size : Int) - 1 := by omega
  refine wpAny_pure ⟨plainId_quiet F.plain_extend_loop _, codeAny_extend_loopS W hn _ hSf _ items.size 0 _ _ _ rfl (Nat.zero_le _) ⟨Nat.zero_le _, by rw [e0]; exact hit1, hl1⟩ hS2 (ItemsOf.nil _) fun s' acc' c' hm hS' hacc => ?_⟩
  rw [Moved.eq_with hm]
  refine ⟨rfl, hQ s'.heap s'.toks acc' c' (fun b o hb e => hm.heap b o (fun hmem => ?_) (kp b o e)) hS' hacc⟩
  rcases List.mem_cons.mp hmem with e' | hmem
  · exact absurd (Heap.lt_size e) (by rw [e']; exact Nat.lt_irrefl _)
  · exact hb (List.mem_singleton.mp hmem)
end
def tListRev (K : PySem.W.Frag) (te : TE) : TE := fun σ H Q => te σ H fun v H1 => ∃ (a : Addr) (xs : List V), v = .ref a ∧ SqL K H1 a xs ∧ ∀ q, H1 q = none → Q (.ref q) (upd H1 q (.lst xs.reverse))
theorem pe_listRev {X : Cx} {e : Expr} {te : TE} {p p2 pos pos2 : Pos} (hc : X.calm = true) (hg : Gl X "list") (hm : X.mg "list" = none) (hb : bootBuiltins "list" = some (.type "list")) (hg2 : Gl X "reversed") (hm2 : X.mg "reversed" = none) (he : PE X e te)
    (hs : starEach [e] X.env = (false, eval e X.env) :: starEach [] X.env := by rfl)
    (hs2 : starEach [.Call (.Name "reversed" p2) [e] [] pos2] X.env = (false, eval (.Call (.Name "reversed" p2) [e] [] pos2) X.env) :: starEach [] X.env := by rfl) :
    PE X (.Call (.Name "list" p) [.Call (.Name "reversed" p2) [e] [] pos2] [] pos) (tListRev X.K te) := by
  refine ⟨fun pins s σ H Q I h => ?_⟩
  refine Call_ (ld_blt I hg hm hb (PyProof.Rows.callWith_type1 (args_cons (Call_ (ld_blt I hg2 hm2 PyProof.Rows.boot_reversed (PyProof.Rows.callWith_type1 (args_cons (thn (he.run pins s σ H _ I h) fun u s1 ⟨v, H1, I1, r1, q1⟩ => args_nil ?_) hs) hs rfl))) hs2) hs2 rfl))
  obtain ⟨a, xs, ev, hq, q⟩ := q1
  subst ev
  obtain rfl : u = Value.ref a := r1
  obtain ⟨its, rv, p', hz⟩ := I1.list hq
  refine call_reversed_list p'.isList (args_nil ?_)
  have k0 : ∀ b o, s1.heap.get? b = some o → (s1.heap.push (revObj a ((its.toArray.size : Int) - 1))).get? b = some o := fun b o e => Heap.get?_push_of_some _ e
  have I2 : L2.Inv X pins σ H1 { s1 with heap := s1.heap.push (revObj a ((its.toArray.size : Int) - 1)) } := I1.kept (t' := s1.toks) k0
  obtain ⟨f0, f1, f2, f3, f4, f5⟩ := I1.fpOk (H' := H1) (b := s1.heap.objs.size) (Nat.le_refl _) (I1.hok.fresh (Nat.le_refl _))
  have hl := p'.isList
  obtain ⟨ol, hol, _⟩ := id hl
  have hne : a ≠ s1.heap.objs.size := Nat.ne_of_lt (Heap.lt_size hol)
  have hn : its.toArray.size ≤ sizeLine := by rw [List.size_toArray, ← rv.length]; exact hz
  refine call_list_revI (s := { s1 with heap := s1.heap.push (revObj a ((its.toArray.size : Int) - 1)) }) (I1.ok.hd hc) ⟨_, Heap.get?_push_size _ rfl, rfl, rfl⟩ (hl.push _) hne hn fun h' tk acc c' hk hS hi => ?_
  have I3 : L2.Inv X pins σ H1 { s1 with heap := h', toks := tk } := I2.turned (t' := tk) (fun b o hb e => hk b o hb e) f0 f1 f3 f4 f5
  have nS : H1 (s1.heap.push (revObj a ((its.toArray.size : Int) - 1))).objs.size = none := I2.hok.fresh (Nat.le_refl _)
  refine ⟨.ref (s1.heap.push (revObj a ((its.toArray.size : Int) - 1))).objs.size, upd H1 _ (.lst xs.reverse), Inv.drained (sc := { s1 with heap := s1.heap.push (revObj a ((its.toArray.size : Int) - 1)) }) (ex := [s1.heap.objs.size]) I2 (Nat.le_refl _) (by rw [List.length_reverse]; exact hz) hS (RT.vals_rev rv hi) ?_ rfl I1.bare ?_ I3.hok nS, rfl, q _ nS⟩
  · intro b hb
    rw [List.mem_singleton.mp hb]
    exact ⟨f3, f1, f4, f5⟩
  · refine ⟨fun b o e n hb hx => hk b o (fun z => hx (List.mem_singleton.mpr z)) e, fun b o e n hb hx => ⟨o.slots, hk b o (fun z => hx (List.mem_singleton.mpr z)) e⟩, fun b o e n hx => n, fun b o e hx => ⟨o, hk b o (fun z => hx (List.mem_singleton.mpr z)) e⟩, fun _ _ z => z, fun _ _ _ z => z, fun b ps z => ⟨#[], by rw [z]; simp⟩⟩
end UbG
namespace UbR
open PySem PySem.Spec PyProof.Rows L2 UbM Ub
/-- the heap without the cells in S -/
def wo (S : List Addr) (H : Hp) : Hp := fun b => if b ∈ S then none else H b
theorem wo_in {S : List Addr} {H : Hp} {b : Addr} {o : HO} (h : wo S H b = some o) : b ∉ S ∧ H b = some o := by
  unfold wo at h
  by_cases hb : b ∈ S
  · rw [if_pos hb] at h
    cases h
  · rw [if_neg hb] at h
    exact ⟨hb, h⟩
theorem wo_out {S : List Addr} {H : Hp} {b : Addr} (hb : b ∉ S) : wo S H b = H b := by
  unfold wo
  rw [if_neg hb]
theorem wo_same {S : List Addr} {H : Hp} : Same (wo S H) H := fun b o h => (wo_in h).2
theorem wo_upd {S : List Addr} {H : Hp} {a : Addr} {o : HO} (ha : a ∈ S) : wo S (upd H a o) = wo S H := by
  funext b
  unfold wo
  by_cases hb : b ∈ S
  · rw [if_pos hb, if_pos hb]
  · rw [if_neg hb, if_neg hb, upd_ne (show b ≠ a from fun z => hb (by rw [z]; exact ha))]
theorem wo_sub {S S' : List Addr} {H : Hp} (h : ∀ s ∈ S, s ∈ S') : Same (wo S' H) (wo S H) := fun b o e => by
  obtain ⟨h1, h2⟩ := wo_in e
  rw [wo_out fun z => h1 (h b z)]
  exact h2
/-- all stands but the lists in S; tables may grow -/
structure SameS (S : List Addr) (H H' : Hp) : Prop where
  but : ∀ b o, b ∉ S → H b = some o → (∀ ps, o ≠ .tbl ps) → H' b = some o
  tab : ∀ P, GxR.TabG H P → GxR.TabG H' P
  ls : ∀ s, s ∈ S → (∃ xs, H s = some (.lst xs)) → ∃ xs, H' s = some (.lst xs)
/-- the cells in S are lists -/
def Ls (S : List Addr) (H : Hp) : Prop := ∀ s, s ∈ S → ∃ xs, H s = some (.lst xs)
theorem SameS.refl {S : List Addr} (H : Hp) : SameS S H H := ⟨fun _ _ _ h _ => h, fun _ h => h, fun _ _ h => h⟩
theorem SameS.trans {S : List Addr} {H H1 H2 : Hp} (a : SameS S H H1) (b : SameS S H1 H2) : SameS S H H2 :=
  ⟨fun c o n h t => b.but c o n (a.but c o n h t) t, fun P h => b.tab P (a.tab P h), fun s hs h => b.ls s hs (a.ls s hs h)⟩
theorem sameTS {S : List Addr} {H H' : Hp} (e : UbG.SameT H H') : SameS S H H' := ⟨fun b o _ h t => e.but b o h t, e.tab, fun s _ ⟨xs, h⟩ => ⟨xs, e.but _ _ h fun _ z => by cases z⟩⟩
theorem SameS.sub {S S' : List Addr} {H H' : Hp} (e : SameS S H H') (h : ∀ s ∈ S, s ∈ S') : SameS S' H H' :=
  ⟨fun b o n g t => e.but b o (fun z => n (h b z)) g t, e.tab, fun s _ ⟨xs, g⟩ => by
    by_cases hs : s ∈ S
    · exact e.ls s hs ⟨xs, g⟩
    · exact ⟨xs, e.but _ _ hs g fun _ z => by cases z⟩⟩
theorem notTbl {H : Hp} {a : Addr} {xs : List V} (h : H a = some (.lst xs)) : ∀ ps, H a ≠ some (.tbl ps) := fun ps z => by
  rw [h] at z
  cases z
theorem SameS.wT {S : List Addr} {H H' : Hp} (e : SameS S H H') : UbG.SameT (wo S H) (wo S H') := by
  refine ⟨fun b o h t => ?_, fun P ⟨ps, h, t⟩ => ?_⟩
  · obtain ⟨h1, h2⟩ := wo_in h
    rw [wo_out h1]
    exact e.but b o h1 h2 t
  · obtain ⟨h1, h2⟩ := wo_in h
    obtain ⟨qs, g, t2⟩ := e.tab P ⟨ps, h2, t⟩
    exact ⟨qs, by rw [wo_out h1]; exact g, t2⟩
theorem SameS.get {S : List Addr} {H H' : Hp} {a : Addr} {xs : List V} (e : SameS S H H') (h : H a = some (.lst xs)) (ha : a ∉ S) : H' a = some (.lst xs) := e.but _ _ ha h fun _ z => by cases z
section
variable {K : PySem.W.Frag} {S S' : List Addr} {H H' : Hp} {v : V} {d : PyData}
theorem Kp.mono (e : SameS S H H') (h : Dp K (wo S H) v d) : Dp K (wo S H') v d := UbG.Dp.monoT e.wT _ _ h
theorem Kp.monoAll {vs : List V} {ds : List PyData} (e : SameS S H H') (h : DpAll K (wo S H) vs ds) : DpAll K (wo S H') vs ds := UbG.Dp.monoTAll e.wT _ _ h
theorem Kp.dp (h : Dp K (wo S H) v d) : Dp K H v d := Dp.mono wo_same _ _ h
theorem Kp.sub (i : ∀ s ∈ S, s ∈ S') (h : Dp K (wo S' H) v d) : Dp K (wo S H) v d := Dp.mono (wo_sub i) _ _ h
theorem Kp.subAll {vs : List V} {ds : List PyData} (i : ∀ s ∈ S, s ∈ S') (h : DpAll K (wo S' H) vs ds) : DpAll K (wo S H) vs ds := Dp.monoAll (wo_sub i) _ _ h
theorem wo_tseq {a : Addr} {xs : List V} (l : Ls S H) (h : SqT K H a xs) : SqT K (wo S H) a xs := by
  have go : ∀ o, H a = some o → (∀ ys, o ≠ .lst ys) → wo S H a = some o := fun o e n => by
    rw [wo_out fun z => ?_]
    · exact e
    · obtain ⟨ys, g⟩ := l _ z
      rw [g] at e
      cases e
      exact n ys rfl
  rcases h with (h | ⟨o, h⟩) | h
  · exact .inl (.inl (go _ h fun _ z => by cases z))
  · exact .inl (.inr ⟨o, go _ h fun _ z => by cases z⟩)
  · exact .inr h
mutual
theorem Kp.ofNoL (l : Ls S H) : ∀ (d : PyData) (v : V), noL d = true → Dp K H v d → Dp K (wo S H) v d
  | .none, _, _, h => by cases h; exact .non
  | .bool b, _, _, h => by cases h; exact .bl b
  | .int i, _, _, h => by cases h; exact .int i
  | .str x, _, _, h => by cases h; exact .str x
  | .list ds, _, n, _ => by
    unfold noL at n
    cases n
  | .tuple ds, _, n, h => by
    cases h with
    | tup hs ha => exact .tup (wo_tseq l hs) (Kp.ofNoLAll l ds _ (by unfold noL at n; exact (Bool.and_eq_true_iff.mp n).2) ha)
  | .dict _, _, _, h => by cases h
theorem Kp.ofNoLAll (l : Ls S H) : ∀ (ds : List PyData) (vs : List V), noL.noLs ds = true → DpAll K H vs ds → DpAll K (wo S H) vs ds
  | [], _, _, h => by cases h; exact .nil
  | dt :: ds, _, n, h => by
    unfold noL.noLs at n
    obtain ⟨n1, n2⟩ := Bool.and_eq_true_iff.mp n
    cases h with
    | cons h1 h2 => exact .cons (Kp.ofNoL l dt _ n1 h1) (Kp.ofNoLAll l ds _ n2 h2)
end
theorem Kp.fr {r : Rat} (l : Ls S H) (h : Fr K H v r) : Fr K (wo S H) v r := Kp.ofNoL l _ _ rfl h
/-- what is new is in no cell -/
theorem Ls.new {p : Addr} (l : Ls S H) (np : H p = none) : p ∉ S := fun z => by
  obtain ⟨xs, h⟩ := l p z
  rw [np] at h
  cases h
/-- a cell whose items stand apart from it, at its end: data -/
theorem Kp.done {a : Addr} {xs : List V} {ds : List PyData} (h : H a = some (.lst xs)) (ha : a ∉ S) (hD : DpAll K (wo (a :: S) H) xs ds) : Dp K (wo S H) (.ref a) (.list ds) :=
  .lst (.inl (.inl (by rw [wo_out ha]; exact h))) (Kp.subAll (fun s hs => List.mem_cons_of_mem _ hs) hD)
theorem Kp.lst {a : Addr} {ds : List PyData} (h : Dp K (wo S H) (.ref a) (.list ds)) : ∃ xs, SqL K (wo S H) a xs ∧ DpAll K (wo S H) xs ds := by
  cases h with
  | lst h1 h2 => exact ⟨_, h1, h2⟩
end
/-- a list of whole numbers stands at d -/
def Ints (H : Hp) (d : Addr) : Prop := ∃ ns : List Int, H d = some (.lst (ns.map V.int))
theorem Ints.monoT {H H' : Hp} {d : Addr} (e : UbG.SameT H H') (h : Ints H d) : Ints H' d := by
  obtain ⟨ns, h⟩ := h
  exact ⟨ns, e.but _ _ h fun _ z => by cases z⟩
theorem Ints.mono {H H' : Hp} {d : Addr} (e : Same H H') (h : Ints H d) : Ints H' d := h.monoT (UbG.sameT e)
theorem Ints.monoS {S : List Addr} {H H' : Hp} {d : Addr} (e : SameS S H H') (hd : d ∉ S) (h : Ints H d) : Ints H' d := by
  obtain ⟨ns, h⟩ := h
  exact ⟨ns, e.get h hd⟩
theorem Ints.stay {H : Hp} {d a : Addr} {o : HO} (h : Ints H d) (n : d ≠ a) : Ints (upd H a o) d := by
  obtain ⟨ns, h⟩ := h
  exact ⟨ns, by rw [upd_ne n]; exact h⟩
theorem Ints.ls {H : Hp} {d : Addr} (h : Ints H d) : Ls [d] H := fun s hs => by
  obtain ⟨ns, h⟩ := h
  rw [List.mem_singleton.mp hs]
  exact ⟨_, h⟩
theorem Ints.ne {H : Hp} {d a : Addr} (h : Ints H d) (na : H a = none) : d ≠ a := fun z => by
  obtain ⟨ns, h⟩ := h
  rw [z, na] at h
  cases h
theorem rdApp {H : Hp} {Q : VK} {d : Addr} {xs : List V} {x : V} (h : H d = some (.lst xs)) (hz : xs.length ≤ 5000) (q : Q .non (upd H d (.lst (xs ++ [x])))) : rAppend (.ref d) [x] H Q :=
  ⟨d, _, _, rfl, rfl, h, Nat.lt_of_le_of_lt hz (by decide), q⟩
/-- small fractions -/
def Sm (a b : Nat) (r : Rat) : Prop := r.num.natAbs ≤ a ∧ r.den ≤ b
theorem Sm.mono {a b a' b' : Nat} {r : Rat} (h : Sm a b r) (ha : a ≤ a') (hb : b ≤ b') : Sm a' b' r := ⟨Nat.le_trans h.1 ha, Nat.le_trans h.2 hb⟩
def LL (K : PySem.W.Frag) (H : Hp) (a : Addr) (ds : List PyData) : Prop := ∃ xs, H a = some (.lst xs) ∧ DpAll K H xs ds
section
variable {K : PySem.W.Frag} {S S' : List Addr} {H H' : Hp} {a : Addr} {ds : List PyData}
theorem LL.dp (h : LL K H a ds) : Dp K H (.ref a) (.list ds) := by
  obtain ⟨xs, h1, h2⟩ := h
  exact .lst (.inl (.inl h1)) h2
theorem LL.monoT (e : UbG.SameT H H') (h : LL K H a ds) : LL K H' a ds := by
  obtain ⟨xs, h1, h2⟩ := h
  exact ⟨xs, e.but _ _ h1 (fun _ z => by cases z), UbG.Dp.monoTAll e _ _ h2⟩
theorem LL.mono (e : Same H H') (h : LL K H a ds) : LL K H' a ds := h.monoT (UbG.sameT e)
theorem LL.monoS (e : SameS S H H') (h : LL K (wo S H) a ds) : LL K (wo S H') a ds := h.monoT e.wT
theorem LL.out (h : LL K (wo S H) a ds) : LL K H a ds := h.mono wo_same
theorem LL.sub (i : ∀ s ∈ S, s ∈ S') (h : LL K (wo S' H) a ds) : LL K (wo S H) a ds := h.mono (wo_sub i)
theorem LL.notIn (h : LL K (wo S H) a ds) : a ∉ S := by
  obtain ⟨xs, h1, h2⟩ := h
  exact (wo_in h1).1
theorem LL.at {i : Nat} {d : PyData} (h : LL K H a ds) (e : ds[i]? = some d) : ∃ xs v, H a = some (.lst xs) ∧ xs[i]? = some v ∧ Dp K H v d := by
  obtain ⟨xs, h1, h2⟩ := h
  obtain ⟨v, h3, h4⟩ := go h2 e
  exact ⟨xs, v, h1, h3, h4⟩
where
  go {K : PySem.W.Frag} {H : Hp} : ∀ {xs : List V} {ds : List PyData} {i : Nat} {d : PyData}, DpAll K H xs ds → ds[i]? = some d → ∃ v, xs[i]? = some v ∧ Dp K H v d
    | _, _, _, _, .nil, h => by simp at h
    | _, _, 0, _, .cons h1 _, h => by
      simp at h
      subst h
      exact ⟨_, rfl, h1⟩
    | _, _, i + 1, d, .cons _ h2, h => by
      obtain ⟨v, e, q⟩ := LL.at.go (i := i) (d := d) h2 (by simpa using h)
      exact ⟨v, by simpa using e, q⟩
theorem LL.done {xs : List V} (h : H a = some (.lst xs)) (ha : a ∉ S) (hD : DpAll K (wo (a :: S) H) xs ds) : LL K (wo S H) a ds :=
  ⟨xs, by rw [wo_out ha]; exact h, Kp.subAll (fun s hs => List.mem_cons_of_mem _ hs) hD⟩
end
def Cel (K : PySem.W.Frag) (S : List Addr) (H : Hp) (a : Addr) (ds : List PyData) : Prop := ∃ xs, H a = some (.lst xs) ∧ DpAll K (wo S H) xs ds
section
variable {K : PySem.W.Frag} {S S' : List Addr} {H H' : Hp} {a b : Addr} {ds es : List PyData} {o : HO}
theorem Cel.new {p : Addr} : Cel K S (upd H p (.lst [])) p [] := ⟨[], upd_same, .nil⟩
theorem Cel.monoS (e : SameS S' H H') (i : ∀ s ∈ S', s ∈ S) (ha : a ∉ S') (h : Cel K S H a ds) : Cel K S H' a ds := by
  obtain ⟨xs, h1, h2⟩ := h
  exact ⟨xs, e.get h1 ha, Kp.monoAll (e.sub i) h2⟩
theorem Cel.monoT (e : UbG.SameT H H') (h : Cel K S H a ds) : Cel K S H' a ds := h.monoS (S' := []) (sameTS e) (fun _ z => absurd z (List.not_mem_nil)) (List.not_mem_nil)
theorem Cel.mono (e : Same H H') (h : Cel K S H a ds) : Cel K S H' a ds := h.monoT (UbG.sameT e)
theorem Cel.ls (h : Cel K S H a ds) : ∃ xs, H a = some (.lst xs) := by
  obtain ⟨xs, h1, _⟩ := h
  exact ⟨xs, h1⟩
theorem Cel.app {y : V} {d : PyData} {Q : VK} (h : Cel K S H a ds) (ha : a ∈ S) (hz : ds.length ≤ 5000) (hy : Dp K (wo S H) y d) (q : ∀ acc, H a = some (.lst acc) → Cel K S (upd H a (.lst (acc ++ [y]))) a (ds ++ [d]) → Q .non (upd H a (.lst (acc ++ [y])))) : rAppend (.ref a) [y] H Q := by
  obtain ⟨xs, h1, h2⟩ := h
  exact rdApp h1 (by rw [dpAll_len h2]; exact hz) (q _ h1 ⟨_, upd_same, by rw [wo_upd ha]; exact dpAll_snoc h2 hy⟩)
theorem Cel.done (h : Cel K S H a ds) (i : ∀ s ∈ S', s ∈ S) (ha : a ∉ S') : LL K (wo S' H) a ds := by
  obtain ⟨xs, h1, h2⟩ := h
  exact ⟨xs, by rw [wo_out ha]; exact h1, Kp.subAll i h2⟩
theorem Cel.stay (h : Cel K S H b es) (ha : a ∈ S) (n : b ≠ a) : Cel K S (upd H a o) b es := by
  obtain ⟨xs, h1, h2⟩ := h
  exact ⟨xs, by rw [upd_ne n]; exact h1, by rw [wo_upd ha]; exact h2⟩
theorem LL.stay (h : LL K (wo S H) b es) (ha : a ∈ S) : LL K (wo S (upd H a o)) b es := by
  rw [wo_upd ha]
  exact h
theorem Kp.stay {v : V} {d : PyData} (h : Dp K (wo S H) v d) (ha : a ∈ S) : Dp K (wo S (upd H a o)) v d := by
  rw [wo_upd ha]
  exact h
end
section
variable {K : PySem.W.Frag} {S S' : List Addr} {H H' : Hp} {a b : Addr} {ds es : List PyData} {o : HO}
theorem Cel.ix {d : PyData} {k : Nat} {z : Int} {Q : VK} (h : Cel K S H a ds) (hz : z = (k : Int)) (e : ds[k]? = some d) (q : ∀ v, Dp K (wo S H) v d → Q v H) : rIx K (.ref a) (.int z) H Q := by
  obtain ⟨xs, h1, h2⟩ := h
  obtain ⟨v, h3, h4⟩ := LL.at.go h2 e
  exact rdIxL (.inl (.inl h1)) (at_of hz h3) (q v h4)
theorem LL.ix {d : PyData} {k : Nat} {z : Int} {Q : VK} (h : LL K (wo S H) a ds) (hz : z = (k : Int)) (e : ds[k]? = some d) (q : ∀ v, Dp K (wo S H) v d → Q v H) : rIx K (.ref a) (.int z) H Q := by
  obtain ⟨xs, v, h1, h3, h4⟩ := h.at e
  exact rdIxL (.inl (.inl (wo_in h1).2)) (at_of hz h3) (q v h4)
end
/-- fractions over one denominator -/
def Sz (D N : Nat) (r : Rat) : Prop := ∃ k : Int, r = Rat.divInt k D ∧ k.natAbs ≤ N
theorem div_plus {a s n : Int} : Rat.divInt a n + Rat.divInt s n = Rat.divInt (a + s) n := by
  rw [Rat.divInt_eq_div, Rat.divInt_eq_div, Rat.divInt_eq_div, Rat.div_def, Rat.div_def, Rat.div_def, ← Rat.add_mul, Rat.intCast_add]
theorem Sz.add {D N M : Nat} {r s : Rat} (h1 : Sz D N r) (h2 : Sz D M s) : Sz D (N + M) (r + s) := by
  obtain ⟨a, rfl, ha⟩ := h1
  obtain ⟨b, rfl, hb⟩ := h2
  exact ⟨a + b, div_plus, by omega⟩
theorem div_neg (a n : Int) : -Rat.divInt a n = Rat.divInt (-a) n := by
  rw [Rat.divInt_eq_div, Rat.divInt_eq_div, Rat.div_def, Rat.div_def, Rat.intCast_neg, Rat.neg_mul]
theorem Sz.neg {D N : Nat} {r : Rat} (h : Sz D N r) : Sz D N (-r) := by
  obtain ⟨a, rfl, ha⟩ := h
  exact ⟨-a, div_neg a D, by omega⟩
theorem Sz.sub {D N M : Nat} {r s : Rat} (h1 : Sz D N r) (h2 : Sz D M s) : Sz D (N + M) (r - s) := by
  rw [Rat.sub_eq_add_neg]
  exact h1.add h2.neg
theorem Sz.mono {D N M : Nat} {r : Rat} (h : Sz D N r) (l : N ≤ M) : Sz D M r := by
  obtain ⟨a, e, ha⟩ := h
  exact ⟨a, e, by omega⟩
theorem Sz.zero {D N : Nat} : Sz D N 0 := ⟨0, by rw [Rat.zero_divInt], Nat.zero_le _⟩
theorem Sz.of {D a b : Nat} {r : Rat} (h : Sm a b r) (hd : r.den ∣ D) (h0 : 0 < D) : Sz D (a * D) r := by
  obtain ⟨c, hc⟩ := hd
  refine ⟨r.num * (c : Int), ?_, ?_⟩
  · have hc0 : (c : Int) ≠ 0 := by
      intro z
      have : c = 0 := by omega
      subst this
      omega
    rw [hc]
    push_cast
    rw [Rat.divInt_mul_right hc0, Rat.num_divInt_den]
  · rw [Int.natAbs_mul]
    have h1 : (c : Int).natAbs ≤ D := by
      have : c ≤ r.den * c := Nat.le_mul_of_pos_left _ r.den_pos
      omega
    exact Nat.mul_le_mul h.1 h1
def Nw (H : Hp) (a : Addr) : Prop := ∀ o, H a = some o → ∃ ps, o = .tbl ps
theorem Nw.of {H : Hp} {a : Addr} (h : H a = none) : Nw H a := fun o e => by
  rw [h] at e
  cases e
theorem Nw.back {H H1 : Hp} {a : Addr} (e : UbG.SameT H H1) (h : Nw H1 a) : Nw H a := fun o g => by
  by_cases ht : ∃ ps, o = .tbl ps
  · exact ht
  · exact h o (e.but _ _ g fun ps z => ht ⟨ps, z⟩)
theorem Nw.ne {H : Hp} {a b : Addr} {xs : List V} (h : Nw H a) (hb : H b = some (.lst xs)) : b ≠ a := fun z => by
  obtain ⟨ps, e⟩ := h _ (z ▸ hb)
  cases e
theorem Nw.notIn {S : List Addr} {H : Hp} {a : Addr} (h : Nw H a) (l : Ls S H) : a ∉ S := fun z => by
  obtain ⟨xs, e⟩ := l a z
  exact h.ne e rfl
theorem late_nw {S : List Addr} {H H' : Hp} {p : Addr} {xs : List V} (e : SameS S H H') (n : Nw H p) (h : ∀ ps, H' p ≠ some (.tbl ps)) (l : Ls S H) : SameS S H (upd H' p (.lst xs)) :=
  ⟨fun b o m g t => by
    have hb : b ≠ p := fun z => by
      obtain ⟨ps, q⟩ := n o (z ▸ g)
      exact t ps q
    rw [upd_ne hb]
    exact e.but b o m g t, fun P g => by
    obtain ⟨qs, g1, t1⟩ := e.tab P g
    exact ⟨qs, by rw [upd_ne (show P ≠ p from fun z => h qs (z ▸ g1))]; exact g1, t1⟩, fun s hs hl => by
    obtain ⟨ys, g⟩ := e.ls s hs hl
    exact ⟨ys, by rw [upd_ne (show s ≠ p from fun z => (n.notIn l) (z ▸ hs))]; exact g⟩⟩
def LC (J : It) (g : TG) (tt : TT) (te : TE) (vs : List Nat) (σ : L2.St) (H1 : Hp) (D : Addr) (Qd : Hp → Prop) : Prop := ∃ W : Nat → Nat → Hp → Prop, (∃ m, W 0 m (upd H1 D (.lst []))) ∧ ∀ i m H, W i m H →
  (J.stop i H ∧ Qd H) ∨ (J.go i H ∧ ∃ Nx : Hp → Prop, (∀ H', Nx H' → ∃ m', m' < m ∧ W (i + 1) m' H') ∧ ∀ x H', J.yld i H x H' → g x (wipe σ vs) H' fun σ2 H2 => wipe σ2 vs = wipe σ vs ∧ tt σ2 H2 fun b H3 =>
    if b = true then te σ2 H3 fun y H4 => ∃ acc, H4 D = some (.lst acc) ∧ acc.length < sizeLine ∧ Nx (upd H4 D (.lst (acc ++ [y]))) else Nx H3)
def FL (J : It) (g : TG) (tb : TS) (D : Ends) (σ : L2.St) (H1 : Hp) : Prop := ∃ W : Nat → Nat → L2.St → Hp → Prop, (∃ m, W 0 m σ H1) ∧ ∀ i m σ H, W i m σ H →
  (J.stop i H ∧ D.nx σ H) ∨ (J.go i H ∧ ∃ N : L2.St → Hp → Prop, (∀ σ' H', N σ' H' → ∃ m', m' < m ∧ W (i + 1) m' σ' H') ∧ ∀ x H', J.yld i H x H' → g x σ H' fun σ2 H2 => tb { D with nx := N, ct := N, bk := D.nx } σ2 H2)
theorem FL.range {lo : Int} {n : Nat} {g : TG} {tb : TS} {D : Ends} {σ : L2.St} {H : Hp} (Pv : Nat → L2.St → Hp → Prop) (h0 : Pv 0 σ H)
    (hs : ∀ i σ H, i < n → Pv i σ H → g (.int (lo + i)) σ H fun σ2 H2 => tb { D with nx := Pv (i + 1), ct := Pv (i + 1), bk := D.nx } σ2 H2) (hd : ∀ σ H, Pv n σ H → D.nx σ H) : FL (Itr lo n) g tb D σ H := for_range Pv h0 hs hd
theorem FL.list {K : PySem.W.Frag} {a : Addr} {xs : List V} {g : TG} {tb : TS} {D : Ends} {σ : L2.St} {H : Hp} (Pv : Nat → L2.St → Hp → Prop) (h0 : Pv 0 σ H) (hl : ∀ i σ H, i ≤ xs.length → Pv i σ H → SqL K H a xs)
    (hs : ∀ i x σ H, xs[i]? = some x → Pv i σ H → g x σ H fun σ2 H2 => tb { D with nx := Pv (i + 1), ct := Pv (i + 1), bk := D.nx } σ2 H2) (hd : ∀ σ H, Pv xs.length σ H → D.nx σ H) : FL (Itl K a) g tb D σ H := for_list Pv h0 hl hs hd
theorem FL.zip {K : PySem.W.Frag} {a b : Addr} {xs ys : List V} {g : TG} {tb : TS} {D : Ends} {σ : L2.St} {H : Hp} (Pv : Nat → L2.St → Hp → Prop) (h0 : Pv 0 σ H) (hl : ∀ i σ H, Pv i σ H → SqL K H a xs ∧ SqL K H b ys)
    (hs : ∀ i x y σ H T, xs[i]? = some x → ys[i]? = some y → Pv i σ H → H T = none → g (.ref T) σ (upd H T (.tup [x, y])) fun σ2 H2 => tb { D with nx := Pv (i + 1), ct := Pv (i + 1), bk := D.nx } σ2 H2) (hd : ∀ σ H, Pv (min xs.length ys.length) σ H → D.nx σ H) : FL (Itz K a b) g tb D σ H := forZip Pv h0 hl hs hd
theorem LC.range {lo : Int} {n : Nat} {g : TG} {tt : TT} {te : TE} {vs : List Nat} {σ : L2.St} {H1 : Hp} {D : Addr} {Qd : Hp → Prop} (Pv : Nat → Hp → Prop) (h0 : Pv 0 (upd H1 D (.lst [])))
    (hs : ∀ i H, i < n → Pv i H → g (.int (lo + i)) (wipe σ vs) H fun σ2 H2 => wipe σ2 vs = wipe σ vs ∧ tt σ2 H2 fun b H3 =>
      if b = true then te σ2 H3 fun y H4 => ∃ acc, H4 D = some (.lst acc) ∧ acc.length < sizeLine ∧ Pv (i + 1) (upd H4 D (.lst (acc ++ [y]))) else Pv (i + 1) H3) (hd : ∀ H, Pv n H → Qd H) : LC (Itr lo n) g tt te vs σ H1 D Qd := lc_range Pv h0 hs hd
theorem LC.list {K : PySem.W.Frag} {a : Addr} {xs : List V} {g : TG} {tt : TT} {te : TE} {vs : List Nat} {σ : L2.St} {H1 : Hp} {D : Addr} {Qd : Hp → Prop} (Pv : Nat → Hp → Prop) (h0 : Pv 0 (upd H1 D (.lst []))) (hl : ∀ i H, i ≤ xs.length → Pv i H → SqL K H a xs)
    (hs : ∀ i x H, xs[i]? = some x → Pv i H → g x (wipe σ vs) H fun σ2 H2 => wipe σ2 vs = wipe σ vs ∧ tt σ2 H2 fun b H3 =>
      if b = true then te σ2 H3 fun y H4 => ∃ acc, H4 D = some (.lst acc) ∧ acc.length < sizeLine ∧ Pv (i + 1) (upd H4 D (.lst (acc ++ [y]))) else Pv (i + 1) H3) (hd : ∀ H, Pv xs.length H → Qd H) : LC (Itl K a) g tt te vs σ H1 D Qd := lc_list Pv h0 hl hs hd
theorem LC.zip {K : PySem.W.Frag} {a b : Addr} {xs ys : List V} {g : TG} {tt : TT} {te : TE} {vs : List Nat} {σ : L2.St} {H1 : Hp} {D : Addr} {Qd : Hp → Prop} (Pv : Nat → Hp → Prop) (h0 : Pv 0 (upd H1 D (.lst []))) (hl : ∀ i H, Pv i H → SqL K H a xs ∧ SqL K H b ys)
    (hs : ∀ i x y T H, xs[i]? = some x → ys[i]? = some y → H T = none → Pv i H → g (.ref T) (wipe σ vs) (upd H T (.tup [x, y])) fun σ2 H2 => wipe σ2 vs = wipe σ vs ∧ tt σ2 H2 fun b H3 =>
      if b = true then te σ2 H3 fun y H4 => ∃ acc, H4 D = some (.lst acc) ∧ acc.length < sizeLine ∧ Pv (i + 1) (upd H4 D (.lst (acc ++ [y]))) else Pv (i + 1) H3) (hd : ∀ H, Pv (min xs.length ys.length) H → Qd H) : LC (Itz K a b) g tt te vs σ H1 D Qd := by
  refine ⟨fun i m H => m = min xs.length ys.length - i ∧ i ≤ min xs.length ys.length ∧ Pv i H, ⟨_, rfl, Nat.zero_le _, h0⟩, ?_⟩
  rintro i m H ⟨rfl, hi, p⟩
  obtain ⟨q1, q2⟩ := hl i H p
  by_cases hlt : i < min xs.length ys.length
  · have l1 : i < xs.length := by omega
    have l2 : i < ys.length := by omega
    refine .inr ⟨⟨xs, ys, xs[i], ys[i], q1, q2, List.getElem?_eq_getElem l1, List.getElem?_eq_getElem l2⟩, Pv (i + 1), fun H' p' => ⟨_, ?_, rfl, hlt, p'⟩, fun x H' yl => ?_⟩
    · omega
    · obtain ⟨T, x1, y1, rfl, nT, rfl, f1, f2⟩ := yl
      exact hs i x1 y1 T H (f1 _ q1) (f2 _ q2) nT p
  · have e : i = min xs.length ys.length := by omega
    refine .inl ⟨⟨xs, ys, q1, q2, by omega⟩, hd H (e ▸ p)⟩
end UbR
namespace UbR
open PySem PySem.Spec PyProof.Rows L2 UbM Ub
theorem LL.len {K : PySem.W.Frag} {H : Hp} {a : Addr} {xs : List V} {ds : List PyData} (h : DpAll K H xs ds) : xs.length = ds.length := dpAll_len h
theorem frsLen (rs : List Rat) : (rs.map frD).length = rs.length := List.length_map ..
/-- the payments as they grow at p -/
structure DrI (K : PySem.W.Frag) (H : Hp) (d : Addr) (H' : Hp) (p : Addr) (rs : List Rat) : Prop where
  s : SameS [d] H H'
  i : Ints H' d
  n : Nw H p
  c : Cel K [p, d] H' p (rs.map frD)
  b : ∀ r ∈ rs, Sm 100 30 r
theorem DrI.ls {K : PySem.W.Frag} {H H' : Hp} {d p : Addr} {rs : List Rat} (h : DrI K H d H' p rs) : Ls [p, d] H' := fun s hs => by
  rcases List.mem_cons.mp hs with e | e
  · rw [e]
    exact h.c.ls
  · rw [e |> List.mem_singleton.mp]
    exact h.i.ls d (List.mem_singleton.mpr rfl)
theorem DrI.ne {K : PySem.W.Frag} {H H' : Hp} {d p : Addr} {rs : List Rat} (h : DrI K H d H' p rs) (h0 : Ints H d) : d ≠ p := by
  obtain ⟨ns, e⟩ := h0
  exact h.n.ne e
theorem DrI.mono {K : PySem.W.Frag} {H H' H2 : Hp} {d p : Addr} {rs : List Rat} (h : DrI K H d H' p rs) (h0 : Ints H d) (e : SameS [d] H' H2) (i : Ints H2 d) : DrI K H d H2 p rs :=
  ⟨h.s.trans e, i, h.n, h.c.monoS e (fun s hs => List.mem_cons_of_mem _ hs) (fun z => h.ne h0 (List.mem_singleton.mp z).symm), h.b⟩
theorem DrI.push {K : PySem.W.Frag} {H H' : Hp} {d p : Addr} {rs : List Rat} {v : V} {r : Rat} {Q : VK} (h : DrI K H d H' p rs) (h0 : Ints H d) (hz : rs.length ≤ 5000) (hv : Fr K H' v r) (hb : Sm 100 30 r) (q : ∀ H2, DrI K H d H2 p (rs ++ [r]) → Q .non H2) : rAppend (.ref p) [v] H' Q := by
  obtain ⟨ys, hy⟩ := h.c.ls
  refine h.c.app (d := frD r) (List.mem_cons_self ..) (by rw [frsLen]; exact hz) (Kp.fr h.ls hv) fun acc ha hC => q _ ⟨late_nw h.s h.n (notTbl hy) h0.ls, h.i.stay (h.ne h0), h.n, ?_, fun x hx => ?_⟩
  · rw [List.map_append]
    exact hC
  · rcases List.mem_append.mp hx with e | e
    · exact h.b x e
    · rw [List.mem_singleton.mp e]
      exact hb
end UbR
namespace UbC
open PySem PySem.Spec PyProof.Rows L2 Ub UbM
/-- the class object of an own exception -/
def oexB (K : PySem.W.Frag) (C : Addr) : Bool := (match K.lookup C with
  | some ⟨.type "type", _, .cls cd, sl⟩ => (match cd.mro, sl.toList with
    | .ref C' :: bm, [_, _, _, _, some (.builtin n), _] => decide (C' = C) && (decide (n = "ValueError.__new__") && (!cd.hasDel && (cd.hasDict && PySem.HandSPX.refsVE bm)))
    | _, _ => false)
  | _ => false) && (He.eqO (PySem.W.findIn K (.ref C) "__setattr__") (some (some (.builtin "object.__setattr__"))) && (decide (PySem.W.subIn K (.ref C) (.type "BaseException") = some true) && (decide (PySem.W.typeIn K (.ref C) = some (.type "type")) && (PySem.W.keepIn K (.ref C) &&
   (He.eqO (PySem.W.findIn K (.ref C) "__init__") (some (some (.ref (He.ma K C "__init__")))) && decide (PySem.W.typeIn K (.ref (He.ma K C "__init__")) = some (.type "function")))))))
/-- an own exception class with its own __init__ -/
structure OexI (K : PySem.W.Frag) (C : Addr) : Prop where
  oex : OexC K C
  ini : PySem.W.findIn K (.ref C) "__init__" = some (some (.ref (He.ma K C "__init__")))
  ty : PySem.W.typeIn K (.ref (He.ma K C "__init__")) = some (.type "function")
theorem oexB_ok {K : PySem.W.Frag} {C : Addr} (h : oexB K C = true) : OexI K C := by
  unfold oexB at h
  obtain ⟨q, h⟩ := He.ba h
  obtain ⟨h2, h⟩ := He.ba h
  obtain ⟨h3, h⟩ := He.ba h
  obtain ⟨h4, h⟩ := He.ba h
  obtain ⟨h5, h⟩ := He.ba h
  obtain ⟨h6, h7⟩ := He.ba h
  refine ⟨⟨?_, He.eqO_ok h2, of_decide_eq_true h3, of_decide_eq_true h4, h5⟩, He.eqO_ok h6, of_decide_eq_true h7⟩
  split at q
  · rename_i dd cd sl ho
    split at q
    · rename_i C' bm k0 k1 k2 k3 n k5 hm hs
      obtain ⟨q1, q⟩ := He.ba q
      obtain ⟨q2, q⟩ := He.ba q
      obtain ⟨q3, q⟩ := He.ba q
      obtain ⟨q4, q5⟩ := He.ba q
      have e1 := of_decide_eq_true q1
      have e2 := of_decide_eq_true q2
      subst e1 e2
      obtain ⟨nm, bs, mro, ns, qn, hd, sn, sub, ab, col, del⟩ := cd
      dsimp only at hm q3 q4
      have q3' : del = false := by
        cases del
        · rfl
        · cases q3
      subst hm q3' q4
      have hsl : sl = #[k0, k1, k2, k3, some (.builtin "ValueError.__new__"), k5] := by
        obtain ⟨l⟩ := sl
        simp only at hs
        rw [hs]
      subst hsl
      exact ⟨nm, qn, ns, bs, bm, sn, sub, ab, col, dd, k0, k1, k2, k3, k5, ho, q5⟩
    · cases q
  · cases q
/-- what such an __init__ leaves: the fields fl of the values, in the instance's dict -/
def spEI (C : Addr) (fl : List V → List (Str × V)) (ok : List V → Prop) : Sp := fun vs H Q _ => ∃ (a : Addr) (us : List V), vs = .ref a :: us ∧ ok us ∧ H a = some (exo a C none) ∧ ∀ d, H d = none → d ≠ a → Q .non (upd (upd H d (exd d (fl us))) a (exo a C (some d)))
/-- a text of at most 1000 signs -/
def okT : List V → Prop := fun us => ∃ y : Str, us = [.str y] ∧ y.length ≤ 1000
def fl1 (f : Str) : List V → List (Str × V) := fun us => us.map fun v => (f, v)
theorem rdMkO {C : Addr} {fl : List V → List (Str × V)} {ok : List V → Prop} {us : List V} {H1 : Hp} {Q : XK} (hl : us.length ≤ 1000) (hk : ok us) (q : ∀ d, H1 d = none → Q (.ref C) (some d) (upd H1 d (.xd (fl us)))) :
    us.length ≤ 1000 ∧ ∀ a, H1 a = none → spEI C fl ok (.ref a :: (us ++ [])) (upd H1 a (exo a C none)) (fun v H2 => v = .non ∧ ∃ (d : Addr) (fs : List (Str × V)), H2 a = some (exo a C (some d)) ∧ H2 d = some (exd d fs) ∧ H1 d = none ∧ Q (.ref C) (some d) (upd (del H2 a) d (.xd fs))) (fun _ _ _ => False) := by
  refine ⟨hl, fun a na => ⟨a, us, by rw [List.append_nil], hk, upd_same, fun d nd hda => ?_⟩⟩
  have hd : H1 d = none := by
    rw [upd_ne hda] at nd
    exact nd
  refine ⟨rfl, d, fl us, upd_same, ?_, hd, ?_⟩
  · rw [upd_ne hda, upd_same]
  have e : upd (del (upd (upd (upd H1 a (exo a C none)) d (exd d (fl us))) a (exo a C (some d))) a) d (.xd (fl us)) = upd H1 d (.xd (fl us)) := by
    funext b
    by_cases hb : b = d
    · rw [hb, upd_same, upd_same]
    · rw [upd_ne hb, upd_ne hb]
      by_cases ha : b = a
      · rw [ha, del_same, na]
      · rw [del_ne ha, upd_ne ha, upd_ne hb, upd_ne ha]
  rw [e]
  exact q d hd
theorem flen {p y : Str} (hp : p.length ≤ 1000) (hy : y.length ≤ 1000) : (Str.empty ++ p ++ y).length ≤ sizeLine := by
  have e : (Str.empty ++ p ++ y).length = p.length + y.length := by rw [Str.length_append, Str.length_append, show Str.empty.length = 0 from rfl, Nat.zero_add]
  rw [e, sizeLine_eq]
  omega
theorem flen0 {p : Str} (hp : p.length ≤ 1000) : (Str.empty ++ p).length ≤ sizeLine := by
  have e : (Str.empty ++ p).length = p.length := by rw [Str.length_append, show Str.empty.length = 0 from rfl, Nat.zero_add]
  rw [e, sizeLine_eq]
  omega
/-- at the name x stands an own exception class whose __init__ keeps sp -/
structure CalX (P : Program) (w : World) (K : PySem.W.Frag) (mg : Str → Option Value) (base : Heap) (x : Str) (k : Nat) (sp : Sp) : Prop where
  oex : OexI K (He.ga K x)
  gC : mg x = some (.ref (He.ga K x))
  ini : ∃ (fd : FuncData) (ps : List Str), FnOk P w K mg base (L2.CX P w) k (He.ma K (He.ga K x) "__init__") fd ps sp ∧ Binds K fd ps []
section
variable {X : Cx} {W : WX} {x : Str} {k j : Nat} {sp : Sp} {e : Expr} {es : List Expr} {ta : TA} {p pos pos2 : Pos}
/-- raise X(e, ..) -/
theorem ps_raiseC (hc : X.calm = true) (tk : Takes X W) (C : CalX X.prog X.w X.K X.mg X.base x k sp) (hr : Room j X.A) (hj : k + 1 ≤ j) (hg : Gl X x) (ha : PA X (e :: es) ta) (hdb : (x == ("__debug__" : Str)) = false := by decide)
    (he : starEach (e :: es) X.env = (false, eval e X.env) :: starEach es X.env := by rfl) (hpl : (backTo pos (starEach es X.env)).any (·.1) = false := by rfl) :
    PS X (.Raise (some (.Call (.Name x p) (e :: es) [] pos)) none pos2) (fun _ σ H => tMkO (He.ga X.K x) sp [] ta σ H fun cls d H' => W cls d σ H') := by
  obtain ⟨fd, ps, F, hb⟩ := C.ini
  exact ps_raise hc tk (pmk_oex C.oex.oex C.oex.ini C.oex.ty F (hr.mono hj) hb .nil (passes_call tk fun _ _ _ _ h => h.elim) hg C.gC ha hdb he hpl)
end
end UbC
namespace UbZ
open PySem PySem.Spec PyProof.Rows L2 Ub UbM
abbrev it0 (l : Addr) : Obj := { cls := .type "list_iterator", data := .fields #[.ref l, .int 0 0] }
abbrev z1 (h : Heap) (l1 : Addr) : Heap := h.push (it0 l1)
abbrev z2 (h : Heap) (l1 l2 : Addr) : Heap := (z1 h l1).push (it0 l2)
abbrev z3 (h : Heap) (l1 l2 l3 : Addr) : Heap := (z2 h l1 l2).push (it0 l3)
abbrev z4 (h : Heap) (l1 l2 l3 : Addr) : Heap := (z3 h l1 l2 l3).push { cls := .type "tuple", data := .seq #[.ref h.objs.size, .ref (z1 h l1).objs.size, .ref (z2 h l1 l2).objs.size] }
abbrev z5 (h : Heap) (l1 l2 l3 : Addr) : Heap := (z4 h l1 l2 l3).push { cls := .type "tuple", data := .seq #[.none, .none, .none] }
abbrev z6 (h : Heap) (l1 l2 l3 : Addr) : Heap := (z5 h l1 l2 l3).push { cls := .type "zip", data := .fields #[.none, .bool false, .bool false, .ref (z3 h l1 l2 l3).objs.size, .ref (z4 h l1 l2 l3).objs.size] }
end UbZ
namespace UbS
open PySem PySem.Spec PyProof.Rows L2 Ub UbM NdefX
abbrev mwV (x : Addr) : Obj := PySem.W.kxs_mw "ValueError.__init__" x
/-- what stands behind super() in the class at C -/
structure SupC (K : PySem.W.Frag) (C : Addr) : Prop where
  ho : PySem.W.nsIn K cStatics "thirdparty.any" = some none
  fi : PySem.W.ks_superIn K C C "__init__" = some (some (.builtin "ValueError.__init__"))
  sv : PySem.W.subIn K (.ref C) (.type "ValueError") = some true
  ss : PySem.W.mroIn K C (.ref C) = some true
def supB (K : PySem.W.Frag) (C : Addr) : Bool := He.eqO (PySem.W.nsIn K cStatics "thirdparty.any") (some none) && (He.eqO (PySem.W.ks_superIn K C C "__init__") (some (some (.builtin "ValueError.__init__"))) && (decide (PySem.W.subIn K (.ref C) (.type "ValueError") = some true) && decide (PySem.W.mroIn K C (.ref C) = some true)))
theorem supB_ok {K : PySem.W.Frag} {C : Addr} (h : supB K C = true) : SupC K C := by
  unfold supB at h
  obtain ⟨h1, h⟩ := He.ba h
  obtain ⟨h2, h⟩ := He.ba h
  obtain ⟨h3, h4⟩ := He.ba h
  exact ⟨He.eqO_ok h1, He.eqO_ok h2, of_decide_eq_true h3, of_decide_eq_true h4⟩
section
variable {X : Cx} {pins : List (Addr × Obj)} {σ : L2.St} {H : Hp} {s : Shared} {a C u : Addr} {E : Value → Shared → Prop}
theorem sinit_ok {us : List Value} {Q : Value → Shared → Prop} (T : OexC X.K C) (I : Inv X pins σ H s) (hu : s.heap.get? u = some (mwV a)) (e : H a = some (exo a C none)) (hl : us.length ≤ sizeLine) (h : ∀ s', Inv X pins σ H s' → Q .none s') :
    wpAny (model X.prog X.w) X.A (call (.ref u) us) Q E s := by
  obtain ⟨nm, q, N, bs, bm, sn, sub, ab, col, dd, k0, k1, k2, k3, k5, hC, hbm⟩ := T.cls
  obtain ⟨t1, ho⟩ := exo_at I.hok e
  have hCh := I.kIn _ _ hC
  obtain ⟨hp, g, d, t, os⟩ := s
  refine wpAny_call (codeAny_of_tree ?_)
  show wpAny _ X.A.in1 (callAny (.ref u) ⟨us, []⟩) _ _ _
  simp only [callAny]
  refine wpAny_bind (wpAny_load hu ?_)
  simp only [mwV, PySem.W.kxs_mw, show (Value.type "method-wrapper" == Value.type "method" || Value.type "method-wrapper" == Value.type "builtin_function_or_method" || Value.type "method-wrapper" == Value.type "method-wrapper") = true by decide, if_true]
  refine PySem.W.KFB.if_so (by decide) ?_
  refine wpAny_bind (PySem.W.check_bound_init F.excBase_ValueError.toExcCallFacts hCh ho rfl ?_)
  refine wpAny_bind (wpAny_pure (wpAny_pure ?_))
  refine ⟨plainId_quiet F.excBase_ValueError.init.plain _, codeAny_builtin F.excBase_ValueError.initEntry ?_⟩
  refine PySem.W.exc_init_tree (cls := .ref C) (t0 := t1) (dv := none) (c2 := .none) (c3 := .none) (b4 := .bool false) ho hl (fun h' k hx _ => ?_)
  have J := I.write (t' := t) (x := a) (e := a) (o := exo a C none) (by rw [e]; exact True.intro) (.inl rfl) k ⟨_, hx⟩ (exo_ok hx)
  have eu : upd H a (exo a C none) = H := by
    funext b
    by_cases hb : b = a
    · rw [hb, upd_same, e]
    · rw [upd_ne hb]
  rw [eu] at J
  exact h _ J
end
/-- a method whose text says super(), of the class at C -/
structure FunS (K : PySem.W.Frag) (C : Addr) (file : Str) (x qual : Str) (params : Arguments) (body : List Stmt) (scope : Scope) (f : Addr) (fd : FuncData) : Prop where
  ex : ∃ (oc : Value) (od : Option Addr) (doc pm : Value) (an : Option Addr) (cda cc : Addr) (ct : Value) (osl : Array (Option Value)),
    fd = PySem.W.fnX x qual params body scope [("__class__", cc)] .none .none doc pm an (.ref cda) ct ∧ K.lookup f = some ⟨oc, od, .func fd, osl⟩ ∧ PySem.W.codeIn K (.ref cda) qual = true ∧
    (∃ (c1 : Value) (d1 : Option Addr) (vs : Array Value) (s1 : Array (Option Value)) (tf : Tok), K.lookup cda = some ⟨c1, d1, .fields vs, s1⟩ ∧ vs[2]? = some (.str file tf)) ∧
    ∃ (c2 : Value) (d2 : Option Addr) (s2 : Array (Option Value)), K.lookup cc = some ⟨c2, d2, .cell (some (.ref C)), s2⟩
theorem FunS.bindsN {K : PySem.W.Frag} {C : Addr} {file x qual : Str} {params : Arguments} {body : List Stmt} {scope : Scope} {f : Addr} {fd : FuncData} {ps : List Str} (F : FunS K C file x qual params body scope f fd)
    (h : ∀ (cc : Addr) (doc pm : Value) (an : Option Addr) (cdv ct : Value) (us : List Value), us.length = ps.length → bindArgs (PySem.W.fnX x qual params body scope [("__class__", cc)] .none .none doc pm an cdv ct) ⟨us, []⟩ = pure (ps.zip us)) : Binds K fd ps [] := by
  obtain ⟨oc, od, doc, pm, an, cda, cc, ct, osl, rfl, _⟩ := F.ex
  exact .all (h cc doc pm an (.ref cda) ct)
abbrev nfS (x qual : Str) (params : Arguments) (body : List Stmt) (scope : Scope) (cc cda : Addr) : NF := ⟨x, qual, params, body, scope, [("__class__", cc)], cda⟩
abbrev supStmt (p0 p1 p2 p3 p4 : Pos) (e : Expr) : Stmt := .Expr (.Call (.Attribute (.Call (.Name "super" p0) [] [] p1) "__init__" p2) [e] [] p3) p4
section
variable {P : Program} {w : World} {K : PySem.W.Frag} {mg : Str → Option Value} {base : Heap} {CX : CXT} {N ps : List Str} {k : Nat} {sp : Sp} {C f : Addr} {fd : FuncData} {file x qual : Str} {params : Arguments} {rest : List Stmt} {scope : Scope} {e : Expr} {p0 p1 p2 p3 p4 : Pos} {self : Str}
theorem FunS.ok {pl : Sem Bool} (F : FunS K C file x qual params (supStmt p0 p1 p2 p3 p4 e :: rest) scope f fd) (B : SupC K C) (T : OexC K C) (hsup : mg "super" = none) (hfile : (P.main.file == file) = true) (htop : (P.main.scope.names.lookup ("super" : Str)).isSome = false)
    (S : NScope N ps ["__class__"] scope) (hks : scope.names.lookup ("super" : Str) = some .globalImplicit) (hN : N[0]? = some self) (hself : ps[0]? = some self) (hp : ((params.posonlyargs ++ params.args).head?).map (·.arg) = some self)
    (hi : ∀ cc cda L, interactive (envF (nfS x qual params (supStmt p0 p1 p2 p3 p4 e :: rest) scope cc cda) f L) = false)
    (hs : ∀ cc cda L, swapsWith (.Call (.Attribute (.Call (.Name "super" p0) [] [] p1) "__init__" p2) [e] [] p3) none p4.line (envF (nfS x qual params (supStmt p0 p1 p2 p3 p4 e :: rest) scope cc cda) f L) = pure false)
    (he : ∀ cc cda L, eval (.Call (.Attribute (.Call (.Name "super" p0) [] [] p1) "__init__" p2) [e] [] p3) (envF (nfS x qual params (supStmt p0 p1 p2 p3 p4 e :: rest) scope cc cda) f L) = (do
      let ov ← attributeBase (.Call (.Name "super" p0) [] [] p1) "__init__" (envF (nfS x qual params (supStmt p0 p1 p2 p3 p4 e :: rest) scope cc cda) f L) (eval (.Call (.Name "super" p0) [] [] p1) (envF (nfS x qual params (supStmt p0 p1 p2 p3 p4 e :: rest) scope cc cda) f L))
      standAt p2.atName
      let (f', first) ← holding [ov] (getMethod ov "__init__" pl)
      callWith p3 f' first (backTo p3 (starEach [e] (envF (nfS x qual params (supStmt p0 p1 p2 p3 p4 e :: rest) scope cc cda) f L))) []))
    (hst : ∀ cc cda L, starEach [e] (envF (nfS x qual params (supStmt p0 p1 p2 p3 p4 e :: rest) scope cc cda) f L) = (false, eval e (envF (nfS x qual params (supStmt p0 p1 p2 p3 p4 e :: rest) scope cc cda) f L)) :: starEach [] (envF (nfS x qual params (supStmt p0 p1 p2 p3 p4 e :: rest) scope cc cda) f L))
    (len : ∀ vs H Q E, sp vs H Q E → vs.length = ps.length)
    (hb : ∀ (cc cda : Addr) (A : Around) (outer : List Env) (s : Shared) (H : Hp) (vs : List V) (Q : VK) (E : XK), Room k (A.deeper (envF (nfS x qual params (supStmt p0 p1 p2 p3 p4 e :: rest) scope cc cda) f s.heap.objs.size)) → sp vs H Q E →
      ∃ (te : TA) (ts : TS) (a : Addr) (us : List V), vs = .ref a :: us ∧ H a = some (exo a C none) ∧ PA (ncx CX P w K mg base N (nfS x qual params (supStmt p0 p1 p2 p3 p4 e :: rest) scope cc cda) f A outer s H E) [e] te ∧
        PSs (ncx CX P w K mg base N (nfS x qual params (supStmt p0 p1 p2 p3 p4 e :: rest) scope cc cda) f A outer s H E) rest ts ∧
        te (startF N vs [some (.ref C)]) H (fun us H1 => us.length ≤ 1000 ∧ H1 a = some (exo a C none) ∧ ts { nx := fun _ H' => Q .non H', rt := Q } (startF N vs [some (.ref C)]) H1)) :
    FnOk P w K mg base CX (k + 1) f fd ps sp := by
  refine ⟨len, fun A outer s H args us vs Q E hr e0 hbd r hsp => ?_⟩
  obtain ⟨oc, od, doc, pm, an, cda, cc, ct, osl, rfl, lk, hcd, ⟨c1, d1, vz, s1, tf, lkc, hv2⟩, c2, d2, s2, lkcc⟩ := F.ex
  have hl := len _ _ _ _ hsp
  have KX : K.In s.heap := e0.mod.kin.keeps fun b o e => (e0.bs b o e).1
  have lim : s.heap.NoLimit := e0.mod.nolimit.keeps fun b o e => (e0.bs b o e).1
  refine codeAny_call_function hr.depth (KX _ _ lk) rfl S.co S.gen rfl (PySem.W.codeRec_of KX hcd) (hbd _ _ _ _ ?_)
  refine wpAny_newFunctionEnv S.nocell (fun ⟨n, _⟩ hy => S.par n (List.of_mem_zip hy).1) (fun h₁ hns hsb => ⟨lim.fresh _ hsb, ?_⟩) S.kind
  show codeAny _ _ (.func (supStmt p0 p1 p2 p3 p4 e :: rest) (envF (nfS x qual params (supStmt p0 p1 p2 p3 p4 e :: rest) scope cc cda) f s.heap.objs.size)) _ _
  refine ks_codeAny_funcAt ?_
  have kp : ∀ b o, s.heap.get? b = some o → h₁.get? b = some o := fun b o e => hsb.extBut b o (Nat.ne_of_lt (Heap.lt_size e)) (Heap.get?_push_of_some _ e)
  have bcc := e0.bs _ _ (e0.mod.kin _ _ lkcc)
  have Cl : CellsAt [("__class__", cc)] ["__class__"] [some (.ref C)] s.heap H := by
    have key : ∀ {y : Str} {c : Addr}, List.lookup y [(("__class__" : Str), cc)] = some c → y = "__class__" ∧ c = cc := fun {y c} hy => by
      have hm := PySem.mem_of_lookup hy
      rcases List.mem_cons.mp hm with z | z
      · cases z
        exact ⟨rfl, rfl⟩
      · cases z
    refine ⟨rfl, fun y c hy => ?_, fun x y c hx hy => (key hx).1.trans (key hy).1.symm, fun i y hy => ?_⟩
    · obtain ⟨_, rfl⟩ := key hy
      exact ⟨bcc.2, _, _, bcc.1, rfl⟩
    · cases i with
      | succ i => cases hy
      | zero =>
        cases hy
        refine ⟨cc, rfl, fun v hv => ?_⟩
        cases hv
        exact ⟨.ref C, rfl, _, bcc.1, rfl⟩
  obtain ⟨te, ts, a, us', rfl, ha, hte, hts, q⟩ := hb cc cda A outer s H vs Q E (hr.deeper _) hsp
  have I0 : Inv (ncx CX P w K mg base N (nfS x qual params (supStmt p0 p1 p2 p3 p4 e :: rest) scope cc cda) f A outer s H E) [] (startF N (.ref a :: us') [some (.ref C)]) H { s with heap := h₁, toks := s.toks + (ps.zip us).length } := inv_startN S hr.hd e0 hl r Cl hns kp
  obtain ⟨t1, ho⟩ := exo_at I0.hok ha
  have hkc : scope.names.lookup ("__class__" : Str) = some .free := S.frk _ (List.mem_singleton.mpr rfl)
  obtain ⟨ar, har, hself'⟩ := Option.map_eq_some_iff.mp hp
  have hka : scope.names.lookup ar.arg = some .local := by
    rw [hself']
    exact S.par _ (List.mem_of_getElem? hself)
  have K1 : K.In h₁ := I0.kIn
  obtain ⟨mb, hmb, hmb'⟩ := I0.mod.blt
  have hv : (ps.zip us).reverse.lookup ar.arg = some (.ref a) := by
    rw [hself']
    have ndP : ps.Nodup := by
      have q := S.nd.sublist (List.take_sublist (ps.length + 1) N)
      rw [show N.take (ps.length + 1) = ps ++ [("__class__" : Str)] from S.pre] at q
      exact (List.nodup_append.mp q).1
    obtain ⟨u0, hu0, ru0⟩ := r.get (i := 0) (x := .ref a) rfl
    have e1 : u0 = .ref a := ru0
    rw [e1] at hu0
    exact zip_look ndP hself hu0
  obtain ⟨nm, qq, NN, bs, bm, sn, sub, ab, col, dd, k0, k1, k2, k3, k5, hC, hbm⟩ := T.cls
  have hCh := K1 _ _ hC
  refine ks_wpAt_execs_cons (ks_wpAt_Expr_any ?_ (hi _ _ _) (hs _ _ _))
  refine ks_wpAt_MethodCall ?_ (he _ _ _)
  refine ks_wpAt_super_base hks hkc rfl rfl (K1 _ _ lk) rfl har rfl (K1 _ _ lkc) rfl hv2 hfile htop ?_
  refine PySem.W.ks_loadName_global S.kind hks (PySem.Calls.loadGlobal_builtin (I0.mod.glob.keeps I0.bk) hsup (hmb.keeps I0.bk) ((hmb' _ (by decide)).trans (by kernel_rfl : bootBuiltins "super" = some (.type "super"))) ⟨rfl, ?_⟩)
  refine wpAny_loadName_free S.kind hkc rfl ⟨_, K1 _ _ lkcc, rfl⟩ ?_
  refine wpAny_loadName_local S.kind hka hns hv ?_
  refine ks_wpAny_isType_cls hCh rfl ⟨rfl, ?_⟩
  refine ks_wpAny_call_super hCh rfl ho rfl (fun c e => by cases e) (PySem.W.looks_mroIn K1 B.ss) (fun h' hso k => ?_)
  have I1 : Inv (ncx CX P w K mg base N (nfS x qual params (supStmt p0 p1 p2 p3 p4 e :: rest) scope cc cda) f A outer s H E) [] (startF N (.ref a :: us') [some (.ref C)]) H { s with heap := h', toks := s.toks + (ps.zip us).length } := I0.kept k
  have K2 : K.In h' := I1.kIn
  cases hcl : PySem.W.clsIn K C with
  | none =>
    have z := B.fi
    unfold PySem.W.ks_superIn at z
    rw [hcl] at z
    cases z
  | some cd =>
    have hf := B.fi
    unfold PySem.W.ks_superIn at hf
    rw [hcl] at hf
    have IA : PySem.W.InstAt h' a { cls := .ref C, dict := none, data := .fields #[.ref t1, .none, .none, .none, .bool false, .none] } C none := ⟨k _ _ ho, rfl, rfl, trivial⟩
    refine PySem.W.kxs_getMethod PySem.W.kxs_ValueError hso (PySem.W.looks_opaque K2 B.ho) (l₀ := cd.mro) (fun A Q E s k q => wpAny_bind ((PySem.W.looks_clsIn K2 hcl) A _ E s k (wpAny_pure q))) rfl K2 hf (IA.type.andThen (PySem.W.looks_subIn K2 B.sv)) (PySem.W.ks_ne K2 IA hcl) rfl ?_
    have hpush : ∀ b o, h'.get? b = some o → (h'.push (mwV a)).get? b = some o := fun b o e => Heap.get?_push_of_some _ e
    have hu : (h'.push (mwV a)).get? h'.objs.size = some (mwV a) := Heap.get?_push_at rfl rfl
    have nu : h'.objs.size ≠ s.heap.objs.size := fun z => absurd I1.lt (by
      show ¬ s.heap.objs.size < h'.objs.size
      rw [z]
      exact Nat.lt_irrefl _)
    have hH : H h'.objs.size = none := I1.hok.fresh (Nat.le_refl _)
    have nfs := I1.nofs (Nat.le_refl h'.objs.size)
    have I3 : Inv (ncx CX P w K mg base N (nfS x qual params (supStmt p0 p1 p2 p3 p4 e :: rest) scope cc cda) f A outer s H E) [(h'.objs.size, mwV a)] (startF N (.ref a :: us') [some (.ref C)]) H { s with heap := h'.push (mwV a), toks := s.toks + (ps.zip us).length + 1 } :=
      { (I1.kept (t' := s.toks + (ps.zip us).length + 1) hpush) with
        pin := fun p hp => by
          have hp : p ∈ ([] : List (Addr × Obj)) ++ [(h'.objs.size, mwV a)] := hp
          rw [List.nil_append] at hp
          obtain rfl := List.mem_singleton.mp hp
          exact ⟨hu, hH, nu, nfs, fun v z => by cases z⟩ }
    have bn : base.get? h'.objs.size = none := by
      cases z : base.get? h'.objs.size with
      | none => rfl
      | some o => exact absurd (Heap.lt_size (k _ _ (kp _ _ (e0.bs _ _ z).1))) (Nat.lt_irrefl _)
    refine PySem.W.kxs_callWith1 (i := "ValueError.__init__") (x := a) (h₀ := base) (L := s.heap.objs.size) (news := [(h'.objs.size, mwV a)]) (fun p hp => by
      obtain rfl := List.mem_singleton.mp hp
      exact ⟨hu, nu, bn⟩) (List.mem_singleton.mpr rfl) (thn (hte.run p3 [(h'.objs.size, mwV a)] _ _ _ _ I3 q) fun us2 s2 ⟨ws, H1, I4, r4, hl4, ha4, q4⟩ => ?_) (hst _ _ _) rfl
    have hp4 := (I4.pin (h'.objs.size, mwV a) (by
      show _ ∈ ([] : List (Addr × Obj)) ++ [(h'.objs.size, mwV a)]
      simp)).1
    refine ⟨hp4, sinit_ok T I4 hp4 ha4 (by
      rw [← r4.length, sizeLine_eq]
      omega) fun s' J => ?_⟩
    have J2 : Inv (ncx CX P w K mg base N (nfS x qual params (supStmt p0 p1 p2 p3 p4 e :: rest) scope cc cda) f A outer s H E) [] (startF N (.ref a :: us') [some (.ref C)]) H1 s' :=
      { J with pin := fun p hp => absurd (show p ∈ ([] : List (Addr × Obj)) ++ [] from hp) (by simp) }
    refine wpAt_of_wpAny (wpAny_mono (hts.run [] s' _ H1 _ J2 q4) (fun fl s' hs => ?_) fun e s' hs => hs)
    have fin : ∀ {σ' : L2.St} {H' : Hp} {v : V} {u : Value}, Inv (ncx CX P w K mg base N (nfS x qual params (supStmt p0 p1 p2 p3 p4 e :: rest) scope cc cda) f A outer s H E) [] σ' H' s' → L2.RelV v u → Q v H' → CE outer P w H s Q u s' :=
      fun {σ' H' v u} J rv q => ⟨v, H', J.os, J.bare, J.base, J.hok, rv, q⟩
    cases fl with
    | ret u =>
      obtain ⟨v, σ', H', J, rv, q⟩ := hs
      exact fin J rv q
    | next =>
      obtain ⟨σ', H', J, q⟩ := hs
      exact fin (v := V.non) (u := Value.none) J rfl q
    | brk =>
      obtain ⟨_, _, _, q⟩ := hs
      exact False.elim q
    | cont =>
      obtain ⟨_, _, _, q⟩ := hs
      exact False.elim q
end
abbrev FnWS : Type := Option (Str × Str × Arguments × FuncBody × Scope × Addr × List Str × Addr)
def fnWS (K : PySem.W.Frag) (d : He.DefD) : FnWS := match K.lookup (He.fAd K d.at_) with
  | some ⟨_, _, .func fd, _⟩ => some (fd.name, fd.qualname, fd.params, fd.body, fd.scope, fd.globals, fd.closure.map (·.1), fd.builtins)
  | _ => none
def valS (d : He.DefD) : FnWS := some (d.name, d.qual, d.params, .stmts d.body, d.scope, mainGlobals, ["__class__"], builtinsNs)
def fileB (K : PySem.W.Frag) (file : Str) (cd : Value) : Bool := match cd with
  | .ref c => (match K.lookup c with
    | some ⟨_, _, .fields vs, _⟩ => (match (vs[2]? : Option Value) with
      | some (.str y _) => decide (y = file)
      | _ => false)
    | _ => false)
  | _ => false
def cellB (K : PySem.W.Frag) (C : Addr) (cl : List (Str × Addr)) : Bool := match cl with
  | [(_, cc)] => (match K.lookup cc with
    | some ⟨_, _, .cell (some (.ref D)), _⟩ => decide (D = C)
    | _ => false)
  | _ => false
def supDefB (K : PySem.W.Frag) (file : Str) (d : He.DefD) : Bool := match K.lookup (He.fAd K d.at_) with
  | some ⟨_, _, .func fd, _⟩ => PySem.W.codeIn K fd.code d.qual && (decide (fd.defaults = .none) && (decide (fd.kwdefaults = .none) && (fileB K file fd.code && cellB K (He.ga K d.at_.1) fd.closure)))
  | _ => false
theorem fileB_ok {K : PySem.W.Frag} {file : Str} {cd : Value} (h : fileB K file cd = true) : ∃ cda, cd = .ref cda ∧ ∃ (c1 : Value) (d1 : Option Addr) (vs : Array Value) (s1 : Array (Option Value)) (tf : Tok), K.lookup cda = some ⟨c1, d1, .fields vs, s1⟩ ∧ vs[2]? = some (.str file tf) := by
  unfold fileB at h
  split at h
  · rename_i c
    split at h
    · rename_i vs _ ho
      split at h
      · rename_i y t hv
        have e := of_decide_eq_true h
        subst e
        exact ⟨c, rfl, _, _, vs, _, t, ho, hv⟩
      · cases h
    · cases h
  · cases h
theorem cellB_ok {K : PySem.W.Frag} {C : Addr} {cl : List (Str × Addr)} (h : cellB K C cl = true) : ∃ n cc, cl = [(n, cc)] ∧ ∃ (c2 : Value) (d2 : Option Addr) (s2 : Array (Option Value)), K.lookup cc = some ⟨c2, d2, .cell (some (.ref C)), s2⟩ := by
  unfold cellB at h
  split at h
  · rename_i n cc
    split at h
    · rename_i D _ ho
      have e := of_decide_eq_true h
      subst e
      exact ⟨n, cc, rfl, _, _, _, ho⟩
    · cases h
  · cases h
theorem funS_of {K : PySem.W.Frag} {file : Str} {d : He.DefD} (e : fnWS K d = valS d) (c : supDefB K file d = true) : ∃ fd, FunS K (He.ga K d.at_.1) file d.name d.qual d.params d.body d.scope (He.fAd K d.at_) fd := by
  unfold supDefB at c
  unfold fnWS at e
  split at c
  · rename_i oc od fd osl ho
    rw [ho] at e
    obtain ⟨c1, c⟩ := He.ba c
    obtain ⟨c2, c⟩ := He.ba c
    obtain ⟨c3, c⟩ := He.ba c
    obtain ⟨c4, c5⟩ := He.ba c
    obtain ⟨cda, e4, r4⟩ := fileB_ok c4
    obtain ⟨n, cc, e5, r5⟩ := cellB_ok c5
    refine ⟨fd, ?_⟩
    obtain ⟨nm, qn, ps, bd, sc, gl, cl, dv, kv, doc, pm, an, cd, ct, bl⟩ := fd
    dsimp only at e c1 c2 c3 e4 e5
    have e := Option.some.inj e
    have e2 := of_decide_eq_true c2
    have e3 := of_decide_eq_true c3
    subst e4 e5 e2 e3
    have e : (nm, qn, ps, bd, sc, gl, [n], bl) = (d.name, d.qual, d.params, FuncBody.stmts d.body, d.scope, mainGlobals, [("__class__" : Str)], builtinsNs) := e
    simp only [Prod.mk.injEq, List.cons.injEq, and_true] at e
    obtain ⟨z1, z2, z3, z4, z5, z6, z7, z8⟩ := e
    subst z1 z2 z3 z4 z5 z6 z7 z8
    exact ⟨_, _, _, _, _, cda, cc, _, _, rfl, ho, c1, r4, r5⟩
  · cases c
abbrev AlS : Type := He.AlX × List FnWS
def obsK (fa : List He.Fa) (fn : List He.DefD) (tf : List He.Defn) (fs : List He.DefD) (ex : PySem.W.Frag → Bool) (g : Addr → Option Obj) (K : PySem.W.Frag) : AlS := ((He.obsT fa fn [] K, ex K && He.tabsB g tf K), fs.map fun d => fnWS K d)
def valSS (fn : List He.DefD) (fs : List He.DefD) (w : World) : AlS := (He.valX fn [] w, fs.map valS)
structure SaysS (fa : List He.Fa) (fn : List He.DefD) (tf : List He.Defn) (fs : List He.DefD) (ex : PySem.W.Frag → Bool) (w : World) (h : Heap) (K : PySem.W.Frag) : Prop where
  x : He.SaysX fa fn [] tf ex w h K
  s : fs.map (fun d => fnWS K d) = fs.map valS
theorem SaysS.def_ {fa : List He.Fa} {fn fs : List He.DefD} {tf : List He.Defn} {ex : PySem.W.Frag → Bool} {w : World} {h : Heap} {K : PySem.W.Frag} (c : SaysS fa fn tf fs ex w h K) (i : Nat) {d : He.DefD} (hd : fs[i]? = some d) : fnWS K d = valS d := by
  have e2 : (fs.map fun d => fnWS K d)[i]? = (fs.map valS)[i]? := by rw [c.s]
  rw [List.getElem?_map, List.getElem?_map, hd] at e2
  exact Option.some.inj e2
/-- the same over written addresses -/
def obsL (as : List Addr) (fa : List He.Fa) (fn : List He.DefD) (tf : List He.Defn) (fs : List He.DefD) (ex : PySem.W.Frag → Bool) (g : Addr → Option Obj) : AlS := obsK fa fn tf fs ex g (He.frT g as)
theorem saysL_of {as : List Addr} {fa : List He.Fa} {fn fs : List He.DefD} {tf : List He.Defn} {ex : PySem.W.Frag → Bool} {w : World} {h : Heap} (e : obsL as fa fn tf fs ex h.get? = valSS fn fs w) : SaysS fa fn tf fs ex w h (He.frT h.get? as) := by
  have e0 : (He.obsT fa fn [] (He.frT h.get? as), ex (He.frT h.get? as) && He.tabsB h.get? tf (He.frT h.get? as)) = He.valX fn [] w := congrArg (fun z : AlS => z.1) e
  have e3 : fs.map (fun d => fnWS (He.frT h.get? as) d) = fs.map valS := congrArg (fun z : AlS => z.2) e
  have e1 : He.obsT fa fn [] (He.frT h.get? as) = He.valT fn [] w := congrArg (fun z : He.AlX => z.1) e0
  have e2 : (ex (He.frT h.get? as) && He.tabsB h.get? tf (He.frT h.get? as)) = true := congrArg (fun z : He.AlX => z.2) e0
  obtain ⟨h1, h2⟩ := He.ba e2
  have tab : ∀ p ∈ tf, PySem.W.codeHdIn (He.frT h.get? as) (He.cT (He.frT h.get? as) p).1 (He.cT (He.frT h.get? as) p).2 = true ∧ ∃ o, h.get? (He.cT (He.frT h.get? as) p).2 = some o ∧ He.emptyTab o = true := fun p hp => by
    obtain ⟨h3, h4⟩ := He.ba (List.all_eq_true.mp h2 p hp)
    refine ⟨h3, ?_⟩
    split at h4
    · rename_i o q
      exact ⟨o, q, h4⟩
    · cases h4
  refine ⟨⟨e1, h1, fun p hp => (tab p hp).1, fun p hp => ?_, fun p hp => ?_⟩, e3⟩
  · obtain ⟨_, o, q, z⟩ := tab p hp
    exact He.frT_none q z
  · obtain ⟨_, o, q, z⟩ := tab p hp
    rw [q, He.emptyTab_eq z]
def hookL (as : List Addr) (fa : List He.Fa) (fn : List He.DefD) (tf : List He.Defn) (fs : List He.DefD) (ex : PySem.W.Frag → Bool) : PySem.W.Hook where
  α := AlS
  obs := fun s => obsL as fa fn tf fs ex s.heap.get?
  val := fun w => valSS fn fs w
  says := fun w h => ∃ K : PySem.W.Frag, K.In h ∧ SaysS fa fn tf fs ex w h K
  of := fun _ _ e => ⟨_, He.frT_in, saysL_of e⟩
  keeps := fun _ _ _ ⟨K, hK, c⟩ k => ⟨K, PySem.W.Frag.In.keeps hK k, ⟨⟨c.x.t, c.x.more, c.x.hd, c.x.out, fun p hp => k _ _ (c.x.empty p hp)⟩, c.s⟩⟩
theorem obsL_eq {as : List Addr} {fa : List He.Fa} {fn fs : List He.DefD} {tf : List He.Defn} {ex : PySem.W.Frag → Bool} {g : Addr → Option Obj} {s : Shared} (h : ∀ a, g a = s.heap.get? a) : obsL as fa fn tf fs ex g = (hookL as fa fn tf fs ex).obs s := by
  have e : g = s.heap.get? := funext h
  rw [e] <;> rfl
end UbS
namespace UbIn
open PySem PySem.Spec PyProof.Rows L2 Ub
section
variable {X : Cx}
def rInA (K : PySem.W.Frag) (neg : Bool) : R2 := fun x y H Q => rIn K neg x y H Q ∨ ∃ d ds, Dp K H x d ∧ (Dp K H y (.list ds) ∨ Dp K H y (.tuple ds)) ∧ d.canLay0 = true ∧ PyData.canLayAll0 ds = true ∧ d.depth ≤ 40 ∧
  Q (.bl (if neg then !ds.any fun z => PyData.eqv z d else ds.any fun z => PyData.eqv z d)) H
theorem op_inA (hu : X.A.units + 64 < cLine) : OpR X (compareOp .In) (rInA X.K false) := by
  intro pins s σ H x y v u Q I rx ry h
  rcases h with h | ⟨d, ds, hd, he, sd, se, hz, q⟩
  · exact op_in_seq pins s σ H x y v u Q I rx ry h
  obtain ⟨as, r1⟩ := Dp.reads I d x v hd rx
  have hm : X.A.units + 1 + min (PyData.depthAll ds) d.depth < cLine := by
    have := Nat.min_le_right (PyData.depthAll ds) d.depth
    omega
  rcases he with he | he
  · obtain ⟨bs, r2⟩ := Dp.reads I (.list ds) y u he ry
    exact SeqAt.in_list_reads r2 r1 se sd hm ⟨.bl _, H, I, rfl, q⟩
  · obtain ⟨bs, r2⟩ := Dp.reads I (.tuple ds) y u he ry
    exact SeqAt.in_tuple_reads r2 r1 se sd hm ⟨.bl _, H, I, rfl, q⟩
theorem op_notInA (hu : X.A.units + 64 < cLine) : OpR X (compareOp .NotIn) (rInA X.K true) := by
  intro pins s σ H x y v u Q I rx ry h
  rcases h with h | ⟨d, ds, hd, he, sd, se, hz, q⟩
  · exact op_notIn_seq pins s σ H x y v u Q I rx ry h
  obtain ⟨as, r1⟩ := Dp.reads I d x v hd rx
  have hm : X.A.units + 1 + min (PyData.depthAll ds) d.depth < cLine := by
    have := Nat.min_le_right (PyData.depthAll ds) d.depth
    omega
  rcases he with he | he
  · obtain ⟨bs, r2⟩ := Dp.reads I (.list ds) y u he ry
    exact SeqAt.notIn_list_reads r2 r1 se sd hm ⟨.bl _, H, I, rfl, q⟩
  · obtain ⟨bs, r2⟩ := Dp.reads I (.tuple ds) y u he ry
    exact SeqAt.notIn_tuple_reads r2 r1 se sd hm ⟨.bl _, H, I, rfl, q⟩
variable {K : PySem.W.Frag}
end
end UbIn
section
open PySem PySem.Spec PyProof.Rows L2 Ub UbM
local macro_rules | `(tactic| walk_at "un") => `(tactic| try dsimp only [L2.start, tVar, tC, tOp, tUn, tTest, tB, tAnd, tOr, tNot, tAndV, tOrV, tNotV, tIf, tNext, tSeq, tBreak, tCont, tDrop, tRet, tRetN, tIfS, tNever, gName, gNil, gCons, gSub, tAsg, tPar, tSl, tPart, tNoPart, tNil, tCons, tCall, tCallS, tCB, tBM, tBM0, tChain, tTupN, tLstN, gTup, Cx.nox, Cx.wish, cxOf, List.map, List.replicate, List.length, List.cons_append, List.nil_append, List.set, List.getElem?_cons_zero, List.getElem?_cons_succ, Nat.reduceAdd, Nat.reduceSub])
local macro_rules | `(tactic| walk_at "dp") => `(tactic| first | assumption | exact .int _ | exact .bl _ | exact .str _ | exact .non | exact Ub.Dp.mono (by assumption) _ _ (by walk_at "dp"))
local macro_rules | `(tactic| walk_at "fr") => `(tactic| first | assumption | exact Ub.Fr.mono (by assumption) (by walk_at "fr"))
local macro_rules | `(tactic| walk_at "dps") => `(tactic| first | exact .nil | (refine' .cons ?j1 ?j2; (case j1 => walk_at "dp"); (case j2 => walk_at "dps")))
local macro_rules | `(tactic| walk_at "st") => `(tactic| first
  | (with_reducible refine ⟨_, rfl, ?_⟩)
  | (with_reducible refine rdAdd ?_)
  | (with_reducible refine rdSub ?_)
  | (with_reducible refine rdNeg ?_)
  | (with_reducible refine rdEqI ?_)
  | (with_reducible refine rdNeI ?_)
  | (with_reducible refine rdLt ?_)
  | (with_reducible refine rdGt ?_)
  | (with_reducible refine rdLe ?_)
  | (with_reducible refine rdGe ?_)
  | (with_reducible refine rdInt ?_)
  | (with_reducible refine rdIntB ?_)
  | (with_reducible refine rdAbs ?_)
  | (with_reducible refine rdGcd ?_)
  | (with_reducible refine rdEqB ?_)
  | (with_reducible refine rdEqS ?_)
  | (with_reducible refine rdNeS ?_)
  | ((with_reducible refine' ixFr0 ?k1 ?_); (case k1 => walk_at "fr"))
  | ((with_reducible refine' ixFr1 ?k1 ?_); (case k1 => walk_at "fr"))
  | ((with_reducible refine' ixP0 ?k1 ?_); (case k1 => walk_at "dp"))
  | ((with_reducible refine' ixP1 ?k1 ?_); (case k1 => walk_at "dp"))
  | ((with_reducible refine' rdIsN ?k1 ?_); (case k1 => walk_at "dp"))
  | ((with_reducible refine' rdNotN ?k1 ?_); (case k1 => walk_at "dp"))
  | ((with_reducible refine' isiInt ?k1 ?_); (case k1 => walk_at "dp"))
  | ((with_reducible refine' isiBool ?k1 ?_); (case k1 => walk_at "dp"))
  | ((with_reducible refine' isiStr ?k1 ?_); (case k1 => walk_at "dp"))
  | ((with_reducible refine' isiTup ?k1 ?_); (case k1 => walk_at "dp"))
  | ((with_reducible refine' isiLst ?k1 ?_); (case k1 => walk_at "dp"))
  | ((with_reducible refine' rdIxL ?k1 ?k2 ?_); (case k1 => first | assumption | exact .inl (.inl (by assumption)) | exact .inl (.inl upd_same)); (case k2 => exact rfl))
  | ((with_reducible refine' rdMul ?k1 ?_); (case k1 => first | exact .inl (.inr ⟨by decide, by decide⟩) | exact .inl (.inl ⟨by decide, by decide⟩) | exact mulW (by assumption) (by assumption) (by omega)))
  | ((with_reducible refine' rdLenL ?k1 ?_); (case k1 => first | assumption | exact .inl (.inl (by assumption))))
  | ((with_reducible refine' rdLenT ?k1 ?_); (case k1 => first | assumption | exact .inl (.inl (by assumption))))
  | (with_reducible refine rdMin2 ?_)
  | ((with_reducible refine' rdTupD (K := ‹PySem.W.Frag›) ?k1 ?k2 (fun _ _ _ _ => ?_)); (case k1 => walk_at "dps"); (case k2 => exact small_line (Nat.le_of_ble_eq_true rfl)))
  | (with_reducible refine ⟨_, by rfl, ?_⟩))
local macro_rules | `(tactic| walk_at "go") => `(tactic| repeat walk_at "st")
local macro_rules | `(tactic| walk_at "for") => `(tactic| try dsimp only [tFor, iRng1, iRng2, iList, iTup, tCons, tC, tNil, tVar, tOp, tCB, tUn, List.getElem?_cons_zero, List.getElem?_cons_succ])
local macro_rules | `(tactic| walk_at "ew") => `(tactic| (simp only [dInt, dBool, dStr, dTup, dLst, dNon, Bool.not_true, Bool.not_false, reduceIte, Bool.false_eq_true, Bool.true_eq_false, decide_true, decide_false, Bool.not_not, if_true, if_false, decide_eq_true_eq, true_and, and_true]))
local macro_rules | `(tactic| walk_at "ev") => `(tactic| try walk_at "ew")
local macro_rules | `(tactic| walk_at "gv") => `(tactic| repeat first | walk_at "st" | walk_at "ew")
local macro_rules | `(tactic| walk_at "it") => `(tactic| try dsimp only [iRng1, iRng2, iList, iTup, iZip, iEnum])
namespace UbK
def topS (i : Nat) : Stmt := PySem.Challenge.pw_unbent_k48_deferred_acceptance.main.body.getD i (.Pass ⟨0, 0, 0, 0⟩)
def topM (i j : Nat) : Stmt := match topS i with
  | .ClassDef _ _ _ body _ _ _ _ _ _ _ => body.getD j (.Pass ⟨0, 0, 0, 0⟩)
  | _ => .Pass ⟨0, 0, 0, 0⟩
def tf0 : List He.Defn := [("check_size", none), ("are_different", none), ("check_wishes", none)]
def tbs (K : PySem.W.Frag) : List Addr := tf0.map fun p => (He.cT K p).2
abbrev s__law_rank : Stmt := topS 17
abbrev N__law_rank : List Str := ["wishes", "thing"]
theorem sc__law_rank : FnScope N__law_rank ["wishes", "thing"] (defScope s__law_rank) := ⟨rfl, rfl, rfl, by decide +kernel, rfl, by decide +kernel, by decide +kernel⟩
abbrev s__law_stable : Stmt := topS 20
abbrev N__law_stable : List Str := ["proposers", "receivers", "matching", "p", "own", "r", "other"]
theorem sc__law_stable : FnScope N__law_stable ["proposers", "receivers", "matching"] (defScope s__law_stable) := ⟨rfl, rfl, rfl, by decide +kernel, rfl, by decide +kernel, by decide +kernel⟩
abbrev s__law_all : Stmt := topS 21
abbrev N__law_all : List Str := ["proposers", "receivers", "rows", "p", "longer", "row", "r"]
theorem sc__law_all : FnScope N__law_all ["proposers", "receivers"] (defScope s__law_all) := ⟨rfl, rfl, rfl, by decide +kernel, rfl, by decide +kernel, by decide +kernel⟩
abbrev s__law_copied : Stmt := topS 18
abbrev N__law_copied : List Str := ["rows", "row"]
theorem sc__law_copied : FnScope N__law_copied ["rows"] (defScope s__law_copied) := ⟨rfl, rfl, rfl, by decide +kernel, rfl, by decide +kernel, by decide +kernel⟩
abbrev s__law_draws : Stmt := topS 14
abbrev N__law_draws : List Str := ["script", "draws", "cell", "number", "first", "k", "seed"]
theorem sc__law_draws : FnScope N__law_draws ["script"] (defScope s__law_draws) := ⟨rfl, rfl, rfl, by decide +kernel, rfl, by decide +kernel, by decide +kernel⟩
abbrev s__law_is_matching : Stmt := topS 22
abbrev N__law_is_matching : List Str := ["told", "proposers", "receivers", "k"]
theorem sc__law_is_matching : FnScope N__law_is_matching ["told", "proposers", "receivers"] (defScope s__law_is_matching) := ⟨rfl, rfl, rfl, by decide +kernel, rfl, by decide +kernel, by decide +kernel⟩
abbrev s__law_same : Stmt := topS 19
abbrev N__law_same : List Str := ["value", "due", "k"]
theorem sc__law_same : FnScope N__law_same ["value", "due"] (defScope s__law_same) := ⟨rfl, rfl, rfl, by decide +kernel, rfl, by decide +kernel, by decide +kernel⟩
abbrev s__law_take : Stmt := topS 15
abbrev N__law_take : List Str := ["draws", "bound"]
theorem sc__law_take : FnScope N__law_take ["draws", "bound"] (defScope s__law_take) := ⟨rfl, rfl, rfl, by decide +kernel, rfl, by decide +kernel, by decide +kernel⟩
abbrev s__law_wishes : Stmt := topS 16
abbrev N__law_wishes : List Str := ["draws", "count", "whole", "rest", "found", "k"]
theorem sc__law_wishes : FnScope N__law_wishes ["draws", "count", "whole"] (defScope s__law_wishes) := ⟨rfl, rfl, rfl, by decide +kernel, rfl, by decide +kernel, by decide +kernel⟩
abbrev s_TooLarge___init__ : Stmt := topM 2 0
abbrev N_TooLarge___init__ : List Str := ["self", "limit", "__class__"]
theorem sc_TooLarge___init__ : NdefX.NScope N_TooLarge___init__ ["self", "limit"] ["__class__"] (defScope s_TooLarge___init__) := NdefX.nscope_by (by decide +kernel)
abbrev s_check_size : Stmt := topS 6
abbrev N_check_size : List Str := ["sizes", "most", "size"]
theorem sc_check_size : FnScope N_check_size ["sizes", "most"] (defScope s_check_size) := ⟨rfl, rfl, rfl, by decide +kernel, rfl, by decide +kernel, by decide +kernel⟩
abbrev s_InvalidWishes___init__ : Stmt := topM 3 0
abbrev N_InvalidWishes___init__ : List Str := ["self", "reason", "__class__"]
theorem sc_InvalidWishes___init__ : NdefX.NScope N_InvalidWishes___init__ ["self", "reason"] ["__class__"] (defScope s_InvalidWishes___init__) := NdefX.nscope_by (by decide +kernel)
abbrev s_are_different : Stmt := topS 7
abbrev N_are_different : List Str := ["numbers", "many", "number"]
theorem sc_are_different : FnScope N_are_different ["numbers", "many"] (defScope s_are_different) := ⟨rfl, rfl, rfl, by decide +kernel, rfl, by decide +kernel, by decide +kernel⟩
abbrev s_check_wishes : Stmt := topS 8
abbrev N_check_wishes : List Str := ["wishes", "things", "line"]
theorem sc_check_wishes : FnScope N_check_wishes ["wishes", "things"] (defScope s_check_wishes) := ⟨rfl, rfl, rfl, by decide +kernel, rfl, by decide +kernel, by decide +kernel⟩
abbrev s__check_sides : Stmt := topS 10
abbrev N__check_sides : List Str := ["proposers", "receivers"]
theorem sc__check_sides : FnScope N__check_sides ["proposers", "receivers"] (defScope s__check_sides) := ⟨rfl, rfl, rfl, by decide +kernel, rfl, by decide +kernel, by decide +kernel⟩
abbrev s__turned : Stmt := topS 11
abbrev N__turned : List Str := ["pairs", "many", "found", "at", "partner"]
theorem sc__turned : FnScope N__turned ["pairs", "many"] (defScope s__turned) := ⟨rfl, rfl, rfl, by decide +kernel, rfl, by decide +kernel, by decide +kernel⟩
abbrev s_prefers : Stmt := topS 9
abbrev N_prefers : List Str := ["wishes", "thing", "other"]
theorem sc_prefers : FnScope N_prefers ["wishes", "thing", "other"] (defScope s_prefers) := ⟨rfl, rfl, rfl, by decide +kernel, rfl, by decide +kernel, by decide +kernel⟩
abbrev s_accept : Stmt := topS 12
abbrev N_accept : List Str := ["proposers", "receivers", "due", "kept", "single", "proposer", "receiver", "rejected", "wishes"]
theorem sc_accept : FnScope N_accept ["proposers", "receivers"] (defScope s_accept) := ⟨rfl, rfl, rfl, by decide +kernel, rfl, by decide +kernel, by decide +kernel⟩
abbrev s_law : Stmt := topS 23
abbrev N_law : List Str := ["script", "draws", "many", "proposers", "receivers", "passed", "told", "row", "p", "r", "liar", "lied", "other", "k"]
theorem sc_law : FnScope N_law ["script"] (defScope s_law) := ⟨rfl, rfl, rfl, by decide +kernel, rfl, by decide +kernel, by decide +kernel⟩
def d__law_rank : He.DefD := ⟨("_law_rank", none), "_law_rank", "_law_rank", defArgs s__law_rank, defBody s__law_rank, defScope s__law_rank, [], []⟩
def d__law_stable : He.DefD := ⟨("_law_stable", none), "_law_stable", "_law_stable", defArgs s__law_stable, defBody s__law_stable, defScope s__law_stable, [], []⟩
def d__law_all : He.DefD := ⟨("_law_all", none), "_law_all", "_law_all", defArgs s__law_all, defBody s__law_all, defScope s__law_all, [], []⟩
def d__law_copied : He.DefD := ⟨("_law_copied", none), "_law_copied", "_law_copied", defArgs s__law_copied, defBody s__law_copied, defScope s__law_copied, [], []⟩
def d__law_draws : He.DefD := ⟨("_law_draws", none), "_law_draws", "_law_draws", defArgs s__law_draws, defBody s__law_draws, defScope s__law_draws, [], []⟩
def d__law_is_matching : He.DefD := ⟨("_law_is_matching", none), "_law_is_matching", "_law_is_matching", defArgs s__law_is_matching, defBody s__law_is_matching, defScope s__law_is_matching, [], []⟩
def d__law_same : He.DefD := ⟨("_law_same", none), "_law_same", "_law_same", defArgs s__law_same, defBody s__law_same, defScope s__law_same, [], []⟩
def d__law_take : He.DefD := ⟨("_law_take", none), "_law_take", "_law_take", defArgs s__law_take, defBody s__law_take, defScope s__law_take, [], []⟩
def d__law_wishes : He.DefD := ⟨("_law_wishes", none), "_law_wishes", "_law_wishes", defArgs s__law_wishes, defBody s__law_wishes, defScope s__law_wishes, [], []⟩
def d_TooLarge___init__ : He.DefD := ⟨("TooLarge", some "__init__"), "__init__", "TooLarge.__init__", defArgs s_TooLarge___init__, defBody s_TooLarge___init__, defScope s_TooLarge___init__, [], []⟩
def d_check_size : He.DefD := ⟨("check_size", none), "check_size", "check_size", defArgs s_check_size, defBody s_check_size, defScope s_check_size, [], []⟩
def d_InvalidWishes___init__ : He.DefD := ⟨("InvalidWishes", some "__init__"), "__init__", "InvalidWishes.__init__", defArgs s_InvalidWishes___init__, defBody s_InvalidWishes___init__, defScope s_InvalidWishes___init__, [], []⟩
def d_are_different : He.DefD := ⟨("are_different", none), "are_different", "are_different", defArgs s_are_different, defBody s_are_different, defScope s_are_different, [], []⟩
def d_check_wishes : He.DefD := ⟨("check_wishes", none), "check_wishes", "check_wishes", defArgs s_check_wishes, defBody s_check_wishes, defScope s_check_wishes, [], []⟩
def d__check_sides : He.DefD := ⟨("_check_sides", none), "_check_sides", "_check_sides", defArgs s__check_sides, defBody s__check_sides, defScope s__check_sides, [], []⟩
def d__turned : He.DefD := ⟨("_turned", none), "_turned", "_turned", defArgs s__turned, defBody s__turned, defScope s__turned, [], []⟩
def d_prefers : He.DefD := ⟨("prefers", none), "prefers", "prefers", defArgs s_prefers, defBody s_prefers, defScope s_prefers, [], []⟩
def d_accept : He.DefD := ⟨("accept", none), "accept", "accept", defArgs s_accept, defBody s_accept, defScope s_accept, [], []⟩
def d_law : He.DefD := ⟨("law", none), "law", "law", defArgs s_law, defBody s_law, defScope s_law, [], []⟩
def fn : List He.DefD := [d__law_rank, d__law_stable, d__law_all, d__law_copied, d__law_draws, d__law_is_matching, d__law_same, d__law_take, d__law_wishes, d_check_size, d_are_different, d_check_wishes, d__check_sides, d__turned, d_prefers, d_accept, d_law]
def fs : List He.DefD := [d_TooLarge___init__, d_InvalidWishes___init__]
abbrev fileS : Str := PySem.Challenge.pw_unbent_k48_deferred_acceptance.main.file
def fa : List He.Fa := ([.glo "_law_rank", .glo "_law_stable", .glo "_law_all", .glo "_law_copied", .glo "_law_draws", .glo "_law_is_matching", .glo "_law_same", .glo "_law_take", .glo "_law_wishes", .glo "check_size", .glo "are_different", .glo "check_wishes", .glo "_check_sides", .glo "_turned", .glo "prefers", .glo "accept", .glo "law", .glo "InvalidWishes", .glo "TooLarge", .noat "InvalidWishes" "reason", .noat "TooLarge" "limit", .free "abs", .free "all", .free "any", .free "bool", .free "enumerate", .free "int", .free "isinstance", .free "len", .free "list"] : List He.Fa) ++ ([.free "range", .free "reversed", .free "set", .free "str", .free "super", .free "tuple", .int "MOST_MEMBERS" 8] : List He.Fa)
def ex (K : PySem.W.Frag) : Bool := (UbC.oexB K (He.ga K "TooLarge") && (UbC.oexB K (He.ga K "InvalidWishes") && (UbS.supDefB K fileS d_TooLarge___init__ && (UbS.supDefB K fileS d_InvalidWishes___init__ && (UbS.supB K (He.ga K "TooLarge") && (UbS.supB K (He.ga K "InvalidWishes") && true))))))
abbrev tf : List He.Defn := tf0
def adl : List Addr := ([3, 6, 4, 24, 46, 67, 76, 83, 90, 97, 104, 111, 116, 123, 130, 135, 142, 147, 154, 161, 166, 173, 178, 0, 23, 45, 66, 75, 82, 89, 96, 103, 110, 115, 122, 129, 134, 141, 146, 153] : List Addr) ++ ([160, 165, 172, 177, 22, 25, 43, 44, 64, 65, 70, 72, 73, 74, 77, 79, 80, 81, 84, 86, 87, 88, 91, 93, 94, 95, 98, 100, 101, 102, 105, 107, 108, 109, 112, 114, 117, 119, 120, 121] : List Addr) ++ ([124, 126, 127, 128, 131, 133, 136, 138, 139, 140, 143, 145, 148, 150, 151, 152, 155, 157, 158, 159, 162, 164, 167, 169, 170, 171, 174, 176, 42, 31, 63, 52, 37, 39, 40, 41, 58, 60, 61, 62] : List Addr) ++ ([2] : List Addr)
abbrev R : PySem.W.OpenRow := PySem.W.OpenLaw.row PySem.Challenge.rw_unbent_k48_deferred_acceptance
abbrev loose : List Str := (["UnbentError", "TooLarge", "InvalidWishes", "MOST_MEMBERS", "check_size", "are_different", "check_wishes", "prefers", "_check_sides", "_turned", "accept", "_law_draws", "_law_take", "_law_wishes", "_law_rank", "_law_copied", "_law_same", "_law_stable", "_law_all", "_law_is_matching"] : List Str)
abbrev hk : PySem.W.Hook := UbS.hookL adl fa fn tf fs ex
def ob (s : PySem.W.SharedT) : UbS.AlS := UbS.obsL adl fa fn tf fs ex (HandSHeadRun.getT s)
theorem ob_eq (s : PySem.W.SharedT) : ob s = hk.obs s.abs := UbS.obsL_eq (HandSHeadRun.getT_eq s)
theorem runHead (w : World) : HandSHeadRun.RunEq R (PySem.W.view R.prog [23]) hk ob 4000 loose w := by
  intro os
  kernel_rfl
end UbK
end
namespace UbP
open PySem
inductive D where
  | non | bl (b : Bool) | int (i : Int) | str (x : Str) | lst (ds : List D) | lsf (ds : List D) | tup (ds : List D) | obj (c : Str) (fs : List (Str × D))
  deriving Inhabited
mutual
def eqv : D → D → Bool
  | .non, .non => true
  | .bl a, .bl b => a == b
  | .bl a, .int j => (if a then 1 else 0) == j
  | .int i, .bl b => i == (if b then 1 else 0)
  | .int i, .int j => i == j
  | .str x, .str y => x == y
  | .lst xs, .lst ys => eqvAll xs ys
  | .tup xs, .tup ys => eqvAll xs ys
  | _, _ => false
def eqvAll : List D → List D → Bool
  | [], [] => true
  | x :: xs, y :: ys => eqv x y && eqvAll xs ys
  | _, _ => false
end
mutual
/-- may be compared by ==: depth at most n, texts of real signs -/
def sh : D → Nat → Bool
  | .non, _ => true
  | .bl _, _ => true
  | .int _, _ => true
  | .str x, _ => x.cps.all (· < 0x110000)
  | .lst ds, n => decide (0 < n) && shAll ds (n - 1)
  | .tup ds, n => decide (0 < n) && shAll ds (n - 1)
  | .lsf _, _ => false
  | .obj _ _, _ => false
def shAll : List D → Nat → Bool
  | [], _ => true
  | d :: ds, n => sh d n && shAll ds n
end
mutual
/-- no list and no object within -/
def noL : D → Bool
  | .tup ds => noLs ds
  | .lst _ => false
  | .lsf _ => false
  | .obj _ _ => false
  | _ => true
def noLs : List D → Bool
  | [] => true
  | d :: ds => noL d && noLs ds
end
/-- what is owned: it may change -/
inductive Ct where
  | l (ds : List D) | o (c : Str) (fs : List (Str × D))
  deriving Inhabited
def Ct.toD : Ct → D
  | .l ds => .lst ds
  | .o c fs => .obj c fs
/-- an error: its class, its fields -/
structure Ex where
  cls : Str
  fs : List (Str × D)
/-- a slot: data; a thing owned here; one owned by the caller; a caught error; a list of own lists -/
inductive Sl where
  | no | dat (d : D) | own (c : Ct) | par (c : Ct) | ex (x : Ex) | nst (rows : List (List D))
  deriving Inhabited
abbrev Env := List Sl
/-- what an expression gives: data; the owned thing in slot i; a new thing that nobody else holds -/
inductive Vw where
  | d (d : D) | o (i : Nat) | f (c : Ct)
inductive Res (α : Type) where
  | ok (a : α) (e : Env) | exc (x : Ex) (e : Env) | bad
abbrev M (α : Type) := Env → Res α
section
variable {α β : Type}
def ret (a : α) : M α := fun e => .ok a e
def bnd (m : M α) (k : α → M β) : M β := fun e => match m e with
  | .ok a e' => k a e'
  | .exc x e' => .exc x e'
  | .bad => .bad
def optM (o : Option α) : M α := fun e => match o with
  | some a => .ok a e
  | none => .bad
/-- an error becomes nothing (in a comprehension none may leave) -/
def calmM (m : M α) : M α := fun e => match m e with
  | .ok a e' => .ok a e'
  | .exc _ _ => .bad
  | .bad => .bad
end
def getO (i : Nat) (e : Env) : Option Ct := match e[i]? with
  | some (.own c) => some c
  | some (.par c) => some c
  | _ => none
def setO (i : Nat) (c : Ct) (e : Env) : Env := match e[i]? with
  | some (.own _) => e.set i (.own c)
  | some (.par _) => e.set i (.par c)
  | _ => e
/-- as data that is looked at now -/
def Vw.now (w : Vw) (e : Env) : Option D := match w with
  | .d x => some x
  | .f c => some c.toD
  | .o i => (getO i e).map Ct.toD
/-- as data that stays -/
def Vw.stay : Vw → Option D
  | .d x => some x
  | .f c => some c.toD
  | .o _ => none
def tru : D → Option Bool
  | .non => some false
  | .bl b => some b
  | .int i => some (i != 0)
  | .str x => if x.length ≤ 1000000 then some (decide (x.length ≠ 0)) else none
  | .lst ds => some !ds.isEmpty
  | .lsf ds => some !ds.isEmpty
  | .tup ds => some !ds.isEmpty
  | .obj _ _ => none
abbrev LIM : Nat := 1000000
def log2 (i : Int) : Nat := i.natAbs.log2
def vI (i : Int) : Option Vw := some (.d (.int i))
def vB (b : Bool) : Option Vw := some (.d (.bl b))
def addD : D → D → Option Vw
  | .int a, .int b => vI (a + b)
  | .str a, .str b => if a.length + b.length ≤ LIM then some (.d (.str (a ++ b))) else none
  | .lst a, .lst b => if a.length + b.length ≤ LIM then some (.f (.l (a ++ b))) else none
  | .tup a, .tup b => if a.length + b.length ≤ LIM then some (.d (.tup (a ++ b))) else none
  | _, _ => none
def subD : D → D → Option Vw
  | .int a, .int b => vI (a - b)
  | _, _ => none
def rep (ds : List D) : Nat → List D
  | 0 => []
  | n + 1 => ds ++ rep ds n
def smI (a : Int) : Bool := decide (a.natAbs < 2 ^ 64)
def mulD : D → D → Option Vw
  | .int a, .int b => if smI a || smI b || decide (log2 a + log2 b < 900000) then vI (a * b) else none
  | .lst ds, .int k => if k < 1000000 ∧ ds.length * k.toNat ≤ LIM ∧ -1000000 < k then some (.f (.l (rep ds k.toNat))) else none
  | _, _ => none
def fdivD : D → D → Option Vw
  | .int a, .int b => if b ≠ 0 ∧ log2 b < 9000 then vI (a.fdiv b) else none
  | _, _ => none
def modD : D → D → Option Vw
  | .int a, .int b => if b ≠ 0 then vI (a.fmod b) else none
  | _, _ => none
def powD : D → D → Option Vw
  | .int a, .int b => if 0 ≤ b ∧ b ≤ 100000 ∧ a.natAbs < 2 ^ 64 then vI (a ^ b.toNat) else none
  | _, _ => none
def negD : D → Option Vw
  | .int a => vI (-a)
  | _ => none
def lenD : D → Option Vw
  | .lst ds => vI ds.length
  | .lsf ds => vI ds.length
  | .tup ds => vI ds.length
  | .str x => if x.length ≤ LIM then vI x.length else none
  | _ => none
def absD : D → Option Vw
  | .int a => vI (if a < 0 then -a else a)
  | _ => none
def intD : D → Option Vw
  | .int a => vI a
  | .bl b => vI (if b then 1 else 0)
  | _ => none
def gcdD : D → D → Option Vw
  | .int a, .int b => vI (Nat.gcd a.natAbs b.natAbs : Nat)
  | _, _ => none
def lcmD : D → D → Option Vw
  | .int a, .int b => if log2 a < 9000 ∧ log2 b < 9000 then vI (Nat.lcm a.natAbs b.natAbs : Nat) else none
  | _, _ => none
def minD : D → D → Option Vw
  | .int a, .int b => vI (if b < a then b else a)
  | _, _ => none
def maxD : D → D → Option Vw
  | .int a, .int b => vI (if b > a then b else a)
  | _, _ => none
def listD : D → Option Vw
  | .lst ds => some (.f (.l ds))
  | .lsf ds => some (.f (.l ds))
  | .tup ds => some (.f (.l ds))
  | _ => none
def tupD : D → Option Vw
  | .lst ds => some (.d (.tup ds))
  | .tup ds => some (.d (.tup ds))
  | _ => none
def revD : D → Option Vw
  | .lst ds => some (.f (.l ds.reverse))
  | .lsf ds => some (.f (.l ds.reverse))
  | _ => none
def fldD (cs : List Str) (f : Str) : D → Option Vw
  | .obj c fs => if cs.contains c then (fs.lookup f).map .d else none
  | _ => none
/-- the built-in type's name -/
def tyD : D → Option String
  | .non => some "NoneType"
  | .bl _ => some "bool"
  | .int _ => some "int"
  | .str _ => some "str"
  | .lst _ => some "list"
  | .tup _ => some "tuple"
  | _ => none
def isT (t : String) (s : String) : Bool := s == t || (s == "bool" && t == "int")
def isiD (t : String) (d : D) : Option Vw := (tyD d).bind fun s => vB (isT t s)
def intsOf : List D → Option (List Int)
  | [] => some []
  | .int b :: ds => (intsOf ds).map (b :: ·)
  | _ => none
def strsOf : List D → Option (List Str)
  | [] => some []
  | .str b :: ds => (strsOf ds).map (b :: ·)
  | _ => none
/-- len(set(a list of ints or of texts)): how many are different -/
def difs {α : Type} [DecidableEq α] (xs : List α) : Nat → Nat
  | 0 => 0
  | i + 1 => match xs[i]? with
    | some x => if x ∈ xs.take i then difs xs i else difs xs i + 1
    | none => difs xs i
def lensI (ds : List D) : Option Nat := match intsOf ds with
  | some ns => some (difs ns ns.length)
  | none => (strsOf ds).map fun xs => difs xs xs.length
def lensD : D → Option Vw
  | .lst ds => if ds.length < 1000 then (lensI ds).bind fun n => vI (n : Nat) else none
  | _ => none
def ixI (n : Nat) (i : Int) : Option Nat := if 0 ≤ i then (if i < n then some i.toNat else none) else if -(n : Int) ≤ i then some (i + n).toNat else none
def atL {α : Type} (xs : List α) (i : Int) : Option α := (ixI xs.length i).bind fun j => xs[j]?
def ixD : D → D → Option Vw
  | .lst ds, .int i => (atL ds i).map .d
  | .lsf ds, .int i => (atL ds i).map .d
  | .tup ds, .int i => (atL ds i).map .d
  | .str x, .int i => if x.length ≤ LIM then (atL x.cps.toList i).map fun c => .d (.str ⟨#[c]⟩) else none
  | _, _ => none
def sIx (n d : Nat) : Option Int → Nat
  | none => d
  | some v => if v < 0 then (v + (n : Int)).toNat else min v.toNat n
def cut {α : Type} (xs : List α) (lo hi : Option Int) : List α := (xs.drop (sIx xs.length 0 lo)).take (sIx xs.length xs.length hi - sIx xs.length 0 lo)
/-- a part of a text -/
def cutT (x : Str) (lo hi : Option Int) : Str := ⟨(cut x.cps.toList lo hi).toArray⟩
def slD (lo hi : Option Int) : D → Option Vw
  | .lst ds => some (.f (.l (cut ds lo hi)))
  | .lsf ds => some (.f (.l (cut ds lo hi)))
  | .tup ds => some (.d (.tup (cut ds lo hi)))
  | .str x => if x.length ≤ LIM then some (.d (.str (cutT x lo hi))) else none
  | _ => none
def scal : D → Bool
  | .non => true | .bl _ => true | .int _ => true | .str _ => true | _ => false
def eqD (a b : D) : Option Bool := if (scal a && scal b) || (sh a 60 && sh b 60) then some (eqv a b) else none
def neD (a b : D) : Option Bool := (eqD a b).map (!·)
def cmpI (f : Int → Int → Bool) : D → D → Option Bool
  | .int a, .int b => some (f a b)
  | _, _ => none
def ltD : D → D → Option Bool := cmpI fun a b => decide (a < b)
def leD : D → D → Option Bool := cmpI fun a b => decide (a ≤ b)
def gtD : D → D → Option Bool := cmpI fun a b => decide (b < a)
def geD : D → D → Option Bool := cmpI fun a b => decide (b ≤ a)
def flat : D → Bool := scal
def mem (x : D) (ds : List D) : Bool := ds.any fun y => eqv y x
/-- one sign -/
def sgn (c : Nat) : Str := ⟨#[c]⟩
def sign? (x : Str) : Option Nat := match x.cps.toList with
  | [c] => some c
  | _ => none
def inD (x : D) : D → Option Bool
  | .str z => match x with
    | .str y => (sign? y).map fun c => decide (c ∈ z.cps.toList)
    | _ => none
  | .lst ds => if (flat x && ds.all flat) || (sh x 40 && shAll ds 59) then some (mem x ds) else none
  | .tup ds => if (flat x && ds.all flat) || (sh x 40 && shAll ds 59) then some (mem x ds) else none
  | _ => none
def ninD (x y : D) : Option Bool := (inD x y).map (!·)
/-- xs.index(x) -/
def idxD : D → D → Option Vw
  | .lst ds, x => if (flat x && ds.all flat) || (sh x 40 && shAll ds 59) then ((ds.findIdx? fun y => eqv y x)).bind fun j => vI (j : Nat) else none
  | _, _ => none
def isN : D → Bool
  | .non => true
  | _ => false
def isBl (b : Bool) : D → Option Bool
  | .bl c => some (decide (c = b))
  | _ => none
def isNoD (a : D) : D → Option Bool
  | .non => some (isN a)
  | .bl b => isBl b a
  | _ => none
def notNoD (a : D) : D → Option Bool
  | .non => some !(isN a)
  | .bl b => (isBl b a).map (!·)
  | _ => none
def eC (d : D) : M Vw := ret (.d d)
def eV (i : Nat) : M Vw := fun e => match e[i]? with
  | some (.dat d) => .ok (.d d) e
  | some (.own _) => .ok (.o i) e
  | some (.par _) => .ok (.o i) e
  | _ => .bad
def nowM (w : Vw) : M D := fun e => match w.now e with
  | some d => .ok d e
  | none => .bad
def stayM (w : Vw) : M D := optM w.stay
def eU (f : D → Option Vw) (a : M Vw) : M Vw := bnd a fun w => bnd (nowM w) fun d => optM (f d)
def eB (f : D → D → Option Vw) (a b : M Vw) : M Vw := bnd a fun w => bnd b fun u => bnd (nowM w) fun d => bnd (nowM u) fun c => optM (f d c)
def tB (f : D → D → Option Bool) (a b : M Vw) : M Bool := bnd a fun w => bnd b fun u => bnd (nowM w) fun d => bnd (nowM u) fun c => optM (f d c)
def cB (f : D → D → Option Bool) : D → D → Option Vw := fun a b => (f a b).map fun k => .d (.bl k)
def truM (w : Vw) : M Bool := bnd (nowM w) fun d => optM (tru d)
def tE (a : M Vw) : M Bool := bnd a truM
def tNot (t : M Bool) : M Bool := bnd t fun b => ret !b
def tAnd (t u : M Bool) : M Bool := bnd t fun b => if b then u else ret false
def tOr (t u : M Bool) : M Bool := bnd t fun b => if b then ret true else u
/-- a < b < c -/
def tCh (f g : D → D → Option Bool) (a b c : M Vw) : M Bool := bnd a fun w => bnd b fun u => bnd (nowM w) fun d => bnd (nowM u) fun v => bnd (optM (f d v)) fun k => if k then bnd c fun z => bnd (nowM u) fun v => bnd (nowM z) fun y => optM (g v y) else ret false
/-- a < b < c as a value -/
def eChn (f g : D → D → Option Bool) (a b c : M Vw) : M Vw := bnd (tCh f g a b c) fun k => ret (.d (.bl k))
def Vw.dull : Vw → Vw
  | .f c => .d c.toD
  | w => w
def eAnd (a b : M Vw) : M Vw := bnd a fun w => bnd (truM w) fun k => if k then b else ret w.dull
def eOr (a b : M Vw) : M Vw := bnd a fun w => bnd (truM w) fun k => if k then ret w.dull else b
def eNot (a : M Vw) : M Vw := bnd a fun w => bnd (truM w) fun k => ret (.d (.bl !k))
def eIf (t : M Bool) (a b : M Vw) : M Vw := bnd t fun k => if k then a else b
def eArgs : List (M Vw) → M (List Vw)
  | [] => ret []
  | a :: as => bnd a fun w => bnd (eArgs as) fun ws => ret (w :: ws)
def stays : List Vw → Option (List D)
  | [] => some []
  | w :: ws => match w.stay, stays ws with
    | some d, some ds => some (d :: ds)
    | _, _ => none
def eTup (as : List (M Vw)) : M Vw := bnd (eArgs as) fun ws => bnd (optM (stays ws)) fun ds => if ds.length < LIM then ret (.d (.tup ds)) else optM none
def eLst (as : List (M Vw)) : M Vw := bnd (eArgs as) fun ws => bnd (optM (stays ws)) fun ds => if ds.length < LIM then ret (.f (.l ds)) else optM none
def intM (a : M Vw) : M (Option Int) := bnd a fun w => bnd (nowM w) fun d => match d with
  | .int i => ret (some i)
  | _ => optM none
def eSl (a : M Vw) (lo hi : M (Option Int)) : M Vw := bnd a fun w => bnd lo fun l => bnd hi fun h => bnd (nowM w) fun d => optM (slD l h d)
def ownL (i : Nat) : M (List D) := fun e => match getO i e with
  | some (.l ds) => .ok ds e
  | _ => .bad
def putL (i : Nat) (ds : List D) : M Unit := fun e => .ok () (setO i (.l ds) e)
def viewI : Vw → Option Nat
  | .o i => some i
  | _ => none
/-- the receiver: an owned list -/
def recv (a : M Vw) : M Nat := bnd a fun w => bnd (optM (viewI w)) fun i => bnd (ownL i) fun _ => ret i
def eApp (a m : M Vw) : M Vw := bnd (recv a) fun i => bnd m fun u => bnd (stayM u) fun d => bnd (ownL i) fun ds => if ds.length < LIM then bnd (putL i (ds ++ [d])) fun _ => ret (.d .non) else optM none
def ePop (a : M Vw) : M Vw := bnd (recv a) fun i => bnd (ownL i) fun ds => bnd (optM ds.getLast?) fun d => bnd (putL i ds.dropLast) fun _ => ret (.d d)
def isLst : D → Bool
  | .lst _ => true
  | _ => false
def eIdx (a b : M Vw) : M Vw := bnd a fun w => bnd (nowM w) fun d0 => if isLst d0 then bnd b fun u => bnd (nowM w) fun d => bnd (nowM u) fun c => optM (idxD d c) else optM none
/-- xs.pop(i) -/
def ePopA (a m : M Vw) : M Vw := bnd (recv a) fun i => bnd m fun u => bnd (nowM u) fun n => bnd (ownL i) fun ds => match n with
  | .int k => match ixI ds.length k with
    | some j => bnd (optM ds[j]?) fun d => if ds.length < LIM then bnd (putL i (ds.eraseIdx j)) fun _ => ret (.d d) else optM none
    | none => optM none
  | _ => optM none
def eRev (a : M Vw) : M Vw := bnd (recv a) fun i => bnd (ownL i) fun ds => bnd (putL i ds.reverse) fun _ => ret (.d .non)
def listOf : D → Option (List D)
  | .lst ds => some ds
  | _ => none
def eExt (a m : M Vw) : M Vw := bnd (recv a) fun i => bnd m fun u => bnd (stayM u) fun d => bnd (optM (listOf d)) fun xs => bnd (ownL i) fun ds => if ds.length + xs.length ≤ LIM then bnd (putL i (ds ++ xs)) fun _ => ret (.d .non) else optM none
inductive FRes where
  | ret (w : Vw) (cs : List Ct) | exc (x : Ex) (cs : List Ct) | bad
abbrev Fn := List Sl → FRes
def pars : Env → List Ct
  | [] => []
  | .par c :: e => c :: pars e
  | _ :: e => pars e
/-- the arguments: true for those that the callee may change -/
def mkArgs : List Bool → List Vw → Env → Option (List Sl)
  | [], [], _ => some []
  | m :: ms, w :: ws, e => match mkArgs ms ws e with
    | none => none
    | some r => if m then match w with
        | .o i => (getO i e).map fun c => .par c :: r
        | _ => none
      else (w.now e).map fun d => .dat d :: r
  | _, _, _ => none
def ownIx : List Bool → List Vw → List Nat
  | m :: ms, .o i :: ws => if m then i :: ownIx ms ws else ownIx ms ws
  | _ :: ms, _ :: ws => ownIx ms ws
  | _, _ => []
def lookIx : List Bool → List Vw → List Nat
  | m :: ms, .o i :: ws => if m then lookIx ms ws else i :: lookIx ms ws
  | _ :: ms, _ :: ws => lookIx ms ws
  | _, _ => []
def nodup : List Nat → Bool
  | [] => true
  | x :: xs => !xs.contains x && nodup xs
def Vw.noL : Vw → Bool
  | .d x => UbP.noL x
  | _ => false
def Ct.noL : Ct → Bool
  | .l ds => noLs ds
  | .o _ _ => false
/-- owned things may be handed on; one that is only looked at lets no list come back -/
def passOk (look : List Nat) (w : Vw) (cs : List Ct) : Bool := (viewI w).isNone && (look.isEmpty || (w.noL && cs.all Ct.noL))
def putBack : List Bool → List Vw → List Ct → Env → Option Env
  | [], [], [], e => some e
  | true :: ms, .o i :: ws, c :: cs, e => putBack ms ws cs (setO i c e)
  | false :: ms, _ :: ws, cs, e => putBack ms ws cs e
  | _, _, _, _ => none
def callB (f : Fn) (ms : List Bool) (dv : List D) (ws : List Vw) : M Vw := fun e =>
  match mkArgs ms ws e with
  | none => .bad
  | some args => if nodup (ownIx ms ws ++ lookIx ms ws) then match f (args ++ dv.map .dat) with
      | .ret w cs => if passOk (lookIx ms ws) w cs then match putBack ms ws cs e with
          | some e' => .ok w e'
          | none => .bad
        else .bad
      | .exc x cs => if (lookIx ms ws).isEmpty then match putBack ms ws cs e with
          | some e' => .exc x e'
          | none => .bad
        else .bad
      | .bad => .bad
    else .bad
def eCall (f : Fn) (ms : List Bool) (as : List (M Vw)) (dv : List D) : M Vw := bnd (eArgs as) (callB f ms dv)
inductive Tg where
  | nm (i : Nat) | tp (ts : List Tg)
def putN (i : Nat) (d : D) (e : Env) : Option Env := match e[i]? with
  | some .no => some (e.set i (.dat d))
  | some (.dat _) => some (e.set i (.dat d))
  | some (.own _) => some (e.set i (.dat d))
  | _ => none
mutual
def putT : Tg → D → Env → Option Env
  | .nm i, d, e => putN i d e
  | .tp ts, .tup ds, e => putTs ts ds e
  | .tp _, _, _ => none
def putTs : List Tg → List D → Env → Option Env
  | [], [], e => some e
  | t :: ts, d :: ds, e => (putT t d e).bind (putTs ts ds)
  | _, _, _ => none
end
def signsD (x : Str) : List D := x.cps.toList.map fun c => .str (sgn c)
def walkD : D → Option (List D)
  | .str x => some (signsD x)
  | .lst ds => some ds
  | .lsf ds => some ds
  | .tup ds => some ds
  | _ => none
def intsL (lo : Int) (n : Nat) : List D := (List.range n).map fun k => .int (lo + (k : Nat))
def iE (a : M Vw) : M (List D) := bnd a fun w => bnd (stayM w) fun d => optM (walkD d)
def bigI (i : Int) : Bool := decide (-(2 ^ 62) ≤ i ∧ i < 2 ^ 62)
def iR1 (a : M Vw) : M (List D) := bnd a fun w => bnd (nowM w) fun d => match d with
  | .int j => if bigI j then ret (intsL 0 j.toNat) else optM none
  | _ => optM none
def iR2 (a b : M Vw) : M (List D) := bnd a fun w => bnd b fun u => bnd (nowM w) fun d => bnd (nowM u) fun c => match d, c with
  | .int i, .int j => if bigI i && bigI j then ret (intsL i (j - i).toNat) else optM none
  | _, _ => optM none
def enumF (ds : List D) : List D := (List.range ds.length).map fun k => .tup [.int (k : Nat), ds.getD k .non]
/-- list(range(n)) -/
def rgOk (i j : Int) : Bool := decide (-(2 ^ 62) ≤ i ∧ i < 2 ^ 62 ∧ -(2 ^ 62) ≤ j ∧ j < 2 ^ 62 ∧ (j - i).toNat ≤ 2 ^ 24)
def rg1D : D → Option Vw
  | .int j => if rgOk 0 j then some (.f (.l (intsL 0 j.toNat))) else none
  | _ => none
def eRg1 (a : M Vw) : M Vw := eU rg1D a
def seqOf : D → Option (List D)
  | .lst ds => some ds
  | .lsf ds => some ds
  | .tup ds => some ds
  | _ => none
def iEn (a : M Vw) : M (List D) := bnd a fun w => bnd (stayM w) fun d => bnd (optM (seqOf d)) fun ds => ret (enumF ds)
def iZ (a b : M Vw) : M (List D) := bnd a fun w => bnd b fun u => bnd (stayM w) fun d => bnd (stayM u) fun c => bnd (optM (seqOf d)) fun ds => bnd (optM (seqOf c)) fun cs => ret (List.zipWith (fun x y => .tup [x, y]) ds cs)
def zip3 (ds cs bs : List D) : List D := List.zipWith (fun x p => .tup [x, p.1, p.2]) ds (cs.zip bs)
def iZ3 (a b c : M Vw) : M (List D) := bnd a fun w => bnd b fun u => bnd c fun t => bnd (stayM w) fun d => bnd (stayM u) fun e => bnd (stayM t) fun f => bnd (optM (listOf d)) fun ds => bnd (optM (listOf e)) fun es => bnd (optM (listOf f)) fun fs => ret (zip3 ds es fs)
def iRv (a : M Vw) : M (List D) := bnd a fun w => bnd (stayM w) fun d => bnd (optM (listOf d)) fun ds => ret ds.reverse
def wipeE (e : Env) : List Nat → Env
  | [] => e
  | v :: vs => (wipeE e vs).set v .no
def isDat : Sl → Bool
  | .no => true
  | .dat _ => true
  | _ => false
/-- the own names of the comprehension are no owned things outside -/
def freeAt (e : Env) (vs : List Nat) : Bool := vs.all fun v => match e[v]? with
  | some s => isDat s
  | none => false
def backE (e e' : Env) : List Nat → Env
  | [] => e'
  | v :: vs => (backE e e' vs).set v (e.getD v .no)
def lcGo (tg : Tg) (c : M Bool) (x : M Vw) (vs : List Nat) : List D → List D → M (List D)
  | [], acc => ret acc
  | d :: ds, acc => fun e => match putT tg d e with
    | none => .bad
    | some e1 => match c e1 with
      | .ok false e2 => lcGo tg c x vs ds acc (wipeE e2 vs)
      | .ok true e2 => match x e2 with
        | .ok w e3 => match w.stay with
          | some y => if acc.length < LIM then lcGo tg c x vs ds (acc ++ [y]) (wipeE e3 vs) else .bad
          | none => .bad
        | _ => .bad
      | _ => .bad
def eLc (it : M (List D)) (tg : Tg) (c : M Bool) (x : M Vw) (vs : List Nat) : M Vw := bnd it fun ds e =>
  if freeAt e vs then match lcGo tg c x vs ds [] (wipeE e vs) with
    | .ok ys e' => .ok (.f (.l ys)) (backE e e' vs)
    | _ => .bad
  else .bad
/-- two fors in one comprehension -/
def lc2Go (tg : Tg) (it1 : M (List D)) (tg1 : Tg) (c1 : M Bool) (x : M Vw) (vs vs1 : List Nat) : List D → List D → M (List D)
  | [], acc => ret acc
  | d :: ds, acc => fun e => match putT tg d e with
    | none => .bad
    | some e1 => match it1 e1 with
      | .ok ds1 e2 => match lcGo tg1 c1 x vs1 ds1 acc (wipeE e2 vs1) with
        | .ok acc1 e3 => lc2Go tg it1 tg1 c1 x vs vs1 ds acc1 (wipeE e3 vs)
        | _ => .bad
      | _ => .bad
def eLc2 (it : M (List D)) (tg : Tg) (it1 : M (List D)) (tg1 : Tg) (c1 : M Bool) (x : M Vw) (vs vs1 : List Nat) : M Vw := bnd it fun ds e =>
  if freeAt e vs then match lc2Go tg it1 tg1 c1 x vs vs1 ds [] (wipeE e vs) with
    | .ok ys e' => .ok (.f (.l ys)) (backE e e' vs)
    | _ => .bad
  else .bad
def gxGo (stopv : Bool) (tg : Tg) (x : M Vw) (vs : List Nat) : List D → M Bool
  | [] => ret !stopv
  | d :: ds => fun e => match putT tg d e with
    | none => .bad
    | some e1 => match x e1 with
      | .ok (.d (.bl b)) e3 => if b = stopv then .ok stopv (wipeE e3 vs) else gxGo stopv tg x vs ds (wipeE e3 vs)
      | _ => .bad
def eGx (stopv : Bool) (it : M (List D)) (tg : Tg) (x : M Vw) (vs : List Nat) : M Vw := bnd it fun ds e =>
  if freeAt e vs then match gxGo stopv tg x vs ds (wipeE e vs) with
    | .ok b e' => .ok (.d (.bl b)) (backE e e' vs)
    | _ => .bad
  else .bad
inductive Fl where
  | nx | rt (w : Vw) | bk | ct
def sNx : M Fl := ret .nx
def sBk : M Fl := ret .bk
def sCt : M Fl := ret .ct
def sSeq (a b : M Fl) : M Fl := bnd a fun f => match f with
  | .nx => b
  | f => ret f
def sIf (t : M Bool) (a b : M Fl) : M Fl := bnd t fun k => if k then a else b
def putM (tg : Tg) (d : D) : M Fl := fun e => match putT tg d e with
  | some e' => .ok .nx e'
  | none => .bad
def sSet (i : Nat) (a : M Vw) : M Fl := bnd a fun w => bnd (stayM w) fun d => putM (.nm i) d
def sAsg (tg : Tg) (a : M Vw) : M Fl := bnd a fun w => bnd (stayM w) fun d => putM tg d
def ownN (i : Nat) (c : Ct) : M Fl := fun e => match e[i]? with
  | some .no => .ok .nx (e.set i (.own c))
  | some (.dat _) => .ok .nx (e.set i (.own c))
  | some (.own _) => .ok .nx (e.set i (.own c))
  | _ => .bad
def newC : Vw → Option Ct
  | .f c => some c
  | _ => none
def sOwn (i : Nat) (a : M Vw) : M Fl := bnd a fun w => bnd (optM (newC w)) fun c => ownN i c
def frzE (i : Nat) (e : Env) : Option Env := match e[i]? with
  | some (.own c) => some (e.set i (.dat c.toD))
  | some (.dat d) => some e
  | _ => none
def frz (i : Nat) (b : M Fl) : M Fl := fun e => match frzE i e with
  | some e' => b e'
  | none => .bad
def sPar (i j : Nat) (a b : M Vw) : M Fl := bnd a fun w => bnd b fun u => bnd (stayM w) fun d => bnd (stayM u) fun c => bnd (putM (.nm i) d) fun _ => putM (.nm j) c
def sRet (a : M Vw) : M Fl := bnd a fun w e => match w with
  | .d d => .ok (.rt (.d d)) e
  | .f c => .ok (.rt (.f c)) e
  | .o i => match e[i]? with
    | some (.own c) => .ok (.rt (.f c)) (e.set i .no)
    | _ => .bad
def sRetN : M Fl := ret (.rt (.d .non))
def sEx (a : M Vw) : M Fl := bnd a fun _ => ret .nx
/-- x[i] = v -/
def sItem (o i v : M Vw) : M Fl := bnd v fun u => bnd o fun w => bnd i fun z => bnd (optM (viewI w)) fun k => bnd (stayM u) fun d => bnd (nowM z) fun n => bnd (ownL k) fun ds => match n with
  | .int m => match ixI ds.length m with
    | some j => bnd (putL k (ds.set j d)) fun _ => ret .nx
    | none => optM none
  | _ => optM none
/-- x[i], y[j] = a pair -/
def sPut (o i : M Vw) (d : D) (k : M Fl) : M Fl := bnd o fun w => bnd i fun z => bnd (optM (viewI w)) fun kk => bnd (nowM z) fun n => bnd (ownL kk) fun ds => match n with
  | .int m => match ixI ds.length m with
    | some j => bnd (putL kk (ds.set j d)) fun _ => k
    | none => optM none
  | _ => optM none
def sItem2 (o1 i1 o2 i2 v : M Vw) : M Fl := bnd v fun u => bnd (stayM u) fun d => match d with
  | .tup [d1, d2] => sPut o1 i1 d1 (sPut o2 i2 d2 (ret .nx))
  | _ => optM none
/-- x[i:j] = a list -/
def sSlc (o i j v : M Vw) : M Fl := bnd v fun u => bnd o fun w => bnd i fun a => bnd j fun b => bnd (optM (viewI w)) fun k => bnd (stayM u) fun d => bnd (optM (listOf d)) fun es => bnd (nowM a) fun x => bnd (nowM b) fun y => bnd (ownL k) fun ds => match x, y with
  | .int i, .int j => if 0 ≤ i ∧ i ≤ j ∧ j ≤ ds.length ∧ ds.length + es.length ≤ LIM then bnd (putL k (ds.take i.toNat ++ es ++ ds.drop j.toNat)) fun _ => ret .nx else optM none
  | _, _ => optM none
def intOf : D → Option Int
  | .int i => some i
  | _ => none
/-- x[i] += v -/
def sAgI (o i v : M Vw) : M Fl := bnd o fun w => bnd i fun z => bnd (optM (viewI w)) fun k => bnd (nowM z) fun n => bnd (optM (intOf n)) fun m => bnd (ownL k) fun ds => bnd (optM ((atL ds m).bind intOf)) fun a => bnd v fun u => bnd (nowM u) fun c => bnd (optM (intOf c)) fun b => bnd (ownL k) fun es => bnd (optM (ixI es.length m)) fun j => bnd (putL k (es.set j (.int (a + b)))) fun _ => ret .nx
def datM (i : Nat) : M D := fun e => match e[i]? with
  | some (.dat d) => .ok d e
  | _ => .bad
/-- x += v -/
def sAug (i : Nat) (v : M Vw) : M Fl := bnd (datM i) fun d => bnd v fun u => bnd (nowM u) fun c => bnd (optM (addD d c)) fun w => match w with
  | .d (.int z) => putM (.nm i) (.int z)
  | _ => optM none
def forL (tg : Tg) (b : M Fl) : List D → M Fl
  | [] => ret .nx
  | d :: ds => fun e => match putT tg d e with
    | none => .bad
    | some e1 => match b e1 with
      | .ok .nx e2 => forL tg b ds e2
      | .ok .ct e2 => forL tg b ds e2
      | .ok .bk e2 => .ok .nx e2
      | .ok (.rt w) e2 => .ok (.rt w) e2
      | .exc x e2 => .exc x e2
      | .bad => .bad
def sFor (it : M (List D)) (tg : Tg) (b : M Fl) : M Fl := bnd it fun ds => forL tg b ds
def whl (t : M Bool) (b : M Fl) : Nat → M Fl
  | 0 => optM none
  | n + 1 => bnd t fun k => if k then bnd b fun f => match f with
      | .nx => whl t b n
      | .ct => whl t b n
      | .bk => ret .nx
      | .rt w => ret (.rt w)
    else ret .nx
/-- raise X(..): the fields by name; ok: what the class takes -/
def sRaise (x : Str) (fs : List Str) (ok : List D → Bool) (as : List (M Vw)) : M Fl := bnd (eArgs as) fun ws => bnd (optM (stays ws)) fun ds e => if ok ds then .exc ⟨x, fs.zip ds⟩ e else .bad
def okT : List D → Bool
  | [.str y] => decide (y.length ≤ 1000)
  | _ => false
def exFree (e : Env) : Bool := e.all fun s => match s with
  | .ex _ => false
  | _ => true
def okFl : Fl → Bool
  | .rt (.o _) => false
  | _ => true
def afterS (n : Option Nat) : Res Fl → Res Fl
  | .ok f e => match n with
    | none => if exFree e && okFl f then .ok f e else .bad
    | some i => if exFree (e.set i .no) && okFl f then .ok f (e.set i .no) else .bad
  | _ => .bad
/-- try: b except ..: suite; ok tells whether the clause takes the class -/
def sTry (b : M Fl) (ok : Str → Option Bool) (n : Option Nat) (s : M Fl) : M Fl := fun e => match b e with
  | .ok f e' => .ok f e'
  | .bad => .bad
  | .exc x e' => match ok x.cls with
    | none => .bad
    | some false => .exc x e'
    | some true => match n with
      | none => afterS none (s e')
      | some i => match e'[i]? with
        | some .no => afterS (some i) (s (e'.set i (.ex x)))
        | _ => .bad
/-- e.f of a caught error -/
def eEf (i : Nat) (low : List Str) (f : Str) : M Vw := fun e => match e[i]? with
  | some (.ex x) => match if low.contains x.cls then x.fs.lookup f else none with
    | some d => .ok (.d d) e
    | none => .bad
  | _ => .bad
/-- isinstance(e, a class) of a caught error; ok tells by the error's class -/
def eIsE (i : Nat) (ok : Str → Option Bool) : M Vw := fun e => match e[i]? with
  | some (.ex x) => match ok x.cls with
    | some b => .ok (.d (.bl b)) e
    | none => .bad
  | _ => .bad
/-- a new object: its class, what makes it; it stands behind the frame while it is made -/
def newB (c : Str) (f : Fn) (ms : List Bool) (dv : List D) (ws : List Vw) : M Vw := fun e =>
  match callB f (true :: ms) dv (.o e.length :: ws) (e ++ [.own (.o c [])]) with
  | .ok (.d .non) e' => match e'[e.length]? with
    | some (.own k) => .ok (.f k) (e'.take e.length)
    | _ => .bad
  | .ok _ _ => .bad
  | .exc x e' => .exc x (e'.take e.length)
  | .bad => .bad
def eNew (c : Str) (f : Fn) (ms : List Bool) (as ks : List (M Vw)) (dv : List D) : M Vw := bnd (eArgs as) fun ws => bnd (eArgs ks) fun zs => newB c f ms dv (ws ++ zs)
def putFD (f : Str) (v : D) : List (Str × D) → List (Str × D)
  | [] => [(f, v)]
  | (g, x) :: r => if g = f then (g, v) :: r else (g, x) :: putFD f v r
def ownO (i : Nat) : M (Str × List (Str × D)) := fun e => match getO i e with
  | some (.o c fs) => .ok (c, fs) e
  | _ => .bad
/-- o.f = v -/
def sFld (cs : List Str) (f : Str) (o v : M Vw) : M Fl := bnd v fun u => bnd o fun w => bnd (optM (viewI w)) fun k => bnd (stayM u) fun d => bnd (ownO k) fun p => if cs.contains p.1 ∧ p.2.length < 1000 then fun e => .ok .nx (setO k (.o p.1 (putFD f d p.2)) e) else optM none
def run (k : Nat) (b : M Fl) : Fn := fun args => match b (args ++ List.replicate k .no) with
  | .ok .nx e => .ret (.d .non) (pars e)
  | .ok (.rt (.d d)) e => .ret (.d d) (pars e)
  | .ok (.rt (.f c)) e => .ret (.f c) (pars e)
  | .ok _ _ => .bad
  | .exc x e => .exc x (pars e)
  | .bad => .bad
end UbP
namespace UbP
end UbP
namespace UbP
/-- [a new list for tg in it if c] -/
def lcGoN (tg : Tg) (c : M Bool) (x : M Vw) (vs : List Nat) : List D → List (List D) → M (List (List D))
  | [], acc => ret acc
  | d :: ds, acc => fun e => match putT tg d e with
    | none => .bad
    | some e1 => match c e1 with
      | .ok false e2 => lcGoN tg c x vs ds acc (wipeE e2 vs)
      | .ok true e2 => match x e2 with
        | .ok (.f (.l r)) e3 => if acc.length < LIM then lcGoN tg c x vs ds (acc ++ [r]) (wipeE e3 vs) else .bad
        | _ => .bad
      | _ => .bad
def eLcN (it : M (List D)) (tg : Tg) (c : M Bool) (x : M Vw) (vs : List Nat) : M (List (List D)) := bnd it fun ds e =>
  if freeAt e vs then match lcGoN tg c x vs ds [] (wipeE e vs) with
    | .ok ys e' => .ok ys (backE e e' vs)
    | _ => .bad
  else .bad
/-- no list of own lists stands in a slot -/
def noN (e : Env) : Bool := e.all fun s => match s with
  | .nst _ => false
  | _ => true
def nstN (i : Nat) (rows : List (List D)) : M Unit := fun e => if noN e then match e[i]? with
  | some .no => .ok () (e.set i (.nst rows))
  | some (.dat _) => .ok () (e.set i (.nst rows))
  | _ => .bad
  else .bad
/-- x = [new lists]; what follows -/
def sNst (i : Nat) (mk : M (List (List D))) (f : M Fl) : M Fl := bnd mk fun rows => bnd (nstN i rows) fun _ => f
/-- statements while the list of own lists stands there -/
def sSeqN (a b : M Fl) : M Fl := bnd (calmM a) fun f => match f with
  | .nx => b
  | _ => optM none
def unN (i : Nat) : M Unit := fun e => match e[i]? with
  | some (.nst rows) => .ok () (e.set i (.dat (.lst (rows.map .lst))))
  | _ => .bad
/-- from here on it is data -/
def sUn (i : Nat) (r : M Fl) : M Fl := bnd (unN i) fun _ => r
def intV (a : M Vw) : M Int := bnd a fun w => bnd (nowM w) fun d => optM (intOf d)
/-- the row at k -/
def rowM (i : Nat) (k : Int) : M (Nat × List D) := fun e => match e[i]? with
  | some (.nst rows) => match ixI rows.length k with
    | some j => match rows[j]? with
      | some r => .ok (j, r) e
      | none => .bad
    | none => .bad
  | _ => .bad
def putRow (i j : Nat) (r : List D) : M Unit := fun e => match e[i]? with
  | some (.nst rows) => .ok () (e.set i (.nst (rows.set j r)))
  | _ => .bad
def eRow (i : Nat) (k : M Vw) : M (Nat × List D) := bnd (intV k) fun n => rowM i n
/-- if x[k]: -/
def sIfRow (i : Nat) (k : M Vw) (f g : M Fl) : M Fl := bnd (eRow i k) fun p => if p.2.isEmpty then g else f
/-- t = x[k].pop(m) -/
def sPopRow (t i : Nat) (k m : M Vw) : M Fl := bnd (eRow i k) fun p => bnd (intV m) fun n => match ixI p.2.length n with
  | some j => bnd (optM p.2[j]?) fun d => if p.2.length < LIM then bnd (putRow i p.1 (p.2.eraseIdx j)) fun _ => putM (.nm t) d else optM none
  | none => optM none
end UbP
namespace UbP
open PySem PySem.Spec PyProof.Rows L2 UbM Ub
mutual
inductive Dq (K : PySem.W.Frag) (H : Hp) : V → D → Prop
  | non : Dq K H .non .non
  | bl (b : Bool) : Dq K H (.bl b) (.bl b)
  | int (i : Int) : Dq K H (.int i) (.int i)
  | str (x : Str) : Dq K H (.str x) (.str x)
  | lst {a : Addr} {xs : List V} {ds : List D} : H a = some (.lst xs) → DqAll K H xs ds → Dq K H (.ref a) (.lst ds)
  | lsf {a : Addr} {xs : List V} {ds : List D} : SqL K H a xs → DqAll K H xs ds → Dq K H (.ref a) (.lsf ds)
  | tup {a : Addr} {xs : List V} {ds : List D} : SqT K H a xs → DqAll K H xs ds → Dq K H (.ref a) (.tup ds)
  | obj {a dx : Addr} {c : Str} {vs : List (Str × V)} {fs : List (Str × D)} : H a = some (.ins (He.ga K c) dx vs) → DqF K H vs fs → Dq K H (.ref a) (.obj c fs)
inductive DqAll (K : PySem.W.Frag) (H : Hp) : List V → List D → Prop
  | nil : DqAll K H [] []
  | cons {v : V} {vs : List V} {d : D} {ds : List D} : Dq K H v d → DqAll K H vs ds → DqAll K H (v :: vs) (d :: ds)
inductive DqF (K : PySem.W.Frag) (H : Hp) : List (Str × V) → List (Str × D) → Prop
  | nil : DqF K H [] []
  | cons {x : Str} {v : V} {vs : List (Str × V)} {d : D} {ds : List (Str × D)} : Dq K H v d → DqF K H vs ds → DqF K H ((x, v) :: vs) ((x, d) :: ds)
end
mutual
theorem Dq.monoT {K : PySem.W.Frag} {H H' : Hp} (e : UbG.SameT H H') : ∀ (d : D) (v : V), Dq K H v d → Dq K H' v d
  | .non, _, h => by cases h; exact .non
  | .bl b, _, h => by cases h; exact .bl b
  | .int i, _, h => by cases h; exact .int i
  | .str x, _, h => by cases h; exact .str x
  | .lst ds, _, h => by
    cases h with
    | lst hs ha => exact .lst (e.but _ _ hs fun _ z => by cases z) (Dq.monoTAll e ds _ ha)
  | .lsf ds, _, h => by
    cases h with
    | lsf hs ha => exact .lsf (UbG.SameT.seq e hs) (Dq.monoTAll e ds _ ha)
  | .tup ds, _, h => by
    cases h with
    | tup hs ha => exact .tup (UbG.SameT.tseq e hs) (Dq.monoTAll e ds _ ha)
  | .obj c fs, _, h => by
    cases h with
    | obj hs ha => exact .obj (e.but _ _ hs fun _ z => by cases z) (Dq.monoTF e fs _ ha)
theorem Dq.monoTAll {K : PySem.W.Frag} {H H' : Hp} (e : UbG.SameT H H') : ∀ (ds : List D) (vs : List V), DqAll K H vs ds → DqAll K H' vs ds
  | [], _, h => by cases h; exact .nil
  | d :: ds, _, h => by
    cases h with
    | cons h1 h2 => exact .cons (Dq.monoT e d _ h1) (Dq.monoTAll e ds _ h2)
theorem Dq.monoTF {K : PySem.W.Frag} {H H' : Hp} (e : UbG.SameT H H') : ∀ (ds : List (Str × D)) (vs : List (Str × V)), DqF K H vs ds → DqF K H' vs ds
  | [], _, h => by cases h; exact .nil
  | (x, d) :: ds, _, h => by
    cases h with
    | cons h1 h2 => exact .cons (Dq.monoT e d _ h1) (Dq.monoTF e ds _ h2)
end
abbrev SS := Addr → Prop
open Classical in
noncomputable def wo (S : SS) (H : Hp) : Hp := fun b => if S b then none else H b
section
variable {K : PySem.W.Frag} {S S' : SS} {H H' H1 H2 : Hp} {b a p : Addr} {o : HO}
theorem wo_in (h : wo S H b = some o) : ¬S b ∧ H b = some o := by
  unfold wo at h
  by_cases hb : S b
  · rw [if_pos hb] at h; cases h
  · rw [if_neg hb] at h; exact ⟨hb, h⟩
theorem wo_out (hb : ¬S b) : wo S H b = H b := by unfold wo; rw [if_neg hb]
theorem wo_same : Same (wo S H) H := fun b o h => (wo_in h).2
theorem wo_sub (h : ∀ s, S s → S' s) : Same (wo S' H) (wo S H) := fun b o e => by
  obtain ⟨h1, h2⟩ := wo_in e
  rw [wo_out fun z => h1 (h b z)]
  exact h2
def isC : HO → Prop
  | .lst _ => True
  | .ins _ _ _ => True
  | _ => False
def Cl (S : SS) (H : Hp) : Prop := ∀ s, S s → ∃ o, H s = some o ∧ isC o
structure SameC (S : SS) (H H' : Hp) : Prop where
  but : ∀ b o, ¬S b → H b = some o → (∀ ps, o ≠ .tbl ps) → H' b = some o
  tab : ∀ P, GxR.TabG H P → GxR.TabG H' P
  cl : ∀ s, S s → (∃ o, H s = some o ∧ isC o) → ∃ o, H' s = some o ∧ isC o
  dom : ∀ b, H' b = none → H b = none
/-- everything stands (tables may grow) -/
abbrev Kp (H H' : Hp) : Prop := SameC (fun _ => False) H H'
theorem isC_tbl (h : isC o) : ∀ ps, o ≠ .tbl ps := fun ps z => by rw [z] at h; exact h
theorem SameC.refl (H : Hp) : SameC S H H := ⟨fun _ _ _ h _ => h, fun _ h => h, fun _ _ h => h, fun _ h => h⟩
theorem SameC.trans (a : SameC S H H1) (b : SameC S H1 H2) : SameC S H H2 :=
  ⟨fun c o n h t => b.but c o n (a.but c o n h t) t, fun P h => b.tab P (a.tab P h), fun s hs h => b.cl s hs (a.cl s hs h), fun c h => a.dom c (b.dom c h)⟩
theorem sameC (e : Same H H') : SameC S H H' := ⟨fun b o _ h t => e _ _ h, fun _ h => UbG.TabG.mono e h, fun s _ ⟨o, h, c⟩ => ⟨o, e _ _ h, c⟩, fun b h => by
  cases g : H b with
  | none => rfl
  | some o => rw [e _ _ g] at h; cases h⟩
theorem kp (e : Same H H') : Kp H H' := sameC e
theorem kpTab {P : Addr} (hP : GxR.TabG H P) (t : GxR.Tabbed P H H') : Kp H H' := by
  have e := UbG.tabbedT hP t
  refine ⟨fun b o _ => e.but b o, e.tab, fun _ z => z.elim, fun b h => ?_⟩
  by_cases hb : b = P
  · obtain ⟨qs, g, _⟩ := t.1
    rw [hb, g] at h
    cases h
  · rw [← t.2 b hb]
    exact h
theorem Kp.C (e : Kp H H') : SameC S H H' := ⟨fun b o _ h t => e.but b o (fun z => z) h t, e.tab, fun s _ ⟨o, h, c⟩ => ⟨o, e.but _ _ (fun z => z) h (isC_tbl c), c⟩, e.dom⟩
theorem SameC.sub (e : SameC S H H') (h : ∀ s, S s → S' s) : SameC S' H H' :=
  ⟨fun b o n g t => e.but b o (fun z => n (h b z)) g t, e.tab, fun s _ ⟨o, g, c⟩ => by
    by_cases hs : S s
    · exact e.cl s hs ⟨o, g, c⟩
    · exact ⟨o, e.but _ _ hs g (isC_tbl c), c⟩, e.dom⟩
theorem SameC.wT (e : SameC S H H') : UbG.SameT (wo S H) (wo S H') := by
  refine ⟨fun b o h t => ?_, fun P ⟨ps, h, t⟩ => ?_⟩
  · obtain ⟨h1, h2⟩ := wo_in h
    rw [wo_out h1]
    exact e.but b o h1 h2 t
  · obtain ⟨h1, h2⟩ := wo_in h
    obtain ⟨qs, g, t2⟩ := e.tab P ⟨ps, h2, t⟩
    exact ⟨qs, by rw [wo_out h1]; exact g, t2⟩
theorem SameC.clS (e : SameC S H H') (h : Cl S H) : Cl S H' := fun s hs => e.cl s hs (h s hs)
theorem wT_of (e : Kp H H') : UbG.SameT (wo S H) (wo S H') := (Kp.C e).wT
theorem sameC_upd (ha : S a) (hc : isC o) (h : ∃ o', H a = some o' ∧ isC o') : SameC S H (upd H a o) := by
  obtain ⟨o', h, c'⟩ := h
  refine ⟨fun b x n e _ => ?_, fun P ⟨ps, e, t⟩ => ⟨ps, ?_, t⟩, fun s _ ⟨y, e, c⟩ => ?_, fun b hb => ?_⟩
  · rw [upd_ne (show b ≠ a from fun z => n (by rw [z]; exact ha))]
    exact e
  · rw [upd_ne (show P ≠ a from fun z => isC_tbl c' ps (by rw [z, h] at e; exact Option.some.inj e))]
    exact e
  · by_cases hs : s = a
    · rw [hs]; exact ⟨o, upd_same, hc⟩
    · exact ⟨y, by rw [upd_ne hs]; exact e, c⟩
  · by_cases hs : b = a
    · rw [hs, upd_same] at hb; cases hb
    · rw [upd_ne hs] at hb; exact hb
theorem wo_upd (ha : S a) : wo S (upd H a o) = wo S H := by
  funext b
  by_cases hb : S b
  · unfold wo; rw [if_pos hb, if_pos hb]
  · rw [wo_out hb, wo_out hb, upd_ne (show b ≠ a from fun z => hb (by rw [z]; exact ha))]
theorem Cl.new (l : Cl S H) (np : H p = none) : ¬S p := fun z => by
  obtain ⟨o, h, _⟩ := l p z
  rw [np] at h
  cases h
theorem wo_new (hp : ¬S p) : wo S (upd H p o) = upd (wo S H) p o := by
  funext b
  by_cases hb : b = p
  · rw [hb, wo_out hp, upd_same, upd_same]
  · rw [upd_ne hb]
    by_cases hs : S b
    · unfold wo; rw [if_pos hs, if_pos hs]
    · rw [wo_out hs, wo_out hs, upd_ne hb]
theorem wo_none (np : H p = none) : wo S H p = none := by
  cases e : wo S H p with
  | none => rfl
  | some o => rw [(wo_in e).2] at np; cases np
theorem wo_tseq {xs : List V} (l : Cl S H) (h : SqT K H a xs) : SqT K (wo S H) a xs := by
  have go : ∀ o, H a = some o → ¬isC o → wo S H a = some o := fun o e n => by
    rw [wo_out fun z => ?_]
    · exact e
    · obtain ⟨o', g, c⟩ := l _ z
      rw [g] at e
      cases e
      exact n c
  rcases h with (h | ⟨o, h⟩) | h
  · exact .inl (.inl (go _ h (fun z => z)))
  · exact .inl (.inr ⟨o, go _ h (fun z => z)⟩)
  · exact .inr h
end
section
variable {K : PySem.W.Frag} {S S' : SS} {H H' : Hp} {v : V} {d : D} {vs : List V} {ds : List D} {fs : List (Str × D)} {ws : List (Str × V)}
theorem Dq.mono (e : Same H H') (h : Dq K H v d) : Dq K H' v d := Dq.monoT (UbG.sameT e) _ _ h
theorem DqAll.mono (e : Same H H') (h : DqAll K H vs ds) : DqAll K H' vs ds := Dq.monoTAll (UbG.sameT e) _ _ h
theorem DqF.mono (e : Same H H') (h : DqF K H ws fs) : DqF K H' ws fs := Dq.monoTF (UbG.sameT e) _ _ h
theorem Dq.out (h : Dq K (wo S H) v d) : Dq K H v d := h.mono wo_same
theorem DqAll.len : ∀ {vs : List V} {ds : List D}, DqAll K H vs ds → vs.length = ds.length
  | _, _, .nil => rfl
  | _, _, .cons _ t => congrArg Nat.succ (DqAll.len t)
theorem DqAll.get : ∀ {vs : List V} {ds : List D} {i : Nat} {d : D}, DqAll K H vs ds → ds[i]? = some d → ∃ v, vs[i]? = some v ∧ Dq K H v d
  | _, _, _, _, .nil, h => by simp at h
  | _, _, 0, _, .cons h1 _, h => by
    simp at h
    subst h
    exact ⟨_, rfl, h1⟩
  | _, _, i + 1, d, .cons _ h2, h => by
    obtain ⟨v, e, q⟩ := DqAll.get (i := i) (d := d) h2 (by simpa using h)
    exact ⟨v, by simpa using e, q⟩
theorem DqAll.at : ∀ {vs : List V} {ds : List D} {i : Nat} {v : V}, DqAll K H vs ds → vs[i]? = some v → ∃ d, ds[i]? = some d ∧ Dq K H v d
  | _, _, _, _, .nil, h => by simp at h
  | _, _, 0, _, .cons h1 _, h => by
    simp at h
    subst h
    exact ⟨_, rfl, h1⟩
  | _, _, i + 1, v, .cons _ h2, h => by
    obtain ⟨d, e, q⟩ := DqAll.at (i := i) (v := v) h2 (by simpa using h)
    exact ⟨d, by simpa using e, q⟩
theorem DqAll.snoc : ∀ {vs : List V} {ds : List D} {v : V} {d : D}, DqAll K H vs ds → Dq K H v d → DqAll K H (vs ++ [v]) (ds ++ [d])
  | _, _, _, _, .nil, h => .cons h .nil
  | _, _, _, _, .cons h1 h2, h => .cons h1 (DqAll.snoc h2 h)
theorem DqAll.app : ∀ {vs ws : List V} {ds es : List D}, DqAll K H vs ds → DqAll K H ws es → DqAll K H (vs ++ ws) (ds ++ es)
  | _, _, _, _, .nil, h => h
  | _, _, _, _, .cons h1 h2, h => .cons h1 (DqAll.app h2 h)
theorem DqAll.take : ∀ {vs : List V} {ds : List D} (n : Nat), DqAll K H vs ds → DqAll K H (vs.take n) (ds.take n)
  | _, _, 0, _ => .nil
  | _, _, n + 1, .nil => .nil
  | _, _, n + 1, .cons h1 h2 => .cons h1 (DqAll.take n h2)
theorem DqAll.drop : ∀ {vs : List V} {ds : List D} (n : Nat), DqAll K H vs ds → DqAll K H (vs.drop n) (ds.drop n)
  | _, _, 0, h => h
  | _, _, n + 1, .nil => .nil
  | _, _, n + 1, .cons h1 h2 => DqAll.drop n h2
theorem DqAll.set : ∀ {vs : List V} {ds : List D} {v : V} {d : D} (i : Nat), DqAll K H vs ds → Dq K H v d → DqAll K H (vs.set i v) (ds.set i d)
  | _, _, _, _, _, .nil, _ => .nil
  | _, _, _, _, 0, .cons _ h2, h => .cons h h2
  | _, _, _, _, i + 1, .cons h1 h2, h => .cons h1 (DqAll.set i h2 h)
theorem DqAll.rev : ∀ {vs : List V} {ds : List D}, DqAll K H vs ds → DqAll K H vs.reverse ds.reverse
  | _, _, .nil => .nil
  | _, _, .cons h1 h2 => by
    rw [List.reverse_cons, List.reverse_cons]
    exact DqAll.snoc (DqAll.rev h2) h1
theorem DqAll.rep {vs : List V} {ds : List D} (h : DqAll K H vs ds) : ∀ n : Nat, DqAll K H (List.replicate n vs).flatten (UbP.rep ds n)
  | 0 => .nil
  | n + 1 => DqAll.app h (DqAll.rep h n)
theorem DqF.look : ∀ {ws : List (Str × V)} {fs : List (Str × D)} {f : Str} {d : D}, DqF K H ws fs → fs.lookup f = some d → ∃ v, ws.lookup f = some v ∧ Dq K H v d
  | _, _, _, _, .nil, h => by simp at h
  | _, _, f, d, .cons (x := x) h1 h2, h => by
    by_cases e : (f == x) = true
    · rw [List.lookup_cons, e] at h ⊢
      cases h
      exact ⟨_, rfl, h1⟩
    · have e : (f == x) = false := by simpa using e
      rw [List.lookup_cons, e] at h ⊢
      exact DqF.look h2 h
theorem DqF.names : ∀ {ws : List (Str × V)} {fs : List (Str × D)}, DqF K H ws fs → ws.map (·.1) = fs.map (·.1)
  | _, _, .nil => rfl
  | _, _, .cons _ t => by rw [List.map_cons, List.map_cons, DqF.names t]
mutual
theorem Dq.apart (l : Cl S H) : ∀ (d : D) (v : V), noL d = true → Dq K H v d → Dq K (wo S H) v d
  | .non, _, _, h => by cases h; exact .non
  | .bl b, _, _, h => by cases h; exact .bl b
  | .int i, _, _, h => by cases h; exact .int i
  | .str x, _, _, h => by cases h; exact .str x
  | .lst ds, _, n, _ => by unfold noL at n; cases n
  | .lsf ds, _, n, _ => by unfold noL at n; cases n
  | .obj _ _, _, n, _ => by unfold noL at n; cases n
  | .tup ds, _, n, h => by
    cases h with
    | tup hs ha => exact .tup (wo_tseq l hs) (Dq.apartAll l ds _ (by unfold noL at n; exact n) ha)
theorem Dq.apartAll (l : Cl S H) : ∀ (ds : List D) (vs : List V), noLs ds = true → DqAll K H vs ds → DqAll K (wo S H) vs ds
  | [], _, _, h => by cases h; exact .nil
  | d :: ds, _, n, h => by
    unfold noLs at n
    obtain ⟨n1, n2⟩ := Bool.and_eq_true_iff.mp n
    cases h with
    | cons h1 h2 => exact .cons (Dq.apart l d _ n1 h1) (Dq.apartAll l ds _ n2 h2)
end
end
def ExR (K : PySem.W.Frag) (H : Hp) (x : Ex) (cls : Value) (d : Option Addr) : Prop :=
  cls = .ref (He.ga K x.cls) ∧ ((x.fs = [] ∧ d = none) ∨ ∃ dx vs, d = some dx ∧ H dx = some (.xd vs) ∧ DqF K H vs x.fs)
def RelC (K : PySem.W.Frag) (S : SS) (H : Hp) (a : Addr) : Ct → Prop
  | .l ds => ∃ xs, H a = some (.lst xs) ∧ DqAll K (wo S H) xs ds
  | .o c fs => ∃ dx vs, H a = some (.ins (He.ga K c) dx vs) ∧ DqF K (wo S H) vs fs
def ownS (σ : L2.St) (env : Env) : SS := fun s => ∃ i c, getO i env = some c ∧ σ[i]? = some (some (V.ref s))
def cells (σ : L2.St) (env : Env) (O : SS) : SS := fun s => ownS σ env s ∨ O s
/-- where one stands: the written part, the tables, the caught error, what is wished of errors -/
structure Z where
  K : PySem.W.Frag
  Tb : List Addr
  xi : Option (Addr × Value × Option Addr)
  W : WX
structure RelT (z : Z) (O : SS) (H : Hp) (σ : L2.St) (env : Env) : Prop where
  len : σ.length = env.length
  dat : ∀ (i : Nat) (d : D), env[i]? = some (Sl.dat d) → ∃ v : V, σ[i]? = some (some v) ∧ Dq z.K (wo (cells σ env O) H) v d
  own : ∀ (i : Nat) (c : Ct), getO i env = some c → ∃ a : Addr, σ[i]? = some (some (V.ref a)) ∧ RelC z.K (cells σ env O) H a c
  inj : ∀ (i j : Nat) (c c' : Ct) (a : Addr), getO i env = some c → getO j env = some c' → σ[i]? = some (some (V.ref a)) → σ[j]? = some (some (V.ref a)) → i = j
  out : ∀ (i : Nat) (c : Ct) (a : Addr), getO i env = some c → σ[i]? = some (some (V.ref a)) → ¬O a
  ex : ∀ (i : Nat) (x : Ex), env[i]? = some (Sl.ex x) → ∃ (a : Addr) (cls : Value) (d : Option Addr), z.xi = some (a, cls, d) ∧ σ[i]? = some (some (V.ref a)) ∧ ExR z.K (wo (cells σ env O) H) x cls d
  cl : Cl (cells σ env O) H
  tb : ∀ P ∈ z.Tb, GxR.TabG H P
inductive Kn where
  | z | o | p | n (rows : List (List D))
def knd : Sl → Kn
  | .own _ => .o
  | .par _ => .p
  | .nst r => .n r
  | _ => .z
/-- the same slots are owned -/
def SameO (env env' : Env) : Prop := env.length = env'.length ∧ ∀ i : Nat, (env[i]?).map knd = (env'[i]?).map knd
theorem SameO.refl (env : Env) : SameO env env := ⟨rfl, fun _ => rfl⟩
theorem SameO.trans {a b c : Env} (x : SameO a b) (y : SameO b c) : SameO a c := ⟨x.1.trans y.1, fun i => (x.2 i).trans (y.2 i)⟩
theorem SameO.symm {a b : Env} (x : SameO a b) : SameO b a := ⟨x.1.symm, fun i => (x.2 i).symm⟩
theorem getO_knd {env : Env} {i : Nat} : (getO i env).isSome = true ↔ (env[i]?).map knd = some .o ∨ (env[i]?).map knd = some .p := by
  unfold getO
  cases e : env[i]? with
  | none => simp
  | some s => cases s <;> simp [knd]
theorem SameO.getO {env env' : Env} (h : SameO env env') {i : Nat} {c : Ct} (e : getO i env = some c) : ∃ c', UbP.getO i env' = some c' := by
  have h1 : (UbP.getO i env).isSome = true := by rw [e]; rfl
  have h2 : (UbP.getO i env').isSome = true := by
    rw [getO_knd] at h1 ⊢
    rw [← h.2 i]
    exact h1
  exact Option.isSome_iff_exists.mp h2
theorem SameO.ownS {env env' : Env} (h : SameO env env') (σ : L2.St) : ownS σ env = ownS σ env' := by
  funext s
  refine propext ⟨?_, ?_⟩
  · rintro ⟨i, c, e, g⟩
    obtain ⟨c', e'⟩ := h.getO e
    exact ⟨i, c', e', g⟩
  · rintro ⟨i, c, e, g⟩
    obtain ⟨c', e'⟩ := h.symm.getO e
    exact ⟨i, c', e', g⟩
theorem SameO.cells {env env' : Env} (h : SameO env env') (σ : L2.St) (O : SS) : cells σ env O = cells σ env' O := by
  unfold UbP.cells
  rw [h.ownS σ]
/-- the value v is what w says -/
def VRel (K : PySem.W.Frag) (S : SS) (σ : L2.St) (H : Hp) (v : V) : Vw → Prop
  | .d d => Dq K (wo S H) v d
  | .o i => σ[i]? = some (some v)
  | .f c => ∃ a, v = .ref a ∧ ¬S a ∧ RelC K (fun s => S s ∨ s = a) H a c
def NewV (H : Hp) (v : V) : Vw → Prop
  | .f _ => ∀ a, v = .ref a → H a = none
  | _ => True
section
variable {K : PySem.W.Frag} {S S' : SS} {H H' : Hp} {a : Addr} {c : Ct} {z : Z} {O : SS} {σ : L2.St} {env env' : Env} {v : V} {w : Vw}
theorem RelC.mono (e : Kp H H') (h : RelC K S H a c) : RelC K S H' a c := by
  cases c with
  | l ds =>
    obtain ⟨xs, h1, h2⟩ := h
    exact ⟨xs, e.but _ _ (fun z => z) h1 (fun _ z => by cases z), Dq.monoTAll (wT_of e) _ _ h2⟩
  | o c fs =>
    obtain ⟨dx, vs, h1, h2⟩ := h
    exact ⟨dx, vs, e.but _ _ (fun z => z) h1 (fun _ z => by cases z), Dq.monoTF (wT_of e) _ _ h2⟩
/-- other cells change -/
theorem RelC.moveC (e : SameC S' H H') (na : ¬S' a) (i : ∀ s, S' s → S s) (h : RelC K S H a c) : RelC K S H' a c := by
  cases c with
  | l ds =>
    obtain ⟨xs, h1, h2⟩ := h
    exact ⟨xs, e.but _ _ na h1 (fun _ z => by cases z), Dq.monoTAll (e.sub i).wT _ _ h2⟩
  | o c fs =>
    obtain ⟨dx, vs, h1, h2⟩ := h
    exact ⟨dx, vs, e.but _ _ na h1 (fun _ z => by cases z), Dq.monoTF (e.sub i).wT _ _ h2⟩
theorem RelC.sub (i : ∀ s, S' s → S s) (h : RelC K S H a c) : RelC K S' H a c := by
  cases c with
  | l ds =>
    obtain ⟨xs, h1, h2⟩ := h
    exact ⟨xs, h1, h2.mono (wo_sub i)⟩
  | o c fs =>
    obtain ⟨dx, vs, h1, h2⟩ := h
    exact ⟨dx, vs, h1, h2.mono (wo_sub i)⟩
theorem RelC.isC (h : RelC K S H a c) : ∃ o, H a = some o ∧ UbP.isC o := by
  cases c with
  | l ds =>
    obtain ⟨xs, h1, h2⟩ := h
    exact ⟨_, h1, True.intro⟩
  | o c fs =>
    obtain ⟨dx, vs, h1, h2⟩ := h
    exact ⟨_, h1, True.intro⟩
/-- owned no more: data -/
theorem RelC.data (na : ¬S a) (i : ∀ s, S s → S' s) (h : RelC K S' H a c) : Dq K (wo S H) (.ref a) c.toD := by
  cases c with
  | l ds =>
    obtain ⟨xs, h1, h2⟩ := h
    exact .lst (by rw [wo_out na]; exact h1) (h2.mono (wo_sub i))
  | o c fs =>
    obtain ⟨dx, vs, h1, h2⟩ := h
    exact .obj (by rw [wo_out na]; exact h1) (h2.mono (wo_sub i))
theorem VRel.move (e : SameC S' H H') (i : ∀ s, S' s → S s) (h : VRel K S σ H v w) : VRel K S σ H' v w := by
  cases w with
  | d x => exact Dq.monoT (e.sub i).wT _ _ h
  | o k => exact h
  | f c =>
    obtain ⟨a, ev, na, hc⟩ := h
    exact ⟨a, ev, na, hc.moveC e (fun z => na (i _ z)) fun s hs => .inl (i s hs)⟩
theorem VRel.mono (e : Kp H H') (h : VRel K S σ H v w) : VRel K S σ H' v w := h.move (S' := fun _ => False) e fun _ z => z.elim
theorem VRel.stay {d : D} (h : VRel K S σ H v w) (e : w.stay = some d) : Dq K (wo S H) v d := by
  cases w with
  | d x => cases e; exact h
  | o k => cases e
  | f c =>
    cases e
    obtain ⟨a, rfl, na, hc⟩ := h
    exact hc.data na fun s hs => .inl hs
theorem RelT.mono (e : Kp H H') (R : RelT z O H σ env) : RelT z O H' σ env :=
  ⟨R.len, fun i d h => let ⟨v, h1, h2⟩ := R.dat i d h; ⟨v, h1, Dq.monoT (wT_of e) _ _ h2⟩, fun i c h => let ⟨a, h1, h2⟩ := R.own i c h; ⟨a, h1, h2.mono e⟩, R.inj, R.out,
    fun i x h => let ⟨a, cls, d, h1, h2, h3, h4⟩ := R.ex i x h; ⟨a, cls, d, h1, h2, h3, h4.imp id fun ⟨dx, vs, g1, g2, g3⟩ => ⟨dx, vs, g1, (wT_of e).but _ _ g2 (fun _ z => by cases z), Dq.monoTF (wT_of e) _ _ g3⟩⟩,
    (Kp.C e).clS R.cl, fun P hP => e.tab P (R.tb P hP)⟩
/-- what is looked at now -/
def DV (K : PySem.W.Frag) (S : SS) (H : Hp) (v : V) : D → Prop
  | .lst ds => ∃ a xs, v = .ref a ∧ H a = some (.lst xs) ∧ DqAll K (wo S H) xs ds
  | .obj c fs => ∃ a dx vs, v = .ref a ∧ H a = some (.ins (He.ga K c) dx vs) ∧ DqF K (wo S H) vs fs
  | d => Dq K (wo S H) v d
theorem DV.of {d : D} (h : Dq K (wo S H) v d) : DV K S H v d := by
  cases d with
  | lst ds =>
    cases h with
    | lst h1 h2 => exact ⟨_, _, rfl, (wo_in h1).2, h2⟩
  | obj c fs =>
    cases h with
    | obj h1 h2 => exact ⟨_, _, _, rfl, (wo_in h1).2, h2⟩
  | _ => exact h
theorem DV.ofC (h : RelC K S H a c) : DV K S H (.ref a) c.toD := by
  cases c with
  | l ds =>
    obtain ⟨xs, h1, h2⟩ := h
    exact ⟨_, xs, rfl, h1, h2⟩
  | o c fs =>
    obtain ⟨dx, vs, h1, h2⟩ := h
    exact ⟨_, dx, vs, rfl, h1, h2⟩
theorem DV.dq {d : D} (h : DV K S H v d) : Dq K H v d := by
  cases d with
  | lst ds =>
    obtain ⟨a, xs, rfl, h1, h2⟩ := h
    exact .lst h1 (h2.mono wo_same)
  | obj c fs =>
    obtain ⟨a, dx, vs, rfl, h1, h2⟩ := h
    exact .obj h1 (h2.mono wo_same)
  | _ => exact Dq.out h
theorem VRel.now {d : D} (R : RelT z O H σ env) (h : VRel z.K (cells σ env O) σ H v w) (e : w.now env = some d) : DV z.K (cells σ env O) H v d := by
  cases w with
  | d x => cases e; exact .of h
  | o k =>
    obtain ⟨c, hc, rfl⟩ := Option.map_eq_some_iff.mp e
    obtain ⟨a, h1, h2⟩ := R.own k c hc
    have h : σ[k]? = some (some v) := h
    rw [h1] at h
    cases h
    exact .ofC h2
  | f c =>
    cases e
    obtain ⟨a, rfl, na, hc⟩ := h
    exact .ofC (hc.sub fun s hs => .inl hs)
end
/-- a new thing stands apart from all that is held -/
def AwayV (z : Z) (O : SS) (σ : L2.St) (env : Env) (H : Hp) (v : V) : Vw → Prop
  | .f _ => ∀ a, v = .ref a → RelT z (fun s => O s ∨ s = a) H σ env
  | _ => True
/-- how a result stands: α the plain one, β what the machine has -/
abbrev VRt (α β : Type) := Z → SS → Env → L2.St → Hp → Hp → β → α → Prop
def vE : VRt Vw V := fun z O env σ H H' v w => VRel z.K (cells σ env O) σ H' v w ∧ NewV H v w ∧ AwayV z O σ env H' v w
def vT : VRt Bool Bool := fun _ _ _ _ _ _ b c => b = c
def vA : VRt (List Vw) (List V) := fun z O env σ _ H' vs ws => Paired (VRel z.K (cells σ env O) σ H') vs ws
def vO : VRt (Option Int) (Option Int) := fun _ _ _ _ _ _ b c => b = c
def Back {α β : Type} (R : VRt α β) : Prop := ∀ z O env S' σ H H1 H' v w, SameC S' H H1 → R z O env σ H1 H' v w → R z O env σ H H' v w
def PostG {α β : Type} (R : VRt α β) (z : Z) (O : SS) (σ : L2.St) (env : Env) (H : Hp) (Q : β → Hp → Prop) : Res α → Prop
  | .ok w env' => ∀ v H', SameC (ownS σ env) H H' → RelT z O H' σ env' → SameO env env' → R z O env' σ H H' v w → Q v H'
  | .exc x env' => ∀ cls d H', SameC (ownS σ env) H H' → RelT z O H' σ env' → SameO env env' → ExR z.K (wo (cells σ env' O) H') x cls d → z.W cls d σ H'
  | .bad => False
def tG {α β : Type} (R : VRt α β) (z : Z) (f : M α) (σ : L2.St) (H : Hp) (Q : β → Hp → Prop) : Prop := ∃ O env, RelT z O H σ env ∧ PostG R z O σ env H Q (f env)
abbrev tP (z : Z) (f : M Vw) : TE := fun σ H Q => tG vE z f σ H Q
abbrev tT (z : Z) (f : M Bool) : TT := fun σ H Q => tG vT z f σ H Q
abbrev tA (z : Z) (f : M (List Vw)) : TA := fun σ H Q => tG vA z f σ H Q
abbrev tO (z : Z) (f : M (Option Int)) : TO := fun σ H Q => tG vO z f σ H Q
section
variable {X : Cx} {e : Expr} {es : List Expr}
theorem PE_imp {t t' : TE} (h : PE X e t) (i : ∀ σ H Q, t' σ H Q → t σ H Q) : PE X e t' := ⟨fun pins s σ H Q I q => h.run pins s σ H Q I (i _ _ _ q)⟩
theorem PT_imp {t t' : TT} (h : PT X e t) (i : ∀ σ H Q, t' σ H Q → t σ H Q) : PT X e t' := ⟨fun pins s σ H Q I q => h.run pins s σ H Q I (i _ _ _ q)⟩
theorem PW_imp {t t' : TT} (h : PW X e t) (i : ∀ σ H Q, t' σ H Q → t σ H Q) : PW X e t' := ⟨fun w pins s σ H Q I q => h.run w pins s σ H Q I (i _ _ _ q)⟩
theorem PA_imp {t t' : TA} (h : PA X es t) (i : ∀ σ H Q, t' σ H Q → t σ H Q) : PA X es t' := ⟨fun p pins s σ H Q I q => h.run p pins s σ H Q I (i _ _ _ q)⟩
theorem PS_imp {st : Stmt} {t t' : TS} (h : PS X st t) (i : ∀ D σ H, t' D σ H → t D σ H) : PS X st t' := ⟨fun pins s σ H D I q => h.run pins s σ H D I (i _ _ _ q)⟩
theorem PSs_imp {st : List Stmt} {t t' : TS} (h : PSs X st t) (i : ∀ D σ H, t' D σ H → t D σ H) : PSs X st t' := ⟨fun pins s σ H D I q => h.run pins s σ H D I (i _ _ _ q)⟩
end
section
variable {z : Z} {O : SS} {σ : L2.St} {env env1 : Env} {H H1 H' : Hp} {α β γ δ : Type}
theorem NewV.back {S : SS} {v : V} {w : Vw} (e : SameC S H H1) (h : NewV H1 v w) : NewV H v w := by
  cases w with
  | f c0 => exact fun a ev => e.dom a (h a ev)
  | _ => exact True.intro
theorem bkE : Back vE := fun _ _ _ _ _ _ _ _ _ _ e h => ⟨h.1, h.2.1.back e, h.2.2⟩
theorem bkT : Back vT := fun _ _ _ _ _ _ _ _ _ _ _ h => h
theorem bkA : Back vA := fun _ _ _ _ _ _ _ _ _ _ _ h => h
theorem bkO : Back vO := fun _ _ _ _ _ _ _ _ _ _ _ h => h
theorem PostG.move {R : VRt α β} {Q : β → Hp → Prop} {r : Res α} (b : Back R) (e : SameC (ownS σ env) H H1) (so : SameO env env1) (h : PostG R z O σ env H Q r) : PostG R z O σ env1 H1 Q r := by
  cases r with
  | ok w env' =>
    intro v H' e' R' so' V
    rw [← so.ownS σ] at e'
    exact h v H' (e.trans e') R' (so.trans so') (b _ _ _ _ _ _ _ _ _ _ e V)
  | exc x env' =>
    intro cls d H' e' R' so' X
    rw [← so.ownS σ] at e'
    exact h cls d H' (e.trans e') R' (so.trans so') X
  | bad => exact h
theorem tG_mono {R1 : VRt α β} {m : M α} {Q Q' : β → Hp → Prop} (h : tG R1 z m σ H Q) (i : ∀ v H', Q v H' → Q' v H') : tG R1 z m σ H Q' := by
  obtain ⟨O, env, R, P⟩ := h
  refine ⟨O, env, R, ?_⟩
  cases e : m env with
  | ok w env1 => rw [e] at P; exact fun v H' a b c d => i _ _ (P v H' a b c d)
  | exc x env1 => rw [e] at P; exact P
  | bad => rw [e] at P; exact P
/-- one step: the first part runs, the rest is what follows -/
theorem post_bnd {R1 : VRt α β} {R2 : VRt γ δ} {m : M α} {k : α → M γ} {Q : δ → Hp → Prop} (b : Back R2) (R : RelT z O H σ env) (P : PostG R2 z O σ env H Q (bnd m k env)) :
    tG R1 z m σ H fun v H1 => ∃ env1 w, RelT z O H1 σ env1 ∧ SameC (ownS σ env) H H1 ∧ SameO env env1 ∧ R1 z O env1 σ H H1 v w ∧ PostG R2 z O σ env1 H1 Q (k w env1) := by
  refine ⟨O, env, R, ?_⟩
  unfold bnd at P
  cases e : m env with
  | ok w env1 =>
    rw [e] at P
    intro v H1 s1 R1' so V
    exact ⟨env1, w, R1', s1, so, V, PostG.move b s1 so P⟩
  | exc x env1 => rw [e] at P; exact P
  | bad => rw [e] at P; exact P
theorem post_opt {R1 : VRt γ δ} {o : Option α} {k : α → M γ} {Q : δ → Hp → Prop} (P : PostG R1 z O σ env H Q (bnd (optM o) k env)) : ∃ a, o = some a ∧ PostG R1 z O σ env H Q (k a env) := by
  unfold bnd optM at P
  cases o with
  | none => exact P.elim
  | some a => exact ⟨a, rfl, P⟩
theorem post_now {R1 : VRt γ δ} {w : Vw} {k : D → M γ} {Q : δ → Hp → Prop} (P : PostG R1 z O σ env H Q (bnd (nowM w) k env)) : ∃ a, w.now env = some a ∧ PostG R1 z O σ env H Q (k a env) := by
  unfold bnd nowM at P
  cases e : w.now env with
  | none => rw [e] at P; exact P.elim
  | some a => rw [e] at P; exact ⟨a, rfl, P⟩
theorem post_stay {R1 : VRt γ δ} {w : Vw} {k : D → M γ} {Q : δ → Hp → Prop} (P : PostG R1 z O σ env H Q (bnd (stayM w) k env)) : ∃ a, w.stay = some a ∧ PostG R1 z O σ env H Q (k a env) := post_opt P
theorem post_optE {R1 : VRt α β} {o : Option α} {Q : β → Hp → Prop} (P : PostG R1 z O σ env H Q (optM o env)) : ∃ a, o = some a ∧ PostG R1 z O σ env H Q ((ret a : M α) env) := by
  unfold optM at P
  cases o with
  | none => exact P.elim
  | some a => exact ⟨a, rfl, P⟩
theorem fresh_same {S : SS} {a : Addr} (na : H a = none) (e : Kp H H') : UbG.SameT (wo S H) (wo (fun s => S s ∨ s = a) H') := by
  have out : ∀ b o, wo S H b = some o → ¬(S b ∨ b = a) := fun b o h z => by
    obtain ⟨h1, h2⟩ := wo_in h
    rcases z with z | z
    · exact h1 z
    · rw [z, na] at h2
      cases h2
  refine ⟨fun b o h t => ?_, fun P ⟨ps, h, t⟩ => ?_⟩
  · rw [wo_out (out b o h)]
    exact e.but b o (fun z => z) (wo_in h).2 t
  · obtain ⟨qs, g, t2⟩ := e.tab P ⟨ps, (wo_in h).2, t⟩
    exact ⟨qs, by rw [wo_out (out P _ h)]; exact g, t2⟩
/-- all that is held stands apart from a new thing -/
theorem RelT.fresh {a : Addr} (R : RelT z O H σ env) (na : H a = none) (e : Kp H H') (hc : ∃ o, H' a = some o ∧ isC o) : RelT z (fun s => O s ∨ s = a) H' σ env := by
  have ec : cells σ env (fun s => O s ∨ s = a) = fun s => cells σ env O s ∨ s = a := by
    funext s
    exact propext ⟨fun h => h.elim (fun h => .inl (.inl h)) fun h => h.elim (fun h => .inl (.inr h)) .inr, fun h => h.elim (fun h => h.elim .inl fun h => .inr (.inl h)) fun h => .inr (.inr h)⟩
  have wt := fresh_same (S := cells σ env O) na e
  rw [← ec] at wt
  have no : ∀ b, cells σ env O b → b ≠ a := fun b hb z => by
    obtain ⟨o, h, _⟩ := R.cl b hb
    rw [z, na] at h
    cases h
  refine ⟨R.len, fun j d h => ?_, fun j c h => ?_, R.inj, fun j c b g h hO => ?_, fun j x h => ?_, fun s hs => ?_, fun P hP => e.tab P (R.tb P hP)⟩
  · obtain ⟨v, h1, h2⟩ := R.dat j d h
    exact ⟨v, h1, Dq.monoT wt _ _ h2⟩
  · obtain ⟨b, h1, h2⟩ := R.own j c h
    refine ⟨b, h1, ?_⟩
    cases c with
    | l ds =>
      obtain ⟨xs, g1, g2⟩ := h2
      exact ⟨xs, e.but _ _ (fun z => z) g1 (fun _ z => by cases z), Dq.monoTAll wt _ _ g2⟩
    | o c fs =>
      obtain ⟨dx, vs, g1, g2⟩ := h2
      exact ⟨dx, vs, e.but _ _ (fun z => z) g1 (fun _ z => by cases z), Dq.monoTF wt _ _ g2⟩
  · rcases hO with h' | h'
    · exact R.out j c b g h h'
    · exact no b (.inl ⟨j, c, g, h⟩) h'
  · obtain ⟨a, cls, d, h1, h2, h3, h4⟩ := R.ex j x h
    exact ⟨a, cls, d, h1, h2, h3, h4.imp id fun ⟨dx, vs, g1, g2, g3⟩ => ⟨dx, vs, g1, wt.but _ _ g2 (fun _ z => by cases z), Dq.monoTF wt _ _ g3⟩⟩
  · rw [ec] at hs
    rcases hs with h | h
    · exact (Kp.C e).clS R.cl s h
    · rw [h]
      exact hc
theorem away_of {v : V} {w : Vw} (R : RelT z O H σ env) (e : Kp H H') (hV : VRel z.K (cells σ env O) σ H' v w) (N : NewV H v w) : AwayV z O σ env H' v w := by
  cases w with
  | f c =>
    intro a ea
    obtain ⟨b, eb, _, hc⟩ := hV
    rw [ea] at eb
    cases eb
    exact R.fresh (N a ea) e hc.isC
  | _ => exact True.intro
/-- the end with new things in the heap -/
theorem post_new {a : Vw} {v : V} {Q : VK} (R : RelT z O H σ env) (P : PostG vE z O σ env H Q ((ret a : M Vw) env)) (e : Same H H') (V : VRel z.K (cells σ env O) σ H' v a) (N : NewV H v a) : Q v H' :=
  P v H' (sameC e) (R.mono (kp e)) (SameO.refl env) ⟨V, N, away_of R (kp e) V N⟩
end
section
variable {X : Cx} {z : Z} {e a b c : Expr} {es : List Expr} {fa fb fc : M Vw} {pos p : Pos} {x : Str}
/-- the operator's reading follows from the plain function -/
def OpS (K : PySem.W.Frag) (f : D → D → Option Vw) (r : R2) : Prop := ∀ (S : SS) (σ : L2.St) (H : Hp) (Q : VK) (x y : V) (a b : D) (w : Vw), Cl S H → DV K S H x a → DV K S H y b → f a b = some w → (∀ v H', Same H H' → VRel K S σ H' v w → NewV H v w → Q v H') → r x y H Q
def UnS (K : PySem.W.Frag) (f : D → Option Vw) (r : V → Hp → VK → Prop) : Prop := ∀ (S : SS) (σ : L2.St) (H : Hp) (Q : VK) (x : V) (a : D) (w : Vw), Cl S H → DV K S H x a → f a = some w → (∀ v H', Same H H' → VRel K S σ H' v w → NewV H v w → Q v H') → r x H Q
theorem same_refl {H : Hp} : Same H H := fun _ _ h => h
theorem OpR.or {f : Value → Value → Sem Value} {r1 r2 : R2} (h1 : OpR X f r1) (h2 : OpR X f r2) : OpR X f (fun x y H Q => r1 x y H Q ∨ r2 x y H Q) := fun pins s σ H x y v u Q I rx ry h => h.elim (h1 pins s σ H x y v u Q I rx ry) (h2 pins s σ H x y v u Q I rx ry)
theorem IxR.or {r1 r2 : R2} (h1 : IxR X r1) (h2 : IxR X r2) : IxR X (fun x y H Q => r1 x y H Q ∨ r2 x y H Q) := fun a b pins s σ H x y v u Q I rx ry h => h.elim (h1 a b pins s σ H x y v u Q I rx ry) (h2 a b pins s σ H x y v u Q I rx ry)
theorem CallR.or {f : Value} {r1 r2 : List V → Hp → VK → Prop} (h1 : CallR X f r1) (h2 : CallR X f r2) : CallR X f (fun x H Q => r1 x H Q ∨ r2 x H Q) := fun pins s σ H x v Q I rx h => h.elim (h1 pins s σ H x v Q I rx) (h2 pins s σ H x v Q I rx)
theorem vmove {O : SS} {σ : L2.St} {env env1 : Env} {H H1 : Hp} {v : V} {w : Vw} (s1 : SameC (ownS σ env) H H1) (so : SameO env env1) (h : VRel z.K (cells σ env O) σ H v w) : VRel z.K (cells σ env1 O) σ H1 v w := by
  rw [← so.cells σ O]
  exact h.move s1 fun s hs => .inl hs
theorem pu_bin {f : D → D → Option Vw} {r : R2} (s : OpS z.K f r) (σ : L2.St) (H : Hp) (Q : VK) (h : tP z (eB f fa fb) σ H Q) : tOp r (tP z fa) (tP z fb) σ H Q := by
  obtain ⟨O, env, R, P⟩ := h
  refine tG_mono (post_bnd bkE R P) fun v H1 ⟨env1, w, R1, s1, so1, V, P1⟩ => ?_
  refine tG_mono (post_bnd bkE R1 P1) fun u H2 ⟨env2, w2, R2, s2, so2, V2, P2⟩ => ?_
  obtain ⟨d1, e1, P3⟩ := post_now P2
  obtain ⟨d2, e2, P4⟩ := post_now P3
  obtain ⟨r1, e3, P5⟩ := post_optE P4
  exact s _ σ H2 Q v u d1 d2 r1 R2.cl ((vmove s2 so2 V.1).now R2 e1) (V2.1.now R2 e2) e3 fun v' H' e V' N => post_new R2 P5 e V' N
theorem pu_un {f : D → Option Vw} {r : V → Hp → VK → Prop} (s : UnS z.K f r) (σ : L2.St) (H : Hp) (Q : VK) (h : tP z (eU f fa) σ H Q) : tUn r (tP z fa) σ H Q := by
  obtain ⟨O, env, R, P⟩ := h
  refine tG_mono (post_bnd bkE R P) fun v H1 ⟨env1, w, R1, s1, so1, V, P1⟩ => ?_
  obtain ⟨d1, e1, P3⟩ := post_now P1
  obtain ⟨r1, e3, P5⟩ := post_optE P3
  exact s _ σ H1 Q v d1 r1 R1.cl (V.1.now R1 e1) e3 fun v' H' e V' N => post_new R1 P5 e V' N
theorem pu_tbin {f : D → D → Option Bool} {r : R2} (s : OpS z.K (fun a b => (f a b).map fun k => .d (.bl k)) r) (σ : L2.St) (H : Hp) (Q : Bool → Hp → Prop) (h : tT z (UbP.tB f fa fb) σ H Q) : tTest (tOp r (tP z fa) (tP z fb)) σ H Q := by
  obtain ⟨O, env, R, P⟩ := h
  refine tG_mono (post_bnd bkT R P) fun v H1 ⟨env1, w, R1, s1, so1, V, P1⟩ => ?_
  refine tG_mono (post_bnd bkT R1 P1) fun u H2 ⟨env2, w2, R2, s2, so2, V2, P2⟩ => ?_
  obtain ⟨d1, e1, P3⟩ := post_now P2
  obtain ⟨d2, e2, P4⟩ := post_now P3
  obtain ⟨r1, e3, P5⟩ := post_optE P4
  refine s _ σ H2 _ v u d1 d2 (.d (.bl r1)) R2.cl ((vmove s2 so2 V.1).now R2 e1) (V2.1.now R2 e2) (by show Option.map _ (f d1 d2) = _; rw [e3]; rfl) fun v' H' e V' N => ?_
  have V' : Dq z.K _ v' (.bl r1) := V'
  cases V'
  exact ⟨r1, rfl, P5 r1 H' (sameC e) (R2.mono (kp e)) (SameO.refl _) rfl⟩
theorem pe_pv (i : Nat) (hN : X.N[i]? = some x := by rfl) (hv : Vis X.env.scope x := by first | exact Or.inl rfl | exact Or.inr (Or.inl rfl) | exact Or.inr (Or.inr rfl)) (hd : (x == ("__debug__" : Str)) = false := by decide) (hcd : (x == ("__classdict__" : Str)) = false := by decide) : PE X (.Name x pos) (tP z (eV i)) := by
  refine PE_imp (pe_var hN hv hd hcd) fun σ H Q ⟨O, env, R, P⟩ => ?_
  unfold eV at P
  have go : ∀ v w, σ[i]? = some (some v) → VRel z.K (cells σ env O) σ H v w → (∀ c, w ≠ .f c) → PostG vE z O σ env H Q (.ok w env) → tVar i σ H Q := fun v w h V n P => by
    refine ⟨v, h, P v H (SameC.refl H) R (SameO.refl env) ⟨V, ?_⟩⟩
    cases w with
    | f c => exact absurd rfl (n c)
    | _ => exact ⟨True.intro, True.intro⟩
  have view : ∀ c, getO i env = some c → PostG vE z O σ env H Q (.ok (.o i) env) → tVar i σ H Q := fun c hc P => by
    obtain ⟨a, h1, h2⟩ := R.own i c hc
    exact go (.ref a) (.o i) h1 h1 (fun _ z => nomatch z) P
  cases e : env[i]? with
  | none => rw [e] at P; exact P.elim
  | some s =>
    rw [e] at P
    cases s with
    | dat d =>
      obtain ⟨v, h1, h2⟩ := R.dat i d e
      exact go v (.d d) h1 h2 (fun _ z => nomatch z) P
    | own c => exact view c (by unfold getO; rw [e]) P
    | par c => exact view c (by unfold getO; rw [e]) P
    | no => exact P.elim
    | ex x => exact P.elim
    | nst r => exact P.elim
end
end UbP
namespace UbP
open PySem PySem.Spec PyProof.Rows L2 UbM Ub
section
variable {K : PySem.W.Frag} {S : SS} {σ : L2.St} {H : Hp} {Q : VK} {x y : V} {X : Cx}
theorem dv_int {i : Int} (h : DV K S H x (.int i)) : x = .int i := by
  have h : Dq K _ x (.int i) := h
  cases h; rfl
theorem dv_bl {i : Bool} (h : DV K S H x (.bl i)) : x = .bl i := by
  have h : Dq K _ x (.bl i) := h
  cases h; rfl
theorem dv_str {i : Str} (h : DV K S H x (.str i)) : x = .str i := by
  have h : Dq K _ x (.str i) := h
  cases h; rfl
theorem dv_non (h : DV K S H x .non) : x = .non := by
  have h : Dq K _ x .non := h
  cases h; rfl
theorem dv_lst {ds : List D} (h : DV K S H x (.lst ds)) : ∃ a xs, x = .ref a ∧ H a = some (.lst xs) ∧ DqAll K (wo S H) xs ds := h
theorem dv_tup {ds : List D} (h : DV K S H x (.tup ds)) : ∃ a xs, x = .ref a ∧ SqT K H a xs ∧ DqAll K (wo S H) xs ds := by
  have h : Dq K _ x (.tup ds) := h
  cases h with
  | tup h1 h2 => exact ⟨_, _, rfl, Same.tseq wo_same h1, h2⟩
theorem dv_tupD {ds : List D} (h : DV K S H x (.tup ds)) : Dq K (wo S H) x (.tup ds) := h
theorem dv_lsf {ds : List D} (h : DV K S H x (.lsf ds)) : ∃ a xs, x = .ref a ∧ SqL K H a xs ∧ DqAll K (wo S H) xs ds := by
  have h : Dq K _ x (.lsf ds) := h
  cases h with
  | lsf h1 h2 => exact ⟨_, _, rfl, Same.seq wo_same h1, h2⟩
abbrev Kt (K : PySem.W.Frag) (S : SS) (σ : L2.St) (H : Hp) (w : Vw) (Q : VK) : Prop := ∀ v H', Same H H' → VRel K S σ H' v w → NewV H v w → Q v H'
theorem k_int {i : Int} {w : Vw} (e : vI i = some w) (k : Kt K S σ H w Q) : Q (.int i) H := by
  cases e
  exact k _ H same_refl (.int i) True.intro
theorem k_bl {i : Bool} {w : Vw} (e : vB i = some w) (k : Kt K S σ H w Q) : Q (.bl i) H := by
  cases e
  exact k _ H same_refl (.bl i) True.intro
theorem k_str {i : Str} (k : Kt K S σ H (.d (.str i)) Q) : Q (.str i) H := k _ H same_refl (.str i) True.intro
theorem k_d {d : D} {v : V} (h : Dq K (wo S H) v d) (k : Kt K S σ H (.d d) Q) : Q v H := k _ H same_refl h True.intro
theorem k_lst {xs : List V} {ds : List D} {p : Addr} (cl : Cl S H) (np : H p = none) (h : DqAll K (wo S H) xs ds) (k : Kt K S σ H (.f (.l ds)) Q) : Q (.ref p) (upd H p (.lst xs)) := by
  refine k _ _ (sameNew np) ⟨p, rfl, cl.new np, xs, upd_same, ?_⟩ fun a ea => by cases ea; exact np
  have e : wo (fun s => S s ∨ s = p) (upd H p (.lst xs)) = wo S H := by
    rw [wo_upd (.inr rfl)]
    funext b
    by_cases hb : S b
    · unfold wo; rw [if_pos (.inl hb), if_pos hb]
    · by_cases hp : b = p
      · rw [wo_out hb, hp, np]
        unfold wo
        rw [if_pos (.inr rfl)]
      · rw [wo_out hb, wo_out (fun z => z.elim hb hp)]
  rw [e]
  exact h
theorem k_tup {xs : List V} {ds : List D} {p : Addr} (cl : Cl S H) (np : H p = none) (h : DqAll K (wo S H) xs ds) (k : Kt K S σ H (.d (.tup ds)) Q) : Q (.ref p) (upd H p (.tup xs)) := by
  refine k _ _ (sameNew np) ?_ True.intro
  show Dq K (wo S _) _ _
  rw [wo_new (cl.new np)]
  exact .tup (.inl (.inl upd_same)) (h.mono (sameNew (wo_none np)))
theorem line_lim {n : Nat} (h : n ≤ LIM) : n ≤ sizeLine := by
  rw [sizeLine_eq]
  unfold LIM at h
  omega
def rAddA (K : PySem.W.Frag) : R2 := fun x y H Q => rI0 (fun i j => .int (i + j)) x y H Q ∨ ((∃ i j, x = .str i ∧ y = .str j ∧ i.length + j.length ≤ sizeLine ∧ Q (.str (i ++ j)) H) ∨ (rCat x y H Q ∨ rCatA K x y H Q))
theorem op_addA : OpR X (binaryOp .Add) (rAddA X.K) := OpR.or op_add (OpR.or op_add_str (OpR.or op_cat op_catA))
theorem os_add : OpS K addD (rAddA K) := by
  intro S σ H Q x y a b w cl ha hb e k
  unfold addD at e
  split at e
  · cases dv_int ha
    cases dv_int hb
    exact .inl ⟨_, _, rfl, rfl, k_int e k⟩
  · cases dv_str ha
    cases dv_str hb
    split at e
    · rename_i hl
      cases e
      exact .inr (.inl ⟨_, _, rfl, rfl, line_lim hl, k_str k⟩)
    · cases e
  · obtain ⟨p, xs, rfl, h1, h2⟩ := dv_lst ha
    obtain ⟨q, ys, rfl, g1, g2⟩ := dv_lst hb
    split at e
    · rename_i hl
      cases e
      exact .inr (.inr (.inl ⟨p, q, xs, ys, rfl, rfl, h1, g1, by rw [h2.len, g2.len]; exact line_lim hl, fun r nr => k_lst cl nr (h2.app g2) k⟩))
    · cases e
  · have da := dv_tupD ha
    have db := dv_tupD hb
    obtain ⟨p, xs, rfl, h1, h2⟩ := dv_tup ha
    obtain ⟨q, ys, rfl, g1, g2⟩ := dv_tup hb
    split at e
    · rename_i hl
      cases e
      refine .inr (.inr (.inr ⟨p, q, xs, ys, rfl, rfl, h1, g1, by rw [h2.len, g2.len]; exact line_lim hl, fun z => ?_, fun _ z => ?_, fun _ _ r nr => k_tup cl nr (h2.app g2) k⟩))
      · subst z
        cases h2
        exact k_d db k
      · subst z
        cases g2
        exact k_d da (by rw [List.append_nil] at k; exact k)
    · cases e
  · cases e
def rMulA : R2 := fun x y H Q => rI CMulG (fun i j => .int (i * j)) x y H Q ∨ rRep x y H Q
theorem op_mulA : OpR X (binaryOp .Mult) rMulA := OpR.or op_mulG op_rep
theorem os_mul : OpS K mulD rMulA := by
  intro S σ H Q x y a b w cl ha hb e k
  unfold mulD at e
  split at e
  · cases dv_int ha
    cases dv_int hb
    split at e
    · rename_i hl
      refine .inl ⟨_, _, rfl, rfl, ?_, k_int e k⟩
      unfold UbP.log2 smI at hl
      rcases Bool.or_eq_true_iff.mp hl with hl | hl
      · rcases Bool.or_eq_true_iff.mp hl with hl | hl
        · have hl := of_decide_eq_true hl
          exact .inl (.inl (by omega))
        · have hl := of_decide_eq_true hl
          exact .inl (.inr (by omega))
      · have hl := of_decide_eq_true hl
        exact .inr (by unfold CMulW; omega)
    · cases e
  · obtain ⟨p, xs, rfl, h1, h2⟩ := dv_lst ha
    cases dv_int hb
    split at e
    · rename_i hl
      cases e
      exact .inr ⟨p, _, xs, rfl, rfl, h1, by omega, by omega, by rw [h2.len]; exact line_lim hl.2.1, fun r nr => k_lst cl nr (h2.rep _) k⟩
    · cases e
  · cases e
theorem os_fdiv : OpS K fdivD (rI CDivX fun i j => .int (i.fdiv j)) := by
  intro S σ H Q x y a b w cl ha hb e k
  unfold fdivD at e
  split at e
  · cases dv_int ha
    cases dv_int hb
    split at e
    · rename_i hl
      exact ⟨_, _, rfl, rfl, hl, k_int e k⟩
    · cases e
  · cases e
theorem os_mod : OpS K modD (rI (fun _ j => j ≠ 0) fun i j => .int (i.fmod j)) := by
  intro S σ H Q x y a b w cl ha hb e k
  unfold modD at e
  split at e
  · cases dv_int ha
    cases dv_int hb
    split at e
    · rename_i hl
      exact ⟨_, _, rfl, rfl, hl, k_int e k⟩
    · cases e
  · cases e
theorem os_pow : OpS K powD (rI CPow fun i j => .int (i ^ j.toNat)) := by
  intro S σ H Q x y a b w cl ha hb e k
  unfold powD at e
  split at e
  · cases dv_int ha
    cases dv_int hb
    split at e
    · rename_i hl
      exact ⟨_, _, rfl, rfl, ⟨hl.1, by omega, hl.2.2⟩, k_int e k⟩
    · cases e
  · cases e
theorem os_cmpI {f : Int → Int → Bool} {r : R2} (h : ∀ i j H Q, Q (.bl (f i j)) H → r (.int i) (.int j) H Q) : OpS K (fun a b => (cmpI f a b).map fun k => .d (.bl k)) r := by
  intro S σ H Q x y a b w cl ha hb e k
  unfold cmpI at e
  dsimp only at e
  split at e
  · cases dv_int ha
    cases dv_int hb
    exact h _ _ _ _ (k_bl e k)
  · cases e
theorem os_lt : OpS K (fun a b => (ltD a b).map fun k => .d (.bl k)) (rI0 fun i j => .bl (decide (i < j))) := os_cmpI fun i j H Q q => ⟨i, j, rfl, rfl, q⟩
theorem os_le : OpS K (fun a b => (leD a b).map fun k => .d (.bl k)) (rI0 fun i j => .bl (decide (i ≤ j))) := os_cmpI fun i j H Q q => ⟨i, j, rfl, rfl, q⟩
theorem os_gt : OpS K (fun a b => (gtD a b).map fun k => .d (.bl k)) (rI0 fun i j => .bl (decide (j < i))) := os_cmpI fun i j H Q q => ⟨i, j, rfl, rfl, q⟩
theorem os_ge : OpS K (fun a b => (geD a b).map fun k => .d (.bl k)) (rI0 fun i j => .bl (decide (j ≤ i))) := os_cmpI fun i j H Q q => ⟨i, j, rfl, rfl, q⟩
mutual
/-- as the library's data -/
def py : D → PyData
  | .non => .none
  | .bl b => .bool b
  | .int i => .int i
  | .str x => .str x
  | .lst ds => .list (pyAll ds)
  | .tup ds => .tuple (pyAll ds)
  | .lsf _ => .none
  | .obj _ _ => .none
def pyAll : List D → List PyData
  | [] => []
  | d :: ds => py d :: pyAll ds
end
mutual
theorem py_sh : ∀ (d : D) (n : Nat), sh d n = true → (py d).canLay0 = true ∧ (py d).depth ≤ n
  | .non, n, _ => ⟨rfl, Nat.zero_le _⟩
  | .bl b, n, _ => ⟨rfl, Nat.zero_le _⟩
  | .int i, n, _ => ⟨rfl, Nat.zero_le _⟩
  | .str x, n, h => ⟨h, Nat.zero_le _⟩
  | .lst ds, n, h => by
    unfold sh at h
    obtain ⟨h0, h1⟩ := Bool.and_eq_true_iff.mp h
    have h0 : 0 < n := of_decide_eq_true h0
    obtain ⟨g1, g2⟩ := py_shAll ds _ h1
    exact ⟨g1, by show PyData.depthAll (pyAll ds) + 1 ≤ n; omega⟩
  | .tup ds, n, h => by
    unfold sh at h
    obtain ⟨h0, h1⟩ := Bool.and_eq_true_iff.mp h
    have h0 : 0 < n := of_decide_eq_true h0
    obtain ⟨g1, g2⟩ := py_shAll ds _ h1
    exact ⟨g1, by show PyData.depthAll (pyAll ds) + 1 ≤ n; omega⟩
  | .lsf _, n, h => by unfold sh at h; cases h
  | .obj _ _, n, h => by unfold sh at h; cases h
theorem py_shAll : ∀ (ds : List D) (n : Nat), shAll ds n = true → PyData.canLayAll0 (pyAll ds) = true ∧ PyData.depthAll (pyAll ds) ≤ n
  | [], n, _ => ⟨rfl, Nat.zero_le _⟩
  | d :: ds, n, h => by
    unfold shAll at h
    obtain ⟨h0, h1⟩ := Bool.and_eq_true_iff.mp h
    obtain ⟨f1, f2⟩ := py_sh d n h0
    obtain ⟨g1, g2⟩ := py_shAll ds n h1
    refine ⟨?_, ?_⟩
    · show (PyData.canLay0 (py d) && PyData.canLayAll0 (pyAll ds)) = true
      rw [f1, g1]
      rfl
    · show max (PyData.depth (py d)) (PyData.depthAll (pyAll ds)) ≤ n
      omega
end
mutual
theorem py_eqv : ∀ (d e : D) (n m : Nat), sh d n = true → sh e m = true → PyData.eqv (py d) (py e) = eqv d e
  | .lsf _, _, n, m, h, _ => by unfold sh at h; cases h
  | .obj _ _, _, n, m, h, _ => by unfold sh at h; cases h
  | d, .lsf _, n, m, _, h => by unfold sh at h; cases h
  | d, .obj _ _, n, m, _, h => by unfold sh at h; cases h
  | .lst xs, .lst ys, n, m, h, g => by
    unfold sh at h g
    have z := py_eqvAll xs ys _ _ (Bool.and_eq_true_iff.mp h).2 (Bool.and_eq_true_iff.mp g).2
    show PyData.eqvAll (pyAll xs) (pyAll ys) = eqv (.lst xs) (.lst ys)
    rw [z]
    unfold eqv
    rfl
  | .tup xs, .tup ys, n, m, h, g => by
    unfold sh at h g
    have z := py_eqvAll xs ys _ _ (Bool.and_eq_true_iff.mp h).2 (Bool.and_eq_true_iff.mp g).2
    show PyData.eqvAll (pyAll xs) (pyAll ys) = eqv (.tup xs) (.tup ys)
    rw [z]
    unfold eqv
    rfl
  | .non, .non, _, _, _, _ => by simp [py, PyData.eqv, eqv]
  | .non, .bl _, _, _, _, _ => by simp [py, PyData.eqv, eqv]
  | .non, .int _, _, _, _, _ => by simp [py, PyData.eqv, eqv]
  | .non, .str _, _, _, _, _ => by simp [py, PyData.eqv, eqv]
  | .non, .lst _, _, _, _, _ => by simp [py, PyData.eqv, eqv]
  | .non, .tup _, _, _, _, _ => by simp [py, PyData.eqv, eqv]
  | .bl _, .non, _, _, _, _ => by simp [py, PyData.eqv, eqv]
  | .bl _, .bl _, _, _, _, _ => by simp [py, PyData.eqv, eqv]
  | .bl _, .int _, _, _, _, _ => by simp [py, PyData.eqv, eqv]
  | .bl _, .str _, _, _, _, _ => by simp [py, PyData.eqv, eqv]
  | .bl _, .lst _, _, _, _, _ => by simp [py, PyData.eqv, eqv]
  | .bl _, .tup _, _, _, _, _ => by simp [py, PyData.eqv, eqv]
  | .int _, .non, _, _, _, _ => by simp [py, PyData.eqv, eqv]
  | .int _, .bl _, _, _, _, _ => by simp [py, PyData.eqv, eqv]
  | .int _, .int _, _, _, _, _ => by simp [py, PyData.eqv, eqv]
  | .int _, .str _, _, _, _, _ => by simp [py, PyData.eqv, eqv]
  | .int _, .lst _, _, _, _, _ => by simp [py, PyData.eqv, eqv]
  | .int _, .tup _, _, _, _, _ => by simp [py, PyData.eqv, eqv]
  | .str _, .non, _, _, _, _ => by simp [py, PyData.eqv, eqv]
  | .str _, .bl _, _, _, _, _ => by simp [py, PyData.eqv, eqv]
  | .str _, .int _, _, _, _, _ => by simp [py, PyData.eqv, eqv]
  | .str _, .str _, _, _, _, _ => by simp [py, PyData.eqv, eqv]
  | .str _, .lst _, _, _, _, _ => by simp [py, PyData.eqv, eqv]
  | .str _, .tup _, _, _, _, _ => by simp [py, PyData.eqv, eqv]
  | .lst _, .non, _, _, _, _ => by simp [py, PyData.eqv, eqv]
  | .lst _, .bl _, _, _, _, _ => by simp [py, PyData.eqv, eqv]
  | .lst _, .int _, _, _, _, _ => by simp [py, PyData.eqv, eqv]
  | .lst _, .str _, _, _, _, _ => by simp [py, PyData.eqv, eqv]
  | .lst _, .tup _, _, _, _, _ => by simp [py, PyData.eqv, eqv]
  | .tup _, .non, _, _, _, _ => by simp [py, PyData.eqv, eqv]
  | .tup _, .bl _, _, _, _, _ => by simp [py, PyData.eqv, eqv]
  | .tup _, .int _, _, _, _, _ => by simp [py, PyData.eqv, eqv]
  | .tup _, .str _, _, _, _, _ => by simp [py, PyData.eqv, eqv]
  | .tup _, .lst _, _, _, _, _ => by simp [py, PyData.eqv, eqv]
theorem py_eqvAll : ∀ (xs ys : List D) (n m : Nat), shAll xs n = true → shAll ys m = true → PyData.eqvAll (pyAll xs) (pyAll ys) = eqvAll xs ys
  | [], [], _, _, _, _ => by simp [pyAll, PyData.eqvAll, eqvAll]
  | [], _ :: _, _, _, _, _ => by simp [pyAll, PyData.eqvAll, eqvAll]
  | _ :: _, [], _, _, _, _ => by simp [pyAll, PyData.eqvAll, eqvAll]
  | x :: xs, y :: ys, n, m, h, g => by
    unfold shAll at h g
    obtain ⟨h0, h1⟩ := Bool.and_eq_true_iff.mp h
    obtain ⟨g0, g1⟩ := Bool.and_eq_true_iff.mp g
    unfold pyAll PyData.eqvAll eqvAll
    rw [py_eqv x y _ _ h0 g0, py_eqvAll xs ys _ _ h1 g1]
end
mutual
theorem Dq.dp : ∀ (d : D) (v : V) (n : Nat), sh d n = true → Dq K H v d → Dp K H v (py d)
  | .non, _, _, _, h => by cases h; exact .non
  | .bl b, _, _, _, h => by cases h; exact .bl b
  | .int i, _, _, _, h => by cases h; exact .int i
  | .str x, _, _, _, h => by cases h; exact .str x
  | .lst ds, _, n, g, h => by
    unfold sh at g
    cases h with
    | lst h1 h2 => exact .lst (.inl (.inl h1)) (Dq.dpAll ds _ _ (Bool.and_eq_true_iff.mp g).2 h2)
  | .tup ds, _, n, g, h => by
    unfold sh at g
    cases h with
    | tup h1 h2 => exact .tup h1 (Dq.dpAll ds _ _ (Bool.and_eq_true_iff.mp g).2 h2)
  | .lsf _, _, _, g, _ => by unfold sh at g; cases g
  | .obj _ _, _, _, g, _ => by unfold sh at g; cases g
theorem Dq.dpAll : ∀ (ds : List D) (vs : List V) (n : Nat), shAll ds n = true → DqAll K H vs ds → DpAll K H vs (pyAll ds)
  | [], _, _, _, h => by cases h; exact .nil
  | d :: ds, _, n, g, h => by
    unfold shAll at g
    obtain ⟨g0, g1⟩ := Bool.and_eq_true_iff.mp g
    cases h with
    | cons h1 h2 => exact .cons (Dq.dp d _ _ g0 h1) (Dq.dpAll ds _ _ g1 h2)
end
theorem shaped_of {d : D} (h : sh d 60 = true) : SeqAt.shaped (py d) = true := by
  obtain ⟨h1, h2⟩ := py_sh d 60 h
  unfold SeqAt.shaped
  rw [h1, decide_eq_true (by omega)]
  rfl
theorem str_beq {a b : Str} : (a == b) = decide (a = b) := Bool.beq_eq_decide_eq a b
/-- == of any two -/
theorem rdEq {r : R2} {neg : Bool} (hd : ∀ d e, Dp K H x d → Dp K H y e → SeqAt.shaped d = true → SeqAt.shaped e = true → Q (.bl (if neg then !(PyData.eqv d e) else PyData.eqv d e)) H → r x y H Q)
    (hs : L2.scal x y = true → Q (.bl (if neg then !(decide (x = y)) else decide (x = y))) H → r x y H Q) {a b : D} {k : Bool} (ha : DV K S H x a) (hb : DV K S H y b) (e : eqD a b = some k) (q : Q (.bl (if neg then !k else k)) H) : r x y H Q := by
  unfold eqD at e
  split at e
  · rename_i hc
    have ek : eqv a b = k := Option.some.inj e
    subst ek
    by_cases hsh : (sh a 60 && sh b 60) = true
    · obtain ⟨s1, s2⟩ := Bool.and_eq_true_iff.mp hsh
      exact hd _ _ (Dq.dp a x 60 s1 ha.dq) (Dq.dp b y 60 s2 hb.dq) (shaped_of s1) (shaped_of s2) (by rw [py_eqv a b 60 60 s1 s2]; exact q)
    · have hc : (UbP.scal a && UbP.scal b) = true := by
        rcases Bool.or_eq_true_iff.mp hc with z | z
        · exact z
        · exact absurd z hsh
      obtain ⟨c1, c2⟩ := Bool.and_eq_true_iff.mp hc
      have str1 : (∃ s, a = .str s) ∨ ∃ s, b = .str s := by
        cases a <;> cases b <;> first
          | exact .inl ⟨_, rfl⟩
          | exact .inr ⟨_, rfl⟩
          | (exfalso; revert hsh; simp [sh]; done)
          | (exfalso; revert c1; simp [UbP.scal]; done)
          | (exfalso; revert c2; simp [UbP.scal]; done)
      have fin : L2.scal x y = true → decide (x = y) = eqv a b → r x y H Q := fun h1 h2 => hs h1 (by rw [h2]; exact q)
      rcases str1 with ⟨s, rfl⟩ | ⟨s, rfl⟩
      · cases dv_str ha
        cases b with
        | non => cases dv_non hb; exact fin rfl (by simp [eqv])
        | bl b => cases dv_bl hb; exact fin rfl (by simp [eqv])
        | int b => cases dv_int hb; exact fin rfl (by simp [eqv])
        | str b => cases dv_str hb; exact fin rfl (by simp [eqv, str_beq])
        | _ => revert c2; simp [UbP.scal]
      · cases dv_str hb
        cases a with
        | non => cases dv_non ha; exact fin rfl (by simp [eqv])
        | bl b => cases dv_bl ha; exact fin rfl (by simp [eqv])
        | int b => cases dv_int ha; exact fin rfl (by simp [eqv])
        | str b => cases dv_str ha; exact fin rfl (by simp [eqv, str_beq])
        | _ => revert c1; simp [UbP.scal]
  · cases e
theorem os_eq : OpS K (fun a b => (eqD a b).map fun k => .d (.bl k)) (rEqA K) := by
  intro S σ H Q x y a b w cl ha hb e k
  obtain ⟨c, e1, e2⟩ := Option.map_eq_some_iff.mp e
  subst e2
  exact rdEq (neg := false) (fun d e h1 h2 s1 s2 q => .inr ⟨d, e, h1, h2, s1, s2, q⟩) (fun h q => .inl ⟨h, q⟩) ha hb e1 (k_bl rfl k)
theorem os_ne : OpS K (fun a b => (neD a b).map fun k => .d (.bl k)) (rNeA K) := by
  intro S σ H Q x y a b w cl ha hb e k
  unfold neD at e
  obtain ⟨c, e1, e2⟩ := Option.map_eq_some_iff.mp e
  subst e2
  obtain ⟨c', e3, e4⟩ := Option.map_eq_some_iff.mp e1
  subst e4
  exact rdEq (neg := true) (fun d e h1 h2 s1 s2 q => .inr ⟨d, e, h1, h2, s1, s2, q⟩) (fun h q => .inl ⟨h, q⟩) ha hb e3 (k_bl rfl k)
def rIsA : R2 := fun x y H Q => rIsN1 x y H Q ∨ ∃ a b, x = .bl a ∧ y = .bl b ∧ Q (.bl (decide (a = b))) H
def rNotA : R2 := fun x y H Q => rNotN1 x y H Q ∨ ∃ a b, x = .bl a ∧ y = .bl b ∧ Q (.bl (!decide (a = b))) H
theorem op_isA {X : Cx} : OpR X (compareOp .Is) rIsA := fun pins s σ H x y v u Q I rx ry h => h.elim (op_isNo pins s σ H x y v u Q I rx ry) (op_is_bl pins s σ H x y v u Q I rx ry)
theorem op_notA {X : Cx} : OpR X (compareOp .IsNot) rNotA := fun pins s σ H x y v u Q I rx ry h => h.elim (op_notNo pins s σ H x y v u Q I rx ry) (op_isnot_bl pins s σ H x y v u Q I rx ry)
theorem os_isNo : OpS K (fun a b => (isNoD a b).map fun k => .d (.bl k)) rIsA := by
  intro S σ H Q x y a b w cl ha hb e k
  cases b with
  | non =>
    cases dv_non hb
    refine .inl ⟨rfl, ?_⟩
    have e0 : decide (x = .non) = isN a := by
      cases a with
      | non => cases dv_non ha; rfl
      | bl _ => cases dv_bl ha; rfl
      | int _ => cases dv_int ha; rfl
      | str _ => cases dv_str ha; rfl
      | lst _ => obtain ⟨_, _, rfl, _⟩ := dv_lst ha; rfl
      | lsf _ => obtain ⟨_, _, rfl, _⟩ := dv_lsf ha; rfl
      | tup _ => obtain ⟨_, _, rfl, _⟩ := dv_tup ha; rfl
      | obj _ _ => obtain ⟨_, _, _, rfl, _⟩ := ha; rfl
    rw [e0]
    exact k_bl e k
  | bl b =>
    cases dv_bl hb
    cases a with
    | bl c =>
      cases dv_bl ha
      exact .inr ⟨_, _, rfl, rfl, k_bl e k⟩
    | _ => cases e
  | _ => cases e
theorem os_notNo : OpS K (fun a b => (notNoD a b).map fun k => .d (.bl k)) rNotA := by
  intro S σ H Q x y a b w cl ha hb e k
  cases b with
  | non =>
    cases dv_non hb
    refine .inl ⟨rfl, ?_⟩
    have e0 : decide (x = .non) = isN a := by
      cases a with
      | non => cases dv_non ha; rfl
      | bl _ => cases dv_bl ha; rfl
      | int _ => cases dv_int ha; rfl
      | str _ => cases dv_str ha; rfl
      | lst _ => obtain ⟨_, _, rfl, _⟩ := dv_lst ha; rfl
      | lsf _ => obtain ⟨_, _, rfl, _⟩ := dv_lsf ha; rfl
      | tup _ => obtain ⟨_, _, rfl, _⟩ := dv_tup ha; rfl
      | obj _ _ => obtain ⟨_, _, _, rfl, _⟩ := ha; rfl
    rw [e0]
    exact k_bl e k
  | bl b =>
    cases dv_bl hb
    cases a with
    | bl c =>
      cases dv_bl ha
      exact .inr ⟨_, _, rfl, rfl, k_bl e k⟩
    | _ => cases e
  | _ => cases e
theorem flat_v {d : D} {v : V} (h : Dq K H v d) (f : flat d = true) : flatV v = true := by cases h <;> first | rfl | (exfalso; revert f; simp [flat, UbP.scal]; done)
theorem flat_eq {d e : D} {v u : V} (h : Dq K H v d) (g : Dq K H u e) (f1 : flat d = true) (f2 : flat e = true) : eqV v u = eqv d e := by
  cases h <;> cases g <;> first | (simp [eqV, eqv]; done) | (exfalso; revert f1; simp [flat, UbP.scal]; done) | (exfalso; revert f2; simp [flat, UbP.scal]; done)
theorem flat_all : ∀ {vs : List V} {ds : List D}, DqAll K H vs ds → ds.all flat = true → vs.all flatV = true
  | _, _, .nil, _ => rfl
  | _, _, .cons h1 h2, f => by
    rw [List.all_cons] at f ⊢
    obtain ⟨f1, f2⟩ := Bool.and_eq_true_iff.mp f
    rw [flat_v h1 f1, flat_all h2 f2]
    rfl
theorem flat_mem {d : D} {v : V} (h : Dq K H v d) (f : flat d = true) : ∀ {vs : List V} {ds : List D}, DqAll K H vs ds → ds.all flat = true → inV v vs = mem d ds
  | _, _, .nil, _ => rfl
  | _, _, .cons h1 h2, g => by
    rw [List.all_cons] at g
    obtain ⟨f1, f2⟩ := Bool.and_eq_true_iff.mp g
    have ih := flat_mem h f h2 f2
    unfold inV mem at ih ⊢
    rw [List.any_cons, List.any_cons, ih, flat_eq h1 h f1 f]
theorem py_mem {d : D} (hd : sh d 40 = true) : ∀ {ds : List D} {n : Nat}, shAll ds n = true → ((pyAll ds).any fun z => PyData.eqv z (py d)) = mem d ds
  | [], _, _ => rfl
  | e :: ds, n, h => by
    unfold shAll at h
    obtain ⟨h1, h2⟩ := Bool.and_eq_true_iff.mp h
    have ih := py_mem hd h2
    unfold mem at ih ⊢
    show (PyData.eqv (py e) (py d) || (pyAll ds).any fun z => PyData.eqv z (py d)) = _
    rw [List.any_cons, ih, py_eqv e d n 40 h1 hd]
/-- a sign in a text, a thing in a list or a tuple -/
def rInB (K : PySem.W.Frag) (r : Bool) : R2 := fun x y H Q => UbIn.rInA K r x y H Q ∨ ∃ (c : Nat) (z : Str), x = .str ⟨#[c]⟩ ∧ y = .str z ∧ Q (.bl (if r then !decide (c ∈ z.cps.toList) else decide (c ∈ z.cps.toList))) H
theorem op_inB {X : Cx} (hu : X.A.units + 64 < cLine) : OpR X (compareOp .In) (rInB X.K false) := OpR.or (UbIn.op_inA hu) op_in_sign
theorem op_ninB {X : Cx} (hu : X.A.units + 64 < cLine) : OpR X (compareOp .NotIn) (rInB X.K true) := OpR.or (UbIn.op_notInA hu) op_notIn_sign
theorem sign_eq {x : Str} {c : Nat} (h : sign? x = some c) : x = ⟨#[c]⟩ := by
  unfold sign? at h
  obtain ⟨⟨l⟩⟩ := x
  dsimp only at h
  match l, h with
  | [d], h => cases h; rfl
theorem rdIn {r : Bool} {a b : D} {k : Bool} (ha : DV K S H x a) (hb : DV K S H y b) (e : inD a b = some k) (q : Q (.bl (if r then !k else k)) H) : rInB K r x y H Q := by
  unfold inD at e
  split at e
  · split at e
    · cases dv_str ha
      cases dv_str hb
      obtain ⟨c, e1, rfl⟩ := Option.map_eq_some_iff.mp e
      exact .inr ⟨c, _, by rw [sign_eq e1], rfl, q⟩
    · cases e
  · rename_i ds
    split at e
    · rename_i hf
      cases e
      rcases Bool.or_eq_true_iff.mp hf with hf | hf
      · obtain ⟨p, xs, rfl, h1, h2⟩ := dv_lst hb
        obtain ⟨f1, f2⟩ := Bool.and_eq_true_iff.mp hf
        exact .inl (.inl ⟨p, xs, rfl, .inl (.inl (.inl h1)), flat_v ha.dq f1, flat_all h2 f2, by rw [flat_mem (Dq.mono same_refl (K := K) (H := H) ha.dq) f1 (h2.mono wo_same) f2]; exact q⟩)
      · obtain ⟨f1, f2⟩ := Bool.and_eq_true_iff.mp hf
        have s2 : sh (.lst ds) 60 = true := by unfold sh; rw [f2]; rfl
        have d2 := Dq.dp (.lst ds) y 60 s2 hb.dq
        have c2 := (py_sh (.lst ds) 60 s2).1
        have c1 := py_sh a 40 f1
        exact .inl (.inr ⟨py a, pyAll ds, Dq.dp a x 40 f1 ha.dq, .inl d2, c1.1, c2, by have := c1.2; omega, by rw [py_mem f1 f2]; exact q⟩)
    · cases e
  · rename_i ds
    split at e
    · rename_i hf
      cases e
      rcases Bool.or_eq_true_iff.mp hf with hf | hf
      · obtain ⟨p, xs, rfl, h1, h2⟩ := dv_tup hb
        obtain ⟨f1, f2⟩ := Bool.and_eq_true_iff.mp hf
        exact .inl (.inl ⟨p, xs, rfl, .inr h1, flat_v ha.dq f1, flat_all h2 f2, by rw [flat_mem ha.dq f1 (h2.mono wo_same) f2]; exact q⟩)
      · obtain ⟨f1, f2⟩ := Bool.and_eq_true_iff.mp hf
        have s2 : sh (.tup ds) 60 = true := by unfold sh; rw [f2]; rfl
        have d2 := Dq.dp (.tup ds) y 60 s2 hb.dq
        have c2 := (py_sh (.tup ds) 60 s2).1
        have c1 := py_sh a 40 f1
        exact .inl (.inr ⟨py a, pyAll ds, Dq.dp a x 40 f1 ha.dq, .inr d2, c1.1, c2, by have := c1.2; omega, by rw [py_mem f1 f2]; exact q⟩)
    · cases e
  · cases e
theorem os_in : OpS K (fun a b => (inD a b).map fun k => .d (.bl k)) (rInB K false) := by
  intro S σ H Q x y a b w cl ha hb e k
  obtain ⟨c, e1, e2⟩ := Option.map_eq_some_iff.mp e
  subst e2
  exact rdIn (r := false) ha hb e1 (k_bl rfl k)
theorem os_nin : OpS K (fun a b => (ninD a b).map fun k => .d (.bl k)) (rInB K true) := by
  intro S σ H Q x y a b w cl ha hb e k
  unfold ninD at e
  obtain ⟨c, e1, e2⟩ := Option.map_eq_some_iff.mp e
  subst e2
  obtain ⟨c', e3, e4⟩ := Option.map_eq_some_iff.mp e1
  subst e4
  exact rdIn (r := true) ha hb e3 (k_bl rfl k)
theorem atL_V {xs : List V} {ds : List D} {i : Int} {d : D} (h : DqAll K H xs ds) (e : atL ds i = some d) : ∃ v, atI xs i = some v ∧ Dq K H v d := by
  unfold atL at e
  unfold atI
  obtain ⟨j, e1, e2⟩ := Option.bind_eq_some_iff.mp e
  obtain ⟨v, h1, h2⟩ := h.get e2
  refine ⟨v, ?_, h2⟩
  rw [h.len]
  have e3 : ixN ds.length i = some j := e1
  rw [e3]
  exact h1
theorem os_ix : OpS K ixD (rIx K) := by
  intro S σ H Q x y a b w cl ha hb e k
  unfold ixD at e
  split at e
  · cases dv_int hb
    obtain ⟨p, xs, rfl, h1, h2⟩ := dv_lst ha
    obtain ⟨d, e1, rfl⟩ := Option.map_eq_some_iff.mp e
    obtain ⟨v, e2, h3⟩ := atL_V h2 e1
    exact .inl ⟨p, xs, _, v, rfl, rfl, .inl (.inl h1), e2, k_d h3 k⟩
  · cases dv_int hb
    obtain ⟨p, xs, rfl, h1, h2⟩ := dv_lsf ha
    obtain ⟨d, e1, rfl⟩ := Option.map_eq_some_iff.mp e
    obtain ⟨v, e2, h3⟩ := atL_V h2 e1
    exact .inl ⟨p, xs, _, v, rfl, rfl, h1, e2, k_d h3 k⟩
  · cases dv_int hb
    obtain ⟨p, xs, rfl, h1, h2⟩ := dv_tup ha
    obtain ⟨d, e1, rfl⟩ := Option.map_eq_some_iff.mp e
    obtain ⟨v, e2, h3⟩ := atL_V h2 e1
    exact .inr (.inl ⟨p, xs, _, v, rfl, rfl, h1, e2, k_d h3 k⟩)
  · cases dv_int hb
    cases dv_str ha
    split at e
    · rename_i hl
      obtain ⟨d, e1, rfl⟩ := Option.map_eq_some_iff.mp e
      exact .inr (.inr ⟨_, _, d, rfl, rfl, line_lim hl, e1, k_str k⟩)
    · cases e
  · cases e
theorem cut_V {xs : List V} {ds : List D} {lo hi : Option Int} (h : DqAll K H xs ds) : DqAll K H (cutV xs lo hi) (cut ds lo hi) := by
  unfold cutV cut
  rw [h.len]
  exact (h.drop _).take _
theorem tru_V {a : D} {k : Bool} (h : DV K S H x a) (e : tru a = some k) : TruV K x H k := by
  cases a with
  | non => cases dv_non h; cases e; exact rfl
  | bl b => cases dv_bl h; cases e; exact rfl
  | int i => cases dv_int h; cases e; exact rfl
  | str s =>
    cases dv_str h
    have e : (if s.length ≤ 1000000 then some (decide (s.length ≠ 0)) else none) = some k := e
    split at e
    · rename_i hl
      cases e
      refine ⟨line_lim hl, ?_⟩
      by_cases z : s.length = 0
      · rw [z]; rfl
      · rw [decide_eq_true (show s.length ≠ 0 from z)]
        exact (bne_iff_ne.mpr (by omega)).symm
    · cases e
  | lst ds =>
    obtain ⟨p, xs, rfl, h1, h2⟩ := dv_lst h
    cases e
    exact .inl ⟨xs, .inl (.inl h1), by cases h2 <;> rfl⟩
  | lsf ds =>
    obtain ⟨p, xs, rfl, h1, h2⟩ := dv_lsf h
    cases e
    exact .inl ⟨xs, h1, by cases h2 <;> rfl⟩
  | tup ds =>
    obtain ⟨p, xs, rfl, h1, h2⟩ := dv_tup h
    cases e
    exact .inr (.inl ⟨xs, h1, by cases h2 <;> rfl⟩)
  | obj _ _ => cases e
end
end UbP
namespace UbP
open PySem PySem.Spec PyProof.Rows L2 UbM Ub
section
variable {X : Cx} {z : Z} {e a b c : Expr} {es rest : List Expr} {fa fb fc : M Vw} {ft fu : M Bool} {pos p p2 : Pos} {x : Str} {σ : L2.St} {H : Hp} {Q : VK}
theorem tc_of {v : V} {d : D} (hd : ∀ H, Dq z.K H v d) (h : tP z (eC d) σ H Q) : Q v H := by
  obtain ⟨O, env, R, P⟩ := h
  exact P v H (SameC.refl H) R (SameO.refl env) ⟨hd _, True.intro, True.intro⟩
theorem pu_int {i : Int} {j} : PE X (.Constant (.int i) j pos) (tP z (eC (.int i))) := PE_imp pe_int fun σ H Q h => tc_of (fun _ => .int i) h
theorem pu_bl {i : Bool} {j} : PE X (.Constant (.bool i) j pos) (tP z (eC (.bl i))) := PE_imp pe_bl fun σ H Q h => tc_of (fun _ => .bl i) h
theorem pu_str {i : Str} {j} : PE X (.Constant (.str i) j pos) (tP z (eC (.str i))) := PE_imp pe_str fun σ H Q h => tc_of (fun _ => .str i) h
theorem pu_non {j} : PE X (.Constant .none j pos) (tP z (eC .non)) := PE_imp pe_non fun σ H Q h => tc_of (fun _ => .non) h
theorem pu_glob {v : V} {u : Value} {d : D} (hd : ∀ H, Dq z.K H v d) (hg : Gl X x) (hm : X.mg x = some u) (r : RelV v u) (hdb : (x == ("__debug__" : Str)) = false := by decide) : PE X (.Name x pos) (tP z (eC d)) := PE_imp (pe_glob hg hm r hdb) fun σ H Q h => tc_of hd h
theorem pu_op {op : Operator} {f : D → D → Option Vw} {r : R2} (s : OpS z.K f r) (ho : OpR X (binaryOp op) r) (ha : PE X a (tP z fa)) (hb : PE X b (tP z fb)) : PE X (.BinOp a op b pos) (tP z (eB f fa fb)) := PE_imp (pe_op ho ha hb) (pu_bin s)
theorem pu_cmp {op : CmpOp} {f : D → D → Option Bool} {r : R2} (s : OpS z.K (fun a b => (f a b).map fun k => .d (.bl k)) r) (ho : OpR X (compareOp op) r) (ha : PE X a (tP z fa)) (hb : PE X b (tP z fb)) (hm : behindInMarks op b = false) : PE X (.Compare a [op] [b] pos) (tP z (eB (cB f) fa fb)) := PE_imp (pe_cmpR ho ha hb hm) (pu_bin s)
theorem pu_tcmp {op : CmpOp} {f : D → D → Option Bool} {r : R2} (s : OpS z.K (fun a b => (f a b).map fun k => .d (.bl k)) r) (ho : OpR X (compareOp op) r) (ha : PE X a (tP z fa)) (hb : PE X b (tP z fb)) (hm : behindInMarks op b = false) : PT X (.Compare a [op] [b] pos) (tT z (UbP.tB f fa fb)) := PT_imp (pt_cmpR ho ha hb hm) (pu_tbin s)
theorem pu_ix {f : D → D → Option Vw} {r : R2} (s : OpS z.K f r) (ho : IxR X r) (ha : PE X a (tP z fa)) (hb : PE X b (tP z fb)) (hs : PlainIx b) : PE X (.Subscript a b pos) (tP z (eB f fa fb)) := PE_imp (pe_ix ho ha hb hs) (pu_bin s)
theorem post_tru {α β : Type} {R1 : VRt α β} {O : SS} {env : Env} {Q : β → Hp → Prop} {w : Vw} {k : Bool → M α} {v : V} (R : RelT z O H σ env) (V : VRel z.K (cells σ env O) σ H v w) (P : PostG R1 z O σ env H Q (bnd (truM w) k env)) : ∃ b, TruV z.K v H b ∧ PostG R1 z O σ env H Q (k b env) := by
  unfold truM bnd nowM at P
  cases e : w.now env with
  | none => rw [e] at P; exact P.elim
  | some d =>
    rw [e] at P
    cases e2 : tru d with
    | none =>
      dsimp only [optM] at P
      rw [e2] at P
      exact P.elim
    | some b =>
      dsimp only [optM] at P
      rw [e2] at P
      exact ⟨b, tru_V (V.now R e) e2, P⟩
theorem post_cont {env : Env} {O : SS} {f : M Vw} (R : RelT z O H σ env) (P : PostG vE z O σ env H Q (f env)) : tP z f σ H Q := ⟨O, env, R, P⟩
theorem dull_rel {O : SS} {env : Env} {v : V} {w : Vw} (h : VRel z.K (cells σ env O) σ H v w) : vE z O env σ H H v w.dull := by
  cases w with
  | d x => exact ⟨h, True.intro, True.intro⟩
  | o k => exact ⟨h, True.intro, True.intro⟩
  | f c => exact ⟨VRel.stay h rfl, True.intro, True.intro⟩
theorem post_dull {O : SS} {env : Env} {w : Vw} {v : V} (R : RelT z O H σ env) (hV : VRel z.K (cells σ env O) σ H v w) (P : PostG vE z O σ env H Q ((ret w.dull : M Vw) env)) : Q v H := P v H (SameC.refl H) R (SameO.refl _) (dull_rel hV)
theorem pu_and (hK : X.K = z.K) (ha : PE X a (tP z fa)) (hb : PE X (.BoolOp .And (b :: rest) pos) (tP z fb)) : PE X (.BoolOp .And (a :: b :: rest) pos) (tP z (eAnd fa fb)) := PE_imp (pe_andT ha hb) fun σ H Q ⟨O, env, R, P⟩ =>
  tG_mono (post_bnd bkE R P) fun v H1 ⟨env1, w, R1, s1, so1, V, P1⟩ => by
    obtain ⟨k, t, P2⟩ := post_tru R1 V.1 P1
    refine ⟨k, by rw [hK]; exact t, ?_⟩
    cases k with
    | true => exact post_cont R1 P2
    | false => exact post_dull R1 V.1 P2
theorem pu_or (hK : X.K = z.K) (ha : PE X a (tP z fa)) (hb : PE X (.BoolOp .Or (b :: rest) pos) (tP z fb)) : PE X (.BoolOp .Or (a :: b :: rest) pos) (tP z (eOr fa fb)) := PE_imp (pe_orT ha hb) fun σ H Q ⟨O, env, R, P⟩ =>
  tG_mono (post_bnd bkE R P) fun v H1 ⟨env1, w, R1, s1, so1, V, P1⟩ => by
    obtain ⟨k, t, P2⟩ := post_tru R1 V.1 P1
    refine ⟨k, by rw [hK]; exact t, ?_⟩
    cases k with
    | true => exact post_dull R1 V.1 P2
    | false => exact post_cont R1 P2
theorem pu_one {op} (ha : PE X a (tP z fa)) : PE X (.BoolOp op [a] pos) (tP z fa) := pe_one ha
theorem pu_truth (hK : X.K = z.K) (ha : PE X a (tP z fa)) (he : ∀ whole, isTrue a X.env whole = (do let v ← whole; standAt a.pos; holding [v] (truthy v)) := by intro _; rfl) : PT X a (tT z (tE fa)) := PT_imp (pt_truth ha he) fun σ H Q ⟨O, env, R, P⟩ =>
  tG_mono (post_bnd bkT R P) fun v H1 ⟨env1, w, R1, s1, so1, V, P1⟩ => by
    have P1 : PostG vT z O σ env1 H1 Q (bnd (truM w) ret env1) := by
      have e : bnd (truM w) ret env1 = truM w env1 := by
        unfold bnd
        cases truM w env1 <;> rfl
      rw [e]
      exact P1
    obtain ⟨k, t, P2⟩ := post_tru R1 V.1 P1
    exact ⟨k, by rw [hK]; exact t, P2 k H1 (SameC.refl H1) R1 (SameO.refl _) rfl⟩
theorem pu_tnot (ha : PT X a (tT z ft)) : PT X (.UnaryOp .Not a pos) (tT z (UbP.tNot ft)) := PT_imp (pt_not ha) fun σ H Q ⟨O, env, R, P⟩ =>
  tG_mono (post_bnd bkT R P) fun b H1 ⟨env1, w, R1, s1, so1, V, P1⟩ => by
    cases V
    exact P1 (!b) H1 (SameC.refl H1) R1 (SameO.refl _) rfl
theorem pu_wand1 (ha : PT X a (tT z ft)) : PW X (.BoolOp .And [a] pos) (tT z ft) := pw_and1 ha
theorem pu_wor1 (ha : PT X a (tT z ft)) : PW X (.BoolOp .Or [a] pos) (tT z ft) := pw_or1 ha
theorem pu_wand (ha : PT X a (tT z ft)) (hb : PW X (.BoolOp .And (b :: rest) pos) (tT z fu)) : PW X (.BoolOp .And (a :: b :: rest) pos) (tT z (UbP.tAnd ft fu)) := PW_imp (pw_and ha hb) fun σ H Q ⟨O, env, R, P⟩ =>
  tG_mono (post_bnd bkT R P) fun b H1 ⟨env1, w, R1, s1, so1, V, P1⟩ => by
    cases V
    cases b with
    | true => exact ⟨O, env1, R1, P1⟩
    | false => exact P1 false H1 (SameC.refl H1) R1 (SameO.refl _) rfl
theorem pu_wor (ha : PT X a (tT z ft)) (hb : PW X (.BoolOp .Or (b :: rest) pos) (tT z fu)) : PW X (.BoolOp .Or (a :: b :: rest) pos) (tT z (UbP.tOr ft fu)) := PW_imp (pw_or ha hb) fun σ H Q ⟨O, env, R, P⟩ =>
  tG_mono (post_bnd bkT R P) fun b H1 ⟨env1, w, R1, s1, so1, V, P1⟩ => by
    cases V
    cases b with
    | true => exact P1 true H1 (SameC.refl H1) R1 (SameO.refl _) rfl
    | false => exact ⟨O, env1, R1, P1⟩
/-- two comparisons in a chain -/
theorem pu_chain {op op' : CmpOp} {f g : D → D → Option Bool} {r r' : R2} (s : OpS z.K (fun a b => (f a b).map fun k => .d (.bl k)) r) (s' : OpS z.K (fun a b => (g a b).map fun k => .d (.bl k)) r') (σ : L2.St) (H : Hp) (Q : Bool → Hp → Prop) (h : tT z (tCh f g fa fb fc) σ H Q) :
    tTest (tChain r r' (tP z fa) (tP z fb) (tP z fc)) σ H Q := by
  obtain ⟨O, env, R, P⟩ := h
  refine tG_mono (post_bnd bkT R P) fun v H1 ⟨env1, w, R1, s1, so1, V, P1⟩ => ?_
  refine tG_mono (post_bnd bkT R1 P1) fun u H2 ⟨env2, w2, R2, s2, so2, V2, P2⟩ => ?_
  obtain ⟨d1, e1, P3⟩ := post_now P2
  obtain ⟨d2, e2, P4⟩ := post_now P3
  obtain ⟨k, e3, P5⟩ := post_opt P4
  refine s _ σ H2 _ v u d1 d2 (.d (.bl k)) R2.cl ((vmove s2 so2 V.1).now R2 e1) (V2.1.now R2 e2) (by show Option.map _ (f d1 d2) = _; rw [e3]; rfl) fun v' H' e V' N => ?_
  have V' : Dq z.K _ v' (.bl k) := V'
  cases V'
  refine ⟨k, rfl, ?_⟩
  have R2' := R2.mono (kp e)
  have P6 := PostG.move bkT (sameC e) (SameO.refl _) P5
  have V2' := V2.1.mono (kp e)
  cases k with
  | false => exact ⟨false, rfl, P6 false H' (SameC.refl H') R2' (SameO.refl _) rfl⟩
  | true =>
    refine tG_mono (post_bnd bkT R2' P6) fun y H3 ⟨env3, w3, R3, s3, so3, V3, P7⟩ => ?_
    obtain ⟨d3, e4, P8⟩ := post_now P7
    obtain ⟨d4, e5, P9⟩ := post_now P8
    obtain ⟨k', e6, P10⟩ := post_optE P9
    refine s' _ σ H3 _ u y d3 d4 (.d (.bl k')) R3.cl ((vmove s3 so3 V2').now R3 e4) (V3.1.now R3 e5) (by show Option.map _ (g d3 d4) = _; rw [e6]; rfl) fun v' H' e V' N => ?_
    have V' : Dq z.K _ v' (.bl k') := V'
    cases V'
    exact ⟨k', rfl, P10 k' H' (sameC e) (R3.mono (kp e)) (SameO.refl _) rfl⟩
theorem pu_tchain {op op' : CmpOp} {f g : D → D → Option Bool} {r r' : R2} (s : OpS z.K (fun a b => (f a b).map fun k => .d (.bl k)) r) (s' : OpS z.K (fun a b => (g a b).map fun k => .d (.bl k)) r') (ho : OpR X (compareOp op) r) (ho' : OpR X (compareOp op') r') (ha : PE X a (tP z fa)) (hb : PE X b (tP z fb)) (hc : PE X c (tP z fc))
    (hm : lastMarks [op, op'] [b, c] = false := by with_unfolding_all rfl) : PT X (.Compare a [op, op'] [b, c] pos) (tT z (tCh f g fa fb fc)) := PT_imp (pt_chain ho ho' ha hb hc hm) (pu_chain (op := op) (op' := op') s s')
theorem pu_nil : PA X [] (tA z (eArgs [])) := PA_imp pa_nil fun σ H Q ⟨O, env, R, P⟩ => P [] H (SameC.refl H) R (SameO.refl _) .nil
theorem pu_cons {fs : List (M Vw)} (ha : PE X e (tP z fa)) (hr : PA X es (tA z (eArgs fs))) (hs : starEach (e :: es) X.env = (false, eval e X.env) :: starEach es X.env := by rfl) : PA X (e :: es) (tA z (eArgs (fa :: fs))) := PA_imp (pa_cons ha hr hs) fun σ H Q ⟨O, env, R, P⟩ =>
  tG_mono (post_bnd bkA R P) fun v H1 ⟨env1, w, R1, s1, so1, V, P1⟩ =>
  tG_mono (post_bnd bkA R1 P1) fun vs H2 ⟨env2, ws, R2, s2, so2, V2, P2⟩ => P2 (v :: vs) H2 (SameC.refl H2) R2 (SameO.refl _) (.cons (vmove s2 so2 V.1) V2)
theorem stays_rel {S : SS} {K : PySem.W.Frag} : ∀ {vs : List V} {ws : List Vw} {ds : List D}, Paired (VRel K S σ H) vs ws → stays ws = some ds → DqAll K (wo S H) vs ds
  | _, _, _, .nil, e => by cases e; exact .nil
  | _, _, ds, .cons (b := w) (l₂ := ws) h t, e => by
    unfold stays at e
    cases e1 : w.stay with
    | none => rw [e1] at e; cases e
    | some d =>
      cases e2 : stays ws with
      | none => rw [e1, e2] at e; cases e
      | some ds' =>
        rw [e1, e2] at e
        cases e
        exact .cons (h.stay e1) (stays_rel t e2)
theorem lim_lt {n : Nat} (h : n < LIM) : n ≤ sizeLine := line_lim (Nat.le_of_lt h)
theorem post_if {α β : Type} {R1 : VRt α β} {O : SS} {env : Env} {Q : β → Hp → Prop} {c : Prop} [Decidable c] {m : M α} (P : PostG R1 z O σ env H Q ((if c then m else (optM none : M α)) env)) : c ∧ PostG R1 z O σ env H Q (m env) := by
  by_cases h : c
  · rw [if_pos h] at P
    exact ⟨h, P⟩
  · rw [if_neg h] at P
    exact P.elim
theorem pu_lst {fs : List (M Vw)} (h : PA X es (tA z (eArgs fs))) : PE X (.List es pos) (tP z (eLst fs)) := PE_imp (pe_lst h) fun σ H Q ⟨O, env, R, P⟩ =>
  tG_mono (post_bnd bkE R P) fun vs H1 ⟨env1, ws, R1, s1, so1, V, P1⟩ => by
    obtain ⟨ds, e1, P2⟩ := post_opt P1
    obtain ⟨hl, P3⟩ := post_if P2
    have hd := stays_rel V e1
    exact ⟨by rw [hd.len]; exact lim_lt hl, fun p np => k_lst R1.cl np hd fun v' H' e V' N => post_new R1 P3 e V' N⟩
theorem pu_pn : PO X none (tO z (ret none)) := ⟨fun pins s σ H Q I h => po_none.run pins s σ H Q I (by
  obtain ⟨O, env, R, P⟩ := h
  exact P none H (SameC.refl H) R (SameO.refl _) rfl)⟩
theorem pu_ps (ha : PE X e (tP z fa)) : PO X (some e) (tO z (intM fa)) := ⟨fun pins s σ H Q I h => (po_some ha).run pins s σ H Q I (by
  obtain ⟨O, env, R, P⟩ := h
  refine tG_mono (post_bnd bkO R P) fun v H1 ⟨env1, w, R1, s1, so1, V, P1⟩ => ?_
  obtain ⟨d, e1, P2⟩ := post_now P1
  cases d with
  | int i =>
    cases dv_int (V.1.now R1 e1)
    exact ⟨i, rfl, P2 (some i) H1 (SameC.refl H1) R1 (SameO.refl _) rfl⟩
  | _ => exact P2.elim)⟩
theorem pu_slice {lo hi : Option Expr} {fl fh : M (Option Int)} (hK : X.K = z.K) (ha : PE X e (tP z fa)) (hl : PO X lo (tO z fl)) (hu : PO X hi (tO z fh)) : PE X (.Subscript e (.Slice lo hi none p2) pos) (tP z (eSl fa fl fh)) := PE_imp (pe_slice (SlR.or sl_list (SlR.or sl_tupA sl_str)) ha hl hu) fun σ H Q ⟨O, env, R, P⟩ =>
  tG_mono (post_bnd bkE R P) fun v H1 ⟨env1, w, R1, s1, so1, V, P1⟩ =>
  tG_mono (post_bnd bkE R1 P1) fun l H2 ⟨env2, l', R2, s2, so2, V2, P2⟩ =>
  tG_mono (post_bnd bkE R2 P2) fun u H3 ⟨env3, u', R3, s3, so3, V3, P3⟩ => by
    cases V2
    cases V3
    obtain ⟨d, e1, P4⟩ := post_now P3
    obtain ⟨r, e2, P5⟩ := post_optE P4
    have hd := (vmove s3 so3 (vmove s2 so2 V.1)).now R3 e1
    rw [hK]
    unfold slD at e2
    split at e2
    · obtain ⟨q, xs, rfl, h1, h2⟩ := dv_lst hd
      cases e2
      exact .inl ⟨q, xs, rfl, .inl (.inl h1), fun r nr => k_lst R3.cl nr (cut_V h2) fun v' H' e V' N => post_new R3 P5 e V' N⟩
    · obtain ⟨q, xs, rfl, h1, h2⟩ := dv_lsf hd
      cases e2
      exact .inl ⟨q, xs, rfl, h1, fun r nr => k_lst R3.cl nr (cut_V h2) fun v' H' e V' N => post_new R3 P5 e V' N⟩
    · rename_i ds
      have hdd := dv_tupD hd
      obtain ⟨q, xs, rfl, h1, h2⟩ := dv_tup hd
      cases e2
      refine .inr (.inl ⟨q, xs, rfl, h1, fun hw => ?_, fun _ r nr => k_tup R3.cl nr (cut_V h2) fun v' H' e V' N => post_new R3 P5 e V' N⟩)
      have ew : cut ds l u = ds := by
        have h0 : sIx ds.length 0 l = 0 := by rw [← h2.len]; exact hw.1
        have hL : sIx ds.length ds.length u = ds.length := by rw [← h2.len]; exact hw.2
        unfold cut
        rw [h0, hL]
        simp
      rw [ew] at P5
      exact k_d hdd fun v' H' e V' N => post_new R3 P5 e V' N
    · cases dv_str hd
      split at e2
      · rename_i x hl
        cases e2
        exact .inr (.inr ⟨_, rfl, line_lim hl, k_str fun v' H' e V' N => post_new R3 P5 e V' N⟩)
      · cases e2
    · cases e2
theorem pu_B1 {id : String} {f : D → Option Vw} {r : List V → Hp → VK → Prop} (s : UnS z.K f fun x H Q => r [x] H Q) (hc : CallR X (.builtin id) r) (hg : Gl X x) (hm : X.mg x = none) (hv : bootBuiltins x = some (.builtin id)) (ha : PE X e (tP z fa)) (hn : x ≠ "__name__" := by decide) (hdb : (x == ("__debug__" : Str)) = false := by decide)
    (hs : starEach [e] X.env = (false, eval e X.env) :: starEach [] X.env := by rfl) (hpl : (backTo pos (starEach [] X.env)).any (·.1) = false := by rfl) : PE X (.Call (.Name x p) [e] [] pos) (tP z (eU f fa)) :=
  PE_imp (pe_callB hc hg hm hv (pa_cons ha pa_nil hs) hn hdb hs hpl) (pu_un s)
theorem pu_Y1 {id : String} {f : D → Option Vw} {r : List V → Hp → VK → Prop} (s : UnS z.K f fun x H Q => r [x] H Q) (hc : CallR X (.type id) r) (hg : Gl X x) (hm : X.mg x = none) (hv : bootBuiltins x = some (.type id)) (ha : PE X e (tP z fa)) (hn : x ≠ "__name__" := by decide) (hdb : (x == ("__debug__" : Str)) = false := by decide)
    (hs : starEach [e] X.env = (false, eval e X.env) :: starEach [] X.env := by rfl) (hpl : (backTo pos (starEach [] X.env)).any (·.1) = false := by rfl) : PE X (.Call (.Name x p) [e] [] pos) (tP z (eU f fa)) :=
  PE_imp (pe_callTy hc hg hm hv (pa_cons ha pa_nil hs) hn hdb hs hpl) (pu_un s)
end
section
variable {K : PySem.W.Frag} {S : SS} {σ : L2.St} {H : Hp} {Q : VK} {x y : V} {X : Cx}
def rLenA (K : PySem.W.Frag) : List V → Hp → VK → Prop := fun xs H Q => rLenS K xs H Q ∨ (∃ s, xs = [.str s] ∧ s.length ≤ sizeLine ∧ Q (.int s.length) H)
theorem cl_lenA : CallR X (.builtin "len") (rLenA X.K) := CallR.or cl_len call_len_str
theorem us_len : UnS K lenD fun x H Q => rLenA K [x] H Q := by
  intro S σ H Q x a w cl ha e k
  unfold lenD at e
  split at e
  · obtain ⟨p, xs, rfl, h1, h2⟩ := dv_lst ha
    exact .inl ⟨p, xs, rfl, .inl (.inl (.inl h1)), by rw [h2.len]; exact k_int e k⟩
  · obtain ⟨p, xs, rfl, h1, h2⟩ := dv_lsf ha
    exact .inl ⟨p, xs, rfl, .inl h1, by rw [h2.len]; exact k_int e k⟩
  · obtain ⟨p, xs, rfl, h1, h2⟩ := dv_tup ha
    exact .inl ⟨p, xs, rfl, .inr h1, by rw [h2.len]; exact k_int e k⟩
  · cases dv_str ha
    split at e
    · rename_i hl
      exact .inr ⟨_, rfl, line_lim hl, k_int e k⟩
    · cases e
  · cases e
theorem us_abs : UnS K absD fun x H Q => rAbs1 [x] H Q := by
  intro S σ H Q x a w cl ha e k
  unfold absD at e
  split at e
  · cases dv_int ha
    exact ⟨_, rfl, k_int e k⟩
  · cases e
theorem us_int : UnS K intD fun x H Q => rInt1 [x] H Q := by
  intro S σ H Q x a w cl ha e k
  unfold intD at e
  split at e
  · cases dv_int ha
    exact .inl ⟨_, rfl, k_int e k⟩
  · cases dv_bl ha
    exact .inr ⟨_, rfl, k_int e k⟩
  · cases e
theorem us_list : UnS K listD fun x H Q => rListOf K [x] H Q := by
  intro S σ H Q x a w cl ha e k
  unfold listD at e
  split at e
  · obtain ⟨p, xs, rfl, h1, h2⟩ := dv_lst ha
    cases e
    exact ⟨p, xs, rfl, .inl (.inl (.inl h1)), fun l nl => k_lst cl nl h2 k⟩
  · obtain ⟨p, xs, rfl, h1, h2⟩ := dv_lsf ha
    cases e
    exact ⟨p, xs, rfl, .inl h1, fun l nl => k_lst cl nl h2 k⟩
  · obtain ⟨p, xs, rfl, h1, h2⟩ := dv_tup ha
    cases e
    exact ⟨p, xs, rfl, .inr h1, fun l nl => k_lst cl nl h2 k⟩
  · cases e
theorem dq_ty {v : V} {d : D} {t : String} (h : Dq K H v d) (e : UbP.tyD d = some t) : TyX K H v (.type t) := by
  cases h with
  | non => cases e; exact .base .non
  | bl b => cases e; exact .base (.bl b)
  | int i => cases e; exact .base (.int i)
  | str x => cases e; exact .base (.str x)
  | lst hs _ => cases e; exact .base (.lst hs)
  | tup hs _ =>
    cases e
    rcases hs with (hs | ⟨o, hs⟩) | ⟨o, its, n, hl, hc, _⟩
    · exact .base (.tup hs)
    · exact .fTuple hs
    · exact .kTuple hl hc
  | lsf _ _ => cases e
  | obj _ _ => cases e
/-- isinstance(x, T) -/
theorem us_isi {t : String} (h : ∀ s ∈ ["NoneType", "bool", "int", "str", "list", "tuple"], kitB s t = some (isT t s)) : UnS K (isiD t) fun x H Q => rIsi K [x, .ty t] H Q := by
  intro S σ H Q x a w cl ha e k
  unfold isiD at e
  obtain ⟨s, e1, e2⟩ := Option.bind_eq_some_iff.mp e
  refine ⟨x, .ty t, .type s, .type t, isT t s, rfl, .ty t, dq_ty ha.dq e1, kit_ty (h s ?_), k_bl e2 k⟩
  cases a <;> cases e1 <;> simp
theorem isi_int : ∀ s ∈ ["NoneType", "bool", "int", "str", "list", "tuple"], kitB s "int" = some (isT "int" s) := by decide +kernel
theorem isi_bool : ∀ s ∈ ["NoneType", "bool", "int", "str", "list", "tuple"], kitB s "bool" = some (isT "bool" s) := by decide +kernel
theorem isi_str : ∀ s ∈ ["NoneType", "bool", "int", "str", "list", "tuple"], kitB s "str" = some (isT "str" s) := by decide +kernel
theorem isi_list : ∀ s ∈ ["NoneType", "bool", "int", "str", "list", "tuple"], kitB s "list" = some (isT "list" s) := by decide +kernel
theorem isi_tuple : ∀ s ∈ ["NoneType", "bool", "int", "str", "list", "tuple"], kitB s "tuple" = some (isT "tuple" s) := by decide +kernel
end
section
variable {X : Cx} {z : Z} {e a b c : Expr} {es rest : List Expr} {fa fb fc : M Vw} {pos p p2 : Pos} {x : Str}
theorem pu_isi {t : Str} {ts : String} (hK : X.K = z.K) (hsp : ∀ s ∈ ["NoneType", "bool", "int", "str", "list", "tuple"], kitB s ts = some (isT ts s)) (hg : Gl X "isinstance") (hm : X.mg "isinstance" = none) (hg2 : Gl X t) (hm2 : X.mg t = none) (hv2 : bootBuiltins t = some (.type ts)) (ha : PE X e (tP z fa))
    (hn : t ≠ "__name__" := by decide) (hdb : (t == ("__debug__" : Str)) = false := by decide)
    (hs : starEach [e, .Name t p2] X.env = (false, eval e X.env) :: starEach [.Name t p2] X.env := by rfl) (hs2 : starEach [.Name t p2] X.env = (false, eval (.Name t p2) X.env) :: starEach [] X.env := by rfl) (hpl : (backTo pos (starEach [.Name t p2] X.env)).any (·.1) = false := by rfl) :
    PE X (.Call (.Name "isinstance" p) [e, .Name t p2] [] pos) (tP z (eU (isiD ts) fa)) :=
  PE_imp (pe_callB call_isi hg hm bb_isinstance (pa_cons ha (pa_cons (pe_bltn (v := .ty ts) hg2 hm2 hv2 rfl hn hdb) pa_nil hs2) hs) (by decide) (by decide) hs hpl) (by rw [hK]; exact pu_un (us_isi hsp))
theorem pu_rev (hK : X.K = z.K) (hc : X.calm = true) (hg : Gl X "list") (hm : X.mg "list" = none) (hg2 : Gl X "reversed") (hm2 : X.mg "reversed" = none) (ha : PE X e (tP z fa))
    (hs : starEach [e] X.env = (false, eval e X.env) :: starEach [] X.env := by rfl)
    (hs2 : starEach [.Call (.Name "reversed" p2) [e] [] pos] X.env = (false, eval (.Call (.Name "reversed" p2) [e] [] pos) X.env) :: starEach [] X.env := by rfl) {pos2 : Pos} :
    PE X (.Call (.Name "list" p) [.Call (.Name "reversed" p2) [e] [] pos] [] pos2) (tP z (eU revD fa)) := PE_imp (UbG.pe_listRev hc hg hm bb_list hg2 hm2 ha hs hs2) (by
  rw [hK]
  refine pu_un (r := fun v H1 Q => ∃ (a : Addr) (xs : List V), v = .ref a ∧ SqL z.K H1 a xs ∧ ∀ q, H1 q = none → Q (.ref q) (upd H1 q (.lst xs.reverse))) ?_
  intro S σ H Q x a w cl ha e k
  unfold revD at e
  split at e
  · obtain ⟨p, xs, rfl, h1, h2⟩ := dv_lst ha
    cases e
    exact ⟨p, xs, rfl, .inl (.inl h1), fun l nl => k_lst cl nl h2.rev k⟩
  · obtain ⟨p, xs, rfl, h1, h2⟩ := dv_lsf ha
    cases e
    exact ⟨p, xs, rfl, h1, fun l nl => k_lst cl nl h2.rev k⟩
  · cases e)
end
end UbP
namespace UbP
open PySem PySem.Spec PyProof.Rows L2 UbM Ub
section
variable {e : Env} {i j : Nat} {c c0 : Ct} {d : D}
theorem getO_cases (h : getO i e = some c) : e[i]? = some (.own c) ∨ e[i]? = some (.par c) := by
  unfold getO at h
  split at h
  · cases h; rename_i h; exact .inl h
  · cases h; rename_i h; exact .inr h
  · cases h
theorem get_lt {s : Sl} (h : e[i]? = some s) : i < e.length := (List.getElem?_eq_some_iff.mp h).1
theorem getO_setO (h : getO i e = some c0) : getO i (setO i c e) = some c := by
  rcases getO_cases h with g | g
  · unfold setO
    rw [g]
    unfold getO
    rw [List.getElem?_set_self (get_lt g)]
  · unfold setO
    rw [g]
    unfold getO
    rw [List.getElem?_set_self (get_lt g)]
theorem setO_ne (h : j ≠ i) : (setO i c e)[j]? = e[j]? := by
  unfold setO
  split
  · exact List.getElem?_set_ne (Ne.symm h)
  · exact List.getElem?_set_ne (Ne.symm h)
  · rfl
theorem getO_ne (h : j ≠ i) : getO j (setO i c e) = getO j e := by
  unfold getO
  rw [setO_ne h]
theorem setO_len : (setO i c e).length = e.length := by
  unfold setO
  split <;> simp
theorem setO_same : SameO e (setO i c e) := by
  refine ⟨setO_len.symm, fun j => ?_⟩
  by_cases h : j = i
  · subst h
    unfold setO
    split
    · rename_i c1 g
      rw [List.getElem?_set_self (get_lt g), g]
      rfl
    · rename_i c1 g
      rw [List.getElem?_set_self (get_lt g), g]
      rfl
    · rfl
  · rw [setO_ne h]
/-- what is no owned thing stays -/
theorem setO_keep {s : Sl} (hs : knd s = .z) : (setO i c e)[j]? = some s ↔ e[j]? = some s := by
  by_cases h : j = i
  · subst h
    unfold setO
    split
    · rename_i c1 g
      rw [List.getElem?_set_self (get_lt g), g]
      constructor
      · intro z; cases z; cases hs
      · intro z; cases z; cases hs
    · rename_i c1 g
      rw [List.getElem?_set_self (get_lt g), g]
      constructor
      · intro z; cases z; cases hs
      · intro z; cases z; cases hs
    · rfl
  · rw [setO_ne h]
end
section
variable {K : PySem.W.Frag} {S : SS} {H : Hp} {z : Z} {O : SS} {σ : L2.St} {env env' : Env} {a b : Addr} {c c' : Ct} {o : HO} {i : Nat} {Q : VK}
theorem RelC.other (ha : S a) (n : b ≠ a) (h : RelC K S H b c) : RelC K S (upd H a o) b c := by
  cases c with
  | l ds =>
    obtain ⟨xs, h1, h2⟩ := h
    exact ⟨xs, by rw [upd_ne n]; exact h1, by rw [wo_upd ha]; exact h2⟩
  | o c fs =>
    obtain ⟨dx, vs, h1, h2⟩ := h
    exact ⟨dx, vs, by rw [upd_ne n]; exact h1, by rw [wo_upd ha]; exact h2⟩
theorem own_at (R : RelT z O H σ env) (g : getO i env = some c) (e : σ[i]? = some (some (V.ref a))) : RelC z.K (cells σ env O) H a c := by
  obtain ⟨a', h1, h2⟩ := R.own i c g
  rw [e] at h1
  cases h1
  exact h2
/-- an owned thing is changed -/
theorem RelT.put (R : RelT z O H σ env) (g : getO i env = some c) (e : σ[i]? = some (some (V.ref a))) (ho : isC o) (hc : RelC z.K (cells σ env O) (upd H a o) a c') :
    RelT z O (upd H a o) σ (setO i c' env) ∧ SameC (ownS σ env) H (upd H a o) ∧ SameO env (setO i c' env) := by
  have so : SameO env (setO i c' env) := setO_same
  have hS : cells σ env O a := .inl ⟨i, c, g, e⟩
  have ce := so.cells σ O
  have sC : SameC (ownS σ env) H (upd H a o) := sameC_upd ⟨i, c, g, e⟩ ho (own_at R g e).isC
  refine ⟨⟨R.len.trans so.1, fun j d h => ?_, fun j cj h => ?_, fun j k cj ck b hj hk => ?_, fun j cj b hj => ?_, fun j x h => ?_, ?_, fun P hP => sC.tab P (R.tb P hP)⟩, sC, so⟩
  · rw [← ce, wo_upd hS]
    exact R.dat j d ((setO_keep rfl).mp h)
  · rw [← ce]
    by_cases hj : j = i
    · subst hj
      rw [getO_setO g] at h
      cases h
      exact ⟨a, e, hc⟩
    · rw [getO_ne hj] at h
      obtain ⟨b, h1, h2⟩ := R.own j cj h
      exact ⟨b, h1, h2.other hS fun z => hj (R.inj j i cj c a h g (by rw [← z]; exact h1) e)⟩
  · obtain ⟨c1, g1⟩ := so.symm.getO hj
    obtain ⟨c2, g2⟩ := so.symm.getO hk
    exact R.inj j k c1 c2 b g1 g2
  · obtain ⟨c1, g1⟩ := so.symm.getO hj
    exact R.out j c1 b g1
  · rw [← ce, wo_upd hS]
    exact R.ex j x ((setO_keep rfl).mp h)
  · rw [← ce]
    exact (sC.sub fun s hs => .inl hs).clS R.cl
theorem RelT.putL {xs xs' : List V} {ds ds' : List D} (R : RelT z O H σ env) (g : getO i env = some (.l ds)) (e : σ[i]? = some (some (V.ref a))) (h : DqAll z.K (wo (cells σ env O) H) xs' ds') :
    RelT z O (upd H a (.lst xs')) σ (setO i (.l ds') env) ∧ SameC (ownS σ env) H (upd H a (.lst xs')) ∧ SameO env (setO i (.l ds') env) :=
  R.put g e True.intro ⟨xs', upd_same, by rw [wo_upd (.inl ⟨i, _, g, e⟩)]; exact h⟩
theorem post_ownL {α β : Type} {R1 : VRt α β} {k : List D → M α} {Q : β → Hp → Prop} (P : PostG R1 z O σ env H Q (bnd (ownL i) k env)) : ∃ ds, getO i env = some (.l ds) ∧ PostG R1 z O σ env H Q (k ds env) := by
  unfold bnd ownL at P
  cases h : getO i env with
  | none => rw [h] at P; exact P.elim
  | some c =>
    rw [h] at P
    cases c with
    | l ds => exact ⟨ds, rfl, P⟩
    | o _ _ => exact P.elim
/-- behind a change -/
theorem post_change {w : Vw} {v : V} {H' : Hp} {env' : Env} (P : PostG vE z O σ env H Q ((ret w : M Vw) env')) (R' : RelT z O H' σ env') (s : SameC (ownS σ env) H H') (so : SameO env env') (V : VRel z.K (cells σ env' O) σ H' v w) (N : NewV H v w ∧ AwayV z O σ env' H' v w) : Q v H' := P v H' s R' so ⟨V, N⟩
end
section
variable {X : Cx} {z : Z} {e a : Expr} {es : List Expr} {fa fb : M Vw} {pos p apos : Pos} {σ : L2.St} {H : Hp} {Q : VK}
theorem post_recv {α β : Type} {Rv : VRt α β} {O : SS} {env : Env} {k : Nat → M α} {Q : β → Hp → Prop} (b : Back Rv) (R : RelT z O H σ env) (P : PostG Rv z O σ env H Q (bnd (recv fa) k env)) :
    tP z fa σ H fun v H1 => ∃ env1 i ds a, RelT z O H1 σ env1 ∧ SameC (ownS σ env) H H1 ∧ SameO env env1 ∧ getO i env1 = some (.l ds) ∧ v = .ref a ∧ σ[i]? = some (some (V.ref a)) ∧ PostG Rv z O σ env1 H1 Q (k i env1) := by
  have P' : PostG Rv z O σ env H Q (bnd fa (fun w => bnd (bnd (optM (viewI w)) fun i => bnd (ownL i) fun _ => ret i) k) env) := by
    have e : bnd fa (fun w => bnd (bnd (optM (viewI w)) fun i => bnd (ownL i) fun _ => ret i) k) env = bnd (recv fa) k env := by
      unfold recv
      unfold bnd
      cases fa env <;> rfl
    rw [e]
    exact P
  refine tG_mono (post_bnd b R P') fun v H1 ⟨env1, w, R1, s1, so1, V, P1⟩ => ?_
  have P2 : PostG Rv z O σ env1 H1 Q (bnd (optM (viewI w)) (fun i => bnd (ownL i) fun _ => k i) env1) := by
    have e : bnd (optM (viewI w)) (fun i => bnd (ownL i) fun _ => k i) env1 = bnd (bnd (optM (viewI w)) fun i => bnd (ownL i) fun _ => ret i) k env1 := by
      unfold bnd optM
      cases viewI w with
      | none => rfl
      | some i =>
        dsimp only
        unfold ownL
        split <;> rfl
    rw [e]
    exact P1
  obtain ⟨i, e1, P3⟩ := post_opt P2
  obtain ⟨ds, g, P4⟩ := post_ownL P3
  cases w with
  | o k =>
    cases e1
    obtain ⟨b, h1, h2⟩ := R1.own _ _ g
    have V1 : σ[i]? = some (some v) := V.1
    rw [h1] at V1
    cases V1
    exact ⟨env1, i, ds, b, R1, s1, so1, g, rfl, h1, P4⟩
  | d x => cases e1
  | f c => cases e1
theorem ty_list {K : PySem.W.Frag} {xs : List V} {a : Addr} (h : H a = some (.lst xs)) : tyV K "list" (.ref a) H := .inl ⟨rfl, _, .inl (.inl h)⟩
theorem get_list {O : SS} {env : Env} {i : Nat} {ds : List D} {a : Addr} (R : RelT z O H σ env) (g : getO i env = some (.l ds)) (e : σ[i]? = some (some (V.ref a))) : ∃ xs, H a = some (.lst xs) ∧ DqAll z.K (wo (cells σ env O) H) xs ds := own_at R g e
theorem pu_app (ho : PE X a (tP z fa)) (ha : PE X e (tP z fb))
    (hbase : attributeBase a "append" X.env (eval a X.env) = eval a X.env := by rfl)
    (hfew : ((backTo p (starEach [e] X.env)).all (fun x => !x.1) && (backToKw p (keywordEach [] X.env)).all (fun x => x.1.isSome)
      && decide ([e].length + ([] : List Keyword).length + (if ([] : List Keyword).isEmpty then 0 else 1) < 30)) = true := by rfl)
    (hline : (apos.endLine == p.line) = true := by rfl) (hs : starEach [e] X.env = (false, eval e X.env) :: starEach [] X.env := by rfl) (hplain : (backTo p (starEach [] X.env)).any (·.1) = false := by rfl) :
    PE X (.Call (.Attribute a "append" apos) [e] [] p) (tP z (eApp fa fb)) := PE_imp (pe_bm PySem.F.plainAttrs_list PySem.F.slot_list_append PySem.F.type_list_append mt_append ho (pa_cons ha pa_nil hs) hbase hfew hline hs hplain) fun σ H Q ⟨O, env, R, P⟩ =>
  tG_mono (post_recv bkE R P) fun v H1 ⟨env1, i, ds0, b, R1, s1, so1, g, ev, hσ, P1⟩ => by
    subst ev
    obtain ⟨xs0, h0, _⟩ := get_list R1 g hσ
    refine ⟨ty_list h0, ?_⟩
    refine tG_mono (post_bnd bkE R1 P1) fun u H2 ⟨env2, w2, R2, s2, so2, V2, P2⟩ => ?_
    obtain ⟨d, e1, P3⟩ := post_stay P2
    obtain ⟨ds, g2, P4⟩ := post_ownL P3
    obtain ⟨hl, P5⟩ := post_if P4
    obtain ⟨xs, h1, h2⟩ := get_list R2 g2 hσ
    have hd := V2.1.stay e1
    obtain ⟨R3, s3, so3⟩ := R2.putL (xs := xs) g2 hσ (h2.snoc hd)
    exact ⟨b, xs, u, rfl, rfl, h1, by rw [h2.len]; exact Nat.lt_of_lt_of_le hl (by rw [sizeLine_eq]; decide), post_change P5 R3 s3 so3 (.non) ⟨True.intro, True.intro⟩⟩
theorem pu_pop (ho : PE X a (tP z fa)) (hbase : attributeBase a "pop" X.env (eval a X.env) = eval a X.env := by rfl) (hline : (apos.endLine == p.line) = true := by rfl) :
    PE X (.Call (.Attribute a "pop" apos) [] [] p) (tP z (ePop fa)) := PE_imp (pe_bm0 PySem.F.plainAttrs_list PySem.F.slot_list_pop PySem.F.type_list_pop mt_pop ho hbase hline) fun σ H Q ⟨O, env, R, P⟩ =>
  tG_mono (post_recv bkE R P) fun v H1 ⟨env1, i, ds0, b, R1, s1, so1, g, ev, hσ, P1⟩ => by
    subst ev
    obtain ⟨xs0, h0, _⟩ := get_list R1 g hσ
    refine ⟨ty_list h0, ?_⟩
    obtain ⟨ds, g2, P2⟩ := post_ownL P1
    obtain ⟨d, e1, P3⟩ := post_opt P2
    obtain ⟨xs, h1, h2⟩ := get_list R1 g2 hσ
    have el : ds[ds.length - 1]? = some d := by rw [← List.getLast?_eq_getElem?]; exact e1
    obtain ⟨u, hu, hd⟩ := h2.get el
    have hdl : DqAll z.K (wo (cells σ env1 O) H1) xs.dropLast ds.dropLast := by
      rw [List.dropLast_eq_take, List.dropLast_eq_take, h2.len]
      exact h2.take _
    obtain ⟨R3, s3, so3⟩ := R1.putL (xs := xs) g2 hσ hdl
    refine ⟨b, xs, u, rfl, rfl, h1, by rw [h2.len]; exact hu, post_change P3 R3 s3 so3 ?_ ⟨True.intro, True.intro⟩⟩
    show Dq z.K _ u d
    rw [← so3.cells σ O, wo_upd (.inl ⟨i, _, g2, hσ⟩)]
    exact hd
end
end UbP
namespace UbP
open PySem PySem.Spec PyProof.Rows L2 UbM Ub
def noW : WX := fun _ _ _ _ => False
abbrev zF (K : PySem.W.Frag) (Tb : List Addr) : Z := ⟨K, Tb, none, noW⟩
inductive PR (K : PySem.W.Frag) (S : SS) (H : Hp) : List V → List Sl → List Ct → Prop
  | nil : PR K S H [] [] []
  | par {a : Addr} {c c0 : Ct} {vs : List V} {args : List Sl} {cs : List Ct} : RelC K S H a c → PR K S H vs args cs → PR K S H (.ref a :: vs) (.par c0 :: args) (c :: cs)
  | oth {v : V} {d : D} {vs : List V} {args : List Sl} {cs : List Ct} : PR K S H vs args cs → PR K S H (v :: vs) (.dat d :: args) cs
def ArgS (s : Sl) : Prop := (∃ d, s = .dat d) ∨ ∃ c, s = .par c
/-- .. and apart from a new thing -/
def apart (v : V) : Vw → SS → SS
  | .f _, S => fun s => S s ∨ V.ref s = v
  | _, S => S
def PostF (K : PySem.W.Frag) (O : SS) (vs : List V) (args : List Sl) (H : Hp) (Q : VK) (E : XK) : FRes → Prop
  | .ret w cs => ∀ v H', SameC (ownS (vs.map some) args) H H' → PR K (apart v w (cells (vs.map some) args O)) H' vs args cs → VRel K (cells (vs.map some) args O) (vs.map some) H' v w → NewV H v w → Q v H'
  | .exc x cs => ∀ cls d H', SameC (ownS (vs.map some) args) H H' → PR K (cells (vs.map some) args O) H' vs args cs → ExR K (wo (cells (vs.map some) args O) H') x cls d → E cls d H'
  | .bad => False
/-- a def runs as f says -/
def spF (K : PySem.W.Frag) (Tb : List Addr) (f : Fn) (n : Nat) : Sp := fun vs H Q E => vs.length = n ∧ ∃ O args, RelT (zF K Tb) O H (vs.map some) args ∧ (∀ s ∈ args, ArgS s) ∧ PostF K O vs args H Q E (f args)
section
variable {z : Z} {O : SS} {σ : L2.St} {env : Env} {H : Hp}
inductive AR (z : Z) (O : SS) (σ : L2.St) (env : Env) (H : Hp) : List V → List Vw → List Bool → List Sl → List Nat → List Nat → Prop
  | nil : AR z O σ env H [] [] [] [] [] []
  | own {i : Nat} {c : Ct} {a : Addr} {vs : List V} {ws : List Vw} {ms : List Bool} {args : List Sl} {ow lk : List Nat} : getO i env = some c → σ[i]? = some (some (V.ref a)) → AR z O σ env H vs ws ms args ow lk → AR z O σ env H (.ref a :: vs) (.o i :: ws) (true :: ms) (.par c :: args) (i :: ow) lk
  | look {i : Nat} {c : Ct} {a : Addr} {vs : List V} {ws : List Vw} {ms : List Bool} {args : List Sl} {ow lk : List Nat} : getO i env = some c → σ[i]? = some (some (V.ref a)) → AR z O σ env H vs ws ms args ow lk → AR z O σ env H (.ref a :: vs) (.o i :: ws) (false :: ms) (.dat c.toD :: args) ow (i :: lk)
  | data {v : V} {w : Vw} {d : D} {vs : List V} {ws : List Vw} {ms : List Bool} {args : List Sl} {ow lk : List Nat} : (∀ i, w ≠ .o i) → Dq z.K (wo (cells σ env O) H) v d → AR z O σ env H vs ws ms args ow lk → AR z O σ env H (v :: vs) (w :: ws) (false :: ms) (.dat d :: args) ow lk
theorem mkArgs_AR (R : RelT z O H σ env) : ∀ {vs : List V} {ws : List Vw} {ms : List Bool} {args : List Sl}, Paired (VRel z.K (cells σ env O) σ H) vs ws → mkArgs ms ws env = some args → AR z O σ env H vs ws ms args (ownIx ms ws) (lookIx ms ws)
  | _, _, [], _, .nil, e => by cases e; exact .nil
  | _, _, [], _, .cons _ _, e => by cases e
  | _, _, _ :: _, _, .nil, e => by cases e
  | v :: vs, w :: ws, m :: ms, args, .cons h t, e => by
    unfold mkArgs at e
    cases e1 : mkArgs ms ws env with
    | none => rw [e1] at e; cases e
    | some r =>
      rw [e1] at e
      have ih := mkArgs_AR R t e1
      cases m with
      | true =>
        cases w with
        | o i =>
          obtain ⟨c, hc, rfl⟩ := Option.map_eq_some_iff.mp e
          obtain ⟨a, h1, h2⟩ := R.own i c hc
          have h : σ[i]? = some (some v) := h
          rw [h1] at h
          cases h
          exact .own hc h1 ih
        | d x => cases e
        | f c => cases e
      | false =>
        obtain ⟨d, hd, rfl⟩ := Option.map_eq_some_iff.mp e
        cases w with
        | o i =>
          obtain ⟨c, hc, rfl⟩ := Option.map_eq_some_iff.mp hd
          obtain ⟨a, h1, h2⟩ := R.own i c hc
          have h : σ[i]? = some (some v) := h
          rw [h1] at h
          cases h
          exact .look hc h1 ih
        | d x => cases hd; exact .data (fun i z => by cases z) h ih
        | f c => cases hd; exact .data (fun i z => by cases z) (VRel.stay h rfl) ih
section
variable {vs : List V} {ws : List Vw} {ms : List Bool} {args : List Sl} {ow lk : List Nat}
theorem AR.len : ∀ {vs : List V} {ws : List Vw} {ms : List Bool} {args : List Sl} {ow lk : List Nat}, AR z O σ env H vs ws ms args ow lk → args.length = vs.length
  | _, _, _, _, _, _, .nil => rfl
  | _, _, _, _, _, _, .own _ _ t => congrArg Nat.succ (AR.len t)
  | _, _, _, _, _, _, .look _ _ t => congrArg Nat.succ (AR.len t)
  | _, _, _, _, _, _, .data _ _ t => congrArg Nat.succ (AR.len t)
theorem AR.argS : ∀ {vs : List V} {ws : List Vw} {ms : List Bool} {args : List Sl} {ow lk : List Nat}, AR z O σ env H vs ws ms args ow lk → ∀ s ∈ args, ArgS s
  | _, _, _, _, _, _, .nil, s, h => absurd h (List.not_mem_nil)
  | _, _, _, _, _, _, .own _ _ t, s, h => (List.mem_cons.mp h).elim (fun e => .inr ⟨_, e⟩) (AR.argS t s)
  | _, _, _, _, _, _, .look _ _ t, s, h => (List.mem_cons.mp h).elim (fun e => .inl ⟨_, e⟩) (AR.argS t s)
  | _, _, _, _, _, _, .data _ _ t, s, h => (List.mem_cons.mp h).elim (fun e => .inl ⟨_, e⟩) (AR.argS t s)
theorem AR.par_at : ∀ {vs : List V} {ws : List Vw} {ms : List Bool} {args : List Sl} {ow lk : List Nat}, AR z O σ env H vs ws ms args ow lk → ∀ {j : Nat} {c : Ct}, args[j]? = some (.par c) → ∃ i a, ow[(ow.length - ow.length)]? = ow[0]? ∧ i ∈ ow ∧ getO i env = some c ∧ vs[j]? = some (.ref a) ∧ σ[i]? = some (some (V.ref a))
  | _, _, _, _, _, _, .nil, j, c, h => by simp at h
  | _, _, _, _, _, _, .own (i := i) (a := a) g e t, 0, c, h => by
    simp at h
    subst h
    exact ⟨i, a, by simp, List.mem_cons_self .., g, rfl, e⟩
  | _, _, _, _, _, _, .own g e t, j + 1, c, h => by
    obtain ⟨i, a, _, h1, h2, h3, h4⟩ := AR.par_at t (j := j) (c := c) (by simpa using h)
    exact ⟨i, a, by simp, List.mem_cons_of_mem _ h1, h2, by simpa using h3, h4⟩
  | _, _, _, _, _, _, .look g e t, 0, c, h => by simp at h
  | _, _, _, _, _, _, .look g e t, j + 1, c, h => by
    obtain ⟨i, a, _, h1, h2, h3, h4⟩ := AR.par_at t (j := j) (c := c) (by simpa using h)
    exact ⟨i, a, by simp, h1, h2, by simpa using h3, h4⟩
  | _, _, _, _, _, _, .data _ g t, 0, c, h => by simp at h
  | _, _, _, _, _, _, .data _ g t, j + 1, c, h => by
    obtain ⟨i, a, _, h1, h2, h3, h4⟩ := AR.par_at t (j := j) (c := c) (by simpa using h)
    exact ⟨i, a, by simp, h1, h2, by simpa using h3, h4⟩
theorem AR.dat_at : ∀ {vs : List V} {ws : List Vw} {ms : List Bool} {args : List Sl} {ow lk : List Nat}, AR z O σ env H vs ws ms args ow lk → ∀ {j : Nat} {d : D}, args[j]? = some (.dat d) →
    ∃ v, vs[j]? = some v ∧ (Dq z.K (wo (cells σ env O) H) v d ∨ ∃ i c a, i ∈ lk ∧ getO i env = some c ∧ d = c.toD ∧ v = .ref a ∧ σ[i]? = some (some (V.ref a)))
  | _, _, _, _, _, _, .nil, j, c, h => by simp at h
  | _, _, _, _, _, _, .own g e t, 0, c, h => by simp at h
  | _, _, _, _, _, _, .own g e t, j + 1, c, h => by
    obtain ⟨v, h1, h2⟩ := AR.dat_at t (j := j) (d := c) (by simpa using h)
    exact ⟨v, by simpa using h1, h2⟩
  | _, _, _, _, _, _, .look (i := i) (c := c0) (a := a) g e t, 0, c, h => by
    simp at h
    exact ⟨.ref a, rfl, .inr ⟨i, c0, a, List.mem_cons_self .., g, h.symm, rfl, e⟩⟩
  | _, _, _, _, _, _, .look g e t, j + 1, c, h => by
    obtain ⟨v, h1, h2⟩ := AR.dat_at t (j := j) (d := c) (by simpa using h)
    refine ⟨v, by simpa using h1, h2.imp id fun ⟨i, c, a, h3, h4⟩ => ⟨i, c, a, List.mem_cons_of_mem _ h3, h4⟩⟩
  | _, _, _, _, _, _, .data (v := v) _ g t, 0, c, h => by
    simp at h
    subst h
    exact ⟨v, rfl, .inl g⟩
  | _, _, _, _, _, _, .data _ g t, j + 1, c, h => by
    obtain ⟨v, h1, h2⟩ := AR.dat_at t (j := j) (d := c) (by simpa using h)
    exact ⟨v, by simpa using h1, h2⟩
/-- two places of one owned thing are one place -/
theorem AR.inj (R : RelT z O H σ env) : ∀ {vs : List V} {ws : List Vw} {ms : List Bool} {args : List Sl} {ow lk : List Nat}, AR z O σ env H vs ws ms args ow lk → ow.Nodup → ∀ {j k : Nat} {c c' : Ct} {a : Addr},
    args[j]? = some (.par c) → args[k]? = some (.par c') → vs[j]? = some (.ref a) → vs[k]? = some (.ref a) → j = k
  | _, _, _, _, _, _, .nil, _, j, k, c, c', a, h, _, _, _ => by simp at h
  | _, _, _, _, _, _, .own (i := i) (a := b) g e t, nd, j, k, c, c', a, h1, h2, h3, h4 => by
    obtain ⟨n1, n2⟩ := List.nodup_cons.mp nd
    have one : ∀ {k : Nat} {c' : Ct} {args : List Sl} {vs : List V} {ow lk : List Nat} {ws : List Vw} {ms : List Bool}, AR z O σ env H vs ws ms args ow lk → i ∉ ow → args[k]? = some (.par c') → vs[k]? = some (.ref b) → False := fun {k c' args vs ow lk ws ms} t n h2 h4 => by
      obtain ⟨i2, a2, _, m2, g2, v2, e2⟩ := t.par_at h2
      rw [h4] at v2
      cases v2
      have : i = i2 := R.inj i i2 _ _ b g g2 e e2
      exact n (by rw [this]; exact m2)
    cases j with
    | zero =>
      cases k with
      | zero => rfl
      | succ k =>
        simp at h3
        subst h3
        exact (one t n1 (k := k) (c' := c') (by simpa using h2) (by simpa using h4)).elim
    | succ j =>
      cases k with
      | zero =>
        simp at h4
        subst h4
        exact (one t n1 (k := j) (c' := c) (by simpa using h1) (by simpa using h3)).elim
      | succ k => exact congrArg Nat.succ (AR.inj R t n2 (j := j) (k := k) (c := c) (c' := c') (a := a) (by simpa using h1) (by simpa using h2) (by simpa using h3) (by simpa using h4))
  | _, _, _, _, _, _, .look g e t, nd, j, k, c, c', a, h1, h2, h3, h4 => by
    cases j with
    | zero => simp at h1
    | succ j =>
      cases k with
      | zero => simp at h2
      | succ k => exact congrArg Nat.succ (AR.inj R t nd (j := j) (k := k) (c := c) (c' := c') (a := a) (by simpa using h1) (by simpa using h2) (by simpa using h3) (by simpa using h4))
  | _, _, _, _, _, _, .data _ g t, nd, j, k, c, c', a, h1, h2, h3, h4 => by
    cases j with
    | zero => simp at h1
    | succ j =>
      cases k with
      | zero => simp at h2
      | succ k => exact congrArg Nat.succ (AR.inj R t nd (j := j) (k := k) (c := c) (c' := c') (a := a) (by simpa using h1) (by simpa using h2) (by simpa using h3) (by simpa using h4))
end
theorem nodup_of : ∀ {l : List Nat}, nodup l = true → l.Nodup
  | [], _ => .nil
  | x :: xs, h => by
    unfold nodup at h
    obtain ⟨h1, h2⟩ := Bool.and_eq_true_iff.mp h
    exact List.nodup_cons.mpr ⟨fun z => by simp at h1; exact h1 z, nodup_of h2⟩
/-- behind the call: the contents are put back -/
theorem putBack_at {K : PySem.W.Frag} {S : SS} {H' : Hp} {e0 : Env} : ∀ {vs : List V} {ws : List Vw} {ms : List Bool} {args : List Sl} {ow lk : List Nat} {cs : List Ct} {e e' : Env}, AR z O σ e0 H vs ws ms args ow lk → PR K S H' vs args cs → SameO e0 e → putBack ms ws cs e = some e' →
    SameO e e' ∧ (∀ (j : Nat) (s : Sl), knd s = .z → (e'[j]? = some s ↔ e[j]? = some s)) ∧ ∀ i c, getO i e' = some c → (i ∉ ow ∧ getO i e = some c) ∨ ∃ a, σ[i]? = some (some (V.ref a)) ∧ RelC K S H' a c
  | _, _, _, _, _, _, _, e, e', .nil, .nil, so, h => by
    cases h
    exact ⟨SameO.refl _, fun j s _ => Iff.rfl, fun i c g => .inl ⟨List.not_mem_nil, g⟩⟩
  | _, _, _, _, _, _, _, e, e', .own (i := i0) g eσ t, .par (c := c0) hc p, so, h => by
    have h : putBack _ _ _ (setO i0 c0 e) = some e' := h
    obtain ⟨c1, g1⟩ := so.getO g
    obtain ⟨s1, s2, s3⟩ := putBack_at t p (so.trans setO_same) h
    refine ⟨setO_same.trans s1, fun j s hs => (s2 j s hs).trans (setO_keep hs), fun i c gi => ?_⟩
    rcases s3 i c gi with ⟨n, g2⟩ | r
    · by_cases hi : i = i0
      · subst hi
        rw [getO_setO g1] at g2
        cases g2
        exact .inr ⟨_, eσ, hc⟩
      · rw [getO_ne hi] at g2
        exact .inl ⟨fun z => (List.mem_cons.mp z).elim hi n, g2⟩
    · exact .inr r
  | _, _, _, _, _, _, cs, e, e', .look (i := i0) g eσ t, .oth p, so, h => putBack_at t p so h
  | _, _, _, _, _, _, cs, e, e', .data (w := .d x) nw g t, .oth p, so, h => putBack_at t p so h
  | _, _, _, _, _, _, cs, e, e', .data (w := .f x) nw g t, .oth p, so, h => putBack_at t p so h
  | _, _, _, _, _, _, cs, e, e', .data (w := .o x) nw g t, .oth p, so, h => absurd rfl (nw x)
theorem RelT.back {H' : Hp} {env' : Env} {O' : SS} (R : RelT z O H σ env) (wt : UbG.SameT (wo (cells σ env O) H) (wo (cells σ env O') H')) (hcl : Cl (cells σ env O') H') (htb : ∀ P, GxR.TabG H P → GxR.TabG H' P) (hout : ∀ (i : Nat) (c : Ct) (a : Addr), getO i env = some c → σ[i]? = some (some (V.ref a)) → ¬O' a)
    (so : SameO env env') (keep : ∀ (j : Nat) (s : Sl), knd s = .z → (env'[j]? = some s ↔ env[j]? = some s))
    (own : ∀ i c, getO i env' = some c → ∃ a : Addr, σ[i]? = some (some (V.ref a)) ∧ RelC z.K (cells σ env O') H' a c) : RelT z O' H' σ env' := by
  have ce := so.cells σ O'
  refine ⟨R.len.trans so.1, fun j d h => ?_, fun j cj h => ?_, fun j k cj ck b hj hk => ?_, fun j cj b hj => ?_, fun j x h => ?_, ?_, fun P hP => htb P (R.tb P hP)⟩
  · rw [← ce]
    obtain ⟨v, h1, h2⟩ := R.dat j d ((keep j _ rfl).mp h)
    exact ⟨v, h1, Dq.monoT wt _ _ h2⟩
  · rw [← ce]
    exact own j cj h
  · obtain ⟨c1, g1⟩ := so.symm.getO hj
    obtain ⟨c2, g2⟩ := so.symm.getO hk
    exact R.inj j k c1 c2 b g1 g2
  · obtain ⟨c1, g1⟩ := so.symm.getO hj
    exact hout j c1 b g1
  · rw [← ce]
    obtain ⟨a, cls, d, h1, h2, h3, h4⟩ := R.ex j x ((keep j _ rfl).mp h)
    exact ⟨a, cls, d, h1, h2, h3, h4.imp id fun ⟨dx, vs, g1, g2, g3⟩ => ⟨dx, vs, g1, wt.but _ _ g2 (fun _ z => by cases z), Dq.monoTF wt _ _ g3⟩⟩
  · rw [← ce]
    exact hcl
theorem RelC.moveT {K : PySem.W.Frag} {S S' : SS} {H' : Hp} {a : Addr} {c : Ct} (wt : UbG.SameT (wo S H) (wo S' H')) (ha : ∀ o, H a = some o → UbP.isC o → H' a = some o) (h : RelC K S H a c) : RelC K S' H' a c := by
  cases c with
  | l ds =>
    obtain ⟨xs, h1, h2⟩ := h
    exact ⟨xs, ha _ h1 True.intro, Dq.monoTAll wt _ _ h2⟩
  | o c fs =>
    obtain ⟨dx, vs, h1, h2⟩ := h
    exact ⟨dx, vs, ha _ h1 True.intro, Dq.monoTF wt _ _ h2⟩
theorem wT_ext {S pS Ex : SS} {H' : Hp} (s : SameC pS H H') (hp : ∀ a, pS a → S a) (hx : ∀ a, Ex a → H a = none) : UbG.SameT (wo S H) (wo (fun a => S a ∨ Ex a) H') := by
  have out : ∀ b o, wo S H b = some o → ¬(S b ∨ Ex b) := fun b o h z => by
    obtain ⟨h1, h2⟩ := wo_in h
    rcases z with z | z
    · exact h1 z
    · rw [hx b z] at h2
      cases h2
  refine ⟨fun b o h t => ?_, fun P ⟨ps, h, t⟩ => ?_⟩
  · obtain ⟨h1, h2⟩ := wo_in h
    rw [wo_out (out b o h)]
    exact s.but b o (fun z => h1 (hp b z)) h2 t
  · obtain ⟨qs, g, t2⟩ := s.tab P ⟨ps, (wo_in h).2, t⟩
    exact ⟨qs, by rw [wo_out (out P _ h)]; exact g, t2⟩
theorem cells_or {Ex : SS} : cells σ env (fun s => O s ∨ Ex s) = fun s => cells σ env O s ∨ Ex s := by
  funext s
  exact propext ⟨fun h => h.elim (fun h => .inl (.inl h)) fun h => h.elim (fun h => .inl (.inr h)) .inr, fun h => h.elim (fun h => h.elim .inl fun h => .inr (.inl h)) fun h => .inr (.inr h)⟩
theorem or_no {S : SS} : (fun s => S s ∨ False) = S := by
  funext s
  exact propext ⟨fun h => h.elim id False.elim, .inl⟩
theorem vals_at {vs dvs : List V} {j : Nat} : ((vs ++ dvs).map some)[j]? = ((vs ++ dvs)[j]?).map some := List.getElem?_map ..
theorem PR.front {K : PySem.W.Frag} {S : SS} {dvs : List V} {dv : List D} : ∀ {vs : List V} {args : List Sl} {cs : List Ct}, args.length = vs.length → PR K S H (vs ++ dvs) (args ++ dv.map .dat) cs → PR K S H vs args cs
  | [], [], cs, _, h => by
    have nopar : ∀ {vs : List V} {ds : List D} {cs : List Ct}, PR K S H vs (ds.map .dat) cs → cs = [] := fun {vs ds} => by
      induction ds generalizing vs with
      | nil => intro cs h; cases h; rfl
      | cons d ds ih =>
        intro cs h
        cases h with
        | oth h => exact ih h
    rw [nopar (show PR K S H dvs (dv.map .dat) cs from h)]
    exact .nil
  | v :: vs, s :: args, cs, e, h => by
    cases h with
    | par h1 h2 => exact .par h1 (PR.front (Nat.succ.inj e) h2)
    | oth h2 => exact .oth (PR.front (Nat.succ.inj e) h2)
  | [], _ :: _, _, e, _ => by cases e
  | _ :: _, [], _, e, _ => by cases e
theorem call_core {f : Fn} {ms : List Bool} {dv : List D} {dvs : List V} {vs : List V} {ws : List Vw} {n : Nat} {Q : VK} (hdv : ∀ S H, DqAll z.K (wo S H) dvs dv) (hn : vs.length + dvs.length = n) (R : RelT z O H σ env) (VV : Paired (VRel z.K (cells σ env O) σ H) vs ws)
    (P : PostG vE z O σ env H Q (callB f ms dv ws env)) : spF z.K z.Tb f n (vs ++ dvs) H Q (WE z.W σ) := by
  unfold callB at P
  cases em : mkArgs ms ws env with
  | none => rw [em] at P; exact P.elim
  | some args =>
    rw [em] at P
    dsimp only at P
    split at P
    · rename_i hnd
      have A := mkArgs_AR R VV em
      have nd := List.nodup_append.mp (nodup_of hnd)
      generalize hσ : (vs ++ dvs).map some = σc
      generalize harg : args ++ dv.map .dat = argc at P
      have hlen := A.len
      have hl2 := (hdv (fun _ => False) H).len
      -- the owned arguments
      have parC : ∀ j c, getO j argc = some c → args[j]? = some (.par c) := fun j c h => by
        rw [← harg] at h
        rcases getO_cases h with g | g
        · rcases Nat.lt_or_ge j args.length with l | l
          · rw [List.getElem?_append_left l] at g
            rcases A.argS _ (List.mem_of_getElem? g) with ⟨d, z⟩ | ⟨d, z⟩ <;> cases z
          · rw [List.getElem?_append_right l, List.getElem?_map] at g
            obtain ⟨_, _, z⟩ := Option.map_eq_some_iff.mp g
            cases z
        · rcases Nat.lt_or_ge j args.length with l | l
          · rw [List.getElem?_append_left l] at g
            exact g
          · rw [List.getElem?_append_right l, List.getElem?_map] at g
            obtain ⟨_, _, z⟩ := Option.map_eq_some_iff.mp g
            cases z
      have atv : ∀ j v, j < args.length → (σc[j]? = some (some v) ↔ vs[j]? = some v) := fun j v l => by
        rw [← hσ, vals_at, List.getElem?_append_left (by omega)]
        constructor
        · intro h
          obtain ⟨x, h1, h2⟩ := Option.map_eq_some_iff.mp h
          cases h2
          exact h1
        · intro h
          rw [h]
          rfl
      have ownP : ∀ s, ownS σc argc s → ∃ i ∈ ownIx ms ws, ∃ c, getO i env = some c ∧ σ[i]? = some (some (V.ref s)) := fun s ⟨j, c, h1, h2⟩ => by
        have g := parC j c h1
        obtain ⟨i, a, _, m, h3, h4, h5⟩ := A.par_at g
        have h6 := (atv j _ (get_lt g)).mp h2
        rw [h4] at h6
        cases h6
        exact ⟨i, m, c, h3, h5⟩
      generalize hO : (fun s => cells σ env O s ∧ ¬ownS σc argc s ∧ ¬∃ i ∈ lookIx ms ws, σ[i]? = some (some (V.ref s))) = Oc
      have sub : ∀ s, cells σc argc Oc s → cells σ env O s := fun s hs => by
        rcases hs with h | h
        · obtain ⟨i, _, c, h1, h2⟩ := ownP s h
          exact .inl ⟨i, c, h1, h2⟩
        · rw [← hO] at h
          exact h.1
      have sameCells : lookIx ms ws = [] → cells σc argc Oc = cells σ env O := fun e => by
        funext s
        refine propext ⟨sub s, fun h => ?_⟩
        by_cases ho : ownS σc argc s
        · exact .inl ho
        · refine .inr ?_
          rw [← hO]
          exact ⟨h, ho, fun ⟨i, m, _⟩ => by rw [e] at m; exact absurd m List.not_mem_nil⟩
      have Rc : RelT (zF z.K z.Tb) Oc H σc argc := by
        refine ⟨by rw [← hσ, ← harg]; simp [hlen, hl2], fun j d h => ?_, fun j c h => ?_, fun j k c c' a h1 h2 h3 h4 => ?_, fun j c a h1 h2 ho => ?_, fun j x h => ?_, fun s hs => R.cl s (sub s hs), R.tb⟩
        · rw [← harg] at h
          rcases Nat.lt_or_ge j args.length with l | l
          · rw [List.getElem?_append_left l] at h
            obtain ⟨v, h1, h2⟩ := A.dat_at h
            refine ⟨v, (atv j v l).mpr h1, ?_⟩
            rcases h2 with h2 | ⟨i, c, a, m, g, rfl, rfl, e⟩
            · exact h2.mono (wo_sub sub)
            · refine (own_at R g e).data (fun hs => ?_) sub
              rcases hs with h | h
              · obtain ⟨i2, m2, c2, g2, e2⟩ := ownP a h
                have : i = i2 := R.inj i i2 _ _ a g g2 e e2
                subst this
                exact nd.2.2 i m2 i m rfl
              · rw [← hO] at h
                exact h.2.2 ⟨i, m, e⟩
          · rw [List.getElem?_append_right l, List.getElem?_map] at h
            obtain ⟨d', h1, h2⟩ := Option.map_eq_some_iff.mp h
            cases h2
            obtain ⟨v, h3, h4⟩ := (hdv (cells σc argc Oc) H).get h1
            refine ⟨v, ?_, h4⟩
            rw [← hσ, vals_at, List.getElem?_append_right (by omega), ← hlen, h3]
            rfl
        · have g := parC j c h
          obtain ⟨i, a, _, m, h3, h4, h5⟩ := A.par_at g
          exact ⟨a, (atv j _ (get_lt g)).mpr h4, (own_at R h3 h5).sub sub⟩
        · have g1 := parC j c h1
          have g2 := parC k c' h2
          exact A.inj R nd.1 g1 g2 ((atv j _ (get_lt g1)).mp h3) ((atv k _ (get_lt g2)).mp h4)
        · rw [← hO] at ho
          exact ho.2.1 ⟨j, c, h1, h2⟩
        · rw [← harg] at h
          rcases Nat.lt_or_ge j args.length with l | l
          · rw [List.getElem?_append_left l] at h
            rcases A.argS _ (List.mem_of_getElem? h) with ⟨d, z⟩ | ⟨d, z⟩ <;> cases z
          · rw [List.getElem?_append_right l, List.getElem?_map] at h
            obtain ⟨_, _, z⟩ := Option.map_eq_some_iff.mp h
            cases z
      have argS : ∀ s ∈ argc, ArgS s := fun s hs => by
        rw [← harg] at hs
        rcases List.mem_append.mp hs with h | h
        · exact A.argS s h
        · obtain ⟨d, _, e⟩ := List.mem_map.mp h
          exact .inl ⟨d, e.symm⟩
      refine ⟨by rw [List.length_append]; exact hn, Oc, argc, by rw [hσ]; exact Rc, argS, ?_⟩
      -- what stands behind the call
      have afterX : ∀ {cs : List Ct} {env' : Env} {H' : Hp} (Ex : SS), SameC (ownS σc argc) H H' → (∀ a, Ex a → H a = none ∧ ∃ o, H' a = some o ∧ isC o) → PR z.K (fun s => cells σc argc Oc s ∨ Ex s) H' (vs ++ dvs) argc cs → (lookIx ms ws = [] ∨ cs.all Ct.noL = true) → putBack ms ws cs env = some env' →
          RelT z (fun s => O s ∨ Ex s) H' σ env' ∧ SameO env env' ∧ SameC (ownS σ env) H H' := fun {cs env' H'} Ex s hX pr hlk hb => by
        have hs : ∀ a, ownS σc argc a → ownS σ env a := fun a h => by
          obtain ⟨i, _, c, h1, h2⟩ := ownP a h
          exact ⟨i, c, h1, h2⟩
        have s' := s.sub hs
        have ce : cells σ env (fun s => O s ∨ Ex s) = fun s => cells σ env O s ∨ Ex s := cells_or
        have cl' : Cl (cells σ env (fun s => O s ∨ Ex s)) H' := by
          rw [ce]
          exact fun a ha => ha.elim (fun h => (s'.sub fun a h => .inl h).clS R.cl a h) fun h => (hX a h).2
        have wt : UbG.SameT (wo (cells σ env O) H) (wo (cells σ env (fun s => O s ∨ Ex s)) H') := by
          rw [ce]
          exact wT_ext s (fun a h => .inl (hs a h)) fun a h => (hX a h).1
        have pr : PR z.K (fun s => cells σc argc Oc s ∨ Ex s) H' vs args cs := PR.front (dvs := dvs) (dv := dv) hlen (by rw [harg]; exact pr)
        have up : ∀ {vs : List V} {args : List Sl} {cs : List Ct}, (lookIx ms ws = [] ∨ cs.all Ct.noL = true) → PR z.K (fun s => cells σc argc Oc s ∨ Ex s) H' vs args cs → PR z.K (cells σ env (fun s => O s ∨ Ex s)) H' vs args cs := fun {vs args cs} hlk pr => by
          induction pr with
          | nil => exact .nil
          | @par a c c0 _ _ _ h _ ih =>
            refine .par ?_ (ih (hlk.imp id fun h => by rw [List.all_cons] at h; exact (Bool.and_eq_true_iff.mp h).2))
            rcases hlk with e | e
            · rw [ce, ← sameCells e]
              exact h
            · rw [List.all_cons] at e
              have e := (Bool.and_eq_true_iff.mp e).1
              cases c with
              | l ds =>
                obtain ⟨xs, h1, h2⟩ := h
                exact ⟨xs, h1, Dq.apartAll cl' ds xs e (h2.mono wo_same)⟩
              | o _ _ => cases e
          | oth _ ih => exact .oth (ih hlk)
        obtain ⟨so, keep, own⟩ := putBack_at A (up hlk pr) (SameO.refl env) hb
        refine ⟨R.back wt cl' s.tab (fun i c a g e hO => hO.elim (R.out i c a g e) fun h => ?_) so keep fun i c g => ?_, so, s'⟩
        · obtain ⟨o, h1, _⟩ := (own_at R g e).isC
          rw [(hX a h).1] at h1
          cases h1
        · rcases own i c g with ⟨n1, g1⟩ | r
          · obtain ⟨a, h1, h2⟩ := R.own i c g1
            refine ⟨a, h1, h2.moveT wt fun o ho hc => s.but a o (fun hp => ?_) ho (isC_tbl hc)⟩
            obtain ⟨i2, m2, c2, g2, e2⟩ := ownP a hp
            have : i = i2 := R.inj i i2 _ _ a g1 g2 h1 e2
            exact n1 (by rw [this]; exact m2)
          · exact r
      have after : ∀ {cs : List Ct} {env' : Env} {H' : Hp}, SameC (ownS σc argc) H H' → PR z.K (cells σc argc Oc) H' (vs ++ dvs) argc cs → (lookIx ms ws = [] ∨ cs.all Ct.noL = true) → putBack ms ws cs env = some env' → RelT z O H' σ env' ∧ SameO env env' ∧ SameC (ownS σ env) H H' := fun {cs env' H'} s pr hlk hb => by
        have h := afterX (fun _ => False) s (fun _ z => z.elim) (by rw [or_no]; exact pr) hlk hb
        rw [or_no] at h
        exact h
      have lkE : (lookIx ms ws).isEmpty = true → lookIx ms ws = [] := fun h => List.isEmpty_iff.mp h
      cases ef : f argc with
      | ret w cs =>
        rw [ef] at P
        dsimp only at P
        split at P
        · rename_i hp
          cases eb : putBack ms ws cs env with
          | none => rw [eb] at P; exact P.elim
          | some env' =>
            rw [eb] at P
            unfold passOk at hp
            obtain ⟨hp1, hp2⟩ := Bool.and_eq_true_iff.mp hp
            intro v H' s pr V' N
            rw [hσ] at s pr V'
            have hlk : lookIx ms ws = [] ∨ (w.noL = true ∧ cs.all Ct.noL = true) := (Bool.or_eq_true_iff.mp hp2).imp lkE fun h => Bool.and_eq_true_iff.mp h
            have pr0 : PR z.K (cells σc argc Oc) H' (vs ++ dvs) argc cs := by
              cases w with
              | f c =>
                have go : ∀ {vs : List V} {args : List Sl} {cs : List Ct}, PR z.K (apart v (.f c) (cells σc argc Oc)) H' vs args cs → PR z.K (cells σc argc Oc) H' vs args cs := fun {vs args cs} pr => by
                  induction pr with
                  | nil => exact .nil
                  | par h _ ih => exact .par (h.sub fun s hs => .inl hs) ih
                  | oth _ ih => exact .oth ih
                exact go pr
              | d x => exact pr
              | o i => exact pr
            obtain ⟨R', so, s'⟩ := after s pr0 (hlk.imp id (·.2)) eb
            refine P v H' s' R' so ⟨?_, N, ?_⟩
            rotate_left
            · cases w with
              | f c =>
                intro a ea
                subst ea
                obtain ⟨b, eb', _, hc⟩ := V'
                cases eb'
                refine (afterX (fun s => s = a) s (fun b hb => by rw [hb]; exact ⟨N a rfl, hc.isC⟩) ?_ (hlk.imp id (·.2)) eb).1
                have e : (fun s => cells σc argc Oc s ∨ s = a) = apart (.ref a) (.f c) (cells σc argc Oc) := by
                  funext s
                  exact propext ⟨fun h => h.imp id fun h => by rw [h], fun h => h.imp id fun h => by cases h; rfl⟩
                rw [e]
                exact pr
              | d x => exact True.intro
              | o i => exact True.intro
            rw [← so.cells σ O]
            cases w with
            | o i => cases hp1
            | d x =>
              have V' : Dq z.K (wo (cells σc argc Oc) H') v x := V'
              show Dq z.K (wo (cells σ env O) H') v x
              rcases hlk with e | e
              · rw [← sameCells e]
                exact V'
              · exact Dq.apart ((s'.sub fun a h => .inl h).clS R.cl) x v e.1 V'.out
            | f c =>
              rcases hlk with e | e
              · rw [← sameCells e]
                exact V'
              · cases e.1
        · exact P.elim
      | exc x cs =>
        rw [ef] at P
        dsimp only at P
        split at P
        · rename_i hp
          cases eb : putBack ms ws cs env with
          | none => rw [eb] at P; exact P.elim
          | some env' =>
            rw [eb] at P
            intro cls d H' s pr X
            rw [hσ] at s pr X
            obtain ⟨R', so, s'⟩ := after s pr (.inl (lkE hp)) eb
            refine P cls d H' s' R' so ?_
            rw [← so.cells σ O, ← sameCells (lkE hp)]
            exact X
        · exact P.elim
      | bad => rw [ef] at P; exact P.elim
    · exact P.elim
end
section
variable {X : Cx} {z : Z} {e : Expr} {es : List Expr} {fs : List (M Vw)} {x : Str} {k j n : Nat} {ps : List Str} {f : Fn} {ms : List Bool} {p pos : Pos} {dvs : List V} {dv : List D}
theorem eArgs_len : ∀ {fs : List (M Vw)} {e e' : Env} {ws : List Vw}, eArgs fs e = .ok ws e' → ws.length = fs.length
  | [], _, _, _, h => by cases h; rfl
  | f :: fs, e, e', ws, h => by
    unfold eArgs bnd at h
    cases e1 : f e with
    | exc _ _ => rw [e1] at h; cases h
    | bad => rw [e1] at h; cases h
    | ok w e2 =>
      rw [e1] at h
      dsimp only at h
      cases e3 : eArgs fs e2 with
      | exc _ _ => rw [e3] at h; cases h
      | bad => rw [e3] at h; cases h
      | ok ws' e4 =>
        rw [e3] at h
        cases h
        rw [List.length_cons, List.length_cons, eArgs_len e3]
/-- the arguments, with how many there are -/
theorem post_args {O : SS} {σ : L2.St} {env : Env} {H : Hp} {Q : VK} {k : List Vw → M Vw} (R : RelT z O H σ env) (P : PostG vE z O σ env H Q (bnd (eArgs fs) k env)) :
    tG vA z (eArgs fs) σ H fun vs H1 => ∃ env1 ws, RelT z O H1 σ env1 ∧ SameC (ownS σ env) H H1 ∧ SameO env env1 ∧ Paired (VRel z.K (cells σ env1 O) σ H1) vs ws ∧ vs.length = fs.length ∧ PostG vE z O σ env1 H1 Q (k ws env1) := by
  refine ⟨O, env, R, ?_⟩
  unfold bnd at P
  cases e : eArgs fs env with
  | ok w env1 =>
    rw [e] at P
    intro v H1 s1 R1' so V
    have hl : v.length = w.length := Paired.length V
    exact ⟨env1, w, R1', s1, so, V, hl.trans (eArgs_len e), PostG.move bkE s1 so P⟩
  | exc x env1 => rw [e] at P; exact P
  | bad => rw [e] at P; exact P
theorem pu_call (hK : X.K = z.K) (C : Cal X.prog X.w X.K X.mg X.base x k ps dvs (spF X.K z.Tb f n)) (hdv : ∀ S H, DqAll z.K (wo S H) dvs dv) (hn : (es.length + 1) + dvs.length = n) (hf : fs.length = es.length + 1) (hr : Room j X.A) (hj : k ≤ j) (hg : Gl X x) (tk : Takes X z.W) (ha : PA X (e :: es) (tA z (eArgs fs)))
    (hdb : (x == ("__debug__" : Str)) = false := by decide) (he : starEach (e :: es) X.env = (false, eval e X.env) :: starEach es X.env := by rfl) (hpl : (backTo pos (starEach es X.env)).any (·.1) = false := by rfl) :
    PE X (.Call (.Name x p) (e :: es) [] pos) (tP z (eCall f ms fs dv)) := by
  obtain ⟨ff, fd, ds, F, hm, hk, hd, hb⟩ := C.ex
  refine ⟨fun pins s σ H Q I h => ?_⟩
  obtain ⟨O, env, R, P⟩ := h
  refine wpAny_Call_Name_kw (ld_glob I hg hm ?_ hdb)
  refine PySem.W.callWith_K (h₀ := X.base) I.ok.mod.kin hk (thn (ha.run pos pins s σ H _ I (post_args R P)) fun us s1 ⟨vs, H1, I1, r, env1, ws, R1, s1', so, V, hl, P1⟩ => ⟨I1.kIn, ?_⟩) he hpl
  refine run_fnSD F (hr.mono hj) hb hd (passAt tk σ) I1 r ?_
  rw [hK]
  exact call_core hdv (by rw [hl, hf]; exact hn) R1 V P1
end
end UbP
namespace UbP
open PySem PySem.Spec PyProof.Rows L2 UbM Ub
structure Fm where
  O : SS
  σ0 : L2.St
  env0 : Env
  H0 : Hp
  ns : Nat → Prop
def parS (B : Fm) : SS := fun s => ∃ (i : Nat) (c : Ct), B.env0[i]? = some (Sl.par c) ∧ B.σ0[i]? = some (some (V.ref s))
structure Base (B : Fm) (σ : L2.St) (env : Env) (H : Hp) : Prop where
  len : env.length = B.env0.length
  par : ∀ i : Nat, (∃ c, env[i]? = some (Sl.par c)) ↔ ∃ c, B.env0[i]? = some (Sl.par c)
  at_ : ∀ (i : Nat) (c : Ct), env[i]? = some (Sl.par c) → σ[i]? = B.σ0[i]?
  heap : SameC (parS B) B.H0 H
  new : ∀ (i : Nat) (c : Ct) (a : Addr), env[i]? = some (Sl.own c) → σ[i]? = some (some (V.ref a)) → B.H0 a = none
  nn : ∀ i : Nat, (∃ r, env[i]? = some (Sl.nst r)) ↔ B.ns i
theorem SameO.nst {env env' : Env} (so : SameO env env') {i : Nat} {r : List (List UbP.D)} (h : env[i]? = some (Sl.nst r)) : env'[i]? = some (Sl.nst r) := by
  have h1 := so.2 i
  rw [h] at h1
  cases g : env'[i]? with
  | none => rw [g] at h1; cases h1
  | some s =>
    rw [g] at h1
    cases s with
    | nst r' => cases h1; rfl
    | _ => cases h1
theorem SameO.par {env env' : Env} (so : SameO env env') {i : Nat} : (∃ c, env'[i]? = some (Sl.par c)) ↔ ∃ c, env[i]? = some (Sl.par c) := by
  have h := so.2 i
  constructor
  · rintro ⟨c, e⟩
    rw [e] at h
    cases g : env[i]? with
    | none => rw [g] at h; cases h
    | some s =>
      rw [g] at h
      cases s with
      | par c => exact ⟨c, rfl⟩
      | _ => cases h
  · rintro ⟨c, e⟩
    rw [e] at h
    cases g : env'[i]? with
    | none => rw [g] at h; cases h
    | some s =>
      rw [g] at h
      cases s with
      | par c => exact ⟨c, rfl⟩
      | _ => cases h
theorem SameO.own1 {env env' : Env} (so : SameO env env') {i : Nat} {c : Ct} (e : env'[i]? = some (Sl.own c)) : ∃ c, env[i]? = some (Sl.own c) := by
  have h := so.2 i
  rw [e] at h
  cases g : env[i]? with
  | none => rw [g] at h; cases h
  | some s =>
    rw [g] at h
    cases s with
    | own c => exact ⟨c, rfl⟩
    | _ => cases h
theorem getO_own {env : Env} {i : Nat} {c : Ct} (h : env[i]? = some (Sl.own c)) : getO i env = some c := by unfold getO; rw [h]
theorem getO_par {env : Env} {i : Nat} {c : Ct} (h : env[i]? = some (Sl.par c)) : getO i env = some c := by unfold getO; rw [h]
section
variable {z : Z} {B : Fm} {O : SS} {σ σ' σ1 : L2.St} {env env' env1 : Env} {H H' H1 : Hp} {α β : Type} {D : Ends}
theorem SameC.into {S S0 : SS} {H0 : Hp} (h : SameC S0 H0 H) (e : SameC S H H') (i : ∀ s, S s → S0 s ∨ H0 s = none) : SameC S0 H0 H' := by
  refine ⟨fun b o n g t => ?_, fun P g => e.tab P (h.tab P g), fun s hs g => ?_, fun b g => h.dom b (e.dom b g)⟩
  · have g1 := h.but b o n g t
    refine e.but b o (fun z => ?_) g1 t
    rcases i b z with z | z
    · exact n z
    · rw [z] at g; cases g
  · obtain ⟨o, g1, c⟩ := h.cl s hs g
    by_cases hS : S s
    · exact e.cl s hS ⟨o, g1, c⟩
    · exact ⟨o, e.but s o hS g1 (isC_tbl c), c⟩
theorem Base.own_in (b : Base B σ env H) : ∀ s, ownS σ env s → parS B s ∨ B.H0 s = none := fun s ⟨i, c, g, e⟩ => by
  rcases getO_cases g with h | h
  · exact .inr (b.new i c s h e)
  · obtain ⟨c', h'⟩ := (b.par i).mp ⟨c, h⟩
    exact .inl ⟨i, c', h', by rw [← b.at_ i c h]; exact e⟩
theorem Base.step (b : Base B σ env H) (s : SameC (ownS σ env) H H') (so : SameO env env') : Base B σ env' H' :=
  ⟨so.1.symm.trans b.len, fun i => so.par.trans (b.par i), fun i c h => by
    obtain ⟨c', h'⟩ := so.par.mp ⟨c, h⟩
    exact b.at_ i c' h', b.heap.into s b.own_in, fun i c a h e => by
    obtain ⟨c', h'⟩ := so.own1 h
    exact b.new i c' a h' e, fun i => Iff.trans ⟨fun ⟨r, h⟩ => ⟨r, so.symm.nst h⟩, fun ⟨r, h⟩ => ⟨r, so.nst h⟩⟩ (b.nn i)⟩
theorem Base.mono (b : Base B σ env H) (e : Kp H H') : Base B σ env H' := b.step (Kp.C e) (SameO.refl _)
/-- what a step keeps: what is not owned, the outer cells, the lists of own lists -/
structure Stp (O : SS) (σ : L2.St) (env : Env) (H : Hp) (σ' : L2.St) (env' : Env) (H' : Hp) : Prop where
  w : UbG.SameT (wo (cells σ env O) H) (wo (cells σ' env' O) H')
  o : ∀ b, O b → H' b = H b
  m : ∀ (i : Nat) (r : List (List UbP.D)), env[i]? = some (Sl.nst r) → σ'[i]? = σ[i]? ∧ env'[i]? = some (Sl.nst r)
theorem Stp.refl : Stp O σ env H σ env H := ⟨UbG.SameT.refl _, fun _ _ => rfl, fun _ _ h => ⟨rfl, h⟩⟩
theorem Stp.trans (a : Stp O σ env H σ1 env1 H1) (b : Stp O σ1 env1 H1 σ' env' H') : Stp O σ env H σ' env' H' :=
  ⟨UbG.SameT.trans a.w b.w, fun c h => (b.o c h).trans (a.o c h), fun i r h => ⟨(b.m i r (a.m i r h).2).1.trans (a.m i r h).1, (b.m i r (a.m i r h).2).2⟩⟩
/-- the outer cells stay -/
theorem outer_same {z : Z} (R : RelT z O H σ env) (s : SameC (ownS σ env) H H') : ∀ b, O b → H' b = H b := fun b hb => by
  obtain ⟨o, h, c⟩ := R.cl b (.inr hb)
  rw [h]
  refine s.but b o (fun ⟨i, ct, g, e⟩ => R.out i ct b g e hb) h (isC_tbl c)
theorem stp_expr {z : Z} (R : RelT z O H σ env) (s : SameC (ownS σ env) H H') (so : SameO env env') : Stp O σ env H σ env' H' := by
  refine ⟨?_, outer_same R s, fun i r h => ⟨rfl, so.nst h⟩⟩
  rw [← so.cells σ O]
  exact (s.sub fun a h => .inl h).wT
theorem stp_kp {z : Z} (R : RelT z O H σ env) (e : Kp H H') : Stp O σ env H σ env H' := stp_expr R (Kp.C e) (SameO.refl env)
/-- behind a statement -/
def PostS (z : Z) (B : Fm) (σ : L2.St) (env : Env) (H : Hp) (D : Ends) : Res Fl → Prop
  | .ok .nx env' => ∀ σ' H', RelT z B.O H' σ' env' → Base B σ' env' H' → Stp B.O σ env H σ' env' H' → D.nx σ' H'
  | .ok .bk env' => ∀ σ' H', RelT z B.O H' σ' env' → Base B σ' env' H' → Stp B.O σ env H σ' env' H' → D.bk σ' H'
  | .ok .ct env' => ∀ σ' H', RelT z B.O H' σ' env' → Base B σ' env' H' → Stp B.O σ env H σ' env' H' → D.ct σ' H'
  | .ok (.rt w) env' => ∀ v σ' H', RelT z B.O H' σ' env' → Base B σ' env' H' → VRel z.K (cells σ' env' B.O) σ' H' v w → NewV B.H0 v w → AwayV z B.O σ' env' H' v w → D.rt v H'
  | .exc x env' => ∀ cls d σ' H', RelT z B.O H' σ' env' → Base B σ' env' H' → Stp B.O σ env H σ' env' H' → ExR z.K (wo (cells σ' env' B.O) H') x cls d → z.W cls d σ' H'
  | .bad => False
def tS (z : Z) (f : M Fl) : TS := fun D σ H => ∃ B env, RelT z B.O H σ env ∧ Base B σ env H ∧ PostS z B σ env H D (f env)
theorem PostS.move {r : Res Fl} (s : Stp B.O σ env H σ1 env1 H1) (P : PostS z B σ env H D r) : PostS z B σ1 env1 H1 D r := by
  cases r with
  | ok f e =>
    cases f with
    | nx => exact fun σ' H' a b c => P σ' H' a b (s.trans c)
    | bk => exact fun σ' H' a b c => P σ' H' a b (s.trans c)
    | ct => exact fun σ' H' a b c => P σ' H' a b (s.trans c)
    | rt w => exact P
  | exc x e => exact fun cls d σ' H' a b c => P cls d σ' H' a b (s.trans c)
  | bad => exact P
/-- an expression within a statement -/
theorem postS_bnd0 {R1 : VRt α β} {m : M α} {k : α → M Fl} (R : RelT z B.O H σ env) (b : Base B σ env H) (P : PostS z B σ env H D (bnd m k env)) :
    tG R1 z m σ H fun v H1 => ∃ env1 w, RelT z B.O H1 σ env1 ∧ Base B σ env1 H1 ∧ SameC (ownS σ env) H H1 ∧ SameO env env1 ∧ R1 z B.O env1 σ H H1 v w ∧ PostS z B σ env H D (k w env1) := by
  refine ⟨B.O, env, R, ?_⟩
  unfold bnd at P
  cases e : m env with
  | ok w env1 =>
    rw [e] at P
    intro v H1 s1 R1' so V
    exact ⟨env1, w, R1', b.step s1 so, s1, so, V, P⟩
  | exc x env1 =>
    rw [e] at P
    intro cls d H1 s1 R1' so X
    exact P cls d σ H1 R1' (b.step s1 so) (stp_expr R s1 so) X
  | bad => rw [e] at P; exact P
theorem postS_bnd {R1 : VRt α β} {m : M α} {k : α → M Fl} (R : RelT z B.O H σ env) (b : Base B σ env H) (P : PostS z B σ env H D (bnd m k env)) :
    tG R1 z m σ H fun v H1 => ∃ env1 w, RelT z B.O H1 σ env1 ∧ Base B σ env1 H1 ∧ SameC (ownS σ env) H H1 ∧ SameO env env1 ∧ R1 z B.O env1 σ H H1 v w ∧ PostS z B σ env1 H1 D (k w env1) :=
  tG_mono (postS_bnd0 R b P) fun v H1 ⟨env1, w, h1, h2, h3, h4, h5, P1⟩ => ⟨env1, w, h1, h2, h3, h4, h5, PostS.move (stp_expr R h3 h4) P1⟩
theorem postS_opt {o : Option α} {k : α → M Fl} (P : PostS z B σ env H D (bnd (optM o) k env)) : ∃ a, o = some a ∧ PostS z B σ env H D (k a env) := by
  unfold bnd optM at P
  cases o with
  | none => exact P.elim
  | some a => exact ⟨a, rfl, P⟩
theorem postS_now {w : Vw} {k : UbP.D → M Fl} (P : PostS z B σ env H D (bnd (nowM w) k env)) : ∃ a, w.now env = some a ∧ PostS z B σ env H D (k a env) := by
  unfold bnd nowM at P
  cases e : w.now env with
  | none => rw [e] at P; exact P.elim
  | some a => rw [e] at P; exact ⟨a, rfl, P⟩
theorem postS_stay {w : Vw} {k : UbP.D → M Fl} (P : PostS z B σ env H D (bnd (stayM w) k env)) : ∃ a, w.stay = some a ∧ PostS z B σ env H D (k a env) := postS_opt P
def slots : Tg → List Nat
  | .nm i => [i]
  | .tp ts => slotsL ts
where slotsL : List Tg → List Nat
  | [] => []
  | t :: ts => slots t ++ slotsL ts
structure Chg (is : List Nat) (σ : L2.St) (env : Env) (σ' : L2.St) (env' : Env) : Prop where
  l1 : σ'.length = σ.length
  l2 : env'.length = env.length
  s : ∀ j : Nat, j ∉ is → σ'[j]? = σ[j]?
  e : ∀ j : Nat, j ∉ is → env'[j]? = env[j]?
  p : ∀ j : Nat, j ∈ is → (∀ c, env[j]? ≠ some (Sl.par c)) ∧ ∃ s, env'[j]? = some s ∧ knd s = .z
  q : ∀ (j : Nat), j ∈ is → ∀ r : List (List UbP.D), env[j]? ≠ some (Sl.nst r)
theorem Chg.getO {is : List Nat} (h : Chg is σ env σ' env') {j : Nat} {c : Ct} (g : getO j env' = some c) : j ∉ is ∧ UbP.getO j env = some c := by
  have n : j ∉ is := fun m => by
    obtain ⟨s, e, k⟩ := (h.p j m).2
    rcases getO_cases g with q | q
    · rw [e] at q; cases q; cases k
    · rw [e] at q; cases q; cases k
  refine ⟨n, ?_⟩
  unfold UbP.getO at g ⊢
  rw [h.e j n] at g
  exact g
theorem Chg.cells {is : List Nat} (h : Chg is σ env σ' env') : ∀ s, UbP.cells σ' env' O s → UbP.cells σ env O s := fun s hs => by
  rcases hs with ⟨j, c, g, e⟩ | hs
  · obtain ⟨n, g'⟩ := h.getO g
    exact .inl ⟨j, c, g', by rw [← h.s j n]; exact e⟩
  · exact .inr hs
theorem Chg.trans {is js : List Nat} (h : Chg is σ env σ1 env1) (g : Chg js σ1 env1 σ' env') : Chg (is ++ js) σ env σ' env' := by
  refine ⟨g.l1.trans h.l1, g.l2.trans h.l2, fun j n => ?_, fun j n => ?_, fun j m => ?_, fun j m r e => ?_⟩
  · rw [List.mem_append, not_or] at n
    exact (g.s j n.2).trans (h.s j n.1)
  · rw [List.mem_append, not_or] at n
    exact (g.e j n.2).trans (h.e j n.1)
  · by_cases hj : j ∈ js
    · refine ⟨fun c e => ?_, (g.p j hj).2⟩
      by_cases hi : j ∈ is
      · exact (h.p j hi).1 c e
      · exact (g.p j hj).1 c (by rw [h.e j hi]; exact e)
    · have hi : j ∈ is := (List.mem_append.mp m).resolve_right hj
      obtain ⟨a, s, e, k⟩ := h.p j hi
      exact ⟨a, s, by rw [g.e j hj]; exact e, k⟩
  · by_cases hi : j ∈ is
    · exact h.q j hi r e
    · exact g.q j ((List.mem_append.mp m).resolve_left hi) r (by rw [h.e j hi]; exact e)
theorem Chg.stp {is : List Nat} (h : Chg is σ env σ' env') : Stp O σ env H σ' env' H := ⟨UbG.sameT (wo_sub h.cells), fun _ _ => rfl, fun i r e => by
  have n : i ∉ is := fun m => h.q i m r e
  exact ⟨h.s i n, (h.e i n).trans e⟩⟩
theorem Chg.base {is : List Nat} (h : Chg is σ env σ' env') (b : Base B σ env H) : Base B σ' env' H := by
  have par : ∀ {i : Nat} {c : Ct}, env'[i]? = some (Sl.par c) → i ∉ is := fun {i c} e m => by
    obtain ⟨s, e', k⟩ := (h.p i m).2
    rw [e] at e'; cases e'; cases k
  have nst : ∀ {i : Nat} {r : List (List UbP.D)}, env'[i]? = some (Sl.nst r) → i ∉ is := fun {i r} e m => by
    obtain ⟨s, e', k⟩ := (h.p i m).2
    rw [e] at e'; cases e'; cases k
  refine ⟨h.l2.trans b.len, fun i => Iff.trans ⟨fun ⟨c, e⟩ => ⟨c, by rw [← h.e i (par e)]; exact e⟩, fun ⟨c, e⟩ => ⟨c, by rw [h.e i fun m => (h.p i m).1 c e]; exact e⟩⟩ (b.par i), fun i c e => ?_, b.heap, fun i c a e e' => ?_, fun i => Iff.trans ⟨fun ⟨r, e⟩ => ⟨r, by rw [← h.e i (nst e)]; exact e⟩, fun ⟨r, e⟩ => ⟨r, by rw [h.e i fun m => h.q i m r e]; exact e⟩⟩ (b.nn i)⟩
  · have n := par e
    rw [h.s i n]
    exact b.at_ i c (by rw [← h.e i n]; exact e)
  · obtain ⟨n, g⟩ := h.getO (getO_own e)
    exact b.new i c a (by rw [← h.e i n]; exact e) (by rw [← h.s i n]; exact e')
/-- the data slots of is are set anew -/
theorem RelT.chg {is : List Nat} (R : RelT z O H σ env) (h : Chg is σ env σ' env') (hd : ∀ j d, j ∈ is → env'[j]? = some (Sl.dat d) → ∃ v : V, σ'[j]? = some (some v) ∧ Dq z.K (wo (cells σ' env' O) H) v d)
    (hx : ∀ j x, j ∈ is → env'[j]? ≠ some (Sl.ex x)) : RelT z O H σ' env' := by
  have sub := h.cells (O := O)
  refine ⟨h.l1.trans (R.len.trans h.l2.symm), fun j d e => ?_, fun j c g => ?_, fun j k c c' a g1 g2 e1 e2 => ?_, fun j c a g e => ?_, fun j x e => ?_, fun s hs => R.cl s (sub s hs), R.tb⟩
  · by_cases hj : j ∈ is
    · exact hd j d hj e
    · obtain ⟨v, h1, h2⟩ := R.dat j d (by rw [← h.e j hj]; exact e)
      exact ⟨v, by rw [h.s j hj]; exact h1, h2.mono (wo_sub sub)⟩
  · obtain ⟨n, g'⟩ := h.getO g
    obtain ⟨a, h1, h2⟩ := R.own j c g'
    exact ⟨a, by rw [h.s j n]; exact h1, h2.sub sub⟩
  · obtain ⟨n1, g1'⟩ := h.getO g1
    obtain ⟨n2, g2'⟩ := h.getO g2
    exact R.inj j k c c' a g1' g2' (by rw [← h.s j n1]; exact e1) (by rw [← h.s k n2]; exact e2)
  · obtain ⟨n1, g1'⟩ := h.getO g
    exact R.out j c a g1' (by rw [← h.s j n1]; exact e)
  · by_cases hj : j ∈ is
    · exact absurd e (hx j x hj)
    · obtain ⟨a, cls, d, h1, h2, h3, h4⟩ := R.ex j x (by rw [← h.e j hj]; exact e)
      exact ⟨a, cls, d, h1, by rw [h.s j hj]; exact h2, h3, h4.imp id fun ⟨dx, vs, g1, g2, g3⟩ => ⟨dx, vs, g1, wo_sub sub _ _ g2, g3.mono (wo_sub sub)⟩⟩
theorem putN_some {i : Nat} {d : UbP.D} (h : putN i d env = some env') : env' = env.set i (.dat d) ∧ i < env.length ∧ (∀ c, env[i]? ≠ some (Sl.par c)) ∧ ∀ r, env[i]? ≠ some (Sl.nst r) := by
  unfold putN at h
  split at h
  · rename_i g; cases h; exact ⟨rfl, get_lt g, fun c e => (by rw [g] at e; cases e), fun r e => (by rw [g] at e; cases e)⟩
  · rename_i g; cases h; exact ⟨rfl, get_lt g, fun c e => (by rw [g] at e; cases e), fun r e => (by rw [g] at e; cases e)⟩
  · rename_i g; cases h; exact ⟨rfl, get_lt g, fun c e => (by rw [g] at e; cases e), fun r e => (by rw [g] at e; cases e)⟩
  · cases h
theorem setN {i : Nat} {d : UbP.D} {v : V} (R : RelT z O H σ env) (h : putN i d env = some env') (hv : Dq z.K (wo (cells σ env O) H) v d) : RelT z O H (σ.set i (some v)) env' ∧ Chg [i] σ env (σ.set i (some v)) env' := by
  obtain ⟨rfl, hl, np, nn⟩ := putN_some h
  have C : Chg [i] σ env (σ.set i (some v)) (env.set i (.dat d)) := by
    refine ⟨List.length_set .., List.length_set .., fun j n => ?_, fun j n => ?_, fun j m => ?_, fun j m => ?_⟩
    · exact List.getElem?_set_ne fun z => n (by rw [z]; exact List.mem_singleton.mpr rfl)
    · exact List.getElem?_set_ne fun z => n (by rw [z]; exact List.mem_singleton.mpr rfl)
    · have e := List.mem_singleton.mp m
      subst e
      exact ⟨np, _, List.getElem?_set_self hl, rfl⟩
    · have e := List.mem_singleton.mp m
      subst e
      exact nn
  refine ⟨R.chg C (fun j d' m e => ?_) (fun j x m e => ?_), C⟩
  · have e' := List.mem_singleton.mp m
    subst e'
    rw [List.getElem?_set_self hl] at e
    cases e
    exact ⟨v, List.getElem?_set_self (by rw [R.len]; exact hl), hv.mono (wo_sub C.cells)⟩
  · have e' := List.mem_singleton.mp m
    subst e'
    rw [List.getElem?_set_self hl] at e
    cases e
end
mutual
def gT (K : PySem.W.Frag) : Tg → TG
  | .nm i => gName i
  | .tp ts => gTup K ts.length (gTs K ts)
def gTs (K : PySem.W.Frag) : List Tg → TGs
  | [] => gNil
  | t :: ts => gCons (gT K t) (gTs K ts)
end
section
variable {z : Z} {B : Fm} {O : SS} {H H' H1 : Hp}
mutual
theorem putT_ok : ∀ (tg : Tg) (d : UbP.D) (v : V) (σ : L2.St) (env env' : Env), RelT z O H σ env → putT tg d env = some env' → Dq z.K (wo (cells σ env O) H) v d →
    ∃ σ', (∀ Q : L2.St → Hp → Prop, Q σ' H → gT z.K tg v σ H Q) ∧ RelT z O H σ' env' ∧ Chg (slots tg) σ env σ' env'
  | .nm i, d, v, σ, env, env', R, h, hv => by
    unfold putT at h
    obtain ⟨R', C⟩ := setN R h hv
    refine ⟨_, fun Q q => ?_, R', by unfold slots; exact C⟩
    unfold gT
    exact q
  | .tp ts, .tup ds, v, σ, env, env', R, h, hv => by
    unfold putT at h
    cases hv with
    | tup h1 h2 =>
      obtain ⟨σ', q, R', C⟩ := putTs_ok ts ds _ σ env env' R h h2
      refine ⟨σ', fun Q k => ?_, R', by unfold slots; exact C⟩
      unfold gT
      exact ⟨_, _, rfl, Same.tseq wo_same h1, by rw [h2.len]; exact (putTs_len h).symm, q Q k⟩
  | .tp ts, .non, v, σ, env, env', R, h, hv => by unfold putT at h; cases h
  | .tp ts, .bl _, v, σ, env, env', R, h, hv => by unfold putT at h; cases h
  | .tp ts, .int _, v, σ, env, env', R, h, hv => by unfold putT at h; cases h
  | .tp ts, .str _, v, σ, env, env', R, h, hv => by unfold putT at h; cases h
  | .tp ts, .lst _, v, σ, env, env', R, h, hv => by unfold putT at h; cases h
  | .tp ts, .lsf _, v, σ, env, env', R, h, hv => by unfold putT at h; cases h
  | .tp ts, .obj _ _, v, σ, env, env', R, h, hv => by unfold putT at h; cases h
theorem putTs_ok : ∀ (ts : List Tg) (ds : List UbP.D) (vs : List V) (σ : L2.St) (env env' : Env), RelT z O H σ env → putTs ts ds env = some env' → DqAll z.K (wo (cells σ env O) H) vs ds →
    ∃ σ', (∀ Q : L2.St → Hp → Prop, Q σ' H → gTs z.K ts vs σ H Q) ∧ RelT z O H σ' env' ∧ Chg (slots.slotsL ts) σ env σ' env'
  | [], [], vs, σ, env, env', R, h, hv => by
    unfold putTs at h
    cases h
    cases hv
    refine ⟨σ, fun Q q => by unfold gTs; exact ⟨rfl, q⟩, R, ?_⟩
    unfold slots.slotsL
    exact ⟨rfl, rfl, fun _ _ => rfl, fun _ _ => rfl, fun j m => absurd m List.not_mem_nil, fun j m => absurd m List.not_mem_nil⟩
  | t :: ts, d :: ds, vs, σ, env, env', R, h, hv => by
    unfold putTs at h
    obtain ⟨env1, e1, e2⟩ := Option.bind_eq_some_iff.mp h
    cases hv with
    | cons h1 h2 =>
      obtain ⟨σ1, q1, R1, C1⟩ := putT_ok t d _ σ env env1 R e1 h1
      obtain ⟨σ2, q2, R2, C2⟩ := putTs_ok ts ds _ σ1 env1 env' R1 e2 (h2.mono (wo_sub C1.cells))
      refine ⟨σ2, fun Q q => ?_, R2, by unfold slots.slotsL; exact C1.trans C2⟩
      unfold gTs
      exact ⟨_, _, rfl, q1 _ (q2 Q q)⟩
  | [], _ :: _, vs, σ, env, env', R, h, hv => by unfold putTs at h; cases h
  | _ :: _, [], vs, σ, env, env', R, h, hv => by unfold putTs at h; cases h
theorem putTs_len : ∀ {ts : List Tg} {ds : List UbP.D} {env env' : Env}, putTs ts ds env = some env' → ts.length = ds.length
  | [], [], _, _, _ => rfl
  | t :: ts, d :: ds, _, _, h => by
    unfold putTs at h
    obtain ⟨env1, e1, e2⟩ := Option.bind_eq_some_iff.mp h
    rw [List.length_cons, List.length_cons, putTs_len e2]
  | [], _ :: _, _, _, h => by unfold putTs at h; cases h
  | _ :: _, [], _, _, h => by unfold putTs at h; cases h
end
end
section
variable {X : Cx} {z : Z} {e a b : Expr} {st : Stmt} {rest : List Stmt} {fa fb : M Vw} {f g : M Fl} {ft : M Bool} {pos p : Pos} {x : Str}
theorem pu_snil : PSs X [] (tS z sNx) := PSs_imp pss_nil fun D σ H ⟨B, env, R, b, P⟩ => P σ H R b Stp.refl
theorem pu_sone (h : PS X st (tS z f)) : PSs X [st] (tS z f) := pss_one h
theorem pu_scons (h : PS X st (tS z f)) (hr : PSs X rest (tS z g)) : PSs X (st :: rest) (tS z (sSeq f g)) := PSs_imp (pss_cons h hr) fun D σ H ⟨B, env, R, b, P⟩ => by
  refine ⟨B, env, R, b, ?_⟩
  unfold sSeq bnd at P
  cases ef : f env with
  | ok fl e1 =>
    rw [ef] at P
    cases fl with
    | nx => exact fun σ' H' R' b' s => ⟨B, e1, R', b', PostS.move s P⟩
    | bk => exact P
    | ct => exact P
    | rt w => exact P
  | exc x e1 => rw [ef] at P; exact P
  | bad => rw [ef] at P; exact P
theorem pu_sset {i : Nat} {pos' : Pos} (hN : X.N.Nodup) (hi : X.N[i]? = some x) (hx : Loc X.env.scope x) (he : PE X e (tP z fa)) (hs : swapsWith e (some (.Name x pos')) pos.line X.env = pure false := by rfl) (hf : X.fn x = true ∨ X.env.scope.names.lookup x = some .local := by first | exact .inl rfl | exact .inr rfl | assumption) :
    PS X (.Assign [.Name x pos'] e pos) (tS z (sSet i fa)) := PS_imp (ps_set hN hi hx he hs hf) fun D σ H ⟨B, env, R, b, P⟩ =>
  tG_mono (postS_bnd R b P) fun v H1 ⟨env1, w, R1, b1, s1, so1, hV, P1⟩ => by
    obtain ⟨d, e1, P2⟩ := postS_stay P1
    exact tsetP R1 b1 (hV.1.stay e1) P2
where
  tsetP {i : Nat} {z : Z} {B : Fm} {σ : L2.St} {env : Env} {H : Hp} {D : Ends} {d : UbP.D} {v : V} (R : RelT z B.O H σ env) (b : Base B σ env H) (hv : Dq z.K (wo (cells σ env B.O) H) v d) (P : PostS z B σ env H D (putM (.nm i) d env)) : D.nx (σ.set i (some v)) H := by
    unfold putM at P
    cases e : putT (.nm i) d env with
    | none => rw [e] at P; exact P.elim
    | some env' =>
      rw [e] at P
      unfold putT at e
      obtain ⟨R', C⟩ := setN R e hv
      exact P _ H R' (C.base b) C.stp
/-- a new thing is owned -/
theorem setOwn {B : Fm} {σ : L2.St} {env0 env : Env} {H H1 : Hp} {D : Ends} {c : Ct} {v : V} {i : Nat} (R0 : RelT z B.O H σ env0) (s1 : SameC (ownS σ env0) H H1) (so : SameO env0 env) (R : RelT z B.O H1 σ env) (b : Base B σ env H1) (hV : vE z B.O env σ H H1 v (.f c)) (h0 : ∀ a, H a = none → B.H0 a = none) (P : PostS z B σ env0 H D (ownN i c env)) : D.nx (σ.set i (some v)) H1 := by
  obtain ⟨⟨a, rfl, na, hc⟩, hn, haw⟩ := hV
  have Ra := haw a rfl
  have ce : cells σ env (fun s => B.O s ∨ s = a) = fun s => cells σ env B.O s ∨ s = a := cells_or
  have go : ∀ {s0 : Sl}, env[i]? = some s0 → (∀ c, s0 ≠ .par c) → (∀ r, s0 ≠ .nst r) → PostS z B σ env0 H D (.ok .nx (env.set i (.own c))) → D.nx (σ.set i (some (.ref a))) H1 := fun {s0} hi np nn P => by
    have hl := get_lt hi
    have hlσ : i < σ.length := by rw [R.len]; exact hl
    have eS : ∀ j : Nat, j ≠ i → (σ.set i (some (V.ref a)))[j]? = σ[j]? := fun j n => List.getElem?_set_ne (Ne.symm n)
    have eE : ∀ j : Nat, j ≠ i → (env.set i (Sl.own c))[j]? = env[j]? := fun j n => List.getElem?_set_ne (Ne.symm n)
    have eO : ∀ j : Nat, j ≠ i → getO j (env.set i (Sl.own c)) = getO j env := fun j n => by unfold getO; rw [eE j n]
    have eI : getO i (env.set i (Sl.own c)) = some c := getO_own (List.getElem?_set_self hl)
    have sI : (σ.set i (some (V.ref a)))[i]? = some (some (V.ref a)) := List.getElem?_set_self hlσ
    have sub : ∀ s, cells (σ.set i (some (V.ref a))) (env.set i (Sl.own c)) B.O s → cells σ env (fun s => B.O s ∨ s = a) s := fun s hs => by
      rw [ce]
      rcases hs with ⟨j, cj, g, e⟩ | hs
      · by_cases hj : j = i
        · subst hj
          rw [sI] at e
          cases e
          exact .inr rfl
        · rw [eO j hj] at g
          rw [eS j hj] at e
          exact .inl (.inl ⟨j, cj, g, e⟩)
      · exact .inl (.inr hs)
    have notA : ∀ j cj, getO j env = some cj → σ[j]? = some (some (V.ref a)) → False := fun j cj g e => na (.inl ⟨j, cj, g, e⟩)
    refine P _ H1 ⟨by simp [R.len], fun j d e => ?_, fun j cj g => ?_, fun j k cj ck s g1 g2 e1 e2 => ?_, fun j cj s g e => ?_, fun j x e => ?_, fun s hs => Ra.cl s (sub s hs), R.tb⟩ ⟨by rw [List.length_set]; exact b.len, fun j => ?_, fun j cj e => ?_, b.heap, fun j cj s e e' => ?_, fun j => ?_⟩ ?_
    · by_cases hj : j = i
      · subst hj
        rw [List.getElem?_set_self hl] at e
        cases e
      · rw [eE j hj] at e
        obtain ⟨v, h1, h2⟩ := Ra.dat j d e
        exact ⟨v, by rw [eS j hj]; exact h1, h2.mono (wo_sub sub)⟩
    · by_cases hj : j = i
      · subst hj
        rw [eI] at g
        cases g
        exact ⟨a, sI, hc.sub fun s hs => by have := sub s hs; rw [ce] at this; exact this⟩
      · rw [eO j hj] at g
        obtain ⟨s, h1, h2⟩ := Ra.own j cj g
        exact ⟨s, by rw [eS j hj]; exact h1, h2.sub sub⟩
    · by_cases hj : j = i
      · by_cases hk : k = i
        · rw [hj, hk]
        · subst hj
          rw [sI] at e1
          cases e1
          rw [eO k hk] at g2
          rw [eS k hk] at e2
          exact (notA k ck g2 e2).elim
      · by_cases hk : k = i
        · subst hk
          rw [sI] at e2
          cases e2
          rw [eO j hj] at g1
          rw [eS j hj] at e1
          exact (notA j cj g1 e1).elim
        · rw [eO j hj] at g1
          rw [eO k hk] at g2
          rw [eS j hj] at e1
          rw [eS k hk] at e2
          exact R.inj j k cj ck s g1 g2 e1 e2
    · by_cases hj : j = i
      · subst hj
        rw [sI] at e
        cases e
        exact fun h => na (.inr h)
      · rw [eO j hj] at g
        rw [eS j hj] at e
        exact R.out j cj s g e
    · by_cases hj : j = i
      · subst hj
        rw [List.getElem?_set_self hl] at e
        cases e
      · rw [eE j hj] at e
        obtain ⟨s, cls, d, h1, h2, h3, h4⟩ := Ra.ex j x e
        exact ⟨s, cls, d, h1, by rw [eS j hj]; exact h2, h3, h4.imp id fun ⟨dx, vs, g1, g2, g3⟩ => ⟨dx, vs, g1, wo_sub sub _ _ g2, g3.mono (wo_sub sub)⟩⟩
    · rw [← b.par j]
      by_cases hj : j = i
      · subst hj
        constructor
        · rintro ⟨cj, e⟩
          rw [List.getElem?_set_self hl] at e
          cases e
        · rintro ⟨cj, e⟩
          rw [hi] at e
          cases e
          exact absurd rfl (np cj)
      · rw [eE j hj]
    · have hj : j ≠ i := fun hj => by
        subst hj
        rw [List.getElem?_set_self hl] at e
        cases e
      rw [eE j hj] at e
      rw [eS j hj]
      exact b.at_ j cj e
    · by_cases hj : j = i
      · subst hj
        rw [sI] at e'
        cases e'
        exact h0 a (hn a rfl)
      · rw [eE j hj] at e
        rw [eS j hj] at e'
        exact b.new j cj s e e'
    · rw [← b.nn j]
      by_cases hj : j = i
      · subst hj
        constructor
        · rintro ⟨r, e⟩
          rw [List.getElem?_set_self hl] at e
          cases e
        · rintro ⟨r, e⟩
          rw [hi] at e
          cases e
          exact absurd rfl (nn r)
      · rw [eE j hj]
    · -- the step
      have t1 : UbG.SameT (wo (cells σ env B.O) H) (wo (fun s => cells σ env B.O s ∨ s = a) H1) := wT_ext (pS := ownS σ env) (Ex := fun s => s = a) (by rw [← so.ownS σ]; exact s1) (fun s h => .inl h) fun s h => by rw [h]; exact hn a rfl
      refine ⟨?_, outer_same R0 s1, fun j r e => ?_⟩
      · rw [so.cells σ B.O]
        refine t1.trans (UbG.sameT (wo_sub fun s hs => ?_))
        have := sub s hs
        rw [ce] at this
        exact this
      · have e1 := so.nst e
        have hj : j ≠ i := fun hj => by
          subst hj
          rw [hi] at e1
          cases e1
          exact nn r rfl
        exact ⟨eS j hj, (eE j hj).trans e1⟩
  unfold ownN at P
  split at P
  · rename_i hi; exact go hi (fun _ z => by cases z) (fun _ z => by cases z) P
  · rename_i hi; exact go hi (fun _ z => by cases z) (fun _ z => by cases z) P
  · rename_i hi; exact go hi (fun _ z => by cases z) (fun _ z => by cases z) P
  · exact P.elim
theorem Base.none {B : Fm} {σ : L2.St} {env : Env} {H : Hp} (b : Base B σ env H) {a : Addr} (h : H a = none) : B.H0 a = none := b.heap.dom a h
theorem pu_sown {i : Nat} {pos' : Pos} (hN : X.N.Nodup) (hi : X.N[i]? = some x) (hx : Loc X.env.scope x) (he : PE X e (tP z fa)) (hs : swapsWith e (some (.Name x pos')) pos.line X.env = pure false := by rfl) (hf : X.fn x = true ∨ X.env.scope.names.lookup x = some .local := by first | exact .inl rfl | exact .inr rfl | assumption) :
    PS X (.Assign [.Name x pos'] e pos) (tS z (sOwn i fa)) := PS_imp (ps_set hN hi hx he hs hf) fun D σ H ⟨B, env, R, b, P⟩ =>
  tG_mono (postS_bnd0 R b P) fun v H1 ⟨env1, w, R1, b1, s1, so1, hV, P1⟩ => by
    cases w with
    | f c' => exact setOwn R s1 so1 R1 b1 hV (fun a h => b.none h) P1
    | d _ => exact P1.elim
    | o _ => exact P1.elim
theorem pu_sex (he : PE X e (tP z fa)) (hs : swapsWith e none pos.line X.env = pure false := by rfl) : PS X (.Expr e pos) (tS z (sEx fa)) := PS_imp (ps_expr he hs) fun D σ H ⟨B, env, R, b, P⟩ =>
  tG_mono (postS_bnd R b P) fun v H1 ⟨env1, w, R1, b1, s1, so1, hV, P1⟩ => P1 σ H1 R1 b1 Stp.refl
theorem pu_sif {c : Expr} {ss ts : List Stmt} (hc : PT X c (tT z ft)) (ha : PSs X ss (tS z f)) (hb : PSs X ts (tS z g)) : PS X (.If c ss ts pos) (tS z (sIf ft f g)) := PS_imp (ps_if hc ha hb) fun D σ H ⟨B, env, R, b, P⟩ =>
  tG_mono (postS_bnd R b P) fun k H1 ⟨env1, w, R1, b1, s1, so1, hV, P1⟩ => by
    cases hV
    cases k with
    | true => exact ⟨B, env1, R1, b1, P1⟩
    | false => exact ⟨B, env1, R1, b1, P1⟩
/-- an owned thing leaves its slot -/
theorem leave {B : Fm} {σ : L2.St} {env : Env} {H : Hp} {c : Ct} {a : Addr} {i : Nat} (R : RelT z B.O H σ env) (hi : env[i]? = some (Sl.own c)) (ea : σ[i]? = some (some (V.ref a))) :
    ∃ σ', Chg [i] σ env σ' (env.set i .no) ∧ RelT z B.O H σ' (env.set i .no) ∧ RelT z (fun s => B.O s ∨ s = a) H σ' (env.set i .no) ∧ ¬cells σ' (env.set i .no) B.O a := by
  have hl := get_lt hi
  have g := getO_own hi
  have C : Chg [i] σ env σ (env.set i .no) := by
    refine ⟨rfl, List.length_set .., fun j _ => rfl, fun j n => List.getElem?_set_ne fun z => n (by rw [z]; exact List.mem_singleton.mpr rfl), fun j m => ?_, fun j m => ?_⟩
    · have e := List.mem_singleton.mp m
      subst e
      exact ⟨fun c e => (by rw [hi] at e; cases e), .no, List.getElem?_set_self hl, rfl⟩
    · have e := List.mem_singleton.mp m
      subst e
      exact fun r e => (by rw [hi] at e; cases e)
  have hd : ∀ {z : Z} {S : SS} (j : Nat) (d : UbP.D), j ∈ [i] → (env.set i .no)[j]? = some (Sl.dat d) → ∃ v : V, σ[j]? = some (some v) ∧ Dq z.K (wo S H) v d := fun j d m e => by
    have e' := List.mem_singleton.mp m
    subst e'
    rw [List.getElem?_set_self hl] at e
    cases e
  have hx : ∀ j x, j ∈ [i] → (env.set i .no)[j]? ≠ some (Sl.ex x) := fun j x m e => by
    have e' := List.mem_singleton.mp m
    subst e'
    rw [List.getElem?_set_self hl] at e
    cases e
  have na : ¬cells σ (env.set i .no) B.O a := fun h => by
    rcases h with ⟨j, cj, gj, e⟩ | h
    · obtain ⟨n, g'⟩ := C.getO gj
      exact n (by rw [R.inj j i cj c a g' g e ea]; exact List.mem_singleton.mpr rfl)
    · exact R.out i c a g ea h
  have sub : ∀ s, cells σ (env.set i .no) (fun s => B.O s ∨ s = a) s → cells σ env B.O s := fun s hs => by
    rw [cells_or] at hs
    rcases hs with hs | hs
    · exact C.cells s hs
    · rw [hs]
      exact .inl ⟨i, c, g, ea⟩
  refine ⟨σ, C, R.chg C (fun j d => hd j d) hx, ?_, na⟩
  refine ⟨by simp [R.len], fun j d e => ?_, fun j cj gj => ?_, fun j k c c' s g1 g2 e1 e2 => ?_, fun j cj s gj e h => ?_, fun j x e => ?_, fun s hs => R.cl s (sub s hs), R.tb⟩
  · by_cases hj : j = i
    · subst hj
      rw [List.getElem?_set_self hl] at e
      cases e
    · rw [List.getElem?_set_ne (Ne.symm hj)] at e
      obtain ⟨v, h1, h2⟩ := R.dat j d e
      exact ⟨v, h1, h2.mono (wo_sub sub)⟩
  · obtain ⟨n, g'⟩ := C.getO gj
    obtain ⟨s, h1, h2⟩ := R.own j cj g'
    exact ⟨s, h1, h2.sub sub⟩
  · exact R.inj j k c c' s (C.getO g1).2 (C.getO g2).2 e1 e2
  · rcases h with h | h
    · exact R.out j cj s (C.getO gj).2 e h
    · subst h
      exact na (.inl ⟨j, cj, gj, e⟩)
  · by_cases hj : j = i
    · subst hj
      rw [List.getElem?_set_self hl] at e
      cases e
    · rw [List.getElem?_set_ne (Ne.symm hj)] at e
      obtain ⟨s, cls, d, h1, h2, h3, h4⟩ := R.ex j x e
      exact ⟨s, cls, d, h1, h2, h3, h4.imp id fun ⟨dx, vs, g1, g2, g3⟩ => ⟨dx, vs, g1, wo_sub sub _ _ g2, g3.mono (wo_sub sub)⟩⟩
theorem pu_sret (he : PE X e (tP z fa)) : PS X (.Return (some e) pos) (tS z (sRet fa)) := PS_imp (ps_ret he) fun D σ H ⟨B, env, R, b, P⟩ =>
  tG_mono (postS_bnd0 R b P) fun v H1 ⟨env1, w, R1, b1, s1, so1, hV, P1⟩ => by
    cases w with
    | d x => exact P1 v σ H1 R1 b1 hV.1 True.intro True.intro
    | f c => exact P1 v σ H1 R1 b1 hV.1 (fun a ea => b.none (hV.2.1 a ea)) hV.2.2
    | o i =>
      dsimp only at P1
      split at P1
      · rename_i c hi
        have ea : σ[i]? = some (some v) := hV.1
        obtain ⟨a, h1, h2⟩ := R1.own i c (getO_own hi)
        rw [h1] at ea
        cases ea
        obtain ⟨σ', C, R2, R3, na⟩ := leave R1 hi h1
        refine P1 (.ref a) σ' H1 R2 (C.base b1) ⟨a, rfl, na, h2.sub fun s hs => ?_⟩ (fun a' ea' => by cases ea'; exact b1.new i c a hi h1) fun a' ea' => by cases ea'; exact R3
        rcases hs with hs | hs
        · exact C.cells s hs
        · rw [hs]
          exact .inl ⟨i, c, getO_own hi, h1⟩
      · exact P1.elim
/-- an owned thing becomes data -/
theorem pu_frz {i : Nat} {ss : List Stmt} (h : PSs X ss (tS z f)) : PSs X ss (tS z (frz i f)) := PSs_imp h fun D σ H ⟨B, env, R, b, P⟩ => by
  unfold frz at P
  cases e : frzE i env with
  | none => rw [e] at P; exact P.elim
  | some env' =>
    rw [e] at P
    unfold frzE at e
    split at e
    · rename_i c hi
      cases e
      obtain ⟨a, h1, h2⟩ := R.own i c (getO_own hi)
      have hl := get_lt hi
      have C : Chg [i] σ env σ (env.set i (.dat c.toD)) := by
        refine ⟨rfl, List.length_set .., fun j _ => rfl, fun j n => List.getElem?_set_ne fun z => n (by rw [z]; exact List.mem_singleton.mpr rfl), fun j m => ?_, fun j m => ?_⟩
        · have e := List.mem_singleton.mp m
          subst e
          exact ⟨fun c e => (by rw [hi] at e; cases e), .dat c.toD, List.getElem?_set_self hl, rfl⟩
        · have e := List.mem_singleton.mp m
          subst e
          exact fun r e => (by rw [hi] at e; cases e)
      have na : ¬cells σ (env.set i (.dat c.toD)) B.O a := fun h => by
        rcases h with ⟨j, cj, gj, e⟩ | h
        · obtain ⟨n, g'⟩ := C.getO gj
          exact n (by rw [R.inj j i cj c a g' (getO_own hi) e h1]; exact List.mem_singleton.mpr rfl)
        · exact R.out i c a (getO_own hi) h1 h
      refine ⟨B, _, R.chg C (fun j d m e => ?_) (fun j x m e => ?_), C.base b, PostS.move C.stp P⟩
      · have e' := List.mem_singleton.mp m
        subst e'
        rw [List.getElem?_set_self hl] at e
        cases e
        exact ⟨.ref a, h1, h2.data na C.cells⟩
      · have e' := List.mem_singleton.mp m
        subst e'
        rw [List.getElem?_set_self hl] at e
        cases e
    · cases e
      exact ⟨B, _, R, b, P⟩
    · cases e
end
end UbP
namespace UbP
open PySem PySem.Spec PyProof.Rows L2 UbM Ub
structure ItOk (K : PySem.W.Frag) (S : SS) (H : Hp) (J : It) (ds : List D) : Prop where
  at_ : ∀ (i : Nat) (S' : SS) (H' : Hp), UbG.SameT (wo S H) (wo S' H') → Cl S' H' → (i < ds.length → J.go i H') ∧ (ds.length ≤ i → J.stop i H') ∧ ∀ x H'', i < ds.length → J.yld i H' x H'' → Same H' H'' ∧ ∃ d, ds[i]? = some d ∧ Dq K (wo S' H'') x d
def vIt : VRt (List D) It := fun z O env σ _ H' J ds => ItOk z.K (cells σ env O) H' J ds
theorem bkI : Back vIt := fun _ _ _ _ _ _ _ _ _ _ _ h => h
abbrev tI (z : Z) (f : M (List D)) : TI := fun σ H R => tG vIt z f σ H R
theorem PI_imp {X : Cx} {tg it : Expr} {t t' : TI} (h : PI X tg it t) (i : ∀ σ H R, t' σ H R → t σ H R) : PI X tg it t' := ⟨fun pins s σ H R I q => h.run pins s σ H R I (i _ _ _ q)⟩
theorem PI_or {X : Cx} {tg it : Expr} {t t' : TI} (h : PI X tg it t) (h' : PI X tg it t') : PI X tg it (fun σ H R => t σ H R ∨ t' σ H R) := ⟨fun pins s σ H R I q => q.elim (h.run pins s σ H R I) (h'.run pins s σ H R I)⟩
section
variable {K : PySem.W.Frag} {S : SS} {H : Hp} {a b : Addr} {xs ys : List V} {ds es : List D}
theorem sq_move {S' : SS} {H' : Hp} (h : SqL K (wo S H) a xs) (e : UbG.SameT (wo S H) (wo S' H')) : SqL K H' a xs := Same.seq wo_same (UbG.SameT.seq e h)
theorem it_list (h1 : SqL K (wo S H) a xs) (h2 : DqAll K (wo S H) xs ds) : ItOk K S H (Itl K a) ds := ⟨fun i S' H' e c => by
  have hl := h2.len
  have q := sq_move h1 e
  refine ⟨fun hi => ⟨xs, xs[i]'(by omega), q, List.getElem?_eq_getElem _⟩, fun hi => ⟨xs, q, by omega⟩, fun x H'' hi y => ?_⟩
  obtain ⟨rfl, y⟩ := y
  obtain ⟨d, e1, e2⟩ := h2.at (y xs q)
  exact ⟨same_refl, d, e1, Dq.monoT e _ _ e2⟩⟩
theorem it_tup (h1 : SqT K (wo S H) a xs) (h2 : DqAll K (wo S H) xs ds) : ItOk K S H (Itt K a) ds := ⟨fun i S' H' e c => by
  have hl := h2.len
  have q : SqT K H' a xs := Same.tseq wo_same (UbG.SameT.tseq e h1)
  refine ⟨fun hi => ⟨xs, xs[i]'(by omega), q, List.getElem?_eq_getElem _⟩, fun hi => ⟨xs, q, by omega⟩, fun x H'' hi y => ?_⟩
  obtain ⟨rfl, y⟩ := y
  obtain ⟨d, e1, e2⟩ := h2.at (y xs q)
  exact ⟨same_refl, d, e1, Dq.monoT e _ _ e2⟩⟩
theorem it_str {x : Str} : ItOk K S H (Its x) (signsD x) := ⟨fun i S' H' e c => by
  have hl : (signsD x).length = x.cps.size := by unfold signsD; rw [List.length_map, Array.length_toList]
  rw [hl]
  refine ⟨fun hi => hi, fun hi => hi, fun y H'' hi z => ?_⟩
  obtain ⟨rfl, c, hc, rfl⟩ := z
  refine ⟨same_refl, .str (sgn c), ?_, .str _⟩
  unfold signsD
  rw [List.getElem?_map, Array.getElem?_toList, hc]
  rfl⟩
theorem ints_at {lo : Int} {n i : Nat} (hi : i < n) : (intsL lo n)[i]? = some (.int (lo + (i : Nat))) := by
  unfold intsL
  rw [List.getElem?_map, List.getElem?_range hi]
  rfl
theorem ints_len {lo : Int} {n : Nat} : (intsL lo n).length = n := by
  unfold intsL
  rw [List.length_map, List.length_range]
theorem it_range {lo : Int} {n : Nat} : ItOk K S H (Itr lo n) (intsL lo n) := ⟨fun i S' H' e c => by
  rw [ints_len]
  refine ⟨fun hi => hi, fun hi => hi, fun x H'' hi y => ?_⟩
  obtain ⟨rfl, rfl⟩ := y
  exact ⟨same_refl, _, ints_at hi, .int _⟩⟩
theorem enum_len : (enumF ds).length = ds.length := by
  unfold enumF
  rw [List.length_map, List.length_range]
theorem enum_at {i : Nat} {d : D} (h : ds[i]? = some d) : (enumF ds)[i]? = some (.tup [.int (i : Nat), d]) := by
  have hi := (List.getElem?_eq_some_iff.mp h).1
  unfold enumF
  rw [List.getElem?_map, List.getElem?_range hi]
  show some (D.tup [D.int i, ds.getD i .non]) = _
  rw [List.getD_eq_getElem?_getD, h]
  rfl
theorem it_enum (h1 : SqL K (wo S H) a xs) (h2 : DqAll K (wo S H) xs ds) : ItOk K S H (Ite K a) (enumF ds) := ⟨fun i S' H' e c => by
  have hl := h2.len
  have q := sq_move h1 e
  rw [enum_len]
  refine ⟨fun hi => ⟨xs, xs[i]'(by omega), q, List.getElem?_eq_getElem _⟩, fun hi => ⟨xs, q, by omega⟩, fun x H'' hi y => ?_⟩
  obtain ⟨T, x1, rfl, nT, rfl, y⟩ := y
  obtain ⟨d, e1, e2⟩ := h2.at (y xs q)
  have e2' := Dq.monoT e _ _ e2
  refine ⟨sameNew nT, _, enum_at e1, ?_⟩
  rw [wo_new (c.new nT)]
  exact .tup (.inl (.inl upd_same)) (.cons (.int _) (.cons (e2'.mono (sameNew (wo_none nT))) .nil))⟩
end
section
variable {X : Cx} {z : Z} {tg e e2 : Expr} {fa fb : M Vw} {pos p tpos : Pos} {elts : List Expr} {kk : Nat} {O : SS} {σ : L2.St} {env : Env} {H : Hp}
theorem pu_iE (hK : X.K = z.K) (ha : PE X e (tP z fa)) : PI X tg e (tI z (iE fa)) := PI_imp (PI_or (pi_list ha) (PI_or (pi_tup ha) (pi_str ha))) fun σ H R ⟨O, env, RT, P⟩ => by
  rw [hK]
  have key : ∀ (w : Vw) (env1 : Env), fa env = .ok w env1 → PostG vIt z O σ env H R (bnd (stayM w) (fun d => optM (walkD d)) env1) → iList z.K (tP z fa) σ H R ∨ (iTup z.K (tP z fa) σ H R ∨ iStr (tP z fa) σ H R) := fun w env1 e P => by
    cases ew : w.stay with
    | none =>
      unfold bnd stayM optM at P
      rw [ew] at P
      exact P.elim
    | some d =>
      have P : PostG vIt z O σ env H R (optM (walkD d) env1) := by
        unfold bnd stayM optM at P
        rw [ew] at P
        exact P
      cases d with
      | lst ds =>
        refine .inl ⟨O, env, RT, ?_⟩
        rw [e]
        intro v H1 s1 R1 so V
        have h := V.1.stay ew
        cases h with
        | lst h1 h2 => exact ⟨_, rfl, ⟨_, Same.seq wo_same (.inl (.inl h1))⟩, P _ H1 s1 R1 so (it_list (.inl (.inl h1)) h2)⟩
      | lsf ds =>
        refine .inl ⟨O, env, RT, ?_⟩
        rw [e]
        intro v H1 s1 R1 so V
        have h := V.1.stay ew
        cases h with
        | lsf h1 h2 => exact ⟨_, rfl, ⟨_, Same.seq wo_same h1⟩, P _ H1 s1 R1 so (it_list h1 h2)⟩
      | str x =>
        refine .inr (.inr ⟨O, env, RT, ?_⟩)
        rw [e]
        intro v H1 s1 R1 so V
        have h := V.1.stay ew
        cases h
        exact ⟨_, rfl, P _ H1 s1 R1 so it_str⟩
      | tup ds =>
        refine .inr (.inl ⟨O, env, RT, ?_⟩)
        rw [e]
        intro v H1 s1 R1 so V
        have h := V.1.stay ew
        cases h with
        | tup h1 h2 => exact ⟨_, rfl, ⟨_, Same.tseq wo_same h1⟩, P _ H1 s1 R1 so (it_tup h1 h2)⟩
      | _ => exact P.elim
  unfold iE at P
  cases e : fa env with
  | ok w env1 =>
    refine key w env1 e ?_
    unfold bnd at P
    rw [e] at P
    exact P
  | exc x env1 =>
    refine .inl ⟨O, env, RT, ?_⟩
    unfold bnd at P
    rw [e] at P ⊢
    exact P
  | bad =>
    unfold bnd at P
    rw [e] at P
    exact P.elim
theorem pu_iR1 (hg : Gl X "range") (hm : X.mg "range" = none) (ha : PE X e (tP z fa)) (hs : starEach [e] X.env = (false, eval e X.env) :: starEach [] X.env := by rfl) (hs' : starEach [e] X.env = [(false, eval e X.env)] := by rfl) : PI X tg (.Call (.Name "range" p) [e] [] pos) (tI z (iR1 fa)) := PI_imp (pi_range1 hg hm (pa_cons ha pa_nil hs) hs') fun σ H R ⟨O, env, RT, P⟩ =>
  tG_mono (post_bnd bkI RT P) fun v H1 ⟨env1, w, R1, s1, so1, V, P1⟩ => by
    obtain ⟨d, e1, P2⟩ := post_now P1
    cases d with
    | int j =>
      cases dv_int (V.1.now R1 e1)
      dsimp only at P2
      split at P2
      · rename_i hb
        have hb := of_decide_eq_true hb
        exact ⟨j, rfl, hb.1, hb.2, P2 _ H1 (SameC.refl _) R1 (SameO.refl _) it_range⟩
      · exact P2.elim
    | _ => exact P2.elim
end
section
variable {X : Cx} {z : Z} {tg it c : Expr} {body : List Stmt} {fi : M (List D)} {fb : M Fl} {ft : M Bool} {pos : Pos} {tgt : Tg}
theorem pu_sfor (hp : PassesOwn (model X.prog X.w) X.A X.env X.xe) (hc : X.calm = true) (hi : PI X tg it (tI z fi)) (hg : PG X tg (gT z.K tgt)) (hb : PSs X body (tS z fb)) (hs : ∀ x, foldedSetIterable it X.env x = pure x := by intro _; rfl) : PS X (.For tg it body [] pos) (tS z (sFor fi tgt fb)) := PS_imp (ps_for hp hc hi hg hb hs) fun D σ H ⟨B, env, R, b, P⟩ =>
  tG_mono (postS_bnd R b P) fun J H1 ⟨env1, ds, R1, b1, s1, so1, hJ, P1⟩ => by
    refine ⟨fun i m σ2 H2 => m = ds.length - i ∧ i ≤ ds.length ∧ ∃ env2, RelT z B.O H2 σ2 env2 ∧ Base B σ2 env2 H2 ∧ Stp B.O σ env1 H1 σ2 env2 H2 ∧ PostS z B σ2 env2 H2 D (forL tgt fb (ds.drop i) env2), ⟨ds.length, by simp, Nat.zero_le _, env1, R1, b1, Stp.refl, P1⟩, ?_⟩
    rintro i m σ2 H2 ⟨rfl, hi, env2, R2, b2, st2, P2⟩
    obtain ⟨go, stop, yld⟩ := hJ.at_ i (cells σ2 env2 B.O) H2 st2.w R2.cl
    by_cases hl : i < ds.length
    · refine .inr ⟨go hl, _, fun σ' H' n => ⟨ds.length - (i + 1), by omega, n⟩, fun x H3 y => ?_⟩
      obtain ⟨sm, d, ed, hd⟩ := yld x H3 hl y
      have R3 := R2.mono (kp sm)
      have b3 := b2.mono (kp sm)
      have st3 : Stp B.O σ env1 H1 σ2 env2 H3 := st2.trans (stp_kp R2 (kp sm))
      have P3 : PostS z B σ2 env2 H3 D (forL tgt fb (ds.drop i) env2) := PostS.move (stp_kp R2 (kp sm)) P2
      rw [List.drop_eq_getElem_cons hl] at P3
      have ed' : ds[i] = d := by
        rw [List.getElem?_eq_getElem hl] at ed
        exact Option.some.inj ed
      rw [ed'] at P3
      unfold forL at P3
      cases ep : putT tgt d env2 with
      | none => rw [ep] at P3; exact P3.elim
      | some e1 =>
        rw [ep] at P3
        obtain ⟨σ4, q, R4, C⟩ := putT_ok tgt d x σ2 env2 e1 R3 ep hd
        refine q _ ⟨B, e1, R4, C.base b3, ?_⟩
        have st4 : Stp B.O σ env1 H1 σ4 e1 H3 := st3.trans C.stp
        dsimp only at P3
        cases eb : fb e1 with
        | ok fl e2 =>
          rw [eb] at P3
          cases fl with
          | nx => exact fun σ' H' R' b' s => ⟨rfl, hl, e2, R', b', st4.trans s, PostS.move (C.stp.trans s) P3⟩
          | ct => exact fun σ' H' R' b' s => ⟨rfl, hl, e2, R', b', st4.trans s, PostS.move (C.stp.trans s) P3⟩
          | bk => exact fun σ' H' R' b' s => P3 σ' H' R' b' (C.stp.trans s)
          | rt w => exact P3
        | exc x e2 => rw [eb] at P3; exact PostS.move C.stp P3
        | bad => rw [eb] at P3; exact P3
    · refine .inl ⟨stop (by omega), ?_⟩
      have e : ds.drop i = [] := List.drop_eq_nil_of_le (by omega)
      rw [e] at P2
      exact P2 σ2 H2 R2 b2 Stp.refl
end
section
variable {X : Cx} {z : Z} {e a b : Expr} {fa fb fc : M Vw} {pos p : Pos} {x y : Str}
theorem pu_sitem {te : Expr} (he : PE X e (tP z fc)) (hg : PG X te (gSub (tP z fa) (tP z fb) rSetL)) (hs : swapsWithSole [te] e pos.line X.env = pure false := by rfl) (hw : swappedStores [te] e X.env = pure none := by rfl)
    (h1 : (assignEach [te] X.env).map (·.2) = [assign te X.env] := by rfl) : PS X (.Assign [te] e pos) (tS z (sItem fa fb fc)) := PS_imp (ps_asg he hg hs hw h1) fun D σ H ⟨B, env, R, b, P⟩ =>
  tG_mono (postS_bnd R b P) fun v H1 ⟨env1, w, R1, b1, s1, so1, hV, P1⟩ =>
  tG_mono (postS_bnd R1 b1 P1) fun o H2 ⟨env2, w2, R2, b2, s2, so2, hV2, P2⟩ =>
  tG_mono (postS_bnd R2 b2 P2) fun ix H3 ⟨env3, w3, R3, b3, s3, so3, hV3, P3⟩ => by
    obtain ⟨k, e1, P4⟩ := postS_opt P3
    obtain ⟨d, e2, P5⟩ := postS_stay P4
    obtain ⟨n, e3, P6⟩ := postS_now P5
    have hv := (vmove s3 so3 (vmove s2 so2 hV.1)).stay e2
    have hi := hV3.1.now R3 e3
    have ho := vmove s3 so3 hV2.1
    unfold bnd ownL at P6
    cases g : getO k env3 with
    | none => rw [g] at P6; exact P6.elim
    | some c =>
      rw [g] at P6
      cases c with
      | o _ _ => exact P6.elim
      | l ds =>
        dsimp only at P6
        cases n with
        | int m =>
          cases dv_int hi
          dsimp only at P6
          cases ej : ixI ds.length m with
          | none => rw [ej] at P6; exact P6.elim
          | some j =>
            rw [ej] at P6
            cases w2 with
            | o k' =>
              cases e1
              obtain ⟨a, h1, h2⟩ := R3.own _ _ g
              have ho : σ[k]? = some (some o) := ho
              rw [h1] at ho
              cases ho
              obtain ⟨xs, h3, h4⟩ := h2
              obtain ⟨R4, s4, so4⟩ := R3.putL (xs := xs) g h1 (h4.set j hv)
              refine ⟨a, xs, m, j, rfl, rfl, h3, ?_, ?_⟩
              · rw [h4.len]
                exact ej
              · exact P6 σ _ R4 (b3.step s4 so4) (stp_expr R3 s4 so4)
            | d _ => cases e1
            | f _ => cases e1
        | _ => exact P6.elim
theorem DqF.zip {K : PySem.W.Frag} {H : Hp} : ∀ {fs : List Str} {vs : List V} {ds : List D}, DqAll K H vs ds → DqF K H (fs.zip vs) (fs.zip ds)
  | [], _, _, _ => .nil
  | _ :: _, _, _, .nil => by simp; exact .nil
  | f :: fs, _, _, .cons h t => .cons h (DqF.zip t)
theorem pu_sraise {k j : Nat} {es : List Expr} {fs : List Str} {fas : List (M Vw)} {fl : List V → List (Str × V)} {ok : List V → Prop} {okd : List D → Bool} {pos2 : Pos} (hK : X.K = z.K) (hc : X.calm = true) (tk : Takes X z.W) (C : UbC.CalX X.prog X.w X.K X.mg X.base x k (UbC.spEI (He.ga X.K x) fl ok)) (hr : Room j X.A) (hj : k + 1 ≤ j) (hg : Gl X x)
    (hok : ∀ H vs ds, DqAll z.K H vs ds → okd ds = true → ok vs ∧ vs.length ≤ 1000 ∧ fl vs = fs.zip vs)
    (ha : PA X (e :: es) (tA z (eArgs fas))) (hdb : (x == ("__debug__" : Str)) = false := by decide)
    (he : starEach (e :: es) X.env = (false, eval e X.env) :: starEach es X.env := by rfl) (hpl : (backTo pos (starEach es X.env)).any (·.1) = false := by rfl) :
    PS X (.Raise (some (.Call (.Name x p) (e :: es) [] pos)) none pos2) (tS z (sRaise x fs okd fas)) := PS_imp (UbC.ps_raiseC hc tk C hr hj hg ha hdb he hpl) fun D σ H ⟨B, env, R, b, P⟩ =>
  tG_mono (postS_bnd R b P) fun vs H1 ⟨env1, ws, R1, b1, s1, so1, hV, P1⟩ => by
    obtain ⟨ds, e1, P2⟩ := postS_opt P1
    have hd := stays_rel hV e1
    split at P2
    · rename_i hk
      obtain ⟨h1, h2, h3⟩ := hok _ _ _ hd hk
      rw [hK]
      refine UbC.rdMkO (C := He.ga z.K x) (fl := fl) (ok := ok) (H1 := H1) (Q := fun cls d H' => z.W cls d σ H') h2 h1 fun d nd => ?_
      have e3 := sameNew nd (o := .xd (fl vs))
      refine P2 _ (some d) σ _ (R1.mono (kp e3)) (b1.mono (kp e3)) (stp_kp R1 (kp e3)) ⟨rfl, .inr ⟨d, fl vs, rfl, ?_, ?_⟩⟩
      · rw [wo_new (R1.cl.new nd), upd_same]
      · rw [h3, wo_new (R1.cl.new nd)]
        exact DqF.zip (hd.mono (sameNew (wo_none nd)))
    · exact P2.elim
theorem getO_app {args : List Sl} {k : Nat} {i : Nat} {c : Ct} (h : getO i (args ++ List.replicate k .no) = some c) : getO i args = some c := by
  rcases getO_cases h with g | g
  · rcases Nat.lt_or_ge i args.length with l | l
    · rw [List.getElem?_append_left l] at g
      exact getO_own g
    · rw [List.getElem?_append_right l] at g
      have := List.mem_of_getElem? g
      rw [List.mem_replicate] at this
      cases this.2
  · rcases Nat.lt_or_ge i args.length with l | l
    · rw [List.getElem?_append_left l] at g
      exact getO_par g
    · rw [List.getElem?_append_right l] at g
      have := List.mem_of_getElem? g
      rw [List.mem_replicate] at this
      cases this.2
end
end UbP
namespace UbP
open PySem PySem.Spec PyProof.Rows L2 UbM Ub
section
variable {X : Cx} {z : Z} {body : List Stmt} {fb : M Fl} {vs : List V} {H : Hp} {Q : VK} {E : XK} {n k : Nat} {N : List Str}
theorem pars_nil : ∀ {e : Env}, (∀ (i : Nat) (c : Ct), e[i]? ≠ some (Sl.par c)) → pars e = []
  | [], _ => rfl
  | s :: e, h => by
    have h0 : pars e = [] := pars_nil fun i c g => h (i + 1) c (by simpa using g)
    cases s with
    | par c => exact absurd rfl (h 0 c)
    | _ => exact h0
theorem PR_of {K : PySem.W.Frag} {S : SS} {H' : Hp} : ∀ {args : List Sl} {vs : List V} {e : Env}, e.length = args.length + k → vs.length = args.length → (∀ s ∈ args, ArgS s) → (∀ i : Nat, (∃ c, e[i]? = some (Sl.par c)) ↔ ∃ c, (args ++ List.replicate k Sl.no)[i]? = some (Sl.par c)) →
    (∀ (i : Nat) (c : Ct), e[i]? = some (Sl.par c) → ∃ a : Addr, vs[i]? = some (V.ref a) ∧ RelC K S H' a c) → PR K S H' vs args (pars e)
  | [], [], e, hl, hv, hA, hp, hc => by
    rw [pars_nil fun i c g => by
      obtain ⟨c', h⟩ := (hp i).mp ⟨c, g⟩
      have := List.mem_of_getElem? (show (List.replicate k Sl.no)[i]? = some (Sl.par c') from by simpa using h)
      rw [List.mem_replicate] at this
      cases this.2]
    exact .nil
  | s :: args, v :: vs, [], hl, hv, hA, hp, hc => by rw [List.length_cons] at hl; simp at hl; omega
  | [], _ :: _, _, hl, hv, _, _, _ => by cases hv
  | _ :: _, [], _, hl, hv, _, _, _ => by cases hv
  | s :: args, v :: vs, t :: e, hl, hv, hA, hp, hc => by
    have ih := PR_of (K := K) (S := S) (H' := H') (args := args) (vs := vs) (e := e) (by rw [List.length_cons, List.length_cons] at hl; omega) (Nat.succ.inj hv) (fun s hs => hA s (List.mem_cons_of_mem _ hs)) (fun i => by have := hp (i + 1); simpa using this) (fun i c g => by have := hc (i + 1) c (by simpa using g); simpa using this)
    rcases hA s (List.mem_cons_self ..) with ⟨d, rfl⟩ | ⟨c, rfl⟩
    · have e0 : pars (t :: e) = pars e := by
        cases t with
        | par c =>
          obtain ⟨c', h⟩ := (hp 0).mp ⟨c, rfl⟩
          simp at h
        | _ => rfl
      rw [e0]
      exact .oth ih
    · obtain ⟨c', h⟩ := (hp 0).mpr ⟨c, by simp⟩
      simp at h
      subst h
      obtain ⟨a, h1, h2⟩ := hc 0 c' rfl
      simp at h1
      subst h1
      exact .par h2 ih
theorem RelT.less {O O' : SS} {σ : L2.St} {env : Env} (R : RelT z O' H σ env) (h : ∀ s, O s → O' s) : RelT z O H σ env := by
  have sub : ∀ s, cells σ env O s → cells σ env O' s := fun s hs => hs.imp id (h s)
  exact ⟨R.len, fun j d e => let ⟨v, h1, h2⟩ := R.dat j d e; ⟨v, h1, h2.mono (wo_sub sub)⟩, fun j c g => let ⟨a, h1, h2⟩ := R.own j c g; ⟨a, h1, h2.sub sub⟩, R.inj, fun j c a g e hO => R.out j c a g e (h a hO),
    fun j x e => let ⟨a, cls, d, h1, h2, h3, h4⟩ := R.ex j x e; ⟨a, cls, d, h1, h2, h3, h4.imp id fun ⟨dx, vs, g1, g2, g3⟩ => ⟨dx, vs, g1, wo_sub sub _ _ g2, g3.mono (wo_sub sub)⟩⟩, fun s hs => R.cl s (sub s hs), R.tb⟩
theorem def_body (hb : PSs X body (tS z fb)) (hz : z.W = fun cls d _ H => E cls d H) (hxi : z.xi = none) (h : spF z.K z.Tb (run k fb) n vs H Q E) (hN : N.length = n + k) :
    ∃ t, PSs X body t ∧ t { nx := fun _ H' => Q .non H', rt := Q } (start N vs) H := by
  obtain ⟨hl, O, args, R, hA, P⟩ := h
  refine ⟨_, hb, ?_⟩
  have la : args.length = vs.length := by have := R.len; rw [List.length_map] at this; exact this.symm
  have hk : N.length - vs.length = k := by omega
  have est : start N vs = vs.map some ++ List.replicate k none := by rw [← hk]; rfl
  have exA : ∀ {i : Nat} {s : Sl}, (args ++ List.replicate k Sl.no)[i]? = some s → s ≠ .no → args[i]? = some s ∧ i < args.length := fun {i s} h n => by
    rcases Nat.lt_or_ge i args.length with l | l
    · rw [List.getElem?_append_left l] at h
      exact ⟨h, l⟩
    · rw [List.getElem?_append_right l] at h
      have := List.mem_of_getElem? h
      rw [List.mem_replicate] at this
      exact absurd this.2 n
  have exV : ∀ {i : Nat}, i < args.length → (start N vs)[i]? = (vs.map some)[i]? := fun {i} l => by
    rw [est, List.getElem?_append_left (by rw [List.length_map]; omega)]
  have exG : ∀ {i : Nat} {c : Ct}, getO i (args ++ List.replicate k Sl.no) = some c → getO i args = some c ∧ i < args.length := fun {i c} h => by
    have g := getO_app h
    rcases getO_cases g with q | q
    · exact ⟨g, get_lt q⟩
    · exact ⟨g, get_lt q⟩
  have inG : ∀ {i : Nat} {c : Ct}, getO i args = some c → getO i (args ++ List.replicate k Sl.no) = some c ∧ i < args.length := fun {i c} h => by
    rcases getO_cases h with q | q
    · exact ⟨getO_own (by rw [List.getElem?_append_left (get_lt q)]; exact q), get_lt q⟩
    · exact ⟨getO_par (by rw [List.getElem?_append_left (get_lt q)]; exact q), get_lt q⟩
  have ow : ownS (start N vs) (args ++ List.replicate k Sl.no) = ownS (vs.map some) args := by
    funext s
    refine propext ⟨fun ⟨i, c, h1, h2⟩ => ?_, fun ⟨i, c, h1, h2⟩ => ?_⟩
    · obtain ⟨g, l⟩ := exG h1
      exact ⟨i, c, g, by rw [← exV l]; exact h2⟩
    · obtain ⟨g, l⟩ := inG h1
      exact ⟨i, c, g, by rw [exV l]; exact h2⟩
  have ce : cells (start N vs) (args ++ List.replicate k Sl.no) O = cells (vs.map some) args O := by unfold cells; rw [ow]
  have parA : ∀ {i : Nat} {c : Ct}, getO i args = some c → args[i]? = some (Sl.par c) := fun {i c} h => by
    rcases getO_cases h with q | q
    · rcases hA _ (List.mem_of_getElem? q) with ⟨d, z⟩ | ⟨d, z⟩ <;> cases z
    · exact q
  have ep : parS ⟨O, start N vs, args ++ List.replicate k Sl.no, H, fun _ => False⟩ = ownS (vs.map some) args := by
    funext s
    refine propext ⟨fun ⟨i, c, h1, h2⟩ => ?_, fun ⟨i, c, h1, h2⟩ => ?_⟩
    · obtain ⟨g, l⟩ := exA h1 (by intro z; cases z)
      exact ⟨i, c, getO_par g, by rw [← exV l]; exact h2⟩
    · have g := parA h1
      exact ⟨i, c, by rw [List.getElem?_append_left (get_lt g)]; exact g, by rw [exV (get_lt g)]; exact h2⟩
  have R0 : RelT z O H (start N vs) (args ++ List.replicate k Sl.no) := by
    refine ⟨?_, fun i d h => ?_, fun i c h => ?_, fun i j c c' a g1 g2 e1 e2 => ?_, fun i c a g e => ?_, fun i x h => ?_, by rw [ce]; exact R.cl, R.tb⟩
    · rw [est, List.length_append, List.length_append, List.length_map, List.length_replicate, List.length_replicate, la]
    · obtain ⟨g, l⟩ := exA h (by intro z; cases z)
      obtain ⟨v, h1, h2⟩ := R.dat i d g
      exact ⟨v, by rw [exV l]; exact h1, by rw [ce]; exact h2⟩
    · obtain ⟨g, l⟩ := exG h
      obtain ⟨a, h1, h2⟩ := R.own i c g
      exact ⟨a, by rw [exV l]; exact h1, by rw [ce]; exact h2⟩
    · obtain ⟨g1, l1⟩ := exG g1
      obtain ⟨g2, l2⟩ := exG g2
      exact R.inj i j c c' a g1 g2 (by rw [← exV l1]; exact e1) (by rw [← exV l2]; exact e2)
    · obtain ⟨g, l⟩ := exG g
      exact R.out i c a g (by rw [← exV l]; exact e)
    · obtain ⟨g, l⟩ := exA h (by intro z; cases z)
      rcases hA _ (List.mem_of_getElem? g) with ⟨d, z⟩ | ⟨d, z⟩ <;> cases z
  have b0 : Base ⟨O, start N vs, args ++ List.replicate k Sl.no, H, fun _ => False⟩ (start N vs) (args ++ List.replicate k Sl.no) H := by
    refine ⟨rfl, fun i => Iff.rfl, fun i c _ => rfl, SameC.refl H, fun i c a h e => ?_, fun i => ⟨fun ⟨r, h⟩ => ?_, fun z => z.elim⟩⟩
    · obtain ⟨g, l⟩ := exA h (by intro z; cases z)
      rcases hA _ (List.mem_of_getElem? g) with ⟨d, z⟩ | ⟨d, z⟩ <;> cases z
    · obtain ⟨g, l⟩ := exA h (by intro z; cases z)
      rcases hA _ (List.mem_of_getElem? g) with ⟨d, z⟩ | ⟨d, z⟩ <;> cases z
  refine ⟨⟨O, start N vs, args ++ List.replicate k Sl.no, H, fun _ => False⟩, _, R0, b0, ?_⟩
  -- the end
  have prOf : ∀ {σ' : L2.St} {e : Env} {H' : Hp} (Ex : SS), RelT z (fun s => O s ∨ Ex s) H' σ' e → Base ⟨O, start N vs, args ++ List.replicate k Sl.no, H, fun _ => False⟩ σ' e H' →
      (∀ s, cells (vs.map some) args O s → cells σ' e O s) ∧ PR z.K (fun s => cells (vs.map some) args O s ∨ Ex s) H' vs args (pars e) := fun {σ' e H'} Ex R' b' => by
    have sub : ∀ s, cells (vs.map some) args O s → cells σ' e O s := fun s hs => by
      rcases hs with ⟨i, c, h1, h2⟩ | hs
      · have g := parA h1
        obtain ⟨c', h3⟩ := (b'.par i).mpr ⟨c, by show (args ++ List.replicate k Sl.no)[i]? = _; rw [List.getElem?_append_left (get_lt g)]; exact g⟩
        refine .inl ⟨i, c', getO_par h3, ?_⟩
        rw [b'.at_ i c' h3]
        show (start N vs)[i]? = _
        rw [exV (get_lt g)]
        exact h2
      · exact .inr hs
    refine ⟨sub, PR_of (k := k) ?_ la.symm hA (fun i => b'.par i) fun i c h => ?_⟩
    · rw [b'.len]
      show (args ++ List.replicate k Sl.no).length = _
      rw [List.length_append, List.length_replicate]
    · obtain ⟨c', h3⟩ := (b'.par i).mp ⟨c, h⟩
      obtain ⟨g, l⟩ := exA h3 (by intro z; cases z)
      obtain ⟨a, h1, h2⟩ := R'.own i c (getO_par h)
      rw [b'.at_ i c h] at h1
      have h1 : (start N vs)[i]? = some (some (V.ref a)) := h1
      rw [exV l, List.getElem?_map] at h1
      obtain ⟨v, h4, h5⟩ := Option.map_eq_some_iff.mp h1
      cases h5
      refine ⟨a, h4, h2.sub fun s hs => ?_⟩
      rw [cells_or]
      exact hs.imp (sub s) id
  have prNo : ∀ {σ' : L2.St} {e : Env} {H' : Hp}, RelT z O H' σ' e → Base ⟨O, start N vs, args ++ List.replicate k Sl.no, H, fun _ => False⟩ σ' e H' → (∀ s, cells (vs.map some) args O s → cells σ' e O s) ∧ PR z.K (cells (vs.map some) args O) H' vs args (pars e) := fun {σ' e H'} R' b' => by
    have h := prOf (fun _ => False) (by rw [or_no]; exact R') b'
    rw [or_no] at h
    exact h
  have hp : ∀ {σ' : L2.St} {e : Env} {H' : Hp}, Base ⟨O, start N vs, args ++ List.replicate k Sl.no, H, fun _ => False⟩ σ' e H' → SameC (ownS (vs.map some) args) H H' := fun {σ' e H'} b' => by
    have := b'.heap
    rw [ep] at this
    exact this
  unfold run at P
  cases ef : fb (args ++ List.replicate k Sl.no) with
  | bad => rw [ef] at P; exact P.elim
  | exc x e =>
    rw [ef] at P
    intro cls d σ' H' R' b' st hX
    rw [hz]
    obtain ⟨sub, pr⟩ := prNo R' b'
    exact P cls d H' (hp b') pr ⟨hX.1, hX.2.imp id fun ⟨dx, vs, g1, g2, g3⟩ => ⟨dx, vs, g1, wo_sub sub _ _ g2, g3.mono (wo_sub sub)⟩⟩
  | ok f e =>
    rw [ef] at P
    cases f with
    | nx =>
      intro σ' H' R' b' st
      exact P .non H' (hp b') (prNo R' b').2 .non True.intro
    | bk => exact P.elim
    | ct => exact P.elim
    | rt w =>
      cases w with
      | o i => exact P.elim
      | d x =>
        intro v σ' H' R' b' hV hN' hA'
        obtain ⟨sub, pr⟩ := prNo R' b'
        exact P v H' (hp b') pr (Dq.mono (wo_sub sub) hV) True.intro
      | f c =>
        intro v σ' H' R' b' hV hN' hA'
        obtain ⟨a, rfl, na, hc⟩ := hV
        obtain ⟨sub, pr⟩ := prOf (fun s => s = a) (hA' a rfl) b'
        refine P (.ref a) H' (hp b') ?_ ⟨a, rfl, fun h => na (sub a h), hc.sub fun s hs => hs.imp (sub s) id⟩ hN'
        have e : (fun s => cells (vs.map some) args O s ∨ s = a) = apart (.ref a) (.f c) (cells (vs.map some) args O) := by
          funext s
          exact propext ⟨fun h => h.imp id fun h => by rw [h], fun h => h.imp id fun h => by cases h; rfl⟩
        rw [← e]
        exact pr
end
theorem pts_ret {X : Cx} {z : Z} : PTs X [] (tT z (ret true)) := ⟨fun pins s σ H Q I h => pts_nil.run pins s σ H Q I (by
  obtain ⟨O, env, R, P⟩ := h
  exact P true H (SameC.refl H) R (SameO.refl _) rfl)⟩
section
variable {z : Z} {O : SS} {σ : L2.St} {env env' : Env} {H : Hp}
theorem wipe_at : ∀ (vs : List Nat) (σ : L2.St) (j : Nat), (wipe σ vs)[j]? = if j ∈ vs then (σ[j]?).map (fun _ => none) else σ[j]?
  | [], σ, j => by simp [wipe]
  | v :: vs, σ, j => by
    unfold wipe
    rw [List.getElem?_set]
    by_cases h : v = j
    · subst h
      rw [if_pos rfl, if_pos (List.mem_cons_self ..), wipe_length]
      by_cases hl : v < σ.length
      · rw [if_pos hl, List.getElem?_eq_getElem hl]
        rfl
      · rw [if_neg hl, List.getElem?_eq_none (by omega)]
        rfl
    · rw [if_neg h, wipe_at vs σ j]
      by_cases hm : j ∈ vs
      · rw [if_pos hm, if_pos (List.mem_cons_of_mem _ hm)]
      · rw [if_neg hm, if_neg fun z => (List.mem_cons.mp z).elim (fun e => h e.symm) hm]
theorem wipeE_len : ∀ (vs : List Nat) (e : Env), (wipeE e vs).length = e.length
  | [], e => rfl
  | v :: vs, e => by unfold wipeE; rw [List.length_set, wipeE_len vs e]
theorem wipeE_at : ∀ (vs : List Nat) (e : Env) (j : Nat), (wipeE e vs)[j]? = if j ∈ vs then (e[j]?).map (fun _ => Sl.no) else e[j]?
  | [], e, j => by simp [wipeE]
  | v :: vs, e, j => by
    unfold wipeE
    rw [List.getElem?_set]
    by_cases h : v = j
    · subst h
      rw [if_pos rfl, if_pos (List.mem_cons_self ..), wipeE_len]
      by_cases hl : v < e.length
      · rw [if_pos hl, List.getElem?_eq_getElem hl]
        rfl
      · rw [if_neg hl, List.getElem?_eq_none (by omega)]
        rfl
    · rw [if_neg h, wipeE_at vs e j]
      by_cases hm : j ∈ vs
      · rw [if_pos hm, if_pos (List.mem_cons_of_mem _ hm)]
      · rw [if_neg hm, if_neg fun z => (List.mem_cons.mp z).elim (fun e => h e.symm) hm]
theorem backE_len : ∀ (vs : List Nat) (e e' : Env), (backE e e' vs).length = e'.length
  | [], e, e' => rfl
  | v :: vs, e, e' => by unfold backE; rw [List.length_set, backE_len vs e e']
theorem backE_at (hl : env.length = env'.length) : ∀ (vs : List Nat) (j : Nat), (backE env env' vs)[j]? = if j ∈ vs then env[j]? else env'[j]?
  | [], j => by simp [backE]
  | v :: vs, j => by
    unfold backE
    rw [List.getElem?_set]
    by_cases h : v = j
    · subst h
      rw [if_pos rfl, if_pos (List.mem_cons_self ..), backE_len]
      by_cases hv : v < env'.length
      · rw [if_pos hv, List.getElem?_eq_getElem (by omega), List.getD_eq_getElem?_getD, List.getElem?_eq_getElem (by omega)]
        rfl
      · rw [if_neg hv, List.getElem?_eq_none (by omega)]
    · rw [if_neg h, backE_at hl vs j]
      by_cases hm : j ∈ vs
      · rw [if_pos hm, if_pos (List.mem_cons_of_mem _ hm)]
      · rw [if_neg hm, if_neg fun z => (List.mem_cons.mp z).elim (fun e => h e.symm) hm]
/-- the slots vs hold nothing owned -/
def Light (vs : List Nat) (e : Env) : Prop := ∀ j ∈ vs, ∃ s, e[j]? = some s ∧ knd s = .z
theorem freeAt_light {vs : List Nat} (h : freeAt env vs = true) : Light vs env ∧ ∀ j ∈ vs, ∀ x, env[j]? ≠ some (Sl.ex x) := by
  unfold freeAt at h
  refine ⟨fun j hj => ?_, fun j hj x e => ?_⟩
  · have := List.all_eq_true.mp h j hj
    cases e : env[j]? with
    | none => rw [e] at this; cases this
    | some s =>
      rw [e] at this
      cases s with
      | no => exact ⟨_, rfl, rfl⟩
      | dat d => exact ⟨_, rfl, rfl⟩
      | _ => cases this
  · have := List.all_eq_true.mp h j hj
    rw [e] at this
    cases this
theorem Light.notPar {vs : List Nat} (h : Light vs env) {j : Nat} (hj : j ∈ vs) (c : Ct) : env[j]? ≠ some (Sl.par c) := fun e => by
  obtain ⟨s, h1, h2⟩ := h j hj
  rw [e] at h1
  cases h1
  cases h2
theorem Light.so {vs : List Nat} (h : Light vs env) (so : SameO env env') : Light vs env' := fun j hj => by
  obtain ⟨s, h1, h2⟩ := h j hj
  have := so.2 j
  rw [h1] at this
  cases e : env'[j]? with
  | none => rw [e] at this; cases this
  | some t =>
    rw [e] at this
    refine ⟨t, rfl, ?_⟩
    have : knd s = knd t := Option.some.inj this
    rw [← this]
    exact h2
/-- the slots vs are wiped -/
theorem chg_wipe {vs : List Nat} (h : Light vs env) : Chg vs σ env (wipe σ vs) (wipeE env vs) := by
  refine ⟨wipe_length σ vs, wipeE_len vs env, fun j n => by rw [wipe_at, if_neg n], fun j n => by rw [wipeE_at, if_neg n], fun j m => ⟨fun c => h.notPar m c, ?_⟩, fun j m r e => ?_⟩
  · obtain ⟨s, h1, h2⟩ := h j m
    exact ⟨.no, by rw [wipeE_at, if_pos m, h1]; rfl, rfl⟩
  · obtain ⟨s, h1, h2⟩ := h j m
    rw [e] at h1
    cases h1
    cases h2
theorem wipe_no {vs : List Nat} {j : Nat} (m : j ∈ vs) {s : Sl} (e : (wipeE env vs)[j]? = some s) : s = .no := by
  rw [wipeE_at, if_pos m] at e
  obtain ⟨_, _, h⟩ := Option.map_eq_some_iff.mp e
  exact h.symm
theorem RelT.wiped {vs : List Nat} (R : RelT z O H σ env) (h : Light vs env) : RelT z O H (wipe σ vs) (wipeE env vs) :=
  R.chg (chg_wipe h) (fun j d m e => by cases wipe_no m e) fun j x m e => by cases wipe_no m e
theorem so_wipe {vs : List Nat} (h : Light vs env) : SameO env (wipeE env vs) := by
  refine ⟨(wipeE_len vs env).symm, fun j => ?_⟩
  rw [wipeE_at]
  by_cases m : j ∈ vs
  · obtain ⟨s, h1, h2⟩ := h j m
    rw [if_pos m, h1]
    show some (knd s) = some .z
    rw [h2]
  · rw [if_neg m]
theorem own_wipe {vs : List Nat} (h : Light vs env) : ownS (wipe σ vs) (wipeE env vs) = ownS σ env := by
  funext s
  refine propext ⟨fun ⟨i, c, g, e⟩ => ?_, fun ⟨i, c, g, e⟩ => ?_⟩
  · obtain ⟨n, g'⟩ := (chg_wipe (σ := σ) h).getO g
    exact ⟨i, c, g', by rw [wipe_at, if_neg n] at e; exact e⟩
  · have n : i ∉ vs := fun m => by
      obtain ⟨t, h1, h2⟩ := h i m
      rcases getO_cases g with q | q
      · rw [h1] at q; cases q; cases h2
      · rw [h1] at q; cases q; cases h2
    refine ⟨i, c, ?_, by rw [wipe_at, if_neg n]; exact e⟩
    unfold getO at g ⊢
    rw [wipeE_at, if_neg n]
    exact g
/-- a target's slots -/
theorem chg_so {is : List Nat} {σ' : L2.St} (C : Chg is σ env σ' env') (h : Light is env) : SameO env env' := by
  refine ⟨C.l2.symm, fun j => ?_⟩
  by_cases m : j ∈ is
  · obtain ⟨s, h1, h2⟩ := h j m
    obtain ⟨t, h3, h4⟩ := (C.p j m).2
    rw [h1, h3]
    show some (knd s) = some (knd t)
    rw [h2, h4]
  · rw [C.e j m]
theorem wipe_chg {is vs : List Nat} {σ' : L2.St} (C : Chg is (wipe σ vs) env σ' env') (h : ∀ j ∈ is, j ∈ vs) : wipe σ' vs = wipe σ vs := by
  refine List.ext_getElem? fun j => ?_
  rw [wipe_at, wipe_at]
  by_cases m : j ∈ vs
  · rw [if_pos m, if_pos m]
    have hl : σ'.length = σ.length := C.l1.trans (wipe_length σ vs)
    by_cases hj : j < σ.length
    · rw [List.getElem?_eq_getElem hj, List.getElem?_eq_getElem (by omega)]
      rfl
    · rw [List.getElem?_eq_none (by omega), List.getElem?_eq_none (by omega)]
  · rw [if_neg m, if_neg m, C.s j fun z => m (h j z), wipe_at, if_neg m]
/-- the block's end: the outer names again -/
theorem RelT.unwipe {O' : SS} {vs : List Nat} {H' : Hp} {e' : Env} (R : RelT z O H σ env) (hf : Light vs env) (hx : ∀ j ∈ vs, ∀ x, env[j]? ≠ some (Sl.ex x)) (R' : RelT z O' H' (wipe σ vs) e') (so : SameO (wipeE env vs) e') (wt : UbG.SameT (wo (cells σ env O) H) (wo (cells σ (backE env e' vs) O') H')) :
    RelT z O' H' σ (backE env e' vs) ∧ SameO env (backE env e' vs) := by
  have hl : env.length = e'.length := (so_wipe hf).1.trans so.1
  have C : Chg vs (wipe σ vs) e' σ (backE env e' vs) := by
    refine ⟨(wipe_length σ vs).symm, (backE_len vs env e'), fun j n => by rw [wipe_at, if_neg n], fun j n => by rw [backE_at hl, if_neg n], fun j m => ⟨fun c e => ?_, ?_⟩, fun j m r e => ?_⟩
    · obtain ⟨s, h1, h2⟩ := (hf.so ((so_wipe hf).trans so)) j m
      rw [e] at h1
      cases h1
      cases h2
    · obtain ⟨s, h1, h2⟩ := hf j m
      exact ⟨s, by rw [backE_at hl, if_pos m]; exact h1, h2⟩
    · obtain ⟨s, h1, h2⟩ := (hf.so ((so_wipe hf).trans so)) j m
      rw [e] at h1
      cases h1
      cases h2
  refine ⟨R'.chg C (fun j d m e => ?_) (fun j x m e => ?_), ?_⟩
  · rw [backE_at hl, if_pos m] at e
    obtain ⟨v, h1, h2⟩ := R.dat j d e
    exact ⟨v, h1, Dq.monoT wt _ _ h2⟩
  · rw [backE_at hl, if_pos m] at e
    exact hx j m x e
  · refine ⟨hl.trans (backE_len vs env e').symm, fun j => ?_⟩
    rw [backE_at hl]
    by_cases m : j ∈ vs
    · rw [if_pos m]
    · rw [if_neg m]
      have h1 := ((so_wipe hf).trans so).2 j
      exact h1
theorem Dq.W {W : WX} {v : V} {d : D} {S : SS} (h : Dq z.K (wo S H) v d) : Dq ({ z with W := W } : Z).K (wo S H) v d := h
theorem relW {W : WX} (R : RelT z O H σ env) : RelT { z with W := W } O H σ env := ⟨R.len, R.dat, R.own, R.inj, R.out, R.ex, R.cl, R.tb⟩
theorem relW' {W : WX} (R : RelT { z with W := W } O H σ env) : RelT z O H σ env := ⟨R.len, R.dat, R.own, R.inj, R.out, R.ex, R.cl, R.tb⟩
abbrev Z.quiet (z : Z) : Z := { z with W := noW }
end
section
variable {z : Z} {σ : L2.St} {H : Hp} {Q : VK} {fi : M (List D)} {tg : Tg} {c : M Bool} {x : M Vw} {vs : List Nat}
theorem lc_read (hvs : ∀ j ∈ slots tg, j ∈ vs) (h : tP z (eLc fi tg c x vs) σ H Q) : tLc (tI z fi) (gT z.K tg) (tT z.quiet c) (tP z.quiet x) vs σ H Q := by
  obtain ⟨O, env, R, P⟩ := h
  refine tG_mono (post_bnd bkE R P) fun J H1 ⟨env1, ds, R1, s1, so1, hJ, P1⟩ => ?_
  intro Da nD
  split at P1
  · rename_i hfree
    obtain ⟨hf, hx⟩ := freeAt_light hfree
    cases er : lcGo tg c x vs ds [] (wipeE env1 vs) with
    | exc _ _ => rw [er] at P1; exact P1.elim
    | bad => rw [er] at P1; exact P1.elim
    | ok ys e' =>
      rw [er] at P1
      have nDc : ¬cells σ env1 O Da := R1.cl.new nD
      have e0 := sameNew nD (o := .lst [])
      have Rw : RelT z.quiet (fun s => O s ∨ s = Da) (upd H1 Da (.lst [])) (wipe σ vs) (wipeE env1 vs) := relW ((R1.fresh nD (kp e0) ⟨_, upd_same, True.intro⟩).wiped hf)
      -- what holds at each turn
      refine ⟨fun i m H2 => m = ds.length - i ∧ i ≤ ds.length ∧ ∃ (acc : List D) (ei : Env) (xs : List V), lcGo tg c x vs (ds.drop i) acc ei = .ok ys e' ∧ RelT z.quiet (fun s => O s ∨ s = Da) H2 (wipe σ vs) ei ∧ SameO (wipeE env1 vs) ei ∧ SameC (ownS σ env1) H1 H2 ∧
        H2 Da = some (.lst xs) ∧ DqAll z.K (wo (fun s => cells σ env1 O s ∨ s = Da) H2) xs acc, ⟨ds.length, by simp, Nat.zero_le _, [], wipeE env1 vs, [], er, Rw, SameO.refl _, (sameC e0), upd_same, .nil⟩, ?_⟩
      rintro i m H2 ⟨rfl, hi, acc, ei, xs, eg, R2, so2, s2, hD, hA⟩
      have owS : ∀ {e : Env}, SameO (wipeE env1 vs) e → ownS (wipe σ vs) e = ownS σ env1 := fun {e} so => by rw [← so.ownS, own_wipe hf]
      have ceE : ∀ {e : Env}, SameO (wipeE env1 vs) e → cells (wipe σ vs) e (fun s => O s ∨ s = Da) = fun s => cells σ env1 O s ∨ s = Da := fun {e} so => by
        rw [cells_or]
        unfold cells
        rw [owS so]
      have wt : UbG.SameT (wo (cells σ env1 O) H1) (wo (cells (wipe σ vs) ei (fun s => O s ∨ s = Da)) H2) := by
        rw [ceE so2]
        exact wT_ext (Ex := fun s => s = Da) s2 (fun a h => .inl h) fun a h => by rw [h]; exact nD
      obtain ⟨go, stop, yld⟩ := hJ.at_ i _ H2 wt R2.cl
      by_cases hl : i < ds.length
      · refine .inr ⟨go hl, _, fun H' n => ⟨ds.length - (i + 1), by omega, n⟩, fun v H3 y => ?_⟩
        obtain ⟨sm, d, ed, hd⟩ := yld v H3 hl y
        have R3 := R2.mono (kp sm)
        rw [List.drop_eq_getElem_cons hl] at eg
        have ed' : ds[i] = d := by
          rw [List.getElem?_eq_getElem hl] at ed
          exact Option.some.inj ed
        rw [ed'] at eg
        unfold lcGo at eg
        cases ep : putT tg d ei with
        | none => rw [ep] at eg; cases eg
        | some e1 =>
          rw [ep] at eg
          dsimp only at eg
          obtain ⟨σ4, q, R4, C⟩ := putT_ok tg d v (wipe σ vs) ei e1 R3 ep hd
          have light0 : Light vs (wipeE env1 vs) := fun j m => ⟨.no, by rw [wipeE_at, if_pos m]; obtain ⟨s, h1, _⟩ := hf j m; rw [h1]; rfl, rfl⟩
          have lightI : Light vs ei := light0.so so2
          have light1 : SameO ei e1 := chg_so C fun j m => lightI j (hvs j m)
          have wσ : wipe σ4 vs = wipe σ vs := wipe_chg C hvs
          have own4 : ownS σ4 e1 = ownS σ env1 := by
            have h1 : ownS (wipe σ4 vs) (wipeE e1 vs) = ownS σ4 e1 := own_wipe (lightI.so light1)
            rw [← h1, wσ]
            have h2 : SameO (wipeE env1 vs) (wipeE e1 vs) := (so2.trans light1).trans (so_wipe (lightI.so light1))
            exact owS h2
          have s3 : SameC (ownS σ env1) H1 H3 := s2.trans (Kp.C (kp sm))
          have hD3 : H3 Da = some (.lst xs) := sm _ _ hD
          have hA3 : DqAll z.K (wo (fun s => cells σ env1 O s ∨ s = Da) H3) xs acc := Dq.monoTAll (wT_of (kp sm)) _ _ hA
          refine q _ ⟨wσ, ?_⟩
          -- the test
          have nDo : ¬ownS σ env1 Da := fun h => nDc (.inl h)
          have stay : ∀ {e e2 : Env} {Ha Hb : Hp} {xs : List V} {acc : List D}, SameO e1 e → SameC (ownS σ4 e) Ha Hb → Ha Da = some (.lst xs) → DqAll z.K (wo (fun s => cells σ env1 O s ∨ s = Da) Ha) xs acc → SameC (ownS σ env1) H1 Ha → Hb Da = some (.lst xs) ∧ DqAll z.K (wo (fun s => cells σ env1 O s ∨ s = Da) Hb) xs acc ∧ SameC (ownS σ env1) H1 Hb := fun {e e2 Ha Hb xs acc} so sc h1 h2 h3 => by
            rw [← so.ownS σ4, own4] at sc
            exact ⟨sc.but _ _ nDo h1 (fun _ z => by cases z), Dq.monoTAll (sc.sub fun a h => .inl (.inl h)).wT _ _ h2, h3.trans sc⟩
          cases ec : c e1 with
          | exc _ _ => rw [ec] at eg; cases eg
          | bad => rw [ec] at eg; cases eg
          | ok bb e2 =>
            rw [ec] at eg
            refine ⟨_, e1, R4, ?_⟩
            rw [ec]
            intro b H4 s4 R5 so5 hb
            cases hb
            obtain ⟨hD4, hA4, s14⟩ := stay (e2 := e2) (SameO.refl e1) s4 hD3 hA3 s3
            have again : ∀ {e : Env} {Hb : Hp} {xs : List V} {acc : List D}, SameO e1 e → RelT z.quiet (fun s => O s ∨ s = Da) Hb σ4 e → SameC (ownS σ env1) H1 Hb → Hb Da = some (.lst xs) → DqAll z.K (wo (fun s => cells σ env1 O s ∨ s = Da) Hb) xs acc → lcGo tg c x vs (ds.drop (i + 1)) acc (wipeE e vs) = .ok ys e' →
                ds.length - (i + 1) = ds.length - (i + 1) ∧ i + 1 ≤ ds.length ∧ ∃ (acc : List D) (ei : Env) (xs : List V), lcGo tg c x vs (ds.drop (i + 1)) acc ei = .ok ys e' ∧ RelT z.quiet (fun s => O s ∨ s = Da) Hb (wipe σ vs) ei ∧ SameO (wipeE env1 vs) ei ∧ SameC (ownS σ env1) H1 Hb ∧ Hb Da = some (.lst xs) ∧ DqAll z.K (wo (fun s => cells σ env1 O s ∨ s = Da) Hb) xs acc := fun {e Hb xs acc} so Re sb hb ha hg => by
              have le := (lightI.so light1).so so
              have Rw := Re.wiped le
              rw [wσ] at Rw
              exact ⟨rfl, hl, acc, wipeE e vs, xs, hg, Rw, ((so2.trans light1).trans so).trans (so_wipe le), sb, hb, ha⟩
            cases bb with
            | false =>
              rw [if_neg (by decide)]
              exact again so5 R5 s14 hD4 hA4 eg
            | true =>
              rw [if_pos rfl]
              dsimp only at eg
              cases ex : x e2 with
              | exc _ _ => rw [ex] at eg; cases eg
              | bad => rw [ex] at eg; cases eg
              | ok w e3 =>
                rw [ex] at eg
                dsimp only at eg
                cases ew : w.stay with
                | none => rw [ew] at eg; cases eg
                | some yd =>
                  rw [ew] at eg
                  dsimp only at eg
                  by_cases hlen : acc.length < LIM
                  · rw [if_pos hlen] at eg
                    refine ⟨_, e2, R5, ?_⟩
                    rw [ex]
                    intro yv H5 s5 R6 so6 hy
                    obtain ⟨hD5, hA5, s15⟩ := stay (e2 := e2) so5 s5 hD4 hA4 s14
                    have hyd := hy.1.stay ew
                    have ce6 : cells σ4 e3 (fun s => O s ∨ s = Da) = fun s => cells σ env1 O s ∨ s = Da := by
                      rw [cells_or]
                      unfold cells
                      rw [← (so5.trans so6).ownS σ4, own4]
                    rw [ce6] at hyd
                    refine ⟨xs, hD5, by rw [hA5.len]; exact Nat.lt_of_lt_of_le hlen (by rw [sizeLine_eq]; decide), ?_⟩
                    have inD : (fun s => cells σ env1 O s ∨ s = Da) Da := .inr rfl
                    have sU : SameC (fun s => s = Da) H5 (upd H5 Da (.lst (xs ++ [yv]))) := sameC_upd rfl True.intro ⟨_, hD5, True.intro⟩
                    refine again (so5.trans so6) ?_ ?_ upd_same ?_ eg
                    · -- only the new list changed
                      have wt2 : UbG.SameT (wo (cells σ4 e3 (fun s => O s ∨ s = Da)) H5) (wo (cells σ4 e3 (fun s => O s ∨ s = Da)) (upd H5 Da (.lst (xs ++ [yv])))) := (sU.sub fun a h => by rw [h]; exact .inr (.inr rfl)).wT
                      refine R6.back wt2 ((sU.sub fun a h => by rw [h]; exact .inr (.inr rfl)).clS R6.cl) sU.tab R6.out (SameO.refl _) (fun j s _ => Iff.rfl) fun j cj g => ?_
                      obtain ⟨a, h1, h2⟩ := R6.own j cj g
                      refine ⟨a, h1, h2.moveT wt2 fun o ho hc => ?_⟩
                      rw [upd_ne (show a ≠ Da from fun z => R6.out j cj a g h1 (.inr z))]
                      exact ho
                    · exact s15.into (S := fun s => s = Da) sU fun s hs => by rw [hs]; exact .inr nD
                    · rw [wo_upd inD]
                      exact hA5.snoc hyd
                  · rw [if_neg hlen] at eg
                    cases eg
      · refine .inl ⟨stop (by omega), ?_⟩
        have e : ds.drop i = [] := List.drop_eq_nil_of_le (by omega)
        rw [e] at eg
        unfold lcGo ret at eg
        cases eg
        have hl2 : env1.length = e'.length := (so_wipe hf).1.trans so2.1
        have soB : SameO env1 (backE env1 e' vs) := by
          refine ⟨hl2.trans (backE_len vs env1 e').symm, fun j => ?_⟩
          rw [backE_at hl2]
          by_cases m : j ∈ vs
          · rw [if_pos m]
          · rw [if_neg m]
            exact ((so_wipe hf).trans so2).2 j
        have ceB : cells σ (backE env1 e' vs) (fun s => O s ∨ s = Da) = fun s => cells σ env1 O s ∨ s = Da := by
          rw [cells_or]
          unfold cells
          rw [← soB.ownS]
        have wtB : UbG.SameT (wo (cells σ env1 O) H1) (wo (cells σ (backE env1 e' vs) (fun s => O s ∨ s = Da)) H2) := by
          rw [ceB]
          exact wT_ext (Ex := fun s => s = Da) s2 (fun a h => .inl h) fun a h => by rw [h]; exact nD
        obtain ⟨RB, _⟩ := R1.unwipe hf hx (relW' R2) so2 wtB
        refine P1 (.ref Da) H2 s2 (RB.less fun s h => .inl h) soB ⟨⟨Da, rfl, ?_, xs, hD, ?_⟩, fun a ea => by cases ea; exact nD, fun a ea => by cases ea; exact RB⟩
        · rw [← soB.cells]
          exact nDc
        · rw [← soB.cells]
          exact hA
  · exact P1.elim
end
end UbP
namespace UbP
open PySem PySem.Spec PyProof.Rows L2 UbM Ub
section
variable {X : Cx} {z : Z} {tg elt iter : Expr} {ifs : List Expr} {scope : Scope} {own : List (Str × Nat)} {pos p spos gpos : Pos} {fi : M (List D)} {tgt : Tg} {c : M Bool} {x : M Vw} {n : Str}
theorem pu_lc (hc : X.calm = true) (hN : X.N.Nodup) (hi : PI X tg iter (tI z fi)) (ok : BlkOk X.N X.env.scope scope own)
    (hg : ∀ (s : Shared) (H : Hp) (C : Addr) (cl : List (Str × Addr)) (fp : List Addr), PG (X.blk s H scope (compEnvC scope cl C X.env) fp) tg (gT z.K tgt)) (ht : ∀ (s : Shared) (H : Hp) (C : Addr) (cl : List (Str × Addr)) (fp : List Addr), PTs (X.blk s H scope (compEnvC scope cl C X.env) fp) ifs (tT z.quiet c))
    (he : ∀ (s : Shared) (H : Hp) (C : Addr) (cl : List (Str × Addr)) (fp : List Addr), PE (X.blk s H scope (compEnvC scope cl C X.env) fp) elt (tP z.quiet x)) (hv : ∀ j ∈ slots tgt, j ∈ own.map (·.2)) (hs : ∀ x, foldedSetIterable iter X.env x = pure x := by intro _; rfl) :
    PE X (.ListComp elt [⟨tg, iter, ifs, 0⟩] scope pos) (tP z (eLc fi tgt c x (own.map (·.2)))) := PE_imp (pe_lc hc hN hi ok hg ht he hs) fun σ H Q h => lc_read hv h
theorem pu_setLc {i : Nat} {py : Pos} (hc : X.calm = true) (hN : X.N.Nodup) (hy : X.N[i]? = some n) (hyl : X.env.scope.names.lookup n = some .local)
    (hsw : swapsWith (.ListComp elt [⟨tg, iter, ifs, 0⟩] scope pos) (some (.Name n py)) spos.line X.env = pure true) (hi : PI X tg iter (tI z fi)) (ok : BlkOk X.N X.env.scope scope own)
    (hg : ∀ (s : Shared) (H : Hp) (C : Addr) (cl : List (Str × Addr)) (fp : List Addr), PG (X.blk s H scope (compEnvC scope cl C X.env) fp) tg (gT z.K tgt)) (ht : ∀ (s : Shared) (H : Hp) (C : Addr) (cl : List (Str × Addr)) (fp : List Addr), PTs (X.blk s H scope (compEnvC scope cl C X.env) fp) ifs (tT z.quiet c))
    (he : ∀ (s : Shared) (H : Hp) (C : Addr) (cl : List (Str × Addr)) (fp : List Addr), PE (X.blk s H scope (compEnvC scope cl C X.env) fp) elt (tP z.quiet x)) (hv : ∀ j ∈ slots tgt, j ∈ own.map (·.2)) (hs : ∀ x, foldedSetIterable iter X.env x = pure x := by intro _; rfl) :
    PS X (.Assign [.Name n py] (.ListComp elt [⟨tg, iter, ifs, 0⟩] scope pos) spos) (tS z (sSet i (eLc fi tgt c x (own.map (·.2))))) := PS_imp (ps_setLc hc hN hy hyl hsw hi ok hg ht he hs) fun D σ H ⟨B, env, R, b, P⟩ =>
  lc_read hv (tG_mono (R1 := vE) (postS_bnd R b P) fun v H1 ⟨env1, w, R1, b1, s1, so1, hV, P1⟩ => by
    obtain ⟨d, e1, P2⟩ := postS_stay P1
    exact pu_sset.tsetP R1 b1 (hV.1.stay e1) P2)
end
section
variable {z : Z} {σ : L2.St} {H : Hp} {Q : VK} {fi : M (List D)} {tg : Tg} {x : M Vw} {vs : List Nat} {P : Addr} {stopv : Bool}
theorem gx_read (hP : P ∈ z.Tb) (hvs : ∀ j ∈ slots tg, j ∈ vs) (h : tP z (eGx stopv fi tg x vs) σ H Q) : tI z fi σ H fun J H1 => GxR.TabG H1 P ∧ ∀ H2, GxR.Tabbed P H1 H2 → ∃ W : Nat → Nat → Hp → Prop, (∃ m, W 0 m H2) ∧ UbG.Turns J (gT z.K tg) (tP z.quiet x) vs (wipe σ vs) stopv (fun H' => Q (.bl stopv) H') (fun H' => Q (.bl !stopv) H') W := by
  obtain ⟨O, env, R, PP⟩ := h
  refine tG_mono (post_bnd bkE R PP) fun J H1 ⟨env1, ds, R1, s1, so1, hJ, P1⟩ => ⟨R1.tb P hP, fun H2 ht => ?_⟩
  split at P1
  · rename_i hfree
    obtain ⟨hf, hx⟩ := freeAt_light hfree
    have kt := kpTab (R1.tb P hP) ht
    cases er : gxGo stopv tg x vs ds (wipeE env1 vs) with
    | exc _ _ => rw [er] at P1; exact P1.elim
    | bad => rw [er] at P1; exact P1.elim
    | ok bb e' =>
      rw [er] at P1
      have fin : ∀ {H3 : Hp}, RelT z.quiet O H3 (wipe σ vs) e' → SameO (wipeE env1 vs) e' → SameC (ownS σ env1) H1 H3 → Q (.bl bb) H3 := fun {H3} R3 so s => by
        have hl2 : env1.length = e'.length := (so_wipe hf).1.trans so.1
        have soB : SameO env1 (backE env1 e' vs) := by
          refine ⟨hl2.trans (backE_len vs env1 e').symm, fun j => ?_⟩
          rw [backE_at hl2]
          by_cases m : j ∈ vs
          · rw [if_pos m]
          · rw [if_neg m]
            exact ((so_wipe hf).trans so).2 j
        have wtB : UbG.SameT (wo (cells σ env1 O) H1) (wo (cells σ (backE env1 e' vs) O) H3) := by
          rw [← soB.cells]
          exact (s.sub fun a h => .inl h).wT
        obtain ⟨RB, _⟩ := R1.unwipe hf hx (relW' R3) so wtB
        exact P1 (.bl bb) H3 s RB soB ⟨.bl _, True.intro, True.intro⟩
      refine ⟨fun i m H3 => m = ds.length - i ∧ i ≤ ds.length ∧ ∃ ei, gxGo stopv tg x vs (ds.drop i) ei = .ok bb e' ∧ RelT z.quiet O H3 (wipe σ vs) ei ∧ SameO (wipeE env1 vs) ei ∧ SameC (ownS σ env1) H1 H3, ⟨ds.length, by simp, Nat.zero_le _, wipeE env1 vs, er, relW ((R1.mono kt).wiped hf), SameO.refl _, Kp.C kt⟩, ?_⟩
      rintro i m H3 ⟨rfl, hi, ei, eg, R2, so2, s2⟩
      have owS : ∀ {e : Env}, SameO (wipeE env1 vs) e → ownS (wipe σ vs) e = ownS σ env1 := fun {e} so => by rw [← so.ownS, own_wipe hf]
      have wt : UbG.SameT (wo (cells σ env1 O) H1) (wo (cells (wipe σ vs) ei O) H3) := by
        have e : cells (wipe σ vs) ei O = cells σ env1 O := by unfold cells; rw [owS so2]
        rw [e]
        exact (s2.sub fun a h => .inl h).wT
      obtain ⟨go, stop, yld⟩ := hJ.at_ i _ H3 wt R2.cl
      by_cases hl : i < ds.length
      · refine .inr ⟨go hl, fun H' => ∃ ei, gxGo stopv tg x vs (ds.drop (i + 1)) ei = .ok bb e' ∧ RelT z.quiet O H' (wipe σ vs) ei ∧ SameO (wipeE env1 vs) ei ∧ SameC (ownS σ env1) H1 H', fun H' n => ⟨ds.length - (i + 1), by omega, rfl, hl, n⟩, fun v H4 y => ?_⟩
        obtain ⟨sm, d, ed, hd⟩ := yld v H4 hl y
        have R3 := R2.mono (kp sm)
        have s3 : SameC (ownS σ env1) H1 H4 := s2.trans (Kp.C (kp sm))
        rw [List.drop_eq_getElem_cons hl] at eg
        have ed' : ds[i] = d := by
          rw [List.getElem?_eq_getElem hl] at ed
          exact Option.some.inj ed
        rw [ed'] at eg
        unfold gxGo at eg
        cases ep : putT tg d ei with
        | none => rw [ep] at eg; cases eg
        | some e1 =>
          rw [ep] at eg
          dsimp only at eg
          obtain ⟨σ4, q, R4, C⟩ := putT_ok tg d v (wipe σ vs) ei e1 R3 ep hd
          have light0 : Light vs (wipeE env1 vs) := fun j m => ⟨.no, by rw [wipeE_at, if_pos m]; obtain ⟨s, h1, _⟩ := hf j m; rw [h1]; rfl, rfl⟩
          have lightI : Light vs ei := light0.so so2
          have light1 : SameO ei e1 := chg_so C fun j m => lightI j (hvs j m)
          have wσ : wipe σ4 vs = wipe σ vs := wipe_chg C hvs
          have own4 : ownS σ4 e1 = ownS σ env1 := by
            have h1 : ownS (wipe σ4 vs) (wipeE e1 vs) = ownS σ4 e1 := own_wipe (lightI.so light1)
            rw [← h1, wσ]
            exact owS ((so2.trans light1).trans (so_wipe (lightI.so light1)))
          refine q _ ⟨wσ, ?_⟩
          cases ex : x e1 with
          | exc _ _ => rw [ex] at eg; cases eg
          | bad => rw [ex] at eg; cases eg
          | ok w e3 =>
            refine ⟨_, e1, R4, ?_⟩
            rw [ex]
            intro yv H5 s5 R6 so6 hy
            rw [own4] at s5
            have le := (lightI.so light1).so so6
            have Rw := R6.wiped le
            rw [wσ] at Rw
            have soW : SameO (wipeE env1 vs) (wipeE e3 vs) := ((so2.trans light1).trans so6).trans (so_wipe le)
            rw [ex] at eg
            cases w with
            | o _ => cases eg
            | f _ => cases eg
            | d dd =>
              cases dd with
              | bl b =>
                have hyv : Dq z.K _ yv (.bl b) := hy.1
                cases hyv
                dsimp only at eg
                refine ⟨b, rfl, fun hb => ?_, fun hb => ?_⟩
                · rw [if_pos hb] at eg
                  cases eg
                  exact fin Rw soW (s3.trans s5)
                · rw [if_neg hb] at eg
                  exact ⟨_, eg, Rw, soW, s3.trans s5⟩
              | _ => cases eg
      · refine .inl ⟨stop (by omega), ?_⟩
        have e : ds.drop i = [] := List.drop_eq_nil_of_le (by omega)
        rw [e] at eg
        unfold gxGo ret at eg
        cases eg
        exact fin R2 so2 s2
  · exact P1.elim
variable {X : Cx} {c : Addr} {tge elt iter : Expr} {p pos gpos : Pos} {scope : Scope} {own : List (Str × Nat)} {k : Nat}
theorem pu_all (hP : P ∈ z.Tb) (hr : Room (k + 1) X.A) (hN : X.N.Nodup) (hg : Gl X "all") (hm : X.mg "all" = none) (TB : GxR.TabB X.base X.mg c P) (hcode : X.env.code = .ref c) (ok : UbG.GexOk X.N X.env.scope scope own) (hi : PI X tge iter (tI z fi))
    (hpe : ∀ (A : Around) (s : Shared) (H : Hp) (C : Addr) (code : Value) (fp : List Addr) (pn : List (Addr × Obj)), Room k A → let G := UbG.gex X A s H (genEnv scope (cloFrom X.env.cells scope.names []) C code builtinsNs X.env) fp pn
      PG G tge (gT z.K tg) ∧ PE G elt (tP z.quiet x)) (hv : ∀ j ∈ slots tg, j ∈ own.map (·.2))
    (hs : ∀ v, genFold iter X.env v = pure v := by intro _; rfl)
    (he : starEach [.GeneratorExp elt [⟨tge, iter, [], 0⟩] scope gpos] X.env = (false, eval (.GeneratorExp elt [⟨tge, iter, [], 0⟩] scope gpos) X.env) :: starEach [] X.env := by rfl) :
    PE X (.Call (.Name "all" p) [.GeneratorExp elt [⟨tge, iter, [], 0⟩] scope gpos] [] pos) (tP z (eGx false fi tg x (own.map (·.2)))) := PE_imp (UbG.pe_allG hr hN hg hm bb_all TB hcode ok hi hpe hs he) fun σ H Q h => gx_read hP hv h
theorem pu_any (hP : P ∈ z.Tb) (hr : Room (k + 1) X.A) (hN : X.N.Nodup) (hg : Gl X "any") (hm : X.mg "any" = none) (TB : GxR.TabB X.base X.mg c P) (hcode : X.env.code = .ref c) (ok : UbG.GexOk X.N X.env.scope scope own) (hi : PI X tge iter (tI z fi))
    (hpe : ∀ (A : Around) (s : Shared) (H : Hp) (C : Addr) (code : Value) (fp : List Addr) (pn : List (Addr × Obj)), Room k A → let G := UbG.gex X A s H (genEnv scope (cloFrom X.env.cells scope.names []) C code builtinsNs X.env) fp pn
      PG G tge (gT z.K tg) ∧ PE G elt (tP z.quiet x)) (hv : ∀ j ∈ slots tg, j ∈ own.map (·.2))
    (hs : ∀ v, genFold iter X.env v = pure v := by intro _; rfl)
    (he : starEach [.GeneratorExp elt [⟨tge, iter, [], 0⟩] scope gpos] X.env = (false, eval (.GeneratorExp elt [⟨tge, iter, [], 0⟩] scope gpos) X.env) :: starEach [] X.env := by rfl) :
    PE X (.Call (.Name "any" p) [.GeneratorExp elt [⟨tge, iter, [], 0⟩] scope gpos] [] pos) (tP z (eGx true fi tg x (own.map (·.2)))) := PE_imp (UbG.pe_anyG hr hN hg hm bb_any TB hcode ok hi hpe hs he) fun σ H Q h => gx_read hP hv h
end
theorem hok_okT {K : PySem.W.Frag} {f : Str} : ∀ (H : Hp) (vs : List V) (ds : List D), DqAll K H vs ds → UbP.okT ds = true → UbC.okT vs ∧ vs.length ≤ 1000 ∧ UbC.fl1 f vs = [f].zip vs := by
  intro H vs ds h k
  unfold UbP.okT at k
  split at k
  · rename_i y
    cases h with
    | cons h1 h2 =>
      cases h2
      cases h1
      exact ⟨⟨y, rfl, of_decide_eq_true k⟩, Nat.le_of_ble_eq_true rfl, rfl⟩
  · cases k
theorem law_start {K : PySem.W.Frag} {Tb : List Addr} {f : Fn} {H : Hp} {a : Addr} {ns : List Int} {Q : VK} {E : XK} (hT : ∀ P ∈ Tb, GxR.TabG H P) (hS : SqL K H a (ns.map V.int)) (hf : f [.dat (.lsf (ns.map D.int))] = .ret (.d (.bl true)) []) (q : ∀ H', Q (.bl true) H') : spF K Tb f 1 [.ref a] H Q E := by
  have no : ∀ s, ¬cells [some (V.ref a)] [Sl.dat (.lsf (ns.map D.int))] (fun _ => False) s := fun s h => by
    rcases h with ⟨i, c, g, _⟩ | h
    · rcases getO_cases g with q | q
      · cases i with
        | zero => cases q
        | succ i => simp at q
      · cases i with
        | zero => cases q
        | succ i => simp at q
    · exact h
  have ew : wo (cells [some (V.ref a)] [Sl.dat (.lsf (ns.map D.int))] (fun _ => False)) H = H := by
    funext b
    exact wo_out (no b)
  have all : ∀ ns : List Int, DqAll K H (ns.map V.int) (ns.map D.int) := fun ns => by
    induction ns with
    | nil => exact .nil
    | cons n ns ih => exact .cons (.int n) ih
  refine ⟨rfl, fun _ => False, [.dat (.lsf (ns.map D.int))], ⟨rfl, fun i d h => ?_, fun i c g => ?_, fun i j c c' b g => ?_, fun i c b g _ => id, fun i x h => ?_, fun s hs => absurd hs (no s), hT⟩, fun s hs => .inl ⟨_, List.mem_singleton.mp hs⟩, ?_⟩
  · cases i with
    | zero =>
      cases h
      refine ⟨.ref a, rfl, ?_⟩
      rw [show wo (cells ([V.ref a].map some) [Sl.dat (.lsf (ns.map D.int))] (fun _ => False)) H = H from ew]
      exact .lsf hS (all ns)
    | succ i => simp at h
  · rcases getO_cases g with q | q
    · cases i with
      | zero => cases q
      | succ i => simp at q
    · cases i with
      | zero => cases q
      | succ i => simp at q
  · rcases getO_cases g with q | q
    · cases i with
      | zero => cases q
      | succ i => simp at q
    · cases i with
      | zero => cases q
      | succ i => simp at q
  · cases i with
    | zero => cases h
    | succ i => simp at h
  · rw [hf]
    intro v H' _ _ hv _
    have hv : Dq K _ v (.bl true) := hv
    cases hv
    exact q H'
end UbP
namespace UbP
open PySem PySem.Spec PyProof.Rows L2 UbM Ub
section
variable {z : Z} {O O' : SS} {σ : L2.St} {env e1 : Env} {H H1 H' : Hp} {a dx : Addr} {c x : Str} {k : Ct}
theorem SameC.new {S : SS} (e : Same H H1) (na : H a = none) (s : SameC (fun b => S b ∨ b = a) H1 H') : SameC S H H' := by
  refine ⟨fun b o nb h t => ?_, fun P h => s.tab P (UbG.TabG.mono e h), fun b hb ⟨o, h, hc⟩ => s.cl b (.inl hb) ⟨o, e _ _ h, hc⟩, fun b h => ?_⟩
  · refine s.but b o (fun h2 => ?_) (e _ _ h) t
    rcases h2 with h2 | h2
    · exact nb h2
    · rw [h2, na] at h
      cases h
  · cases g : H b with
    | none => rfl
    | some o =>
      have := s.dom b h
      rw [e _ _ g] at this
      cases this
end
section
variable {X : Cx} {z : Z} {e : Expr} {es : List Expr} {fs fks : List (M Vw)} {kws : List Keyword} {ks : List Str} {x : Str} {k j n N : Nat} {f : Fn} {ms : List Bool} {p pos kpos : Pos} {nm : Option Str} {fa : M Vw}
theorem Paired.app {α β : Type} {R : α → β → Prop} : ∀ {a c : List α} {b d : List β}, Paired R a b → Paired R c d → Paired R (a ++ c) (b ++ d)
  | _, _, _, _, .nil, h => h
  | _, _, _, _, .cons h t, k => .cons h (Paired.app t k)
theorem Paired.imp {α β : Type} {R R' : α → β → Prop} (i : ∀ a b, R a b → R' a b) : ∀ {a : List α} {b : List β}, Paired R a b → Paired R' a b
  | _, _, .nil => .nil
  | _, _, .cons h t => .cons (i _ _ h) (Paired.imp i t)
end
end UbP
namespace UbP
open PySem PySem.Spec PyProof.Rows L2 UbM Ub
section
variable {X : Cx} {z : Z} {e eo ei : Expr} {fa fb fc : M Vw} {pos tpos : Pos}
theorem dv_intOf {K : PySem.W.Frag} {S : SS} {H : Hp} {v : V} {d : D} {i : Int} (h : DV K S H v d) (e : intOf d = some i) : v = .int i := by
  cases d with
  | int j => cases e; exact dv_int h
  | _ => cases e
end
end UbP
namespace UbT
open PySem PySem.Spec PyProof.Rows L2
open UbP (difs)
theorem cnt_le {α : Type} [DecidableEq α] (xs : List α) : ∀ i, difs xs i ≤ i
  | 0 => Nat.le_refl _
  | i + 1 => by
    have := cnt_le xs i
    unfold difs
    split
    · split <;> omega
    · omega
section
variable {prog : Program} {w : World} {A : Around} {K : Type} [DecidableEq K] {R : Result → Shared → Prop} {I : Addr} {fp wr : List Addr} {G : Array GenState → Array GenState → Prop} {n : Nat} {P : Nat → Value → Prop} {St : Nat → Shared → Prop}
def has (ks : List K) (i : Nat) (k : K) : Bool := decide (k ∈ ks.take i)
/-- the loop that fills a set -/
theorem fill (knd : KeyKind prog w K) (W : WalksS prog w A.in1 I fp wr G n P St) (T : Addr) (out : T ∉ fp) (ks : List K) (len : ks.length = n) (few : n + 1 < scanBound)
    (isK : ∀ i v k, P i v → ks[i]? = some k → knd.is k v = true ∧ v.scannable = true) (m : Nat) : ∀ (i : Nat) (s : Shared), n - i = m → i ≤ n → St i s → s.heap.SetOf knd T (has ks i) (difs ks i) →
      (∀ s', Moved (T :: wr) G s s' → s'.heap.SetOf knd T (has ks n) (difs ks n) → R (.ok (.ret .none)) s') → codeAny (model prog w) A (.builtin "set.update.loop" ⟨[.ref T, .ref I], []⟩) R s := by
  have outW : T ∉ wr := fun h => out (W.sub _ h)
  have wider : ∀ b ∈ wr, b ∈ T :: wr := fun b h => List.mem_cons_of_mem _ h
  have keep : ∀ {s s' : Shared} {f : K → Bool} {c : Nat}, Moved wr G s s' → s.heap.SetOf knd T f c → s'.heap.SetOf knd T f c := fun mv ⟨o, es, ep, tb, ho, z⟩ => ⟨o, es, ep, tb, mv.heap T _ outW ho, z⟩
  induction m with
  | zero =>
    intro i s em il st so fin
    obtain rfl : i = n := by omega
    refine codeAny_builtin F.entry_set_update_loop ?_
    rw [Around.under_plainId F.plain_set_update_loop _]
    show wpAny _ A.in1 (pyNext (.ref I) >>= _) _ _ s; refine wpAny_bind (W.done s _ _ st fun s' mv => ?_)
    show wpAny _ A.in1 (ret Value.none) _ _ s'; exact wpAny_pure (fin s' (mv.mono wider) (keep mv so))
  | succ m ih =>
    intro i s em il st so fin
    have lt : i < n := by omega
    obtain ⟨k, ek⟩ : ∃ k, ks[i]? = some k := ⟨_, List.getElem?_eq_getElem (by omega)⟩
    refine codeAny_builtin F.entry_set_update_loop ?_
    rw [Around.under_plainId F.plain_set_update_loop _]
    show wpAny _ A.in1 (pyNext (.ref I) >>= _) _ _ s; refine wpAny_bind (W.item i s _ _ lt st fun v s' pv st' mv => ?_)
    obtain ⟨kv, sv⟩ := isK i v k pv ek
    show wpAny _ A.in1 (holding [v] (setAdd T v) >>= _) _ _ s'; refine wpAny_bind (wpAny_holding ?_)
    unfold setAdd
    refine wpAny_holding (wpAny_bind (knd.pyHash (k := k) kv ?_))
    have room : difs ks i + 1 < scanBound := by have := cnt_le ks i; omega
    have so1 := keep mv so
    refine wpAny_setAddHashed_of (knd := knd) (s := { s' with toks := s'.toks + 1 }) kv sv so1 room fun h' sb so2 => ?_
    have so3 : h'.SetOf knd T (has ks (i + 1)) (difs ks (i + 1)) := by
      have e1 : (fun k' => has ks i k' || decide (k' = k)) = has ks (i + 1) := by
        funext k'
        unfold has
        rw [List.take_add_one, ek, Bool.eq_iff_iff]
        simp
      have e2 : (if has ks i k = true then difs ks i else difs ks i + 1) = difs ks (i + 1) := by
        rw [difs, ek]
        dsimp only [has]
        by_cases z : k ∈ ks.take i
        · rw [if_pos z]; exact if_pos (decide_eq_true z)
        · rw [if_neg z]; exact if_neg (by simpa using z)
      rw [e1, e2] at so2
      exact so2
    have still : ∀ b, b ≠ T → ∀ o, s'.heap.get? b = some o → h'.get? b = some o := fun b nb o e => by rw [sb.2 b nb]; exact e
    refine wpAny_pure ⟨plainId_quiet F.plain_set_update_loop _, ih (i + 1) _ (by omega) lt (W.frame _ s' _ _ st' (Nat.le_succ _) fun b hb o e => still b (fun z => out (z ▸ hb)) o e) so3 fun s2 mv2 so4 => fin s2 ?_ so4⟩
    exact Moved.trans W.gtrans ((mv.mono wider).then_heap (Nat.le_succ _) fun b o hb e => still b (fun z => hb (by rw [z]; exact List.mem_cons_self)) o e) mv2
end
section
variable {prog : Program} {w : World} {A : Around} {E : Value → Shared → Prop} {s : Shared} {K : Type} [DecidableEq K]
abbrev bare (led : Bool) : Obj := { cls := .type "set", dict := none, data := .set #[] 0 (.fresh 0 0 led) }
set_option maxHeartbeats 3200000 in
/-- set(a list) -/
theorem made (knd : KeyKind prog w K) {l : Addr} {its : Array Value} {ks : List K} {Q : Value → Shared → Prop} (calm : A.handled = none) (hl : s.heap.IsList l its) (len : ks.length = its.size) (few : its.size + 1 < scanBound)
    (isK : ∀ (i : Nat) (v : Value) (k : K), its[i]? = some v → ks[i]? = some k → knd.is k v = true ∧ v.scannable = true)
    (q : ∀ (h' : Heap) (tk : Nat), h'.SetOf knd s.heap.objs.size (has ks its.size) (difs ks its.size) → (∀ b o, b < s.heap.objs.size → s.heap.get? b = some o → h'.get? b = some o) → Q (.ref s.heap.objs.size) { s with heap := h', toks := tk }) :
    wpAny (model prog w) A (call (.type "set") [.ref l]) Q E s := by
  obtain ⟨mc, mt, hmro⟩ := PySem.F.called_set.mro
  have f1 := PySem.F.called_set.made; have f2 := PySem.F.called_set.sub
  refine wpAny_call (codeAny_of_tree ?_)
  show wpAny _ _ (callAny (.type "set") _) _ _ _; refine wpAny_pure ⟨Code.quiet_builtin _ (by decide +kernel), codeAny_builtin PySem.F.entry_type_call ?_⟩
  rw [Around.under_plain (weight_type_call_type "set" [.ref l] []) rfl]
  have f3 := PySem.F.called_set.notType; have f4 := PySem.F.called_set.canCreate; have f5 := PySem.F.typeCall_set_1 (.ref l)
  repeat (any_goals (first | wp_step | assumption))
  refine codeAny_mono (code_set_new_1 (.ref l) (E := E) (Q₁ := fun x s1 => ∃ led : Bool, x = .ref s.heap.objs.size ∧ s1 = { s with heap := s.heap.push (bare led) }) fun led => ⟨led, rfl, rfl⟩) fun r s1 hr => ?_
  cases r with
  | error e => exact hr
  | ok fl =>
    cases fl with
    | ret x =>
      obtain ⟨led, rfl, rfl⟩ := hr
      have at0 : (s.heap.push (bare led)).get? s.heap.objs.size = some (bare led) := Heap.get?_push_size _ rfl
      have ty0 : Shared.TypeIs { s with heap := s.heap.push (bare led) } (.ref s.heap.objs.size) "set" := ⟨_, at0, rfl⟩
      have f6 := PySem.F.called_set.init.lookup; have f7 := PySem.F.called_set.init.bind (.ref s.heap.objs.size)
      repeat (any_goals (first | wp_step | assumption))
      refine codeAny_mono (codeAny_call_builtin (R := wants (fun r s2 => r = .none ∧ ∃ h' tk, s2 = { s with heap := h', toks := tk } ∧ h'.SetOf knd s.heap.objs.size (has ks its.size) (difs ks its.size) ∧ (∀ b o, b < s.heap.objs.size → s.heap.get? b = some o → h'.get? b = some o)) E) PySem.F.called_set.init.plain PySem.F.entry_set_init (check_set_init_1 ty0 ?_)) fun r2 s2 hr2 => ?_
      · obtain ⟨⟨oc, od, oda, os⟩, hol, hcl, nl, hdl⟩ := hl
        dsimp only at hcl hdl
        subst hcl hdl
        have old : ∀ {b o}, s.heap.get? b = some o → (s.heap.push (bare led)).get? b = some o := fun e => Heap.get?_push_of_some _ e
        have hol1 := old hol
        have f8 := PySem.F.sub_list_set; have f9 := PySem.F.sub_list_frozenset
        have f10 : (Value.type "list" == Value.type "dict") = false := by decide
        have hl1 : (s.heap.push (bare led)).IsList l its := ⟨_, hol1, rfl, nl, rfl⟩
        unfold Builtin.«set.__init__» noKeywords Builtin.Frozenset.updateFrom
        generalize hp : pyIter = pI
        wp_walk
        subst hp
        refine wpAny_pyIter_list hl1 (wpAny_bind (wpAny_runValue ?_))
        have lS : l < s.heap.objs.size := Heap.lt_size hol
        have sz : (s.heap.push (bare led)).objs.size = s.heap.objs.size + 1 := Heap.size_push _ _
        have calm3 : A.in1.in1.in1.handled = none := by simp [calm]
        have neI : l ≠ (s.heap.push (bare led)).objs.size := by rw [sz]; exact Nat.ne_of_lt (Nat.lt_succ_of_lt lS)
        have two : ∀ {b : Addr}, b ≤ s.heap.objs.size → b ≠ l → b ∉ [(s.heap.push (bare led)).objs.size, l] := fun hb hn z => by
          rcases List.mem_cons.mp z with z | z
          · rw [sz] at z; rw [z] at hb; exact absurd hb (Nat.not_succ_le_self _)
          · exact hn (List.mem_singleton.mp z)
        have outS := two (Nat.le_refl _) (Nat.ne_of_gt lS)
        refine fill knd ((Walks.list calm3 _ l neI its).toS) s.heap.objs.size outS ks len few isK (its.size - 0) 0 _ (by omega) (Nat.zero_le _) ⟨⟨_, Heap.get?_push_size _ rfl, rfl, rfl⟩, hl1.push _⟩ ?sa ?sb
        case sa => exact (setObjOf_fresh (knd := knd) led).setOf (Heap.get?_push_of_some _ at0) (by unfold scanBound; omega)
        case sb =>
          intro s' mv so
          obtain ⟨h', g', d', tk', os'⟩ := s'
          obtain rfl : g' = s.gens := mv.gens
          obtain rfl : d' = s.drawn := mv.drawn
          obtain rfl : os' = s.os := mv.os
          show wpAny _ _ _ _ _ _
          refine wpAny_pure ?_
          show wpAny _ _ (ret Value.none) _ _ _
          refine wpAny_pure ⟨rfl, h', tk', rfl, so, fun b o hb e => mv.heap b o (fun z => ?_) (Heap.get?_push_of_some _ (old e))⟩
          rcases List.mem_cons.mp z with z | z
          · exact absurd z (Nat.ne_of_lt hb)
          · rw [List.mem_singleton.mp z, sz] at hb
            exact absurd hb (Nat.not_lt_of_le (Nat.le_succ _))
      · cases r2 with
        | error e => exact hr2
        | ok fl2 =>
          cases fl2 with
          | ret x =>
            obtain ⟨rfl, h', tk, rfl, so, keeps⟩ := hr2
            repeat (any_goals (first | wp_step | assumption))
            exact q _ _ so keeps
          | _ => exact hr2.elim
    | _ => exact hr.elim
end
end UbT
namespace UbP
open PySem PySem.Spec PyProof.Rows L2 UbM Ub
theorem difs_map {α β : Type} [DecidableEq α] [DecidableEq β] {f : α → β} (inj : ∀ a b, f a = f b → a = b) (xs : List α) : ∀ i, difs (xs.map f) i = difs xs i
  | 0 => rfl
  | i + 1 => by
    unfold difs
    rw [List.getElem?_map, difs_map inj xs i]
    cases xs[i]? with
    | none => rfl
    | some x =>
      have : f x ∈ (xs.map f).take i ↔ x ∈ xs.take i := by
        rw [← List.map_take, List.mem_map]
        exact ⟨fun ⟨y, h1, h2⟩ => inj _ _ h2 ▸ h1, fun h => ⟨x, h, rfl⟩⟩
      show (if f x ∈ (xs.map f).take i then _ else _) = _
      by_cases h : x ∈ xs.take i
      · rw [if_pos (this.mpr h)]; exact (if_pos h).symm
      · rw [if_neg (fun z => h (this.mp z))]; exact (if_neg h).symm
def tLens (K : PySem.W.Frag) (ta : TE) : TE := fun σ H Q => ta σ H fun x H1 => ∃ (l : Addr) (ks : List L2.Key), x = V.ref l ∧ SqL K H1 l (ks.map kV) ∧ ks.length < 1000 ∧ Q (.int (difs ks ks.length : Nat)) H1
section
variable {X : Cx} {a : Expr} {ta : TE} {p p2 q pos : Pos}
theorem pe_lens (calm : X.calm = true) (gl : Gl X "len") (nl : X.mg "len" = none) (gs : Gl X "set") (ns : X.mg "set" = none) (ha : PE X a ta)
    (one : starEach [a] X.env = (false, eval a X.env) :: starEach [] X.env := by rfl) : PE X (.Call (.Name "len" p) [.Call (.Name "set" p2) [a] [] q] [] pos) (tLens X.K ta) := ⟨fun pins s σ H Q I h => by
  refine Call_ (ld_blt I gl nl PySem.boot_len (PyProof.Rows.callWith_builtin1 (PyProof.Rows.args_cons ?_ rfl) rfl rfl))
  refine Call_ (ld_blt I gs ns PyProof.Rows.boot_set (PyProof.Rows.callWith_type1 (PyProof.Rows.args_cons ?_ one) one rfl))
  refine thn (ha.run pins s σ H _ I h) fun v s1 ⟨x, H1, I1, r1, q1⟩ => PyProof.Rows.args_nil ?_
  obtain ⟨l, ks, rfl, sq, few, q1⟩ := q1
  cases r1
  obtain ⟨its, r, pl, hz⟩ := I1.list sq
  have sz : ks.length = its.toArray.size := by rw [List.size_toArray, ← r.length, List.length_map]
  refine UbT.made (mixKind X.prog X.w) (I1.ok.hd calm) pl.isList sz (by rw [← sz]; unfold scanBound; omega) (fun i u k eu ek => ?_) fun h' tk so keeps => PyProof.Rows.args_nil ?_
  · obtain ⟨u', e1, rk⟩ := r.get (i := i) (x := kV k) (by rw [List.getElem?_map, ek]; rfl)
    have eu : its[i]? = some u := by simpa using eu
    rw [e1] at eu
    cases eu
    exact ⟨kV_is rk, key_scan rk⟩
  · rw [← sz] at so
    obtain ⟨o, es, ep, t, ho, hex, hd, _, _, _, hf, hn⟩ := so
    have I2 : Inv X pins σ H1 { s1 with heap := h', toks := tk } := I1.kept fun b o e => keeps b o (Heap.lt_size e) e
    have le := UbT.cnt_le ks ks.length
    exact call_len_set ho hex hd hf (by rw [hn] <;> omega) ⟨.int (difs ks ks.length : Nat), H1, I2.tok _, ⟨_, by rw [hn]⟩, q1⟩⟩
end
theorem intsOf_some : ∀ {ds : List D} {ns : List Int}, intsOf ds = some ns → ds = ns.map .int
  | [], _, h => by cases h; rfl
  | d :: ds, ns, h => by
    cases d with
    | int b =>
      obtain ⟨ns', e1, rfl⟩ := Option.map_eq_some_iff.mp (show (intsOf ds).map (b :: ·) = some _ from h)
      rw [intsOf_some e1]; rfl
    | _ => cases h
theorem strsOf_some : ∀ {ds : List D} {ns : List Str}, strsOf ds = some ns → ds = ns.map .str
  | [], _, h => by cases h; rfl
  | d :: ds, ns, h => by
    cases d with
    | str b =>
      obtain ⟨ns', e1, rfl⟩ := Option.map_eq_some_iff.mp (show (strsOf ds).map (b :: ·) = some _ from h)
      rw [strsOf_some e1]; rfl
    | _ => cases h
theorem dq_ints {K : PySem.W.Frag} {H : Hp} : ∀ {ns : List Int} {xs : List V}, DqAll K H xs (ns.map .int) → xs = ns.map V.int
  | [], _, h => by cases h; rfl
  | n :: ns, _, h => by
    cases h with
    | cons h1 h2 => cases h1; rw [dq_ints h2]; rfl
theorem dq_strs {K : PySem.W.Frag} {H : Hp} : ∀ {ns : List Str} {xs : List V}, DqAll K H xs (ns.map .str) → xs = ns.map V.str
  | [], _, h => by cases h; rfl
  | n :: ns, _, h => by
    cases h with
    | cons h1 h2 => cases h1; rw [dq_strs h2]; rfl
section
variable {X : Cx} {z : Z} {a b e : Expr} {fa fb : M Vw} {p p2 q pos apos : Pos} {σ : L2.St} {H : Hp} {Q : VK}
theorem pu_lens (hK : X.K = z.K) (calm : X.calm = true) (gl : Gl X "len") (nl : X.mg "len" = none) (gs : Gl X "set") (ns : X.mg "set" = none) (ha : PE X a (tP z fa)) (one : starEach [a] X.env = (false, eval a X.env) :: starEach [] X.env := by rfl) :
    PE X (.Call (.Name "len" p) [.Call (.Name "set" p2) [a] [] q] [] pos) (tP z (eU lensD fa)) := PE_imp (pe_lens calm gl nl gs ns ha one) fun σ H Q h => pu_un (r := fun x H1 Q => ∃ (l : Addr) (ks : List L2.Key), x = V.ref l ∧ SqL X.K H1 l (ks.map kV) ∧ ks.length < 1000 ∧ Q (.int (difs ks ks.length : Nat)) H1) (by
  intro S σ H Q x d w cl hd e k
  unfold lensD at e
  split at e
  · obtain ⟨l, xs, rfl, h1, h2⟩ := dv_lst hd
    split at e
    · rename_i few
      obtain ⟨n, e1, e2⟩ := Option.bind_eq_some_iff.mp e
      rw [hK]
      have len := h2.len
      unfold lensI at e1
      split at e1
      · rename_i ns en
        cases e1
        rw [intsOf_some en] at h2 few
        rw [List.length_map] at few
        have ex : xs = (ns.map Sum.inl).map kV := by rw [dq_ints h2, List.map_map]; rfl
        refine ⟨l, ns.map Sum.inl, rfl, .inl (.inl (by rw [← ex]; exact h1)), by rw [List.length_map]; exact few, ?_⟩
        rw [List.length_map, difs_map (f := Sum.inl) (fun _ _ z => Sum.inl.inj z)]
        exact k_int e2 k
      · obtain ⟨ts, et, rfl⟩ := Option.map_eq_some_iff.mp e1
        rw [strsOf_some et] at h2 few
        rw [List.length_map] at few
        have ex : xs = (ts.map Sum.inr).map kV := by rw [dq_strs h2, List.map_map]; rfl
        refine ⟨l, ts.map Sum.inr, rfl, .inl (.inl (by rw [← ex]; exact h1)), by rw [List.length_map]; exact few, ?_⟩
        rw [List.length_map, difs_map (f := Sum.inr) (fun _ _ z => Sum.inr.inj z)]
        exact k_int e2 k
    · cases e
  · cases e) σ H Q h
def rIdxA (K : PySem.W.Frag) : V → List V → Hp → VK → Prop := fun x xs H Q => rIndex K x xs H Q ∨ rIndexD K x xs H Q
theorem mt_idxA (hu : X.A.units + 65 < cLine) : MtR X "list.index" (rIdxA X.K) := fun pins s σ H x xs v us Q I rx rxs h => h.elim (mt_index pins s σ H x xs v us Q I rx rxs) (mt_indexD hu pins s σ H x xs v us Q I rx rxs)
theorem find_at {α : Type} {p : α → Bool} {l : List α} {j : Nat} (h : l.findIdx? p = some j) : (∃ x, l[j]? = some x ∧ p x = true) ∧ ∀ m x, m < j → l[m]? = some x → p x = false := by
  obtain ⟨hj, h1, h2⟩ := List.findIdx?_eq_some_iff_getElem.mp h
  refine ⟨⟨_, List.getElem?_eq_getElem hj, h1⟩, fun m x hm hx => ?_⟩
  have := h2 m hm
  rw [List.getElem?_eq_getElem (by omega)] at hx
  cases hx
  simpa using this
theorem pyAll_get : ∀ {ds : List D} {i : Nat}, (pyAll ds)[i]? = (ds[i]?).map py
  | [], i => by simp [pyAll]
  | d :: ds, 0 => by simp [pyAll]
  | d :: ds, i + 1 => by simp [pyAll]; exact pyAll_get
theorem shaped40 {d : D} (h : sh d 40 = true) : SeqAt.shaped (py d) = true := by
  obtain ⟨h1, h2⟩ := py_sh d 40 h
  unfold SeqAt.shaped
  rw [h1, decide_eq_true (by omega)]
  rfl
theorem os_idx {K : PySem.W.Frag} : OpS K idxD fun x y H Q => rIdxA K x [y] H Q := by
  intro S σ H Q x y a b w cl ha hb e k
  unfold idxD at e
  split at e
  · rename_i ds
    split at e
    · rename_i hf
      obtain ⟨j, e1, e2⟩ := Option.bind_eq_some_iff.mp e
      obtain ⟨⟨d, ed, hd⟩, no⟩ := find_at e1
      have hl := dv_lst ha
      obtain ⟨p, xs, rfl, h1, h2⟩ := hl
      have h2' := h2.mono wo_same
      rcases Bool.or_eq_true_iff.mp hf with hf | hf
      · obtain ⟨f1, f2⟩ := Bool.and_eq_true_iff.mp hf
        obtain ⟨u, eu, hu⟩ := h2'.get ed
        have fd := List.all_eq_true.mp f2
        refine .inl ⟨p, xs, y, j, u, rfl, rfl, .inl (.inl h1), flat_v hb.dq f1, flat_all h2' f2, eu, by rw [flat_eq hu hb.dq (fd _ (List.mem_of_getElem? ed)) f1]; exact hd, fun m u' hm eu' => ?_, k_int e2 k⟩
        obtain ⟨d', ed', hd'⟩ := h2'.at eu'
        rw [flat_eq hd' hb.dq (fd _ (List.mem_of_getElem? ed')) f1]
        exact no m d' hm ed'
      · obtain ⟨f1, f2⟩ := Bool.and_eq_true_iff.mp hf
        have s2 : sh (.lst ds) 60 = true := by unfold sh; rw [f2]; rfl
        have dl : Dp K H (V.ref p) (.list (pyAll ds)) := Dq.dp (.lst ds) _ 60 s2 ha.dq
        have shA : ∀ {i : Nat} {d : D}, ds[i]? = some d → sh d 59 = true := fun {i d} e => by
          have go : ∀ (l : List D) (i : Nat), shAll l 59 = true → l[i]? = some d → sh d 59 = true := by
            intro l
            induction l with
            | nil => intro i _ h; simp at h
            | cons x l ih =>
              intro i h hx
              unfold shAll at h
              obtain ⟨g1, g2⟩ := Bool.and_eq_true_iff.mp h
              cases i with
              | zero => simp at hx; subst hx; exact g1
              | succ i => exact ih i g2 (by simpa using hx)
          exact go ds i f2 e
        refine .inr ⟨p, y, py b, pyAll ds, j, py d, rfl, rfl, dl, Dq.dp b y 40 f1 hb.dq, shaped_of s2, shaped40 f1, by rw [pyAll_get, ed]; rfl, by rw [py_eqv d b 59 40 (shA ed) f1]; exact hd, fun m z' hm ez => ?_, k_int e2 k⟩
        rw [pyAll_get] at ez
        obtain ⟨d', ed', rfl⟩ := Option.map_eq_some_iff.mp ez
        rw [py_eqv d' b 59 40 (shA ed') f1]
        exact no m d' hm ed'
    · cases e
  · cases e
end
end UbP
namespace UbP
open PySem PySem.Spec PyProof.Rows L2 UbM Ub
end UbP
namespace UbP
open PySem PySem.Spec PyProof.Rows L2 UbM Ub
end UbP
namespace UbP
open PySem PySem.Spec PyProof.Rows L2 UbM Ub
theorem DqAll.eraseIdx {K : PySem.W.Frag} {H : Hp} : ∀ {vs : List V} {ds : List D} (i : Nat), DqAll K H vs ds → DqAll K H (vs.eraseIdx i) (ds.eraseIdx i)
  | _, _, _, .nil => .nil
  | _, _, 0, .cons _ h2 => h2
  | _, _, i + 1, .cons h1 h2 => .cons h1 (DqAll.eraseIdx i h2)
theorem ixI_seq {n j : Nat} {i : Int} (h : ixI n i = some j) : seqIndex? i n = some j ∧ -(n : Int) ≤ i ∧ i < n := by
  unfold ixI at h
  unfold seqIndex?
  split at h
  · rename_i h0
    split at h
    · rename_i h1
      cases h
      rw [show (if i < 0 then i + (n : Int) else i) = i from if_neg (by omega)]
      exact ⟨if_pos (by simp [h0, h1]), by omega, h1⟩
    · cases h
  · rename_i h0
    split at h
    · rename_i h1
      cases h
      rw [show (if i < 0 then i + (n : Int) else i) = i + n from if_pos (by omega)]
      refine ⟨if_pos ?_, h1, by omega⟩
      rw [decide_eq_true (show (0 : Int) ≤ i + n by omega), decide_eq_true (show i + (n : Int) < n by omega)]
      rfl
    · cases h
section
variable {X : Cx} {z : Z} {e a : Expr} {es : List Expr} {fa fb : M Vw} {pos p apos : Pos} {σ : L2.St} {H : Hp} {Q : VK}
theorem pu_popA (ho : PE X a (tP z fa)) (ha : PE X e (tP z fb))
    (hbase : attributeBase a "pop" X.env (eval a X.env) = eval a X.env := by rfl)
    (hfew : ((backTo p (starEach [e] X.env)).all (fun x => !x.1) && (backToKw p (keywordEach [] X.env)).all (fun x => x.1.isSome) && decide ([e].length + ([] : List Keyword).length + (if ([] : List Keyword).isEmpty then 0 else 1) < 30)) = true := by rfl)
    (hline : (apos.endLine == p.line) = true := by rfl) (hs : starEach [e] X.env = (false, eval e X.env) :: starEach [] X.env := by rfl) (hplain : (backTo p (starEach [] X.env)).any (·.1) = false := by rfl) :
    PE X (.Call (.Attribute a "pop" apos) [e] [] p) (tP z (ePopA fa fb)) := PE_imp (pe_bm PySem.F.plainAttrs_list PySem.F.slot_list_pop PySem.F.type_list_pop mt_popAt ho (pa_cons ha pa_nil hs) hbase hfew hline hs hplain) fun σ H Q ⟨O, env, R, P⟩ =>
  tG_mono (post_recv bkE R P) fun v H1 ⟨env1, i, ds0, b, R1, s1, so1, g, ev, hσ, P1⟩ => by
    subst ev
    obtain ⟨xs0, h0, _⟩ := get_list R1 g hσ
    refine ⟨ty_list h0, ?_⟩
    refine tG_mono (post_bnd bkE R1 P1) fun u H2 ⟨env2, w2, R2, s2, so2, V2, P2⟩ => ?_
    obtain ⟨d, e1, P3⟩ := post_now P2
    have hu := V2.1.now R2 e1
    obtain ⟨ds, g2, P4⟩ := post_ownL P3
    obtain ⟨xs, h1, h2⟩ := get_list R2 g2 hσ
    cases d with
    | int k =>
      cases dv_int hu
      dsimp only at P4
      cases ej : ixI ds.length k with
      | none => rw [ej] at P4; exact P4.elim
      | some j =>
        rw [ej] at P4
        obtain ⟨dd, ed, P5⟩ := post_opt P4
        obtain ⟨hl, P6⟩ := post_if P5
        obtain ⟨y, ey, hy⟩ := h2.get ed
        obtain ⟨z1, z2, z3⟩ := ixI_seq ej
        have len := h2.len
        have small : (ds.length : Int) < 1000000 := by unfold LIM at hl; omega
        obtain ⟨R3, s3, so3⟩ := R2.putL (xs := xs) g2 hσ (h2.eraseIdx j)
        refine ⟨b, xs, k, j, y, rfl, rfl, h1, by omega, by omega, by rw [len]; exact z1, ey, post_change P6 R3 s3 so3 ?_ ⟨True.intro, True.intro⟩⟩
        show Dq z.K _ y dd
        rw [← so3.cells σ O, wo_upd (.inl ⟨i, _, g2, hσ⟩)]
        exact hy
    | _ => exact P4.elim
end
section
variable {X : Cx} {z : Z} {e a : Expr} {fa fb : M Vw} {p apos : Pos}
/-- xs.index(x) -/
theorem pu_idx (hK : X.K = z.K) (hu : X.A.units + 65 < cLine) (ho : PE X a (tP z fa)) (ha : PE X e (tP z fb))
    (hbase : attributeBase a "index" X.env (eval a X.env) = eval a X.env := by rfl)
    (hfew : ((backTo p (starEach [e] X.env)).all (fun x => !x.1) && (backToKw p (keywordEach [] X.env)).all (fun x => x.1.isSome) && decide ([e].length + ([] : List Keyword).length + (if ([] : List Keyword).isEmpty then 0 else 1) < 30)) = true := by rfl)
    (hline : (apos.endLine == p.line) = true := by rfl) (hs : starEach [e] X.env = (false, eval e X.env) :: starEach [] X.env := by rfl) (hplain : (backTo p (starEach [] X.env)).any (·.1) = false := by rfl) :
    PE X (.Call (.Attribute a "index" apos) [e] [] p) (tP z (eIdx fa fb)) := PE_imp (pe_bm PySem.F.plainAttrs_list PySem.F.slot_list_index PySem.F.type_list_index (mt_idxA hu) ho (pa_cons ha pa_nil hs) hbase hfew hline hs hplain) fun σ H Q ⟨O, env, R, P⟩ => by
  refine tG_mono (post_bnd bkE R P) fun v H1 ⟨env1, w, R1, s1, so1, V, P1⟩ => ?_
  obtain ⟨d0, e0, P1⟩ := post_now P1
  obtain ⟨hl, P1⟩ := post_if P1
  have ty : tyV X.K "list" v H1 := by
    have hv := V.1.now R1 e0
    cases d0 with
    | lst ds =>
      obtain ⟨q, xs, rfl, h1, _⟩ := dv_lst hv
      exact ty_list h1
    | _ => cases hl
  refine ⟨ty, ?_⟩
  refine tG_mono (post_bnd bkE R1 P1) fun u H2 ⟨env2, w2, R2, s2, so2, V2, P2⟩ => ?_
  obtain ⟨d1, e1, P3⟩ := post_now P2
  obtain ⟨d2, e2, P4⟩ := post_now P3
  obtain ⟨r1, e3, P5⟩ := post_optE P4
  rw [hK]
  exact os_idx _ σ H2 Q v u d1 d2 r1 R2.cl ((vmove s2 so2 V.1).now R2 e1) (V2.1.now R2 e2) e3 fun v' H' e V' N => post_new R2 P5 e V' N
end
end UbP
namespace UbP
open PySem PySem.Spec PyProof.Rows L2 UbM Ub
end UbP
namespace UbP
open PySem PySem.Spec PyProof.Rows L2 UbM Ub
theorem _root_.L2.Room.units65 {k : Nat} {A : Around} (r : L2.Room k A) : A.units + 65 < cLine := by have := r.un; omega
section
variable {X : Cx} {z : Z} {e a b c : Expr} {fa fb fc : M Vw} {pos : Pos} {σ : L2.St} {H : Hp}
theorem PE_bools {t : TE} (h : PE X e t) : PE X e (fun σ H Q => t σ H fun v H1 => ∃ b, v = V.bl b ∧ Q (.bl b) H1) := ⟨fun pins s σ H Q I q => wpAny_mono (h.run pins s σ H _ I q) (fun u s1 ⟨x, H1, I1, r1, b, e, q1⟩ => ⟨x, H1, I1, r1, by rw [e]; exact q1⟩) (fun _ _ z => z)⟩
theorem pu_echain {op op' : CmpOp} {f g : D → D → Option Bool} {r r' : R2} (s : OpS z.K (fun a b => (f a b).map fun k => .d (.bl k)) r) (s' : OpS z.K (fun a b => (g a b).map fun k => .d (.bl k)) r') (ho : OpR X (compareOp op) r) (ho' : OpR X (compareOp op') r') (ha : PE X a (tP z fa)) (hb : PE X b (tP z fb)) (hc : PE X c (tP z fc))
    (hm : lastMarks [op, op'] [b, c] = false := by with_unfolding_all rfl) : PE X (.Compare a [op, op'] [b, c] pos) (tP z (eChn f g fa fb fc)) := PE_imp (PE_bools (pe_chain ho ho' ha hb hc hm)) fun σ H Q h => by
  refine pu_chain (op := op) (op' := op') s s' σ H (fun b H' => Q (.bl b) H') ?_
  obtain ⟨O, env, R, P⟩ := h
  refine ⟨O, env, R, ?_⟩
  unfold eChn bnd at P
  cases e : tCh f g fa fb fc env with
  | ok k e1 =>
    rw [e] at P
    intro v H' s1 R1 so hv
    cases hv
    exact P (.bl k) H' s1 R1 so ⟨.bl k, True.intro, True.intro⟩
  | exc x e1 => rw [e] at P; exact P
  | bad => rw [e] at P; exact P
end
end UbP
namespace UbMz
open PySem PySem.Spec PyProof.Rows L2 Ub UbM
def sIt : Bool → Heap → Addr → Addr → Nat → Prop
  | true, h, i, l, k => h.IsTupleIter i l k
  | false, h, i, l, k => h.IsListIter i l k
def sAt : Bool → Heap → Addr → Array Value → Prop
  | true, h, l, xs => h.IsTuple l xs
  | false, h, l, xs => h.IsList l xs
def Sq : Bool → PySem.W.Frag → Hp → Addr → List V → Prop
  | true, K, H, a, xs => SqT K H a xs
  | false, K, H, a, xs => SqL K H a xs
theorem sIt.move {t : Bool} {h h' : Heap} {i l : Addr} {k : Nat} (x : sIt t h i l k) (e : ∀ o, h.get? i = some o → h'.get? i = some o) : sIt t h' i l k := by
  cases t with
  | true => exact Heap.IsTupleIter.at x e
  | false => exact Heap.IsListIter.at x e
theorem sAt.move {t : Bool} {h h' : Heap} {l : Addr} {xs : Array Value} (x : sAt t h l xs) (e : ∀ o, h.get? l = some o → h'.get? l = some o) : sAt t h' l xs := by
  cases t with
  | true => exact Heap.IsTuple.at x e
  | false => exact Heap.IsList.at x e
theorem sIt.cell {t : Bool} {h : Heap} {i l : Addr} {k : Nat} (x : sIt t h i l k) : ∃ o, h.get? i = some o ∧ ∀ v, o.data ≠ .cell v := by
  cases t with
  | true =>
    obtain ⟨o, e, _, d⟩ := x
    exact ⟨o, e, fun v z => by rw [d] at z; cases z⟩
  | false =>
    obtain ⟨o, e, _, d⟩ := x
    exact ⟨o, e, fun v z => by rw [d] at z; cases z⟩
def itN : Bool → String
  | true => "tuple_iterator"
  | false => "list_iterator"
abbrev it0 (t : Bool) (l : Addr) : Obj := { cls := .type (itN t), data := .fields #[.ref l, .int 0 0] }
abbrev z1 (h : Heap) (t1 : Bool) (l1 : Addr) : Heap := h.push (it0 t1 l1)
abbrev z2 (h : Heap) (t1 t2 : Bool) (l1 l2 : Addr) : Heap := (z1 h t1 l1).push (it0 t2 l2)
abbrev z3 (h : Heap) (t1 t2 : Bool) (l1 l2 : Addr) : Heap := (z2 h t1 t2 l1 l2).push { cls := .type "tuple", data := .seq #[.ref h.objs.size, .ref (z1 h t1 l1).objs.size] }
abbrev z4 (h : Heap) (t1 t2 : Bool) (l1 l2 : Addr) : Heap := (z3 h t1 t2 l1 l2).push { cls := .type "tuple", data := .seq #[.none, .none] }
abbrev z5 (h : Heap) (t1 t2 : Bool) (l1 l2 : Addr) : Heap := (z4 h t1 t2 l1 l2).push { cls := .type "zip", data := .fields #[.none, .bool false, .bool false, .ref (z2 h t1 t2 l1 l2).objs.size, .ref (z3 h t1 t2 l1 l2).objs.size] }
end UbMz
namespace UbEn
open PySem PySem.Spec PyProof.Rows L2 Ub UbM
open AutoSeq1 (wpAny_loadPart')
theorem meetsT (l : Addr) (items : Array Value) (n : Nat) (dct : Option Addr) (sl : Array (Option Value)) :
    Meets (Builtin.«enumerate.__new__» ⟨[.type "enumerate", .ref l], []⟩) (fun _ R s => s.heap.get? l = some { cls := .type "tuple", dict := dct, data := .seq items n, slots := sl } ∧
      R (.ok (.ret (.ref (s.heap.push (UbMz.it0 true l)).objs.size))) { s with heap := (s.heap.push (UbMz.it0 true l)).push { cls := .type "enumerate", data := .fields #[.none, .bool false, .ref s.heap.objs.size, rawInt 0, .none, .none] } }) :=
  .of_wp fun prog w A R s h => by
    obtain ⟨hp, g, d, tk, os⟩ := s
    obtain ⟨hl, h⟩ := h
    have hsub := sub_enumerate
    have hL : Heap.IsTuple (Shared.heap ⟨hp, g, d, tk, os⟩) l items := ⟨_, hl, rfl, n, rfl⟩
    wp_walk using wpAny_loadPart' hl
    refine wpAny_stack_any fun st => wpAny_pure ?_
    split
    · rename_i c _ _ _ _ _
      cases hc : (c == Value.type "enumerate") <;>
        (wp_walk using wpAny_loadPart' hl, wpAny_pyIter_tuple hL
         exact ⟨_, rfl, h⟩)
    · wp_walk using wpAny_loadPart' hl, wpAny_pyIter_tuple hL
      exact ⟨_, rfl, h⟩
section
variable {prog : Program} {w : World} {A : Around} {E : Value → Shared → Prop} {s : Shared}
theorem callT {l : Addr} {items : Array Value} {Q : Value → Shared → Prop} (hL : s.heap.IsTuple l items)
    (h : ∀ h', IsEnum h' (s.heap.objs.size + 1) s.heap.objs.size 0 .none → h'.IsTupleIter s.heap.objs.size l 0 →
      (∀ b o, s.heap.get? b = some o → h'.get? b = some o) → Q (.ref (s.heap.objs.size + 1)) { s with heap := h' }) :
    wpAny (model prog w) A (call (.type "enumerate") [.ref l]) Q E s := by
  obtain ⟨⟨c, dct, dt, sl⟩, hl, hc, n, hd⟩ := hL
  replace hc : c = .type "tuple" := hc
  replace hd : dt = .seq items n := hd
  subst hc hd
  refine callType_new F.called_enumerate (by decide) (F.typeCall_enumerate_1 _) (F.newCall_enumerate_1 _) (fun obj => F.args_object_init_2 obj _) F.entry_enumerate_new
    (meetsT l items n dct sl) ⟨hl, ?_⟩
  have n1 : (s.heap.push (UbMz.it0 true l)).objs.size = s.heap.objs.size + 1 := Heap.size_push ..
  have p1 : ∀ {h : Heap} {o : Obj} {d : Addr} {v : Obj}, h.get? d = some v → (h.push o).get? d = some v := fun e => Heap.get?_push_of_some _ e
  have g2 : ((s.heap.push (UbMz.it0 true l)).push { cls := .type "enumerate", data := .fields #[.none, .bool false, .ref s.heap.objs.size, rawInt 0, .none, .none] }).get? (s.heap.push (UbMz.it0 true l)).objs.size = some _ := Heap.get?_push_size _ rfl
  have g1 : ((s.heap.push (UbMz.it0 true l)).push { cls := .type "enumerate", data := .fields #[.none, .bool false, .ref s.heap.objs.size, rawInt 0, .none, .none] }).get? s.heap.objs.size = some (UbMz.it0 true l) := p1 (Heap.get?_push_size _ rfl)
  show _ ∧ _
  rw [n1] at g2 ⊢
  exact ⟨⟨_, g2, rfl⟩, h _ g2 ⟨_, g1, rfl, rfl⟩ fun c o x => p1 (p1 x)⟩
variable {e it l : Addr} {i : Nat} {xs : Array Value} {x old : Value}
theorem en_item {Q : Value → Shared → Prop} (he : IsEnum s.heap e it i old) (hit : s.heap.IsTupleIter it l i) (hl : s.heap.IsTuple l xs) (hx : xs[i]? = some x) (hne : e ≠ it)
    (hQ : ∀ h', IsEnumOut h' e it ((i : Int) + 1) x s.heap.objs.size → h'.IsTupleIter it l (i + 1) →
      h'.get? s.heap.objs.size = some { cls := .type "tuple", data := .seq #[.int i s.toks, x] } →
      (∀ b o, b ≠ e → b ≠ it → s.heap.get? b = some o → h'.get? b = some o) → Q (.ref s.heap.objs.size) { s with heap := h', toks := s.toks + 1 }) :
    wpAny (model prog w) A (Builtin.«enumerate.__next__» ⟨[.ref e], []⟩) (fun fin s' => ∃ v, fin = .done (.ret v) ∧ Q v s') E s := by
  obtain ⟨hp, g, d, tk, os⟩ := s
  show wpAny _ _ (field (.ref e) 2 >>= _) _ _ _
  refine wpAny_bind (wpAny_field he rfl (x := .ref it) rfl ?_)
  refine wpAny_bind (RZ.nextOf_tuple_item hit hl hx fun hA jA sA => ?_)
  replace sA : Heap.SameBut it hp hA := sA
  have eA : IsEnum hA e it i old := (sA.2 e hne).trans he
  show wpAny _ _ (field (.ref e) 3 >>= _) _ _ ⟨hA, g, d, tk, os⟩
  refine wpAny_bind (wpAny_field eA rfl (x := rawInt i) rfl ?_)
  show wpAny _ _ (field (.ref e) 4 >>= _) _ _ ⟨hA, g, d, tk, os⟩
  refine wpAny_bind (wpAny_field eA rfl (x := .none) rfl ?_)
  show wpAny _ _ (mkInt i >>= _) _ _ ⟨hA, g, d, tk, os⟩
  refine wpAny_bind (wpAny_mkInt ?_)
  show wpAny _ _ (setField (.ref e) 3 (rawInt ((i : Int) + 1)) >>= _) _ _ ⟨hA, g, d, tk + 1, os⟩
  refine wpAny_bind (wpAny_setField_rec eA (by simp) fun hB eB sB => ?_)
  replace sB : Heap.SameBut e hA hB := sB
  replace eB : IsEnum hB e it ((i : Int) + 1) old := eB
  show wpAny _ _ (setField (.ref e) 4 .none >>= _) _ _ ⟨hB, g, d, tk + 1, os⟩
  refine wpAny_bind (wpAny_setField_rec eB (by simp) fun hC eC sC => ?_)
  replace sC : Heap.SameBut e hB hC := sC
  replace eC : IsEnum hC e it ((i : Int) + 1) old := eC
  show wpAny _ _ (newTuple [.int i tk, x] >>= _) _ _ ⟨hC, g, d, tk + 1, os⟩
  refine wpAny_bind (wpAny_newTuple ?_)
  have eD : IsEnum (hC.push { cls := .type "tuple", data := .seq #[.int i tk, x] }) e it ((i : Int) + 1) old := Heap.get?_push_of_some _ eC
  have nC : hC.objs.size = hp.objs.size := by rw [sC.1, sB.1, sA.1]
  have hel : e < hp.objs.size := Heap.lt_size he
  have tD : (hC.push { cls := .type "tuple", data := .seq #[.int i tk, x] }).get? hp.objs.size = some { cls := .type "tuple", data := .seq #[.int i tk, x] } := by
    have := Heap.get?_push_size hC (o := { cls := .type "tuple", data := .seq #[.int i tk, x] }) rfl
    rwa [nC] at this
  have kD : ∀ b o, b ≠ e → b ≠ it → hp.get? b = some o → (hC.push { cls := .type "tuple", data := .seq #[.int i tk, x] }).get? b = some o := fun b o b1 b2 q =>
    Heap.get?_push_of_some _ (sC.extBut b o b1 (sB.extBut b o b1 (sA.extBut b o b2 q)))
  have jD : (hC.push { cls := .type "tuple", data := .seq #[.int i tk, x] }).IsTupleIter it l (i + 1) := jA.at fun o q => Heap.get?_push_of_some _ (sC.extBut _ _ (Ne.symm hne) (sB.extBut _ _ (Ne.symm hne) q))
  generalize hC.push { cls := .type "tuple", data := .seq #[.int i tk, x] } = hD at eD tD kD jD
  show wpAny _ _ (Builtin.SmallTypes.ownedTupleIsFree (.ref e) >>= _) _ _ ⟨hD, g, d, tk + 1, os⟩
  rw [nC]
  refine wpAny_bind ?_
  unfold Builtin.SmallTypes.ownedTupleIsFree
  refine wpAny_bind (wpAny_field eD rfl (x := .none) rfl (wpAny_pure ?_))
  simp only [if_true]
  refine wpAny_bind (wpAny_rule ?_)
  refine wpAny_bind (wpAny_field eD rfl (x := old) rfl ?_)
  refine wpAny_bind (wpAny_setField_rec eD (by simp) fun hF eF sF => ?_)
  replace sF : Heap.SameBut e hD hF := sF
  replace eF : IsEnum hF e it ((i : Int) + 1) x := eF
  show wpAny _ _ (Builtin.SmallTypes.ownedTupleHandOut (.ref e) (.ref hp.objs.size) >>= _) _ _ ⟨hF, g, d, tk + 1, os⟩
  refine wpAny_bind ?_
  unfold Builtin.SmallTypes.ownedTupleHandOut
  refine wpAny_bind (wpAny_setField_rec eF (by simp) fun hG eG sG => ?_)
  replace sG : Heap.SameBut e hF hG := sG
  replace eG : IsEnumOut hG e it ((i : Int) + 1) x hp.objs.size := eG
  refine wpAny_setField_rec eG (by simp) fun hM eM sM => ?_
  replace sM : Heap.SameBut e hG hM := sM
  replace eM : IsEnumOut hM e it ((i : Int) + 1) x hp.objs.size := eM
  have up : ∀ b o, b ≠ e → hD.get? b = some o → hM.get? b = some o := fun b o b1 q => sM.extBut _ _ b1 (sG.extBut _ _ b1 (sF.extBut _ _ b1 q))
  exact wpAny_bind (wpAny_letGo (wpAny_pure ⟨_, rfl, hQ hM eM (jD.at fun o q => up _ o (Ne.symm hne) q) (up _ _ (Nat.ne_of_gt hel) tD) fun b o b1 b2 q => up b o b1 (kD b o b1 b2 q)⟩))
theorem pe_item {Q : Option Value → Shared → Prop} (he : IsEnum s.heap e it i old) (hit : s.heap.IsTupleIter it l i) (hl : s.heap.IsTuple l xs) (hx : xs[i]? = some x) (hne : e ≠ it)
    (hQ : ∀ h', IsEnumOut h' e it ((i : Int) + 1) x s.heap.objs.size → h'.IsTupleIter it l (i + 1) →
      h'.get? s.heap.objs.size = some { cls := .type "tuple", data := .seq #[.int i s.toks, x] } →
      (∀ b o, b ≠ e → b ≠ it → s.heap.get? b = some o → h'.get? b = some o) → Q (some (.ref s.heap.objs.size)) { s with heap := h', toks := s.toks + 1 }) :
    wpAny (model prog w) A (pyNext (.ref e)) Q E s := by
  have hT : s.TypeIs (.ref e) "enumerate" := ⟨_, he, rfl⟩
  unfold pyNext
  exact wpAny_bind (wpAny_attempt (wpAny_callSpecial?_slot (name := Str.ofString "__next__") hT F.slot_enumerate_next
    (wpAny_call_entry F.slot_enumerate_next hT F.entry_enumerate_next
      (en_item he hit hl hx hne fun h' a b c k => wpAny_pure (hQ h' a b c k)) (F.args_enumerate_next_1 _))))
theorem pe_end {Q : Option Value → Shared → Prop} (hh : A.handled = none) (he : IsEnum s.heap e it i old) (hit : s.heap.IsTupleIter it l i) (hl : s.heap.IsTuple l xs) (hx : xs[i]? = none)
    (hQ : ∀ h', Heap.ExtBut it s.heap h' → Q none { s with heap := h' }) : wpAny (model prog w) A (pyNext (.ref e)) Q E s := by
  have hT : s.TypeIs (.ref e) "enumerate" := ⟨_, he, rfl⟩
  unfold pyNext
  refine wpAny_bind (wpAny_attempt (wpAny_callSpecial?_slot (name := Str.ofString "__next__") hT F.slot_enumerate_next
    (wpAny_call_entry F.slot_enumerate_next hT F.entry_enumerate_next ?_ (F.args_enumerate_next_1 _))))
  show wpAny _ _ (field (.ref e) 2 >>= _) _ _ _
  refine wpAny_bind (wpAny_field he rfl (x := .ref it) rfl ?_)
  refine wpAny_bind (RZ.nextOf_tuple_end hh hit hl hx fun h' x he' hx' => ?_)
  obtain ⟨o, ho, hc⟩ := hx'
  refine wpAny_bind (wpAny_isInstance (T := "StopIteration") (b := true) ⟨o, ho, hc⟩ isSubtype_stop ?_)
  exact wpAny_pure (hQ _ he')
end
def IteT (K : PySem.W.Frag) (a : Addr) : It :=
  ⟨fun i H => ∃ (xs : List V) (x : V), SqT K H a xs ∧ xs[i]? = some x, fun i H v H' => ∃ T x, v = .ref T ∧ H T = none ∧ H' = upd H T (.tup [.int (i : Nat), x]) ∧ ∀ xs, SqT K H a xs → xs[i]? = some x, fun i H => ∃ xs : List V, SqT K H a xs ∧ xs.length ≤ i⟩
theorem turnT {P : Program} {w : World} {K : PySem.W.Frag} {elts : List Expr} {kk : Nat} {tpos : Pos} (a e it : Addr) :
    Turn P w K (.Tuple elts kk tpos) (IteT K a) [e, it] e (fun i h => (∃ old, IsEnum h e it ((i : Nat) : Int) old) ∧ h.IsTupleIter it a i ∧ e ≠ it) where
  mem := by simp
  obj := fun i h st b hb => by
    obtain ⟨⟨old, he⟩, ⟨o, ho, hc, hd⟩, _⟩ := st
    have e' : b = e ∨ b = it := by simpa using hb
    rcases e' with z | z
    · rw [z]; exact ⟨_, he, fun v q => nomatch q⟩
    · rw [z]; exact ⟨o, ho, fun v q => by rw [hd] at q; cases q⟩
  keep := fun i h h' st k => by
    obtain ⟨⟨old, he⟩, hi, hne⟩ := st
    exact ⟨⟨old, k e (by simp) _ he⟩, hi.at fun o q => k it (by simp) o q, hne⟩
  item := by
    intro X hP hw hK hc i pins s σ H E I hf st hg
    subst hP hw hK
    obtain ⟨⟨old, he⟩, hit, hne⟩ := st
    obtain ⟨xs, x, hq, hx⟩ := hg
    obtain ⟨its, rv, p, hz⟩ := I.tuple hq
    obtain ⟨u, hu, ru⟩ := rv.get hx
    have hel : e < s.heap.objs.size := Heap.lt_size he
    have hil : it < s.heap.objs.size := by obtain ⟨_, q, _⟩ := hit; exact Heap.lt_size q
    refine pe_item he hit p (x := u) (by simpa using hu) hne fun h' ho hit' hT hk => ?_
    refine ⟨_, rfl, wpAny_letOwnedTupleGo_enum (s := { s with heap := h', toks := s.toks + 1 }) ho fun h'' he' sb => ?_⟩
    have hT2 : h''.get? s.heap.objs.size = some { cls := .type "tuple", data := .seq #[.int i s.toks, u] } := (sb.2 _ (Nat.ne_of_gt hel)).trans hT
    have new : ObjOk X.prog X.w (upd H s.heap.objs.size (.tup [.int (i : Nat), x])) h'' s.heap.objs.size (.tup [.int (i : Nat), x]) :=
      ⟨by show 2 ≤ sizeLine; decide, [.int i s.toks, u], .cons ⟨_, rfl⟩ (.cons ru .nil), ⟨_, hT2, rfl, _, rfl⟩⟩
    have I1 : Inv X pins σ (upd H s.heap.objs.size (.tup [.int (i : Nat), x])) { s with heap := h'', toks := s.toks + 1 } :=
      I.turnedNew (ch := [e, it]) (fun b ob hb q => (sb.2 b (fun z => hb (by simp [z]))).trans (hk b ob (fun z => hb (by simp [z])) (fun z => hb (by simp [z])) q)) hf (Nat.le_refl _) new
    refine ⟨.ref s.heap.objs.size, _, I1, rfl, ⟨_, x, rfl, I.hok.fresh (Nat.le_refl _), rfl, fun ys hy => by rw [I.tuple_inj hy hq]; exact hx⟩, ⟨⟨u, ?_⟩, hit'.at fun o q => (sb.2 it (Ne.symm hne)).trans q, hne⟩, fun b hb => ?_⟩
    · have e1 : ((i + 1 : Nat) : Int) = (i : Int) + 1 := by omega
      rw [e1]
      exact he'
    · have hb' : b < s.heap.objs.size := by
        have e' : b = e ∨ b = it := by simpa using hb
        rcases e' with z | z
        · rw [z]; exact hel
        · rw [z]; exact hil
      rw [upd_ne (Nat.ne_of_lt hb')]
      exact (hf b hb).1
  done := by
    intro X hP hw hK hc i pins s σ H E I hf st hg
    subst hP hw hK
    obtain ⟨⟨old, he⟩, hit, hne⟩ := st
    obtain ⟨xs, hq, hx⟩ := hg
    obtain ⟨its, rv, p, hz⟩ := I.tuple hq
    obtain ⟨f0, f1, f2, f3, f4, f5⟩ := hf it (by simp)
    have hl := rv.length
    exact pe_end (I.ok.hd hc) he hit p (by simp; omega) fun h' eb => ⟨rfl, I.turned (t' := s.toks) (fun b o hb q => eb b o hb q) f0 f1 f3 f4 f5⟩
  self := fun A i s Q E st h => by
    obtain ⟨⟨_, he⟩, _⟩ := st
    exact wpAny_pyIter_enum he h
def IteG (K : PySem.W.Frag) : Bool → Addr → It
  | true, a => IteT K a
  | false, a => Ite K a
def iEnumA (K : PySem.W.Frag) (ta : TA) : TI := fun σ H R => ta σ H fun vs H1 => ∃ t a xs, vs = [.ref a] ∧ UbMz.Sq t K H1 a xs ∧ R (IteG K t a) H1
theorem pi_enumA {X : Cx} {e : Expr} {ta : TA} {p pos tpos : Pos} {elts : List Expr} {kk : Nat} (hg : Gl X "enumerate") (hm : X.mg "enumerate" = none) (ha : PA X [e] ta) (hs : starEach [e] X.env = [(false, eval e X.env)] := by rfl) :
    PI X (.Tuple elts kk tpos) (.Call (.Name "enumerate" p) [e] [] pos) (iEnumA X.K ta) := by
  refine ⟨fun pins s σ H R I h => ?_⟩
  refine Call_ (ld_blt I hg hm boot_enumerate (PyProof.Rows.callWith_type1 (thn (ha.run pos pins s σ H _ I h) fun us s1 ⟨vs, H1, I1, r1, q1⟩ => ?_) hs rfl))
  obtain ⟨t, a, xs, ex, hq, q⟩ := q1
  subst ex
  cases r1 with
  | cons r rr =>
    cases rr
    cases r
    have hle : ∀ b, b ∈ [s1.heap.objs.size + 1, s1.heap.objs.size] → s1.heap.objs.size ≤ b := fun b hb => by
      have e' : b = s1.heap.objs.size + 1 ∨ b = s1.heap.objs.size := by simpa using hb
      rcases e' with z | z
      · rw [z]; exact Nat.le_add_right _ _
      · rw [z]; exact Nat.le_refl _
    cases t with
    | true =>
      obtain ⟨its, rv, p', hz⟩ := I1.tuple hq
      refine callT p' fun h' he hit hk => wpAny_pyIter_enum he ?_
      have I2 : Inv X pins σ H1 { s1 with heap := h' } := I1.kept (t' := s1.toks) hk
      exact ⟨s1.heap.objs.size + 1, [s1.heap.objs.size + 1, s1.heap.objs.size], _, _, H1, rfl, I2, turnT a (s1.heap.objs.size + 1) s1.heap.objs.size, ⟨⟨.none, he⟩, hit, Nat.succ_ne_self _⟩, fun b hb => I1.fpOk (hle b hb) (I1.hok.fresh (hle b hb)), q⟩
    | false =>
      obtain ⟨its, rv, p', hz⟩ := I1.list hq
      refine call_enumerate_list p'.isList fun h' he hit _ hk => wpAny_pyIter_enum he ?_
      have I2 : Inv X pins σ H1 { s1 with heap := h' } := I1.kept (t' := s1.toks) hk
      exact ⟨s1.heap.objs.size + 1, [s1.heap.objs.size + 1, s1.heap.objs.size], _, _, H1, rfl, I2, turn_enum a (s1.heap.objs.size + 1) s1.heap.objs.size, ⟨⟨.none, he⟩, hit, Nat.succ_ne_self _⟩, fun b hb => I1.fpOk (hle b hb) (I1.hok.fresh (hle b hb)), q⟩
end UbEn
namespace UbP
open PySem PySem.Spec PyProof.Rows L2 UbM Ub
section
variable {K : PySem.W.Frag} {S : SS} {H : Hp} {a b : Addr} {xs ys : List V} {ds es : List D} {t t1 t2 : Bool}
theorem sqh (h : UbMz.Sq t K (wo S H) a xs) : UbMz.Sq t K H a xs := by
  cases t with
  | true => exact Same.tseq wo_same h
  | false => exact Same.seq wo_same h
theorem it_enumT (h1 : SqT K (wo S H) a xs) (h2 : DqAll K (wo S H) xs ds) : ItOk K S H (UbEn.IteT K a) (enumF ds) := ⟨fun i S' H' e c => by
  have hl := h2.len
  have q : SqT K H' a xs := Same.tseq wo_same (UbG.SameT.tseq e h1)
  rw [enum_len]
  refine ⟨fun hi => ⟨xs, xs[i]'(by omega), q, List.getElem?_eq_getElem _⟩, fun hi => ⟨xs, q, by omega⟩, fun x H'' hi y => ?_⟩
  obtain ⟨T, x1, rfl, nT, rfl, y⟩ := y
  obtain ⟨d, e1, e2⟩ := h2.at (y xs q)
  have e2' := Dq.monoT e _ _ e2
  refine ⟨sameNew nT, _, enum_at e1, ?_⟩
  rw [wo_new (c.new nT)]
  exact .tup (.inl (.inl upd_same)) (.cons (.int _) (.cons (e2'.mono (sameNew (wo_none nT))) .nil))⟩
theorem sq_any {d : D} {v : V} (h : Dq K (wo S H) v d) {ds : List D} (e : seqOf d = some ds) : ∃ t a xs, v = .ref a ∧ UbMz.Sq t K (wo S H) a xs ∧ DqAll K (wo S H) xs ds := by
  cases h with
  | lst h1 h2 => cases e; exact ⟨false, _, _, rfl, .inl (.inl h1), h2⟩
  | lsf h1 h2 => cases e; exact ⟨false, _, _, rfl, h1, h2⟩
  | tup h1 h2 => cases e; exact ⟨true, _, _, rfl, h1, h2⟩
  | _ => cases e
end
section
variable {X : Cx} {z : Z} {tg e e2 : Expr} {fa fb : M Vw} {pos p p2 tpos : Pos} {elts : List Expr} {kk : Nat} {O : SS} {σ : L2.St} {env : Env} {H : Hp}
theorem pu_iEn (hK : X.K = z.K) (hg : Gl X "enumerate") (hm : X.mg "enumerate" = none) (ha : PE X e (tP z fa)) (hs : starEach [e] X.env = [(false, eval e X.env)] := by rfl) : PI X (.Tuple elts kk tpos) (.Call (.Name "enumerate" p) [e] [] pos) (tI z (iEn fa)) := PI_imp (UbEn.pi_enumA hg hm (pa_cons ha pa_nil hs) hs) fun σ H R ⟨O, env, RT, P⟩ =>
  tG_mono (post_bnd bkI RT P) fun v H1 ⟨env1, w, R1, s1, so1, V, P1⟩ => by
    obtain ⟨d, e1, P2⟩ := post_stay P1
    obtain ⟨ds, e2, P3⟩ := post_opt P2
    obtain ⟨t, a, xs, rfl, h1, h2⟩ := sq_any (V.1.stay e1) e2
    rw [hK]
    refine ⟨t, a, xs, rfl, sqh h1, P3 _ H1 (SameC.refl _) R1 (SameO.refl _) ?_⟩
    cases t with
    | true => exact it_enumT h1 h2
    | false => exact it_enum h1 h2
theorem dq_intsF {K : PySem.W.Frag} {H : Hp} (f : Nat → Int) : ∀ l : List Nat, DqAll K H (l.map fun i => V.int (f i)) (l.map fun i => D.int (f i))
  | [] => .nil
  | _ :: l => .cons (.int _) (dq_intsF f l)
theorem pu_rg1 (hc : X.calm = true) (hg : Gl X "list") (hm : X.mg "list" = none) (hg2 : Gl X "range") (hm2 : X.mg "range" = none) (ha : PE X e (tP z fa))
    (hs : starEach [e] X.env = (false, eval e X.env) :: starEach [] X.env := by rfl)
    (hs2 : starEach [.Call (.Name "range" p2) [e] [] pos] X.env = (false, eval (.Call (.Name "range" p2) [e] [] pos) X.env) :: starEach [] X.env := by rfl) {pos2 : Pos} :
    PE X (.Call (.Name "list" p) [.Call (.Name "range" p2) [e] [] pos] [] pos2) (tP z (eRg1 fa)) := PE_imp (pe_listRg hc hg hm (prg_1 hg2 hm2 ha hs) hs2) (by
  refine pu_un (r := fun v H1 Q => ∃ n : Int, v = .int n ∧ RgOk 0 n ∧ ∀ q, H1 q = none → Q (.ref q) (upd H1 q (.lst (rgV 0 n)))) ?_
  intro S σ H Q x a w cl ha e k
  unfold rg1D at e
  split at e
  · rename_i j
    cases dv_int ha
    split at e
    · rename_i hb
      have hb := of_decide_eq_true hb
      cases e
      refine ⟨j, rfl, hb, fun q nq => k_lst cl nq ?_ k⟩
      unfold rgV intsL
      rw [show j - 0 = j by omega]
      exact dq_intsF _ _
    · cases e
  · cases e)
end
end UbP
namespace UbTm
open PySem PySem.Spec PyProof.Rows L2
abbrev Su := Addr → Value → Option Addr → TS
/-- the ends of a suite whose name in slot k goes -/
def gone (k : Nat) (D : Ends) : Ends := { nx := fun a b => D.nx (a.set k none) b, rt := D.rt, bk := fun a b => D.bk (a.set k none) b, ct := fun a b => D.ct (a.set k none) b }
def enter (n : Option Nat) (t : TS) (D : Ends) (a : Addr) : L2.St → Hp → Prop := match n with
  | none => fun σ H => t D σ H
  | some k => fun σ H => t (gone k D) (σ.set k (some (.ref a))) H
def wish (K : PySem.W.Frag) (W0 : WX) (D : Ends) : List (Value × Option Nat × Su) → WX
  | [] => W0
  | (v, n, t) :: more => fun cl dx σ H => ∃ k, PySem.W.exmOne K cl v = some k ∧ (k = true → ∀ a, H a = none → enter n (t a cl dx) D a σ H) ∧ (k = false → wish K W0 D more cl dx σ H)
end UbTm
namespace UbP
open PySem PySem.Spec PyProof.Rows L2 UbM Ub
end UbP
namespace UbMs
open PySem PySem.Spec PyProof.Rows L2 Ub UbM UbMz
abbrev y0 (x0 : Str) (t0 : Tok) : Obj := { cls := .type "str_ascii_iterator", data := .fields #[.str x0 t0, .int 0 0] }
abbrev y1 (h : Heap) (x0 : Str) (t0 : Tok) : Heap := h.push (y0 x0 t0)
end UbMs
namespace UbP
open PySem PySem.Spec PyProof.Rows L2 UbM Ub
end UbP
namespace UbP
open PySem PySem.Spec PyProof.Rows L2 UbM Ub
end UbP
namespace UbP
open PySem PySem.Spec PyProof.Rows L2 UbM Ub
def fill {α : Type} : List Bool → List α → List α → List α
  | [], _, ws => ws
  | true :: _, [], ws => ws
  | true :: s, m :: ms, ws => m :: fill s ms ws
  | false :: _, _, [] => []
  | false :: s, ms, w :: ws => w :: fill s ms ws
end UbP
namespace UbP
open PySem PySem.Spec PyProof.Rows L2 UbM Ub
end UbP
namespace UbP
open PySem PySem.Spec PyProof.Rows L2 UbM Ub
end UbP
namespace UbP
open PySem PySem.Spec PyProof.Rows L2 UbM Ub
end UbP
namespace UbP
open PySem PySem.Spec PyProof.Rows L2 UbM Ub
section
variable {X : Cx} {z : Z} {a b e : Expr} {fa fb : M Vw} {pos p apos : Pos} {x : Str}
theorem erase_map (f : Int → V) : ∀ (l : List Int) (j : Nat), (l.eraseIdx j).map f = (l.map f).eraseIdx j
  | [], _ => rfl
  | _ :: _, 0 => rfl
  | x :: l, j + 1 => by
    show f x :: (l.eraseIdx j).map f = f x :: (l.map f).eraseIdx j
    rw [erase_map f l j]
end
end UbP
namespace UbP
open PySem PySem.Spec PyProof.Rows L2 UbM Ub
/-- the rows stand in cells of their own -/
inductive Rw (K : PySem.W.Frag) (S : SS) (H : Hp) : List Addr → List (List D) → Prop
  | nil : Rw K S H [] []
  | cons {b : Addr} {bs : List Addr} {xs : List V} {r : List D} {rs : List (List D)} : H b = some (.lst xs) → DqAll K (wo S H) xs r → Rw K S H bs rs → Rw K S H (b :: bs) (r :: rs)
section
variable {K : PySem.W.Frag} {S S' : SS} {H H' : Hp} {bs cs : List Addr} {rs qs : List (List D)}
theorem Rw.len : ∀ {bs : List Addr} {rs : List (List D)}, Rw K S H bs rs → bs.length = rs.length
  | _, _, .nil => rfl
  | _, _, .cons _ _ t => congrArg Nat.succ (Rw.len t)
theorem Rw.move (wt : UbG.SameT (wo S H) (wo S' H')) : ∀ {bs : List Addr} {rs : List (List D)}, (∀ b ∈ bs, ∀ xs, H b = some (.lst xs) → H' b = some (.lst xs)) → Rw K S H bs rs → Rw K S' H' bs rs
  | _, _, _, .nil => .nil
  | _, _, h, .cons h1 h2 t => .cons (h _ List.mem_cons_self _ h1) (Dq.monoTAll wt _ _ h2) (Rw.move wt (fun b hb => h b (List.mem_cons_of_mem _ hb)) t)
theorem Rw.snoc {b : Addr} {xs : List V} {r : List D} (hb : H b = some (.lst xs)) (hr : DqAll K (wo S H) xs r) : ∀ {bs : List Addr} {rs : List (List D)}, Rw K S H bs rs → Rw K S H (bs ++ [b]) (rs ++ [r])
  | _, _, .nil => .cons hb hr .nil
  | _, _, .cons h1 h2 t => .cons h1 h2 (Rw.snoc hb hr t)
theorem Rw.cell : ∀ {bs : List Addr} {rs : List (List D)}, Rw K S H bs rs → ∀ b ∈ bs, ∃ xs, H b = some (.lst xs)
  | _, _, .nil, b, hb => by cases hb
  | _, _, .cons h1 _ t, b, hb => by
    rcases List.mem_cons.mp hb with rfl | hb
    · exact ⟨_, h1⟩
    · exact Rw.cell t b hb
/-- as data, when nobody owns them -/
theorem Rw.data : ∀ {bs : List Addr} {rs : List (List D)}, Rw K S H bs rs → (∀ s, S' s → S s) → (∀ b ∈ bs, ¬S' b) → DqAll K (wo S' H) (bs.map V.ref) (rs.map D.lst)
  | _, _, .nil, _, _ => .nil
  | _, _, .cons h1 h2 t, i, n => .cons (.lst (by rw [wo_out (n _ List.mem_cons_self)]; exact h1) (h2.mono (wo_sub i))) (Rw.data t i fun b hb => n b (List.mem_cons_of_mem _ hb))
theorem Rw.get : ∀ {bs : List Addr} {rs : List (List D)} {k : Nat} {r : List D}, Rw K S H bs rs → rs[k]? = some r → ∃ b xs, bs[k]? = some b ∧ H b = some (.lst xs) ∧ DqAll K (wo S H) xs r
  | _, _, _, _, .nil, h => by simp at h
  | _, _, 0, _, .cons h1 h2 _, h => by
    simp at h
    subst h
    exact ⟨_, _, rfl, h1, h2⟩
  | _, _, k + 1, r, .cons _ _ t, h => by
    obtain ⟨b, xs, e, q⟩ := Rw.get (k := k) (r := r) t (by simpa using h)
    exact ⟨b, xs, by simpa using e, q⟩
/-- one row changes -/
theorem Rw.upd {b : Addr} {ys : List V} {q : List D} (hb : S b) (hq : DqAll K (wo S H) ys q) : ∀ {bs : List Addr} {rs : List (List D)} {k : Nat}, bs.Nodup → bs[k]? = some b → Rw K S H bs rs → Rw K S (upd H b (.lst ys)) bs (rs.set k q)
  | _, _, _, _, e, .nil => by simp at e
  | b0 :: bs, _, 0, nd, e, .cons (r := r0) (rs := rs0) h1 h2 t => by
    have e : b0 = b := by simpa using e
    subst e
    refine .cons upd_same (by rw [wo_upd hb]; exact hq) ?_
    have nb := (List.nodup_cons.mp nd).1
    have go : ∀ {bs : List Addr} {rs : List (List D)}, b0 ∉ bs → Rw K S H bs rs → Rw K S (L2.upd H b0 (.lst ys)) bs rs := fun {bs rs} n t => by
      induction t with
      | nil => exact .nil
      | cons g1 g2 _ ih =>
        refine .cons ?_ (by rw [wo_upd hb]; exact g2) (ih fun z => n (List.mem_cons_of_mem _ z))
        rw [upd_ne fun z => n (by rw [← z]; exact List.mem_cons_self)]
        exact g1
    exact go nb t
  | b0 :: bs, _, k + 1, nd, e, .cons (r := r0) (rs := rs0) h1 h2 t => by
    have e : bs[k]? = some b := by simpa using e
    have hne : b0 ≠ b := fun z => (List.nodup_cons.mp nd).1 (by rw [z]; exact List.mem_of_getElem? e)
    refine .cons (by rw [upd_ne hne]; exact h1) (by rw [wo_upd hb]; exact h2) (Rw.upd hb hq (List.nodup_cons.mp nd).2 e t)
end
/-- a new list of new lists -/
def vN : VRt (List (List D)) V := fun z O env σ H H' v rows => ∃ a bs, v = .ref a ∧ (a :: bs).Nodup ∧ (∀ b ∈ a :: bs, ¬cells σ env O b ∧ H b = none) ∧ H' a = some (.lst (bs.map V.ref)) ∧ Rw z.K (fun s => cells σ env O s ∨ s ∈ a :: bs) H' bs rows ∧ RelT z (fun s => O s ∨ s ∈ a :: bs) H' σ env
section
variable {z : Z} {σ : L2.St} {H : Hp} {Q : VK} {fi : M (List D)} {tg : Tg} {c : M Bool} {x : M Vw} {vs : List Nat}
theorem lcN_read (hvs : ∀ j ∈ slots tg, j ∈ vs) (h : tG vN z (eLcN fi tg c x vs) σ H Q) : tLc (tI z fi) (gT z.K tg) (tT z.quiet c) (tP z.quiet x) vs σ H Q := by
  obtain ⟨O, env, R, P⟩ := h
  have bkN : Back vN := fun z O env S' σ H H1 H' v w e h => by
    obtain ⟨a, bs, h1, h2, h3, h4, h5, h6⟩ := h
    exact ⟨a, bs, h1, h2, fun b hb => ⟨(h3 b hb).1, e.dom b (h3 b hb).2⟩, h4, h5, h6⟩
  refine tG_mono (post_bnd bkN R P) fun J H1 ⟨env1, ds, R1, s1, so1, hJ, P1⟩ => ?_
  intro Da nD
  split at P1
  · rename_i hfree
    obtain ⟨hf, hx⟩ := freeAt_light hfree
    cases er : lcGoN tg c x vs ds [] (wipeE env1 vs) with
    | exc _ _ => rw [er] at P1; exact P1.elim
    | bad => rw [er] at P1; exact P1.elim
    | ok ys e' =>
      rw [er] at P1
      have nDc : ¬cells σ env1 O Da := R1.cl.new nD
      have e0 := sameNew nD (o := .lst [])
      have one : (fun s => O s ∨ s = Da) = fun s => O s ∨ s ∈ [Da] := by funext s; simp
      have Rw0 : RelT z.quiet (fun s => O s ∨ s ∈ [Da]) (upd H1 Da (.lst [])) (wipe σ vs) (wipeE env1 vs) := by
        rw [← one]
        exact relW ((R1.fresh nD (kp e0) ⟨_, upd_same, True.intro⟩).wiped hf)
      -- what holds at each turn
      refine ⟨fun i m H2 => m = ds.length - i ∧ i ≤ ds.length ∧ ∃ (acc : List (List D)) (ei : Env) (bs : List Addr), lcGoN tg c x vs (ds.drop i) acc ei = .ok ys e' ∧ RelT z.quiet (fun s => O s ∨ s ∈ Da :: bs) H2 (wipe σ vs) ei ∧ SameO (wipeE env1 vs) ei ∧ SameC (ownS σ env1) H1 H2 ∧
        H2 Da = some (.lst (bs.map V.ref)) ∧ Rw z.K (fun s => cells σ env1 O s ∨ s ∈ Da :: bs) H2 bs acc ∧ (Da :: bs).Nodup ∧ ∀ b ∈ Da :: bs, H1 b = none, ⟨ds.length, by simp, Nat.zero_le _, [], wipeE env1 vs, [], er, Rw0, SameO.refl _, (sameC e0), upd_same, .nil, by simp, fun b hb => by rw [List.mem_singleton.mp hb]; exact nD⟩, ?_⟩
      rintro i m H2 ⟨rfl, hi, acc, ei, bs, eg, R2, so2, s2, hD, hA, hnd, hnew⟩
      have owS : ∀ {e : Env}, SameO (wipeE env1 vs) e → ownS (wipe σ vs) e = ownS σ env1 := fun {e} so => by rw [← so.ownS, own_wipe hf]
      have ceE : ∀ {e : Env} (bs : List Addr), SameO (wipeE env1 vs) e → cells (wipe σ vs) e (fun s => O s ∨ s ∈ Da :: bs) = fun s => cells σ env1 O s ∨ s ∈ Da :: bs := fun {e} bs so => by
        rw [cells_or (Ex := fun s => s ∈ Da :: bs)]
        unfold cells
        rw [owS so]
      have wt : UbG.SameT (wo (cells σ env1 O) H1) (wo (cells (wipe σ vs) ei (fun s => O s ∨ s ∈ Da :: bs)) H2) := by
        rw [ceE bs so2]
        exact wT_ext (Ex := fun s => s ∈ Da :: bs) s2 (fun a h => .inl h) fun a h => hnew a h
      obtain ⟨go, stop, yld⟩ := hJ.at_ i _ H2 wt R2.cl
      by_cases hl : i < ds.length
      · refine .inr ⟨go hl, _, fun H' n => ⟨ds.length - (i + 1), by omega, n⟩, fun v H3 y => ?_⟩
        obtain ⟨sm, d, ed, hd⟩ := yld v H3 hl y
        have R3 := R2.mono (kp sm)
        rw [List.drop_eq_getElem_cons hl] at eg
        have ed' : ds[i] = d := by
          rw [List.getElem?_eq_getElem hl] at ed
          exact Option.some.inj ed
        rw [ed'] at eg
        unfold lcGoN at eg
        cases ep : putT tg d ei with
        | none => rw [ep] at eg; cases eg
        | some e1 =>
          rw [ep] at eg
          dsimp only at eg
          obtain ⟨σ4, q, R4, C⟩ := putT_ok tg d v (wipe σ vs) ei e1 R3 ep hd
          have light0 : Light vs (wipeE env1 vs) := fun j m => ⟨.no, by rw [wipeE_at, if_pos m]; obtain ⟨s, h1, _⟩ := hf j m; rw [h1]; rfl, rfl⟩
          have lightI : Light vs ei := light0.so so2
          have light1 : SameO ei e1 := chg_so C fun j m => lightI j (hvs j m)
          have wσ : wipe σ4 vs = wipe σ vs := wipe_chg C hvs
          have own4 : ownS σ4 e1 = ownS σ env1 := by
            have h1 : ownS (wipe σ4 vs) (wipeE e1 vs) = ownS σ4 e1 := own_wipe (lightI.so light1)
            rw [← h1, wσ]
            have h2 : SameO (wipeE env1 vs) (wipeE e1 vs) := (so2.trans light1).trans (so_wipe (lightI.so light1))
            exact owS h2
          have s3 : SameC (ownS σ env1) H1 H3 := s2.trans (Kp.C (kp sm))
          have hD3 : H3 Da = some (.lst (bs.map V.ref)) := sm _ _ hD
          have hA3 : Rw z.K (fun s => cells σ env1 O s ∨ s ∈ Da :: bs) H3 bs acc := hA.move (wT_of (kp sm)) fun b _ xs e => sm _ _ e
          refine q _ ⟨wσ, ?_⟩
          -- the test
          have notOwn : ∀ b, b ∈ Da :: bs → ¬ownS σ env1 b := fun b hb h => (R1.cl.new (hnew b hb)) (.inl h)
          have stay : ∀ {e : Env} {Ha Hb : Hp} {acc : List (List D)}, SameO e1 e → SameC (ownS σ4 e) Ha Hb → Ha Da = some (.lst (bs.map V.ref)) → Rw z.K (fun s => cells σ env1 O s ∨ s ∈ Da :: bs) Ha bs acc → SameC (ownS σ env1) H1 Ha → Hb Da = some (.lst (bs.map V.ref)) ∧ Rw z.K (fun s => cells σ env1 O s ∨ s ∈ Da :: bs) Hb bs acc ∧ SameC (ownS σ env1) H1 Hb := fun {e Ha Hb acc} so sc h1 h2 h3 => by
            rw [← so.ownS σ4, own4] at sc
            exact ⟨sc.but _ _ (notOwn Da List.mem_cons_self) h1 (fun _ z => by cases z), h2.move (sc.sub fun a h => .inl (.inl h)).wT fun b hb xs eb => sc.but _ _ (notOwn b (List.mem_cons_of_mem _ hb)) eb (fun _ z => by cases z), h3.trans sc⟩
          cases ec : c e1 with
          | exc _ _ => rw [ec] at eg; cases eg
          | bad => rw [ec] at eg; cases eg
          | ok bb e2 =>
            rw [ec] at eg
            refine ⟨_, e1, R4, ?_⟩
            rw [ec]
            intro b H4 s4 R5 so5 hb
            cases hb
            obtain ⟨hD4, hA4, s14⟩ := stay (SameO.refl e1) s4 hD3 hA3 s3
            cases bb with
            | false =>
              rw [if_neg (by decide)]
              have le := (lightI.so light1).so so5
              have Rv := R5.wiped le
              rw [wσ] at Rv
              exact ⟨rfl, hl, acc, wipeE e2 vs, bs, eg, Rv, ((so2.trans light1).trans so5).trans (so_wipe le), s14, hD4, hA4, hnd, hnew⟩
            | true =>
              rw [if_pos rfl]
              dsimp only at eg
              cases ex : x e2 with
              | exc _ _ => rw [ex] at eg; cases eg
              | bad => rw [ex] at eg; cases eg
              | ok w e3 =>
                rw [ex] at eg
                split at eg
                · rename_i r e3' hw
                  cases hw
                  by_cases hlen : acc.length < LIM
                  · rw [if_pos hlen] at eg
                    refine ⟨_, e2, R5, ?_⟩
                    rw [ex]
                    intro yv H5 s5 R6 so6 hy
                    obtain ⟨hD5, hA5, s15⟩ := stay so5 s5 hD4 hA4 s14
                    obtain ⟨⟨a, rfl, na, xs, hxs, hxr⟩, hna, haw⟩ := hy
                    have na4 : H4 a = none := hna a rfl
                    have Ra := haw a rfl
                    -- the sets
                    have eqS : ∀ {T : SS}, (fun s => (T s ∨ s ∈ Da :: bs) ∨ s = a) = fun s => T s ∨ s ∈ Da :: (bs ++ [a]) := fun {T} => by
                      funext s
                      simp only [List.mem_cons, List.mem_append, List.not_mem_nil, or_false, or_assoc]
                    have own6 : ownS σ4 e3 = ownS σ env1 := by rw [← (so5.trans so6).ownS σ4, own4]
                    have ce6 : cells σ4 e3 (fun s => O s ∨ s ∈ Da :: bs) = fun s => cells σ env1 O s ∨ s ∈ Da :: bs := by
                      rw [cells_or (Ex := fun s => s ∈ Da :: bs)]
                      unfold cells
                      rw [own6]
                    have ce7 : cells σ4 e3 (fun s => O s ∨ s ∈ Da :: (bs ++ [a])) = fun s => cells σ env1 O s ∨ s ∈ Da :: (bs ++ [a]) := by
                      rw [cells_or (Ex := fun s => s ∈ Da :: (bs ++ [a]))]
                      unfold cells
                      rw [own6]
                    rw [ce6, eqS] at hxr
                    rw [eqS] at Ra
                    -- the new cell is new
                    have aDa : a ≠ Da := fun z => by rw [z, hD4] at na4; cases na4
                    have abs : a ∉ bs := fun z => by
                      obtain ⟨xs', e⟩ := hA4.cell a z
                      rw [e] at na4
                      cases na4
                    have a1 : H1 a = none := s14.dom a na4
                    have hnd' : (Da :: (bs ++ [a])).Nodup := by
                      rw [List.nodup_cons] at hnd ⊢
                      refine ⟨fun z => ?_, ?_⟩
                      · rcases List.mem_append.mp z with z | z
                        · exact hnd.1 z
                        · exact aDa (List.mem_singleton.mp z).symm
                      · rw [List.nodup_append]
                        exact ⟨hnd.2, by simp, fun x hx y hy z => by rw [List.mem_singleton.mp hy] at z; exact abs (by rw [← z]; exact hx)⟩
                    have hnew' : ∀ b ∈ Da :: (bs ++ [a]), H1 b = none := fun b hb => by
                      rcases List.mem_cons.mp hb with rfl | hb
                      · exact nD
                      · rcases List.mem_append.mp hb with hb | hb
                        · exact hnew b (List.mem_cons_of_mem _ hb)
                        · rw [List.mem_singleton.mp hb]; exact a1
                    refine ⟨bs.map V.ref, hD5, by rw [List.length_map, hA5.len]; exact Nat.lt_of_lt_of_le hlen (by rw [sizeLine_eq]; decide), ?_⟩
                    have inD : (fun s => cells σ env1 O s ∨ s ∈ Da :: (bs ++ [a])) Da := .inr List.mem_cons_self
                    have sU : SameC (fun s => s = Da) H5 (upd H5 Da (.lst (bs.map V.ref ++ [V.ref a]))) := sameC_upd rfl True.intro ⟨_, hD5, True.intro⟩
                    have Rn : RelT z.quiet (fun s => O s ∨ s ∈ Da :: (bs ++ [a])) (upd H5 Da (.lst (bs.map V.ref ++ [V.ref a]))) σ4 e3 := by
                      have wt2 : UbG.SameT (wo (cells σ4 e3 (fun s => O s ∨ s ∈ Da :: (bs ++ [a]))) H5) (wo (cells σ4 e3 (fun s => O s ∨ s ∈ Da :: (bs ++ [a]))) (upd H5 Da (.lst (bs.map V.ref ++ [V.ref a])))) := (sU.sub fun b h => by rw [h]; exact .inr (.inr List.mem_cons_self)).wT
                      refine Ra.back wt2 ((sU.sub fun b h => by rw [h]; exact .inr (.inr List.mem_cons_self)).clS Ra.cl) sU.tab Ra.out (SameO.refl _) (fun j s _ => Iff.rfl) fun j cj g => ?_
                      obtain ⟨b, h1, h2⟩ := Ra.own j cj g
                      refine ⟨b, h1, h2.moveT wt2 fun o ho hc => ?_⟩
                      rw [upd_ne (show b ≠ Da from fun z => Ra.out j cj b g h1 (by rw [z]; exact .inr List.mem_cons_self))]
                      exact ho
                    have le := (lightI.so light1).so (so5.trans so6)
                    have Rv := Rn.wiped le
                    rw [wσ] at Rv
                    -- the rows
                    have hsub : ∀ b, ownS σ4 e2 b → (fun s => cells σ env1 O s ∨ s ∈ Da :: bs) b := fun b h => by
                      rw [← so5.ownS σ4, own4] at h
                      exact .inl (.inl h)
                    have wt3 := wT_ext (S := fun s => cells σ env1 O s ∨ s ∈ Da :: bs) (Ex := fun s => s = a) s5 hsub fun b h => by rw [h]; exact na4
                    rw [eqS] at wt3
                    have hA6 : Rw z.K (fun s => cells σ env1 O s ∨ s ∈ Da :: (bs ++ [a])) H5 bs acc := hA4.move wt3 fun b hb xs' eb => by
                      refine s5.but b _ (fun h => ?_) eb (fun _ z => by cases z)
                      rw [← so5.ownS σ4, own4] at h
                      exact notOwn b (List.mem_cons_of_mem _ hb) h
                    have hA7 := (hA6.snoc hxs hxr)
                    have hA8 : Rw z.K (fun s => cells σ env1 O s ∨ s ∈ Da :: (bs ++ [a])) (upd H5 Da (.lst (bs.map V.ref ++ [V.ref a]))) (bs ++ [a]) (acc ++ [r]) := hA7.move (by rw [wo_upd inD]; exact UbG.SameT.refl _) fun b hb xs' eb => by
                      rw [upd_ne (show b ≠ Da from fun z => (List.nodup_cons.mp hnd').1 (by rw [← z]; exact hb))]
                      exact eb
                    refine ⟨rfl, hl, acc ++ [r], wipeE e3 vs, bs ++ [a], eg, Rv, ((so2.trans light1).trans (so5.trans so6)).trans (so_wipe le), s15.into (S := fun s => s = Da) sU (fun s hs => by rw [hs]; exact .inr nD), ?_, hA8, hnd', hnew'⟩
                    rw [upd_same, List.map_append]
                    rfl
                  · rw [if_neg hlen] at eg
                    cases eg
                · cases eg
      · refine .inl ⟨stop (by omega), ?_⟩
        have e : ds.drop i = [] := List.drop_eq_nil_of_le (by omega)
        rw [e] at eg
        unfold lcGoN ret at eg
        cases eg
        have hl2 : env1.length = e'.length := (so_wipe hf).1.trans so2.1
        have soB : SameO env1 (backE env1 e' vs) := by
          refine ⟨hl2.trans (backE_len vs env1 e').symm, fun j => ?_⟩
          rw [backE_at hl2]
          by_cases m : j ∈ vs
          · rw [if_pos m]
          · rw [if_neg m]
            exact ((so_wipe hf).trans so2).2 j
        have ceB : cells σ (backE env1 e' vs) (fun s => O s ∨ s ∈ Da :: bs) = fun s => cells σ env1 O s ∨ s ∈ Da :: bs := by
          rw [cells_or (Ex := fun s => s ∈ Da :: bs)]
          unfold cells
          rw [← soB.ownS]
        have wtB : UbG.SameT (wo (cells σ env1 O) H1) (wo (cells σ (backE env1 e' vs) (fun s => O s ∨ s ∈ Da :: bs)) H2) := by
          rw [ceB]
          exact wT_ext (Ex := fun s => s ∈ Da :: bs) s2 (fun a h => .inl h) fun a h => hnew a h
        obtain ⟨RB, _⟩ := R1.unwipe hf hx (relW' R2) so2 wtB
        refine P1 (.ref Da) H2 s2 (RB.less fun s h => .inl h) soB ⟨Da, bs, rfl, hnd, fun b hb => ⟨?_, hnew b hb⟩, hD, ?_, RB⟩
        · rw [← soB.cells]
          exact R1.cl.new (hnew b hb)
        · rw [← soB.cells]
          exact hA
  · exact P1.elim
end
/-- slot, cell, cells of the rows, the outer cells -/
structure Rgn where
  i : Nat
  a : Addr
  bs : List Addr
  O : SS
structure RgOk (g : Rgn) (B : Fm) : Prop where
  O : B.O = fun s => g.O s ∨ s ∈ g.a :: g.bs
  nd : (g.a :: g.bs).Nodup
  new : ∀ b ∈ g.a :: g.bs, B.H0 b = none
  dis : ∀ b ∈ g.a :: g.bs, ¬g.O b
structure InR (z : Z) (g : Rgn) (B : Fm) (σ : L2.St) (env : Env) (H : Hp) (rows : List (List D)) : Prop where
  e : env[g.i]? = some (Sl.nst rows)
  s : σ[g.i]? = some (some (V.ref g.a))
  h : H g.a = some (.lst (g.bs.map V.ref))
  r : Rw z.K (cells σ env B.O) H g.bs rows
structure StR (g : Rgn) (B : Fm) (σ : L2.St) (env : Env) (H : Hp) (σ' : L2.St) (env' : Env) (H' : Hp) : Prop where
  w : UbG.SameT (wo (cells σ env B.O) H) (wo (cells σ' env' B.O) H')
  o : ∀ b, g.O b → H' b = H b
section
variable {z : Z} {g : Rgn} {B : Fm} {σ σ' σ1 : L2.St} {env env' env1 : Env} {H H' H1 : Hp} {rows : List (List D)} {α β : Type} {D' : Ends}
theorem RgOk.mem (G : RgOk g B) {b : Addr} (h : b ∈ g.a :: g.bs) : B.O b := by rw [G.O]; exact .inr h
theorem RgOk.out (G : RgOk g B) {b : Addr} (h : g.O b) : B.O b := by rw [G.O]; exact .inl h
theorem StR.refl : StR g B σ env H σ env H := ⟨UbG.SameT.refl _, fun _ _ => rfl⟩
theorem StR.trans (a : StR g B σ env H σ1 env1 H1) (b : StR g B σ1 env1 H1 σ' env' H') : StR g B σ env H σ' env' H' := ⟨UbG.SameT.trans a.w b.w, fun c h => (b.o c h).trans (a.o c h)⟩
theorem Stp.toR (G : RgOk g B) (s : Stp B.O σ env H σ' env' H') : StR g B σ env H σ' env' H' := ⟨s.w, fun b h => s.o b (G.out h)⟩
/-- steps of the usual kind leave the rows -/
theorem InR.step (G : RgOk g B) (I : InR z g B σ env H rows) (s : Stp B.O σ env H σ' env' H') : InR z g B σ' env' H' rows :=
  ⟨(s.m _ _ I.e).2, (s.m _ _ I.e).1.trans I.s, by rw [s.o _ (G.mem List.mem_cons_self)]; exact I.h, I.r.move s.w fun b hb xs e => by rw [s.o _ (G.mem (List.mem_cons_of_mem _ hb))]; exact e⟩
def PostR (z : Z) (B : Fm) (g : Rgn) (σ : L2.St) (env : Env) (H : Hp) (D : Ends) : Res Fl → Prop
  | .ok .nx env' => ∀ σ' H' rows', RelT z B.O H' σ' env' → Base B σ' env' H' → StR g B σ env H σ' env' H' → InR z g B σ' env' H' rows' → D.nx σ' H'
  | .ok .bk env' => ∀ σ' H' rows', RelT z B.O H' σ' env' → Base B σ' env' H' → StR g B σ env H σ' env' H' → InR z g B σ' env' H' rows' → D.bk σ' H'
  | .ok .ct env' => ∀ σ' H' rows', RelT z B.O H' σ' env' → Base B σ' env' H' → StR g B σ env H σ' env' H' → InR z g B σ' env' H' rows' → D.ct σ' H'
  | .ok (.rt _) _ => False
  | .exc x env' => ∀ cls d σ' H', RelT z B.O H' σ' env' → Base B σ' env' H' → StR g B σ env H σ' env' H' → ExR z.K (wo (cells σ' env' B.O) H') x cls d → z.W cls d σ' H'
  | .bad => False
def tR (z : Z) (g : Rgn) (f : M Fl) : TS := fun D σ H => ∃ B env rows, RgOk g B ∧ RelT z B.O H σ env ∧ Base B σ env H ∧ InR z g B σ env H rows ∧ PostR z B g σ env H D (f env)
theorem PostR.move {r : Res Fl} (s : StR g B σ env H σ1 env1 H1) (P : PostR z B g σ env H D' r) : PostR z B g σ1 env1 H1 D' r := by
  cases r with
  | ok f e =>
    cases f with
    | nx => exact fun σ' H' rows a b c I => P σ' H' rows a b (s.trans c) I
    | bk => exact fun σ' H' rows a b c I => P σ' H' rows a b (s.trans c) I
    | ct => exact fun σ' H' rows a b c I => P σ' H' rows a b (s.trans c) I
    | rt w => exact P
  | exc x e => exact fun cls d σ' H' a b c => P cls d σ' H' a b (s.trans c)
  | bad => exact P
/-- statements of the usual kind -/
theorem PostR.toS {r : Res Fl} (G : RgOk g B) (I : InR z g B σ env H rows) (P : PostR z B g σ env H D' r) : PostS z B σ env H D' r := by
  cases r with
  | ok f e =>
    cases f with
    | nx => exact fun σ' H' a b c => P σ' H' rows a b (c.toR G) (I.step G c)
    | bk => exact fun σ' H' a b c => P σ' H' rows a b (c.toR G) (I.step G c)
    | ct => exact fun σ' H' a b c => P σ' H' rows a b (c.toR G) (I.step G c)
    | rt w => exact P.elim
  | exc x e => exact fun cls d σ' H' a b c => P cls d σ' H' a b (c.toR G)
  | bad => exact P
theorem postR_bnd {R1 : VRt α β} {m : M α} {k : α → M Fl} (G : RgOk g B) (R : RelT z B.O H σ env) (b : Base B σ env H) (I : InR z g B σ env H rows) (P : PostR z B g σ env H D' (bnd m k env)) :
    tG R1 z m σ H fun v H1 => ∃ env1 w, RelT z B.O H1 σ env1 ∧ Base B σ env1 H1 ∧ SameC (ownS σ env) H H1 ∧ SameO env env1 ∧ InR z g B σ env1 H1 rows ∧ R1 z B.O env1 σ H H1 v w ∧ PostR z B g σ env1 H1 D' (k w env1) := by
  refine ⟨B.O, env, R, ?_⟩
  unfold bnd at P
  cases e : m env with
  | ok w env1 =>
    rw [e] at P
    intro v H1 s1 R1' so V
    have st := stp_expr R s1 so
    exact ⟨env1, w, R1', b.step s1 so, s1, so, I.step G st, V, PostR.move (st.toR G) P⟩
  | exc x env1 =>
    rw [e] at P
    intro cls d H1 s1 R1' so X
    exact P cls d σ H1 R1' (b.step s1 so) ((stp_expr R s1 so).toR G) X
  | bad => rw [e] at P; exact P
end
section
variable {X : Cx} {z : Z} {g : Rgn} {st : Stmt} {ss rest body ts : List Stmt} {f f1 f2 fb : M Fl} {c tg it : Expr} {ft : M Bool} {fi : M (List D)} {tgt : Tg} {pos : Pos}
theorem pr_lift (h : PS X st (tS z f)) : PS X st (tR z g f) := PS_imp h fun D σ H ⟨B, env, rows, G, R, b, I, P⟩ => ⟨B, env, R, b, P.toS G I⟩
theorem pr_lifts (h : PSs X ss (tS z f)) : PSs X ss (tR z g f) := PSs_imp h fun D σ H ⟨B, env, rows, G, R, b, I, P⟩ => ⟨B, env, R, b, P.toS G I⟩
theorem pr_one (h : PS X st (tR z g f)) : PSs X [st] (tR z g f) := pss_one h
theorem pr_cons (h : PS X st (tR z g f1)) (hr : PSs X rest (tR z g f2)) : PSs X (st :: rest) (tR z g (sSeq f1 f2)) := PSs_imp (pss_cons h hr) fun D σ H ⟨B, env, rows, G, R, b, I, P⟩ => by
  refine ⟨B, env, rows, G, R, b, I, ?_⟩
  unfold sSeq bnd at P
  cases ef : f1 env with
  | ok fl e1 =>
    rw [ef] at P
    cases fl with
    | nx => exact fun σ' H' rows' R' b' s I' => ⟨B, e1, rows', G, R', b', I', PostR.move s P⟩
    | bk => exact P
    | ct => exact P
    | rt w => exact P
  | exc x e1 => rw [ef] at P; exact P
  | bad => rw [ef] at P; exact P
theorem pr_while {n : Nat} (hp : PassesOwn (model X.prog X.w) X.A X.env X.xe) (hc : PT X c (tT z ft)) (hb : PSs X body (tR z g fb)) : PS X (.While c body [] pos) (tR z g (whl ft fb n)) := PS_imp (ps_while hp hc hb) fun D σ H ⟨B, env, rows, G, R, b, I, P⟩ => by
  refine ⟨fun m σ2 H2 => ∃ env2 rows2, RelT z B.O H2 σ2 env2 ∧ Base B σ2 env2 H2 ∧ InR z g B σ2 env2 H2 rows2 ∧ PostR z B g σ2 env2 H2 D (whl ft fb m env2), ⟨n, env, rows, R, b, I, P⟩, ?_⟩
  rintro m σ2 H2 ⟨env2, rows2, R2, b2, I2, P2⟩
  cases m with
  | zero => exact P2.elim
  | succ m =>
    refine tG_mono (postR_bnd G R2 b2 I2 P2) fun k H3 ⟨env3, w, R3, b3, s3, so3, I3, hV, P3⟩ => ?_
    cases hV
    cases k with
    | false => exact P3 σ2 H3 rows2 R3 b3 StR.refl I3
    | true =>
      refine ⟨fun σ' H' => ∃ env' rows', RelT z B.O H' σ' env' ∧ Base B σ' env' H' ∧ InR z g B σ' env' H' rows' ∧ PostR z B g σ' env' H' D (whl ft fb m env'), fun σ' H' h => ⟨m, Nat.lt_succ_self _, h⟩, B, env3, rows2, G, R3, b3, I3, ?_⟩
      have P3 : PostR z B g σ2 env3 H3 D (bnd fb (fun f => match f with
        | .nx => whl ft fb m
        | .ct => whl ft fb m
        | .bk => ret .nx
        | .rt w => ret (.rt w)) env3) := P3
      unfold bnd at P3
      cases eb : fb env3 with
      | ok fl e2 =>
        rw [eb] at P3
        cases fl with
        | nx => exact fun σ' H' rows' R' b' s I' => ⟨e2, rows', R', b', I', PostR.move s P3⟩
        | ct => exact fun σ' H' rows' R' b' s I' => ⟨e2, rows', R', b', I', PostR.move s P3⟩
        | bk => exact P3
        | rt w => exact P3
      | exc x e2 => rw [eb] at P3; exact P3
      | bad => rw [eb] at P3; exact P3
end
abbrev Rgn.fm (g : Rgn) (B : Fm) : Fm := ⟨fun s => g.O s ∨ s ∈ g.a :: g.bs, B.σ0, B.env0, B.H0, fun j => j = g.i⟩
structure StX (g : Rgn) (B : Fm) (σ : L2.St) (env : Env) (H : Hp) (σ' : L2.St) (env' : Env) (H' : Hp) : Prop where
  w : UbG.SameT (wo (cells σ env (g.fm B).O) H) (wo (cells σ' env' B.O) H')
  o : ∀ b, B.O b → H' b = H b
def PostL (z : Z) (B : Fm) (g : Rgn) (σ : L2.St) (env : Env) (H : Hp) (D : Ends) : Res Fl → Prop
  | .ok .nx env' => ∀ σ' H', RelT z B.O H' σ' env' → Base B σ' env' H' → StX g B σ env H σ' env' H' → D.nx σ' H'
  | .ok .bk env' => ∀ σ' H', RelT z B.O H' σ' env' → Base B σ' env' H' → StX g B σ env H σ' env' H' → D.bk σ' H'
  | .ok .ct env' => ∀ σ' H', RelT z B.O H' σ' env' → Base B σ' env' H' → StX g B σ env H σ' env' H' → D.ct σ' H'
  | .ok (.rt w) env' => ∀ v σ' H', RelT z B.O H' σ' env' → Base B σ' env' H' → VRel z.K (cells σ' env' B.O) σ' H' v w → NewV B.H0 v w → AwayV z B.O σ' env' H' v w → D.rt v H'
  | .exc x env' => ∀ cls d σ' H', RelT z B.O H' σ' env' → Base B σ' env' H' → StX g B σ env H σ' env' H' → ExR z.K (wo (cells σ' env' B.O) H') x cls d → z.W cls d σ' H'
  | .bad => False
def tRL (z : Z) (g : Rgn) (f : M Fl) : TS := fun D σ H => ∃ B env rows, B.O = g.O ∧ (∀ j, ¬B.ns j) ∧ RgOk g (g.fm B) ∧ RelT z (g.fm B).O H σ env ∧ Base (g.fm B) σ env H ∧ InR z g (g.fm B) σ env H rows ∧ PostL z B g σ env H D (f env)
section
variable {z : Z} {g : Rgn} {B : Fm} {σ σ' σ1 : L2.St} {env env' env1 : Env} {H H' H1 : Hp} {rows : List (List D)} {D' : Ends}
theorem PostL.move {r : Res Fl} (hO : B.O = g.O) (s : StR g (g.fm B) σ env H σ1 env1 H1) (P : PostL z B g σ env H D' r) : PostL z B g σ1 env1 H1 D' r := by
  have k : ∀ {σ' env' H'}, StX g B σ1 env1 H1 σ' env' H' → StX g B σ env H σ' env' H' := fun c => ⟨UbG.SameT.trans s.w c.w, fun b h => (c.o b h).trans (s.o b (by rw [← hO]; exact h))⟩
  cases r with
  | ok f e =>
    cases f with
    | nx => exact fun σ' H' a b c => P σ' H' a b (k c)
    | bk => exact fun σ' H' a b c => P σ' H' a b (k c)
    | ct => exact fun σ' H' a b c => P σ' H' a b (k c)
    | rt w => exact P
  | exc x e => exact fun cls d σ' H' a b c => P cls d σ' H' a b (k c)
  | bad => exact P
theorem noN_at (h : noN env = true) {i : Nat} {r : List (List UbP.D)} : env[i]? ≠ some (Sl.nst r) := fun e => by
  unfold noN at h
  have := List.all_eq_true.mp h _ (List.mem_of_getElem? e)
  cases this
/-- the stretch ends: it is data -/
theorem RelT.outN (hO : B.O = g.O) (G : RgOk g (g.fm B)) (R : RelT z (g.fm B).O H σ env) (I : InR z g (g.fm B) σ env H rows) :
    RelT z B.O H σ (env.set g.i (.dat (.lst (rows.map .lst)))) ∧ ∀ s, cells σ (env.set g.i (.dat (.lst (rows.map .lst)))) B.O s → cells σ env (g.fm B).O s := by
  have hl := get_lt I.e
  have eE : ∀ j : Nat, j ≠ g.i → (env.set g.i (Sl.dat (.lst (rows.map .lst))))[j]? = env[j]? := fun j n => List.getElem?_set_ne (Ne.symm n)
  have eI : (env.set g.i (Sl.dat (.lst (rows.map .lst))))[g.i]? = some (.dat (.lst (rows.map .lst))) := List.getElem?_set_self hl
  have gO : ∀ {j : Nat} {c : Ct}, getO j (env.set g.i (Sl.dat (.lst (rows.map .lst)))) = some c → j ≠ g.i ∧ getO j env = some c := fun {j c} h => by
    have n : j ≠ g.i := fun z => by
      subst z
      unfold getO at h
      rw [eI] at h
      cases h
    refine ⟨n, ?_⟩
    unfold getO at h ⊢
    rw [eE j n] at h
    exact h
  have sub : ∀ s, cells σ (env.set g.i (Sl.dat (.lst (rows.map .lst)))) B.O s → cells σ env (g.fm B).O s := fun s hs => by
    rcases hs with ⟨j, c, h, e⟩ | hs
    · exact .inl ⟨j, c, (gO h).2, e⟩
    · exact .inr (.inl (by rw [← hO]; exact hs))
  have apart : ∀ b ∈ g.a :: g.bs, ¬cells σ (env.set g.i (Sl.dat (.lst (rows.map .lst)))) B.O b := fun b hb hs => by
    rcases hs with ⟨j, c, h, e⟩ | hs
    · exact R.out j c b (gO h).2 e (.inr hb)
    · exact G.dis b hb (by rw [← hO]; exact hs)
  refine ⟨⟨by rw [List.length_set]; exact R.len, fun j d e => ?_, fun j c h => ?_, fun j k c c' a h1 h2 e1 e2 => ?_, fun j c a h e hs => ?_, fun j x e => ?_, fun s hs => R.cl s (sub s hs), R.tb⟩, sub⟩
  · by_cases hj : j = g.i
    · subst hj
      rw [eI] at e
      cases e
      exact ⟨.ref g.a, I.s, .lst (by rw [wo_out (apart g.a List.mem_cons_self)]; exact I.h) (I.r.data sub fun b hb => apart b (List.mem_cons_of_mem _ hb))⟩
    · rw [eE j hj] at e
      obtain ⟨v, h1, h2⟩ := R.dat j d e
      exact ⟨v, h1, h2.mono (wo_sub sub)⟩
  · obtain ⟨a, h1, h2⟩ := R.own j c (gO h).2
    exact ⟨a, h1, h2.sub sub⟩
  · exact R.inj j k c c' a (gO h1).2 (gO h2).2 e1 e2
  · exact R.out j c a (gO h).2 e (.inl (by rw [← hO]; exact hs))
  · have hj : j ≠ g.i := fun z => by
      subst z
      rw [eI] at e
      cases e
    rw [eE j hj] at e
    obtain ⟨a, cls, d, h1, h2, h3, h4⟩ := R.ex j x e
    exact ⟨a, cls, d, h1, h2, h3, h4.imp id fun ⟨dx, vs, g1, g2, g3⟩ => ⟨dx, vs, g1, wo_sub sub _ _ g2, g3.mono (wo_sub sub)⟩⟩
theorem Base.outN (hns : ∀ j, ¬B.ns j) (I : InR z g (g.fm B) σ env H rows) (b : Base (g.fm B) σ env H) : Base B σ (env.set g.i (.dat (.lst (rows.map .lst)))) H := by
  have hl := get_lt I.e
  have eE : ∀ j : Nat, j ≠ g.i → (env.set g.i (Sl.dat (.lst (rows.map .lst))))[j]? = env[j]? := fun j n => List.getElem?_set_ne (Ne.symm n)
  have eI : (env.set g.i (Sl.dat (.lst (rows.map .lst))))[g.i]? = some (.dat (.lst (rows.map .lst))) := List.getElem?_set_self hl
  refine ⟨by rw [List.length_set]; exact b.len, fun j => ?_, fun j c e => ?_, b.heap, fun j c a e e' => ?_, fun j => ⟨fun ⟨r, e⟩ => ?_, fun h => absurd h (hns j)⟩⟩
  · refine Iff.trans ⟨fun ⟨c, e⟩ => ⟨c, ?_⟩, fun ⟨c, e⟩ => ⟨c, ?_⟩⟩ (b.par j)
    · by_cases hj : j = g.i
      · subst hj; rw [eI] at e; cases e
      · rw [eE j hj] at e; exact e
    · by_cases hj : j = g.i
      · subst hj; rw [I.e] at e; cases e
      · rw [eE j hj]; exact e
  · by_cases hj : j = g.i
    · subst hj; rw [eI] at e; cases e
    · rw [eE j hj] at e; exact b.at_ j c e
  · by_cases hj : j = g.i
    · subst hj; rw [eI] at e; cases e
    · rw [eE j hj] at e; exact b.new j c a e e'
  · by_cases hj : j = g.i
    · subst hj; rw [eI] at e; cases e
    · rw [eE j hj] at e
      exact absurd ((b.nn j).mp ⟨r, e⟩) hj
end
section
variable {X : Cx} {z : Z} {g : Rgn} {st : Stmt} {ss rest : List Stmt} {f f1 f2 r : M Fl}
theorem prl_exit {i : Nat} (hi : g.i = i) (hr : PSs X rest (tS z r)) : PSs X rest (tRL z g (sUn i r)) := PSs_imp hr fun D σ H ⟨B, env, rows, hO, hns, G, R, b, I, P⟩ => by
  subst hi
  obtain ⟨R', sub⟩ := R.outN hO G I
  refine ⟨B, _, R', b.outN hns I, ?_⟩
  unfold sUn bnd unN at P
  rw [I.e] at P
  dsimp only at P
  have k : ∀ {σ' env' H'}, Stp B.O σ (env.set g.i (.dat (.lst (rows.map .lst)))) H σ' env' H' → StX g B σ env H σ' env' H' := fun c => ⟨UbG.SameT.trans (UbG.sameT (wo_sub sub)) c.w, c.o⟩
  cases e : r (env.set g.i (.dat (.lst (rows.map .lst)))) with
  | ok fl e' =>
    rw [e] at P
    cases fl with
    | nx => exact fun σ' H' a b c => P σ' H' a b (k c)
    | bk => exact fun σ' H' a b c => P σ' H' a b (k c)
    | ct => exact fun σ' H' a b c => P σ' H' a b (k c)
    | rt w => exact P
  | exc x e' => rw [e] at P; exact fun cls d σ' H' a b c => P cls d σ' H' a b (k c)
  | bad => rw [e] at P; exact P
theorem prl_cons (h : PS X st (tR z g f1)) (hr : PSs X rest (tRL z g f2)) : PSs X (st :: rest) (tRL z g (sSeqN f1 f2)) := PSs_imp (pss_cons h hr) fun D σ H ⟨B, env, rows, hO, hns, G, R, b, I, P⟩ => by
  refine ⟨g.fm B, env, rows, G, R, b, I, ?_⟩
  unfold sSeqN bnd calmM at P
  cases ef : f1 env with
  | ok fl e1 =>
    rw [ef] at P
    cases fl with
    | nx => exact fun σ' H' rows' R' b' s I' => ⟨B, e1, rows', hO, hns, G, R', b', I', PostL.move hO s P⟩
    | bk => exact P.elim
    | ct => exact P.elim
    | rt w => exact P.elim
  | exc x e1 => rw [ef] at P; exact P.elim
  | bad => rw [ef] at P; exact P.elim
end
theorem pss_ex {X : Cx} {ss : List Stmt} {ι : Type} {p : ι → Prop} {t : ι → TS} (h : ∀ g, p g → PSs X ss (t g)) : PSs X ss (fun D σ H => ∃ g, p g ∧ t g D σ H) := ⟨fun pins s σ H D I ⟨g, hg, q⟩ => (h g hg).run pins s σ H D I q⟩
section
variable {z : Z} {g : Rgn} {B : Fm} {O : SS} {σ : L2.St} {env : Env} {H : Hp} {rows : List (List D)} {a : Addr} {i : Nat}
theorem nst_set {s0 : Sl} (hi : env[i]? = some s0) (hk : knd s0 = .z) : (∀ j : Nat, j ≠ i → (env.set i (Sl.nst rows))[j]? = env[j]?) ∧ (env.set i (Sl.nst rows))[i]? = some (Sl.nst rows) ∧ (∀ j, getO j (env.set i (Sl.nst rows)) = getO j env) := by
  have hl := get_lt hi
  have h1 : ∀ j : Nat, j ≠ i → (env.set i (Sl.nst rows))[j]? = env[j]? := fun j n => List.getElem?_set_ne (Ne.symm n)
  have h2 : (env.set i (Sl.nst rows))[i]? = some (Sl.nst rows) := List.getElem?_set_self hl
  refine ⟨h1, h2, fun j => ?_⟩
  unfold getO
  by_cases hj : j = i
  · subst hj
    rw [h2, hi]
    cases s0 with
    | own c => cases hk
    | par c => cases hk
    | _ => rfl
  · rw [h1 j hj]
theorem cells_nst {s0 : Sl} (hi : env[i]? = some s0) (hk : knd s0 = .z) {v : V} : cells (σ.set i (some v)) (env.set i (Sl.nst rows)) O = cells σ env O := by
  obtain ⟨h1, h2, h3⟩ := nst_set (rows := rows) hi hk
  have e : ownS (σ.set i (some v)) (env.set i (Sl.nst rows)) = ownS σ env := by
    funext s
    unfold ownS
    apply propext
    have no : ∀ j c, getO j env = some c → j ≠ i := fun j c h z => by
      subst z
      rcases getO_cases h with q | q
      · rw [hi] at q; cases q; cases hk
      · rw [hi] at q; cases q; cases hk
    constructor
    · rintro ⟨j, c, g, e⟩
      rw [h3] at g
      exact ⟨j, c, g, by rw [List.getElem?_set_ne (Ne.symm (no j c g))] at e; exact e⟩
    · rintro ⟨j, c, g, e⟩
      exact ⟨j, c, by rw [h3]; exact g, by rw [List.getElem?_set_ne (Ne.symm (no j c g))]; exact e⟩
  unfold cells
  rw [e]
theorem RelT.inN {s0 : Sl} (hi : env[i]? = some s0) (hk : knd s0 = .z) {v : V} (R : RelT z O H σ env) : RelT z O H (σ.set i (some v)) (env.set i (.nst rows)) := by
  obtain ⟨h1, h2, h3⟩ := nst_set (rows := rows) hi hk
  have ce : ∀ {O : SS}, cells (σ.set i (some v)) (env.set i (Sl.nst rows)) O = cells σ env O := fun {O} => cells_nst hi hk
  have no : ∀ j c, getO j env = some c → j ≠ i := fun j c h z => by
    subst z
    rcases getO_cases h with q | q
    · rw [hi] at q; cases q; cases hk
    · rw [hi] at q; cases q; cases hk
  have eS : ∀ j : Nat, j ≠ i → (σ.set i (some v))[j]? = σ[j]? := fun j n => List.getElem?_set_ne (Ne.symm n)
  refine ⟨by rw [List.length_set, List.length_set]; exact R.len, fun j d e => ?_, fun j c h => ?_, fun j k c c' b g1 g2 e1 e2 => ?_, fun j c b h e hs => ?_, fun j x e => ?_, by rw [ce]; exact R.cl, R.tb⟩
  · have hj : j ≠ i := fun z => by subst z; rw [h2] at e; cases e
    rw [h1 j hj] at e
    rw [eS j hj, ce]
    exact R.dat j d e
  · rw [h3] at h
    rw [eS j (no j c h), ce]
    exact R.own j c h
  · rw [h3] at g1 g2
    rw [eS j (no j c g1)] at e1
    rw [eS k (no k c' g2)] at e2
    exact R.inj j k c c' b g1 g2 e1 e2
  · rw [h3] at h
    rw [eS j (no j c h)] at e
    exact R.out j c b h e hs
  · have hj : j ≠ i := fun z => by subst z; rw [h2] at e; cases e
    rw [h1 j hj] at e
    obtain ⟨b, cls, d, q1, q2, q3, q4⟩ := R.ex j x e
    refine ⟨b, cls, d, q1, by rw [eS j hj]; exact q2, ?_⟩
    rw [ce]
    exact ⟨q3, q4⟩
theorem Base.inN {s0 : Sl} (hi : env[i]? = some s0) (hk : knd s0 = .z) {v : V} (hg : g.i = i) (hn : noN env = true) (b : Base B σ env H) : Base (g.fm B) (σ.set i (some v)) (env.set i (.nst rows)) H := by
  obtain ⟨h1, h2, h3⟩ := nst_set (rows := rows) hi hk
  have eS : ∀ j : Nat, j ≠ i → (σ.set i (some v))[j]? = σ[j]? := fun j n => List.getElem?_set_ne (Ne.symm n)
  have ne : ∀ {j : Nat} {s : Sl}, (env.set i (Sl.nst rows))[j]? = some s → (∀ r, s ≠ .nst r) → j ≠ i ∧ env[j]? = some s := fun {j s} e n => by
    have hj : j ≠ i := fun z => by subst z; rw [h2] at e; exact n _ (Option.some.inj e).symm
    exact ⟨hj, by rw [← h1 j hj]; exact e⟩
  refine ⟨by rw [List.length_set]; exact b.len, fun j => ?_, fun j c e => ?_, b.heap, fun j c a e e' => ?_, fun j => ⟨fun ⟨r, e⟩ => ?_, fun h => ?_⟩⟩
  · refine Iff.trans ⟨fun ⟨c, e⟩ => ⟨c, (ne e fun _ z => by cases z).2⟩, fun ⟨c, e⟩ => ⟨c, ?_⟩⟩ (b.par j)
    have hj : j ≠ i := fun z => by subst z; rw [hi] at e; cases e; cases hk
    rw [h1 j hj]; exact e
  · obtain ⟨hj, e⟩ := ne e fun _ z => by cases z
    rw [eS j hj]
    exact b.at_ j c e
  · obtain ⟨hj, e⟩ := ne e fun _ z => by cases z
    rw [eS j hj] at e'
    exact b.new j c a e e'
  · show j = g.i
    rw [hg]
    exact Classical.byContradiction fun hj => by
      rw [h1 j hj] at e
      exact noN_at hn e
  · have h : j = g.i := h
    rw [h, hg]
    exact ⟨rows, h2⟩
end
section
variable {X : Cx} {z : Z} {tg elt iter : Expr} {ifs : List Expr} {scope : Scope} {own : List (Str × Nat)} {pos spos : Pos} {fi : M (List D)} {tgt : Tg} {c : M Bool} {x : M Vw} {n : Str} {rest : List Stmt} {f : M Fl}
theorem pr_enter {i : Nat} {py : Pos} (hc : X.calm = true) (hN : X.N.Nodup) (hy : X.N[i]? = some n) (hyl : X.env.scope.names.lookup n = some .local)
    (hsw : swapsWith (.ListComp elt [⟨tg, iter, ifs, 0⟩] scope pos) (some (.Name n py)) spos.line X.env = pure true) (hi : PI X tg iter (tI z fi)) (ok : BlkOk X.N X.env.scope scope own)
    (hg : ∀ (s : Shared) (H : Hp) (C : Addr) (cl : List (Str × Addr)) (fp : List Addr), PG (X.blk s H scope (compEnvC scope cl C X.env) fp) tg (gT z.K tgt)) (ht : ∀ (s : Shared) (H : Hp) (C : Addr) (cl : List (Str × Addr)) (fp : List Addr), PTs (X.blk s H scope (compEnvC scope cl C X.env) fp) ifs (tT z.quiet c))
    (he : ∀ (s : Shared) (H : Hp) (C : Addr) (cl : List (Str × Addr)) (fp : List Addr), PE (X.blk s H scope (compEnvC scope cl C X.env) fp) elt (tP z.quiet x)) (hv : ∀ j ∈ slots tgt, j ∈ own.map (·.2)) 
    (hr : ∀ g : Rgn, g.i = i → PSs X rest (tRL z g f)) (hs : ∀ x, foldedSetIterable iter X.env x = pure x := by intro _; rfl) :
    PSs X (.Assign [.Name n py] (.ListComp elt [⟨tg, iter, ifs, 0⟩] scope pos) spos :: rest) (tS z (sNst i (eLcN fi tgt c x (own.map (·.2))) f)) := PSs_imp (pss_cons (ps_setLc hc hN hy hyl hsw hi ok hg ht he hs) (pss_ex hr)) fun D σ H ⟨B, env, R, b, P⟩ =>
  show tLc _ _ _ _ _ σ H (fun v H1 => ∃ g : Rgn, g.i = i ∧ tRL z g f D (σ.set i (some v)) H1) from lcN_read hv (tG_mono (R1 := vN) (postS_bnd0 R b P) fun v H1 ⟨env1, rows, R1, b1, s1, so1, hV, P1⟩ => by
    obtain ⟨a, bs, rfl, nd, hfr, hH, hR, hRel⟩ := hV
    unfold bnd nstN at P1
    by_cases hn : noN env1 = true
    · rw [if_pos hn] at P1
      have go : ∀ {s0 : Sl}, env1[i]? = some s0 → knd s0 = .z → PostS z B σ env H D (f (env1.set i (.nst rows))) → ∃ g : Rgn, g.i = i ∧ tRL z g f D (σ.set i (some (.ref a))) H1 := fun {s0} e1 hk P => by
        refine ⟨⟨i, a, bs, B.O⟩, rfl, B, env1.set i (.nst rows), rows, rfl, fun j hj => ?_, ⟨rfl, nd, fun s hs => b.none (hfr s hs).2, fun s hs h => (hfr s hs).1 (.inr h)⟩, hRel.inN e1 hk, b1.inN e1 hk rfl hn, ⟨(nst_set e1 hk).2.1, List.getElem?_set_self (by rw [R1.len]; exact get_lt e1), hH, ?_⟩, ?_⟩
        · obtain ⟨r, h⟩ := (b1.nn j).mpr hj
          exact noN_at hn h
        · show Rw z.K (cells (σ.set i (some (V.ref a))) (env1.set i (.nst rows)) (fun s => B.O s ∨ s ∈ a :: bs)) H1 bs rows
          rw [cells_nst e1 hk, cells_or]
          exact hR
        · have k : ∀ {σ' env' H'}, StX ⟨i, a, bs, B.O⟩ B (σ.set i (some (V.ref a))) (env1.set i (.nst rows)) H1 σ' env' H' → Stp B.O σ env H σ' env' H' := fun {σ' env' H'} st => by
            refine ⟨UbG.SameT.trans ?_ st.w, fun s hs => (st.o s hs).trans (outer_same R s1 s hs), fun j r e => absurd (so1.nst e) (noN_at hn)⟩
            show UbG.SameT (wo (cells σ env B.O) H) (wo (cells (σ.set i (some (V.ref a))) (env1.set i (.nst rows)) (fun s => B.O s ∨ s ∈ a :: bs)) H1)
            rw [cells_nst e1 hk, cells_or, ← so1.cells σ B.O]
            exact wT_ext (Ex := fun s => s ∈ a :: bs) s1 (fun s h => .inl h) fun s h => (hfr s h).2
          cases er : f (env1.set i (.nst rows)) with
          | ok fl e' =>
            rw [er] at P
            cases fl with
            | nx => exact fun σ' H' a b c => P σ' H' a b (k c)
            | bk => exact fun σ' H' a b c => P σ' H' a b (k c)
            | ct => exact fun σ' H' a b c => P σ' H' a b (k c)
            | rt w => exact P
          | exc x e' => rw [er] at P; exact fun cls d σ' H' a b c => P cls d σ' H' a b (k c)
          | bad => rw [er] at P; exact P
      split at P1
      · rename_i v0 e2 h
        split at h
        · rename_i e1; cases h; exact go e1 rfl P1
        · rename_i e1; cases h; exact go e1 rfl P1
        · cases h
      · rename_i h
        split at h
        all_goals cases h
      · exact P1.elim
    · rw [if_neg hn] at P1
      exact P1.elim)
end
theorem bnd_asc {α β γ : Type} (a : M α) (f : α → M β) (k : β → M γ) (e : Env) : bnd (bnd a f) k e = bnd a (fun x => bnd (f x) k) e := by
  unfold bnd
  cases a e <;> rfl
section
variable {z : Z} {B : Fm} {g : Rgn} {σ : L2.St} {env : Env} {H : Hp} {α β : Type} {D : Ends} {rows : List (List UbP.D)}
theorem postR_opt {o : Option α} {k : α → M Fl} (P : PostR z B g σ env H D (bnd (optM o) k env)) : ∃ a, o = some a ∧ PostR z B g σ env H D (k a env) := by
  unfold bnd optM at P
  cases o with
  | none => exact P.elim
  | some a => exact ⟨a, rfl, P⟩
theorem postR_now {w : Vw} {k : UbP.D → M Fl} (P : PostR z B g σ env H D (bnd (nowM w) k env)) : ∃ a, w.now env = some a ∧ PostR z B g σ env H D (k a env) := by
  unfold bnd nowM at P
  cases e : w.now env with
  | none => rw [e] at P; exact P.elim
  | some a => rw [e] at P; exact ⟨a, rfl, P⟩
/-- an int within a stretch -/
theorem postR_int {fm : M Vw} {k : Int → M Fl} (G : RgOk g B) (R : RelT z B.O H σ env) (b : Base B σ env H) (I : InR z g B σ env H rows) (P : PostR z B g σ env H D (bnd (intV fm) k env)) :
    tP z fm σ H fun v H1 => ∃ env1 n, v = .int n ∧ RelT z B.O H1 σ env1 ∧ Base B σ env1 H1 ∧ InR z g B σ env1 H1 rows ∧ PostR z B g σ env1 H1 D (k n env1) := by
  have P : PostR z B g σ env H D (bnd fm (fun w => bnd (bnd (nowM w) fun d => optM (intOf d)) k) env) := by
    rw [← bnd_asc]
    exact P
  refine tG_mono (postR_bnd G R b I P) fun v H1 ⟨env1, w, R1, b1, s1, so1, I1, hV, P1⟩ => ?_
  rw [bnd_asc] at P1
  obtain ⟨d, e1, P2⟩ := postR_now P1
  obtain ⟨n, e2, P3⟩ := postR_opt P2
  exact ⟨env1, n, dv_intOf (hV.1.now R1 e1) e2, R1, b1, I1, P3⟩
theorem Rw.row {K : PySem.W.Frag} {S : SS} {bs : List Addr} {rs : List (List UbP.D)} {n : Int} {j : Nat} {r : List UbP.D} (h : Rw K S H bs rs) (e1 : ixI rs.length n = some j) (e2 : rs[j]? = some r) :
    ∃ bb xs, bs[j]? = some bb ∧ H bb = some (.lst xs) ∧ DqAll K (wo S H) xs r ∧ atI (bs.map V.ref) n = some (V.ref bb) := by
  obtain ⟨bb, xs, h1, h2, h3⟩ := h.get e2
  refine ⟨bb, xs, h1, h2, h3, ?_⟩
  unfold atI
  have e3 : ixN (bs.map V.ref).length n = some j := by rw [List.length_map, h.len]; exact e1
  rw [e3]
  show (bs.map V.ref)[j]? = _
  rw [List.getElem?_map, h1]
  rfl
/-- x[k] -/
theorem postR_row {i : Nat} {fk : M Vw} {k : Nat × List UbP.D → M Fl} (hi : g.i = i) (G : RgOk g B) (R : RelT z B.O H σ env) (b : Base B σ env H) (I : InR z g B σ env H rows) (P : PostR z B g σ env H D (bnd (eRow i fk) k env)) :
    tOp (rIxL z.K) (tVar i) (tP z fk) σ H fun v H1 => ∃ env1 j r bb xs, RelT z B.O H1 σ env1 ∧ Base B σ env1 H1 ∧ InR z g B σ env1 H1 rows ∧ v = .ref bb ∧ g.bs[j]? = some bb ∧ H1 bb = some (.lst xs) ∧ DqAll z.K (wo (cells σ env1 B.O) H1) xs r ∧ rows[j]? = some r ∧ PostR z B g σ env1 H1 D (k (j, r) env1) := by
  subst hi
  refine ⟨.ref g.a, I.s, ?_⟩
  have P : PostR z B g σ env H D (bnd (intV fk) (fun n => bnd (rowM g.i n) k) env) := by
    rw [← bnd_asc]
    exact P
  refine tG_mono (postR_int G R b I P) fun v H1 ⟨env1, n, hv, R1, b1, I1, P1⟩ => ?_
  unfold bnd rowM at P1
  rw [I1.e] at P1
  dsimp only at P1
  cases e1 : ixI rows.length n with
  | none => rw [e1] at P1; exact P1.elim
  | some j =>
    rw [e1] at P1
    dsimp only at P1
    cases e2 : rows[j]? with
    | none => rw [e2] at P1; exact P1.elim
    | some r =>
      rw [e2] at P1
      obtain ⟨bb, xs, h1, h2, h3, h4⟩ := I1.r.row e1 e2
      exact ⟨g.a, _, n, _, rfl, hv, .inl (.inl I1.h), h4, env1, j, r, bb, xs, R1, b1, I1, rfl, h1, h2, h3, e2, P1⟩
theorem RgOk.at (G : RgOk g B) {j : Nat} {bb : Addr} (h : g.bs[j]? = some bb) : bb ∈ g.a :: g.bs := List.mem_cons_of_mem _ (List.mem_of_getElem? h)
theorem getO_nst {env : Env} {i : Nat} {r r' : List (List UbP.D)} (hi : env[i]? = some (Sl.nst r)) (j : Nat) : getO j (env.set i (Sl.nst r')) = getO j env := by
  have hl := get_lt hi
  unfold getO
  by_cases hj : j = i
  · subst hj
    rw [List.getElem?_set_self hl, hi]
  · rw [List.getElem?_set_ne (Ne.symm hj)]
theorem cells_reN {O : SS} {i : Nat} {r r' : List (List UbP.D)} (hi : env[i]? = some (Sl.nst r)) : cells σ (env.set i (Sl.nst r')) O = cells σ env O := by
  unfold cells ownS
  simp only [getO_nst hi]
/-- a row changes -/
theorem row_put {i j : Nat} {bb : Addr} {ys : List V} {q : List UbP.D} {k : Unit → M Fl} (hi : g.i = i) (G : RgOk g B) (R : RelT z B.O H σ env) (b : Base B σ env H) (I : InR z g B σ env H rows) (hb : g.bs[j]? = some bb)
    (hq : DqAll z.K (wo (cells σ env B.O) H) ys q) (P : PostR z B g σ env H D (bnd (putRow i j q) k env)) :
    ∃ env', RelT z B.O (upd H bb (.lst ys)) σ env' ∧ Base B σ env' (upd H bb (.lst ys)) ∧ InR z g B σ env' (upd H bb (.lst ys)) (rows.set j q) ∧ StR g B σ env H σ env' (upd H bb (.lst ys)) ∧ cells σ env' B.O = cells σ env B.O ∧
      wo (cells σ env' B.O) (upd H bb (.lst ys)) = wo (cells σ env B.O) H ∧ PostR z B g σ env' (upd H bb (.lst ys)) D (k () env') := by
  subst hi
  have hm := G.at hb
  have bO : B.O bb := G.mem hm
  have hl := get_lt I.e
  obtain ⟨xs0, hx0⟩ := I.r.cell bb (List.mem_of_getElem? hb)
  have sU : SameC (fun s => s = bb) H (upd H bb (.lst ys)) := sameC_upd rfl True.intro ⟨_, hx0, True.intro⟩
  have cin : cells σ env B.O bb := .inr bO
  have ce : cells σ (env.set g.i (Sl.nst (rows.set j q))) B.O = cells σ env B.O := cells_reN I.e
  have we : wo (cells σ (env.set g.i (Sl.nst (rows.set j q))) B.O) (upd H bb (.lst ys)) = wo (cells σ env B.O) H := by rw [ce, wo_upd cin]
  have eE : ∀ {m : Nat} {s : Sl}, (env.set g.i (Sl.nst (rows.set j q)))[m]? = some s → (∀ r, s ≠ .nst r) → env[m]? = some s := fun {m s} e n => by
    by_cases hm : m = g.i
    · subst hm
      rw [List.getElem?_set_self hl] at e
      exact absurd (Option.some.inj e).symm (n _)
    · rw [List.getElem?_set_ne (Ne.symm hm)] at e
      exact e
  have eB : ∀ {m : Nat} {s : Sl}, env[m]? = some s → (∀ r, s ≠ .nst r) → (env.set g.i (Sl.nst (rows.set j q)))[m]? = some s := fun {m s} e n => by
    by_cases hm : m = g.i
    · subst hm
      rw [I.e] at e
      exact absurd (Option.some.inj e).symm (n _)
    · rw [List.getElem?_set_ne (Ne.symm hm)]
      exact e
  have gg := fun m => getO_nst (r' := rows.set j q) I.e m
  refine ⟨env.set g.i (.nst (rows.set j q)), ⟨by rw [List.length_set]; exact R.len, fun m d e => ?_, fun m c h => ?_, fun m n c c' a g1 g2 e1 e2 => ?_, fun m c a h e => ?_, fun m x e => ?_, ?_, fun P hP => sU.tab P (R.tb P hP)⟩, ⟨by rw [List.length_set]; exact b.len, fun m => ?_, fun m c e => b.at_ m c (eE e fun _ z => by cases z), ?_, fun m c a e e' => b.new m c a (eE e fun _ z => by cases z) e', fun m => ?_⟩, ⟨List.getElem?_set_self hl, I.s, ?_, ?_⟩, ⟨?_, fun s hs => ?_⟩, ce, we, ?_⟩
  · obtain ⟨v, h1, h2⟩ := R.dat m d (eE e fun _ z => by cases z)
    exact ⟨v, h1, by rw [we]; exact h2⟩
  · rw [gg] at h
    obtain ⟨a, h1, h2⟩ := R.own m c h
    have ha : a ≠ bb := fun z => R.out m c a h h1 (by rw [z]; exact bO)
    refine ⟨a, h1, ?_⟩
    cases c with
    | l ds =>
      obtain ⟨xs, k1, k2⟩ := h2
      exact ⟨xs, by rw [upd_ne ha]; exact k1, by rw [we]; exact k2⟩
    | o c fs =>
      obtain ⟨dx, vs, k1, k2⟩ := h2
      exact ⟨dx, vs, by rw [upd_ne ha]; exact k1, by rw [we]; exact k2⟩
  · rw [gg] at g1 g2
    exact R.inj m n c c' a g1 g2 e1 e2
  · rw [gg] at h
    exact R.out m c a h e
  · obtain ⟨a, cls, d, h1, h2, h3⟩ := R.ex m x (eE e fun _ z => by cases z)
    exact ⟨a, cls, d, h1, h2, by rw [we]; exact h3⟩
  · rw [ce]
    exact (sU.sub fun s hs => by rw [hs]; exact cin).clS R.cl
  · exact Iff.trans ⟨fun ⟨c, e⟩ => ⟨c, eE e fun _ z => by cases z⟩, fun ⟨c, e⟩ => ⟨c, eB e fun _ z => by cases z⟩⟩ (b.par m)
  · exact b.heap.into sU fun s hs => by rw [hs]; exact .inr (G.new bb hm)
  · refine Iff.trans ⟨fun ⟨r, e⟩ => ?_, fun ⟨r, e⟩ => ?_⟩ (b.nn m)
    · by_cases hm : m = g.i
      · exact ⟨rows, by rw [hm]; exact I.e⟩
      · exact ⟨r, by rw [List.getElem?_set_ne (Ne.symm hm)] at e; exact e⟩
    · by_cases hm : m = g.i
      · exact ⟨rows.set j q, by rw [hm]; exact List.getElem?_set_self hl⟩
      · exact ⟨r, by rw [List.getElem?_set_ne (Ne.symm hm)]; exact e⟩
  · have : g.a ≠ bb := fun z => (List.nodup_cons.mp G.nd).1 (by rw [z]; exact List.mem_of_getElem? hb)
    rw [upd_ne this]
    exact I.h
  · rw [ce]
    exact I.r.upd cin hq (List.nodup_cons.mp G.nd).2 hb
  · rw [we]
    exact UbG.SameT.refl _
  · have : s ≠ bb := fun z => G.dis bb hm (by rw [← z]; exact hs)
    exact upd_ne this
  · refine PostR.move (σ := σ) (env := env) (H := H) ⟨?_, fun s hs => ?_⟩ ?_
    · rw [we]
      exact UbG.SameT.refl _
    · have : s ≠ bb := fun z => G.dis bb hm (by rw [← z]; exact hs)
      exact upd_ne this
    · unfold bnd putRow at P
      rw [I.e] at P
      exact P
end
section
variable {X : Cx} {z : Z} {g : Rgn} {ss ts : List Stmt} {f f1 f2 : M Fl} {e ke me ve : Expr} {fk fm fv : M Vw} {x : Str} {pos p p1 p2 apos tpos : Pos} {i : Nat}
/-- if x[k]: -/
theorem pr_ifRow (hg : g.i = i) (hK : X.K = z.K) (hN : X.N[i]? = some x) (hv : Vis X.env.scope x) (hd : (x == ("__debug__" : Str)) = false) (hcd : (x == ("__classdict__" : Str)) = false) (hk : PE X ke (tP z fk)) (hs : PlainIx ke) (ha : PSs X ss (tR z g f1)) (hb : PSs X ts (tR z g f2))
    (he : ∀ whole, isTrue (.Subscript (.Name x p) ke p1) X.env whole = (do let v ← whole; standAt (Expr.Subscript (.Name x p) ke p1).pos; holding [v] (truthy v)) := by intro _; rfl) :
    PS X (.If (.Subscript (.Name x p) ke p1) ss ts pos) (tR z g (sIfRow i fk f1 f2)) := PS_imp (ps_if (pt_truth (pe_ix ix_list (pe_var hN hv hd hcd) hk hs) he) ha hb) fun D σ H ⟨B, env, rows, G, R, b, I, P⟩ => by
  have h := postR_row hg G R b I P
  rw [hK]
  obtain ⟨v0, q1, q2⟩ := h
  refine ⟨v0, q1, tG_mono q2 fun v H1 ⟨a, xs0, n, w, h1, h2, h3, h4, env1, j, r, bb, xs, R1, b1, I1, hw, hbb, hx, hD, hr, P1⟩ => ⟨a, xs0, n, w, h1, h2, h3, h4, !r.isEmpty, ?_, ?_⟩⟩
  · rw [hw]
    exact .inl ⟨xs, .inl (.inl hx), by
      have := hD.len
      cases xs with
      | nil => cases r with
        | nil => rfl
        | cons _ _ => cases this
      | cons _ _ => cases r with
        | nil => cases this
        | cons _ _ => rfl⟩
  · have P1 : PostR z B g σ env1 H1 D ((if r.isEmpty then f2 else f1) env1) := P1
    cases hr : r.isEmpty with
    | true =>
      rw [hr, if_pos rfl] at P1
      exact ⟨B, env1, rows, G, R1, b1, I1, P1⟩
    | false =>
      rw [hr, if_neg (by decide)] at P1
      exact ⟨B, env1, rows, G, R1, b1, I1, P1⟩
/-- t = x[k].pop(m) -/
theorem pr_popRow {t : Nat} {y : Str} {py : Pos} (hg : g.i = i) (hK : X.K = z.K) (hN : X.N[i]? = some x) (hv : Vis X.env.scope x) (hd : (x == ("__debug__" : Str)) = false) (hcd : (x == ("__classdict__" : Str)) = false) (hk : PE X ke (tP z fk)) (hs : PlainIx ke) (hm : PE X me (tP z fm))
    (hNd : X.N.Nodup) (ht : X.N[t]? = some y) (hy : Loc X.env.scope y)
    (hbase : attributeBase (.Subscript (.Name x p) ke p1) "pop" X.env (eval (.Subscript (.Name x p) ke p1) X.env) = eval (.Subscript (.Name x p) ke p1) X.env := by rfl)
    (hfew : ((backTo p2 (starEach [me] X.env)).all (fun x => !x.1) && (backToKw p2 (keywordEach [] X.env)).all (fun x => x.1.isSome) && decide ([me].length + ([] : List Keyword).length + (if ([] : List Keyword).isEmpty then 0 else 1) < 30)) = true := by rfl)
    (hline : (apos.endLine == p2.line) = true := by rfl) (hst : starEach [me] X.env = (false, eval me X.env) :: starEach [] X.env := by rfl) (hplain : (backTo p2 (starEach [] X.env)).any (·.1) = false := by rfl)
    (hsw : swapsWith (.Call (.Attribute (.Subscript (.Name x p) ke p1) "pop" apos) [me] [] p2) (some (.Name y py)) pos.line X.env = pure false := by rfl) (hf : X.fn y = true ∨ X.env.scope.names.lookup y = some .local := by first | exact .inl rfl | exact .inr rfl | assumption) :
    PS X (.Assign [.Name y py] (.Call (.Attribute (.Subscript (.Name x p) ke p1) "pop" apos) [me] [] p2) pos) (tR z g (sPopRow t i fk fm)) :=
  PS_imp (ps_set hNd ht hy (pe_bm PySem.F.plainAttrs_list PySem.F.slot_list_pop PySem.F.type_list_pop mt_popAt (pe_ix ix_list (pe_var hN hv hd hcd) hk hs) (pa_cons hm pa_nil hst) hbase hfew hline hst hplain) hsw hf) fun D σ H ⟨B, env, rows, G, R, b, I, P⟩ => by
  have h := postR_row hg G R b I P
  rw [hK]
  obtain ⟨v0, q1, q2⟩ := h
  refine ⟨v0, q1, tG_mono q2 fun v H1 ⟨a, xs0, n, w, h1, h2, h3, h4, env1, j, r, bb, xs, R1, b1, I1, hw, hbb, hx, hD, hr, P1⟩ => ⟨a, xs0, n, w, h1, h2, h3, h4, ?_⟩⟩
  subst hw
  refine ⟨ty_list hx, ?_⟩
  refine tG_mono (postR_int G R1 b1 I1 P1) fun v2 H2 ⟨env2, m, hv2, R2, b2, I2, P2⟩ => ?_
  subst hv2
  obtain ⟨bb2, xs2, k1, k2, k3⟩ := I2.r.get hr
  rw [hbb] at k1
  cases k1
  dsimp only at P2
  cases ej : ixI r.length m with
  | none => rw [ej] at P2; exact P2.elim
  | some j2 =>
    rw [ej] at P2
    obtain ⟨d, ed, P3⟩ := postR_opt P2
    by_cases hl : r.length < LIM
    · rw [if_pos hl] at P3
      obtain ⟨u, eu, hu⟩ := k3.get ed
      obtain ⟨z1, z2, z3⟩ := ixI_seq ej
      have small : (r.length : Int) < 1000000 := by unfold LIM at hl; omega
      obtain ⟨env3, R3, b3, I3, st, ce, we, P4⟩ := row_put hg G R2 b2 I2 hbb (k3.eraseIdx j2) P3
      refine ⟨bb, xs2, m, j2, u, rfl, rfl, k2, by omega, by omega, by rw [k3.len]; exact z1, eu, ?_⟩
      unfold putM at P4
      cases e : putT (.nm t) d env3 with
      | none => rw [e] at P4; exact P4.elim
      | some env' =>
        rw [e] at P4
        unfold putT at e
        obtain ⟨R', C⟩ := setN R3 e (by rw [we]; exact hu)
        exact P4 _ _ _ R' (C.base b3) (C.stp.toR G) (I3.step G C.stp)
    · rw [if_neg hl] at P3
      exact P3.elim
end
abbrev outS (O : SS) (bb : Addr) : SS := fun s => O s ∧ s ≠ bb
end UbP
namespace UbP
open PySem
section
variable {α β : Type}
def sat (r : Res α) (P : α → Env → Prop) (E : Ex → Env → Prop) : Prop := match r with
  | .ok a e => P a e
  | .exc x e => E x e
  | .bad => False
@[irreducible] def fsat (r : FRes) (P : Vw → List Ct → Prop) (E : Ex → List Ct → Prop) : Prop := match r with
  | .ret w cs => P w cs
  | .exc x cs => E x cs
  | .bad => False
variable {P P' : α → Env → Prop} {E E' : Ex → Env → Prop} {e e' : Env} {a : α}
theorem sat_mono {r : Res α} (h : sat r P E) (i : ∀ a e, P a e → P' a e) (j : ∀ x e, E x e → E' x e) : sat r P' E' := by
  cases r with
  | ok a e => exact i _ _ h
  | exc x e => exact j _ _ h
  | bad => exact h
theorem fsat_eq {r : FRes} {w : Vw} {cs : List Ct} (h : fsat r (fun v c => v = w ∧ c = cs) fun _ _ => False) : r = .ret w cs := by
  with_unfolding_all
      cases r with
      | ret v c => obtain ⟨rfl, rfl⟩ := (show v = w ∧ c = cs from h); rfl
      | exc x e => exact h.elim
      | bad => exact h.elim
theorem sat_bnd {m : M α} {k : α → M β} {P : β → Env → Prop} : sat (bnd m k e) P E = sat (m e) (fun a e' => sat (k a e') P E) E := by
  unfold bnd
  cases m e with
  | ok a e1 => rfl
  | exc x e1 => rfl
  | bad => rfl
theorem sat_optI {c : Prop} [Decidable c] {o : Option α} : sat (optM (if c then o else none) e) P E = (c ∧ sat (optM o e) P E) := by
  by_cases h : c
  · rw [if_pos h]; exact propext ⟨fun z => ⟨h, z⟩, fun z => z.2⟩
  · rw [if_neg h]; exact propext ⟨fun z => z.elim, fun z => h z.1⟩
theorem sat_optMap {o : Option β} {f : β → α} : sat (optM (o.map f) e) P E = sat (optM o e) (fun b e => P (f b) e) E := by cases o <;> rfl
theorem sat_optBind {o : Option β} {f : β → Option α} : sat (optM (o.bind f) e) P E = sat (optM o e) (fun b e => sat (optM (f b) e) P E) E := by cases o <;> rfl
theorem sat_iteB {k : Bool} {m n : M α} : sat ((if k = true then m else n) e) P E = ((k = true → sat (m e) P E) ∧ (k = false → sat (n e) P E)) := by
  cases k
  · exact propext ⟨fun h => ⟨fun z => by simp at z, fun _ => h⟩, fun h => h.2 rfl⟩
  · exact propext ⟨fun h => ⟨fun _ => h, fun z => by simp at z⟩, fun h => h.1 rfl⟩
theorem sat_iteM {c : Prop} [Decidable c] {m n : M α} : sat ((if c then m else n) e) P E = if c then sat (m e) P E else sat (n e) P E := by split <;> rfl
/-- a slot's reading -/
def rdS (i : Nat) : Option Sl → Option Vw
  | some (.dat d) => some (.d d)
  | some (.own _) => some (.o i)
  | some (.par _) => some (.o i)
  | _ => none
theorem eV_eq {i : Nat} : eV i e = match rdS i e[i]? with | some w => .ok w e | none => .bad := by
  unfold eV
  cases h : e[i]? with
  | none => rfl
  | some s => cases s <;> rfl
theorem sat_eV {i : Nat} {P : Vw → Env → Prop} : sat (eV i e) P E = match rdS i e[i]? with | some w => P w e | none => False := by
  rw [eV_eq]
  cases rdS i e[i]? <;> rfl
end
theorem sat_callB {f : Fn} {ms : List Bool} {dv : List D} {ws : List Vw} {e : Env} {P : Vw → Env → Prop} {E : Ex → Env → Prop} : sat (callB f ms dv ws e) P E = match mkArgs ms ws e with
    | none => False
    | some args => nodup (ownIx ms ws ++ lookIx ms ws) = true ∧ fsat (f (args ++ dv.map .dat))
      (fun w cs => passOk (lookIx ms ws) w cs = true ∧ match putBack ms ws cs e with | some e' => P w e' | none => False)
      (fun x cs => (lookIx ms ws).isEmpty = true ∧ match putBack ms ws cs e with | some e' => E x e' | none => False) := by
  with_unfolding_all
      unfold callB
      cases mkArgs ms ws e with
      | none => rfl
      | some args =>
        by_cases hn : nodup (ownIx ms ws ++ lookIx ms ws) = true
        · simp only [hn, if_true, true_and]
          cases f (args ++ dv.map .dat) with
          | ret w cs =>
            by_cases hp : passOk (lookIx ms ws) w cs = true
            · simp only [hp, if_true, fsat, true_and]
              cases putBack ms ws cs e <;> rfl
            · simp [hp, fsat, sat]
          | exc x cs =>
            by_cases hp : (lookIx ms ws).isEmpty = true
            · simp only [hp, if_true, fsat, true_and]
              cases putBack ms ws cs e <;> rfl
            · have hp : (lookIx ms ws).isEmpty = false := by simpa using hp
              simp [hp, fsat, sat]
          | bad => rfl
        · have hn : nodup (ownIx ms ws ++ lookIx ms ws) = false := by simpa using hn
          simp [hn, sat]
theorem fsat_run {k : Nat} {b : M Fl} {args : List Sl} {P : Vw → List Ct → Prop} {E : Ex → List Ct → Prop} : fsat (run k b args) P E = sat (b (args ++ List.replicate k .no))
    (fun f e => match f with
      | .nx => P (.d .non) (pars e)
      | .rt (.d d) => P (.d d) (pars e)
      | .rt (.f c) => P (.f c) (pars e)
      | _ => False)
    (fun x e => E x (pars e)) := by
  with_unfolding_all
      unfold run
      cases b (args ++ List.replicate k .no) with
      | ok f e =>
        cases f with
        | nx => rfl
        | rt w => cases w <;> rfl
        | bk => rfl
        | ct => rfl
      | exc x e => rfl
      | bad => rfl
theorem sat_sSeq {a b : M Fl} {e : Env} {P : Fl → Env → Prop} {E : Ex → Env → Prop} : sat (sSeq a b e) P E = sat (a e) (fun f e' => match f with
    | .nx => sat (b e') P E
    | f => P f e') E := by
  unfold sSeq
  rw [sat_bnd]
  congr
  funext f e1
  cases f <;> rfl
theorem sat_sRet {a : M Vw} {e : Env} {P : Fl → Env → Prop} {E : Ex → Env → Prop} : sat (sRet a e) P E = sat (a e) (fun w e => match w with
    | .d d => P (.rt (.d d)) e
    | .f c => P (.rt (.f c)) e
    | .o i => match e[i]? with
      | some (.own c) => P (.rt (.f c)) (e.set i .no)
      | _ => False) E := by
  unfold sRet
  rw [sat_bnd]
  congr
  funext w e1
  cases w with
  | o i =>
    show sat (match e1[i]? with | some (.own c) => Res.ok (Fl.rt (.f c)) (e1.set i .no) | _ => Res.bad) P E = (match e1[i]? with | some (.own c) => P (.rt (.f c)) (e1.set i .no) | _ => False)
    cases e1[i]? with
    | none => rfl
    | some s => cases s <;> rfl
  | _ => rfl
theorem sat_putM {tg : Tg} {d : D} {e : Env} {P : Fl → Env → Prop} {E : Ex → Env → Prop} : sat (putM tg d e) P E = match putT tg d e with | some e' => P .nx e' | none => False := by
  unfold putM
  cases putT tg d e <;> rfl
theorem sat_frz {i : Nat} {b : M Fl} {e : Env} {P : Fl → Env → Prop} {E : Ex → Env → Prop} : sat (frz i b e) P E = match frzE i e with | some e' => sat (b e') P E | none => False := by
  unfold frz
  cases frzE i e <;> rfl
/-- one turn of a loop: the target, then the body -/
def turn (tg : Tg) (d : D) (b : M Fl) : M Fl := fun e => match putT tg d e with
  | none => .bad
  | some e1 => b e1
theorem sat_turn {tg : Tg} {d : D} {b : M Fl} {e : Env} {P : Fl → Env → Prop} {E : Ex → Env → Prop} : sat (turn tg d b e) P E = match putT tg d e with | some e1 => sat (b e1) P E | none => False := by
  unfold turn
  cases putT tg d e <;> rfl
/-- the flow behind one turn -/
def goOn (N : Env → Prop) (P : Fl → Env → Prop) : Fl → Env → Prop
  | .nx, e => N e
  | .ct, e => N e
  | .bk, e => P .nx e
  | .rt w, e => P (.rt w) e
theorem sat_forL {α : Type} {tg : Tg} {b : M Fl} {g : α → D} {P : Fl → Env → Prop} {E : Ex → Env → Prop} {e : Env} {xs : List α} (I : List α → Env → Prop) (h0 : I [] e)
    (hs : ∀ pre x post e, xs = pre ++ x :: post → I pre e → sat (turn tg (g x) b e) (goOn (I (pre ++ [x])) P) E) (he : ∀ e, I xs e → P .nx e) : sat (forL tg b (xs.map g) e) P E := by
  have go : ∀ (post pre : List α) (e : Env), xs = pre ++ post → I pre e → sat (forL tg b (post.map g) e) P E := by
    intro post
    induction post with
    | nil =>
      intro pre e hx hi
      rw [List.append_nil] at hx
      subst hx
      exact he e hi
    | cons x post ih =>
      intro pre e hx hi
      have h := hs pre x post e hx hi
      rw [sat_turn] at h
      show sat (match putT tg (g x) e with | none => Res.bad | some e1 => _) P E
      cases ht : putT tg (g x) e with
      | none => rw [ht] at h; exact h.elim
      | some e1 =>
        rw [ht] at h
        show sat (match b e1 with | .ok .nx e2 => _ | .ok .ct e2 => _ | .ok .bk e2 => _ | .ok (.rt w) e2 => _ | .exc x e2 => _ | .bad => _) P E
        have h : sat (b e1) _ _ := h
        cases hb : b e1 with
        | ok f e2 =>
          rw [hb] at h
          cases f with
          | nx => exact ih (pre ++ [x]) e2 (by rw [hx, List.append_assoc]; rfl) h
          | ct => exact ih (pre ++ [x]) e2 (by rw [hx, List.append_assoc]; rfl) h
          | bk => exact h
          | rt w => exact h
        | exc x e2 => rw [hb] at h; exact h
        | bad => rw [hb] at h; exact h
  exact go xs [] e rfl h0
theorem sat_whl {t : M Bool} {b : M Fl} {P : Fl → Env → Prop} {E : Ex → Env → Prop} (I : Env → Prop) (μ : Env → Nat)
    (hs : ∀ e, I e → sat (t e) (fun k e1 => (k = true → sat (b e1) (goOn (fun e2 => I e2 ∧ μ e2 < μ e) P) E) ∧ (k = false → P .nx e1)) E) : ∀ (n : Nat) (e : Env), I e → μ e < n → sat (whl t b n e) P E
  | 0, e, _, h => absurd h (Nat.not_lt_zero _)
  | n + 1, e, hi, h => by
    show sat (bnd t _ e) P E
    rw [sat_bnd]
    refine sat_mono (hs e hi) (fun k e1 hk => ?_) (fun _ _ z => z)
    cases k with
    | false => exact hk.2 rfl
    | true =>
      show sat (bnd b _ e1) P E
      rw [sat_bnd]
      refine sat_mono (hk.1 rfl) (fun f e2 hf => ?_) (fun _ _ z => z)
      cases f with
      | nx => exact sat_whl I μ hs n e2 hf.1 (by have := hf.2; omega)
      | ct => exact sat_whl I μ hs n e2 hf.1 (by have := hf.2; omega)
      | bk => exact hf
      | rt w => exact hf
/-- one element of a comprehension -/
def lcStep (tg : Tg) (c : M Bool) (x : M Vw) (vs : List Nat) (d : D) : M (Option D) := fun e => match putT tg d e with
    | none => .bad
    | some e1 => match c e1 with
      | .ok false e2 => .ok none (wipeE e2 vs)
      | .ok true e2 => match x e2 with
        | .ok w e3 => match w.stay with
          | some y => .ok (some y) (wipeE e3 vs)
          | none => .bad
        | _ => .bad
      | _ => .bad
theorem sat_lcStep {tg : Tg} {c : M Bool} {x : M Vw} {vs : List Nat} {d : D} {e : Env} {P : Option D → Env → Prop} {E : Ex → Env → Prop} : sat (lcStep tg c x vs d e) P E = match putT tg d e with
    | none => False
    | some e1 => sat (c e1) (fun k e2 => if k = true then sat (x e2) (fun w e3 => match w.stay with | some y => P (some y) (wipeE e3 vs) | none => False) (fun _ _ => False) else P none (wipeE e2 vs)) (fun _ _ => False) := by
  unfold lcStep
  cases putT tg d e with
  | none => rfl
  | some e1 =>
    show sat (match c e1 with | .ok false e2 => _ | .ok true e2 => _ | _ => _) P E = sat (c e1) _ _
    cases c e1 with
    | ok k e2 =>
      cases k with
      | false => rfl
      | true =>
        show sat (match x e2 with | .ok w e3 => _ | _ => _) P E = sat (x e2) _ _
        cases x e2 with
        | ok w e3 =>
          show sat (match w.stay with | some y => _ | none => _) P E = match w.stay with | some y => _ | none => _
          cases w.stay <;> rfl
        | exc x e3 => rfl
        | bad => rfl
    | exc x e2 => rfl
    | bad => rfl
theorem sat_lcGo {α : Type} {tg : Tg} {c : M Bool} {x : M Vw} {vs : List Nat} {g : α → D} {xs : List α} {P : List D → Env → Prop} {E : Ex → Env → Prop} {e : Env} (hl : xs.length ≤ LIM) (I : List α → List D → Env → Prop) (h0 : I [] [] e)
    (hs : ∀ pre y post acc e, xs = pre ++ y :: post → I pre acc e → sat (lcStep tg c x vs (g y) e) (fun o e' => I (pre ++ [y]) (acc ++ o.toList) e') (fun _ _ => False)) (he : ∀ acc e, I xs acc e → P acc e) : sat (lcGo tg c x vs (xs.map g) [] e) P E := by
  have go : ∀ (post pre : List α) (acc : List D) (e : Env), xs = pre ++ post → acc.length ≤ pre.length → I pre acc e → sat (lcGo tg c x vs (post.map g) acc e) P E := by
    intro post
    induction post with
    | nil =>
      intro pre acc e hx _ hi
      rw [List.append_nil] at hx
      subst hx
      exact he acc e hi
    | cons y post ih =>
      intro pre acc e hx ha hi
      have h := hs pre y post acc e hx hi
      have hlen : pre.length + (post.length + 1) ≤ LIM := by rw [hx] at hl; simpa using hl
      rw [sat_lcStep] at h
      show sat (match putT tg (g y) e with | none => Res.bad | some e1 => _) P E
      cases ht : putT tg (g y) e with
      | none => rw [ht] at h; exact h.elim
      | some e1 =>
        rw [ht] at h
        show sat (match c e1 with | .ok false e2 => _ | .ok true e2 => _ | _ => _) P E
        have h : sat (c e1) _ _ := h
        cases hc : c e1 with
        | ok k e2 =>
          rw [hc] at h
          cases k with
          | false =>
            have h : I (pre ++ [y]) (acc ++ []) (wipeE e2 vs) := h
            rw [List.append_nil] at h
            exact ih (pre ++ [y]) acc _ (by rw [hx, List.append_assoc]; rfl) (by simp; omega) h
          | true =>
            show sat (match x e2 with | .ok w e3 => _ | _ => _) P E
            have h : sat (x e2) _ _ := h
            cases hx2 : x e2 with
            | ok w e3 =>
              rw [hx2] at h
              show sat (match w.stay with | some y => _ | none => _) P E
              have h : (match w.stay with | some y => _ | none => False) := h
              cases hw : w.stay with
              | none => rw [hw] at h; exact h.elim
              | some z =>
                rw [hw] at h
                show sat ((if acc.length < LIM then _ else _) : Res _) P E
                rw [if_pos (by omega)]
                exact ih (pre ++ [y]) (acc ++ [z]) _ (by rw [hx, List.append_assoc]; rfl) (by simp; omega) h
            | exc x e3 => rw [hx2] at h; exact h.elim
            | bad => rw [hx2] at h; exact h.elim
        | exc x e2 => rw [hc] at h; exact h.elim
        | bad => rw [hc] at h; exact h.elim
  exact go xs [] [] e rfl (Nat.le_refl _) h0
theorem sat_eLc {it : M (List D)} {tg : Tg} {c : M Bool} {x : M Vw} {vs : List Nat} {e : Env} {P : Vw → Env → Prop} {E : Ex → Env → Prop} : sat (eLc it tg c x vs e) P E = sat (it e) (fun ds e => freeAt e vs = true ∧ sat (lcGo tg c x vs ds [] (wipeE e vs)) (fun ys e' => P (.f (.l ys)) (backE e e' vs)) fun _ _ => False) E := by
  unfold eLc
  rw [sat_bnd]
  congr
  funext ds e1
  show sat (if _ then _ else _) P E = _
  by_cases h : freeAt e1 vs = true
  · rw [if_pos h]
    cases lcGo tg c x vs ds [] (wipeE e1 vs) with
    | ok ys e2 => exact propext ⟨fun z => ⟨h, z⟩, fun z => z.2⟩
    | exc x e2 => exact propext ⟨fun z => z.elim, fun z => z.2⟩
    | bad => exact propext ⟨fun z => z.elim, fun z => z.2⟩
  · rw [if_neg h]
    exact propext ⟨fun z => z.elim, fun z => h z.1⟩
/-- one element of any or all -/
def gxStep (tg : Tg) (x : M Vw) (vs : List Nat) (d : D) : M Bool := fun e => match putT tg d e with
    | none => .bad
    | some e1 => match x e1 with
      | .ok (.d (.bl b)) e3 => .ok b (wipeE e3 vs)
      | _ => .bad
theorem sat_gxStep {tg : Tg} {x : M Vw} {vs : List Nat} {d : D} {e : Env} {P : Bool → Env → Prop} {E : Ex → Env → Prop} : sat (gxStep tg x vs d e) P E = match putT tg d e with
    | none => False
    | some e1 => sat (x e1) (fun w e3 => match w with | .d (.bl b) => P b (wipeE e3 vs) | _ => False) (fun _ _ => False) := by
  unfold gxStep
  cases putT tg d e with
  | none => rfl
  | some e1 =>
    show sat (match x e1 with | .ok (.d (.bl b)) e3 => _ | _ => _) P E = sat (x e1) _ _
    cases x e1 with
    | ok w e3 =>
      cases w with
      | d d => cases d <;> rfl
      | o i => rfl
      | f c => rfl
    | exc x e3 => rfl
    | bad => rfl
/-- elements that leave all as it was -/
theorem sat_gxGo {α : Type} {st : Bool} {tg : Tg} {x : M Vw} {vs : List Nat} {g : α → D} {xs : List α} {P : Bool → Env → Prop} {E : Ex → Env → Prop} {e : Env} (f : α → Bool)
    (hs : ∀ y, y ∈ xs → sat (gxStep tg x vs (g y) e) (fun b e' => b = f y ∧ e' = e) (fun _ _ => False)) (he : P (if st then xs.any f else xs.all f) e) : sat (gxGo st tg x vs (xs.map g) e) P E := by
  induction xs with
  | nil =>
    show P (!st) e
    cases st <;> simpa using he
  | cons y ys ih =>
    have h := hs y (List.mem_cons_self ..)
    rw [sat_gxStep] at h
    show sat (match putT tg (g y) e with | none => Res.bad | some e1 => _) P E
    cases ht : putT tg (g y) e with
    | none => rw [ht] at h; exact h.elim
    | some e1 =>
      rw [ht] at h
      show sat (match x e1 with | .ok (.d (.bl b)) e3 => _ | _ => _) P E
      have h : sat (x e1) _ _ := h
      cases hx : x e1 with
      | ok w e3 =>
        rw [hx] at h
        cases w with
        | d d =>
          cases d with
          | bl b =>
            obtain ⟨rfl, h2⟩ := h
            show sat (if f y = st then _ else _) P E
            rw [h2]
            by_cases hb : f y = st
            · rw [if_pos hb]
              show P st e
              cases st <;> simpa [hb] using he
            · rw [if_neg hb]
              refine ih (fun z hz => hs z (List.mem_cons_of_mem _ hz)) ?_
              cases st <;> simp_all
          | _ => exact h.elim
        | o i => exact h.elim
        | f c => exact h.elim
      | exc x e3 => rw [hx] at h; exact h.elim
      | bad => rw [hx] at h; exact h.elim
theorem sat_eGx {st : Bool} {it : M (List D)} {tg : Tg} {x : M Vw} {vs : List Nat} {e : Env} {P : Vw → Env → Prop} {E : Ex → Env → Prop} : sat (eGx st it tg x vs e) P E = sat (it e) (fun ds e => freeAt e vs = true ∧ sat (gxGo st tg x vs ds (wipeE e vs)) (fun b e' => P (.d (.bl b)) (backE e e' vs)) fun _ _ => False) E := by
  unfold eGx
  rw [sat_bnd]
  congr
  funext ds e1
  show sat (if _ then _ else _) P E = _
  by_cases h : freeAt e1 vs = true
  · rw [if_pos h]
    cases gxGo st tg x vs ds (wipeE e1 vs) with
    | ok ys e2 => exact propext ⟨fun z => ⟨h, z⟩, fun z => z.2⟩
    | exc x e2 => exact propext ⟨fun z => z.elim, fun z => z.2⟩
    | bad => exact propext ⟨fun z => z.elim, fun z => z.2⟩
  · rw [if_neg h]
    exact propext ⟨fun z => z.elim, fun z => h z.1⟩
theorem sat_ownL {i : Nat} {e : Env} {P : List D → Env → Prop} {E : Ex → Env → Prop} : sat (ownL i e) P E = match getO i e with | some (.l ds) => P ds e | _ => False := by
  unfold ownL
  cases getO i e with
  | none => rfl
  | some c => cases c <;> rfl
theorem sat_ownN {i : Nat} {c : Ct} {e : Env} {P : Fl → Env → Prop} {E : Ex → Env → Prop} : sat (ownN i c e) P E = match e[i]? with
    | some .no => P .nx (e.set i (.own c))
    | some (.dat _) => P .nx (e.set i (.own c))
    | some (.own _) => P .nx (e.set i (.own c))
    | _ => False := by
  unfold ownN
  cases e[i]? with
  | none => rfl
  | some s => cases s <;> rfl
theorem sat_datM {i : Nat} {e : Env} {P : D → Env → Prop} {E : Ex → Env → Prop} : sat (datM i e) P E = match e[i]? with
    | some (.dat d) => P d e
    | _ => False := by
  unfold datM
  cases e[i]? with
  | none => rfl
  | some s => cases s <;> rfl
theorem sat_iR1 {a : M Vw} {e : Env} {P : List D → Env → Prop} {E : Ex → Env → Prop} : sat (iR1 a e) P E = sat (a e) (fun w e => sat (nowM w e) (fun d e => match d with | .int j => bigI j = true ∧ P (intsL 0 j.toNat) e | _ => False) E) E := by
  unfold iR1
  rw [sat_bnd]
  congr
  funext w e1
  rw [sat_bnd]
  congr
  funext d e2
  cases d with
  | int j =>
    show sat ((if bigI j = true then ret (intsL 0 j.toNat) else optM none) e2) P E = _
    rw [sat_iteM]
    by_cases h : bigI j = true
    · rw [if_pos h]; exact propext ⟨fun z => ⟨h, z⟩, fun z => z.2⟩
    · rw [if_neg h]; exact propext ⟨fun z => z.elim, fun z => h z.1⟩
  | _ => rfl
theorem sat_iR2 {a b : M Vw} {e : Env} {P : List D → Env → Prop} {E : Ex → Env → Prop} : sat (iR2 a b e) P E = sat (a e) (fun w e => sat (b e) (fun u e => sat (nowM w e) (fun d e => sat (nowM u e) (fun c e => match d, c with | .int i, .int j => (bigI i && bigI j) = true ∧ P (intsL i (j - i).toNat) e | _, _ => False) E) E) E) E := by
  unfold iR2
  rw [sat_bnd]
  congr
  funext w e1
  rw [sat_bnd]
  congr
  funext u e1
  rw [sat_bnd]
  congr
  funext d e2
  rw [sat_bnd]
  congr
  funext c e3
  cases d with
  | int i =>
    cases c with
    | int j =>
      show sat ((if (bigI i && bigI j) = true then ret (intsL i (j - i).toNat) else optM none) e3) P E = _
      rw [sat_iteM]
      by_cases h : (bigI i && bigI j) = true
      · rw [if_pos h]; exact propext ⟨fun z => ⟨h, z⟩, fun z => z.2⟩
      · rw [if_neg h]; exact propext ⟨fun z => z.elim, fun z => h z.1⟩
    | _ => rfl
  | _ => rfl
theorem sat_sItem {o i v : M Vw} {e : Env} {P : Fl → Env → Prop} {E : Ex → Env → Prop} : sat (sItem o i v e) P E = sat (v e) (fun u e => sat (o e) (fun w e => sat (i e) (fun z e => sat (optM (viewI w) e) (fun k e => sat (stayM u e) (fun d e => sat (nowM z e) (fun n e => sat (ownL k e) (fun ds e => match n with
    | .int m => match ixI ds.length m with | some j => P .nx (setO k (.l (ds.set j d)) e) | none => False
    | _ => False) E) E) E) E) E) E) E := by
  unfold sItem
  rw [sat_bnd]; congr; funext u e1
  rw [sat_bnd]; congr; funext w e2
  rw [sat_bnd]; congr; funext z e3
  rw [sat_bnd]; congr; funext k e4
  rw [sat_bnd]; congr; funext d e5
  rw [sat_bnd]; congr; funext n e6
  rw [sat_bnd]; congr; funext ds e7
  cases n with
  | int m =>
    show sat ((match ixI ds.length m with | some j => bnd (putL k (ds.set j d)) fun _ => ret Fl.nx | none => optM none) e7) P E = (match ixI ds.length m with | some j => P .nx (setO k (.l (ds.set j d)) e7) | none => False)
    cases ixI ds.length m <;> rfl
  | _ => rfl
theorem sat_sAug {i : Nat} {v : M Vw} {e : Env} {P : Fl → Env → Prop} {E : Ex → Env → Prop} : sat (sAug i v e) P E = sat (datM i e) (fun d e => sat (v e) (fun u e => sat (nowM u e) (fun c e => sat (optM (addD d c) e) (fun w e => match w with | .d (.int z) => sat (putM (.nm i) (.int z) e) P E | _ => False) E) E) E) E := by
  unfold sAug
  rw [sat_bnd]; congr; funext u e1
  rw [sat_bnd]; congr; funext w e2
  rw [sat_bnd]; congr; funext z e3
  rw [sat_bnd]; congr; funext k e4
  cases k with
  | d x => cases x <;> rfl
  | o i => rfl
  | f c => rfl
theorem sat_sRaise {x : Str} {fs : List Str} {ok : List D → Bool} {as : List (M Vw)} {e : Env} {P : Fl → Env → Prop} {E : Ex → Env → Prop} : sat (sRaise x fs ok as e) P E = sat (eArgs as e) (fun ws e => sat (optM (stays ws) e) (fun ds e => ok ds = true ∧ E ⟨x, fs.zip ds⟩ e) E) E := by
  unfold sRaise
  rw [sat_bnd]; congr; funext u e1
  rw [sat_bnd]; congr; funext ds e2
  show sat (if ok ds = true then _ else _) P E = _
  by_cases h : ok ds = true
  · rw [if_pos h]; exact propext ⟨fun z => ⟨h, z⟩, fun z => z.2⟩
  · rw [if_neg h]; exact propext ⟨fun z => z.elim, fun z => h z.1⟩
theorem sat_sTry {b s : M Fl} {ok : Str → Option Bool} {n : Option Nat} {e : Env} {P : Fl → Env → Prop} {E : Ex → Env → Prop} : sat (sTry b ok n s e) P E = sat (b e) P fun x e' => match ok x.cls with
    | none => False
    | some false => E x e'
    | some true => match n with
      | none => sat (afterS none (s e')) P E
      | some i => match e'[i]? with
        | some .no => sat (afterS (some i) (s (e'.set i (.ex x)))) P E
        | _ => False := by
  unfold sTry
  cases b e with
  | ok f e' => rfl
  | bad => rfl
  | exc x e' =>
    show sat (match ok x.cls with | none => _ | some false => _ | some true => _) P E = (match ok x.cls with | none => _ | some false => _ | some true => _)
    cases ok x.cls with
    | none => rfl
    | some k =>
      cases k with
      | false => rfl
      | true =>
        cases n with
        | none => rfl
        | some i =>
          show sat (match e'[i]? with | some .no => afterS (some i) (s (e'.set i (.ex x))) | _ => .bad) P E = (match e'[i]? with | some .no => sat (afterS (some i) (s (e'.set i (.ex x)))) P E | _ => False)
          cases e'[i]? with
          | none => rfl
          | some s => cases s <;> rfl
theorem sat_after {n : Option Nat} {r : Res Fl} {P : Fl → Env → Prop} {E : Ex → Env → Prop} : sat (afterS n r) P E = sat r (fun f e => match n with
    | none => (exFree e && okFl f) = true ∧ P f e
    | some i => (exFree (e.set i .no) && okFl f) = true ∧ P f (e.set i .no)) fun _ _ => False := by
  unfold afterS
  cases r with
  | ok f e =>
    cases n with
    | none =>
      show sat (if (exFree e && okFl f) = true then _ else _) P E = (_ ∧ _)
      by_cases h : (exFree e && okFl f) = true
      · rw [if_pos h]; exact propext ⟨fun z => ⟨h, z⟩, fun z => z.2⟩
      · rw [if_neg h]; exact propext ⟨fun z => z.elim, fun z => h z.1⟩
    | some i =>
      show sat (if (exFree (e.set i .no) && okFl f) = true then _ else _) P E = (_ ∧ _)
      by_cases h : (exFree (e.set i .no) && okFl f) = true
      · rw [if_pos h]; exact propext ⟨fun z => ⟨h, z⟩, fun z => z.2⟩
      · rw [if_neg h]; exact propext ⟨fun z => z.elim, fun z => h z.1⟩
  | exc x e => rfl
  | bad => rfl
theorem sat_sFor {it : M (List D)} {tg : Tg} {b : M Fl} {e : Env} {P : Fl → Env → Prop} {E : Ex → Env → Prop} : sat (sFor it tg b e) P E = sat (it e) (fun ds e => sat (forL tg b ds e) P E) E := by
  unfold sFor
  rw [sat_bnd]
class Kwt (α : Type) where
  P : α → Env → Prop
class Kwe where
  E : Ex → Env → Prop
class KwtF where
  P : Vw → List Ct → Prop
class KweF where
  E : Ex → List Ct → Prop
@[irreducible] def st {α : Type} (r : Res α) [c : Kwt α] [q : Kwe] : Prop := sat r c.P q.E
@[irreducible] def fst' (r : FRes) [c : KwtF] [q : KweF] : Prop := fsat r c.P q.E
section
variable {α β : Type} {e : Env} {a : α} {c : Kwt α} {d : Kwt β} {q : Kwe}
theorem sat_st {r : Res α} {P : α → Env → Prop} {E : Ex → Env → Prop} : sat r P E = @st α r ⟨P⟩ ⟨E⟩ := by with_unfolding_all exact rfl
theorem fsat_st {r : FRes} {P : Vw → List Ct → Prop} {E : Ex → List Ct → Prop} : fsat r P E = @fst' r ⟨P⟩ ⟨E⟩ := by with_unfolding_all exact rfl
theorem st_ok : @st α (.ok a e) c q = c.P a e := by with_unfolding_all exact rfl
theorem st_exc {x : Ex} : @st α (.exc x e) c q = q.E x e := by with_unfolding_all exact rfl
theorem st_bad : @st α .bad c q = False := by with_unfolding_all exact rfl
theorem fst_ret {c : KwtF} {q : KweF} {w : Vw} {cs : List Ct} : @fst' (.ret w cs) c q = c.P w cs := by with_unfolding_all exact rfl
theorem fst_exc {c : KwtF} {q : KweF} {w : Ex} {cs : List Ct} : @fst' (.exc w cs) c q = q.E w cs := by with_unfolding_all exact rfl
theorem st_ret : @st α (ret a e) c q = c.P a e := by with_unfolding_all exact rfl
theorem st_bnd {m : M β} {k : β → M α} : @st α (bnd m k e) c q = @st β (m e) ⟨fun a e' => @st α (k a e') c q⟩ q := by with_unfolding_all exact sat_bnd
theorem st_optS : @st α (optM (some a) e) c q = c.P a e := by with_unfolding_all exact rfl
theorem st_optN : @st α (optM (none : Option α) e) c q = False := by with_unfolding_all exact rfl
theorem st_optI {p : Prop} [Decidable p] {o : Option α} : @st α (optM (if p then o else none) e) c q = (p ∧ @st α (optM o e) c q) := by with_unfolding_all exact sat_optI
theorem st_optMap {o : Option β} {f : β → α} : @st α (optM (o.map f) e) c q = @st β (optM o e) ⟨fun b e => c.P (f b) e⟩ q := by with_unfolding_all exact sat_optMap
theorem st_optBind {o : Option β} {f : β → Option α} : @st α (optM (o.bind f) e) c q = @st β (optM o e) ⟨fun b e => @st α (optM (f b) e) c q⟩ q := by with_unfolding_all exact sat_optBind
theorem st_iteB {k : Bool} {m n : M α} : @st α ((if k = true then m else n) e) c q = ((k = true → @st α (m e) c q) ∧ (k = false → @st α (n e) c q)) := by with_unfolding_all exact sat_iteB
end
section
variable {e : Env} {a b x y : M Vw} {c : Kwt Vw} {cb : Kwt Bool} {cd : Kwt D} {cl : Kwt (List D)} {cf : Kwt Fl} {q : Kwe} {t u : M Bool}
theorem st_now_d {d : D} : @st D (nowM (.d d) e) cd q = cd.P d e := by with_unfolding_all exact rfl
theorem st_now_f {d : Ct} : @st D (nowM (.f d) e) cd q = cd.P d.toD e := by with_unfolding_all exact rfl
theorem st_now_o {i : Nat} : @st D (nowM (.o i) e) cd q = match getO i e with | some k => cd.P k.toD e | none => False := by
  with_unfolding_all
      show sat (match (getO i e).map Ct.toD with | some d => _ | none => _) _ _ = _
      cases getO i e <;> rfl
theorem st_stay_d {d : D} : @st D (stayM (.d d) e) cd q = cd.P d e := by with_unfolding_all exact rfl
theorem st_stay_f {d : Ct} : @st D (stayM (.f d) e) cd q = cd.P d.toD e := by with_unfolding_all exact rfl
theorem st_eC {d : D} : @st Vw (eC d e) c q = c.P (.d d) e := by with_unfolding_all exact rfl
theorem st_eV {i : Nat} : @st Vw (eV i e) c q = match rdS i e[i]? with | some w => c.P w e | none => False := by with_unfolding_all exact sat_eV
theorem st_eU {f : D → Option Vw} : @st Vw (eU f a e) c q = @st Vw (a e) ⟨fun w e => @st D (nowM w e) ⟨fun d e => @st Vw (optM (f d) e) c q⟩ q⟩ q := by
  with_unfolding_all
      unfold eU
      rw [st_bnd]; congr; funext w e1
      rw [st_bnd]
theorem st_eB {f : D → D → Option Vw} : @st Vw (eB f a b e) c q = @st Vw (a e) ⟨fun w e => @st Vw (b e) ⟨fun u e => @st D (nowM w e) ⟨fun d e => @st D (nowM u e) ⟨fun k e => @st Vw (optM (f d k) e) c q⟩ q⟩ q⟩ q⟩ q := by
  with_unfolding_all
      unfold eB
      rw [st_bnd]; congr; funext w e1
      rw [st_bnd]; congr; funext w e1
      rw [st_bnd]; congr; funext w e1
      rw [st_bnd]
theorem st_tB {f : D → D → Option Bool} : @st Bool (tB f a b e) cb q = @st Vw (a e) ⟨fun w e => @st Vw (b e) ⟨fun u e => @st D (nowM w e) ⟨fun d e => @st D (nowM u e) ⟨fun k e => @st Bool (optM (f d k) e) cb q⟩ q⟩ q⟩ q⟩ q := by
  with_unfolding_all
      unfold tB
      rw [st_bnd]; congr; funext w e1
      rw [st_bnd]; congr; funext w e1
      rw [st_bnd]; congr; funext w e1
      rw [st_bnd]
theorem st_truM {w : Vw} : @st Bool (truM w e) cb q = @st D (nowM w e) ⟨fun d e => @st Bool (optM (tru d) e) cb q⟩ q := by
  with_unfolding_all
      unfold truM
      rw [st_bnd]
theorem st_tE : @st Bool (tE a e) cb q = @st Vw (a e) ⟨fun w e => @st Bool (truM w e) cb q⟩ q := by
  with_unfolding_all
      unfold tE
      rw [st_bnd]
theorem st_tNot : @st Bool (tNot t e) cb q = @st Bool (t e) ⟨fun k e => cb.P (!k) e⟩ q := by
  with_unfolding_all
      unfold tNot
      rw [st_bnd]
      rfl
theorem st_tAnd : @st Bool (tAnd t u e) cb q = @st Bool (t e) ⟨fun k e => (k = true → @st Bool (u e) cb q) ∧ (k = false → cb.P false e)⟩ q := by
  with_unfolding_all
      unfold tAnd
      rw [st_bnd]; congr; funext k e1
      exact st_iteB
theorem st_tOr : @st Bool (tOr t u e) cb q = @st Bool (t e) ⟨fun k e => (k = true → cb.P true e) ∧ (k = false → @st Bool (u e) cb q)⟩ q := by
  with_unfolding_all
      unfold tOr
      rw [st_bnd]; congr; funext k e1
      exact st_iteB
theorem st_eAnd : @st Vw (eAnd a b e) c q = @st Vw (a e) ⟨fun w e => @st Bool (truM w e) ⟨fun k e => (k = true → @st Vw (b e) c q) ∧ (k = false → c.P w.dull e)⟩ q⟩ q := by
  with_unfolding_all
      unfold eAnd
      rw [st_bnd]; congr; funext k e1
      rw [st_bnd]; congr; funext k e1
      exact st_iteB
theorem st_eOr : @st Vw (eOr a b e) c q = @st Vw (a e) ⟨fun w e => @st Bool (truM w e) ⟨fun k e => (k = true → c.P w.dull e) ∧ (k = false → @st Vw (b e) c q)⟩ q⟩ q := by
  with_unfolding_all
      unfold eOr
      rw [st_bnd]; congr; funext k e1
      rw [st_bnd]; congr; funext k e1
      exact st_iteB
theorem st_eNot : @st Vw (eNot a e) c q = @st Vw (a e) ⟨fun w e => @st Bool (truM w e) ⟨fun k e => c.P (.d (.bl !k)) e⟩ q⟩ q := by
  with_unfolding_all
      unfold eNot
      rw [st_bnd]; congr; funext k e1
      rw [st_bnd]; rfl
theorem st_eIf : @st Vw (eIf t a b e) c q = @st Bool (t e) ⟨fun k e => (k = true → @st Vw (a e) c q) ∧ (k = false → @st Vw (b e) c q)⟩ q := by
  with_unfolding_all
      unfold eIf
      rw [st_bnd]; congr; funext k e1
      exact st_iteB
theorem st_tCh {f g : D → D → Option Bool} {z : M Vw} : @st Bool (tCh f g a b z e) cb q = @st Vw (a e) ⟨fun w e => @st Vw (b e) ⟨fun u e => @st D (nowM w e) ⟨fun d e => @st D (nowM u e) ⟨fun v e => @st Bool (optM (f d v) e) ⟨fun k e => (k = true → @st Vw (z e) ⟨fun z e => @st D (nowM u e) ⟨fun v e => @st D (nowM z e) ⟨fun y e => @st Bool (optM (g v y) e) cb q⟩ q⟩ q⟩ q) ∧ (k = false → cb.P false e)⟩ q⟩ q⟩ q⟩ q⟩ q := by
  with_unfolding_all
      unfold tCh
      rw [st_bnd]; congr; funext w e1
      rw [st_bnd]; congr; funext w e1
      rw [st_bnd]; congr; funext w e1
      rw [st_bnd]; congr; funext w e1
      rw [st_bnd]; congr; funext k e1
      rw [st_iteB]
      refine congr (congrArg And (implies_congr rfl ?_)) rfl
      rw [st_bnd]; congr; funext w e1
      rw [st_bnd]; congr; funext w e1
      rw [st_bnd]
theorem st_args0 {ca : Kwt (List Vw)} : @st (List Vw) (eArgs [] e) ca q = ca.P [] e := by with_unfolding_all exact rfl
theorem st_args1 {ca : Kwt (List Vw)} {as : List (M Vw)} : @st (List Vw) (eArgs (a :: as) e) ca q = @st Vw (a e) ⟨fun w e => @st (List Vw) (eArgs as e) ⟨fun ws e => ca.P (w :: ws) e⟩ q⟩ q := by
  with_unfolding_all
      unfold eArgs
      rw [st_bnd]; congr; funext w e1
      rw [st_bnd]; rfl
theorem st_guard {p : Prop} [Decidable p] {w : Vw} : @st Vw ((if p then ret w else optM none) e) c q = (p ∧ c.P w e) := by
  with_unfolding_all
      by_cases h : p
      · rw [if_pos h]; exact propext ⟨fun z => ⟨h, z⟩, fun z => z.2⟩
      · rw [if_neg h]; exact propext ⟨fun z => z.elim, fun z => h z.1⟩
theorem st_eTup {as : List (M Vw)} : @st Vw (eTup as e) c q = @st (List Vw) (eArgs as e) ⟨fun ws e => @st (List D) (optM (stays ws) e) ⟨fun ds e => ds.length < LIM ∧ c.P (.d (.tup ds)) e⟩ q⟩ q := by
  with_unfolding_all
      unfold eTup
      rw [st_bnd]; congr; funext w e1
      rw [st_bnd]; congr; funext ds e1
      exact st_guard
theorem st_eLst {as : List (M Vw)} : @st Vw (eLst as e) c q = @st (List Vw) (eArgs as e) ⟨fun ws e => @st (List D) (optM (stays ws) e) ⟨fun ds e => ds.length < LIM ∧ c.P (.f (.l ds)) e⟩ q⟩ q := by
  with_unfolding_all
      unfold eLst
      rw [st_bnd]; congr; funext w e1
      rw [st_bnd]; congr; funext ds e1
      exact st_guard
theorem st_intM {co : Kwt (Option Int)} : @st (Option Int) (intM a e) co q = @st Vw (a e) ⟨fun w e => @st D (nowM w e) ⟨fun d e => match d with | .int i => co.P (some i) e | _ => False⟩ q⟩ q := by
  with_unfolding_all
      unfold intM
      rw [st_bnd]; congr; funext w e1
      rw [st_bnd]; congr; funext d e1
      cases d <;> rfl
theorem st_eSl {lo hi : M (Option Int)} : @st Vw (eSl a lo hi e) c q = @st Vw (a e) ⟨fun w e => @st (Option Int) (lo e) ⟨fun l e => @st (Option Int) (hi e) ⟨fun h e => @st D (nowM w e) ⟨fun d e => @st Vw (optM (slD l h d) e) c q⟩ q⟩ q⟩ q⟩ q := by
  with_unfolding_all
      unfold eSl
      rw [st_bnd]; congr; funext w e1
      rw [st_bnd]; congr; funext w e1
      rw [st_bnd]; congr; funext w e1
      rw [st_bnd]
theorem st_ownL {i : Nat} : @st (List D) (ownL i e) cl q = match getO i e with | some (.l ds) => cl.P ds e | _ => False := by with_unfolding_all exact sat_ownL
theorem st_putL {i : Nat} {ds : List D} {cu : Kwt Unit} : @st Unit (putL i ds e) cu q = cu.P () (setO i (.l ds) e) := by with_unfolding_all exact rfl
theorem st_recv {cn : Kwt Nat} : @st Nat (recv a e) cn q = @st Vw (a e) ⟨fun w e => match viewI w with | some i => (match getO i e with | some (.l ds) => cn.P i e | _ => False) | none => False⟩ q := by
  with_unfolding_all
      unfold recv
      rw [st_bnd]; congr; funext w e1
      rw [st_bnd]
      cases viewI w with
      | none => rfl
      | some i =>
        rw [st_optS]
        show @st Nat (bnd _ _ e1) cn q = _
        rw [st_bnd, st_ownL]
        show (match getO i e1 with | some (.l ds) => cn.P i e1 | _ => False) = (match getO i e1 with | some (.l ds) => cn.P i e1 | _ => False)
        rfl
theorem st_eApp : @st Vw (eApp a b e) c q = @st Nat (recv a e) ⟨fun i e => @st Vw (b e) ⟨fun u e => @st D (stayM u e) ⟨fun d e => @st (List D) (ownL i e) ⟨fun ds e => ds.length < LIM ∧ c.P (.d .non) (setO i (.l (ds ++ [d])) e)⟩ q⟩ q⟩ q⟩ q := by
  with_unfolding_all
      unfold eApp
      rw [st_bnd]; congr; funext w e1
      rw [st_bnd]; congr; funext w e1
      rw [st_bnd]; congr; funext w e1
      rw [st_bnd]; congr; funext ds e1
      by_cases h : ds.length < LIM
      · rw [if_pos h]; exact propext ⟨fun z => ⟨h, z⟩, fun z => z.2⟩
      · rw [if_neg h]; exact propext ⟨fun z => z.elim, fun z => h z.1⟩
theorem st_ePop : @st Vw (ePop a e) c q = @st Nat (recv a e) ⟨fun i e => @st (List D) (ownL i e) ⟨fun ds e => @st D (optM ds.getLast? e) ⟨fun d e => c.P (.d d) (setO i (.l ds.dropLast) e)⟩ q⟩ q⟩ q := by
  with_unfolding_all
      unfold ePop
      rw [st_bnd]; congr; funext w e1
      rw [st_bnd]; congr; funext w e1
      rw [st_bnd]; rfl
theorem st_eRev : @st Vw (eRev a e) c q = @st Nat (recv a e) ⟨fun i e => @st (List D) (ownL i e) ⟨fun ds e => c.P (.d .non) (setO i (.l ds.reverse) e)⟩ q⟩ q := by
  with_unfolding_all
      unfold eRev
      rw [st_bnd]; congr; funext w e1
      rw [st_bnd]; rfl
theorem st_eExt : @st Vw (eExt a b e) c q = @st Nat (recv a e) ⟨fun i e => @st Vw (b e) ⟨fun u e => @st D (stayM u e) ⟨fun d e => @st (List D) (optM (UbP.listOf d) e) ⟨fun xs e => @st (List D) (ownL i e) ⟨fun ds e => ds.length + xs.length ≤ LIM ∧ c.P (.d .non) (setO i (.l (ds ++ xs)) e)⟩ q⟩ q⟩ q⟩ q⟩ q := by
  with_unfolding_all
      unfold eExt
      rw [st_bnd]; congr; funext w e1
      rw [st_bnd]; congr; funext w e1
      rw [st_bnd]; congr; funext w e1
      rw [st_bnd]; congr; funext w e1
      rw [st_bnd]; congr; funext ds e1
      by_cases h : ds.length + w.length ≤ LIM
      · rw [if_pos h]; exact propext ⟨fun z => ⟨h, z⟩, fun z => z.2⟩
      · rw [if_neg h]; exact propext ⟨fun z => z.elim, fun z => h z.1⟩
theorem st_callB {f : Fn} {ms : List Bool} {dv : List D} {ws : List Vw} : @st Vw (callB f ms dv ws e) c q = match mkArgs ms ws e with
    | none => False
    | some args => nodup (ownIx ms ws ++ lookIx ms ws) = true ∧ @fst' (f (args ++ dv.map .dat))
      ⟨fun w cs => passOk (lookIx ms ws) w cs = true ∧ match putBack ms ws cs e with | some e' => c.P w e' | none => False⟩
       ⟨fun x cs => (lookIx ms ws).isEmpty = true ∧ match putBack ms ws cs e with | some e' => q.E x e' | none => False⟩ := by with_unfolding_all exact sat_callB
theorem st_eCall {f : Fn} {ms : List Bool} {dv : List D} {as : List (M Vw)} : @st Vw (eCall f ms as dv e) c q = @st (List Vw) (eArgs as e) ⟨fun ws e => @st Vw (callB f ms dv ws e) c q⟩ q := by with_unfolding_all exact st_bnd
theorem fst_run {k : Nat} {b : M Fl} {args : List Sl} {c : KwtF} {q : KweF} : @fst' (run k b args) c q = @st Fl (b (args ++ List.replicate k .no))
    ⟨fun f e => match f with
      | .nx => c.P (.d .non) (pars e)
      | .rt (.d d) => c.P (.d d) (pars e)
      | .rt (.f k) => c.P (.f k) (pars e)
      | _ => False⟩
     ⟨fun x e => q.E x (pars e)⟩ := by with_unfolding_all exact fsat_run
theorem st_sSeq {a b : M Fl} : @st Fl (sSeq a b e) cf q = @st Fl (a e) ⟨fun f e' => match f with
    | .nx => @st Fl (b e') cf q
    | f => cf.P f e'⟩ q := by with_unfolding_all exact sat_sSeq
theorem st_sRet : @st Fl (sRet a e) cf q = @st Vw (a e) ⟨fun w e => match w with
    | .d d => cf.P (.rt (.d d)) e
    | .f c => cf.P (.rt (.f c)) e
    | .o i => match e[i]? with
      | some (.own κ) => cf.P (.rt (.f κ)) (e.set i .no)
      | _ => False⟩ q := by with_unfolding_all exact sat_sRet
theorem st_sNx : @st Fl (sNx e) cf q = cf.P .nx e := by with_unfolding_all exact rfl
theorem st_sBk : @st Fl (sBk e) cf q = cf.P .bk e := by with_unfolding_all exact rfl
theorem st_sCt : @st Fl (sCt e) cf q = cf.P .ct e := by with_unfolding_all exact rfl
theorem st_sRetN : @st Fl (sRetN e) cf q = cf.P (.rt (.d .non)) e := by with_unfolding_all exact rfl
theorem st_sIf {m n : M Fl} : @st Fl (sIf t m n e) cf q = @st Bool (t e) ⟨fun k e => (k = true → @st Fl (m e) cf q) ∧ (k = false → @st Fl (n e) cf q)⟩ q := by
  with_unfolding_all
      unfold sIf
      rw [st_bnd]; congr; funext k e1
      exact st_iteB
theorem st_putM {tg : Tg} {d : D} : @st Fl (putM tg d e) cf q = match putT tg d e with | some e' => cf.P .nx e' | none => False := by with_unfolding_all exact sat_putM
theorem st_sSet {i : Nat} : @st Fl (sSet i a e) cf q = @st Vw (a e) ⟨fun w e => @st D (stayM w e) ⟨fun d e => @st Fl (putM (.nm i) d e) cf q⟩ q⟩ q := by
  with_unfolding_all
      unfold sSet
      rw [st_bnd]; congr; funext k e1
      rw [st_bnd]
theorem st_sAsg {tg : Tg} : @st Fl (sAsg tg a e) cf q = @st Vw (a e) ⟨fun w e => @st D (stayM w e) ⟨fun d e => @st Fl (putM tg d e) cf q⟩ q⟩ q := by
  with_unfolding_all
      unfold sAsg
      rw [st_bnd]; congr; funext k e1
      rw [st_bnd]
theorem st_ownN {i : Nat} {k : Ct} : @st Fl (ownN i k e) cf q = match e[i]? with
    | some .no => cf.P .nx (e.set i (.own k))
    | some (.dat _) => cf.P .nx (e.set i (.own k))
    | some (.own _) => cf.P .nx (e.set i (.own k))
    | _ => False := by with_unfolding_all exact sat_ownN
theorem st_sOwn {i : Nat} : @st Fl (sOwn i a e) cf q = @st Vw (a e) ⟨fun w e => @st Ct (optM (newC w) e) ⟨fun d e => @st Fl (ownN i d e) cf q⟩ q⟩ q := by
  with_unfolding_all
      unfold sOwn
      rw [st_bnd]; congr; funext k e1
      rw [st_bnd]
theorem st_frz {i : Nat} {b : M Fl} : @st Fl (frz i b e) cf q = match frzE i e with | some e' => @st Fl (b e') cf q | none => False := by with_unfolding_all exact sat_frz
theorem st_sPar {i j : Nat} : @st Fl (sPar i j a b e) cf q = @st Vw (a e) ⟨fun w e => @st Vw (b e) ⟨fun u e => @st D (stayM w e) ⟨fun d e => @st D (stayM u e) ⟨fun k e => @st Fl (putM (.nm i) d e) ⟨fun _ e => @st Fl (putM (.nm j) k e) cf q⟩ q⟩ q⟩ q⟩ q⟩ q := by
  with_unfolding_all
      unfold sPar
      rw [st_bnd]; congr; funext w e1
      rw [st_bnd]; congr; funext w e1
      rw [st_bnd]; congr; funext w e1
      rw [st_bnd]; congr; funext w e1
      rw [st_bnd]
theorem st_sEx : @st Fl (sEx a e) cf q = @st Vw (a e) ⟨fun _ e => cf.P .nx e⟩ q := by
  with_unfolding_all
      unfold sEx
      rw [st_bnd]; rfl
theorem st_sItem {o i v : M Vw} : @st Fl (sItem o i v e) cf q = @st Vw (v e) ⟨fun u e => @st Vw (o e) ⟨fun w e => @st Vw (i e) ⟨fun z e => @st Nat (optM (viewI w) e) ⟨fun k e => @st D (stayM u e) ⟨fun d e => @st D (nowM z e) ⟨fun n e => @st (List D) (ownL k e) ⟨fun ds e => match n with
    | .int m => match ixI ds.length m with | some j => cf.P .nx (setO k (.l (ds.set j d)) e) | none => False
    | _ => False⟩ q⟩ q⟩ q⟩ q⟩ q⟩ q⟩ q := by with_unfolding_all exact sat_sItem
theorem st_sSlc {o i j v : M Vw} : @st Fl (sSlc o i j v e) cf q = @st Vw (v e) ⟨fun u e => @st Vw (o e) ⟨fun w e => @st Vw (i e) ⟨fun a e => @st Vw (j e) ⟨fun b e => @st Nat (optM (viewI w) e) ⟨fun k e => @st D (stayM u e) ⟨fun d e => @st (List D) (optM (UbP.listOf d) e) ⟨fun es e => @st D (nowM a e) ⟨fun x e => @st D (nowM b e) ⟨fun y e => @st (List D) (ownL k e) ⟨fun ds e => match x, y with
    | .int i, .int j => (0 ≤ i ∧ i ≤ j ∧ j ≤ ds.length ∧ ds.length + es.length ≤ LIM) ∧ cf.P .nx (setO k (.l (ds.take i.toNat ++ es ++ ds.drop j.toNat)) e)
    | _, _ => False⟩ q⟩ q⟩ q⟩ q⟩ q⟩ q⟩ q⟩ q⟩ q⟩ q := by
  unfold sSlc
  rw [st_bnd]; congr; funext u e1
  rw [st_bnd]; congr; funext w e1
  rw [st_bnd]; congr; funext a e1
  rw [st_bnd]; congr; funext b e1
  rw [st_bnd]; congr; funext k e1
  rw [st_bnd]; congr; funext d e1
  rw [st_bnd]; congr; funext es e1
  rw [st_bnd]; congr; funext x e1
  rw [st_bnd]; congr; funext y e1
  rw [st_bnd]; congr; funext ds e1
  with_unfolding_all
      cases x with
      | int i =>
        cases y with
        | int j =>
          dsimp only
          by_cases h : 0 ≤ i ∧ i ≤ j ∧ j ≤ ds.length ∧ ds.length + es.length ≤ LIM
          · rw [if_pos h]; exact propext ⟨fun z => ⟨h, z⟩, fun z => z.2⟩
          · rw [if_neg h]; exact propext ⟨fun z => z.elim, fun z => h z.1⟩
        | _ => rfl
      | _ => rfl
theorem st_sAgI {o i v : M Vw} : @st Fl (sAgI o i v e) cf q = @st Vw (o e) ⟨fun w e => @st Vw (i e) ⟨fun z e => @st Nat (optM (viewI w) e) ⟨fun k e => @st D (nowM z e) ⟨fun n e => @st Int (optM (intOf n) e) ⟨fun m e => @st (List D) (ownL k e) ⟨fun ds e => @st Int (optM ((atL ds m).bind intOf) e) ⟨fun a e => @st Vw (v e) ⟨fun u e => @st D (nowM u e) ⟨fun c e => @st Int (optM (intOf c) e) ⟨fun b e => @st (List D) (ownL k e) ⟨fun es e => @st Nat (optM (ixI es.length m) e) ⟨fun j e => cf.P .nx (setO k (.l (es.set j (.int (a + b)))) e)⟩ q⟩ q⟩ q⟩ q⟩ q⟩ q⟩ q⟩ q⟩ q⟩ q⟩ q⟩ q := by
  unfold sAgI
  rw [st_bnd]; congr; funext w e1
  rw [st_bnd]; congr; funext z e1
  rw [st_bnd]; congr; funext k e1
  rw [st_bnd]; congr; funext n e1
  rw [st_bnd]; congr; funext m e1
  rw [st_bnd]; congr; funext ds e1
  rw [st_bnd]; congr; funext a e1
  rw [st_bnd]; congr; funext u e1
  rw [st_bnd]; congr; funext c e1
  rw [st_bnd]; congr; funext b e1
  rw [st_bnd]; congr; funext es e1
  rw [st_bnd]; congr; funext j e1
  with_unfolding_all rfl
theorem int_of (i : Int) : intOf (.int i) = some i := rfl
theorem st_datM {i : Nat} : @st D (datM i e) cd q = match e[i]? with
    | some (.dat d) => cd.P d e
    | _ => False := by with_unfolding_all exact sat_datM
theorem st_sAug {i : Nat} {v : M Vw} : @st Fl (sAug i v e) cf q = @st D (datM i e) ⟨fun d e => @st Vw (v e) ⟨fun u e => @st D (nowM u e) ⟨fun k e => @st Vw (optM (addD d k) e) ⟨fun w e => match w with | .d (.int z) => @st Fl (putM (.nm i) (.int z) e) cf q | _ => False⟩ q⟩ q⟩ q⟩ q := by with_unfolding_all exact sat_sAug
theorem st_sRaise {x : Str} {fs : List Str} {ok : List D → Bool} {as : List (M Vw)} : @st Fl (sRaise x fs ok as e) cf q = @st (List Vw) (eArgs as e) ⟨fun ws e => @st (List D) (optM (stays ws) e) ⟨fun ds e => ok ds = true ∧ q.E ⟨x, fs.zip ds⟩ e⟩ q⟩ q := by with_unfolding_all exact sat_sRaise
theorem st_after {n : Option Nat} {r : Res Fl} : @st Fl (afterS n r) cf q = @st Fl r ⟨fun f e => match n with
    | none => (exFree e && okFl f) = true ∧ cf.P f e
    | some i => (exFree (e.set i .no) && okFl f) = true ∧ cf.P f (e.set i .no)⟩ ⟨fun _ _ => False⟩ := by with_unfolding_all exact sat_after
theorem st_sTry {b s : M Fl} {ok : Str → Option Bool} {n : Option Nat} : @st Fl (sTry b ok n s e) cf q = @st Fl (b e) ⟨cf.P⟩ ⟨fun x e' => match ok x.cls with
    | none => False
    | some false => q.E x e'
    | some true => match n with
      | none => @st Fl (afterS none (s e')) cf q
      | some i => match e'[i]? with
        | some .no => @st Fl (afterS (some i) (s (e'.set i (.ex x)))) cf q
        | _ => False⟩ := by with_unfolding_all exact sat_sTry
theorem st_sFor {it : M (List D)} {tg : Tg} {b : M Fl} : @st Fl (sFor it tg b e) cf q = @st (List D) (it e) ⟨fun ds e => @st Fl (forL tg b ds e) cf q⟩ q := by with_unfolding_all exact sat_sFor
theorem st_turn {tg : Tg} {d : D} {b : M Fl} : @st Fl (turn tg d b e) cf q = match putT tg d e with | some e1 => @st Fl (b e1) cf q | none => False := by with_unfolding_all exact sat_turn
theorem st_lcStep {tg : Tg} {t : M Bool} {x : M Vw} {vs : List Nat} {d : D} {co : Kwt (Option D)} : @st (Option D) (lcStep tg t x vs d e) co q = match putT tg d e with
    | none => False
    | some e1 => @st Bool (t e1) ⟨fun k e2 => (k = true → @st Vw (x e2) ⟨fun w e3 => match w.stay with | some y => co.P (some y) (wipeE e3 vs) | none => False⟩ ⟨fun _ _ => False⟩) ∧ (k = false → co.P none (wipeE e2 vs))⟩ ⟨fun _ _ => False⟩ := by
  with_unfolding_all
      unfold st
      rw [sat_lcStep]
      cases putT tg d e with
      | none => rfl
      | some e1 =>
        show sat (t e1) _ _ = sat (t e1) _ _
        congr
        funext k e2
        cases k
        · exact propext ⟨fun h => ⟨fun z => by simp at z, fun _ => h⟩, fun h => h.2 rfl⟩
        · exact propext ⟨fun h => ⟨fun _ => h, fun z => by simp at z⟩, fun h => h.1 rfl⟩
theorem st_gxStep {tg : Tg} {x : M Vw} {vs : List Nat} {d : D} : @st Bool (gxStep tg x vs d e) cb q = match putT tg d e with
    | none => False
    | some e1 => @st Vw (x e1) ⟨fun w e3 => match w with | .d (.bl b) => cb.P b (wipeE e3 vs) | _ => False⟩ ⟨fun _ _ => False⟩ := by with_unfolding_all exact sat_gxStep
theorem st_eLc {it : M (List D)} {tg : Tg} {t : M Bool} {x : M Vw} {vs : List Nat} : @st Vw (eLc it tg t x vs e) c q = @st (List D) (it e) ⟨fun ds e => freeAt e vs = true ∧ @st (List D) (lcGo tg t x vs ds [] (wipeE e vs)) ⟨fun ys e' => c.P (.f (.l ys)) (backE e e' vs)⟩ ⟨fun _ _ => False⟩⟩ q := by with_unfolding_all exact sat_eLc
theorem st_eGx {st' : Bool} {it : M (List D)} {tg : Tg} {x : M Vw} {vs : List Nat} : @st Vw (eGx st' it tg x vs e) c q = @st (List D) (it e) ⟨fun ds e => freeAt e vs = true ∧ @st Bool (gxGo st' tg x vs ds (wipeE e vs)) ⟨fun b e' => c.P (.d (.bl b)) (backE e e' vs)⟩ ⟨fun _ _ => False⟩⟩ q := by with_unfolding_all exact sat_eGx
theorem st_iE : @st (List D) (iE a e) cl q = @st Vw (a e) ⟨fun w e => @st D (stayM w e) ⟨fun d e => @st (List D) (optM (walkD d) e) cl q⟩ q⟩ q := by
  with_unfolding_all
      unfold iE
      rw [st_bnd]; congr; funext w e1
      rw [st_bnd]
theorem st_iR1 : @st (List D) (iR1 a e) cl q = @st Vw (a e) ⟨fun w e => @st D (nowM w e) ⟨fun d e => match d with | .int j => bigI j = true ∧ cl.P (intsL 0 j.toNat) e | _ => False⟩ q⟩ q := by with_unfolding_all exact sat_iR1
theorem st_iR2 : @st (List D) (iR2 a b e) cl q = @st Vw (a e) ⟨fun w e => @st Vw (b e) ⟨fun u e => @st D (nowM w e) ⟨fun d e => @st D (nowM u e) ⟨fun k e => match d, k with | .int i, .int j => (bigI i && bigI j) = true ∧ cl.P (intsL i (j - i).toNat) e | _, _ => False⟩ q⟩ q⟩ q⟩ q := by with_unfolding_all exact sat_iR2
theorem st_iEn : @st (List D) (iEn a e) cl q = @st Vw (a e) ⟨fun w e => @st D (stayM w e) ⟨fun d e => @st (List D) (optM (UbP.seqOf d) e) ⟨fun ds e => cl.P (enumF ds) e⟩ q⟩ q⟩ q := by
  with_unfolding_all
      unfold iEn
      rw [st_bnd]; congr; funext w e1
      rw [st_bnd]; congr; funext w e1
      rw [st_bnd]; rfl
theorem st_iZ : @st (List D) (iZ a b e) cl q = @st Vw (a e) ⟨fun w e => @st Vw (b e) ⟨fun u e => @st D (stayM w e) ⟨fun d e => @st D (stayM u e) ⟨fun k e => @st (List D) (optM (UbP.seqOf d) e) ⟨fun ds e => @st (List D) (optM (UbP.seqOf k) e) ⟨fun cs e => cl.P (List.zipWith (fun x y => .tup [x, y]) ds cs) e⟩ q⟩ q⟩ q⟩ q⟩ q⟩ q := by
  with_unfolding_all
      unfold iZ
      rw [st_bnd]; congr; funext w e1
      rw [st_bnd]; congr; funext w e1
      rw [st_bnd]; congr; funext w e1
      rw [st_bnd]; congr; funext w e1
      rw [st_bnd]; congr; funext w e1
      rw [st_bnd]; rfl
theorem st_iZ3 {d : M Vw} : @st (List D) (iZ3 a b d e) cl q = @st Vw (a e) ⟨fun w e => @st Vw (b e) ⟨fun u e => @st Vw (d e) ⟨fun v e => @st D (stayM w e) ⟨fun d e => @st D (stayM u e) ⟨fun k e => @st D (stayM v e) ⟨fun j e => @st (List D) (optM (UbP.listOf d) e) ⟨fun ds e => @st (List D) (optM (UbP.listOf k) e) ⟨fun cs e => @st (List D) (optM (UbP.listOf j) e) ⟨fun bs e => cl.P (zip3 ds cs bs) e⟩ q⟩ q⟩ q⟩ q⟩ q⟩ q⟩ q⟩ q⟩ q := by
  with_unfolding_all
      unfold iZ3
      rw [st_bnd]; congr; funext w e1
      rw [st_bnd]; congr; funext w e1
      rw [st_bnd]; congr; funext w e1
      rw [st_bnd]; congr; funext w e1
      rw [st_bnd]; congr; funext w e1
      rw [st_bnd]; congr; funext w e1
      rw [st_bnd]; congr; funext w e1
      rw [st_bnd]; congr; funext w e1
      rw [st_bnd]; rfl
theorem st_iRv : @st (List D) (iRv a e) cl q = @st Vw (a e) ⟨fun w e => @st D (stayM w e) ⟨fun d e => @st (List D) (optM (UbP.listOf d) e) ⟨fun ds e => cl.P ds.reverse e⟩ q⟩ q⟩ q := by
  with_unfolding_all
      unfold iRv
      rw [st_bnd]; congr; funext w e1
      rw [st_bnd]; congr; funext w e1
      rw [st_bnd]; rfl
end
section
variable {e : Env} {c : Kwt Vw} {cf : Kwt Fl} {q : Kwe}
theorem st_newB {x : Str} {f : Fn} {ms : List Bool} {dv : List D} {ws : List Vw} : @st Vw (newB x f ms dv ws e) c q = @st Vw (callB f (true :: ms) dv (.o e.length :: ws) (e ++ [.own (.o x [])]))
    ⟨fun w e' => w = .d .non ∧ match e'[e.length]? with | some (.own k) => c.P (.f k) (e'.take e.length) | _ => False⟩ ⟨fun x e' => q.E x (e'.take e.length)⟩ := by
  with_unfolding_all
      unfold newB st sat
      cases callB f (true :: ms) dv (.o e.length :: ws) (e ++ [.own (.o x [])]) with
      | bad => rfl
      | exc x e' => rfl
      | ok w e' =>
        cases w with
        | d d =>
          cases d with
          | non =>
            dsimp only
            cases e'[e.length]? with
            | none => simp
            | some s => cases s <;> simp
          | _ => simp
        | _ => simp
theorem st_eNew {x : Str} {f : Fn} {ms : List Bool} {as ks : List (M Vw)} {dv : List D} : @st Vw (eNew x f ms as ks dv e) c q = @st (List Vw) (eArgs as e) ⟨fun ws e => @st (List Vw) (eArgs ks e) ⟨fun zs e => @st Vw (newB x f ms dv (ws ++ zs) e) c q⟩ q⟩ q := by
  unfold eNew
  rw [st_bnd]; congr; funext ws e1
  rw [st_bnd]
theorem st_ownO {i : Nat} {co : Kwt (Str × List (Str × D))} : @st (Str × List (Str × D)) (ownO i e) co q = match getO i e with | some (.o x fs) => co.P (x, fs) e | _ => False := by
  with_unfolding_all
      unfold ownO st sat
      cases getO i e with
      | none => rfl
      | some k => cases k <;> rfl
theorem st_sFld {cs : List Str} {f : Str} {o v : M Vw} : @st Fl (sFld cs f o v e) cf q = @st Vw (v e) ⟨fun u e => @st Vw (o e) ⟨fun w e => @st Nat (optM (viewI w) e) ⟨fun k e => @st D (stayM u e) ⟨fun d e => @st (Str × List (Str × D)) (ownO k e) ⟨fun p e => (cs.contains p.1 = true ∧ p.2.length < 1000) ∧ cf.P .nx (setO k (.o p.1 (putFD f d p.2)) e)⟩ q⟩ q⟩ q⟩ q⟩ q := by
  unfold sFld
  rw [st_bnd]; congr; funext u e1
  rw [st_bnd]; congr; funext w e2
  rw [st_bnd]; congr; funext k e3
  rw [st_bnd]; congr; funext d e4
  rw [st_bnd]; congr; funext p e5
  with_unfolding_all
      by_cases h : cs.contains p.1 = true ∧ p.2.length < 1000
      · rw [if_pos h]; exact propext ⟨fun z => ⟨h, z⟩, fun z => z.2⟩
      · rw [if_neg h]; exact propext ⟨fun z => z.elim, fun z => h z.1⟩
end
end UbP
namespace UbP
open PySem UbM
def rD (r : Rat) : D := .tup [.int r.num, .int (r.den : Int)]
abbrev rsD (l : List Rat) : D := .lst (l.map rD)
section
variable {α : Type}
theorem atL_nat (xs : List α) (k : Nat) : atL xs (k : Int) = xs[k]? := by
  unfold atL ixI
  rw [if_pos (Int.natCast_nonneg k)]
  by_cases h : k < xs.length
  · rw [if_pos (by omega)]; rfl
  · rw [if_neg (by omega), List.getElem?_eq_none (by omega)]; rfl
theorem atL0 (xs : List α) : atL xs 0 = xs[0]? := atL_nat xs 0
theorem atL1 (xs : List α) : atL xs 1 = xs[1]? := atL_nat xs 1
theorem atL2 (xs : List α) : atL xs 2 = xs[2]? := atL_nat xs 2
theorem atL3 (xs : List α) : atL xs 3 = xs[3]? := atL_nat xs 3
theorem atL4 (xs : List α) : atL xs 4 = xs[4]? := atL_nat xs 4
theorem atL5 (xs : List α) : atL xs 5 = xs[5]? := atL_nat xs 5
theorem ixI_nat {n k : Nat} (h : k < n) : ixI n (k : Int) = some k := by
  unfold ixI
  rw [if_pos (Int.natCast_nonneg k), if_pos (by omega)]
  rfl
theorem ixI0 {n : Nat} : ixI (n + 1) 0 = some 0 := ixI_nat (k := 0) (by omega)
theorem ixI1 {n : Nat} : ixI (n + 1 + 1) 1 = some 1 := ixI_nat (k := 1) (by omega)
theorem ixI2 {n : Nat} : ixI (n + 1 + 1 + 1) 2 = some 2 := ixI_nat (k := 2) (by omega)
theorem ixI3 {n : Nat} : ixI (n + 1 + 1 + 1 + 1) 3 = some 3 := ixI_nat (k := 3) (by omega)
end
theorem ix_r0 (r : Rat) : ixD (rD r) (.int 0) = some (.d (.int r.num)) := rfl
theorem ix_r1 (r : Rat) : ixD (rD r) (.int 1) = some (.d (.int (r.den : Int))) := rfl
theorem ix_lst (ds : List D) (i : Int) : ixD (.lst ds) (.int i) = (atL ds i).map .d := rfl
theorem ix_lsf (ds : List D) (i : Int) : ixD (.lsf ds) (.int i) = (atL ds i).map .d := rfl
theorem ix_tup (ds : List D) (i : Int) : ixD (.tup ds) (.int i) = (atL ds i).map .d := rfl
theorem len_lst (ds : List D) : lenD (.lst ds) = some (.d (.int (ds.length : Nat))) := rfl
theorem len_lsf (ds : List D) : lenD (.lsf ds) = some (.d (.int (ds.length : Nat))) := rfl
theorem len_tup (ds : List D) : lenD (.tup ds) = some (.d (.int (ds.length : Nat))) := rfl
theorem len_r (r : Rat) : lenD (rD r) = some (.d (.int 2)) := rfl
theorem eq_int (a b : Int) : eqD (.int a) (.int b) = some (decide (a = b)) := by
  show some (a == b) = _
  by_cases h : a = b
  · subst h; simp
  · simp [h]
theorem ne_int (a b : Int) : neD (.int a) (.int b) = some (!decide (a = b)) := by
  unfold neD; rw [eq_int]; rfl
theorem eq_str (a b : Str) : eqD (.str a) (.str b) = some (decide (a = b)) := by
  show some (a == b) = _
  by_cases h : a = b
  · subst h; simp
  · simp [h]
theorem ne_str (a b : Str) : neD (.str a) (.str b) = some (!decide (a = b)) := by
  unfold neD; rw [eq_str]; rfl
theorem eq_bl (a b : Bool) : eqD (.bl a) (.bl b) = some (decide (a = b)) := by
  show some (a == b) = _
  congr 1
theorem ne_bl (a b : Bool) : neD (.bl a) (.bl b) = some (!decide (a = b)) := by
  unfold neD; rw [eq_bl]; rfl
theorem eq_in (a : Int) : eqD (.int a) .non = some false := rfl
theorem eq_ni (a : Int) : eqD .non (.int a) = some false := rfl
theorem eq_nn : eqD .non .non = some true := rfl
theorem ne_in (a : Int) : neD (.int a) .non = some true := rfl
theorem ne_ni (a : Int) : neD .non (.int a) = some true := rfl
theorem ne_nn : neD .non .non = some false := rfl
theorem shAll_map {α : Type} {g : α → D} {n : Nat} : ∀ (l : List α), (∀ x ∈ l, sh (g x) n = true) → shAll (l.map g) n = true
  | [], _ => rfl
  | x :: l, h => by
    rw [List.map_cons]
    unfold shAll
    rw [h x (List.mem_cons_self ..), shAll_map l fun y hy => h y (List.mem_cons_of_mem _ hy)]
    rfl
theorem sh_r (r : Rat) (n : Nat) : sh (rD r) (n + 1) = true := by
  unfold rD
  simp [sh, shAll]
theorem sh_rs (l : List Rat) (n : Nat) : sh (rsD l) (n + 2) = true := by
  unfold rsD
  simp only [sh, Nat.add_one_sub_one, Nat.zero_lt_succ, decide_true, Bool.true_and]
  exact shAll_map l fun r _ => sh_r r n
theorem rat_ext {r s : Rat} (h : r.num = s.num) (k : r.den = s.den) : r = s := Rat.ext h k
theorem eqv_r (r s : Rat) : eqv (rD r) (rD s) = decide (r = s) := by
  unfold rD
  simp only [eqv, eqvAll, Bool.and_true]
  by_cases h : r = s
  · subst h; simp
  · rw [decide_eq_false h]
    by_cases h1 : r.num = s.num
    · have h2 : r.den ≠ s.den := fun k => h (rat_ext h1 k)
      rw [h1]
      simp only [beq_self_eq_true, Bool.true_and]
      exact beq_eq_false_iff_ne.mpr (by omega)
    · simp [h1]
theorem eqv_rs : ∀ (l m : List Rat), eqvAll (l.map rD) (m.map rD) = decide (l = m)
  | [], [] => rfl
  | [], _ :: _ => by simp [eqvAll]
  | _ :: _, [] => by simp [eqvAll]
  | r :: l, s :: m => by
    simp only [List.map_cons, eqvAll, eqv_r, eqv_rs l m, List.cons.injEq, Bool.decide_and]
theorem eq_r (r s : Rat) : eqD (rD r) (rD s) = some (decide (r = s)) := by
  unfold eqD
  rw [sh_r, sh_r, eqv_r]
  simp
theorem ne_r (r s : Rat) : neD (rD r) (rD s) = some (!decide (r = s)) := by
  unfold neD; rw [eq_r]; rfl
theorem eq_rs (l m : List Rat) : eqD (rsD l) (rsD m) = some (decide (l = m)) := by
  unfold eqD
  rw [sh_rs l 58, sh_rs m 58]
  show (if _ then some (eqvAll (l.map rD) (m.map rD)) else none) = _
  rw [eqv_rs]
  simp
theorem ne_rs (l m : List Rat) : neD (rsD l) (rsD m) = some (!decide (l = m)) := by
  unfold neD; rw [eq_rs]; rfl
theorem mul_sm2 {i j : Int} (h : j.natAbs < 2 ^ 64) : (smI i || smI j || decide (UbP.log2 i + UbP.log2 j < 900000)) = true := by
  unfold smI
  rw [decide_eq_true h, Bool.or_true]; rfl
theorem ints0 (n : Nat) : intsL 0 n = (List.range n).map fun k => .int (k : Nat) := by
  unfold intsL
  congr
  funext k
  rw [Int.zero_add]
/-- a loop without memory: comprehension whose elements leave all as it was -/
theorem lc_map {α : Type} {tg : Tg} {c : M Bool} {x : M Vw} {vs : List Nat} {g : α → D} {xs : List α} {e : Env} {k : Kwt (List D)} {q : Kwe} (F : α → D) (hl : xs.length ≤ LIM)
    (hs : ∀ y, y ∈ xs → @st (Option D) (lcStep tg c x vs (g y) e) ⟨fun o e' => o = some (F y) ∧ e' = e⟩ ⟨fun _ _ => False⟩) (he : k.P (xs.map F) e) : @st (List D) (lcGo tg c x vs (xs.map g) [] e) k q := by
  with_unfolding_all
    refine sat_lcGo hl (fun pre acc e' => acc = pre.map F ∧ e' = e) ⟨rfl, rfl⟩ (fun pre y post acc e' hx ⟨ha, he'⟩ => ?_) (fun acc e' ⟨ha, he'⟩ => ?_)
    · subst ha
      subst he'
      refine sat_mono (hs y (by rw [hx]; simp)) (fun o e2 ⟨h1, h2⟩ => ?_) (fun _ _ z => z)
      subst h1
      subst h2
      exact ⟨by simp, rfl⟩
    · subst ha
      subst he'
      exact he
theorem gx_all {α : Type} {tg : Tg} {x : M Vw} {vs : List Nat} {g : α → D} {xs : List α} {e : Env} {k : Kwt Bool} {q : Kwe} (f : α → Bool)
    (hs : ∀ y, y ∈ xs → @st Bool (gxStep tg x vs (g y) e) ⟨fun b e' => b = f y ∧ e' = e⟩ ⟨fun _ _ => False⟩) (he : k.P (xs.all f) e) : @st Bool (gxGo false tg x vs (xs.map g) e) k q := by with_unfolding_all exact sat_gxGo f hs he
theorem gx_any {α : Type} {tg : Tg} {x : M Vw} {vs : List Nat} {g : α → D} {xs : List α} {e : Env} {k : Kwt Bool} {q : Kwe} (f : α → Bool)
    (hs : ∀ y, y ∈ xs → @st Bool (gxStep tg x vs (g y) e) ⟨fun b e' => b = f y ∧ e' = e⟩ ⟨fun _ _ => False⟩) (he : k.P (xs.any f) e) : @st Bool (gxGo true tg x vs (xs.map g) e) k q := by with_unfolding_all exact sat_gxGo f hs he
theorem for_inv {α : Type} {tg : Tg} {b : M Fl} {g : α → D} {e : Env} {xs : List α} {k : Kwt Fl} {q : Kwe} (I : List α → Env → Prop) (h0 : I [] e)
    (hs : ∀ pre x post e, xs = pre ++ x :: post → I pre e → @st Fl (turn tg (g x) b e) ⟨goOn (I (pre ++ [x])) k.P⟩ q) (he : ∀ e, I xs e → k.P .nx e) : @st Fl (forL tg b (xs.map g) e) k q := by with_unfolding_all exact sat_forL I h0 hs he
theorem lc_inv {α : Type} {tg : Tg} {c : M Bool} {x : M Vw} {vs : List Nat} {g : α → D} {xs : List α} {e : Env} {k : Kwt (List D)} {q : Kwe} (hl : xs.length ≤ LIM) (I : List α → List D → Env → Prop) (h0 : I [] [] e)
    (hs : ∀ pre y post acc e, xs = pre ++ y :: post → I pre acc e → @st (Option D) (lcStep tg c x vs (g y) e) ⟨fun o e' => I (pre ++ [y]) (acc ++ o.toList) e'⟩ ⟨fun _ _ => False⟩) (he : ∀ acc e, I xs acc e → k.P acc e) : @st (List D) (lcGo tg c x vs (xs.map g) [] e) k q := by with_unfolding_all exact sat_lcGo hl I h0 hs he
theorem st_mono {α : Type} {r : Res α} {c c' : Kwt α} {q q' : Kwe} (h : @st α r c q) (i : ∀ a e, c.P a e → c'.P a e) (j : ∀ x e, q.E x e → q'.E x e) : @st α r c' q' := by with_unfolding_all exact sat_mono h i j
theorem whl_inv {t : M Bool} {b : M Fl} {k : Kwt Fl} {q : Kwe} {e : Env} {n : Nat} (I : Env → Prop) (μ : Env → Nat) (h0 : I e) (hn : μ e < n)
    (hs : ∀ e, I e → @st Bool (t e) ⟨fun r e1 => (r = true → @st Fl (b e1) ⟨goOn (fun e2 => I e2 ∧ μ e2 < μ e) k.P⟩ q) ∧ (r = false → k.P .nx e1)⟩ q) : @st Fl (whl t b n e) k q := by with_unfolding_all exact sat_whl I μ hs n e h0 hn
def jk : Option D → Sl
  | none => .no
  | some d => .dat d
def putOk : Sl → Bool
  | .no => true
  | .dat _ => true
  | .own _ => true
  | _ => false
theorem putOk_no : putOk .no = true := rfl
theorem putOk_dat (d : D) : putOk (.dat d) = true := rfl
theorem putOk_own (d : Ct) : putOk (.own d) = true := rfl
theorem putOk_jk (d : Option D) : putOk (jk d) = true := by cases d <;> rfl
theorem isDat_jk (d : Option D) : isDat (jk d) = true := by cases d <;> rfl
theorem isDat_no : isDat .no = true := rfl
theorem isDat_dat (d : D) : isDat (.dat d) = true := rfl
theorem putN_eq (i : Nat) (d : D) (e : Env) : putN i d e = match e[i]? with | some s => (if putOk s = true then some (e.set i (.dat d)) else none) | none => none := by
  unfold putN
  cases e[i]? with
  | none => rfl
  | some s => cases s <;> rfl
theorem st_ownP {e : Env} {cf : Kwt Fl} {q : Kwe} {i : Nat} {k : Ct} : @st Fl (ownN i k e) cf q = match e[i]? with | some s => (putOk s = true ∧ cf.P .nx (e.set i (.own k))) | none => False := by
  rw [st_ownN]
  cases e[i]? with
  | none => rfl
  | some s => cases s <;> simp [putOk]
theorem pars_jk (d : Option D) (e : Env) : pars (jk d :: e) = pars e := by cases d <;> rfl
theorem pars_no (e : Env) : pars (.no :: e) = pars e := rfl
theorem pars_dat (d : D) (e : Env) : pars (.dat d :: e) = pars e := rfl
theorem pars_own (d : Ct) (e : Env) : pars (.own d :: e) = pars e := rfl
theorem pars_par (d : Ct) (e : Env) : pars (.par d :: e) = d :: pars e := rfl
theorem pars_nilW : pars [] = [] := rfl
def exF1 : Sl → Bool
  | .ex _ => false
  | _ => true
theorem exFree_nil : exFree [] = true := rfl
theorem exFree_cons (s : Sl) (e : Env) : exFree (s :: e) = (exF1 s && exFree e) := by
  unfold exFree
  rw [List.all_cons]
  cases s <;> rfl
theorem exF1_no : exF1 .no = true := rfl
theorem exF1_dat (d : D) : exF1 (.dat d) = true := rfl
theorem exF1_own (d : Ct) : exF1 (.own d) = true := rfl
theorem exF1_par (d : Ct) : exF1 (.par d) = true := rfl
theorem exF1_jk (d : Option D) : exF1 (jk d) = true := by cases d <;> rfl
theorem lim_le {n : Nat} (h : n ≤ 1000000) : n ≤ LIM := h
theorem fsat_out {r : FRes} {R : Vw → List Ct → Prop} (h : fsat r R fun _ _ => False) : ∃ w cs, r = .ret w cs ∧ R w cs := by
  with_unfolding_all
    cases r with
    | ret w cs => exact ⟨w, cs, rfl, h⟩
    | exc x cs => exact h.elim
    | bad => exact h.elim
theorem getD_ok {α : Type} {l : List α} {k : Nat} {d : α} (h : k < l.length) : l[k]? = some (l.getD k d) := by
  rw [List.getD_eq_getElem?_getD, List.getElem?_eq_getElem h]; rfl
theorem wk_lst (ds : List D) : walkD (.lst ds) = some ds := rfl
theorem ls_lst (ds : List D) : listD (.lst ds) = some (.f (.l ds)) := rfl
theorem tr_lst (ds : List D) : tru (.lst ds) = some (!ds.isEmpty) := rfl
theorem tp_lst (ds : List D) : tupD (.lst ds) = some (.d (.tup ds)) := rfl
theorem rv_lst (ds : List D) : revD (.lst ds) = some (.f (.l ds.reverse)) := rfl
theorem sl_lst (ds : List D) (l h : Option Int) : slD l h (.lst ds) = some (.f (.l (cut ds l h))) := rfl
theorem wk_lsf (ds : List D) : walkD (.lsf ds) = some ds := rfl
theorem ls_lsf (ds : List D) : listD (.lsf ds) = some (.f (.l ds)) := rfl
theorem tr_lsf (ds : List D) : tru (.lsf ds) = some (!ds.isEmpty) := rfl
theorem rv_lsf (ds : List D) : revD (.lsf ds) = some (.f (.l ds.reverse)) := rfl
theorem sl_lsf (ds : List D) (l h : Option Int) : slD l h (.lsf ds) = some (.f (.l (cut ds l h))) := rfl
theorem wk_tup (ds : List D) : walkD (.tup ds) = some ds := rfl
theorem ls_tup (ds : List D) : listD (.tup ds) = some (.f (.l ds)) := rfl
theorem tr_tup (ds : List D) : tru (.tup ds) = some (!ds.isEmpty) := rfl
theorem tp_tup (ds : List D) : tupD (.tup ds) = some (.d (.tup ds)) := rfl
theorem lo_lst (ds : List D) : UbP.listOf (.lst ds) = some ds := rfl
theorem tr_non  : tru .non = some false := rfl
theorem tr_bl (b : Bool) : tru (.bl b) = some b := rfl
theorem tr_int (b : Int) : tru (.int b) = some (b != 0) := rfl
theorem tr_r (b : Rat) : tru (rD b) = some true := rfl
theorem ii_non_int  : isiD "int" (.non) = some (.d (.bl false)) := rfl
theorem ii_non_bool  : isiD "bool" (.non) = some (.d (.bl false)) := rfl
theorem ii_non_str  : isiD "str" (.non) = some (.d (.bl false)) := rfl
theorem ii_non_list  : isiD "list" (.non) = some (.d (.bl false)) := rfl
theorem ii_non_tuple  : isiD "tuple" (.non) = some (.d (.bl false)) := rfl
theorem nn_non  : isNoD (.non) .non = some true := rfl
theorem nt_non  : notNoD (.non) .non = some false := rfl
theorem ii_bl_int (b : Bool) : isiD "int" (.bl b) = some (.d (.bl true)) := rfl
theorem ii_bl_bool (b : Bool) : isiD "bool" (.bl b) = some (.d (.bl true)) := rfl
theorem ii_bl_str (b : Bool) : isiD "str" (.bl b) = some (.d (.bl false)) := rfl
theorem ii_bl_list (b : Bool) : isiD "list" (.bl b) = some (.d (.bl false)) := rfl
theorem ii_bl_tuple (b : Bool) : isiD "tuple" (.bl b) = some (.d (.bl false)) := rfl
theorem nn_bl (b : Bool) : isNoD (.bl b) .non = some false := rfl
theorem nt_bl (b : Bool) : notNoD (.bl b) .non = some true := rfl
theorem ii_int_int (b : Int) : isiD "int" (.int b) = some (.d (.bl true)) := rfl
theorem ii_int_bool (b : Int) : isiD "bool" (.int b) = some (.d (.bl false)) := rfl
theorem ii_int_str (b : Int) : isiD "str" (.int b) = some (.d (.bl false)) := rfl
theorem ii_int_list (b : Int) : isiD "list" (.int b) = some (.d (.bl false)) := rfl
theorem ii_int_tuple (b : Int) : isiD "tuple" (.int b) = some (.d (.bl false)) := rfl
theorem nn_int (b : Int) : isNoD (.int b) .non = some false := rfl
theorem nt_int (b : Int) : notNoD (.int b) .non = some true := rfl
theorem ii_str_int (b : Str) : isiD "int" (.str b) = some (.d (.bl false)) := rfl
theorem ii_str_bool (b : Str) : isiD "bool" (.str b) = some (.d (.bl false)) := rfl
theorem ii_str_str (b : Str) : isiD "str" (.str b) = some (.d (.bl true)) := rfl
theorem ii_str_list (b : Str) : isiD "list" (.str b) = some (.d (.bl false)) := rfl
theorem ii_str_tuple (b : Str) : isiD "tuple" (.str b) = some (.d (.bl false)) := rfl
theorem nn_str (b : Str) : isNoD (.str b) .non = some false := rfl
theorem nt_str (b : Str) : notNoD (.str b) .non = some true := rfl
theorem ii_lst_int (b : List D) : isiD "int" (.lst b) = some (.d (.bl false)) := rfl
theorem ii_lst_bool (b : List D) : isiD "bool" (.lst b) = some (.d (.bl false)) := rfl
theorem ii_lst_str (b : List D) : isiD "str" (.lst b) = some (.d (.bl false)) := rfl
theorem ii_lst_list (b : List D) : isiD "list" (.lst b) = some (.d (.bl true)) := rfl
theorem ii_lst_tuple (b : List D) : isiD "tuple" (.lst b) = some (.d (.bl false)) := rfl
theorem nn_lst (b : List D) : isNoD (.lst b) .non = some false := rfl
theorem nt_lst (b : List D) : notNoD (.lst b) .non = some true := rfl
theorem ii_tup_int (b : List D) : isiD "int" (.tup b) = some (.d (.bl false)) := rfl
theorem ii_tup_bool (b : List D) : isiD "bool" (.tup b) = some (.d (.bl false)) := rfl
theorem ii_tup_str (b : List D) : isiD "str" (.tup b) = some (.d (.bl false)) := rfl
theorem ii_tup_list (b : List D) : isiD "list" (.tup b) = some (.d (.bl false)) := rfl
theorem ii_tup_tuple (b : List D) : isiD "tuple" (.tup b) = some (.d (.bl true)) := rfl
theorem nn_tup (b : List D) : isNoD (.tup b) .non = some false := rfl
theorem nt_tup (b : List D) : notNoD (.tup b) .non = some true := rfl
theorem ii_r_int (b : Rat) : isiD "int" (rD b) = some (.d (.bl false)) := rfl
theorem ii_r_bool (b : Rat) : isiD "bool" (rD b) = some (.d (.bl false)) := rfl
theorem ii_r_str (b : Rat) : isiD "str" (rD b) = some (.d (.bl false)) := rfl
theorem ii_r_list (b : Rat) : isiD "list" (rD b) = some (.d (.bl false)) := rfl
theorem ii_r_tuple (b : Rat) : isiD "tuple" (rD b) = some (.d (.bl true)) := rfl
theorem nn_r (b : Rat) : isNoD (rD b) .non = some false := rfl
theorem nt_r (b : Rat) : notNoD (rD b) .non = some true := rfl
theorem nn_bb (a b : Bool) : isNoD (.bl a) (.bl b) = some (decide (a = b)) := rfl
theorem nt_bb (a b : Bool) : notNoD (.bl a) (.bl b) = some (!decide (a = b)) := rfl
theorem op_add (a b : Int) : addD (.int a) (.int b) = some (.d (.int (a + b))) := rfl
theorem op_sub (a b : Int) : subD (.int a) (.int b) = some (.d (.int (a - b))) := rfl
theorem op_mul (a b : Int) : mulD (.int a) (.int b) = if smI a || smI b || decide (UbP.log2 a + UbP.log2 b < 900000) then some (.d (.int (a * b))) else none := rfl
theorem op_fdv (a b : Int) : fdivD (.int a) (.int b) = if b ≠ 0 ∧ UbP.log2 b < 9000 then some (.d (.int (a.fdiv b))) else none := rfl
theorem op_mod (a b : Int) : modD (.int a) (.int b) = if b ≠ 0 then some (.d (.int (a.fmod b))) else none := rfl
theorem op_pow (a b : Int) : powD (.int a) (.int b) = if 0 ≤ b ∧ b ≤ 100000 ∧ a.natAbs < 2 ^ 64 then some (.d (.int (a ^ b.toNat))) else none := rfl
theorem op_gcd (a b : Int) : gcdD (.int a) (.int b) = some (.d (.int (Nat.gcd a.natAbs b.natAbs : Nat))) := rfl
theorem op_lcm (a b : Int) : lcmD (.int a) (.int b) = if UbP.log2 a < 9000 ∧ UbP.log2 b < 9000 then some (.d (.int (Nat.lcm a.natAbs b.natAbs : Nat))) else none := rfl
theorem op_min (a b : Int) : minD (.int a) (.int b) = some (.d (.int (if b < a then b else a))) := rfl
theorem op_max (a b : Int) : maxD (.int a) (.int b) = some (.d (.int (if b > a then b else a))) := rfl
theorem op_lt (a b : Int) : ltD (.int a) (.int b) = some (decide (a < b)) := rfl
theorem op_le (a b : Int) : leD (.int a) (.int b) = some (decide (a ≤ b)) := rfl
theorem op_gt (a b : Int) : gtD (.int a) (.int b) = some (decide (b < a)) := rfl
theorem op_ge (a b : Int) : geD (.int a) (.int b) = some (decide (b ≤ a)) := rfl
theorem op_adds (a b : Str) : addD (.str a) (.str b) = if a.length + b.length ≤ LIM then some (.d (.str (a ++ b))) else none := rfl
theorem op_addl (a b : List D) : addD (.lst a) (.lst b) = if a.length + b.length ≤ LIM then some (.f (.l (a ++ b))) else none := rfl
theorem op_mull (a : List D) (b : Int) : mulD (.lst a) (.int b) = if b < 1000000 ∧ a.length * b.toNat ≤ LIM ∧ -1000000 < b then some (.f (.l (UbP.rep a b.toNat))) else none := rfl
theorem op_neg (a : Int) : negD (.int a) = some (.d (.int (-a))) := rfl
theorem op_abs (a : Int) : absD (.int a) = some (.d (.int (if a < 0 then -a else a))) := rfl
theorem op_int (a : Int) : intD (.int a) = some (.d (.int a)) := rfl
theorem op_intb (a : Bool) : intD (.bl a) = some (.d (.int (if a then 1 else 0))) := rfl
theorem vw_stay_d (d : D) : (Vw.d d).stay = some d := rfl
theorem vw_stay_f (c : Ct) : (Vw.f c).stay = some c.toD := rfl
theorem vw_stay_o (i : Nat) : (Vw.o i).stay = none := rfl
theorem vw_now_d (d : D) (e : Env) : (Vw.d d).now e = some d := rfl
theorem vw_now_f (c : Ct) (e : Env) : (Vw.f c).now e = some c.toD := rfl
theorem vw_now_o (i : Nat) (e : Env) : (Vw.o i).now e = (getO i e).map Ct.toD := rfl
theorem vw_dull_d (d : D) : (Vw.d d).dull = .d d := rfl
theorem vw_dull_f (c : Ct) : (Vw.f c).dull = .d c.toD := rfl
theorem vw_dull_o (i : Nat) : (Vw.o i).dull = .o i := rfl
theorem vw_new_f (c : Ct) : newC (.f c) = some c := rfl
theorem vw_view_d (d : D) : viewI (.d d) = none := rfl
theorem vw_view_f (c : Ct) : viewI (.f c) = none := rfl
theorem vw_view_o (i : Nat) : viewI (.o i) = some i := rfl
theorem vw_noL_d (d : D) : Vw.noL (.d d) = UbP.noL d := rfl
theorem vw_noL_f (c : Ct) : Vw.noL (.f c) = false := rfl
theorem toD_l (ds : List D) : Ct.toD (.l ds) = .lst ds := rfl
theorem toD_o (c : Str) (fs : List (Str × D)) : Ct.toD (.o c fs) = .obj c fs := rfl
end UbP
namespace UbM
def sumN (n : Nat) (f : Nat → Rat) : Rat := match n with
  | 0 => 0
  | k + 1 => sumN k f + f k
theorem sumN_congr {n : Nat} {f g : Nat → Rat} (h : ∀ i, i < n → f i = g i) : sumN n f = sumN n g := by
  induction n with
  | zero => rfl
  | succ n ih =>
    unfold sumN
    rw [ih fun i hi => h i (by omega), h n (by omega)]
theorem sumN_z {n : Nat} {f : Nat → Rat} (h : ∀ i, i < n → f i = 0) : sumN n f = 0 := by
  induction n with
  | zero => rfl
  | succ n ih =>
    unfold sumN
    rw [ih fun i hi => h i (by omega), h n (by omega), Rat.add_zero]
theorem sumN_add (n : Nat) (f g : Nat → Rat) : sumN n (fun i => f i + g i) = sumN n f + sumN n g := by
  induction n with
  | zero => unfold sumN; rw [Rat.add_zero]
  | succ n ih =>
    unfold sumN
    rw [ih]
    grind
theorem sumN_mul (n : Nat) (a : Rat) (f : Nat → Rat) : sumN n (fun i => a * f i) = a * sumN n f := by
  induction n with
  | zero => unfold sumN; grind
  | succ n ih =>
    unfold sumN
    rw [ih]
    grind
theorem sumN_lin (n : Nat) (a b : Rat) (f g : Nat → Rat) : sumN n (fun i => a * f i + b * g i) = a * sumN n f + b * sumN n g := by
  rw [sumN_add, sumN_mul, sumN_mul]
theorem sumN_one {n i : Nat} {f : Nat → Rat} (hi : i < n) (h : ∀ j, j < n → j ≠ i → f j = 0) : sumN n f = f i := by
  induction n with
  | zero => omega
  | succ n ih =>
    unfold sumN
    by_cases e : i = n
    · subst e
      rw [sumN_z fun j hj => h j (by omega) (by omega)]
      grind
    · rw [ih (by omega) fun j hj => h j (by omega), h n (by omega) (by omega)]
      grind
theorem mem_zipWith {α β γ : Type} {f : α → β → γ} : ∀ {a : List α} {b : List β} {z : γ}, z ∈ List.zipWith f a b → ∃ x ∈ a, ∃ y ∈ b, z = f x y
  | [], _, _, h => by simp at h
  | _ :: _, [], _, h => by simp at h
  | x :: a, y :: b, z, h => by
    rw [List.zipWith_cons_cons] at h
    rcases List.mem_cons.mp h with h | h
    · exact ⟨x, List.mem_cons_self .., y, List.mem_cons_self .., h⟩
    · obtain ⟨u, hu, v, hv, e⟩ := mem_zipWith h
      exact ⟨u, List.mem_cons_of_mem _ hu, v, List.mem_cons_of_mem _ hv, e⟩
def Fx (d B : Nat) (x : Rat) : Prop := 0 < d ∧ ∃ N : Int, x = Rat.divInt N d ∧ N.natAbs ≤ B
theorem Fx.mono {d B C : Nat} {x : Rat} (h : Fx d B x) (k : B ≤ C) : Fx d C x := ⟨h.1, by
  obtain ⟨N, e, hN⟩ := h.2
  exact ⟨N, e, by omega⟩⟩
theorem Fx.add {d B C : Nat} {x y : Rat} (h : Fx d B x) (k : Fx d C y) : Fx d (B + C) (x + y) := by
  obtain ⟨h0, N, rfl, hN⟩ := h
  obtain ⟨_, M, rfl, hM⟩ := k
  refine ⟨h0, N + M, ?_, by omega⟩
  have hd : (d : Int) ≠ 0 := by omega
  rw [Rat.divInt_add_divInt _ _ hd hd, ← Int.add_mul, Rat.divInt_mul_right hd]
theorem Fx.up {d B k : Nat} {x : Rat} (h : Fx d B x) (hk : 0 < k) : Fx (d * k) (B * k) x := by
  obtain ⟨h0, N, rfl, hN⟩ := h
  refine ⟨Nat.mul_pos h0 hk, N * k, ?_, ?_⟩
  · rw [Int.natCast_mul, Rat.divInt_mul_right (by omega)]
  · rw [Int.natAbs_mul, Int.natAbs_natCast]
    exact Nat.mul_le_mul_right _ hN
def Fk (k : Nat) (x : Rat) : Prop := Fx (12 ^ k) (48 ^ k) x
theorem Fk.succ {k : Nat} {x : Rat} (h : Fk k x) : Fk (k + 1) x := by
  unfold Fk
  rw [Nat.pow_succ, Nat.pow_succ]
  exact (Fx.up h (by decide)).mono (Nat.mul_le_mul_left _ (by decide))
theorem Fk.mono {k n : Nat} {x : Rat} (h : Fk k x) (hn : k ≤ n) : Fk n x := by
  obtain ⟨d, rfl⟩ := Nat.exists_eq_add_of_le hn
  induction d with
  | zero => exact h
  | succ d ih => exact Fk.succ (ih (by omega))
end UbM
namespace UbP
open PySem UbM
section
variable {e : Env} {a b d : M Vw} {c : Kwt Vw} {q : Kwe}
theorem st_eChn {f g : D → D → Option Bool} : @st Vw (eChn f g a b d e) c q = @st Bool (tCh f g a b d e) ⟨fun k e => c.P (.d (.bl k)) e⟩ q := by
  unfold eChn
  rw [st_bnd]
  have : (fun (k : Bool) (e' : Env) => @st Vw (ret (Vw.d (D.bl k)) e') c q) = fun k e => c.P (.d (.bl k)) e := by
    funext k e'
    exact st_ret
  rw [this]
theorem st_eIdx : @st Vw (eIdx a b e) c q = @st Vw (a e) ⟨fun w e => @st D (nowM w e) ⟨fun d0 e => isLst d0 = true ∧ @st Vw (b e) ⟨fun u e => @st D (nowM w e) ⟨fun d e => @st D (nowM u e) ⟨fun k e => @st Vw (optM (idxD d k) e) c q⟩ q⟩ q⟩ q⟩ q⟩ q := by
  unfold eIdx
  rw [st_bnd]; congr; funext w e1
  rw [st_bnd]; congr; funext d0 e2
  by_cases h : isLst d0 = true
  · rw [if_pos h, h, st_bnd]
    have : (fun (u : Vw) (e : Env) => @st Vw (bnd (nowM w) (fun d => bnd (nowM u) fun c => optM (idxD d c)) e) c q) = fun u e => @st D (nowM w e) ⟨fun d e => @st D (nowM u e) ⟨fun k e => @st Vw (optM (idxD d k) e) c q⟩ q⟩ q := by
      funext u e3
      rw [st_bnd]; congr; funext d e4
      rw [st_bnd]
    rw [this]
    exact propext ⟨fun z => ⟨rfl, z⟩, fun z => z.2⟩
  · rw [if_neg h]
    apply propext
    constructor
    · intro z; rw [st_optN] at z; exact z.elim
    · intro z; exact absurd z.1 h
theorem isL_l (ds : List D) : isLst (.lst ds) = true := rfl
theorem st_ePopA : @st Vw (ePopA a b e) c q = @st Nat (recv a e) ⟨fun i e => @st Vw (b e) ⟨fun u e => @st D (nowM u e) ⟨fun n e => @st (List D) (ownL i e) ⟨fun ds e => match n with
    | .int k => match ixI ds.length k with | some j => @st D (optM ds[j]? e) ⟨fun d e => ds.length < LIM ∧ c.P (.d d) (setO i (.l (ds.eraseIdx j)) e)⟩ q | none => False
    | _ => False⟩ q⟩ q⟩ q⟩ q := by
  unfold ePopA
  rw [st_bnd]; congr; funext i e1
  rw [st_bnd]; congr; funext u e2
  rw [st_bnd]; congr; funext n e3
  rw [st_bnd]; congr; funext ds e4
  cases n with
  | int k =>
    dsimp only
    cases ixI ds.length k with
    | none => exact st_optN
    | some j =>
      dsimp only
      rw [st_bnd]; congr; funext d e5
      by_cases h : ds.length < LIM
      · rw [if_pos h]
        apply propext
        constructor
        · intro z; exact ⟨h, by with_unfolding_all exact z⟩
        · intro z; with_unfolding_all exact z.2
      · rw [if_neg h]
        apply propext
        constructor
        · intro z; rw [st_optN] at z; exact z.elim
        · intro z; exact absurd z.1 h
  | _ => exact st_optN
theorem st_eEf {i : Nat} {low : List Str} {f : Str} : @st Vw (eEf i low f e) c q = match e[i]? with
    | some (.ex x) => match (if low.contains x.cls then x.fs.lookup f else none) with | some d => c.P (.d d) e | none => False
    | _ => False := by
  with_unfolding_all
      unfold eEf
      cases e[i]? with
      | none => rfl
      | some s =>
        cases s with
        | ex x =>
          dsimp only
          cases (if low.contains x.cls then x.fs.lookup f else none) <;> rfl
        | _ => rfl
theorem st_eIsE {i : Nat} {ok : Str → Option Bool} : @st Vw (eIsE i ok e) c q = match e[i]? with
    | some (.ex x) => match ok x.cls with | some k => c.P (.d (.bl k)) e | none => False
    | _ => False := by
  with_unfolding_all
      unfold eIsE
      cases e[i]? with
      | none => rfl
      | some s =>
        cases s with
        | ex x =>
          dsimp only
          cases ok x.cls <;> rfl
        | _ => rfl
theorem st_eLc2 {it it1 : M (List D)} {tg tg1 : Tg} {t1 : M Bool} {x : M Vw} {vs vs1 : List Nat} : @st Vw (eLc2 it tg it1 tg1 t1 x vs vs1 e) c q = @st (List D) (it e) ⟨fun ds e => freeAt e vs = true ∧ @st (List D) (lc2Go tg it1 tg1 t1 x vs vs1 ds [] (wipeE e vs)) ⟨fun ys e' => c.P (.f (.l ys)) (backE e e' vs)⟩ ⟨fun _ _ => False⟩⟩ q := by
  with_unfolding_all
      unfold eLc2
      rw [st_bnd]
      congr
      funext ds e1
      by_cases h : freeAt e1 vs = true
      · rw [h]
        show sat (match lc2Go tg it1 tg1 t1 x vs vs1 ds [] (wipeE e1 vs) with | .ok ys e' => _ | _ => _) _ _ = _
        cases lc2Go tg it1 tg1 t1 x vs vs1 ds [] (wipeE e1 vs) with
        | ok ys e' => simp [st, sat]
        | exc x e' => simp [st, sat]
        | bad => simp [st, sat]
      · have h' : freeAt e1 vs = false := by simpa using h
        rw [h']
        simp [st, sat]
end
theorem add_t (a b : List D) : addD (.tup a) (.tup b) = if a.length + b.length ≤ LIM then some (.d (.tup (a ++ b))) else none := rfl
theorem sl_t (ds : List D) (l h : Option Int) : slD l h (.tup ds) = some (.d (.tup (cut ds l h))) := rfl
theorem sl_s (x : Str) (l h : Option Int) : slD l h (.str x) = if x.length ≤ LIM then some (.d (.str (cutT x l h))) else none := rfl
theorem wk_str (x : Str) : walkD (.str x) = some (signsD x) := rfl
theorem in_sgn (c : Nat) (z : Str) : inD (.str (sgn c)) (.str z) = some (decide (c ∈ z.cps.toList)) := rfl
theorem ints_of (ns : List Int) : intsOf (ns.map .int) = some ns := by
  induction ns with
  | nil => rfl
  | cons n ns ih =>
    show (intsOf (ns.map .int)).map (n :: ·) = _
    rw [ih]; rfl
theorem lens_i {ns : List Int} (h : ns.length < 1000) : lensD (.lst (ns.map .int)) = some (.d (.int (difs ns ns.length : Nat))) := by
  show (if (ns.map D.int).length < 1000 then (lensI (ns.map .int)).bind fun n => vI (n : Nat) else none) = _
  rw [List.length_map, if_pos h]
  unfold lensI
  rw [ints_of]
  rfl
theorem difs_le {α : Type} [DecidableEq α] (xs : List α) : ∀ i, difs xs i ≤ i
  | 0 => Nat.le_refl _
  | i + 1 => by
    have := difs_le xs i
    unfold difs
    split
    · split <;> omega
    · omega
theorem difs_take {α : Type} [DecidableEq α] (xs : List α) : ∀ i, i ≤ xs.length → (difs xs i = i ↔ (xs.take i).Nodup)
  | 0, _ => by simp [difs]
  | i + 1, h => by
    have ih := difs_take xs i (by omega)
    have hl := difs_le xs i
    have e : xs[i]? = some xs[i] := List.getElem?_eq_getElem (by omega)
    rw [List.take_add_one, e]
    unfold difs
    rw [e]
    dsimp only [Option.toList]
    rw [List.nodup_append]
    by_cases m : xs[i] ∈ xs.take i
    · rw [if_pos m]
      constructor
      · intro z; omega
      · rintro ⟨_, _, z⟩
        exact absurd rfl (z _ m _ (List.mem_singleton.mpr rfl))
    · rw [if_neg m]
      constructor
      · intro z
        refine ⟨ih.mp (by omega), by simp, fun a ha b hb => ?_⟩
        rw [List.mem_singleton.mp hb]
        exact fun q => m (q ▸ ha)
      · rintro ⟨z, _, _⟩
        have := ih.mpr z
        omega
theorem difs_nodup {α : Type} [DecidableEq α] (xs : List α) : difs xs xs.length = xs.length ↔ xs.Nodup := by
  have := difs_take xs xs.length (Nat.le_refl _)
  rwa [List.take_length] at this
end UbP
namespace UbP
open PySem UbM
end UbP
namespace UbP
theorem nc0 : ((0 : Nat) : Int) = 0 := rfl
theorem nc1 : ((1 : Nat) : Int) = 1 := rfl
theorem nc2 : ((2 : Nat) : Int) = 2 := rfl
theorem nc3 : ((3 : Nat) : Int) = 3 := rfl
theorem nc4 : ((4 : Nat) : Int) = 4 := rfl
theorem nc5 : ((5 : Nat) : Int) = 5 := rfl
theorem nc6 : ((6 : Nat) : Int) = 6 := rfl
end UbP
namespace UbP
open PySem
theorem str_inj (s t : String) : (Str.ofString s = Str.ofString t) = (s = t) := by
  apply propext
  constructor
  · intro h
    rw [Str.ofString_eq_toList, Str.ofString_eq_toList] at h
    have h1 : s.toList.map Char.toNat = t.toList.map Char.toNat := by
      have := congrArg (fun x : Str => x.cps.toList) h
      simpa using this
    have inj : ∀ (a b : List Char), a.map Char.toNat = b.map Char.toNat → a = b := by
      intro a
      induction a with
      | nil => intro b h; cases b with
        | nil => rfl
        | cons c b => simp at h
      | cons c a ih => intro b h; cases b with
        | nil => simp at h
        | cons d b =>
          simp only [List.map_cons, List.cons.injEq] at h
          rw [ih b h.2]
          congr 1
          exact Char.ext (UInt32.toNat_inj.mp h.1)
    have := inj _ _ h1
    exact String.ext (by simpa using this)
  · rintro rfl; rfl
theorem so_lst (ds : List D) : seqOf (.lst ds) = some ds := rfl
theorem so_lsf (ds : List D) : seqOf (.lsf ds) = some ds := rfl
theorem so_tup (ds : List D) : seqOf (.tup ds) = some ds := rfl
theorem rg1_nat {n : Nat} (h : n ≤ 1000) : rg1D (.int (n : Int)) = some (.f (.l ((List.range n).map fun k => .int (k : Nat)))) := by
  unfold rg1D
  have : rgOk 0 (n : Int) = true := by unfold rgOk; exact decide_eq_true (by omega)
  dsimp only
  rw [if_pos this, Int.toNat_natCast, ints0]
end UbP
namespace UbM
abbrev at0 (l : List Int) (j : Nat) : Int := l.getD j 0
def cdL (a : Nat) (l : List Int) : Nat := l.foldl (fun g x => Nat.gcd g x.natAbs) a
theorem cdL_dvd : ∀ (l : List Int) (a : Nat), cdL a l ∣ a ∧ ∀ x ∈ l, cdL a l ∣ x.natAbs
  | [], a => ⟨Nat.dvd_refl _, fun _ h => by cases h⟩
  | x :: l, a => by
    obtain ⟨h1, h2⟩ := cdL_dvd l (Nat.gcd a x.natAbs)
    refine ⟨Nat.dvd_trans h1 (Nat.gcd_dvd_left ..), fun y hy => ?_⟩
    rcases List.mem_cons.mp hy with rfl | hy
    · exact Nat.dvd_trans h1 (Nat.gcd_dvd_right ..)
    · exact h2 y hy
def mixL (l p : List Int) (c : Nat) : List Int := List.zipWith (fun a b => (at0 p c).fdiv (Nat.gcd (at0 l c).natAbs (at0 p c).natAbs : Nat) * a - (at0 l c).fdiv (Nat.gcd (at0 l c).natAbs (at0 p c).natAbs : Nat) * b) l p
def witL (l p : List Int) (c : Nat) : List Int := if at0 l c = 0 then l else if cdL 0 (mixL l p c) < 2 then mixL l p c else (mixL l p c).map fun x => x.fdiv (cdL 0 (mixL l p c) : Nat)
theorem at0_zip (f : Int → Int → Int) (l p : List Int) (hl : l.length = p.length) (h : f 0 0 = 0) (j : Nat) : at0 (List.zipWith f l p) j = f (at0 l j) (at0 p j) := by
  unfold at0
  simp only [List.getD_eq_getElem?_getD, List.getElem?_zipWith]
  by_cases hj : j < l.length
  · rw [List.getElem?_eq_getElem hj, List.getElem?_eq_getElem (show j < p.length by omega)]; rfl
  · rw [List.getElem?_eq_none (show l.length ≤ j by omega), List.getElem?_eq_none (show p.length ≤ j by omega)]
    simp [h]
theorem at0_map (f : Int → Int) (l : List Int) (h : f 0 = 0) (j : Nat) : at0 (l.map f) j = f (at0 l j) := by
  unfold at0
  simp only [List.getD_eq_getElem?_getD, List.getElem?_map]
  cases l[j]? with
  | none => simp [h]
  | some x => rfl
theorem at0_mem {l : List Int} {j : Nat} (h : at0 l j ≠ 0) : at0 l j ∈ l := by
  unfold at0 at h ⊢
  rw [List.getD_eq_getElem?_getD] at h ⊢
  by_cases hj : j < l.length
  · rw [List.getElem?_eq_getElem hj]
    exact List.getElem_mem hj
  · rw [List.getElem?_eq_none (by omega)] at h
    exact absurd rfl h
theorem at0_bits {l : List Int} {n : Nat} (h : ∀ x ∈ l, x.natAbs < 2 ^ n) (j : Nat) : (at0 l j).natAbs < 2 ^ n := by
  by_cases hj : at0 l j = 0
  · rw [hj]; exact Nat.two_pow_pos n
  · exact h _ (at0_mem hj)
theorem fdiv_le {a : Int} {g : Nat} {n : Nat} (hg : (g : Int) ∣ a) (h : a.natAbs < 2 ^ n) : (a.fdiv g).natAbs < 2 ^ n := by
  rw [Int.fdiv_eq_ediv_of_nonneg _ (by omega), Int.natAbs_ediv_of_dvd hg]
  exact Nat.lt_of_le_of_lt (Nat.div_le_self ..) h
theorem fdiv_eq {a : Int} {g : Nat} (hg : (g : Int) ∣ a) (h : g ≠ 0) : (a.fdiv g : Rat) = (a : Rat) / (g : Rat) := by
  obtain ⟨c, rfl⟩ := hg
  rw [Int.mul_fdiv_cancel_left _ (by omega), Rat.intCast_mul]
  have : (g : Rat) ≠ 0 := by simpa using h
  rw [show (((g : Nat) : Int) : Rat) = (g : Rat) from Rat.intCast_natCast g]
  grind
theorem mixL_len {l p : List Int} {c : Nat} (hl : l.length = p.length) : (mixL l p c).length = l.length := by
  unfold mixL
  rw [List.length_zipWith]
  omega
theorem mixL_bits {l p : List Int} {c n : Nat} (h1 : ∀ x ∈ l, x.natAbs < 2 ^ n) (h2 : ∀ x ∈ p, x.natAbs < 2 ^ n) : ∀ x ∈ mixL l p c, x.natAbs < 2 ^ (2 * n + 1) := by
  intro x hx
  obtain ⟨a, ha, b, hb, rfl⟩ := mem_zipWith hx
  have e1 := fdiv_le (dvd_r (at0 l c) (at0 p c)) (at0_bits h2 c)
  have e2 := fdiv_le (dvd_l (at0 l c) (at0 p c)) (at0_bits h1 c)
  have := sub_lt (mul_lt e1 (h1 a ha)) (mul_lt e2 (h2 b hb))
  rwa [show max (n + n) (n + n) + 1 = 2 * n + 1 by omega] at this
structure WitOk (l p w : List Int) (c n : Nat) : Prop where
  len : w.length = l.length
  comb : ∃ a b : Rat, a ≠ 0 ∧ ∀ j, (at0 w j : Rat) = a * at0 l j + b * at0 p j
  zero : at0 w c = 0
  bits : ∀ x ∈ w, x.natAbs < 2 ^ (2 * n + 1)
theorem witL_ok {l p : List Int} {c n : Nat} (hl : l.length = p.length) (hp : at0 p c ≠ 0) (h1 : ∀ x ∈ l, x.natAbs < 2 ^ n) (h2 : ∀ x ∈ p, x.natAbs < 2 ^ n) : WitOk l p (witL l p c) c n := by
  unfold witL
  by_cases h0 : at0 l c = 0
  · rw [if_pos h0]
    exact ⟨rfl, ⟨1, 0, by decide, fun j => by grind⟩, h0, fun x hx => Nat.lt_of_lt_of_le (h1 x hx) (Nat.pow_le_pow_right (by decide) (by omega))⟩
  · rw [if_neg h0]
    have hg : Nat.gcd (at0 l c).natAbs (at0 p c).natAbs ≠ 0 := by have := gcd_pos (p := at0 l c) hp; omega
    have hgQ : ((Nat.gcd (at0 l c).natAbs (at0 p c).natAbs : Nat) : Rat) ≠ 0 := by simpa using hg
    have ht := fdiv_eq (dvd_r (at0 l c) (at0 p c)) hg
    have hf := fdiv_eq (dvd_l (at0 l c) (at0 p c)) hg
    have hpQ : (at0 p c : Rat) ≠ 0 := by simpa using hp
    have at_mix : ∀ j, (at0 (mixL l p c) j : Rat) = (at0 p c : Rat) / (Nat.gcd (at0 l c).natAbs (at0 p c).natAbs : Nat) * at0 l j + (-((at0 l c : Rat) / (Nat.gcd (at0 l c).natAbs (at0 p c).natAbs : Nat))) * at0 p j := fun j => by
      unfold mixL
      rw [at0_zip _ l p hl (by simp), Rat.intCast_sub, Rat.intCast_mul, Rat.intCast_mul, ht, hf]
      grind
    have zero_mix : at0 (mixL l p c) c = 0 := by
      have := at_mix c
      have e : (at0 (mixL l p c) c : Rat) = 0 := by rw [this]; grind
      simpa using e
    by_cases hd : cdL 0 (mixL l p c) < 2
    · rw [if_pos hd]
      exact ⟨mixL_len hl, ⟨_, _, by grind, at_mix⟩, zero_mix, mixL_bits h1 h2⟩
    · rw [if_neg hd]
      have hdv : ∀ x ∈ mixL l p c, ((cdL 0 (mixL l p c) : Nat) : Int) ∣ x := fun x hx => Int.ofNat_dvd_left.mpr ((cdL_dvd _ 0).2 x hx)
      have hdQ : ((cdL 0 (mixL l p c) : Nat) : Rat) ≠ 0 := by simpa using (show cdL 0 (mixL l p c) ≠ 0 by omega)
      refine ⟨by rw [List.length_map]; exact mixL_len hl, ⟨(at0 p c : Rat) / (Nat.gcd (at0 l c).natAbs (at0 p c).natAbs : Nat) / (cdL 0 (mixL l p c) : Nat), (-((at0 l c : Rat) / (Nat.gcd (at0 l c).natAbs (at0 p c).natAbs : Nat))) / (cdL 0 (mixL l p c) : Nat), by grind, fun j => ?_⟩, ?_, fun x hx => ?_⟩
      · rw [at0_map _ _ (by simp)]
        by_cases hz : at0 (mixL l p c) j = 0
        · have := at_mix j
          rw [hz] at this ⊢
          rw [Int.zero_fdiv]
          grind
        · rw [fdiv_eq (hdv _ (at0_mem hz)) (by omega), at_mix j]
          grind
      · rw [at0_map _ _ (by simp), zero_mix, Int.zero_fdiv]
      · obtain ⟨y, hy, rfl⟩ := List.mem_map.mp hx
        exact fdiv_le (hdv y hy) (mixL_bits h1 h2 y hy)
/-- the sum of a line's products -/
def ev (W : Nat) (l : List Int) (X : Nat → Rat) : Rat := sumN W fun j => (at0 l j : Rat) * X j
theorem ev_comb {W : Nat} {l p w : List Int} {a b : Rat} (h : ∀ j, (at0 w j : Rat) = a * at0 l j + b * at0 p j) (X : Nat → Rat) : ev W w X = a * ev W l X + b * ev W p X := by
  unfold ev
  rw [← sumN_lin]
  exact sumN_congr fun j _ => by rw [h j]; grind
/-- a combination of lines -/
def Co (L : List (List Int)) (v : List Int) : Prop := ∃ y : Nat → Rat, ∀ j, (at0 v j : Rat) = sumN L.length fun i => y i * at0 (L.getD i []) j
theorem Co.mem {L : List (List Int)} {v : List Int} (h : v ∈ L) : Co L v := by
  obtain ⟨i, hi, e⟩ := List.getElem_of_mem h
  refine ⟨fun k => if k = i then 1 else 0, fun j => ?_⟩
  rw [sumN_one hi]
  · show _ = (if i = i then (1 : Rat) else 0) * _
    rw [if_pos rfl, List.getD_eq_getElem?_getD, List.getElem?_eq_getElem hi, e]
    show _ = 1 * (at0 v j : Rat)
    grind
  · intro k _ hk
    show (if k = i then (1 : Rat) else 0) * _ = 0
    rw [if_neg hk]
    grind
theorem Co.comb {L : List (List Int)} {u v w : List Int} {a b : Rat} (hu : Co L u) (hv : Co L v) (h : ∀ j, (at0 w j : Rat) = a * at0 u j + b * at0 v j) : Co L w := by
  obtain ⟨y, hy⟩ := hu
  obtain ⟨z, hz⟩ := hv
  refine ⟨fun i => a * y i + b * z i, fun j => ?_⟩
  rw [h j, hy j, hz j, ← sumN_lin]
  exact sumN_congr fun i _ => by grind
/-- lines of one length with small numbers -/
def LOk (W n : Nat) (l : List Int) : Prop := l.length = W ∧ ∀ x ∈ l, x.natAbs < 2 ^ n
structure Elim (L : List (List Int)) (W b k : Nat) (P : List (Nat × List Int)) (R : List (List Int)) : Prop where
  okP : ∀ p ∈ P, LOk W ((b + 1) * 2 ^ P.length - 1) p.2
  okR : ∀ l ∈ R, LOk W ((b + 1) * 2 ^ P.length - 1) l
  num : P.length + R.length = L.length
  cnt : P.length ≤ k
  zR : ∀ l ∈ R, ∀ j, j < k → at0 l j = 0
  lt : ∀ p ∈ P, p.1 < k
  asc : (P.map (·.1)).Pairwise (· < ·)
  lead : ∀ p ∈ P, at0 p.2 p.1 ≠ 0 ∧ ∀ j, j < p.1 → at0 p.2 j = 0
  cross : ∀ p ∈ P, ∀ q ∈ P, p.1 ≠ q.1 → at0 p.2 q.1 = 0
  coP : ∀ p ∈ P, Co L p.2
  coR : ∀ l ∈ R, Co L l
  back : ∀ V X, (∀ p ∈ P, ev V p.2 X = 0) → (∀ l ∈ R, ev V l X = 0) → ∀ l ∈ L, ev V l X = 0
theorem Elim.start {L : List (List Int)} {W b : Nat} (h : ∀ l ∈ L, LOk W b l) : Elim L W b 0 [] L :=
  { okP := fun _ h => (List.not_mem_nil h).elim
    okR := fun l hl => ⟨(h l hl).1, fun x hx => by have := (h l hl).2 x hx; simpa using this⟩
    num := by simp
    cnt := Nat.le_refl _
    zR := fun _ _ _ h => absurd h (Nat.not_lt_zero _)
    lt := fun _ h => (List.not_mem_nil h).elim
    asc := List.Pairwise.nil
    lead := fun _ h => (List.not_mem_nil h).elim
    cross := fun _ h => (List.not_mem_nil h).elim
    coP := fun _ h => (List.not_mem_nil h).elim
    coR := fun l hl => Co.mem hl
    back := fun _ _ _ h => h }
theorem Elim.step {L : List (List Int)} {W b k : Nat} {P : List (Nat × List Int)} {R O : List (List Int)} {v : List Int} (h : Elim L W b k P R) (hv : v ∈ R) (hO : ∀ l ∈ O, l ∈ R) (hR : ∀ l ∈ R, l = v ∨ l ∈ O) (hlen : O.length + 1 = R.length) (hk : at0 v k ≠ 0) :
    Elim L W b (k + 1) ((P.map fun p => (p.1, witL p.2 v k)) ++ [(k, v)]) (O.map fun l => witL l v k) := by
  have hb : 2 * ((b + 1) * 2 ^ P.length - 1) + 1 = (b + 1) * 2 ^ (P.length + 1) - 1 := by
    have := Nat.mul_pos (show 0 < b + 1 by omega) (Nat.two_pow_pos P.length)
    rw [Nat.pow_succ, ← Nat.mul_assoc]
    omega
  have okv := h.okR v hv
  have wo : ∀ l, LOk W ((b + 1) * 2 ^ P.length - 1) l → WitOk l v (witL l v k) k ((b + 1) * 2 ^ P.length - 1) := fun l hl => witL_ok (by rw [hl.1, okv.1]) hk hl.2 okv.2
  have lenP : ((P.map fun p => (p.1, witL p.2 v k)) ++ [(k, v)]).length = P.length + 1 := by simp
  have up : ∀ l, LOk W ((b + 1) * 2 ^ P.length - 1) l → LOk W ((b + 1) * 2 ^ (P.length + 1) - 1) (witL l v k) := fun l hl => ⟨by rw [(wo l hl).len, hl.1], by rw [← hb]; exact (wo l hl).bits⟩
  have zv : ∀ j, j < k → at0 v j = 0 := h.zR v hv
  have keep : ∀ l, LOk W ((b + 1) * 2 ^ P.length - 1) l → ∀ j, j < k → at0 l j = 0 → at0 (witL l v k) j = 0 := fun l hl j hj hz => by
    obtain ⟨a, c, _, e⟩ := (wo l hl).comb
    have := e j
    rw [hz, zv j hj] at this
    have e2 : (at0 (witL l v k) j : Rat) = 0 := by rw [this]; grind
    simpa using e2
  have keepN : ∀ l, LOk W ((b + 1) * 2 ^ P.length - 1) l → ∀ j, j < k → at0 l j ≠ 0 → at0 (witL l v k) j ≠ 0 := fun l hl j hj hz he => by
    obtain ⟨a, c, ha, e⟩ := (wo l hl).comb
    have := e j
    rw [he, zv j hj] at this
    have hz : (at0 l j : Rat) ≠ 0 := by simpa using hz
    have e3 : (0 : Rat) = a * at0 l j := by rw [show ((0 : Int) : Rat) = 0 from rfl] at this; rw [this]; grind
    have : a * (at0 l j : Rat) ≠ 0 := by
      intro h0
      rcases Rat.mul_eq_zero.mp h0 with h0 | h0
      · exact ha h0
      · exact hz h0
    exact this e3.symm
  constructor
  · intro p hp
    rw [lenP]
    rcases List.mem_append.mp hp with hp | hp
    · obtain ⟨q, hq, rfl⟩ := List.mem_map.mp hp
      exact up _ (h.okP q hq)
    · rw [List.mem_singleton.mp hp]
      exact ⟨okv.1, fun x hx => Nat.lt_of_lt_of_le (okv.2 x hx) (Nat.pow_le_pow_right (by decide) (by omega))⟩
  · intro l hl
    rw [lenP]
    obtain ⟨q, hq, rfl⟩ := List.mem_map.mp hl
    exact up _ (h.okR q (hO q hq))
  · rw [lenP, List.length_map]
    have := h.num
    omega
  · rw [lenP]
    exact Nat.succ_le_succ h.cnt
  · intro l hl j hj
    obtain ⟨q, hq, rfl⟩ := List.mem_map.mp hl
    by_cases e : j = k
    · rw [e]; exact (wo q (h.okR q (hO q hq))).zero
    · exact keep q (h.okR q (hO q hq)) j (by omega) (h.zR q (hO q hq) j (by omega))
  · intro p hp
    rcases List.mem_append.mp hp with hp | hp
    · obtain ⟨q, hq, rfl⟩ := List.mem_map.mp hp
      exact Nat.lt_succ_of_lt (h.lt q hq)
    · rw [List.mem_singleton.mp hp]; exact Nat.lt_succ_self k
  · rw [List.map_append, List.map_map]
    refine List.pairwise_append.mpr ⟨h.asc, List.pairwise_singleton .., fun x hx y hy => ?_⟩
    obtain ⟨q, hq, rfl⟩ := List.mem_map.mp hx
    rw [List.mem_singleton.mp hy]
    exact h.lt q hq
  · intro p hp
    rcases List.mem_append.mp hp with hp | hp
    · obtain ⟨q, hq, rfl⟩ := List.mem_map.mp hp
      exact ⟨keepN _ (h.okP q hq) _ (h.lt q hq) (h.lead q hq).1, fun j hj => keep _ (h.okP q hq) j (by have := h.lt q hq; have : j < q.1 := hj; omega) ((h.lead q hq).2 j hj)⟩
    · rw [List.mem_singleton.mp hp]
      exact ⟨hk, zv⟩
  · intro p hp q hq hne
    rcases List.mem_append.mp hp with hp | hp
    · obtain ⟨p0, hp0, rfl⟩ := List.mem_map.mp hp
      rcases List.mem_append.mp hq with hq | hq
      · obtain ⟨q0, hq0, rfl⟩ := List.mem_map.mp hq
        exact keep _ (h.okP p0 hp0) _ (h.lt q0 hq0) (h.cross p0 hp0 q0 hq0 hne)
      · rw [List.mem_singleton.mp hq]
        exact (wo _ (h.okP p0 hp0)).zero
    · rw [List.mem_singleton.mp hp] at hne ⊢
      rcases List.mem_append.mp hq with hq | hq
      · obtain ⟨q0, hq0, rfl⟩ := List.mem_map.mp hq
        exact zv _ (h.lt q0 hq0)
      · rw [List.mem_singleton.mp hq] at hne
        exact absurd rfl hne
  · intro p hp
    rcases List.mem_append.mp hp with hp | hp
    · obtain ⟨q, hq, rfl⟩ := List.mem_map.mp hp
      obtain ⟨a, c, _, e⟩ := (wo _ (h.okP q hq)).comb
      exact Co.comb (h.coP q hq) (h.coR v hv) e
    · rw [List.mem_singleton.mp hp]
      exact h.coR v hv
  · intro l hl
    obtain ⟨q, hq, rfl⟩ := List.mem_map.mp hl
    obtain ⟨a, c, _, e⟩ := (wo _ (h.okR q (hO q hq))).comb
    exact Co.comb (h.coR q (hO q hq)) (h.coR v hv) e
  · intro V X h1 h2
    have hv0 : ev V v X = 0 := h1 (k, v) (by simp)
    have undo : ∀ l, LOk W ((b + 1) * 2 ^ P.length - 1) l → ev V (witL l v k) X = 0 → ev V l X = 0 := fun l hl he => by
      obtain ⟨a, c, ha, e⟩ := (wo l hl).comb
      rw [ev_comb e, hv0] at he
      grind
    refine h.back V X (fun p hp => undo _ (h.okP p hp) (h1 (p.1, witL p.2 v k) (List.mem_append_left _ (List.mem_map_of_mem hp)))) (fun l hl => ?_)
    rcases hR l hl with rfl | hl2
    · exact hv0
    · exact undo _ (h.okR l hl) (h2 _ (List.mem_map_of_mem hl2))
end UbM
namespace UbP
open PySem UbM
abbrev natsD (l : List Nat) : D := .lst (l.map fun (n : Nat) => D.int (n : Int))
abbrev strsD (l : List Str) : D := .lst (l.map .str)
structure Kd where
  nm : Str
  w : Rat
  a : Rat
  ws : List Rat
def kdD (k : Kd) : D := .tup [.str k.nm, rD k.w, rD k.a, rsD k.ws]
structure Ag where
  nm : Str
  ks : List Kd
def agD (a : Ag) : D := .tup [.str a.nm, .lst (a.ks.map kdD)]
inductive Nd where
  | part | budget | even | bound (r : Rat) | envy (a b : Nat) (sw : List Nat) | order (a : Nat) (ch : List Nat)
def Nd.wd : Nd → Str
  | .part => "part" | .budget => "budget" | .even => "even" | .bound _ => "bound" | .envy _ _ _ => "envy" | .order _ _ => "order"
def ndD : Nd → D
  | .part => .tup [.str "part"]
  | .budget => .tup [.str "budget"]
  | .even => .tup [.str "even"]
  | .bound r => .tup [.str "bound", rD r]
  | .envy a b sw => .tup [.str "envy", .int (a : Nat), .int (b : Nat), natsD sw]
  | .order a ch => .tup [.str "order", .int (a : Nat), natsD ch]
abbrev agsD (l : List Ag) : D := .lst (l.map agD)
abbrev kdsD (l : List Kd) : D := .lst (l.map kdD)
abbrev ndsD (l : List Nd) : D := .lst (l.map ndD)
structure Gm where
  ags : List Ag
  outs : List Str
  aim : Str
  pay : Bool
  lots : Bool
  nds : List Nd
def gmF (g : Gm) : List (Str × D) := [("agents", agsD g.ags), ("outcomes", strsD g.outs), ("aim", .str g.aim), ("payments", .bl g.pay), ("lots", .bl g.lots), ("needs", ndsD g.nds)]
def gmO (g : Gm) : D := .obj "Game" (gmF g)
def gmC (g : Gm) : Ct := .o "Game" (gmF g)
theorem gmC_toD (g : Gm) : (gmC g).toD = gmO g := rfl
theorem gf_ag (g : Gm) : fldD ["Game"] "agents" (gmO g) = some (.d (agsD g.ags)) := rfl
theorem gf_ou (g : Gm) : fldD ["Game"] "outcomes" (gmO g) = some (.d (strsD g.outs)) := rfl
theorem gf_ai (g : Gm) : fldD ["Game"] "aim" (gmO g) = some (.d (.str g.aim)) := rfl
theorem gf_pa (g : Gm) : fldD ["Game"] "payments" (gmO g) = some (.d (.bl g.pay)) := rfl
theorem gf_lo (g : Gm) : fldD ["Game"] "lots" (gmO g) = some (.d (.bl g.lots)) := rfl
theorem gf_nd (g : Gm) : fldD ["Game"] "needs" (gmO g) = some (.d (ndsD g.nds)) := rfl
theorem nn_gm (g : Gm) : isNoD (gmO g) .non = some false := rfl
theorem nt_gm (g : Gm) : notNoD (gmO g) .non = some true := rfl
theorem sh_int (i : Int) (n : Nat) : UbP.sh (.int i) n = true := by unfold UbP.sh; rfl
theorem sh_nats (l : List Nat) (n : Nat) : UbP.sh (natsD l) (n + 1) = true := by
  unfold UbP.sh
  rw [decide_eq_true (Nat.succ_pos n), Nat.add_sub_cancel]
  exact shAll_map l fun _ _ => sh_int _ _
theorem eqv_nats : ∀ (l m : List Nat), eqvAll (l.map fun (n : Nat) => D.int (n : Int)) (m.map fun (n : Nat) => D.int (n : Int)) = decide (l = m)
  | [], [] => rfl
  | [], _ :: _ => rfl
  | _ :: _, [] => rfl
  | a :: l, b :: m => by
    show (eqv (.int (a : Int)) (.int (b : Int)) && eqvAll _ _) = _
    rw [eqv_nats l m]
    have : eqv (.int (a : Int)) (.int (b : Int)) = decide (a = b) := by
      show ((a : Int) == (b : Int)) = _
      by_cases h : a = b
      · subst h; simp
      · rw [decide_eq_false h]
        have : ¬((a : Int) = (b : Int)) := fun z => h (Int.ofNat.inj z)
        simpa using this
    rw [this]
    by_cases h1 : a = b <;> by_cases h2 : l = m <;> simp [h1, h2]
theorem eq_nats (l m : List Nat) : eqD (natsD l) (natsD m) = some (decide (l = m)) := by
  unfold eqD
  rw [sh_nats l 59, sh_nats m 59]
  show some (eqvAll _ _) = _
  rw [eqv_nats]
theorem ne_nats (l m : List Nat) : neD (natsD l) (natsD m) = some (!decide (l = m)) := by
  unfold neD
  rw [eq_nats]
  rfl
end UbP
namespace UbP
open PySem UbM
def Nd.once : Nd → Bool
  | .envy _ _ _ => false
  | .order _ _ => false
  | _ => true
theorem nd_ix0 (d : Nd) : ixD (ndD d) (.int 0) = some (.d (.str d.wd)) := by cases d <;> rfl
theorem nd_len (d : Nd) : ∃ n : Nat, n < 10 ∧ lenD (ndD d) = some (.d (.int (n : Int))) := by
  cases d with
  | part => exact ⟨1, by decide, rfl⟩
  | budget => exact ⟨1, by decide, rfl⟩
  | even => exact ⟨1, by decide, rfl⟩
  | bound r => exact ⟨2, by decide, rfl⟩
  | envy a b sw => exact ⟨4, by decide, rfl⟩
  | order a ch => exact ⟨3, by decide, rfl⟩
end UbP
namespace UbP
open PySem UbM
theorem cut_mapG {α β : Type} (f : α → β) (l : List α) (lo hi : Option Int) : cut (l.map f) lo hi = (cut l lo hi).map f := by
  unfold cut
  rw [List.length_map, List.map_take, List.map_drop]
def Nd.flagged : Nd → Bool
  | .part => true
  | .budget => true
  | .even => true
  | _ => false
theorem in_three (d : Nd) : inD (.str d.wd) (.tup [.str "part", .str "budget", .str "even"]) = some d.flagged := by cases d <;> dsimp only [Nd.wd, Nd.flagged] <;> rfl
theorem in_four (d : Nd) : inD (.str d.wd) (.tup [.str "part", .str "budget", .str "even", .str "bound"]) = some d.once := by cases d <;> dsimp only [Nd.wd, Nd.once] <;> rfl
end UbP
namespace UbP
theorem ix_ag0 (a : Ag) : ixD (agD a) (.int 0) = some (.d (.str a.nm)) := rfl
theorem ix_ag1 (a : Ag) : ixD (agD a) (.int 1) = some (.d (kdsD a.ks)) := rfl
theorem ix_kd0 (k : Kd) : ixD (kdD k) (.int 0) = some (.d (.str k.nm)) := rfl
theorem ix_kd1 (k : Kd) : ixD (kdD k) (.int 1) = some (.d (rD k.w)) := rfl
theorem ix_kd2 (k : Kd) : ixD (kdD k) (.int 2) = some (.d (rD k.a)) := rfl
theorem ix_kd3 (k : Kd) : ixD (kdD k) (.int 3) = some (.d (rsD k.ws)) := rfl
theorem put_ag (ts : List Tg) (a : Ag) (e : Env) : putT (.tp ts) (agD a) e = putTs ts [.str a.nm, kdsD a.ks] e := rfl
theorem put_kd (ts : List Tg) (k : Kd) (e : Env) : putT (.tp ts) (kdD k) e = putTs ts [.str k.nm, rD k.w, rD k.a, rsD k.ws] e := rfl
theorem ii_kd (k : Kd) : isiD "list" (kdD k) = some (.d (.bl false)) := rfl
end UbP
namespace UbM
def fib2 : Nat → Nat × Nat
  | 0 => (0, 1)
  | n + 1 => match fib2 n with | (a, b) => (b, a + b)
def fib (n : Nat) : Nat := (fib2 n).1
theorem fib_step (n : Nat) : fib (n + 2) = fib n + fib (n + 1) := rfl
def Enf (m a b : Nat) : Prop := b < fib m ∨ (b < a ∧ a < fib (m + 1))
theorem Enf.pos {m a b : Nat} (h : Enf m a b) : 0 < m := by
  cases m with
  | zero =>
    rcases h with h | ⟨h1, h2⟩
    · have : b < 0 := h
      omega
    · have : a < 1 := h2
      omega
  | succ m => omega
theorem Enf.step {m a b : Nat} (hb : 0 < b) (h : Enf m a b) : Enf (m - 1) b (a % b) := by
  have hm := h.pos
  obtain ⟨k, rfl⟩ : ∃ k, m = k + 1 := ⟨m - 1, by omega⟩
  rw [Nat.add_sub_cancel]
  have hr := Nat.mod_lt a hb
  rcases h with h | ⟨h1, h2⟩
  · exact .inr ⟨hr, h⟩
  · by_cases hk : b < fib (k + 1)
    · exact .inr ⟨hr, hk⟩
    · left
      rw [fib_step] at h2
      have h3 := Nat.div_add_mod a b
      have h4 : 1 ≤ a / b := (Nat.le_div_iff_mul_le hb).mpr (by omega)
      have h5 : b * 1 ≤ b * (a / b) := Nat.mul_le_mul_left b h4
      omega
end UbM
namespace UbK
open UbP
def b__law_rank : M Fl := (sSeq (sIf (tB isNoD (eV 1) (eC .non)) (sRet (eU lenD (eV 0))) sNx)
  (sSeq (sIf (tB inD (eV 1) (eV 0)) (sRet (eIdx (eV 0) (eV 1))) sNx)
  (sRet (eB addD (eU lenD (eV 0)) (eC (.int 1))))))
def p__law_rank : Fn := run 0 b__law_rank
def b__law_stable_1 : M Fl := (sFor (iR1 (eU lenD (eV 1))) (.nm 5) (sSeq (sSet 6 (eC .non))
  (sSeq (sIf (tB inD (eV 5) (eV 2)) (sSet 6 (eIdx (eV 2) (eV 5))) sNx)
  (sIf (tAnd (tB inD (eV 5) (eB ixD (eV 0) (eV 3))) (tB inD (eV 3) (eB ixD (eV 1) (eV 5)))) (sIf (tB ltD (eCall p__law_rank [false, false] [(eB ixD (eV 0) (eV 3)), (eV 5)] []) (eCall p__law_rank [false, false] [(eB ixD (eV 0) (eV 3)), (eV 4)] [])) (sIf (tB ltD (eCall p__law_rank [false, false] [(eB ixD (eV 1) (eV 5)), (eV 3)] []) (eCall p__law_rank [false, false] [(eB ixD (eV 1) (eV 5)), (eV 6)] [])) (sRet (eC (.bl false))) sNx) sNx) sNx))))
def b__law_stable : M Fl := (sSeq (sFor (iR1 (eU lenD (eV 0))) (.nm 3) (sSeq (sSet 4 (eB ixD (eV 2) (eV 3)))
  (sSeq (sIf (tAnd (tB notNoD (eV 4) (eC .non)) (tOr (tB ninD (eV 4) (eB ixD (eV 0) (eV 3))) (tB ninD (eV 3) (eB ixD (eV 1) (eV 4))))) (sRet (eC (.bl false))) sNx)
  b__law_stable_1)))
  (sRet (eC (.bl true))))
def p__law_stable : Fn := run 4 b__law_stable
def b__law_all : M Fl := (sSeq (sSet 2 (eLst [(eLst [])]))
  (sSeq (sFor (iR1 (eU lenD (eV 0))) (.nm 3) (sSeq (sOwn 4 (eLst []))
  (sSeq (sFor (iE (eU listD (eV 2))) (.nm 5) (sSeq (sEx (eApp (eV 4) (eB addD (eV 5) (eLst [(eC .non)]))))
  (sFor (iR1 (eU lenD (eV 1))) (.nm 6) (sIf (tB ninD (eV 6) (eV 5)) (sEx (eApp (eV 4) (eB addD (eV 5) (eLst [(eV 6)])))) sNx))))
  (frz 4 (sSet 2 (eV 4))))))
  (sRet (eLc (iE (eV 2)) (.nm 5) (tE (eCall p__law_stable [false, false, false] [(eV 0), (eV 1), (eV 5)] [])) (eV 5) [5]))))
def p__law_all : Fn := run 5 b__law_all
def b__law_copied : M Fl := (sRet (eLc (iE (eV 0)) (.nm 1) (ret true) (eU listD (eV 1)) [1]))
def p__law_copied : Fn := run 1 b__law_copied
def b__law_draws : M Fl := (sSeq (sOwn 1 (eLst []))
  (sSeq (sFor (iE (eV 0)) (.nm 2) (sSeq (sSet 3 (eU absD (eV 2)))
  (sSeq (sIf (tB ltD (eV 3) (eB powD (eC (.int 10)) (eC (.int 18)))) (sSeq (sSet 4 (eB modD (eU intD (eB addD (eB mulD (eV 3) (eC (.int 48271))) (eC (.int 11)))) (eC (.int 2147483647))))
  (sSeq (sEx (eApp (eV 1) (eB modD (eU intD (eB addD (eB mulD (eV 4) (eC (.int 69621))) (eV 3))) (eC (.int 2147483629)))))
  (sSeq (sEx (eApp (eV 1) (eB modD (eU intD (eB addD (eV 4) (eB fdivD (eV 3) (eC (.int 7))))) (eC (.int 1000003)))))
  (sSet 3 (eC (.int 0)))))) sNx)
  (sFor (iR1 (eC (.int 60))) (.nm 5) (sIf (tB gtD (eV 3) (eC (.int 0))) (sSeq (sEx (eApp (eV 1) (eB modD (eU intD (eV 3)) (eC (.int 997)))))
  (sSet 3 (eB fdivD (eV 3) (eC (.int 997))))) sNx)))))
  (sSeq (sSet 6 (eC (.int 1)))
  (sSeq (sIf (tB gtD (eU lenD (eV 0)) (eC (.int 0))) (sSet 6 (eB addD (eC (.int 1)) (eU absD (eB ixD (eV 0) (eC (.int 0)))))) sNx)
  (sSeq (sFor (iR1 (eC (.int 60))) (.nm 5) (sSeq (sSet 6 (eB modD (eU intD (eB addD (eB mulD (eV 6) (eC (.int 48271))) (eC (.int 69621)))) (eC (.int 2147483647))))
  (sEx (eApp (eV 1) (eB fdivD (eV 6) (eC (.int 5)))))))
  (frz 1 (sRet (eU revD (eV 1)))))))))
def p__law_draws : Fn := run 6 b__law_draws
def b__law_is_matching : M Fl := (sSeq (sIf (tOr (tNot (tE (eU (isiD "list") (eV 0)))) (tB neD (eU lenD (eV 0)) (eU lenD (eV 1)))) (sRet (eC (.bl false))) sNx)
  (sSeq (sFor (iR1 (eU lenD (eV 0))) (.nm 3) (sIf (tB notNoD (eB ixD (eV 0) (eV 3)) (eC .non)) (sSeq (sIf (tOr (tNot (tE (eU (isiD "int") (eB ixD (eV 0) (eV 3))))) (tOr (tE (eU (isiD "bool") (eB ixD (eV 0) (eV 3)))) (tNot (tCh leD ltD (eC (.int 0)) (eB ixD (eV 0) (eV 3)) (eV 2))))) (sRet (eC (.bl false))) sNx)
  (sIf (tB inD (eB ixD (eV 0) (eV 3)) (eSl (eV 0) (ret none) (intM (eV 3)))) (sRet (eC (.bl false))) sNx)) sNx))
  (sRet (eC (.bl true)))))
def p__law_is_matching : Fn := run 1 b__law_is_matching
def b__law_same (p__law_same : Fn) : M Fl := (sSeq (sIf (tOr (tE (eU (isiD "tuple") (eV 1))) (tE (eU (isiD "list") (eV 1)))) (sSeq (sIf (tOr (tB neD (eU (isiD "tuple") (eV 1)) (eU (isiD "tuple") (eV 0))) (tB neD (eU (isiD "list") (eV 1)) (eU (isiD "list") (eV 0)))) (sRet (eC (.bl false))) sNx)
  (sSeq (sIf (tB neD (eU lenD (eV 0)) (eU lenD (eV 1))) (sRet (eC (.bl false))) sNx)
  (sSeq (sFor (iR1 (eU lenD (eV 1))) (.nm 2) (sIf (tNot (tE (eCall (p__law_same) [false, false] [(eB ixD (eV 0) (eV 2)), (eB ixD (eV 1) (eV 2))] []))) (sRet (eC (.bl false))) sNx))
  (sRet (eC (.bl true)))))) sNx)
  (sSeq (sIf (tB neD (eU (isiD "bool") (eV 1)) (eU (isiD "bool") (eV 0))) (sRet (eC (.bl false))) sNx)
  (sSeq (sIf (tOr (tB neD (eU (isiD "int") (eV 1)) (eU (isiD "int") (eV 0))) (tB neD (eU (isiD "str") (eV 1)) (eU (isiD "str") (eV 0)))) (sRet (eC (.bl false))) sNx)
  (sRet (eB (cB eqD) (eV 0) (eV 1))))))
def p__law_same : Nat → Fn
  | 0 => fun _ => .bad
  | n + 1 => run 1 (b__law_same (p__law_same n))
def b__law_take : M Fl := (sSeq (sIf (tB eqD (eU lenD (eV 0)) (eC (.int 0))) (sRet (eC (.int 0))) sNx)
  (sRet (eB modD (eU intD (ePop (eV 0))) (eV 1))))
def p__law_take : Fn := run 0 b__law_take
def b__law_wishes : M Fl := (sSeq (sOwn 3 (eRg1 (eV 1)))
  (sSeq (sSet 4 (eLc (iR1 (eV 1)) (.nm 5) (ret true) (ePopA (eV 3) (eCall p__law_take [true, false] [(eV 0), (eU lenD (eV 3))] [])) [5]))
  (sSeq (sIf (tOr (tE (eV 2)) (tB eqD (eCall p__law_take [true, false] [(eV 0), (eC (.int 2))] []) (eC (.int 0)))) (sRet (eV 4)) sNx)
  (sRet (eSl (eV 4) (ret none) (intM (eCall p__law_take [true, false] [(eV 0), (eB addD (eV 1) (eC (.int 1)))] [])))))))
def p__law_wishes : Fn := run 3 b__law_wishes
def b_check_size : M Fl := (sIf (tE (eGx true (iE (eV 0)) (.nm 2) (eB (cB gtD) (eV 2) (eV 1)) [2])) (sRaise "TooLarge" ["limit"] okT [(eC (.str "size"))]) sNx)
def p_check_size : Fn := run 1 b_check_size
def b_are_different : M Fl := (sRet (eAnd (eGx false (iE (eV 0)) (.nm 2) (eChn leD ltD (eC (.int 0)) (eV 2) (eV 1)) [2]) (eB (cB eqD) (eU lensD (eV 0)) (eU lenD (eV 0)))))
def p_are_different : Fn := run 1 b_are_different
def b_check_wishes : M Fl := (sIf (tNot (tE (eGx false (iE (eV 0)) (.nm 2) (eCall p_are_different [false, false] [(eV 2), (eV 1)] []) [2]))) (sRaise "InvalidWishes" ["reason"] okT [(eC (.str "list"))]) sNx)
def p_check_wishes : Fn := run 1 b_check_wishes
def b__check_sides : M Fl := (sSeq (sEx (eCall p_check_size [false, false] [(eLst [(eU lenD (eV 0)), (eU lenD (eV 1))]), (eC (.int 8))] []))
  (sSeq (sEx (eCall p_check_wishes [false, false] [(eV 0), (eU lenD (eV 1))] []))
  (sEx (eCall p_check_wishes [false, false] [(eV 1), (eU lenD (eV 0))] []))))
def p__check_sides : Fn := run 0 b__check_sides
def b__turned : M Fl := (sSeq (sOwn 2 (eB mulD (eLst [(eC .non)]) (eV 1)))
  (sSeq (sFor (iEn (eV 0)) (.tp [(.nm 3), (.nm 4)]) (sIf (tB notNoD (eV 4) (eC .non)) (sItem (eV 2) (eV 4) (eV 3)) sNx))
  (sRet (eV 2))))
def p__turned : Fn := run 3 b__turned
def b_prefers : M Fl := (sSeq (sIf (tB ninD (eV 1) (eV 0)) (sRet (eC (.bl false))) sNx)
  (sRet (eOr (eB (cB ninD) (eV 2) (eV 0)) (eB (cB ltD) (eIdx (eV 0) (eV 1)) (eIdx (eV 0) (eV 2))))))
def p_prefers : Fn := run 0 b_prefers
def b_accept : M Fl := (sSeq (sEx (eCall p__check_sides [false, false] [(eV 0), (eV 1)] []))
  (sNst 2 (eLcN (iE (eV 0)) (.nm 8) (ret true) (eU listD (eV 8)) [8])
  (sSeqN (sOwn 3 (eB mulD (eLst [(eC .non)]) (eU lenD (eV 1))))
  (sSeqN (sOwn 4 (eRg1 (eU lenD (eV 0))))
  (sSeqN (whl (tE (eV 4)) (sSeq (sSet 5 (ePop (eV 4)))
  (sIfRow 2 (eV 5) (sSeq (sPopRow 6 2 (eV 5) (eC (.int 0)))
  (sSeq (sSet 7 (eV 5))
  (sSeq (sIf (tE (eCall p_prefers [false, false, false] [(eB ixD (eV 1) (eV 6)), (eV 5), (eB ixD (eV 3) (eV 6))] [])) (sSeq (sSet 7 (eB ixD (eV 3) (eV 6)))
  (sItem (eV 3) (eV 6) (eV 5))) sNx)
  (sIf (tB notNoD (eV 7) (eC .non)) (sEx (eApp (eV 4) (eV 7))) sNx)))) sNx)) 1000)
  (sUn 2 (frz 3 (sRet (eCall p__turned [false, false] [(eV 3), (eU lenD (eV 0))] [])))))))))
def p_accept : Fn := run 7 b_accept
def b_law_3 : M Fl := (sSeq (sIf (tB eqD (eB ixD (eV 2) (eC (.int 0))) (eC (.int 0))) (sRet (eC (.bl true))) sNx)
  (sSeq (sSet 10 (eCall p__law_take [true, false] [(eV 1), (eB ixD (eV 2) (eC (.int 0)))] []))
  (sSeq (sOwn 11 (eCall p__law_copied [false] [(eV 3)] []))
  (sSeq (sItem (eV 11) (eV 10) (eCall p__law_wishes [true, false, false] [(eV 1), (eB ixD (eV 2) (eC (.int 1))), (eC (.bl false))] []))
  (frz 11 (sSeq (sSet 12 (eCall p_accept [false, false] [(eV 11), (eCall p__law_copied [false] [(eV 4)] [])] []))
  (sRet (eB (cB geD) (eCall p__law_rank [false, false] [(eB ixD (eV 3) (eV 10)), (eB ixD (eV 12) (eV 10))] []) (eCall p__law_rank [false, false] [(eB ixD (eV 3) (eV 10)), (eB ixD (eV 6) (eV 10))] [])))))))))
def b_law_2 : M Fl := (sSeq (sFor (iE (eCall p__law_all [false, false] [(eV 3), (eV 4)] [])) (.nm 7) (sSeq (sFor (iR1 (eB ixD (eV 2) (eC (.int 0)))) (.nm 8) (sSeq (sIf (tB ltD (eCall p__law_rank [false, false] [(eB ixD (eV 3) (eV 8)), (eB ixD (eV 7) (eV 8))] []) (eCall p__law_rank [false, false] [(eB ixD (eV 3) (eV 8)), (eB ixD (eV 6) (eV 8))] [])) (sRet (eC (.bl false))) sNx)
  (sIf (tB neD (eB (cB isNoD) (eB ixD (eV 7) (eV 8)) (eC .non)) (eB (cB isNoD) (eB ixD (eV 6) (eV 8)) (eC .non))) (sRet (eC (.bl false))) sNx)))
  (sFor (iR1 (eB ixD (eV 2) (eC (.int 1)))) (.nm 9) (sIf (tB neD (eB (cB inD) (eV 9) (eV 7)) (eB (cB inD) (eV 9) (eV 6))) (sRet (eC (.bl false))) sNx))))
  b_law_3)
def b_law_1 : M Fl := (sSeq (sSet 5 (eLst [(eCall p__law_copied [false] [(eV 3)] []), (eCall p__law_copied [false] [(eV 4)] [])]))
  (sSeq (sSet 6 (eCall p_accept [false, false] [(eB ixD (eV 5) (eC (.int 0))), (eB ixD (eV 5) (eC (.int 1)))] []))
  (sSeq (sIf (tOr (tNot (tE (eCall p__law_is_matching [false, false, false] [(eV 6), (eV 3), (eB ixD (eV 2) (eC (.int 1)))] []))) (tNot (tE (eCall p__law_stable [false, false, false] [(eV 3), (eV 4), (eV 6)] [])))) (sRet (eC (.bl false))) sNx)
  (sSeq (sIf (tNot (tE (eCall (p__law_same 70) [false, false] [(eV 5), (eLst [(eV 3), (eV 4)])] []))) (sRet (eC (.bl false))) sNx)
  b_law_2))))
def b_law : M Fl := (sSeq (sOwn 1 (eCall p__law_draws [false] [(eV 0)] []))
  (sSeq (sSet 2 (eLst [(eCall p__law_take [true, false] [(eV 1), (eC (.int 5))] []), (eCall p__law_take [true, false] [(eV 1), (eC (.int 5))] [])]))
  (sSeq (sSet 3 (eLc (iR1 (eB ixD (eV 2) (eC (.int 0)))) (.nm 13) (ret true) (eCall p__law_wishes [true, false, false] [(eV 1), (eB ixD (eV 2) (eC (.int 1))), (eC (.bl false))] []) [13]))
  (sSeq (sSet 4 (eLc (iR1 (eB ixD (eV 2) (eC (.int 1)))) (.nm 13) (ret true) (eCall p__law_wishes [true, false, false] [(eV 1), (eB ixD (eV 2) (eC (.int 0))), (eC (.bl false))] []) [13]))
  b_law_1))))
def p_law : Fn := run 13 b_law
end UbK
section
open PySem UbP UbM
local macro_rules | `(tactic| walk_at "wp") => `(tactic| simp -implicitDefEqProofs only [sat_st, fsat_st, fst_run, st_ok, st_exc, st_bad, st_ret, st_bnd, st_optS, st_optN, st_optI, st_optMap, st_optBind, st_iteB, st_now_d, st_now_f, st_now_o, st_stay_d, st_stay_f, st_eC, st_eV, st_eU, st_eB, st_tB, st_truM, st_tE, st_tNot, st_tAnd, st_tOr, st_tCh, st_eAnd, st_eOr, st_eNot, st_eIf, st_args0, st_args1, st_eTup, st_eLst, st_intM, st_eSl, st_ownL, st_putL, st_recv, st_eApp, st_ePop, st_eRev, st_eExt, st_callB, st_eCall, st_newB, st_eNew, st_ownO, st_eChn, st_eIdx, isL_l, st_ePopA, st_eEf, st_eIsE, st_eLc2, add_t, sl_t, sl_s, wk_str, in_sgn, st_sFld, st_sSlc, st_sAgI, int_of, fst_ret, fst_exc, st_sSeq, st_sRet, st_sNx, st_sBk, st_sCt, st_sRetN, st_sIf, st_putM, st_sSet, st_sAsg, st_ownP, st_sOwn, st_frz, st_sPar, st_sEx, st_sItem, sItem2, sPut, st_datM, st_sAug, st_sRaise, st_after, st_sTry, st_sFor, st_turn, st_lcStep, st_gxStep, st_eLc, st_eGx, st_iE, st_iR1, st_iR2, st_iEn, st_iZ, st_iZ3, st_iRv, rdS,
  goOn, cB, vI, vB, wk_lst, ls_lst, tr_lst, tp_lst, rv_lst, sl_lst, wk_lsf, ls_lsf, tr_lsf, rv_lsf, sl_lsf, wk_tup, ls_tup, tr_tup, tp_tup, lo_lst, so_lst, so_lsf, so_tup, tr_non, tr_bl, tr_int, tr_r, ii_non_int, ii_non_bool, ii_non_str, ii_non_list, ii_non_tuple, nn_non, nt_non, ii_bl_int, ii_bl_bool, ii_bl_str, ii_bl_list, ii_bl_tuple, nn_bl, nt_bl, nn_bb, nt_bb, ii_int_int, ii_int_bool, ii_int_str, ii_int_list, ii_int_tuple, nn_int, nt_int, ii_str_int, ii_str_bool, ii_str_str, ii_str_list, ii_str_tuple, nn_str, nt_str, ii_lst_int, ii_lst_bool, ii_lst_str, ii_lst_list, ii_lst_tuple, nn_lst, nt_lst, ii_tup_int, ii_tup_bool, ii_tup_str, ii_tup_list, ii_tup_tuple, nn_tup, nt_tup, ii_r_int, ii_r_bool, ii_r_str, ii_r_list, ii_r_tuple, nn_r, nt_r, op_add, op_sub, op_mul, op_fdv, op_mod, op_pow, op_gcd, op_lcm, op_min, op_max, op_lt, op_le, op_gt, op_ge, op_adds, op_addl, op_mull, op_neg, op_abs, op_int, op_intb,
  ix_r0, ix_r1, ix_lst, ix_lsf, ix_tup, len_lst, len_lsf, len_tup, len_r, eq_int, ne_int, eq_str, ne_str, eq_bl, ne_bl, eq_in, eq_ni, eq_nn, ne_in, ne_ni, ne_nn, eq_r, ne_r, eq_rs, ne_rs, atL_nat, atL0, atL1, atL2, atL3, atL4, atL5, ixI0, ixI1, ixI2, ixI3,
  LIM, stays, vw_stay_d, vw_stay_f, vw_stay_o, vw_now_d, vw_now_f, vw_now_o, vw_dull_d, vw_dull_f, vw_dull_o, vw_new_f, vw_view_d, vw_view_f, vw_view_o, vw_noL_d, vw_noL_f, toD_l, toD_o, mkArgs, ownIx, lookIx, nodup, passOk, putBack, putT, putTs, putN_eq, putOk_no, putOk_dat, putOk_own, putOk_jk, isDat_jk, isDat_no, isDat_dat, pars_jk, pars_no, pars_dat, pars_own, pars_par, pars_nilW, exFree_nil, exFree_cons, exF1_no, exF1_dat, exF1_own, exF1_par, exF1_jk, frzE, getO, setO, wipeE, backE, freeAt,  okT, okFl,
  List.cons_append, List.nil_append, List.append_nil, List.replicate_succ, List.replicate_zero, List.set_cons_zero, List.set_cons_succ, List.getElem?_cons_zero, List.getElem?_cons_succ, List.map_cons, List.map_nil, List.getD_cons_zero, List.getD_cons_succ, List.all_cons, List.all_nil, List.contains_cons, List.contains_nil, List.isEmpty_nil, List.isEmpty_cons, List.take_succ_cons, List.take_zero, List.zip_cons_cons, List.zip_nil_left, List.length_cons, List.length_nil, List.length_map, List.getElem?_map, Option.toList,
  Option.map_some, Option.map_none, Option.bind_some, Option.bind_none, Option.isNone_none, Option.isNone_some, Option.some.injEq, Bool.and_true, Bool.true_and, Bool.and_false, Bool.false_and, Bool.or_true, Bool.or_false, Bool.true_or, Bool.false_or, Bool.not_true, Bool.not_false, and_true, true_and, false_and, and_false, if_true, if_false, reduceCtorEq, eq_self, Bool.false_eq_true, Bool.true_eq_false, forall_const, false_implies, true_implies, imp_self, implies_true, Nat.reduceAdd, Nat.reduceSub, Nat.reduceBEq, beq_self_eq_true, decide_true, decide_false, reduceIte, Nat.reduceEqDiff, Nat.reduceLT, Nat.reduceLeDiff, decide_eq_true_eq, decide_eq_false_iff_not, Bool.not_eq_true', Bool.not_eq_false', Bool.not_not, ne_eq, not_false_eq_true, not_true_eq_false, String.reduceBEq, String.reduceEq, Int.toNat_natCast])
local macro_rules | `(tactic| walk_at "wg") => `(tactic| simp -implicitDefEqProofs only [sat_st, fsat_st, fst_run, st_ok, st_exc, st_bad, st_ret, st_bnd, st_optS, st_optN, st_optI, st_optMap, st_optBind, st_iteB, st_now_d, st_now_f, st_now_o, st_stay_d, st_stay_f, st_eC, st_eV, st_eU, st_eB, st_tB, st_truM, st_tE, st_tNot, st_tAnd, st_tOr, st_tCh, st_eAnd, st_eOr, st_eNot, st_eIf, st_args0, st_args1, st_eTup, st_eLst, st_intM, st_eSl, st_ownL, st_putL, st_recv, st_eApp, st_ePop, st_eRev, st_eExt, st_callB, st_eCall, st_newB, st_eNew, st_ownO, st_eChn, st_eIdx, isL_l, st_ePopA, st_eEf, st_eIsE, st_eLc2, add_t, sl_t, sl_s, wk_str, in_sgn, st_sFld, st_sSlc, st_sAgI, int_of, fst_ret, fst_exc, st_sSeq, st_sRet, st_sNx, st_sBk, st_sCt, st_sRetN, st_sIf, st_putM, st_sSet, st_sAsg, st_ownP, st_sOwn, st_frz, st_sPar, st_sEx, st_sItem, sItem2, sPut, st_datM, st_sAug, st_sRaise, st_after, st_sTry, st_sFor, st_turn, st_lcStep, st_gxStep, st_eLc, st_eGx, st_iE, st_iR1, st_iR2, st_iEn, st_iZ, st_iZ3, st_iRv, rdS,
  goOn, cB, vI, vB, wk_lst, ls_lst, tr_lst, tp_lst, rv_lst, sl_lst, wk_lsf, ls_lsf, tr_lsf, rv_lsf, sl_lsf, wk_tup, ls_tup, tr_tup, tp_tup, lo_lst, so_lst, so_lsf, so_tup, tr_non, tr_bl, tr_int, tr_r, ii_non_int, ii_non_bool, ii_non_str, ii_non_list, ii_non_tuple, nn_non, nt_non, ii_bl_int, ii_bl_bool, ii_bl_str, ii_bl_list, ii_bl_tuple, nn_bl, nt_bl, nn_bb, nt_bb, ii_int_int, ii_int_bool, ii_int_str, ii_int_list, ii_int_tuple, nn_int, nt_int, ii_str_int, ii_str_bool, ii_str_str, ii_str_list, ii_str_tuple, nn_str, nt_str, ii_lst_int, ii_lst_bool, ii_lst_str, ii_lst_list, ii_lst_tuple, nn_lst, nt_lst, ii_tup_int, ii_tup_bool, ii_tup_str, ii_tup_list, ii_tup_tuple, nn_tup, nt_tup, ii_r_int, ii_r_bool, ii_r_str, ii_r_list, ii_r_tuple, nn_r, nt_r, op_add, op_sub, op_mul, op_fdv, op_mod, op_pow, op_gcd, op_lcm, op_min, op_max, op_lt, op_le, op_gt, op_ge, op_adds, op_addl, op_mull, op_neg, op_abs, op_int, op_intb,
  ix_r0, ix_r1, ix_lst, ix_lsf, ix_tup, len_lst, len_lsf, len_tup, len_r, eq_int, ne_int, eq_str, ne_str, eq_bl, ne_bl, eq_in, eq_ni, eq_nn, ne_in, ne_ni, ne_nn, eq_r, ne_r, eq_rs, ne_rs, atL_nat, atL0, atL1, atL2, atL3, atL4, atL5, ixI0, ixI1, ixI2, ixI3,
  LIM, stays, vw_stay_d, vw_stay_f, vw_stay_o, vw_now_d, vw_now_f, vw_now_o, vw_dull_d, vw_dull_f, vw_dull_o, vw_new_f, vw_view_d, vw_view_f, vw_view_o, vw_noL_d, vw_noL_f, toD_l, toD_o, mkArgs, ownIx, lookIx, nodup, passOk, putBack, putT, putTs, putN_eq, putOk_no, putOk_dat, putOk_own, putOk_jk, isDat_jk, isDat_no, isDat_dat, pars_jk, pars_no, pars_dat, pars_own, pars_par, pars_nilW, exFree_nil, exFree_cons, exF1_no, exF1_dat, exF1_own, exF1_par, exF1_jk, frzE, getO, setO, wipeE, backE, freeAt,  okT, okFl,
  List.cons_append, List.nil_append, List.append_nil, List.replicate_succ, List.replicate_zero, List.set_cons_zero, List.set_cons_succ, List.getElem?_cons_zero, List.getElem?_cons_succ, List.map_cons, List.map_nil, List.getD_cons_zero, List.getD_cons_succ, List.all_cons, List.all_nil, List.contains_cons, List.contains_nil, List.isEmpty_nil, List.isEmpty_cons, List.take_succ_cons, List.take_zero, List.zip_cons_cons, List.zip_nil_left, List.length_cons, List.length_nil, List.length_map, List.getElem?_map, Option.toList,
  Option.map_some, Option.map_none, Option.bind_some, Option.bind_none, Option.isNone_none, Option.isNone_some, Option.some.injEq, Bool.and_true, Bool.true_and, Bool.and_false, Bool.false_and, Bool.or_true, Bool.or_false, Bool.true_or, Bool.false_or, Bool.not_true, Bool.not_false, and_true, true_and, false_and, and_false, if_true, if_false, reduceCtorEq, eq_self, Bool.false_eq_true, Bool.true_eq_false, forall_const, false_implies, true_implies, imp_self, implies_true, Nat.reduceAdd, Nat.reduceSub, Nat.reduceBEq, beq_self_eq_true, decide_true, decide_false, reduceIte, Nat.reduceEqDiff, Nat.reduceLT, Nat.reduceLeDiff, decide_eq_true_eq, decide_eq_false_iff_not, Bool.not_eq_true', Bool.not_eq_false', Bool.not_not, ne_eq, not_false_eq_true, not_true_eq_false, String.reduceBEq, String.reduceEq, Int.toNat_natCast, nc0, nc1, nc2, nc3, nc4, nc5, nc6, Int.reduceLE, Int.reduceLT, Int.reduceEq, Int.reduceGE, Int.reduceGT, str_inj, nd_ix0, in_three, in_four, gf_ag, gf_ou, gf_ai, gf_pa, gf_lo, gf_nd, gmC_toD, nn_gm, nt_gm, eq_nats, ne_nats, ix_ag0, ix_ag1, ix_kd0, ix_kd1, ix_kd2, ix_kd3, put_ag, put_kd, ii_kd])
namespace UbK
theorem nodup_perm : ∀ {m l : List Nat}, m.Nodup → (∀ x ∈ m, x ∈ l) → l.length ≤ m.length → m.Perm l
  | [], l, _, _, h => by
    cases l with
    | nil => exact .refl _
    | cons a l => exact absurd h (by simp)
  | x :: m, l, hn, hs, hl => by
    have hx : x ∈ l := hs x (by simp)
    have hp : l.Perm (x :: l.erase x) := List.perm_cons_erase hx
    rw [List.nodup_cons] at hn
    refine .trans (.cons x (nodup_perm hn.2 (fun y hy => ?_) ?_)) hp.symm
    · exact (List.mem_erase_of_ne (fun (e : y = x) => hn.1 (by rw [← e]; exact hy))).mpr (hs y (by simp [hy]))
    · have := hp.length_eq
      rw [List.length_cons] at this hl
      omega
theorem nodup_le : ∀ {m l : List Nat}, m.Nodup → (∀ x ∈ m, x ∈ l) → m.length ≤ l.length
  | [], l, _, _ => by simp
  | x :: m, l, hn, hs => by
    have hx : x ∈ l := hs x (by simp)
    have hp : l.Perm (x :: l.erase x) := List.perm_cons_erase hx
    rw [List.nodup_cons] at hn
    have := nodup_le hn.2 (l := l.erase x) (fun y hy => (List.mem_erase_of_ne (fun (e : y = x) => hn.1 (by rw [← e]; exact hy))).mpr (hs y (by simp [hy])))
    have h2 := hp.length_eq
    rw [List.length_cons] at h2 ⊢
    omega
/-- a list of n numbers that has each number below n -/
theorem cover_perm {l : List Nat} {n : Nat} (hl : l.length = n) (h : ∀ b, b < n → b ∈ l) : l.Perm (List.range n) :=
  (nodup_perm List.nodup_range (fun x hx => h x (List.mem_range.mp hx)) (by rw [List.length_range]; omega)).symm
/-- sums over a list -/
def sumL (g : Nat → Nat) (l : List Nat) : Nat := l.foldr (fun x s => g x + s) 0
/-- the first wish that is left -/
def ptN (l left : List Nat) : Nat := (l.filter fun x => decide (x ∈ left)).headD 0
theorem pt_cons1 {x : Nat} {l left : List Nat} (h : x ∈ left) : ptN (x :: l) left = x := by
  unfold ptN
  rw [List.filter_cons, if_pos (decide_eq_true h)]
  rfl
theorem pt_cons2 {x : Nat} {l left : List Nat} (h : x ∉ left) : ptN (x :: l) left = ptN l left := by
  unfold ptN
  rw [List.filter_cons, if_neg (by rw [decide_eq_true_eq]; exact h)]
theorem idx_ne {x y : Nat} {l : List Nat} (h : x ≠ y) : (x :: l).idxOf y = l.idxOf y + 1 := by
  rw [List.idxOf_cons, show (x == y) = false from beq_eq_false_iff_ne.mpr h]
  rfl
theorem pt_ok {left : List Nat} : ∀ (l : List Nat), (∃ y ∈ l, y ∈ left) → ptN l left ∈ left ∧ ptN l left ∈ l ∧ ∀ b ∈ left, l.idxOf (ptN l left) ≤ l.idxOf b
  | [], h => by obtain ⟨y, hy, _⟩ := h; cases hy
  | x :: l, h => by
    by_cases hx : x ∈ left
    · rw [pt_cons1 hx]
      refine ⟨hx, by simp, fun b _ => ?_⟩
      rw [List.idxOf_cons_self]
      omega
    · rw [pt_cons2 hx]
      obtain ⟨y, hy, hyl⟩ := h
      have hy' : y ∈ l := by
        rcases List.mem_cons.mp hy with rfl | hy
        · exact absurd hyl hx
        · exact hy
      obtain ⟨h1, h2, h3⟩ := pt_ok l ⟨y, hy', hyl⟩
      refine ⟨h1, by simp [h2], fun b hb => ?_⟩
      rw [idx_ne (fun e => hx (by rw [e]; exact h1)), idx_ne (fun e => hx (by rw [e]; exact hb))]
      have := h3 b hb
      omega
/-- the wishes: n lists, each of all things -/
structure WsOk (n : Nat) (W : List (List Nat)) : Prop where
  len : W.length = n
  perm : ∀ w ∈ W, w.Perm (List.range n)
theorem WsOk.at {n : Nat} {W : List (List Nat)} (h : WsOk n W) {a : Nat} (ha : a < n) : (W.getD a []).Perm (List.range n) := by
  rw [List.getD_eq_getElem?_getD, List.getElem?_eq_getElem (by rw [h.len]; exact ha)]
  exact h.perm _ (List.getElem_mem ..)
theorem WsOk.mem {n : Nat} {W : List (List Nat)} (h : WsOk n W) {a b : Nat} (ha : a < n) (hb : b < n) : b ∈ W.getD a [] :=
  (h.at ha).mem_iff.mpr (List.mem_range.mpr hb)
theorem WsOk.inj {n : Nat} {W : List (List Nat)} (h : WsOk n W) {a b c : Nat} (ha : a < n) (hb : b < n) (hc : c < n) (e : (W.getD a []).idxOf b = (W.getD a []).idxOf c) : b = c := by
  have h1 := List.getElem_idxOf (List.idxOf_lt_length_of_mem (h.mem ha hb))
  have h2 := List.getElem_idxOf (List.idxOf_lt_length_of_mem (h.mem ha hc))
  rw [← h1, ← h2]
  simp only [e]
/-- what a trade does -/
structure Trd (n : Nat) (W : List (List Nat)) (τ : List Nat) : Prop where
  perm : τ.Perm (List.range n)
  time : ∃ T : Nat → Nat, (∀ a, a < n → T (τ.getD a 0) = T a) ∧ ∀ a b, a < n → b < n → T a ≤ T b → (W.getD a []).idxOf (τ.getD a 0) ≤ (W.getD a []).idxOf b
theorem Trd.len {n : Nat} {W : List (List Nat)} {τ : List Nat} (h : Trd n W τ) : τ.length = n := by
  rw [h.perm.length_eq, List.length_range]
theorem getD_mem {l : List Nat} {a : Nat} (h : a < l.length) : l.getD a 0 ∈ l := by
  rw [List.getD_eq_getElem?_getD, List.getElem?_eq_getElem h]
  exact List.getElem_mem ..
theorem Trd.lt {n : Nat} {W : List (List Nat)} {τ : List Nat} (h : Trd n W τ) {a : Nat} (ha : a < n) : τ.getD a 0 < n :=
  List.mem_range.mp (h.perm.mem_iff.mp (getD_mem (by rw [h.len]; exact ha)))
theorem Trd.inj {n : Nat} {W : List (List Nat)} {τ : List Nat} (h : Trd n W τ) {a b : Nat} (ha : a < n) (hb : b < n) (e : τ.getD a 0 = τ.getD b 0) : a = b := by
  have hn : τ.Nodup := h.perm.nodup_iff.mpr List.nodup_range
  have ha' : a < τ.length := by rw [h.len]; exact ha
  have hb' : b < τ.length := by rw [h.len]; exact hb
  rw [List.getD_eq_getElem?_getD, List.getElem?_eq_getElem ha', List.getD_eq_getElem?_getD, List.getElem?_eq_getElem hb'] at e
  exact (List.getElem_inj hn).mp e
theorem Trd.surj {n : Nat} {W : List (List Nat)} {τ : List Nat} (h : Trd n W τ) {b : Nat} (hb : b < n) : ∃ a, a < n ∧ τ.getD a 0 = b := by
  have := h.perm.mem_iff.mpr (List.mem_range.mpr hb)
  obtain ⟨a, ha, e⟩ := List.getElem_of_mem this
  refine ⟨a, by rw [h.len] at ha; exact ha, ?_⟩
  rw [List.getD_eq_getElem?_getD, List.getElem?_eq_getElem ha]
  exact e
/-- nobody gets a thing behind its own -/
theorem Trd.own {n : Nat} {W : List (List Nat)} {τ : List Nat} (h : Trd n W τ) {a : Nat} (ha : a < n) : (W.getD a []).idxOf (τ.getD a 0) ≤ (W.getD a []).idxOf a := by
  obtain ⟨T, _, h2⟩ := h.time
  exact h2 a a ha ha (Nat.le_refl _)
/-- a cycle among those that are left -/
structure Cyc (W : List (List Nat)) (left C : List Nat) : Prop where
  ne : C ≠ []
  sub : ∀ a ∈ C, a ∈ left
  to : ∀ a ∈ C, ptN (W.getD a []) left ∈ C
  fro : ∀ b ∈ C, ∃ a ∈ C, ptN (W.getD a []) left = b
/-- a way of pointing -/
structure Pth (W : List (List Nat)) (left p : List Nat) : Prop where
  ne : p ≠ []
  nd : p.Nodup
  sub : ∀ a ∈ p, a ∈ left
  nx : ∀ i, i + 1 < p.length → p.getD (i + 1) 0 = ptN (W.getD (p.getD i 0) []) left
theorem gd_app1 {l m : List Nat} {i : Nat} (h : i < l.length) : (l ++ m).getD i 0 = l.getD i 0 := by
  rw [List.getD_eq_getElem?_getD, List.getElem?_append_left h, List.getD_eq_getElem?_getD]
theorem gd_app2 {l : List Nat} {x : Nat} : (l ++ [x]).getD l.length 0 = x := by
  rw [List.getD_eq_getElem?_getD, List.getElem?_append_right (Nat.le_refl _), Nat.sub_self]
  rfl
theorem Pth.snoc {W : List (List Nat)} {left p : List Nat} {x : Nat} (h : Pth W left p) (hx : x ∈ left) (hn : x ∉ p) (e : x = ptN (W.getD (p.getD (p.length - 1) 0) []) left) : Pth W left (p ++ [x]) where
  ne := by simp
  nd := by
    rw [List.nodup_append]
    refine ⟨h.nd, by simp, fun a ha b hb => ?_⟩
    rw [List.mem_singleton] at hb
    subst hb
    exact fun e => hn (e ▸ ha)
  sub := fun a ha => by
    rcases List.mem_append.mp ha with ha | ha
    · exact h.sub a ha
    · rw [List.mem_singleton] at ha; exact ha ▸ hx
  nx := fun i hi => by
    rw [List.length_append, List.length_singleton] at hi
    rcases Nat.lt_or_ge (i + 1) p.length with hlt | hge
    · rw [gd_app1 hlt, gd_app1 (by omega)]
      exact h.nx i hlt
    · have hi' : i + 1 = p.length := by omega
      have hp : 0 < p.length := List.length_pos_iff.mpr h.ne
      rw [hi', gd_app2, gd_app1 (by omega), e, show p.length - 1 = i by omega]
/-- how far the trade is -/
structure Tri (n : Nat) (W : List (List Nat)) (left : List Nat) (got : List (Option Nat)) : Prop where
  len : got.length = n
  nd : left.Nodup
  lt : ∀ a ∈ left, a < n
  surj : ∀ b, b < n → b ∉ left → ∃ a, a < n ∧ a ∉ left ∧ got[a]? = some (some b)
  time : ∃ (T : Nat → Nat) (K : Nat), ∀ a, a < n → a ∉ left → T a < K ∧ ∃ b, got[a]? = some (some b) ∧ b < n ∧ b ∉ left ∧ T b = T a ∧ ∀ c, c < n → (c ∈ left ∨ T a ≤ T c) → (W.getD a []).idxOf b ≤ (W.getD a []).idxOf c
theorem Tri.start (n : Nat) (W : List (List Nat)) : Tri n W (List.range n) (List.replicate n none) where
  len := List.length_replicate
  nd := List.nodup_range
  lt := fun a ha => List.mem_range.mp ha
  surj := fun b hb h => absurd (List.mem_range.mpr hb) h
  time := ⟨fun _ => 0, 0, fun a ha h => absurd (List.mem_range.mpr ha) h⟩
/-- a cycle gets what it points at -/
def giveC (W : List (List Nat)) (left : List Nat) (C : List Nat) (got : List (Option Nat)) : List (Option Nat) := C.foldl (fun got a => got.set a (some (ptN (W.getD a []) left))) got
theorem give_len {W : List (List Nat)} {left : List Nat} : ∀ (C : List Nat) (got : List (Option Nat)), (giveC W left C got).length = got.length
  | [], got => rfl
  | a :: C, got => by
    show (giveC W left C (got.set a _)).length = _
    rw [give_len C, List.length_set]
theorem give_at {W : List (List Nat)} {left : List Nat} : ∀ (C : List Nat) (got : List (Option Nat)) (i : Nat), i < got.length → (giveC W left C got)[i]? = if i ∈ C then some (some (ptN (W.getD i []) left)) else got[i]?
  | [], got, i, _ => by rw [if_neg (by simp)]; rfl
  | a :: C, got, i, hi => by
    show (giveC W left C (got.set a _))[i]? = _
    rw [give_at C _ i (by rw [List.length_set]; exact hi)]
    by_cases h1 : i ∈ C
    · rw [if_pos h1, if_pos (by simp [h1])]
    · rw [if_neg h1, List.getElem?_set]
      by_cases h2 : a = i
      · subst h2
        rw [if_pos rfl, if_pos hi, if_pos (by simp)]
      · rw [if_neg h2, if_neg (by simp [h1, Ne.symm h2])]
theorem Tri.step {n : Nat} {W : List (List Nat)} {left C : List Nat} {got : List (Option Nat)} (hW : WsOk n W) (h : Tri n W left got) (c : Cyc W left C) : Tri n W (left.filter fun a => decide (a ∉ C)) (giveC W left C got) := by
  have hin : ∀ a, a ∈ left.filter (fun a => decide (a ∉ C)) ↔ a ∈ left ∧ a ∉ C := fun a => by rw [List.mem_filter, decide_eq_true_eq]
  have hpt : ∀ a ∈ C, ptN (W.getD a []) left ∈ left ∧ ∀ b ∈ left, (W.getD a []).idxOf (ptN (W.getD a []) left) ≤ (W.getD a []).idxOf b := fun a ha => by
    have hal := c.sub a ha
    have han := h.lt a hal
    obtain ⟨q1, _, q3⟩ := pt_ok (left := left) (W.getD a []) ⟨a, hW.mem han han, hal⟩
    exact ⟨q1, q3⟩
  have hat : ∀ a, a < n → (giveC W left C got)[a]? = if a ∈ C then some (some (ptN (W.getD a []) left)) else got[a]? := fun a ha => give_at C got a (by rw [h.len]; exact ha)
  refine ⟨by rw [give_len, h.len], List.Pairwise.filter _ h.nd, fun a ha => h.lt a ((hin a).mp ha).1, fun b hb hbn => ?_, ?_⟩
  · by_cases hbC : b ∈ C
    · obtain ⟨a, haC, hab⟩ := c.fro b hbC
      have han := h.lt a (c.sub a haC)
      refine ⟨a, han, fun hx => ((hin a).mp hx).2 haC, ?_⟩
      rw [hat a han, if_pos haC, hab]
    · have hbl : b ∉ left := fun hx => hbn ((hin b).mpr ⟨hx, hbC⟩)
      obtain ⟨a, ha, hal, e⟩ := h.surj b hb hbl
      refine ⟨a, ha, fun hx => hal ((hin a).mp hx).1, ?_⟩
      rw [hat a ha, if_neg (fun hx => hal (c.sub a hx)), e]
  · obtain ⟨T, K, hT⟩ := h.time
    refine ⟨fun a => if a ∈ C then K else T a, K + 1, fun a ha hal => ?_⟩
    dsimp only
    by_cases haC : a ∈ C
    · obtain ⟨q1, q3⟩ := hpt a haC
      have hto := c.to a haC
      rw [if_pos haC]
      refine ⟨by omega, ptN (W.getD a []) left, by rw [hat a ha, if_pos haC], h.lt _ q1, fun hx => ((hin _).mp hx).2 hto, by rw [if_pos hto], fun b hb hbb => q3 b ?_⟩
      rcases hbb with hbb | hbb
      · exact ((hin b).mp hbb).1
      · by_cases hbC : b ∈ C
        · exact c.sub b hbC
        · rw [if_neg hbC] at hbb
          by_cases hbl : b ∈ left
          · exact hbl
          · have := (hT b hb hbl).1
            omega
    · have hal' : a ∉ left := fun hx => hal ((hin a).mpr ⟨hx, haC⟩)
      obtain ⟨hK, b, e, hbn, hbl, hTb, hbest⟩ := hT a ha hal'
      have hbC : b ∉ C := fun hx => hbl (c.sub b hx)
      rw [if_neg haC]
      refine ⟨by omega, b, by rw [hat a ha, if_neg haC, e], hbn, fun hx => hbl ((hin b).mp hx).1, by rw [if_neg hbC, hTb], fun d hd hdd => hbest d hd ?_⟩
      rcases hdd with hdd | hdd
      · exact .inl ((hin d).mp hdd).1
      · by_cases hdl : d ∈ left
        · exact .inl hdl
        · rw [if_neg (fun hx => hdl (c.sub d hx))] at hdd
          exact .inr hdd
theorem Tri.done {n : Nat} {W : List (List Nat)} {got : List (Option Nat)} (h : Tri n W [] got) : ∃ τ : List Nat, got = τ.map some ∧ Trd n W τ := by
  obtain ⟨T, K, hT⟩ := h.time
  have hg : ∀ a, a < n → ∃ b, got[a]? = some (some b) := fun a ha => by
    obtain ⟨_, b, e, _⟩ := hT a ha (by simp)
    exact ⟨b, e⟩
  have hgm : got = (got.map fun o => o.getD 0).map some := by
    rw [List.map_map]
    apply List.ext_getElem?
    intro i
    rw [List.getElem?_map]
    rcases Nat.lt_or_ge i n with hi | hi
    · obtain ⟨b, e⟩ := hg i hi
      rw [e]; rfl
    · rw [List.getElem?_eq_none (by rw [h.len]; exact hi)]; rfl
  have hat : ∀ a b, got[a]? = some (some b) → (got.map fun o => o.getD 0).getD a 0 = b := fun a b e => by
    rw [List.getD_eq_getElem?_getD, List.getElem?_map, e]; rfl
  refine ⟨_, hgm, ?_, T, fun a ha => ?_, fun a b ha hb hab => ?_⟩
  · refine cover_perm (by rw [List.length_map, h.len]) fun b hb => ?_
    obtain ⟨a, ha, _, e⟩ := h.surj b hb (by simp)
    rw [← hat a b e]
    exact getD_mem (by rw [List.length_map, h.len]; exact ha)
  · obtain ⟨_, b, e, _, _, hTb, _⟩ := hT a ha (by simp)
    rw [hat a b e, hTb]
  · obtain ⟨_, c, e, _, _, _, hbest⟩ := hT a ha (by simp)
    rw [hat a c e]
    exact hbest b hb (.inr hab)
theorem idx_inj {l : List Nat} {x y : Nat} (hx : x ∈ l) (hy : y ∈ l) (e : l.idxOf x = l.idxOf y) : x = y := by
  have h1 := List.getElem_idxOf (List.idxOf_lt_length_of_mem hx)
  have h2 := List.getElem_idxOf (List.idxOf_lt_length_of_mem hy)
  rw [← h1, ← h2]
  simp only [e]
theorem idx_at {l : List Nat} (nd : l.Nodup) {j r : Nat} (h : l[j]? = some r) : l.idxOf r = j ∧ r ∈ l := by
  obtain ⟨hj, e⟩ := List.getElem?_eq_some_iff.mp h
  subst e
  exact ⟨nd.idxOf_getElem j hj, List.getElem_mem hj⟩
theorem at_idx {l : List Nat} {r : Nat} (h : r ∈ l) : l[l.idxOf r]? = some r := by
  have hj := List.idxOf_lt_length_of_mem h
  rw [List.getElem?_eq_getElem hj, List.getElem_idxOf hj]
/-- how far down the list -/
def ixO (w : List Nat) : Option Nat → Nat
  | none => w.length
  | some y => w.idxOf y
/-- a stable matching -/
structure StM (P R : Nat → List Nat) (n m : Nat) (μ : Nat → Option Nat) : Prop where
  ir : ∀ p, p < n → ∀ r, μ p = some r → r < m ∧ r ∈ P p ∧ p ∈ R r
  inj : ∀ p, p < n → ∀ q, q < n → ∀ r, μ p = some r → μ q = some r → p = q
  nb : ∀ p, p < n → ∀ r, r < m → r ∈ P p → p ∈ R r → (P p).idxOf r < ixO (P p) (μ p) → ∃ q, q < n ∧ μ q = some r ∧ (R r).idxOf q < (R r).idxOf p
structure OptM (P R : Nat → List Nat) (n m : Nat) (μ : Nat → Option Nat) : Prop where
  st : StM P R n m μ
  opt : ∀ ν, StM P R n m ν → ∀ p, p < n → ixO (P p) (μ p) ≤ ixO (P p) (ν p)
section
variable {P R : Nat → List Nat} {n m : Nat} {μ ν : Nat → Option Nat}
theorem StM.lt (S : StM P R n m μ) {p : Nat} (hp : p < n) {r : Nat} (h : μ p = some r) : ixO (P p) (μ p) < (P p).length := by
  rw [h]
  exact List.idxOf_lt_length_of_mem (S.ir p hp r h).2.1
/-- the matched receivers -/
def rcv (n : Nat) (μ : Nat → Option Nat) : List Nat := (List.range n).filterMap μ
theorem mem_rcv {r : Nat} : r ∈ rcv n μ ↔ ∃ p, p < n ∧ μ p = some r := by
  unfold rcv
  rw [List.mem_filterMap]
  exact ⟨fun ⟨p, h1, h2⟩ => ⟨p, List.mem_range.mp h1, h2⟩, fun ⟨p, h1, h2⟩ => ⟨p, List.mem_range.mpr h1, h2⟩⟩
theorem rcv_len : (rcv n μ).length = ((List.range n).filter fun p => (μ p).isSome).length := by
  unfold rcv
  rw [List.length_filterMap_eq_countP, List.countP_eq_length_filter]
theorem rcv_nodup (h : ∀ p, p < n → ∀ q, q < n → ∀ r, μ p = some r → μ q = some r → p = q) : (rcv n μ).Nodup := by
  unfold rcv
  have go : ∀ l : List Nat, l.Nodup → (∀ p ∈ l, p < n) → (l.filterMap μ).Nodup := by
    intro l
    induction l with
    | nil => intro _ _; exact List.nodup_nil
    | cons a l ih =>
      intro nd hl
      obtain ⟨n1, n2⟩ := List.nodup_cons.mp nd
      rw [List.filterMap_cons]
      cases e : μ a with
      | none => exact ih n2 fun p hp => hl p (List.mem_cons_of_mem _ hp)
      | some r =>
        refine List.nodup_cons.mpr ⟨fun hr => ?_, ih n2 fun p hp => hl p (List.mem_cons_of_mem _ hp)⟩
        obtain ⟨q, hq, eq⟩ := List.mem_filterMap.mp hr
        have := h a (hl a List.mem_cons_self) q (hl q (List.mem_cons_of_mem _ hq)) r e eq
        exact n1 (by rw [this]; exact hq)
  exact go _ List.nodup_range fun p hp => List.mem_range.mp hp
/-- all stable matchings match the same -/
theorem OptM.rural (O : OptM P R n m μ) (S : StM P R n m ν) : (∀ p, p < n → (μ p = none ↔ ν p = none)) ∧ ∀ r, (∃ p, p < n ∧ μ p = some r) ↔ ∃ p, p < n ∧ ν p = some r := by
  have h1 : ∀ p, p < n → ν p ≠ none → μ p ≠ none := fun p hp h z => by
    obtain ⟨r, e⟩ := Option.ne_none_iff_exists'.mp h
    have a := O.opt ν S p hp
    have b := S.lt hp e
    rw [z] at a
    have : (P p).length ≤ ixO (P p) (ν p) := a
    omega
  have h2 : ∀ r, r ∈ rcv n μ → r ∈ rcv n ν := fun r hr => by
    obtain ⟨p, hp, e⟩ := mem_rcv.mp hr
    obtain ⟨i1, i2, i3⟩ := O.st.ir p hp r e
    by_cases h : ν p = some r
    · exact mem_rcv.mpr ⟨p, hp, h⟩
    · have a := O.opt ν S p hp
      rw [e] at a
      have a : (P p).idxOf r ≤ ixO (P p) (ν p) := a
      have ne : (P p).idxOf r ≠ ixO (P p) (ν p) := fun z => by
        cases e2 : ν p with
        | none =>
          rw [e2] at z
          have := List.idxOf_lt_length_of_mem i2
          have z : (P p).idxOf r = (P p).length := z
          omega
        | some r' =>
          rw [e2] at z
          have := idx_inj i2 (S.ir p hp r' e2).2.1 z
          exact h (by rw [e2, this])
      obtain ⟨q, hq, eq, _⟩ := S.nb p hp r i1 i2 i3 (by omega)
      exact mem_rcv.mpr ⟨q, hq, eq⟩
  have nμ := rcv_nodup O.st.inj
  have nν := rcv_nodup S.inj
  have l1 := nodup_le nμ h2
  have fN : ∀ f : Nat → Option Nat, ((List.range n).filter fun p => (f p).isSome).Nodup := fun f => List.nodup_range.filter _
  have sub : ∀ p, p ∈ ((List.range n).filter fun p => (ν p).isSome) → p ∈ ((List.range n).filter fun p => (μ p).isSome) := fun p hp => by
    rw [List.mem_filter] at hp ⊢
    refine ⟨hp.1, ?_⟩
    have := h1 p (List.mem_range.mp hp.1) fun z => by rw [z] at hp; exact absurd hp.2 (by decide)
    obtain ⟨r, e⟩ := Option.ne_none_iff_exists'.mp this
    rw [e]
    rfl
  have l2 := nodup_le (fN ν) sub
  rw [rcv_len, rcv_len] at l1
  have p1 := nodup_perm (fN ν) sub l1
  have p2 := nodup_perm nμ h2 (by rw [rcv_len, rcv_len]; exact l2)
  refine ⟨fun p hp => ?_, fun r => ?_⟩
  · have := p1.mem_iff (a := p)
    rw [List.mem_filter, List.mem_filter] at this
    have hr := List.mem_range.mpr hp
    constructor
    · intro z
      cases e : ν p with
      | none => rfl
      | some r =>
        have := (this.mp ⟨hr, by rw [e]; rfl⟩).2
        rw [z] at this
        cases this
    · intro z
      cases e : μ p with
      | none => rfl
      | some r =>
        have := (this.mpr ⟨hr, by rw [e]; rfl⟩).2
        rw [z] at this
        cases this
  · rw [← mem_rcv, ← mem_rcv]
    exact p2.mem_iff
/-- a function with one value changed -/
def upF {α : Type} (f : Nat → α) (a : Nat) (v : α) : Nat → α := fun x => if x = a then v else f x
theorem upF_same {α : Type} {f : Nat → α} {a : Nat} {v : α} : upF f a v a = v := if_pos rfl
theorem upF_ne {α : Type} {f : Nat → α} {a x : Nat} {v : α} (h : x ≠ a) : upF f a v x = f x := if_neg h
/-- no proposer gains by another list -/
theorem no_gain {L : List Nat} {l : Nat} {μ μ' : Nat → Option Nat} (hl : l < n) (hn : (P l).Nodup) (hr : ∀ r ∈ P l, r < m)
    (ex : ∀ L : List Nat, L.Nodup → (∀ r ∈ L, r < m) → ∃ ν, OptM (upF P l L) R n m ν)
    (O : OptM P R n m μ) (O' : OptM (upF P l L) R n m μ') {w : Nat} (hw : μ' l = some w) (hwP : w ∈ P l) : ixO (P l) (μ l) ≤ (P l).idxOf w := by
  have wm := hr w hwP
  have wR := (O'.st.ir l hl w hw).2.2
  -- only w
  have S1 : StM (upF P l [w]) R n m μ' := by
    refine ⟨fun p hp r h => ?_, O'.st.inj, fun p hp r hr' h1 h2 h3 => ?_⟩
    · obtain ⟨a, b, c⟩ := O'.st.ir p hp r h
      refine ⟨a, ?_, c⟩
      by_cases e : p = l
      · subst e
        rw [hw] at h
        cases h
        rw [upF_same]
        exact List.mem_singleton.mpr rfl
      · rw [upF_ne e] at b ⊢
        exact b
    · by_cases e : p = l
      · subst e
        rw [upF_same] at h1 h3
        rw [List.mem_singleton.mp h1, hw] at h3
        exact absurd h3 (Nat.lt_irrefl _)
      · rw [upF_ne e] at h1 h3
        exact O'.st.nb p hp r hr' (by rw [upF_ne e]; exact h1) h2 (by rw [upF_ne e]; exact h3)
  obtain ⟨κ, K⟩ := ex [w] (by simp) (fun r h => by rw [List.mem_singleton.mp h]; exact wm)
  -- down to w
  let T := (P l).take ((P l).idxOf w + 1)
  have hi := List.idxOf_lt_length_of_mem hwP
  have Tat : ∀ j, j ≤ (P l).idxOf w → T[j]? = (P l)[j]? := fun j hj => by
    show ((P l).take ((P l).idxOf w + 1))[j]? = _
    rw [List.getElem?_take, if_pos (by omega)]
  have Tsub : ∀ r ∈ T, r ∈ P l := fun r h => List.mem_of_mem_take h
  have Tnd : T.Nodup := List.Sublist.nodup (List.take_sublist _ _) hn
  have Tix : ∀ r, r ∈ T → T.idxOf r = (P l).idxOf r ∧ (P l).idxOf r ≤ (P l).idxOf w := fun r h => by
    obtain ⟨j, hj, e⟩ := List.getElem_of_mem h
    have hT : T.length = (P l).idxOf w + 1 := by
      show ((P l).take _).length = _
      rw [List.length_take]
      omega
    have e1 : T[j]? = some r := by rw [List.getElem?_eq_getElem hj, e]
    have e2 : (P l)[j]? = some r := by rw [← Tat j (by omega)]; exact e1
    rw [(idx_at Tnd e1).1, (idx_at hn e2).1]
    exact ⟨rfl, by omega⟩
  have Tin : ∀ r, r ∈ P l → (P l).idxOf r ≤ (P l).idxOf w → r ∈ T := fun r h1 h2 => by
    have e := at_idx h1
    rw [← Tat _ h2] at e
    exact List.mem_of_getElem? e
  obtain ⟨ν, N⟩ := ex T Tnd fun r h => hr r (Tsub r h)
  cases e : ν l with
  | none =>
    have S2 : StM (upF P l [w]) R n m ν := by
      refine ⟨fun p hp r h => ?_, N.st.inj, fun p hp r hr' h1 h2 h3 => ?_⟩
      · have hne : p ≠ l := fun z => by rw [z, e] at h; cases h
        have := N.st.ir p hp r h
        rw [upF_ne hne] at this ⊢
        exact this
      · by_cases z : p = l
        · subst z
          rw [upF_same] at h1
          have hrw := List.mem_singleton.mp h1
          subst hrw
          refine N.st.nb p hp r hr' ?_ h2 ?_
          · rw [upF_same]
            exact Tin r hwP (Nat.le_refl _)
          · rw [upF_same, e]
            exact List.idxOf_lt_length_of_mem (Tin r hwP (Nat.le_refl _))
        · rw [upF_ne z] at h1 h3
          exact N.st.nb p hp r hr' (by rw [upF_ne z]; exact h1) h2 (by rw [upF_ne z]; exact h3)
    have a := (K.rural S1).1 l hl
    have b := (K.rural S2).1 l hl
    rw [hw] at a
    have := b.mpr e
    rw [this] at a
    cases a.mp rfl
  | some w2 =>
    have h2 := (N.st.ir l hl w2 e).2.1
    rw [upF_same] at h2
    have S3 : StM P R n m ν := by
      refine ⟨fun p hp r h => ?_, N.st.inj, fun p hp r hr' h1 h2' h3 => ?_⟩
      · have := N.st.ir p hp r h
        by_cases z : p = l
        · subst z
          rw [upF_same] at this
          exact ⟨this.1, Tsub r this.2.1, this.2.2⟩
        · rw [upF_ne z] at this
          exact this
      · by_cases z : p = l
        · subst z
          have t2 := Tix w2 h2
          rw [e] at h3
          have h3 : (P p).idxOf r < (P p).idxOf w2 := h3
          have rT := Tin r h1 (by omega)
          refine N.st.nb p hp r hr' (by rw [upF_same]; exact rT) h2' ?_
          rw [upF_same, e]
          show T.idxOf r < T.idxOf w2
          rw [(Tix r rT).1, t2.1]
          exact h3
        · exact N.st.nb p hp r hr' (by rw [upF_ne z]; exact h1) h2' (by rw [upF_ne z]; exact h3)
    have := O.opt ν S3 l hl
    rw [e] at this
    have this : ixO (P l) (μ l) ≤ (P l).idxOf w2 := this
    have := (Tix w2 h2).2
    omega
end
structure Da (P R : Nat → List Nat) (n m : Nat) (k : Nat → Nat) (kept : Nat → Option Nat) (single : List Nat) : Prop where
  kle : ∀ p, p < n → k p ≤ (P p).length
  hold : ∀ r, r < m → ∀ q, kept r = some q → q < n ∧ q ∈ R r ∧ 0 < k q ∧ (P q)[k q - 1]? = some r
  free : ∀ p, p < n → p ∉ single → (∃ r, r < m ∧ kept r = some p) ∨ k p = (P p).length
  nd : single.Nodup
  sg : ∀ p ∈ single, p < n ∧ ∀ r, r < m → kept r ≠ some p
  best : ∀ p, p < n → ∀ j, j < k p → ∀ r, (P p)[j]? = some r → p ∈ R r → ∃ q, kept r = some q ∧ (R r).idxOf q ≤ (R r).idxOf p
  opt : ∀ μ, StM P R n m μ → ∀ p, p < n → ∀ j, j < k p → ∀ r, (P p)[j]? = some r → kept r ≠ some p → μ p ≠ some r
section
variable {P R : Nat → List Nat} {n m : Nat} {k : Nat → Nat} {kept : Nat → Option Nat} {single : List Nat}
/-- the lists -/
structure Lts (P R : Nat → List Nat) (n m : Nat) : Prop where
  pn : ∀ p, p < n → (P p).Nodup
  pl : ∀ p, p < n → ∀ r ∈ P p, r < m
  rn : ∀ r, r < m → (R r).Nodup
  rl : ∀ r, r < m → ∀ p ∈ R r, p < n
theorem Da.start : Da P R n m (fun _ => 0) (fun _ => none) (List.range n) :=
  ⟨fun _ _ => Nat.zero_le _, fun _ _ _ h => (nomatch h), fun p hp h => absurd (List.mem_range.mpr hp) h, List.nodup_range, fun p hp => ⟨List.mem_range.mp hp, fun _ _ h => (nomatch h)⟩, fun _ _ _ h => absurd h (Nat.not_lt_zero _), fun _ _ _ _ _ h => absurd h (Nat.not_lt_zero _)⟩
/-- one has no wish left -/
theorem Da.out {p : Nat} (h : Da P R n m k kept (single ++ [p])) (he : k p = (P p).length) : Da P R n m k kept single := by
  have nd := h.nd
  rw [List.nodup_append] at nd
  refine ⟨h.kle, h.hold, fun q hq hqs => ?_, nd.1, fun q hq => h.sg q (List.mem_append_left _ hq), h.best, h.opt⟩
  by_cases e : q = p
  · rw [e]; exact .inr he
  · exact h.free q hq fun z => by
      rcases List.mem_append.mp z with z | z
      · exact hqs z
      · exact e (List.mem_singleton.mp z)
/-- what a new wish changes, whoever is rejected -/
theorem Da.wish (L : Lts P R n m) {p r : Nat} (h : Da P R n m k kept (single ++ [p])) (hk : (P p)[k p]? = some r) : p < n ∧ r < m ∧ r ∈ P p ∧ (P p).idxOf r = k p ∧ (∀ s, s < m → kept s ≠ some p) ∧ (∀ q, kept r = some q → q < n ∧ q ∈ R r ∧ q ∉ single ++ [p]) := by
  obtain ⟨hp, hs⟩ := h.sg p (by simp)
  have hr := L.pl p hp r (List.mem_of_getElem? hk)
  obtain ⟨i1, i2⟩ := idx_at (L.pn p hp) hk
  refine ⟨hp, hr, i2, i1, hs, fun q hq => ?_⟩
  obtain ⟨a, b, _⟩ := h.hold r hr q hq
  exact ⟨a, b, fun z => (h.sg q z).2 r hr hq⟩
theorem klt {j : Nat} {r : Nat} {p : Nat} (hk : (P p)[j]? = some r) : j + 1 ≤ (P p).length := (List.getElem?_eq_some_iff.mp hk).1
/-- the wish is refused -/
theorem Da.refuse (L : Lts P R n m) {p r : Nat} (h : Da P R n m k kept (single ++ [p])) (hk : (P p)[k p]? = some r)
    (no : p ∉ R r ∨ ∃ q, kept r = some q ∧ (R r).idxOf q < (R r).idxOf p) : Da P R n m (upF k p (k p + 1)) kept (single ++ [p]) := by
  obtain ⟨hp, hr, hrP, hix, hnk, hkr⟩ := h.wish L hk
  have kk : ∀ q j, j < upF k p (k p + 1) q → q ≠ p ∧ j < k q ∨ q = p ∧ (j < k p ∨ j = k p) := fun q j hj => by
    by_cases e : q = p
    · subst e
      rw [upF_same] at hj
      exact .inr ⟨rfl, by omega⟩
    · rw [upF_ne e] at hj
      exact .inl ⟨e, hj⟩
  refine ⟨fun q hq => ?_, fun s hs q hq => ?_, fun q hq hqs => ?_, h.nd, h.sg, fun q hq j hj s hs hqs => ?_, fun μ S q hq j hj s hs hks => ?_⟩
  · by_cases e : q = p
    · subst e
      rw [upF_same]
      exact klt hk
    · rw [upF_ne e]
      exact h.kle q hq
  · obtain ⟨a, b, c, d⟩ := h.hold s hs q hq
    have e : q ≠ p := fun e => hnk s hs (by rw [← e]; exact hq)
    rw [upF_ne e]
    exact ⟨a, b, c, d⟩
  · have e : q ≠ p := fun e => hqs (by rw [e]; simp)
    rw [upF_ne e]
    exact h.free q hq hqs
  · rcases kk q j hj with ⟨e, hj⟩ | ⟨e, hj | hj⟩
    · exact h.best q hq j hj s hs hqs
    · subst e
      exact h.best q hq j hj s hs hqs
    · subst e hj
      rw [hk] at hs
      cases hs
      rcases no with no | ⟨q', h1, h2⟩
      · exact absurd hqs no
      · exact ⟨q', h1, Nat.le_of_lt h2⟩
  · rcases kk q j hj with ⟨e, hj⟩ | ⟨e, hj | hj⟩
    · exact h.opt μ S q hq j hj s hs hks
    · subst e
      exact h.opt μ S q hq j hj s hs hks
    · subst e hj
      rw [hk] at hs
      cases hs
      intro z
      rcases no with no | ⟨q', h1, h2⟩
      · exact no (S.ir q hq r z).2.2
      · -- q' asked r last; what is better for q' has been refused
        obtain ⟨a, b, c, d⟩ := h.hold r hr q' h1
        have hne : q' ≠ q := fun e => hnk r hr (by rw [← e]; exact h1)
        obtain ⟨e1, e2⟩ := idx_at (L.pn q' a) d
        have lt : (P q').idxOf r < ixO (P q') (μ q') := by
          rw [e1]
          cases em : μ q' with
          | none => show k q' - 1 < (P q').length; have := h.kle q' a; omega
          | some t =>
            show k q' - 1 < (P q').idxOf t
            refine Nat.lt_of_not_le fun hle => ?_
            obtain ⟨t1, t2, t3⟩ := S.ir q' a t em
            have ht := at_idx t2
            have tr : t ≠ r := fun e => hne (S.inj q' a q hq r (by rw [← e]; exact em) z)
            have nk : kept t ≠ some q' := fun e => by
              have := (h.hold t t1 q' e).2.2.2
              rw [d] at this
              exact tr (Option.some.inj this).symm
            exact h.opt μ S q' a _ (by omega) t ht nk em
        obtain ⟨q2, g1, g2, g3⟩ := S.nb q' a r hr e2 b lt
        have : q2 = q := S.inj q2 g1 q hq r g2 z
        subst this
        omega
/-- the wish is granted -/
theorem Da.grant (L : Lts P R n m) {p r : Nat} (h : Da P R n m k kept (single ++ [p])) (hk : (P p)[k p]? = some r) (hpR : p ∈ R r)
    (yes : ∀ q, kept r = some q → (R r).idxOf p < (R r).idxOf q) : Da P R n m (upF k p (k p + 1)) (upF kept r (some p)) (single ++ (kept r).toList) := by
  obtain ⟨hp, hr, hrP, hix, hnk, hkr⟩ := h.wish L hk
  have nd := h.nd
  rw [List.nodup_append] at nd
  have pns : p ∉ single := fun z => nd.2.2 p z p (by simp) rfl
  have kk : ∀ q j, j < upF k p (k p + 1) q → q ≠ p ∧ j < k q ∨ q = p ∧ (j < k p ∨ j = k p) := fun q j hj => by
    by_cases e : q = p
    · subst e
      rw [upF_same] at hj
      exact .inr ⟨rfl, by omega⟩
    · rw [upF_ne e] at hj
      exact .inl ⟨e, hj⟩
  have best : ∀ q, q < n → ∀ j, j < upF k p (k p + 1) q → ∀ s, (P q)[j]? = some s → q ∈ R s → ∃ q2, upF kept r (some p) s = some q2 ∧ (R s).idxOf q2 ≤ (R s).idxOf q := fun q hq j hj s hs hqs => by
    by_cases es : s = r
    · subst es
      rw [upF_same]
      refine ⟨p, rfl, ?_⟩
      rcases kk q j hj with ⟨e, hj⟩ | ⟨e, _⟩
      · obtain ⟨q2, h1, h2⟩ := h.best q hq j hj s hs hqs
        have := yes q2 h1
        omega
      · rw [e]
        exact Nat.le_refl _
    · rw [upF_ne es]
      rcases kk q j hj with ⟨e, hj⟩ | ⟨e, hj | hj⟩
      · exact h.best q hq j hj s hs hqs
      · subst e
        exact h.best q hq j hj s hs hqs
      · subst e hj
        rw [hk] at hs
        exact absurd (Option.some.inj hs).symm es
  refine ⟨fun q hq => ?_, fun s hs q hq => ?_, fun q hq hqs => ?_, ?_, fun q hq => ?_, best, fun μ S q hq j hj s hs hks => ?_⟩
  · by_cases e : q = p
    · subst e
      rw [upF_same]
      exact klt hk
    · rw [upF_ne e]
      exact h.kle q hq
  · by_cases es : s = r
    · subst es
      rw [upF_same] at hq
      cases hq
      rw [upF_same]
      exact ⟨hp, hpR, by omega, by rw [Nat.add_sub_cancel]; exact hk⟩
    · rw [upF_ne es] at hq
      obtain ⟨a, b, c, d⟩ := h.hold s hs q hq
      have e : q ≠ p := fun e => hnk s hs (by rw [← e]; exact hq)
      rw [upF_ne e]
      exact ⟨a, b, c, d⟩
  · by_cases e : q = p
    · exact .inl ⟨r, hr, by rw [upF_same, e]⟩
    · rw [upF_ne e]
      have q1 : q ∉ single ++ [p] := fun z => by
        rcases List.mem_append.mp z with z | z
        · exact hqs (List.mem_append_left _ z)
        · exact e (List.mem_singleton.mp z)
      rcases h.free q hq q1 with ⟨s, hs, es⟩ | h
      · by_cases e2 : s = r
        · subst e2
          exact absurd (List.mem_append_right _ (by rw [es]; exact List.mem_singleton.mpr rfl)) hqs
        · exact .inl ⟨s, hs, by rw [upF_ne e2]; exact es⟩
      · exact .inr h
  · rw [List.nodup_append]
    refine ⟨nd.1, ?_, fun a ha b hb e => ?_⟩
    · cases kept r <;> simp
    · cases ek : kept r with
      | none => rw [ek] at hb; cases hb
      | some q =>
        rw [ek] at hb
        have := List.mem_singleton.mp hb
        subst this
        exact (hkr b ek).2.2 (List.mem_append_left _ (by rw [← e]; exact ha))
  · rcases List.mem_append.mp hq with hq1 | hq
    · obtain ⟨a, b⟩ := h.sg q (List.mem_append_left _ hq1)
      refine ⟨a, fun s hs => ?_⟩
      by_cases es : s = r
      · subst es
        rw [upF_same]
        exact fun e => pns (by rw [Option.some.inj e]; exact hq1)
      · rw [upF_ne es]
        exact b s hs
    · cases ek : kept r with
      | none => rw [ek] at hq; cases hq
      | some q0 =>
        rw [ek] at hq
        have := List.mem_singleton.mp hq
        subst this
        obtain ⟨a, b, c, d⟩ := h.hold r hr q ek
        refine ⟨a, fun s hs => ?_⟩
        by_cases es : s = r
        · subst es
          rw [upF_same]
          exact fun e => hnk s hs (by rw [Option.some.inj e]; exact ek)
        · rw [upF_ne es]
          intro e
          have := (h.hold s hs q e).2.2.2
          rw [d] at this
          exact es (Option.some.inj this).symm
  · -- what is refused is in no stable matching
    have old : ∀ q, q < n → ∀ j, j < k q → ∀ s, (P q)[j]? = some s → kept s ≠ some q → μ q ≠ some s := fun q hq j hj s hs hks => h.opt μ S q hq j hj s hs hks
    by_cases new : q ≠ p ∧ s = r ∧ kept r = some q
    · obtain ⟨e, es, ek⟩ := new
      subst es
      intro z
      -- p is better for s
      have lt : (P p).idxOf s < ixO (P p) (μ p) := by
        rw [hix]
        cases em : μ p with
        | none => show k p < (P p).length; exact klt hk
        | some t =>
          show k p < (P p).idxOf t
          refine Nat.lt_of_not_le fun hle => ?_
          obtain ⟨t1, t2, t3⟩ := S.ir p hp t em
          have ht := at_idx t2
          have tr : t ≠ s := fun e2 => e (S.inj q hq p hp s z (by rw [← e2]; exact em))
          have : (P p).idxOf t ≠ k p := fun e2 => by
            rw [e2, hk] at ht
            exact tr (Option.some.inj ht).symm
          exact old p hp _ (by omega) t ht (hnk t t1) em
      obtain ⟨q2, g1, g2, g3⟩ := S.nb p hp s hr hrP hpR lt
      have : q2 = q := S.inj q2 g1 q hq s g2 z
      subst this
      have := yes q2 ek
      omega
    · rcases kk q j hj with ⟨e, hj⟩ | ⟨e, hj | hj⟩
      · refine old q hq j hj s hs fun z => new ⟨e, ?_, ?_⟩
        · exact Classical.byContradiction fun es => hks (by rw [upF_ne es]; exact z)
        · have es : s = r := Classical.byContradiction fun es => hks (by rw [upF_ne es]; exact z)
          rw [← es]
          exact z
      · subst e
        exact old q hq j hj s hs (hnk s (L.pl q hq s (List.mem_of_getElem? hs)))
      · subst e hj
        rw [hk] at hs
        cases hs
        rw [upF_same] at hks
        exact absurd rfl hks
/-- nobody is single: the matching is stable, and none is better for a proposer -/
theorem Da.done (L : Lts P R n m) (h : Da P R n m k kept []) {μ : Nat → Option Nat} (hμ : ∀ p, p < n → ∀ r, μ p = some r ↔ r < m ∧ kept r = some p) : OptM P R n m μ := by
  have low : ∀ p, p < n → ∀ r, r ∈ P p → (P p).idxOf r < ixO (P p) (μ p) → (P p).idxOf r < k p ∧ μ p ≠ some r := fun p hp r hr hlt => by
    refine ⟨?_, fun e => ?_⟩
    · cases e : μ p with
      | none =>
        rcases h.free p hp (by simp) with ⟨s, hs, es⟩ | h'
        · have := (hμ p hp s).mpr ⟨hs, es⟩
          rw [e] at this
          cases this
        · rw [h']
          exact List.idxOf_lt_length_of_mem hr
      | some s =>
        rw [e] at hlt
        obtain ⟨hs, es⟩ := (hμ p hp s).mp e
        obtain ⟨a, b, c, d⟩ := h.hold s hs p es
        have := (idx_at (L.pn p hp) d).1
        have hlt : (P p).idxOf r < (P p).idxOf s := hlt
        omega
    · rw [e] at hlt
      exact Nat.lt_irrefl _ hlt
  refine ⟨⟨fun p hp r hr => ?_, fun p hp q hq r h1 h2 => ?_, fun p hp r hr h1 h2 h3 => ?_⟩, fun ν S p hp => ?_⟩
  · obtain ⟨hs, es⟩ := (hμ p hp r).mp hr
    obtain ⟨a, b, c, d⟩ := h.hold r hs p es
    exact ⟨hs, List.mem_of_getElem? d, b⟩
  · have e1 := ((hμ p hp r).mp h1).2
    rw [((hμ q hq r).mp h2).2] at e1
    exact (Option.some.inj e1).symm
  · obtain ⟨h4, h5⟩ := low p hp r h1 h3
    obtain ⟨q, g1, g2⟩ := h.best p hp _ h4 r (at_idx h1) h2
    obtain ⟨a, b, _⟩ := h.hold r hr q g1
    refine ⟨q, a, (hμ q a r).mpr ⟨hr, g1⟩, Nat.lt_of_le_of_ne g2 fun e => ?_⟩
    have := idx_inj b h2 e
    subst this
    exact h5 ((hμ q a r).mpr ⟨hr, g1⟩)
  · refine Nat.le_of_not_lt fun hlt => ?_
    cases e : ν p with
    | none =>
      rw [e] at hlt
      have hlt : (P p).length < ixO (P p) (μ p) := hlt
      cases e2 : μ p with
      | none => rw [e2] at hlt; exact Nat.lt_irrefl _ hlt
      | some s =>
        rw [e2] at hlt
        have hlt : (P p).length < (P p).idxOf s := hlt
        obtain ⟨hs, es⟩ := (hμ p hp s).mp e2
        have := List.idxOf_lt_length_of_mem (List.mem_of_getElem? (h.hold s hs p es).2.2.2)
        omega
    | some r =>
      rw [e] at hlt
      obtain ⟨r1, r2, r3⟩ := S.ir p hp r e
      obtain ⟨h4, h5⟩ := low p hp r r2 hlt
      exact h.opt ν S p hp _ h4 r (at_idx r2) (fun z => h5 ((hμ p hp r).mpr ⟨r1, z⟩)) e
end
section
variable {e : UbP.Env} {cf : Kwt Fl} {cu : Kwt Unit} {cp : Kwt (Nat × List D)} {ci : Kwt Int} {cn : Kwt (List (List D))} {q : Kwe}
theorem st_sNst {i : Nat} {mk : M (List (List D))} {f : M Fl} : @st Fl (sNst i mk f e) cf q = @st (List (List D)) (mk e) ⟨fun rows e => @st Unit (nstN i rows e) ⟨fun _ e => @st Fl (f e) cf q⟩ q⟩ q := by
  unfold sNst
  rw [st_bnd]; congr; funext k e1
  rw [st_bnd]
theorem st_nstN {i : Nat} {rows : List (List D)} (hn : noN e = true) {s : Sl} (hi : e[i]? = some s) (hs : isDat s = true) (h : cu.P () (e.set i (.nst rows))) : @st Unit (nstN i rows e) cu q := by
  have : nstN i rows e = .ok () (e.set i (.nst rows)) := by
    unfold nstN
    rw [if_pos hn, hi]
    cases s <;> first | rfl | cases hs
  rw [this, st_ok]
  exact h
theorem st_sSeqN {a b : M Fl} : @st Fl (sSeqN a b e) cf q = @st Fl (a e) ⟨fun f e' => match f with
    | .nx => @st Fl (b e') cf q
    | _ => False⟩ ⟨fun _ _ => False⟩ := by
  unfold sSeqN
  rw [st_bnd]
  unfold calmM
  cases a e with
  | ok f e' =>
    dsimp only
    rw [st_ok, st_ok]
    cases f with
    | nx => rfl
    | _ => exact st_optN
  | exc x e' =>
    dsimp only
    rw [st_bad, st_exc]
    rfl
  | bad => dsimp only; rw [st_bad, st_bad]
theorem st_sUn {i : Nat} {r : M Fl} {rows : List (List D)} (hi : e[i]? = some (.nst rows)) : @st Fl (sUn i r e) cf q = @st Fl (r (e.set i (.dat (.lst (rows.map .lst))))) cf q := by
  unfold sUn
  rw [st_bnd]
  unfold unN
  rw [hi]
  dsimp only
  rw [st_ok]
  rfl
theorem st_intV {a : M Vw} : @st Int (intV a e) ci q = @st Vw (a e) ⟨fun w e => @st D (nowM w e) ⟨fun d e => @st Int (optM (intOf d) e) ci q⟩ q⟩ q := by
  unfold intV
  rw [st_bnd]; congr; funext w e1
  rw [st_bnd]
theorem st_eRow {i : Nat} {k : M Vw} : @st (Nat × List D) (eRow i k e) cp q = @st Int (intV k e) ⟨fun n e => @st (Nat × List D) (rowM i n e) cp q⟩ q := by
  unfold eRow
  rw [st_bnd]
theorem st_rowM {i : Nat} {k : Int} {rows : List (List D)} {j : Nat} {r : List D} (hi : e[i]? = some (.nst rows)) (hk : ixI rows.length k = some j) (hj : rows[j]? = some r) : @st (Nat × List D) (rowM i k e) cp q = cp.P (j, r) e := by
  have : rowM i k e = .ok (j, r) e := by
    unfold rowM
    rw [hi]
    dsimp only
    rw [hk]
    dsimp only
    rw [hj]
  rw [this, st_ok]
theorem st_putRow {i j : Nat} {r : List D} {rows : List (List D)} (hi : e[i]? = some (.nst rows)) : @st Unit (putRow i j r e) cu q = cu.P () (e.set i (.nst (rows.set j r))) := by
  have : putRow i j r e = .ok () (e.set i (.nst (rows.set j r))) := by
    unfold putRow
    rw [hi]
  rw [this, st_ok]
theorem st_sIfRow {i : Nat} {k : M Vw} {f g : M Fl} : @st Fl (sIfRow i k f g e) cf q = @st (Nat × List D) (eRow i k e) ⟨fun p e => @st Fl ((if p.2.isEmpty then g else f) e) cf q⟩ q := by
  unfold sIfRow
  rw [st_bnd]
theorem st_sPopRow {t i : Nat} {k m : M Vw} : @st Fl (sPopRow t i k m e) cf q = @st (Nat × List D) (eRow i k e) ⟨fun p e => @st Int (intV m e) ⟨fun n e => @st Fl ((match ixI p.2.length n with
  | some j => bnd (optM p.2[j]?) fun d => if p.2.length < LIM then bnd (putRow i p.1 (p.2.eraseIdx j)) fun _ => putM (.nm t) d else optM none
  | none => optM none : M Fl) e) cf q⟩ q⟩ q := by
  unfold sPopRow
  rw [st_bnd]; congr; funext p e1
  rw [st_bnd]
theorem st_eLcN {it : M (List D)} {tg : Tg} {t : M Bool} {x : M Vw} {vs : List Nat} : @st (List (List D)) (eLcN it tg t x vs e) cn q = @st (List D) (it e) ⟨fun ds e => @st (List (List D)) ((if freeAt e vs then match lcGoN tg t x vs ds [] (wipeE e vs) with
    | .ok ys e' => .ok ys (backE e e' vs)
    | _ => .bad
  else .bad : Res (List (List D)))) cn q⟩ q := by
  unfold eLcN
  rw [st_bnd]
theorem lcN_go {α : Type} {tg : Tg} {t : M Bool} {x : M Vw} {vs : List Nat} {g : α → D} (F : α → List D) : ∀ (xs : List α) (acc : List (List D)), acc.length + xs.length ≤ LIM → (∀ y ∈ xs, ∃ e1 e2 e3, putT tg (g y) e = some e1 ∧ t e1 = .ok true e2 ∧ x e2 = .ok (.f (.l (F y))) e3 ∧ wipeE e3 vs = e) → lcGoN tg t x vs (xs.map g) acc e = .ok (acc ++ xs.map F) e
  | [], acc, _, _ => by rw [List.map_nil, List.map_nil, List.append_nil]; rfl
  | y :: xs, acc, hl, h => by
    obtain ⟨e1, e2, e3, h1, h2, h3, h4⟩ := h y List.mem_cons_self
    rw [List.length_cons] at hl
    rw [List.map_cons]
    unfold lcGoN
    rw [h1]
    dsimp only
    rw [h2]
    dsimp only
    rw [h3]
    dsimp only
    rw [if_pos (by omega), h4, lcN_go F xs _ (by rw [List.length_append, List.length_singleton]; omega) fun z hz => h z (List.mem_cons_of_mem _ hz), List.append_assoc]
    rfl
end
def RowC (c : Ct) : Prop := ∃ ns : List Int, c = .l (ns.map .int)
theorem fmod_rng {a m : Int} (hm : 0 < m) : 0 ≤ a.fmod m ∧ a.fmod m < m := by
  rw [Int.fmod_eq_emod_of_nonneg _ (by omega)]
  exact ⟨Int.emod_nonneg _ (by omega), Int.emod_lt_of_pos _ hm⟩
theorem t__law_take {c : Ct} {m : Int} (hc : RowC c) (hm : 0 < m) : ∃ v c', p__law_take [.par c, .dat (.int m)] = .ret (.d (.int v)) [c'] ∧ 0 ≤ v ∧ v < m ∧ RowC c' := by
  have key : fsat (p__law_take [.par c, .dat (.int m)]) (fun w cs => ∃ v c', w = .d (.int v) ∧ cs = [c'] ∧ 0 ≤ v ∧ v < m ∧ RowC c') fun _ _ => False := by
    obtain ⟨ns, rfl⟩ := hc
    rcases List.eq_nil_or_concat ns with rfl | ⟨ns', z, rfl⟩
    · unfold p__law_take b__law_take
      walk_at "wg"
      exact ⟨0, _, rfl, rfl, by omega, hm, ⟨[], rfl⟩⟩
    · rw [List.concat_eq_append, List.map_append]
      unfold p__law_take b__law_take
      walk_at "wg"
      refine ⟨fun h => absurd h (by simp; omega), fun _ => ?_⟩
      rw [List.getLast?_concat, List.dropLast_concat]
      walk_at "wg"
      exact ⟨by omega, _, _, rfl, rfl, (fmod_rng hm).1, (fmod_rng hm).2, ⟨ns', rfl⟩⟩
  obtain ⟨w, cs, e, v, c', rfl, rfl, q⟩ := fsat_out key
  exact ⟨v, c', e, q⟩
theorem lst2 (l : List Int) (a b : Int) : l.map D.int ++ [.int a] ++ [.int b] = (l ++ [a] ++ [b]).map D.int := by rw [List.map_append, List.map_append]; rfl
theorem lst1 (l : List Int) (a : Int) : l.map D.int ++ [.int a] = (l ++ [a]).map D.int := by rw [List.map_append]; rfl
theorem t__law_draws {ns : List Int} (hl : ns.length ≤ 63) : ∃ c, p__law_draws [.dat (.lsf (ns.map .int))] = .ret (.f c) [] ∧ RowC c := by
  have key : fsat (p__law_draws [.dat (.lsf (ns.map .int))]) (fun w cs => ∃ c : Ct, w = .f c ∧ cs = [] ∧ RowC c) fun _ _ => False := by
    unfold p__law_draws b__law_draws
    have h1 : Int.natAbs 48271 < 2 ^ 64 := by decide
    have h2 : Int.natAbs 69621 < 2 ^ 64 := by decide
    walk_at "wg"
    refine for_inv (fun pre e => ∃ (l : List Int) (s2 s3 s4 s5 : Option D), e = [.dat (.lsf (ns.map .int)), .own (.l (l.map .int)), jk s2, jk s3, jk s4, jk s5, .no] ∧ l.length ≤ 62 * pre.length) ⟨[], none, none, none, none, rfl, by simp⟩ ?_ ?_
    · rintro pre x post e hx ⟨l, s2, s3, s4, s5, rfl, hll⟩
      have hpl : pre.length + 1 ≤ 63 := by
        have := congrArg List.length hx
        rw [List.length_append, List.length_cons] at this
        omega
      walk_at "wg"
      rw [show intsL 0 (Int.toNat 60) = (List.range 60).map fun (k : Nat) => D.int (k : Int) from ints0 60]
      have inner : ∀ (l : List Int) (y : Int) (s4 s5 : Option D), l.length ≤ 62 * pre.length + 2 → @st Fl (forL (Tg.nm 5) (sIf (tB gtD (eV 3) (eC (D.int 0))) (sSeq (sEx (eApp (eV 1) (eB modD (eU intD (eV 3)) (eC (D.int 997))))) (sSet 3 (eB fdivD (eV 3) (eC (D.int 997))))) sNx) ((List.range 60).map fun (k : Nat) => D.int (k : Int)) [.dat (.lsf (ns.map .int)), .own (.l (l.map .int)), .dat (.int x), .dat (.int y), jk s4, jk s5, .no]) ⟨fun f e => f = .nx ∧ ∃ (l : List Int) (s2 s3 s4 s5 : Option D), e = [.dat (.lsf (ns.map .int)), .own (.l (l.map .int)), jk s2, jk s3, jk s4, jk s5, .no] ∧ l.length ≤ 62 * (pre ++ [x]).length⟩ ⟨fun _ _ => False⟩ := fun l y s4 s5 hl2 => by
        refine for_inv (fun pre' e => ∃ (l : List Int) (y : Int) (s4 s5 : Option D), e = [.dat (.lsf (ns.map .int)), .own (.l (l.map .int)), .dat (.int x), .dat (.int y), jk s4, jk s5, .no] ∧ l.length ≤ 62 * pre.length + 2 + pre'.length) ⟨l, y, s4, s5, rfl, by simpa using hl2⟩ ?_ ?_
        · rintro pre' k post' e hx' ⟨l, y, s4, s5, rfl, hl3⟩
          have hk : pre'.length + 1 ≤ 60 := by
            have := congrArg List.length hx'
            rw [List.length_append, List.length_cons, List.length_range] at this
            omega
          walk_at "wg"
          refine ⟨fun _ => ⟨by omega, by decide +kernel, l ++ [y.fmod 997], y.fdiv 997, s4, some (.int (k : Int)), ?_, ?_⟩, fun _ => ⟨l, y, s4, some (.int (k : Int)), rfl, ?_⟩⟩
          · rw [lst1]; rfl
          · rw [List.length_append, List.length_append]; simp; omega
          · rw [List.length_append]; simp; omega
        · rintro e ⟨l, y, s4, s5, rfl, hl3⟩
          rw [List.length_range] at hl3
          exact ⟨rfl, l, some (.int x), some (.int y), s4, s5, rfl, by rw [List.length_append]; simp; omega⟩
      refine ⟨by decide, fun _ => ⟨mul_sm2 h1, mul_sm2 h2, by omega, by decide +kernel, by rw [List.length_append, List.length_map]; simp; omega, by decide, ?_⟩, fun _ => ⟨by decide, ?_⟩⟩
      · rw [lst2]
        refine st_mono (inner _ 0 (some _) s5 (by rw [List.length_append, List.length_append]; simp; omega)) (fun f e ⟨hf, h⟩ => ?_) (fun _ _ z => z.elim)
        subst hf
        exact h
      · refine st_mono (inner l _ s4 s5 (by omega)) (fun f e ⟨hf, h⟩ => ?_) (fun _ _ z => z.elim)
        subst hf
        exact h
    · rintro e ⟨l, s2, s3, s4, s5, rfl, hll⟩
      walk_at "wg"
      rw [show intsL 0 (Int.toNat 60) = (List.range 60).map fun (k : Nat) => D.int (k : Int) from ints0 60]
      have fin : ∀ (y : Int), @st Fl (forL (Tg.nm 5) (sSeq (sSet 6 (eB modD (eU intD (eB addD (eB mulD (eV 6) (eC (D.int 48271))) (eC (D.int 69621)))) (eC (D.int 2147483647)))) (sEx (eApp (eV 1) (eB fdivD (eV 6) (eC (D.int 5)))))) ((List.range 60).map fun (k : Nat) => D.int (k : Int)) [.dat (.lsf (ns.map .int)), .own (.l (l.map .int)), jk s2, jk s3, jk s4, jk s5, .dat (.int y)]) ⟨fun f e => f = .nx ∧ ∃ (l : List Int) (y : Int) (s2 s3 s4 s5 : Option D), e = [.dat (.lsf (ns.map .int)), .own (.l (l.map .int)), jk s2, jk s3, jk s4, jk s5, .dat (.int y)] ∧ l.length ≤ 5000⟩ ⟨fun _ _ => False⟩ := fun y => by
        refine for_inv (fun pre' e => ∃ (l' : List Int) (y : Int) (s5 : Option D), e = [.dat (.lsf (ns.map .int)), .own (.l (l'.map .int)), jk s2, jk s3, jk s4, jk s5, .dat (.int y)] ∧ l'.length = l.length + pre'.length) ⟨l, y, s5, rfl, rfl⟩ ?_ ?_
        · rintro pre' k post' e hx' ⟨l', y, s5, rfl, hl3⟩
          have hk : pre'.length + 1 ≤ 60 := by
            have := congrArg List.length hx'
            rw [List.length_append, List.length_cons, List.length_range] at this
            omega
          walk_at "wg"
          refine ⟨mul_sm2 h1, by decide +kernel, by omega, l' ++ [((y * 48271 + 69621).fmod 2147483647).fdiv 5], (y * 48271 + 69621).fmod 2147483647, some (.int (k : Int)), ?_, ?_⟩
          · rw [lst1]; rfl
          · rw [List.length_append, List.length_append, hl3]; rfl
        · rintro e ⟨l', y, s5, rfl, hl3⟩
          rw [List.length_range] at hl3
          exact ⟨rfl, l', y, s2, s3, s4, s5, rfl, by omega⟩
      refine ⟨fun h0 => ?_, fun _ => ⟨by decide, ?_⟩⟩
      · rw [getD_ok (d := 0) (show 0 < ns.length by omega)]
        walk_at "wg"
        refine ⟨by decide, ?_⟩
        rw [show intsL 0 (Int.toNat 60) = (List.range 60).map fun (k : Nat) => D.int (k : Int) from ints0 60]
        refine st_mono (fin _) (fun f e ⟨hf, l, y, s2, s3, s4, s5, he, h⟩ => ?_) (fun _ _ z => z.elim)
        subst hf he
        walk_at "wg"
        exact ⟨_, rfl, l.reverse, by rw [List.map_reverse]⟩
      · refine st_mono (fin _) (fun f e ⟨hf, l, y, s2, s3, s4, s5, he, h⟩ => ?_) (fun _ _ z => z.elim)
        subst hf he
        walk_at "wg"
        exact ⟨_, rfl, l.reverse, by rw [List.map_reverse]⟩
  obtain ⟨w, cs, e, c, rfl, rfl, h⟩ := fsat_out key
  exact ⟨c, e, h⟩
theorem enum_map {α : Type} (g : α → D) (l : List α) : enumF (l.map g) = (l.zipIdx).map fun p => D.tup [.int (p.2 : Nat), g p.1] := by
  unfold enumF
  apply List.ext_getElem?
  intro k
  rw [List.length_map, List.getElem?_map, List.getElem?_map, List.getElem?_zipIdx]
  by_cases h : k < l.length
  · rw [List.getElem?_range h, List.getElem?_eq_getElem h]
    show some (D.tup [.int (k : Nat), (l.map g).getD k .non]) = some (D.tup [.int ((0 + k : Nat)), g l[k]])
    rw [List.getD_eq_getElem?_getD, List.getElem?_map, List.getElem?_eq_getElem h, Nat.zero_add]
    rfl
  · rw [List.getElem?_eq_none (by rw [List.length_range]; omega), List.getElem?_eq_none (by omega)]
    rfl
theorem zipIdx_split {α : Type} {l : List α} {pre post : List (α × Nat)} {p : α × Nat} (h : l.zipIdx = pre ++ p :: post) : p.2 = pre.length ∧ l[p.2]? = some p.1 ∧ p.2 < l.length := by
  have e := congrArg (fun z => z[pre.length]?) h
  simp only [List.getElem?_append_right (Nat.le_refl _), Nat.sub_self, List.getElem?_cons_zero, List.getElem?_zipIdx] at e
  obtain ⟨x, h1, h2⟩ := Option.map_eq_some_iff.mp e
  subst h2
  have := (List.getElem?_eq_some_iff.mp h1).1
  exact ⟨by show 0 + pre.length = _; omega, by show l[0 + pre.length]? = _; rw [Nat.zero_add]; exact h1, by show 0 + pre.length < _; omega⟩
theorem cut_to {α : Type} (l : List α) (k : Nat) (h : k ≤ l.length) : cut l none (some (k : Int)) = l.take k := by
  have e1 : sIx l.length l.length (some (k : Int)) = k := by
    show (if (k : Int) < 0 then ((k : Int) + (l.length : Int)).toNat else min ((k : Int)).toNat l.length) = k
    rw [if_neg (by omega), Int.toNat_natCast, Nat.min_eq_left h]
  show (l.drop 0).take (sIx l.length l.length (some (k : Int)) - 0) = _
  rw [e1]
  rfl
theorem bigI_small {n : Nat} (h : n ≤ 1000) : bigI (n : Int) = true := by
  unfold bigI
  exact decide_eq_true (by omega)
theorem at_range {n i : Nat} {pre post : List Nat} (hx : List.range n = pre ++ i :: post) : i = pre.length ∧ i < n := by
  have h1 := congrArg (·[pre.length]?) hx
  simp only [List.getElem?_append_right (Nat.le_refl _), Nat.sub_self, List.getElem?_cons_zero] at h1
  have h2 : pre.length < n := by
    have := congrArg List.length hx
    rw [List.length_range, List.length_append, List.length_cons] at this
    omega
  rw [List.getElem?_range h2] at h1
  exact ⟨(Option.some.inj h1).symm, by have := Option.some.inj h1; omega⟩
theorem map_snoc {α : Type} (f : α → D) (l : List α) (x : α) : l.map f ++ [f x] = (l ++ [x]).map f := by rw [List.map_append]; rfl
theorem erase_perm {α : Type} : ∀ (l : List α) (j : Nat) (h : j < l.length), (l[j] :: l.eraseIdx j).Perm l
  | a :: l, 0, _ => List.Perm.refl _
  | a :: l, j + 1, h => by
    have hj : j < l.length := by rw [List.length_cons] at h; omega
    exact (List.Perm.swap a l[j] _).trans (.cons a (erase_perm l j hj))
theorem erase_map {α : Type} (f : α → D) : ∀ (l : List α) (j : Nat), (l.eraseIdx j).map f = (l.map f).eraseIdx j
  | [], _ => rfl
  | a :: l, 0 => rfl
  | a :: l, j + 1 => by
    show f a :: (l.eraseIdx j).map f = f a :: (l.map f).eraseIdx j
    rw [erase_map f l j]
theorem flat_nats (w : Nat) (l : List Nat) : (flat (.int (w : Int)) && (l.map fun x : Nat => D.int (x : Int)).all flat) = true := by
  rw [Bool.and_eq_true_iff, List.all_eq_true]
  refine ⟨rfl, fun d hd => ?_⟩
  obtain ⟨x, _, e⟩ := List.mem_map.mp hd
  rw [← e]; rfl
theorem in_nats (w : Nat) (l : List Nat) : inD (.int (w : Int)) (.lst (l.map fun x : Nat => .int (x : Int))) = some (decide (w ∈ l)) := by
  show (if ((flat (.int (w : Int)) && (l.map fun x : Nat => D.int (x : Int)).all flat) || (sh (.int (w : Int)) 40 && shAll (l.map fun x : Nat => D.int (x : Int)) 59)) = true then some (mem (.int (w : Int)) (l.map fun x : Nat => D.int (x : Int))) else none) = _
  rw [if_pos (by rw [flat_nats]; rfl)]
  congr 1
  unfold mem
  induction l with
  | nil => rfl
  | cons y l ih =>
    rw [List.map_cons, List.any_cons, ih]
    show ((y : Int) == (w : Int) || decide (w ∈ l)) = _
    rw [Bool.eq_iff_iff, Bool.or_eq_true, beq_iff_eq, decide_eq_true_eq, decide_eq_true_eq, List.mem_cons]
    constructor
    · rintro (h | h)
      · exact .inl (by omega)
      · exact .inr h
    · rintro (h | h)
      · exact .inl (by omega)
      · exact .inr h
theorem nin_nats (w : Nat) (l : List Nat) : ninD (.int (w : Int)) (.lst (l.map fun x : Nat => .int (x : Int))) = some (!decide (w ∈ l)) := by
  unfold ninD
  rw [in_nats]; rfl
theorem idx_nats {w : Nat} {l : List Nat} (h : w ∈ l) : idxD (.lst (l.map fun x : Nat => .int (x : Int))) (.int (w : Int)) = some (.d (.int (l.idxOf w : Nat))) := by
  show (if ((flat (.int (w : Int)) && (l.map fun x : Nat => D.int (x : Int)).all flat) || (sh (.int (w : Int)) 40 && shAll (l.map fun x : Nat => D.int (x : Int)) 59)) = true then ((l.map fun x : Nat => D.int (x : Int)).findIdx? (fun y => eqv y (.int (w : Int)))).bind (fun j => vI (j : Nat)) else none) = _
  rw [if_pos (by rw [flat_nats]; rfl)]
  have : ∀ l : List Nat, w ∈ l → (l.map fun x : Nat => D.int (x : Int)).findIdx? (fun y => eqv y (.int (w : Int))) = some (l.idxOf w) := by
    intro l
    induction l with
    | nil => intro h; cases h
    | cons y l ih =>
      intro h
      rw [List.map_cons, List.findIdx?_cons]
      show (if ((y : Int) == (w : Int)) = true then some 0 else _) = _
      by_cases e : y = w
      · subst e
        rw [if_pos (beq_self_eq_true _), List.idxOf_cons_self]
      · have hw : w ∈ l := by
          rcases List.mem_cons.mp h with h | h
          · exact absurd h.symm e
          · exact h
        rw [if_neg (by rw [beq_iff_eq]; omega), ih hw, List.idxOf_cons, show (y == w) = false from beq_eq_false_iff_ne.mpr e]
        rfl
  rw [this l h]
  rfl
theorem sameI (n : Nat) (i : Int) : p__law_same (n + 1) [.dat (.int i), .dat (.int i)] = .ret (.d (.bl true)) [] := by
  refine fsat_eq ?_
  show fsat (run 1 (b__law_same (p__law_same n)) _) _ _
  unfold b__law_same
  walk_at "wg"
theorem sameL (n : Nat) {ds : List D} (hl : ds.length ≤ 1000) (h : ∀ d ∈ ds, p__law_same n [.dat d, .dat d] = .ret (.d (.bl true)) []) : p__law_same (n + 1) [.dat (.lst ds), .dat (.lst ds)] = .ret (.d (.bl true)) [] := by
  refine fsat_eq ?_
  show fsat (run 1 (b__law_same (p__law_same n)) _) _ _
  unfold b__law_same
  walk_at "wg"
  rw [ints0]
  refine ⟨bigI_small (by omega), ?_⟩
  refine for_inv (fun pre e => ∃ s2 : Option D, e = [.dat (.lst ds), .dat (.lst ds), jk s2]) ⟨none, rfl⟩ ?_ ?_
  · rintro pre i post e hx ⟨s2, rfl⟩
    obtain ⟨h1, h2⟩ := at_range hx
    walk_at "wg"
    rw [getD_ok (d := .non) h2]
    walk_at "wg"
    rw [getD_ok (d := .non) h2]
    walk_at "wg"
    rw [h _ (List.mem_of_getElem? (getD_ok (d := .non) h2))]
    walk_at "wg"
    exact ⟨some _, rfl⟩
  · rintro e ⟨s2, rfl⟩
    walk_at "wg"
theorem sameN (n : Nat) {l : List Nat} (hl : l.length ≤ 1000) : p__law_same (n + 2) [.dat (natsD l), .dat (natsD l)] = .ret (.d (.bl true)) [] :=
  sameL (n + 1) (by rw [List.length_map]; exact hl) fun d hd => by
    obtain ⟨x, _, rfl⟩ := List.mem_map.mp hd
    exact sameI n _
theorem sameNN (n : Nat) {l : List (List Nat)} (hl : l.length ≤ 1000) (h : ∀ r ∈ l, r.length ≤ 1000) : p__law_same (n + 3) [.dat (.lst (l.map natsD)), .dat (.lst (l.map natsD))] = .ret (.d (.bl true)) [] :=
  sameL (n + 2) (by rw [List.length_map]; exact hl) fun d hd => by
    obtain ⟨x, hx, rfl⟩ := List.mem_map.mp hd
    exact sameN n (h x hx)
abbrev wsD (W : List (List Nat)) : D := .lst (W.map natsD)
theorem lens_nats {l : List Nat} (hl : l.length < 1000) (hn : l.Nodup) : lensD (natsD l) = some (.d (.int (l.length : Nat))) := by
  have e : (l.map fun (n : Nat) => D.int (n : Int)) = (l.map fun (n : Nat) => (n : Int)).map D.int := by rw [List.map_map]; rfl
  show lensD (.lst (l.map fun (n : Nat) => D.int (n : Int))) = _
  rw [e, lens_i (by rw [List.length_map]; exact hl), (difs_nodup _).mpr ?_, List.length_map]
  rw [List.Nodup, List.pairwise_map]
  exact hn.imp fun h => by omega
theorem t_are_different {l : List Nat} {n : Nat} (h : ∀ x ∈ l, x < n) (hn : l.Nodup) (hl : l.length < 1000) : p_are_different [.dat (natsD l), .dat (.int (n : Int))] = .ret (.d (.bl true)) [] := by
  refine fsat_eq ?_
  unfold p_are_different b_are_different
  walk_at "wg"
  refine gx_all (fun _ => true) (fun x hx => ?_) ?_
  · have := h x hx
    walk_at "wg"
    exact ⟨fun _ => by omega, fun z => z (by omega)⟩
  · walk_at "wg"
    rw [lens_nats hl hn]
    walk_at "wg"
    exact fun z => absurd z (by simp)
def gD : Option Nat → D
  | none => .non
  | some x => .int (x : Int)
structure LOk (n m : Nat) (W : List (List Nat)) : Prop where
  len : W.length = n
  ok : ∀ w ∈ W, w.Nodup ∧ ∀ x ∈ w, x < m
abbrev rowF (W : List (List Nat)) : Nat → List Nat := fun p => W.getD p []
theorem LOk.at {n m : Nat} {W : List (List Nat)} (h : LOk n m W) {a : Nat} (ha : a < n) : (rowF W a).Nodup ∧ ∀ x ∈ rowF W a, x < m := by
  show (W.getD a []).Nodup ∧ ∀ x ∈ W.getD a [], x < m
  rw [List.getD_eq_getElem?_getD, List.getElem?_eq_getElem (by rw [h.len]; exact ha)]
  exact h.ok _ (List.getElem_mem ..)
theorem LOk.get {n m : Nat} {W : List (List Nat)} (h : LOk n m W) {a : Nat} (ha : a < n) : W[a]? = some (rowF W a) := getD_ok (by rw [h.len]; exact ha)
theorem nd_len {w : List Nat} {m : Nat} (h : w.Nodup ∧ ∀ x ∈ w, x < m) : w.length ≤ m := by
  have := nodup_le h.1 (l := List.range m) fun x hx => List.mem_range.mpr (h.2 x hx)
  rwa [List.length_range] at this
theorem LOk.lts {n m : Nat} {P R : List (List Nat)} (hP : LOk n m P) (hR : LOk m n R) : Lts (rowF P) (rowF R) n m :=
  ⟨fun p hp => (hP.at hp).1, fun p hp => (hP.at hp).2, fun r hr => (hR.at hr).1, fun r hr => (hR.at hr).2⟩
theorem t_check_size2 {a b : Nat} (ha : a ≤ 8) (hb : b ≤ 8) : p_check_size [.dat (.lst [.int (a : Int), .int (b : Int)]), .dat (.int 8)] = .ret (.d .non) [] := by
  refine fsat_eq ?_
  unfold p_check_size b_check_size
  walk_at "wg"
  refine gx_any (g := id) (xs := [D.int (a : Int), D.int (b : Int)]) (fun _ => false) (fun x hx => ?_) ?_
  · rcases List.mem_cons.mp hx with hx | hx
    · subst hx
      walk_at "wg"
      dsimp only [id]
      walk_at "wg"
      omega
    · rw [List.mem_singleton] at hx
      subst hx
      walk_at "wg"
      dsimp only [id]
      walk_at "wg"
      omega
  · walk_at "wg"
    rw [show List.any [D.int (a : Int), D.int (b : Int)] (fun _ => false) = false from rfl]
    walk_at "wg"
theorem t_check_wishesL {n m : Nat} {W : List (List Nat)} (h : LOk n m W) (hm : m ≤ 8) : p_check_wishes [.dat (wsD W), .dat (.int (m : Int))] = .ret (.d .non) [] := by
  refine fsat_eq ?_
  unfold p_check_wishes b_check_wishes
  walk_at "wg"
  refine gx_all (fun _ => true) (fun w hw => ?_) ?_
  · have h1 := h.ok w hw
    have := nd_len h1
    walk_at "wg"
    rw [t_are_different h1.2 h1.1 (by omega)]
    walk_at "wg"
  · walk_at "wg"
    try simp
theorem t__check_sides {n m : Nat} {P R : List (List Nat)} (hP : LOk n m P) (hR : LOk m n R) (hn : n ≤ 8) (hm : m ≤ 8) : p__check_sides [.dat (wsD P), .dat (wsD R)] = .ret (.d .non) [] := by
  refine fsat_eq ?_
  unfold p__check_sides b__check_sides
  have h1 := hP.len
  have h2 := hR.len
  walk_at "wg"
  rw [h1, h2, t_check_size2 hn hm]
  walk_at "wg"
  rw [h2, t_check_wishesL hP hm]
  walk_at "wg"
  rw [h1, t_check_wishesL hR hn]
  walk_at "wg"
theorem flat_gD (o : Option Nat) : flat (gD o) = true := by cases o <;> rfl
theorem flat_gDs (o : Option Nat) (l : List (Option Nat)) : (flat (gD o) && (l.map gD).all flat) = true := by
  rw [Bool.and_eq_true_iff, List.all_eq_true]
  refine ⟨flat_gD o, fun d hd => ?_⟩
  obtain ⟨x, _, e⟩ := List.mem_map.mp hd
  rw [← e]; exact flat_gD x
theorem eqv_gD (a b : Option Nat) : eqv (gD a) (gD b) = decide (a = b) := by
  cases a <;> cases b
  · rfl
  · rfl
  · rfl
  · rename_i x y
    show ((x : Int) == (y : Int)) = _
    rw [Bool.eq_iff_iff, beq_iff_eq, decide_eq_true_eq]
    constructor
    · intro h; rw [show x = y by omega]
    · intro h; rw [Option.some.inj h]
theorem in_gD (o : Option Nat) (l : List (Option Nat)) : inD (gD o) (.lst (l.map gD)) = some (decide (o ∈ l)) := by
  show (if ((flat (gD o) && (l.map gD).all flat) || (sh (gD o) 40 && shAll (l.map gD) 59)) = true then some (mem (gD o) (l.map gD)) else none) = _
  rw [if_pos (by rw [flat_gDs]; rfl)]
  congr 1
  unfold mem
  induction l with
  | nil => rfl
  | cons y l ih =>
    rw [List.map_cons, List.any_cons, ih, eqv_gD]
    rw [Bool.eq_iff_iff, Bool.or_eq_true, decide_eq_true_eq, decide_eq_true_eq, decide_eq_true_eq, List.mem_cons]
    exact ⟨fun h => h.imp (fun e => e.symm) id, fun h => h.imp (fun e => e.symm) id⟩
theorem idx_gD {o : Option Nat} {l : List (Option Nat)} (h : o ∈ l) : idxD (.lst (l.map gD)) (gD o) = some (.d (.int (l.idxOf o : Nat))) := by
  show (if ((flat (gD o) && (l.map gD).all flat) || (sh (gD o) 40 && shAll (l.map gD) 59)) = true then ((l.map gD).findIdx? (fun y => eqv y (gD o))).bind (fun j => vI (j : Nat)) else none) = _
  rw [if_pos (by rw [flat_gDs]; rfl)]
  have : ∀ l : List (Option Nat), o ∈ l → (l.map gD).findIdx? (fun y => eqv y (gD o)) = some (l.idxOf o) := by
    intro l
    induction l with
    | nil => intro h; cases h
    | cons y l ih =>
      intro h
      rw [List.map_cons, List.findIdx?_cons, eqv_gD, List.idxOf_cons]
      by_cases e : y = o
      · subst e
        rw [decide_eq_true rfl, if_pos rfl, beq_self_eq_true]
        rfl
      · have ho : o ∈ l := by
          rcases List.mem_cons.mp h with h | h
          · exact absurd h.symm e
          · exact h
        rw [decide_eq_false e, if_neg (by decide), ih ho, beq_eq_false_iff_ne.mpr e]
        rfl
  rw [this l h]
  rfl
theorem in_nats_o (o : Option Nat) (l : List Nat) : inD (gD o) (natsD l) = some (decide (∃ x ∈ l, o = some x)) := by
  have := in_gD o (l.map some)
  rw [List.map_map, show (gD ∘ some) = fun (k : Nat) => D.int (k : Int) from rfl] at this
  show inD (gD o) (.lst (l.map fun (k : Nat) => D.int (k : Int))) = _
  rw [this]
  congr 1
  rw [Bool.eq_iff_iff, decide_eq_true_eq, decide_eq_true_eq, List.mem_map]
  exact ⟨fun ⟨x, h1, h2⟩ => ⟨x, h1, h2.symm⟩, fun ⟨x, h1, h2⟩ => ⟨x, h1, h2.symm⟩⟩
theorem nin_nats_o (o : Option Nat) (l : List Nat) : ninD (gD o) (natsD l) = some (!decide (∃ x ∈ l, o = some x)) := by
  unfold ninD
  rw [in_nats_o]; rfl
/-- is p better for r than the one at hand -/
def prefB (w : List Nat) (x : Nat) (o : Option Nat) : Bool := decide (x ∈ w) && match o with
  | none => true
  | some y => decide (w.idxOf x < w.idxOf y)
theorem t_prefers {w : List Nat} {x : Nat} {o : Option Nat} : p_prefers [.dat (natsD w), .dat (.int (x : Int)), .dat (gD o)] = .ret (.d (.bl (prefB w x o))) [] := by
  refine fsat_eq ?_
  unfold p_prefers b_prefers prefB
  walk_at "wg"
  rw [nin_nats]
  walk_at "wg"
  refine ⟨fun h => ?_, fun h => ?_⟩
  · rw [decide_eq_false h]; rfl
  · rw [nin_nats_o]
    walk_at "wg"
    by_cases hy : ∃ y ∈ w, o = some y
    · refine ⟨fun z => absurd hy z, fun _ => ?_⟩
      obtain ⟨y, hy, rfl⟩ := hy
      rw [idx_nats h]
      walk_at "wg"
      rw [show gD (some y) = .int (y : Int) from rfl, idx_nats hy]
      walk_at "wg"
      rw [decide_eq_true h, Bool.true_and]
      congr 2
      rw [Bool.eq_iff_iff, decide_eq_true_eq, decide_eq_true_eq]
      omega
    · refine ⟨fun _ => ?_, fun z => absurd z hy⟩
      rw [decide_eq_false hy, decide_eq_true h]
      cases o with
      | none => rfl
      | some y =>
        have hy : y ∉ w := fun z => hy ⟨y, z, rfl⟩
        show _ = Vw.d (.bl (true && decide (w.idxOf x < w.idxOf y)))
        rw [List.idxOf_eq_length hy, decide_eq_true (List.idxOf_lt_length_of_mem h)]
        rfl
theorem rep_nonN (n : Nat) : UbP.rep [.non] n = (List.replicate n none).map gD := by
  induction n with
  | zero => rfl
  | succ n ih =>
    show D.non :: UbP.rep [.non] n = _
    rw [ih, List.replicate_succ]
    rfl
theorem t__turned {K : List (Option Nat)} {n : Nat} (hn : n ≤ 1000) (hK : K.length ≤ 1000) (h1 : ∀ r q : Nat, K[r]? = some (some q) → q < n) (h2 : ∀ r s q : Nat, K[r]? = some (some q) → K[s]? = some (some q) → r = s) :
    ∃ μ : List (Option Nat), p__turned [.dat (.lst (K.map gD)), .dat (.int (n : Int))] = .ret (.f (.l (μ.map gD))) [] ∧ μ.length = n ∧ ∀ p r : Nat, p < n → (μ[p]? = some (some r) ↔ K[r]? = some (some p)) := by
  have key : fsat (p__turned [.dat (.lst (K.map gD)), .dat (.int (n : Int))]) (fun w cs => ∃ μ : List (Option Nat), w = .f (.l (μ.map gD)) ∧ cs = [] ∧ μ.length = n ∧ ∀ p r : Nat, p < n → (μ[p]? = some (some r) ↔ K[r]? = some (some p))) fun _ _ => False := by
    unfold p__turned b__turned
    walk_at "wg"
    rw [rep_nonN]
    refine ⟨⟨by omega, by omega, by omega⟩, ?_⟩
    rw [enum_map]
    refine for_inv (fun pre e => ∃ (μ : List (Option Nat)) (s3 s4 : Option D), e = [.dat (.lst (K.map gD)), .dat (.int (n : Int)), .own (.l (μ.map gD)), jk s3, jk s4] ∧ μ.length = n ∧ ∀ p r : Nat, p < n → (μ[p]? = some (some r) ↔ r < pre.length ∧ K[r]? = some (some p))) ⟨List.replicate n none, none, none, rfl, List.length_replicate, fun p r hp => ⟨fun h => ?_, fun h => absurd h.1 (by simp)⟩⟩ ?_ ?_
    · rw [List.getElem?_replicate, if_pos hp] at h
      cases h
    · rintro pre ⟨o, r0⟩ post e hx ⟨μ, s3, s4, rfl, hl, hμ⟩
      obtain ⟨g1, g2, g3⟩ := zipIdx_split hx
      dsimp only at g1 g2 g3
      walk_at "wg"
      have lt : pre.length < K.length := by omega
      have e0 : K[pre.length]? = some o := by rw [← g1]; exact g2
      have stp : ∀ {μ' : List (Option Nat)}, (∀ p r : Nat, p < n → (μ'[p]? = some (some r) ↔ r < pre.length ∧ K[r]? = some (some p) ∨ r = pre.length ∧ o = some p)) → ∀ p r : Nat, p < n → (μ'[p]? = some (some r) ↔ r < (pre ++ [(o, r0)]).length ∧ K[r]? = some (some p)) := fun h p r hp => by
        rw [h p r hp, List.length_append, List.length_singleton]
        constructor
        · rintro (⟨a, b⟩ | ⟨a, b⟩)
          · exact ⟨by omega, b⟩
          · rw [a, e0, b]
            exact ⟨by omega, rfl⟩
        · rintro ⟨a, b⟩
          by_cases hr : r = pre.length
          · refine .inr ⟨hr, ?_⟩
            rw [hr, e0] at b
            exact Option.some.inj b
          · exact .inl ⟨by omega, b⟩
      cases o with
      | none =>
        rw [show notNoD (gD none) .non = some false from rfl]
        walk_at "wg"
        refine ⟨μ, some (.int (r0 : Int)), some (gD none), rfl, hl, stp fun p r hp => (hμ p r hp).trans ⟨.inl, fun h => h.elim id fun h => by cases h.2⟩⟩
      | some q =>
        rw [show notNoD (gD (some q)) .non = some true from rfl, show gD (some q) = .int (q : Int) from rfl]
        walk_at "wg"
        have hq := h1 _ _ e0
        rw [ixI_nat (by omega)]
        walk_at "wg"
        refine ⟨μ.set q (some r0), some (.int (r0 : Int)), some (.int (q : Int)), ?_, by rw [List.length_set]; exact hl, stp fun p r hp => ?_⟩
        · rw [List.map_set]; rfl
        · by_cases hpq : p = q
          · subst hpq
            rw [List.getElem?_set_self (by omega)]
            constructor
            · intro h
              exact .inr ⟨by rw [← g1]; exact (Option.some.inj (Option.some.inj h)).symm, rfl⟩
            · rintro (⟨a, b⟩ | ⟨a, b⟩)
              · have := h2 _ _ _ e0 b
                omega
              · rw [a, ← g1]
          · rw [List.getElem?_set_ne (Ne.symm hpq), hμ p r hp]
            exact ⟨.inl, fun h => h.elim id fun h => absurd (Option.some.inj h.2).symm hpq⟩
    · rintro e ⟨μ, s3, s4, rfl, hl, hμ⟩
      walk_at "wg"
      refine ⟨μ, rfl, hl, fun p r hp => (hμ p r hp).trans ⟨fun h => h.2, fun h => ⟨?_, h⟩⟩⟩
      rw [List.length_zipIdx]
      exact (List.getElem?_eq_some_iff.mp h).1
  obtain ⟨w, cs, e, μ, rfl, rfl, h⟩ := fsat_out key
  exact ⟨μ, e, h⟩
abbrev rowsD (P : List (List Nat)) (n : Nat) (k : Nat → Nat) : List (List D) := (List.range n).map fun p => ((rowF P p).drop (k p)).map fun (x : Nat) => D.int (x : Int)
theorem rows_start {n m : Nat} {P : List (List Nat)} (h : LOk n m P) : (P.map fun w => w.map fun (x : Nat) => D.int (x : Int)) = rowsD P n fun _ => 0 := by
  apply List.ext_getElem
  · rw [List.length_map, List.length_map, List.length_range, h.len]
  · intro i h1 h2
    rw [List.length_map] at h1
    rw [List.getElem_map, List.getElem_map, List.getElem_range]
    show _ = ((P.getD i []).drop 0).map _
    rw [List.getD_eq_getElem?_getD, List.getElem?_eq_getElem h1]
    rfl
theorem range_set {α : Type} {f : Nat → α} {n i : Nat} {v : α} : ((List.range n).map f).set i v = (List.range n).map (upF f i v) := by
  apply List.ext_getElem
  · rw [List.length_set, List.length_map, List.length_map]
  · intro j h1 h2
    rw [List.getElem_set]
    rw [List.getElem_map, List.getElem_map, List.getElem_range]
    by_cases h : i = j
    · subst h
      rw [if_pos rfl, upF_same]
    · rw [if_neg h, upF_ne (Ne.symm h)]
theorem rows_set {P : List (List Nat)} {n p : Nat} {k : Nat → Nat} : (rowsD P n k).set p (((rowF P p).drop (k p + 1)).map fun (x : Nat) => D.int (x : Int)) = rowsD P n (upF k p (k p + 1)) := by
  rw [show rowsD P n k = (List.range n).map fun p => ((rowF P p).drop (k p)).map fun (x : Nat) => D.int (x : Int) from rfl, range_set]
  show _ = (List.range n).map fun q => ((rowF P q).drop (upF k p (k p + 1) q)).map fun (x : Nat) => D.int (x : Int)
  congr 1
  funext q
  by_cases h : q = p
  · subst h
    rw [upF_same, upF_same]
  · rw [upF_ne h, upF_ne h]
/-- what is left to do -/
def todo (e : UbP.Env) : Nat := match e with
  | [_, _, .nst rows, _, .own (.l s), _, _, _, _] => 2 * sumL (fun x => x) (rows.map List.length) + s.length
  | _ => 0
theorem sum_set {l : List Nat} {i a b : Nat} (h : l[i]? = some a) (hb : b < a) : sumL (fun x => x) (l.set i b) + (a - b) = sumL (fun x => x) l := by
  induction l generalizing i with
  | nil => simp at h
  | cons x l ih =>
    cases i with
    | zero =>
      simp at h
      subst h
      show b + sumL _ l + (x - b) = x + sumL _ l
      omega
    | succ i =>
      have := ih (i := i) (by simpa using h)
      show x + sumL _ (l.set i b) + (a - b) = x + sumL _ l
      omega
theorem sum_rows {P : List (List Nat)} {n p : Nat} {k : Nat → Nat} (hp : p < n) (hk : k p < (rowF P p).length) : sumL (fun x => x) ((rowsD P n (upF k p (k p + 1))).map List.length) + 1 = sumL (fun x => x) ((rowsD P n k).map List.length) := by
  rw [← rows_set, List.map_set]
  have e : ((rowsD P n k).map List.length)[p]? = some ((rowF P p).length - k p) := by
    show (((List.range n).map _).map _)[p]? = _
    rw [List.getElem?_map, List.getElem?_map, List.getElem?_range hp]
    show some (List.length (List.map _ _)) = _
    rw [List.length_map, List.length_drop]
  have := sum_set (b := ((rowF P p).drop (k p + 1)).length) e (by rw [List.length_drop]; omega)
  rw [List.length_map]
  rw [List.length_drop] at this ⊢
  omega
theorem sum_small : ∀ (P : List (List Nat)), (∀ w ∈ P, w.length ≤ 8) → sumL (fun x => x) ((P.map fun w => w.map fun (x : Nat) => D.int (x : Int)).map List.length) ≤ 8 * P.length
  | [], _ => Nat.le_refl _
  | w :: P, h => by
    have h1 := sum_small P fun v hv => h v (List.mem_cons_of_mem _ hv)
    have h2 := h w List.mem_cons_self
    show (w.map _).length + sumL _ ((P.map _).map _) ≤ 8 * (P.length + 1)
    rw [List.length_map]
    omega
theorem t_accept {n m : Nat} {P R : List (List Nat)} (hP : LOk n m P) (hR : LOk m n R) (hn : n ≤ 8) (hm : m ≤ 8) :
    ∃ μ : List (Option Nat), p_accept [.dat (wsD P), .dat (wsD R)] = .ret (.f (.l (μ.map gD))) [] ∧ μ.length = n ∧ OptM (rowF P) (rowF R) n m fun p => μ.getD p none := by
  have key : fsat (p_accept [.dat (wsD P), .dat (wsD R)]) (fun w cs => ∃ μ : List (Option Nat), w = .f (.l (μ.map gD)) ∧ cs = [] ∧ μ.length = n ∧ OptM (rowF P) (rowF R) n m fun p => μ.getD p none) fun _ _ => False := by
    have L := hP.lts hR
    have lP := hP.len
    have lR := hR.len
    unfold p_accept b_accept eRg1
    walk_at "wg"
    rw [t__check_sides hP hR hn hm]
    walk_at "wg"
    rw [st_sNst, st_eLcN]
    walk_at "wg"
    have e1 : lcGoN (Tg.nm 8) (UbP.ret true) (eU listD (eV 8)) [8] (P.map natsD) [] [Sl.dat (wsD P), Sl.dat (wsD R), Sl.no, Sl.no, Sl.no, Sl.no, Sl.no, Sl.no, Sl.no] = .ok ([] ++ P.map fun w => w.map fun (x : Nat) => D.int (x : Int)) [Sl.dat (wsD P), Sl.dat (wsD R), Sl.no, Sl.no, Sl.no, Sl.no, Sl.no, Sl.no, Sl.no] :=
      lcN_go _ P [] (by show 0 + P.length ≤ 1000000; omega) fun w hw => ⟨_, _, _, rfl, rfl, rfl, rfl⟩
    rw [e1]
    dsimp only
    rw [st_ok, List.nil_append]
    rw [rows_start hP]
    refine st_nstN rfl rfl rfl ?_
    walk_at "wg"
    rw [st_sSeqN]
    walk_at "wg"
    rw [lR, rep_nonN]
    refine ⟨⟨by omega, by omega, by omega⟩, ?_⟩
    rw [st_sSeqN]
    walk_at "wg"
    rw [lP, rg1_nat (by omega)]
    walk_at "wg"
    rw [st_sSeqN]
    refine whl_inv (n := 1000) (fun e => ∃ (k : Nat → Nat) (kept : Nat → Option Nat) (single : List Nat) (s5 s6 s7 : Option D), e = [.dat (wsD P), .dat (wsD R), .nst (rowsD P n k), .own (.l (((List.range m).map kept).map gD)), .own (.l (single.map fun (x : Nat) => D.int (x : Int))), jk s5, jk s6, jk s7, .no] ∧ Da (rowF P) (rowF R) n m k kept single) todo ⟨fun _ => 0, fun _ => none, List.range n, none, none, none, ?_, Da.start⟩ ?_ ?_
    · rw [show (List.range m).map (fun _ => (none : Option Nat)) = List.replicate m none from by rw [List.map_const', List.length_range]]
      rfl
    · show 2 * sumL (fun x => x) ((rowsD P n fun _ => 0).map List.length) + ((List.range n).map _).length < 1000
      rw [List.length_map, List.length_range, ← rows_start hP]
      have := sum_small P fun w hw => Nat.le_trans (nd_len (hP.ok w hw)) hm
      omega
    rintro e ⟨k, kept, single, s5, s6, s7, rfl, hD⟩
    walk_at "wg"
    refine ⟨fun hne => ?_, fun he => ?_⟩
    · rcases List.eq_nil_or_concat single with rfl | ⟨sg, p, rfl⟩
      · cases hne
      rw [List.concat_eq_append] at hD hne ⊢
      obtain ⟨hp, hpk⟩ := hD.sg p (by simp)
      have hsl : (sg ++ [p]).length ≤ 8 := by
        have := nodup_le hD.nd (l := List.range n) fun x hx => List.mem_range.mpr (hD.sg x hx).1
        rw [List.length_range] at this
        omega
      rw [List.map_append, List.map_cons, List.map_nil, List.getLast?_concat, List.dropLast_concat]
      walk_at "wg"
      have row : (rowsD P n k)[p]? = some (((rowF P p).drop (k p)).map fun (x : Nat) => D.int (x : Int)) := by
        show ((List.range n).map _)[p]? = _
        rw [List.getElem?_map, List.getElem?_range hp]
        rfl
      have rl : (rowsD P n k).length = n := by
        show ((List.range n).map _).length = n
        rw [List.length_map, List.length_range]
      rw [st_sIfRow, st_eRow, st_intV]
      walk_at "wg"
      rw [st_rowM (rows := rowsD P n k) (r := ((rowF P p).drop (k p)).map fun (x : Nat) => D.int (x : Int)) (j := p) rfl (by rw [rl, ixI_nat hp]) row]
      by_cases hk : k p = (rowF P p).length
      · rw [List.drop_of_length_le (by omega)]
        walk_at "wg"
        refine ⟨⟨k, kept, sg, some (.int (p : Int)), s6, s7, rfl, hD.out hk⟩, ?_⟩
        show 2 * _ + _ < 2 * _ + _
        rw [List.length_append]
        simp only [List.length_cons, List.length_nil]
        omega
      · have hk : k p < (rowF P p).length := by
          have := hD.kle p hp
          omega
        obtain ⟨r, er⟩ : ∃ r, (rowF P p)[k p]? = some r := ⟨_, List.getElem?_eq_getElem hk⟩
        have ed : (rowF P p).drop (k p) = r :: (rowF P p).drop (k p + 1) := by
          rw [List.drop_eq_getElem_cons hk]
          rw [List.getElem?_eq_getElem hk] at er
          rw [Option.some.inj er]
        obtain ⟨_, hr, hrP, hix, _, hkr⟩ := hD.wish L er
        rw [ed, List.map_cons]
        walk_at "wg"
        rw [st_sPopRow, st_eRow, st_intV]
        walk_at "wg"
        rw [st_rowM (rows := rowsD P n k) (r := ((rowF P p).drop (k p)).map fun (x : Nat) => D.int (x : Int)) (j := p) rfl (by rw [rl, ixI_nat hp]) row, ed, List.map_cons]
        walk_at "wg"
        rw [st_intV]
        walk_at "wg"
        have sm : ((rowF P p).drop (k p + 1)).length + 1 < 1000000 := by
          have := nd_len (hP.at hp)
          rw [List.length_drop]
          omega
        rw [if_pos sm, st_bnd, st_putRow rfl, List.eraseIdx_cons_zero]
        dsimp only
        rw [rows_set]
        walk_at "wg"
        rw [hR.get hr]
        walk_at "wg"
        rw [List.getElem?_range hr]
        walk_at "wg"
        rw [t_prefers]
        walk_at "wg"
        have hs := sum_rows (P := P) hp hk
        refine ⟨fun hy => ?_, fun hy => ?_⟩
        · rw [List.getElem?_range hr]
          walk_at "wg"
          rw [ixI_nat (by rw [List.length_range]; exact hr)]
          walk_at "wg"
          have hset : ∀ v : Nat, ((List.map gD (List.map kept (List.range m))).set r (.int (v : Int))) = List.map gD (List.map (upF kept r (some v)) (List.range m)) := fun v => by
            rw [← range_set, List.map_set]
            rfl
          unfold prefB at hy
          rw [Bool.and_eq_true, decide_eq_true_eq] at hy
          have hg := hD.grant L er hy.1 fun q hq => by
            have := hy.2
            rw [hq] at this
            exact of_decide_eq_true this
          rw [hset]
          cases ek : kept r with
          | none =>
            rw [show notNoD (gD none) .non = some false from rfl]
            walk_at "wg"
            rw [ek] at hg
            refine ⟨⟨_, _, sg, some (.int (p : Int)), some (.int (r : Int)), some (gD none), rfl, by rw [show sg ++ (none : Option Nat).toList = sg from List.append_nil _] at hg; exact hg⟩, ?_⟩
            show 2 * _ + _ < 2 * _ + _
            rw [List.length_append, List.length_map]
            simp only [List.length_cons, List.length_nil]
            omega
          | some q =>
            rw [show notNoD (gD (some q)) .non = some true from rfl, show gD (some q) = .int (q : Int) from rfl]
            walk_at "wg"
            rw [ek] at hg
            have hsg : sg.length < 1000000 := by
              rw [List.length_append] at hsl
              omega
            refine ⟨hsg, ⟨_, _, sg ++ [q], some (.int (p : Int)), some (.int (r : Int)), some (.int (q : Int)), ?_, hg⟩, ?_⟩
            · rw [map_snoc (fun (x : Nat) => D.int (x : Int))]
              rfl
            · show 2 * _ + _ < 2 * _ + _
              rw [List.length_append, List.length_append, List.length_map]
              simp only [List.length_cons, List.length_nil]
              omega
        · have hsg : sg.length < 1000000 := by
            rw [List.length_append] at hsl
            omega
          have no : p ∉ rowF R r ∨ ∃ q, kept r = some q ∧ (rowF R r).idxOf q < (rowF R r).idxOf p := by
            by_cases hpR : p ∈ rowF R r
            · unfold prefB at hy
              rw [decide_eq_true hpR, Bool.true_and] at hy
              cases ek : kept r with
              | none => rw [ek] at hy; cases hy
              | some q =>
                rw [ek] at hy
                have hy : decide ((rowF R r).idxOf p < (rowF R r).idxOf q) = false := hy
                have hy := of_decide_eq_false hy
                refine .inr ⟨q, rfl, Nat.lt_of_le_of_ne (by omega) fun e => ?_⟩
                have := idx_inj (hkr q ek).2.1 hpR e
                exact hpk r hr (by rw [ek, this])
            · exact .inl hpR
          refine ⟨hsg, ⟨_, _, sg ++ [p], some (.int (p : Int)), some (.int (r : Int)), some (.int (p : Int)), ?_, hD.refuse L er no⟩, ?_⟩
          · rw [map_snoc (fun (x : Nat) => D.int (x : Int))]
            rfl
          · show 2 * _ + _ < 2 * _ + _
            omega
    · have he : single = [] := by
        cases single with
        | nil => rfl
        | cons a s => cases he
      subst he
      rw [st_sUn rfl]
      walk_at "wg"
      have K0 : ∀ r q : Nat, ((List.range m).map kept)[r]? = some (some q) → r < m ∧ kept r = some q := fun r q h => by
        rw [List.getElem?_map] at h
        obtain ⟨r', h1, h2⟩ := Option.map_eq_some_iff.mp h
        obtain ⟨h3, h4⟩ := List.getElem?_eq_some_iff.mp h1
        rw [List.length_range] at h3
        rw [List.getElem_range] at h4
        subst h4
        exact ⟨h3, h2⟩
      have K1 : ∀ r q : Nat, r < m → kept r = some q → ((List.range m).map kept)[r]? = some (some q) := fun r q h1 h2 => by
        rw [List.getElem?_map, List.getElem?_range h1, ← h2]
        rfl
      have H1 : ∀ r q : Nat, ((List.range m).map kept)[r]? = some (some q) → q < n := fun r q h => (hD.hold r (K0 r q h).1 q (K0 r q h).2).1
      have H2 : ∀ r s q : Nat, ((List.range m).map kept)[r]? = some (some q) → ((List.range m).map kept)[s]? = some (some q) → r = s := fun r s q h1 h2 => by
        have a := (hD.hold r (K0 r q h1).1 q (K0 r q h1).2).2.2.2
        have b := (hD.hold s (K0 s q h2).1 q (K0 s q h2).2).2.2.2
        rw [a] at b
        exact Option.some.inj b
      obtain ⟨μ, eμ, hl, hμ⟩ := t__turned (K := (List.range m).map kept) (n := n) (by omega) (by rw [List.length_map, List.length_range]; omega) H1 H2
      rw [lP, eμ]
      walk_at "wg"
      refine ⟨μ, rfl, hl, hD.done L fun p hp r => ?_⟩
      have e : μ.getD p none = some r ↔ μ[p]? = some (some r) := by
        rw [getD_ok (d := none) (show p < μ.length by omega)]
        exact ⟨fun h => by rw [h], fun h => Option.some.inj h⟩
      exact e.trans ((hμ p r hp).trans ⟨fun h => K0 r p h, fun h => K1 r p h.1 h.2⟩)
  obtain ⟨w, cs, e, μ, rfl, rfl, h⟩ := fsat_out key
  exact ⟨μ, e, h⟩
theorem t__law_wishesB {c : Ct} {n : Nat} (hc : RowC c) (hn : n ≤ 10) : ∃ (l : List Nat) (c' : Ct) (w : Vw), p__law_wishes [.par c, .dat (.int (n : Int)), .dat (.bl false)] = .ret w [c'] ∧ (w = .d (natsD l) ∨ w = .f (.l (l.map fun (k : Nat) => D.int (k : Int)))) ∧ (l.Nodup ∧ ∀ x ∈ l, x < n) ∧ RowC c' := by
  have key : fsat (p__law_wishes [.par c, .dat (.int (n : Int)), .dat (.bl false)]) (fun w cs => ∃ (l : List Nat) (c' : Ct), (w = .d (natsD l) ∨ w = .f (.l (l.map fun (k : Nat) => D.int (k : Int)))) ∧ cs = [c'] ∧ (l.Nodup ∧ ∀ x ∈ l, x < n) ∧ RowC c') fun _ _ => False := by
    unfold p__law_wishes b__law_wishes eRg1
    walk_at "wg"
    rw [rg1_nat (by omega)]
    walk_at "wg"
    rw [ints0]
    refine ⟨bigI_small (by omega), ?_⟩
    refine lc_inv (xs := List.range n) (lim_le (by rw [List.length_range]; omega)) (fun pre acc e => ∃ (l r : List Nat) (c' : Ct), acc = (l.map fun (k : Nat) => D.int (k : Int)) ∧ e = [.par c', .dat (.int (n : Int)), .dat (.bl false), .own (.l (r.map fun (k : Nat) => D.int (k : Int))), .no, .no] ∧ (l ++ r).Perm (List.range n) ∧ l.length = pre.length ∧ RowC c') ⟨[], List.range n, c, rfl, rfl, List.Perm.refl _, rfl, hc⟩ ?_ ?_
    · rintro pre i post acc e hx ⟨l, r, c0, rfl, rfl, hp, hl, d0⟩
      obtain ⟨h1, h2⟩ := at_range hx
      have hlen := hp.length_eq
      rw [List.length_append, List.length_range] at hlen
      have hr : r.length ≤ 10 := by omega
      walk_at "wg"
      obtain ⟨v, c1, ev, v0, v1, d1⟩ := t__law_take (m := (r.length : Int)) d0 (by omega)
      rw [ev]
      walk_at "wg"
      obtain ⟨j, rfl⟩ : ∃ j : Nat, v = (j : Int) := ⟨v.toNat, by omega⟩
      have hj : j < r.length := by omega
      rw [ixI_nat hj]
      walk_at "wg"
      rw [getD_ok (d := 0) hj]
      walk_at "wg"
      refine ⟨by omega, l ++ [r.getD j 0], r.eraseIdx j, c1, ?_, ?_, ?_, ?_, d1⟩
      · rw [List.map_append]; rfl
      · rw [erase_map]
      · refine .trans ?_ hp
        rw [List.append_assoc]
        refine .append_left l ?_
        rw [List.getD_eq_getElem?_getD, List.getElem?_eq_getElem hj]
        exact erase_perm r j hj
      · rw [List.length_append, List.length_append, hl]; rfl
    · rintro acc e ⟨l, r, c0, rfl, rfl, hp, hl, d0⟩
      walk_at "wg"
      have hlen := hp.length_eq
      rw [List.length_append, List.length_range, hl, List.length_range] at hlen
      have hr : r = [] := List.eq_nil_of_length_eq_zero (by omega)
      subst hr
      rw [List.append_nil] at hp
      have lok : l.Nodup ∧ ∀ x ∈ l, x < n := ⟨hp.nodup_iff.mpr List.nodup_range, fun x hx => List.mem_range.mp (hp.mem_iff.mp hx)⟩
      obtain ⟨v, c1, ev, v0, v1, d1⟩ := t__law_take (m := 2) d0 (by decide)
      rw [ev]
      walk_at "wg"
      refine ⟨fun _ => ⟨l, c1, .inl rfl, rfl, lok, d1⟩, fun _ => ?_⟩
      obtain ⟨v, c2, ev, v0, v1, d2⟩ := t__law_take (m := (n : Int) + 1) d1 (by omega)
      rw [ev]
      walk_at "wg"
      obtain ⟨j, rfl⟩ : ∃ j : Nat, v = (j : Int) := ⟨v.toNat, by omega⟩
      have hll := hp.length_eq
      rw [List.length_range] at hll
      rw [cut_mapG, cut_to _ _ (by omega)]
      exact ⟨l.take j, c2, .inr rfl, rfl, ⟨List.Sublist.nodup (List.take_sublist _ _) lok.1, fun x hx => lok.2 x (List.mem_of_mem_take hx)⟩, d2⟩
  obtain ⟨w, cs, e, l, c', hw, rfl, h⟩ := fsat_out key
  exact ⟨l, c', w, e, hw, h⟩
theorem t__law_copied {W : List (List Nat)} (hl : W.length ≤ 1000) : p__law_copied [.dat (wsD W)] = .ret (.f (.l (W.map natsD))) [] := by
  refine fsat_eq ?_
  unfold p__law_copied b__law_copied
  walk_at "wg"
  refine lc_map (xs := W) natsD (lim_le (by omega)) (fun w hw => ?_) ?_
  · walk_at "wg"
  · walk_at "wg"
/-- the law's rank -/
def rkL (w : List Nat) : Option Nat → Nat
  | none => w.length
  | some x => if x ∈ w then w.idxOf x else w.length + 1
theorem t__law_rank {l : List Nat} {o : Option Nat} : p__law_rank [.dat (natsD l), .dat (gD o)] = .ret (.d (.int (rkL l o : Nat))) [] := by
  refine fsat_eq ?_
  unfold p__law_rank b__law_rank
  cases o with
  | none =>
    walk_at "wg"
    rw [show isNoD (gD none) .non = some true from rfl]
    walk_at "wg"
    rfl
  | some x =>
    rw [show gD (some x) = .int (x : Int) from rfl]
    walk_at "wg"
    rw [in_nats]
    walk_at "wg"
    refine ⟨fun h => ?_, fun h => ?_⟩
    · rw [idx_nats h]
      walk_at "wg"
      rw [show rkL l (some x) = l.idxOf x from if_pos h]
    · rw [show rkL l (some x) = l.length + 1 from if_neg h]
      rfl
theorem rk_ix {w : List Nat} {o : Option Nat} (h : ∀ x, o = some x → x ∈ w) : rkL w o = ixO w o := by
  cases o with
  | none => rfl
  | some x => exact if_pos (h x rfl)
theorem t__law_rankN {l : List Nat} {x : Nat} : p__law_rank [.dat (natsD l), .dat (.int (x : Int))] = .ret (.d (.int (rkL l (some x) : Nat))) [] := t__law_rank (o := some x)
def prtL (ν : List (Option Nat)) (r : Nat) : Option Nat := if some r ∈ ν then some (ν.idxOf (some r)) else none
structure MOk (n m : Nat) (ν : List (Option Nat)) : Prop where
  len : ν.length = n
  lt : ∀ r, some r ∈ ν → r < m
  inj : ∀ p q r : Nat, ν[p]? = some (some r) → ν[q]? = some (some r) → p = q
abbrev mtF (ν : List (Option Nat)) : Nat → Option Nat := fun p => ν.getD p none
theorem MOk.get {n m : Nat} {ν : List (Option Nat)} (h : MOk n m ν) {p : Nat} (hp : p < n) : ν[p]? = some (mtF ν p) := getD_ok (by rw [h.len]; exact hp)
/-- nobody is matched against its list, and p blocks with nobody -/
def GoodP (P R : Nat → List Nat) (m : Nat) (ν : List (Option Nat)) (p : Nat) : Prop :=
  (∀ r, mtF ν p = some r → r ∈ P p ∧ p ∈ R r) ∧ ∀ r, r < m → r ∈ P p → p ∈ R r → rkL (P p) (some r) < rkL (P p) (mtF ν p) → ¬rkL (R r) (some p) < rkL (R r) (prtL ν r)
/-- p blocks with r -/
def BlkP (P R : Nat → List Nat) (ν : List (Option Nat)) (p r : Nat) : Prop := r ∈ P p ∧ p ∈ R r ∧ rkL (P p) (some r) < rkL (P p) (mtF ν p) ∧ rkL (R r) (some p) < rkL (R r) (prtL ν r)
theorem stable_in {n m : Nat} {P R : List (List Nat)} {ν : List (Option Nat)} (hP : LOk n m P) (hR : LOk m n R) (hn : n ≤ 8) (hm : m ≤ 8) (hν : MOk n m ν) {p : Nat} (g2 : p < n) {s5 s6 : Option D} {k : Kwt Fl} {q : Kwe}
    (hbad : ∀ s5 s6 : Option D, (∃ r, r < m ∧ BlkP (rowF P) (rowF R) ν p r) → k.P (.rt (.d (.bl false))) [.dat (wsD P), .dat (wsD R), .dat (.lst (ν.map gD)), .dat (.int (p : Int)), .dat (gD (mtF ν p)), jk s5, jk s6])
    (hgood : ∀ s5 s6 : Option D, (∀ r, r < m → ¬BlkP (rowF P) (rowF R) ν p r) → k.P .nx [.dat (wsD P), .dat (wsD R), .dat (.lst (ν.map gD)), .dat (.int (p : Int)), .dat (gD (mtF ν p)), jk s5, jk s6]) :
    @st Fl (b__law_stable_1 [.dat (wsD P), .dat (wsD R), .dat (.lst (ν.map gD)), .dat (.int (p : Int)), .dat (gD (mtF ν p)), jk s5, jk s6]) k q := by
  have lP := hP.len
  have lR := hR.len
  have lν := hν.len
  unfold b__law_stable_1
  walk_at "wg"
  rw [lR, ints0]
  refine ⟨bigI_small (by omega), ?_⟩
  refine for_inv (fun pre e => ∃ s5 s6 : Option D, e = [.dat (wsD P), .dat (wsD R), .dat (.lst (ν.map gD)), .dat (.int (p : Int)), .dat (gD (mtF ν p)), jk s5, jk s6] ∧ ∀ r ∈ pre, ¬BlkP (rowF P) (rowF R) ν p r) ⟨s5, s6, rfl, fun _ h => nomatch h⟩ ?_ ?_
  · rintro pre r post e hx ⟨s5, s6, rfl, hg⟩
    obtain ⟨h1, h2⟩ := at_range hx
    have nxt : ∀ s6 : Option D, ¬BlkP (rowF P) (rowF R) ν p r → ∃ s5 s6' : Option D, [.dat (wsD P), .dat (wsD R), .dat (.lst (ν.map gD)), .dat (.int (p : Int)), .dat (gD (mtF ν p)), .dat (.int (r : Int)), jk s6] = [.dat (wsD P), .dat (wsD R), .dat (.lst (ν.map gD)), .dat (.int (p : Int)), .dat (gD (mtF ν p)), jk s5, jk s6'] ∧ ∀ r' ∈ pre ++ [r], ¬BlkP (rowF P) (rowF R) ν p r' := fun s6 h => ⟨some (.int (r : Int)), s6, rfl, fun r' hr' => by
      rcases List.mem_append.mp hr' with hr' | hr'
      · exact hg r' hr'
      · rw [List.mem_singleton.mp hr']; exact h⟩
    walk_at "wg"
    rw [show inD (.int (r : Int)) (.lst (ν.map gD)) = some (decide (some r ∈ ν)) from in_gD (some r) ν]
    walk_at "wg"
    refine ⟨fun hi => ?na, fun hi => ?nb⟩
    case' na =>
      rw [show idxD (.lst (ν.map gD)) (.int (r : Int)) = _ from idx_gD (o := some r) hi]
      walk_at "wg"
      rw [show (D.int ((ν.idxOf (some r) : Nat) : Int)) = gD (prtL ν r) from by unfold prtL; rw [if_pos hi]; rfl]
    case' nb =>
      rw [show Sl.dat D.non = Sl.dat (gD (prtL ν r)) from by unfold prtL; rw [if_neg hi]; rfl]
    all_goals
      rw [hP.get g2]
      walk_at "wg"
      rw [in_nats]
      walk_at "wg"
      refine ⟨fun h1' => ?_, fun h1' => nxt (some (gD (prtL ν r))) fun b => h1' b.1⟩
      rw [hR.get h2]
      walk_at "wg"
      rw [in_nats]
      walk_at "wg"
      refine ⟨fun h3 => ?_, fun h3 => nxt (some (gD (prtL ν r))) fun b => h3 b.2.1⟩
      rw [hP.get g2]
      walk_at "wg"
      rw [t__law_rankN]
      walk_at "wg"
      rw [hP.get g2]
      walk_at "wg"
      rw [t__law_rank]
      walk_at "wg"
      refine ⟨fun h4 => ?_, fun h4 => nxt (some (gD (prtL ν r))) fun b => h4 (by have := b.2.2.1; omega)⟩
      rw [hR.get h2]
      walk_at "wg"
      rw [t__law_rankN]
      walk_at "wg"
      rw [hR.get h2]
      walk_at "wg"
      rw [t__law_rank]
      walk_at "wg"
      refine ⟨fun h5 => ?_, fun h5 => nxt (some (gD (prtL ν r))) fun b => h5 (by have := b.2.2.2; omega)⟩
      exact hbad (some (.int (r : Int))) (some (gD (prtL ν r))) ⟨r, h2, h1', h3, by omega, by omega⟩
  · rintro e ⟨s5, s6, rfl, hg⟩
    exact hgood s5 s6 fun r hr => hg r (List.mem_range.mpr hr)
theorem t__law_stable {n m : Nat} {P R : List (List Nat)} {ν : List (Option Nat)} (hP : LOk n m P) (hR : LOk m n R) (hn : n ≤ 8) (hm : m ≤ 8) (hν : MOk n m ν) :
    ∃ b : Bool, p__law_stable [.dat (wsD P), .dat (wsD R), .dat (.lst (ν.map gD))] = .ret (.d (.bl b)) [] ∧ (b = true ↔ ∀ p, p < n → GoodP (rowF P) (rowF R) m ν p) := by
  have key : fsat (p__law_stable [.dat (wsD P), .dat (wsD R), .dat (.lst (ν.map gD))]) (fun w cs => ∃ b : Bool, w = .d (.bl b) ∧ cs = [] ∧ (b = true ↔ ∀ p, p < n → GoodP (rowF P) (rowF R) m ν p)) fun _ _ => False := by
    have lP := hP.len
    have lR := hR.len
    unfold p__law_stable b__law_stable
    walk_at "wg"
    rw [lP, ints0]
    refine ⟨bigI_small (by omega), ?_⟩
    refine for_inv (fun pre e => ∃ s3 s4 s5 s6 : Option D, e = [.dat (wsD P), .dat (wsD R), .dat (.lst (ν.map gD)), jk s3, jk s4, jk s5, jk s6] ∧ ∀ p ∈ pre, GoodP (rowF P) (rowF R) m ν p) ⟨none, none, none, none, rfl, fun _ h => nomatch h⟩ ?_ ?_
    · rintro pre p post e hx ⟨s3, s4, s5, s6, rfl, hg⟩
      obtain ⟨g1, g2⟩ := at_range hx
      walk_at "wg"
      rw [hν.get g2]
      walk_at "wg"
      have bad : ¬(∀ r, mtF ν p = some r → r ∈ rowF P p ∧ p ∈ rowF R r) → ¬∀ p, p < n → GoodP (rowF P) (rowF R) m ν p := fun h z => h (z p g2).1
      cases eo : mtF ν p
      case' none =>
        rw [show notNoD (gD none) .non = some false from rfl]
        walk_at "wg"
        have hir : ∀ r, mtF ν p = some r → r ∈ rowF P p ∧ p ∈ rowF R r := fun r h => by rw [eo] at h; cases h
        rw [← eo]
      case' some r =>
        have hr : r < m := hν.lt r (by have := hν.get g2; rw [eo] at this; exact List.mem_of_getElem? this)
        rw [eo] at bad
        rw [show notNoD (gD (some r)) .non = some true from rfl, show gD (some r) = .int (r : Int) from rfl]
        walk_at "wg"
        rw [hP.get g2]
        walk_at "wg"
        rw [nin_nats]
        walk_at "wg"
        refine ⟨fun h1 => ⟨false, rfl, ⟨fun z => (nomatch z), fun z => absurd z (bad fun y => h1 (y r rfl).1)⟩⟩, fun h1 => ?_⟩
        rw [hR.get hr]
        walk_at "wg"
        rw [nin_nats]
        walk_at "wg"
        refine ⟨fun h2 => ⟨false, rfl, ⟨fun z => (nomatch z), fun z => absurd z (bad fun y => h2 (y r rfl).2)⟩⟩, fun h2 => ?_⟩
        have hir : ∀ r, mtF ν p = some r → r ∈ rowF P p ∧ p ∈ rowF R r := fun r' h => by rw [eo] at h; cases h; exact ⟨h1, h2⟩
        rw [show Sl.dat (.int (r : Int)) = Sl.dat (gD (mtF ν p)) from by rw [eo]; rfl]
      all_goals
        refine stable_in hP hR hn hm hν g2 (fun s5 s6 ⟨r, hr, hb⟩ => ?_) (fun s5 s6 h => ?_)
        · walk_at "wg"
          refine ⟨false, rfl, ⟨fun z => (nomatch z), fun z => ?_⟩⟩
          exact absurd hb.2.2.2 ((z p g2).2 r hr hb.1 hb.2.1 hb.2.2.1)
        · walk_at "wg"
          refine ⟨some (.int (p : Int)), some (gD (mtF ν p)), s5, s6, rfl, fun p' hp' => ?_⟩
          rcases List.mem_append.mp hp' with hp' | hp'
          · exact hg p' hp'
          · rw [List.mem_singleton.mp hp']
            exact ⟨hir, fun r hr a b c d => h r hr ⟨a, b, c, d⟩⟩
    · rintro e ⟨s3, s4, s5, s6, rfl, hg⟩
      walk_at "wg"
      exact ⟨true, rfl, ⟨fun _ p hp => hg p (List.mem_range.mpr hp), fun _ => rfl⟩⟩
  obtain ⟨w, cs, e, b, rfl, rfl, h⟩ := fsat_out key
  exact ⟨b, e, h⟩
theorem at_idxO {ν : List (Option Nat)} {o : Option Nat} (h : o ∈ ν) : ν.idxOf o < ν.length ∧ ν[ν.idxOf o]? = some o := by
  have hj := List.idxOf_lt_length_of_mem h
  exact ⟨hj, by rw [List.getElem?_eq_getElem hj, List.getElem_idxOf hj]⟩
theorem good_st {n m : Nat} {P R : List (List Nat)} {ν : List (Option Nat)} (hν : MOk n m ν) : (∀ p, p < n → GoodP (rowF P) (rowF R) m ν p) ↔ StM (rowF P) (rowF R) n m (mtF ν) := by
  have mem : ∀ p, p < n → ∀ r, mtF ν p = some r → some r ∈ ν := fun p hp r h => by
    have := hν.get hp
    rw [h] at this
    exact List.mem_of_getElem? this
  constructor
  · intro h
    refine ⟨fun p hp r e => ⟨hν.lt r (mem p hp r e), (h p hp).1 r e⟩, fun p hp q hq r e1 e2 => hν.inj p q r (by rw [hν.get hp, e1]) (by rw [hν.get hq, e2]), fun p hp r hr h1 h2 h3 => ?_⟩
    have e1 : rkL (rowF P p) (mtF ν p) = ixO (rowF P p) (mtF ν p) := rk_ix fun x e => ((h p hp).1 x e).1
    have e2 : rkL (rowF P p) (some r) = (rowF P p).idxOf r := if_pos h1
    have no := (h p hp).2 r hr h1 h2 (by rw [e1, e2]; exact h3)
    have e3 : rkL (rowF R r) (some p) = (rowF R r).idxOf p := if_pos h2
    rw [e3] at no
    have lt := List.idxOf_lt_length_of_mem h2
    by_cases hm : some r ∈ ν
    · obtain ⟨q1, q2⟩ := at_idxO hm
      rw [show prtL ν r = some (ν.idxOf (some r)) from if_pos hm] at no
      have hq : ν.idxOf (some r) < n := by rw [← hν.len]; exact q1
      have eq : mtF ν (ν.idxOf (some r)) = some r := by
        have := hν.get hq
        rw [q2] at this
        exact (Option.some.inj this).symm
      have hqR := ((h _ hq).1 r eq).2
      rw [show rkL (rowF R r) (some (ν.idxOf (some r))) = (rowF R r).idxOf (ν.idxOf (some r)) from if_pos hqR] at no
      refine ⟨_, hq, eq, Nat.lt_of_le_of_ne (by omega) fun z => ?_⟩
      have := idx_inj hqR h2 z
      rw [this] at eq
      rw [eq] at h3
      exact Nat.lt_irrefl _ h3
    · rw [show prtL ν r = none from if_neg hm] at no
      exact absurd lt no
  · intro S p hp
    refine ⟨fun r e => (S.ir p hp r e).2, fun r hr h1 h2 h3 => ?_⟩
    have e1 : rkL (rowF P p) (mtF ν p) = ixO (rowF P p) (mtF ν p) := rk_ix fun x e => (S.ir p hp x e).2.1
    rw [e1, show rkL (rowF P p) (some r) = (rowF P p).idxOf r from if_pos h1] at h3
    obtain ⟨q, hq, eq, hlt⟩ := S.nb p hp r hr h1 h2 h3
    have hm := mem q hq r eq
    obtain ⟨q1, q2⟩ := at_idxO hm
    have : ν.idxOf (some r) = q := hν.inj _ _ r q2 (by rw [hν.get hq, eq])
    rw [show prtL ν r = some (ν.idxOf (some r)) from if_pos hm, this, show rkL (rowF R r) (some p) = (rowF R r).idxOf p from if_pos h2, show rkL (rowF R r) (some q) = (rowF R r).idxOf q from if_pos (S.ir q hq r eq).2.2]
    omega
theorem MOk.snoc {k m : Nat} {ν : List (Option Nat)} (h : MOk k m ν) {o : Option Nat} (ho : ∀ r, o = some r → r < m ∧ some r ∉ ν) : MOk (k + 1) m (ν ++ [o]) := by
  have at_ : ∀ p r : Nat, (ν ++ [o])[p]? = some (some r) → ν[p]? = some (some r) ∨ p = k ∧ o = some r := fun p r e => by
    by_cases hp : p < ν.length
    · rw [List.getElem?_append_left hp] at e
      exact .inl e
    · have hp2 := (List.getElem?_eq_some_iff.mp e).1
      rw [List.length_append, List.length_singleton] at hp2
      have : p = ν.length := by omega
      subst this
      rw [List.getElem?_append_right (Nat.le_refl _), Nat.sub_self] at e
      exact .inr ⟨h.len, Option.some.inj e⟩
  refine ⟨by rw [List.length_append, List.length_singleton, h.len], fun r hr => ?_, fun p q r e1 e2 => ?_⟩
  · rcases List.mem_append.mp hr with hr | hr
    · exact h.lt r hr
    · exact (ho r (List.mem_singleton.mp hr).symm).1
  · rcases at_ p r e1 with a | ⟨a, b⟩
    · rcases at_ q r e2 with c | ⟨c, d⟩
      · exact h.inj p q r a c
      · exact absurd (List.mem_of_getElem? a) (ho r d).2
    · rcases at_ q r e2 with c | ⟨c, d⟩
      · exact absurd (List.mem_of_getElem? c) (ho r b).2
      · rw [a, c]
abbrev mD (ν : List (Option Nat)) : D := .lst (ν.map gD)
theorem snoc_gD (ν : List (Option Nat)) (o : Option Nat) : ν.map gD ++ [gD o] = (ν ++ [o]).map gD := by rw [List.map_append]; rfl
theorem snoc_mD (L : List (List (Option Nat))) (ν : List (Option Nat)) : L.map mD ++ [mD ν] = (L ++ [ν]).map mD := by rw [List.map_append]; rfl
theorem t__law_all {n m : Nat} {P R : List (List Nat)} (hP : LOk n m P) (hR : LOk m n R) (hn : n ≤ 5) (hm : m ≤ 5) :
    ∃ L : List (List (Option Nat)), p__law_all [.dat (wsD P), .dat (wsD R)] = .ret (.f (.l (L.map mD))) [] ∧ ∀ ν ∈ L, MOk n m ν ∧ StM (rowF P) (rowF R) n m (mtF ν) := by
  have key : fsat (p__law_all [.dat (wsD P), .dat (wsD R)]) (fun w cs => ∃ L : List (List (Option Nat)), w = .f (.l (L.map mD)) ∧ cs = [] ∧ ∀ ν ∈ L, MOk n m ν ∧ StM (rowF P) (rowF R) n m (mtF ν)) fun _ _ => False := by
    have lP := hP.len
    have lR := hR.len
    unfold p__law_all b__law_all
    walk_at "wg"
    rw [lP, ints0]
    refine ⟨bigI_small (by omega), ?_⟩
    refine for_inv (fun pre e => ∃ (L : List (List (Option Nat))) (s3 s4 s5 s6 : Option D), e = [.dat (wsD P), .dat (wsD R), .dat (.lst (L.map mD)), jk s3, jk s4, jk s5, jk s6] ∧ (∀ ν ∈ L, MOk pre.length m ν) ∧ L.length ≤ 6 ^ pre.length) ⟨[[]], none, none, none, none, rfl, fun ν h => ?_, Nat.le_refl _⟩ ?_ ?_
    · rw [List.mem_singleton.mp h]
      refine ⟨rfl, fun r h => (nomatch h), fun p q r h => ?_⟩
      cases h
    · rintro pre p post e hx ⟨L, s3, s4, s5, s6, rfl, hL, hl⟩
      obtain ⟨h1, h2⟩ := at_range hx
      have bnd5 : 6 ^ pre.length ≤ 7776 := Nat.pow_le_pow_right (by decide) (show pre.length ≤ 5 by omega)
      walk_at "wg"
      refine for_inv (fun preL e => ∃ (A : List (List (Option Nat))) (s5 s6 : Option D), e = [.dat (wsD P), .dat (wsD R), .dat (.lst (L.map mD)), .dat (.int (p : Int)), .own (.l (A.map mD)), jk s5, jk s6] ∧ (∀ ν ∈ A, MOk (pre.length + 1) m ν) ∧ A.length ≤ 6 * preL.length) ⟨[], s5, s6, rfl, fun _ h => (nomatch h), Nat.le_refl _⟩ ?_ ?_
      · rintro preL ν postL e hxL ⟨A, s5, s6, rfl, hA, hAl⟩
        have hν := hL ν (by rw [hxL]; simp)
        have lL : preL.length + 1 ≤ L.length := by
          have := congrArg List.length hxL
          rw [List.length_append, List.length_cons] at this
          omega
        walk_at "wg"
        rw [lR, ints0]
        refine ⟨by have := hν.len; omega, by omega, bigI_small (by omega), ?_⟩
        rw [show List.map mD A ++ [D.lst (List.map gD ν ++ [D.non])] = (A ++ [ν ++ [none]]).map mD from by rw [List.map_append, List.map_cons, List.map_nil, show mD (ν ++ [none]) = .lst (ν.map gD ++ [gD none]) from by rw [snoc_gD]]; rfl]
        refine for_inv (fun preR e => ∃ (A' : List (List (Option Nat))) (s6 : Option D), e = [.dat (wsD P), .dat (wsD R), .dat (.lst (L.map mD)), .dat (.int (p : Int)), .own (.l (A'.map mD)), .dat (mD ν), jk s6] ∧ (∀ ν ∈ A', MOk (pre.length + 1) m ν) ∧ A'.length ≤ 6 * preL.length + 1 + preR.length) ⟨A ++ [ν ++ [none]], s6, rfl, fun ν' h' => ?_, by rw [List.length_append]; simp; omega⟩ ?_ ?_
        · rcases List.mem_append.mp h' with h' | h'
          · exact hA ν' h'
          · rw [List.mem_singleton.mp h']
            exact hν.snoc fun r h => (nomatch h)
        · rintro preR r postR e hxR ⟨A', s6, rfl, hA', hAl'⟩
          obtain ⟨g1, g2⟩ := at_range hxR
          have lR' : preR.length ≤ m := by omega
          walk_at "wg"
          rw [show ninD (.int (r : Int)) (mD ν) = some (!decide (some r ∈ ν)) from by unfold ninD; rw [show inD (.int (r : Int)) (mD ν) = some (decide (some r ∈ ν)) from in_gD (some r) ν]; rfl]
          walk_at "wg"
          refine ⟨fun hn' => ⟨by have := hν.len; omega, by omega, ?_⟩, fun hi => ?_⟩
          · refine ⟨A' ++ [ν ++ [some r]], some (.int (r : Int)), ?_, fun ν' h' => ?_, ?_⟩
            · rw [show List.map mD A' ++ [D.lst (List.map gD ν ++ [D.int (r : Int)])] = (A' ++ [ν ++ [some r]]).map mD from by rw [List.map_append, List.map_cons, List.map_nil, show mD (ν ++ [some r]) = .lst (ν.map gD ++ [gD (some r)]) from by rw [snoc_gD]]; rfl]
              rfl
            · rcases List.mem_append.mp h' with h' | h'
              · exact hA' ν' h'
              · rw [List.mem_singleton.mp h']
                exact hν.snoc fun r' h => by cases h; exact ⟨g2, hn'⟩
            · rw [List.length_append, List.length_append]
              simp only [List.length_cons, List.length_nil]
              omega
          · refine ⟨A', some (.int (r : Int)), rfl, hA', ?_⟩
            rw [List.length_append]
            simp only [List.length_cons, List.length_nil]
            omega
        · rintro e ⟨A', s6, rfl, hA', hAl'⟩
          rw [List.length_range] at hAl'
          refine ⟨A', some (mD ν), s6, rfl, hA', ?_⟩
          rw [List.length_append]
          simp only [List.length_cons, List.length_nil]
          omega
      · rintro e ⟨A, s5, s6, rfl, hA, hAl⟩
        walk_at "wg"
        refine ⟨A, some (.int (p : Int)), some (.lst (A.map mD)), s5, s6, rfl, by rw [List.length_append, List.length_singleton]; exact hA, ?_⟩
        rw [List.length_append, List.length_singleton, Nat.pow_succ]
        omega
    · rintro e ⟨L, s3, s4, s5, s6, rfl, hL, hl⟩
      walk_at "wg"
      rw [List.length_range] at hL hl
      have bnd5 : 6 ^ n ≤ 7776 := Nat.pow_le_pow_right (by decide) (show n ≤ 5 by omega)
      refine lc_inv (xs := L) (lim_le (by omega)) (fun pre acc e => ∃ A : List (List (Option Nat)), acc = A.map mD ∧ e = [.dat (wsD P), .dat (wsD R), .dat (.lst (L.map mD)), jk s3, jk s4, .no, jk s6] ∧ ∀ ν ∈ A, MOk n m ν ∧ StM (rowF P) (rowF R) n m (mtF ν)) ⟨[], rfl, rfl, fun _ h => (nomatch h)⟩ ?_ ?_
      · rintro pre ν post acc e hx ⟨A, rfl, rfl, hA⟩
        have hν := hL ν (by rw [hx]; simp)
        walk_at "wg"
        obtain ⟨b, eb, hb⟩ := t__law_stable hP hR (by omega) (by omega) hν
        rw [eb]
        walk_at "wg"
        refine ⟨fun h => ⟨A ++ [ν], snoc_mD A ν, fun ν' h' => ?_⟩, fun _ => ⟨A, rfl, hA⟩⟩
        rcases List.mem_append.mp h' with h' | h'
        · exact hA ν' h'
        · rw [List.mem_singleton.mp h']
          exact ⟨hν, (good_st hν).mp (hb.mp h)⟩
      · rintro acc e ⟨A, rfl, rfl, hA⟩
        walk_at "wg"
        exact ⟨A, rfl, hA⟩
  obtain ⟨w, cs, e, L, rfl, rfl, h⟩ := fsat_out key
  exact ⟨L, e, h⟩
theorem t__law_is_matching {n m : Nat} {P : List (List Nat)} {ν : List (Option Nat)} (lP : P.length = n) (hn : n ≤ 8) (hν : MOk n m ν) :
    p__law_is_matching [.dat (mD ν), .dat (wsD P), .dat (.int (m : Int))] = .ret (.d (.bl true)) [] := by
  refine fsat_eq ?_
  have lν := hν.len
  unfold p__law_is_matching b__law_is_matching
  walk_at "wg"
  refine ⟨fun h => absurd (by rw [lν, lP]) h, fun _ => ?_⟩
  rw [lν, ints0]
  refine ⟨bigI_small (by omega), ?_⟩
  refine for_inv (fun pre e => ∃ s3 : Option D, e = [.dat (mD ν), .dat (wsD P), .dat (.int (m : Int)), jk s3]) ⟨none, rfl⟩ ?_ ?_
  · rintro pre p post e hx ⟨s3, rfl⟩
    obtain ⟨h1, h2⟩ := at_range hx
    walk_at "wg"
    rw [hν.get h2]
    walk_at "wg"
    cases eo : mtF ν p with
    | none =>
      rw [show notNoD (gD none) .non = some false from rfl]
      walk_at "wg"
      exact ⟨some _, rfl⟩
    | some r =>
      have e1 : ν[p]? = some (some r) := by rw [hν.get h2, eo]
      have hr : r < m := hν.lt r (List.mem_of_getElem? e1)
      rw [show notNoD (gD (some r)) .non = some true from rfl]
      walk_at "wg"
      rw [e1]
      walk_at "wg"
      rw [show gD (some r) = .int (r : Int) from rfl]
      walk_at "wg"
      rw [e1]
      walk_at "wg"
      rw [show gD (some r) = .int (r : Int) from rfl]
      walk_at "wg"
      rw [e1]
      walk_at "wg"
      rw [show gD (some r) = .int (r : Int) from rfl]
      walk_at "wg"
      refine ⟨fun _ => ⟨fun z => absurd (by omega) z, fun _ => ?_⟩, fun z => absurd (by omega) z⟩
      rw [e1]
      walk_at "wg"
      rw [cut_mapG, cut_to _ _ (by omega), in_gD]
      walk_at "wg"
      refine ⟨fun z => ?_, fun _ => ⟨some _, rfl⟩⟩
      exfalso
      obtain ⟨q, hq, e⟩ := List.getElem_of_mem z
      have hq2 : q < p := by
        rw [List.length_take] at hq
        omega
      have e2 : (ν.take p)[q]? = some (some r) := by rw [List.getElem?_eq_getElem hq, e]
      rw [List.getElem?_take, if_pos hq2] at e2
      have := hν.inj p q r e1 e2
      omega
  · rintro e ⟨s3, rfl⟩
    walk_at "wg"
theorem LOk.set {n m : Nat} {W : List (List Nat)} (h : LOk n m W) {a : Nat} {w : List Nat} (hw : w.Nodup ∧ ∀ x ∈ w, x < m) : LOk n m (W.set a w) where
  len := by rw [List.length_set]; exact h.len
  ok := fun v hv => by
    rcases List.mem_or_eq_of_mem_set hv with hv | rfl
    · exact h.ok v hv
    · exact hw
theorem rowF_set {W : List (List Nat)} {a : Nat} {w : List Nat} (ha : a < W.length) : rowF (W.set a w) = upF (rowF W) a w := by
  funext q
  show (W.set a w).getD q [] = _
  rw [List.getD_eq_getElem?_getD]
  by_cases h : q = a
  · subst h
    rw [List.getElem?_set_self ha, upF_same]
    rfl
  · rw [List.getElem?_set_ne (Ne.symm h), upF_ne h]
    exact (List.getD_eq_getElem?_getD ..).symm
theorem OptM.mok {n m : Nat} {P R : Nat → List Nat} {μ : List (Option Nat)} (hl : μ.length = n) (O : OptM P R n m (mtF μ)) : MOk n m μ := by
  have at_ : ∀ p r : Nat, μ[p]? = some (some r) → p < n ∧ mtF μ p = some r := fun p r e => by
    have := (List.getElem?_eq_some_iff.mp e).1
    refine ⟨by omega, ?_⟩
    show μ.getD p none = _
    rw [List.getD_eq_getElem?_getD, e]
    rfl
  refine ⟨hl, fun r hr => ?_, fun p q r e1 e2 => ?_⟩
  · obtain ⟨p, hp, e⟩ := List.getElem_of_mem hr
    obtain ⟨a, b⟩ := at_ p r (by rw [List.getElem?_eq_getElem hp, e])
    exact (O.st.ir p a r b).1
  · obtain ⟨a, b⟩ := at_ p r e1
    obtain ⟨c, d⟩ := at_ q r e2
    exact O.st.inj p a q c r b d
section
variable {n m : Nat} {P R : List (List Nat)} {μ : List (Option Nat)} {c : Ct} {x : D} {s5 s7 s8 s9 : Option D} {cf : Kwt Fl} {q : Kwe}
theorem law_3 (hP : LOk n m P) (hR : LOk m n R) (hn : n ≤ 4) (hm : m ≤ 4) (hl : μ.length = n) (O : OptM (rowF P) (rowF R) n m (mtF μ)) (hc : RowC c) (hk : ∀ e, UbP.pars e = [] → cf.P (.rt (.d (.bl true))) e) :
    @st Fl (b_law_3 [.dat x, .own c, .dat (.lst [.int (n : Int), .int (m : Int)]), .dat (wsD P), .dat (wsD R), jk s5, .dat (mD μ), jk s7, jk s8, jk s9, .no, .no, .no, .no]) cf q := by
  have lP := hP.len
  have lR := hR.len
  have hμ := O.mok hl
  unfold b_law_3
  walk_at "wg"
  refine ⟨fun h0 => hk _ (by walk_at "wg"), fun h0 => ?_⟩
  have hn0 : 0 < n := by omega
  obtain ⟨v, c, e, g1, g2, d0⟩ := t__law_take (m := (n : Int)) hc (by omega)
  rw [e]
  walk_at "wg"
  obtain ⟨l, hl', rfl⟩ : ∃ l : Nat, l < n ∧ v = (l : Int) := ⟨v.toNat, by omega, by omega⟩
  rw [t__law_copied (by omega)]
  walk_at "wg"
  obtain ⟨line, c, w, e, hw, hline, d0⟩ := t__law_wishesB (n := m) d0 (by omega)
  rw [e]
  obtain ⟨μ', eA, hl2, O2⟩ := t_accept (hP.set (a := l) hline) hR (by omega) (by omega)
  have eA' : p_accept [.dat (.lst ((P.map natsD).set l (natsD line))), .dat (wsD R)] = .ret (.f (.l (μ'.map gD))) [] := by rw [← List.map_set]; exact eA
  have hfin : rkL (rowF P l) (mtF μ l) ≤ rkL (rowF P l) (mtF μ' l) := by
    have O2 : OptM (upF (rowF P) l line) (rowF R) n m (mtF μ') := by rw [← rowF_set (by omega)]; exact O2
    have e1 : rkL (rowF P l) (mtF μ l) = ixO (rowF P l) (mtF μ l) := rk_ix fun x e => (O.st.ir l hl' x e).2.1
    have e2 : ixO (rowF P l) (mtF μ l) ≤ (rowF P l).length := by
      cases e3 : mtF μ l with
      | none => exact Nat.le_refl _
      | some r => exact List.idxOf_le_length
    rw [e1]
    cases ew : mtF μ' l with
    | none => exact e2
    | some w =>
      by_cases hwP : w ∈ rowF P l
      · rw [show rkL (rowF P l) (some w) = (rowF P l).idxOf w from if_pos hwP]
        refine no_gain hl' (hP.at hl').1 (hP.at hl').2 (fun L h1 h2 => ?_) O O2 ew hwP
        obtain ⟨ν, _, _, N⟩ := t_accept (hP.set (a := l) ⟨h1, h2⟩) hR (by omega) (by omega)
        rw [rowF_set (by omega)] at N
        exact ⟨_, N⟩
      · rw [show rkL (rowF P l) (some w) = (rowF P l).length + 1 from if_neg hwP]
        omega
  have hμ' : μ'[l]? = some (mtF μ' l) := getD_ok (by omega)
  rcases hw with rfl | rfl
  all_goals
    walk_at "wg"
    rw [ixI_nat (by omega)]
    walk_at "wg"
    rw [t__law_copied (by omega)]
    walk_at "wg"
    rw [eA']
    walk_at "wg"
    rw [hP.get hl']
    walk_at "wg"
    rw [hμ']
    walk_at "wg"
    rw [t__law_rank]
    walk_at "wg"
    rw [hP.get hl']
    walk_at "wg"
    rw [hμ.get hl']
    walk_at "wg"
    rw [t__law_rank]
    walk_at "wg"
    rw [decide_eq_true (by omega)]
    exact hk _ (by walk_at "wg")
theorem MOk.mem {ν : List (Option Nat)} (h : MOk n m ν) {r : Nat} : some r ∈ ν ↔ ∃ p, p < n ∧ mtF ν p = some r := by
  constructor
  · intro hr
    obtain ⟨a, b⟩ := at_idxO hr
    have a' : ν.idxOf (some r) < n := by rw [← h.len]; exact a
    refine ⟨_, a', ?_⟩
    have := h.get a'
    rw [b] at this
    exact (Option.some.inj this).symm
  · rintro ⟨p, hp, e⟩
    have := h.get hp
    rw [e] at this
    exact List.mem_of_getElem? this
theorem isNo_gD (o : Option Nat) : isNoD (gD o) .non = some (decide (o = none)) := by cases o <;> rfl
theorem law_2 (hP : LOk n m P) (hR : LOk m n R) (hn : n ≤ 4) (hm : m ≤ 4) (hl : μ.length = n) (O : OptM (rowF P) (rowF R) n m (mtF μ)) (hc : RowC c) (hk : ∀ e, UbP.pars e = [] → cf.P (.rt (.d (.bl true))) e) :
    @st Fl (b_law_2 [.dat x, .own c, .dat (.lst [.int (n : Int), .int (m : Int)]), .dat (wsD P), .dat (wsD R), jk s5, .dat (mD μ), .no, .no, .no, .no, .no, .no, .no]) cf q := by
  have lP := hP.len
  have lR := hR.len
  have hμ := O.mok hl
  unfold b_law_2
  walk_at "wg"
  obtain ⟨L, eL, hL⟩ := t__law_all hP hR (by omega) (by omega)
  rw [eL]
  walk_at "wg"
  refine for_inv (fun pre e => ∃ s7 s8 s9 : Option D, e = [.dat x, .own c, .dat (.lst [.int (n : Int), .int (m : Int)]), .dat (wsD P), .dat (wsD R), jk s5, .dat (mD μ), jk s7, jk s8, jk s9, .no, .no, .no, .no]) ⟨none, none, none, rfl⟩ ?_ ?_
  · rintro pre ν post e hx ⟨s7, s8, s9, rfl⟩
    obtain ⟨hν, S⟩ := hL ν (by rw [hx]; simp)
    obtain ⟨ru1, ru2⟩ := O.rural S
    walk_at "wg"
    rw [ints0]
    refine ⟨bigI_small (by omega), ?_⟩
    refine for_inv (fun pre e => ∃ s8 : Option D, e = [.dat x, .own c, .dat (.lst [.int (n : Int), .int (m : Int)]), .dat (wsD P), .dat (wsD R), jk s5, .dat (mD μ), .dat (mD ν), jk s8, jk s9, .no, .no, .no, .no]) ⟨s8, rfl⟩ ?_ ?_
    · rintro pre p post e hx ⟨s8, rfl⟩
      obtain ⟨_, hp⟩ := at_range hx
      have e1 : rkL (rowF P p) (mtF ν p) = ixO (rowF P p) (mtF ν p) := rk_ix fun x e => (S.ir p hp x e).2.1
      have e2 : rkL (rowF P p) (mtF μ p) = ixO (rowF P p) (mtF μ p) := rk_ix fun x e => (O.st.ir p hp x e).2.1
      have le := O.opt _ S p hp
      rw [← e1, ← e2] at le
      walk_at "wg"
      rw [hP.get hp]
      walk_at "wg"
      rw [hν.get hp]
      walk_at "wg"
      rw [t__law_rank]
      walk_at "wg"
      rw [hP.get hp]
      walk_at "wg"
      rw [hμ.get hp]
      walk_at "wg"
      rw [t__law_rank]
      walk_at "wg"
      refine ⟨fun z => absurd z (by omega), fun _ => ?_⟩
      rw [hν.get hp]
      walk_at "wg"
      rw [isNo_gD]
      walk_at "wg"
      rw [hμ.get hp]
      walk_at "wg"
      rw [isNo_gD]
      walk_at "wg"
      refine ⟨fun z => absurd ?_ z, fun _ => ⟨some _, rfl⟩⟩
      rw [Bool.eq_iff_iff, decide_eq_true_eq, decide_eq_true_eq]
      exact (ru1 p hp).symm
    · rintro e ⟨s8, rfl⟩
      walk_at "wg"
      rw [ints0]
      refine ⟨bigI_small (by omega), ?_⟩
      refine for_inv (fun pre e => ∃ s9 : Option D, e = [.dat x, .own c, .dat (.lst [.int (n : Int), .int (m : Int)]), .dat (wsD P), .dat (wsD R), jk s5, .dat (mD μ), .dat (mD ν), jk s8, jk s9, .no, .no, .no, .no]) ⟨s9, rfl⟩ ?_ ?_
      · rintro pre r post e hx ⟨s9, rfl⟩
        obtain ⟨_, hr⟩ := at_range hx
        walk_at "wg"
        rw [show inD (.int (r : Int)) (mD ν) = some (decide (some r ∈ ν)) from in_gD (some r) ν]
        walk_at "wg"
        rw [show inD (.int (r : Int)) (mD μ) = some (decide (some r ∈ μ)) from in_gD (some r) μ]
        walk_at "wg"
        refine ⟨fun z => absurd ?_ z, fun _ => ⟨some _, rfl⟩⟩
        rw [Bool.eq_iff_iff, decide_eq_true_eq, decide_eq_true_eq, hν.mem, hμ.mem]
        exact (ru2 r).symm
      · rintro e ⟨s9, rfl⟩
        walk_at "wg"
        exact ⟨some _, s8, s9, rfl⟩
  · rintro e ⟨s7, s8, s9, rfl⟩
    walk_at "wg"
    exact law_3 hP hR hn hm hl O hc hk
theorem same_pair {P R : List (List Nat)} (hP : P.length ≤ 1000) (hR : R.length ≤ 1000) (hp : ∀ r ∈ P, r.length ≤ 1000) (hr : ∀ r ∈ R, r.length ≤ 1000) : p__law_same 70 [.dat (.lst [wsD P, wsD R]), .dat (.lst [wsD P, wsD R])] = .ret (.d (.bl true)) [] :=
  sameL 69 (show 2 ≤ 1000 by omega) fun d hd => by
    rcases List.mem_cons.mp hd with h | h
    · rw [h]; exact sameNN 66 hP hp
    · rw [List.mem_singleton.mp h]; exact sameNN 66 hR hr
theorem law_1 (hP : LOk n m P) (hR : LOk m n R) (hn : n ≤ 4) (hm : m ≤ 4) (hc : RowC c) (hk : ∀ e, UbP.pars e = [] → cf.P (.rt (.d (.bl true))) e) :
    @st Fl (b_law_1 [.dat x, .own c, .dat (.lst [.int (n : Int), .int (m : Int)]), .dat (wsD P), .dat (wsD R), .no, .no, .no, .no, .no, .no, .no, .no, .no]) cf q := by
  have lP := hP.len
  have lR := hR.len
  unfold b_law_1
  walk_at "wg"
  rw [t__law_copied (by omega)]
  walk_at "wg"
  rw [t__law_copied (by omega)]
  walk_at "wg"
  obtain ⟨μ, eA, hl, O⟩ := t_accept hP hR (by omega) (by omega)
  rw [eA]
  walk_at "wg"
  have hμ := O.mok hl
  rw [show p__law_is_matching [.dat (.lst (μ.map gD)), .dat (wsD P), .dat (.int (m : Int))] = _ from t__law_is_matching lP (by omega) hμ]
  walk_at "wg"
  obtain ⟨b, eb, hb⟩ := t__law_stable hP hR (by omega) (by omega) hμ
  have := hb.mpr ((good_st hμ).mpr O.st)
  subst this
  rw [show p__law_stable [.dat (wsD P), .dat (wsD R), .dat (.lst (μ.map gD))] = _ from eb]
  walk_at "wg"
  rw [show p__law_same 70 [.dat (.lst [.lst (P.map natsD), .lst (R.map natsD)]), .dat (.lst [wsD P, wsD R])] = _ from same_pair (by omega) (by omega) (fun r hr => by have := nd_len (hP.ok r hr); omega) (fun r hr => by have := nd_len (hR.ok r hr); omega)]
  walk_at "wg"
  exact law_2 (s5 := some (.lst [wsD P, wsD R])) hP hR hn hm hl O hc hk
end
theorem law_pure (ns : List Int) (hl : ns.length ≤ 63) : p_law [.dat (.lsf (ns.map D.int))] = .ret (.d (.bl true)) [] := by
  refine fsat_eq ?_
  obtain ⟨c, e0, d0⟩ := t__law_draws hl
  unfold p_law b_law
  walk_at "wg"
  rw [e0]
  walk_at "wg"
  obtain ⟨v, c, e, g0, g1, d0⟩ := t__law_take (m := 5) d0 (by decide)
  rw [e]
  walk_at "wg"
  obtain ⟨n, hn, rfl⟩ : ∃ n : Nat, n ≤ 4 ∧ v = (n : Int) := ⟨v.toNat, by omega, by omega⟩
  obtain ⟨v, c, e, g2, g3, d0⟩ := t__law_take (m := 5) d0 (by decide)
  rw [e]
  walk_at "wg"
  obtain ⟨m, hm, rfl⟩ : ∃ m : Nat, m ≤ 4 ∧ v = (m : Int) := ⟨v.toNat, by omega, by omega⟩
  rw [ints0]
  refine ⟨bigI_small (by omega), ?_⟩
  refine lc_inv (xs := List.range n) (lim_le (by rw [List.length_range]; omega)) (fun pre acc e => ∃ (W : List (List Nat)) (c' : Ct), acc = W.map natsD ∧ W.length = pre.length ∧ (∀ w ∈ W, w.Nodup ∧ ∀ x ∈ w, x < m) ∧ e = [.dat (.lsf (ns.map D.int)), .own c', .dat (.lst [.int (n : Int), .int (m : Int)]), .no, .no, .no, .no, .no, .no, .no, .no, .no, .no, .no] ∧ RowC c') ⟨[], c, rfl, rfl, fun w hw => (nomatch hw), rfl, d0⟩ ?_ ?_
  · rintro pre i post acc e hx ⟨W, c1, rfl, hWl, hWp, rfl, d1⟩
    walk_at "wg"
    obtain ⟨w, c2, u, e2, hu, hw, d2⟩ := t__law_wishesB (n := m) d1 (by omega)
    rw [e2]
    rcases hu with rfl | rfl
    all_goals
      walk_at "wg"
      refine ⟨W ++ [w], c2, by rw [List.map_append]; rfl, by rw [List.length_append, List.length_append, hWl]; rfl, fun z hz => ?_, rfl, d2⟩
      rcases List.mem_append.mp hz with hz | hz
      · exact hWp z hz
      · rw [List.mem_singleton.mp hz]; exact hw
  rintro acc e ⟨P, c, rfl, hPl, hPp, rfl, d0⟩
  rw [List.length_range] at hPl
  have hP : LOk n m P := ⟨hPl, hPp⟩
  walk_at "wg"
  rw [ints0]
  refine ⟨bigI_small (by omega), ?_⟩
  refine lc_inv (xs := List.range m) (lim_le (by rw [List.length_range]; omega)) (fun pre acc e => ∃ (W : List (List Nat)) (c' : Ct), acc = W.map natsD ∧ W.length = pre.length ∧ (∀ w ∈ W, w.Nodup ∧ ∀ x ∈ w, x < n) ∧ e = [.dat (.lsf (ns.map D.int)), .own c', .dat (.lst [.int (n : Int), .int (m : Int)]), .dat (wsD P), .no, .no, .no, .no, .no, .no, .no, .no, .no, .no] ∧ RowC c') ⟨[], c, rfl, rfl, fun w hw => (nomatch hw), rfl, d0⟩ ?_ ?_
  · rintro pre i post acc e hx ⟨W, c1, rfl, hWl, hWp, rfl, d1⟩
    walk_at "wg"
    obtain ⟨w, c2, u, e2, hu, hw, d2⟩ := t__law_wishesB (n := n) d1 (by omega)
    rw [e2]
    rcases hu with rfl | rfl
    all_goals
      walk_at "wg"
      refine ⟨W ++ [w], c2, by rw [List.map_append]; rfl, by rw [List.length_append, List.length_append, hWl]; rfl, fun z hz => ?_, rfl, d2⟩
      rcases List.mem_append.mp hz with hz | hz
      · exact hWp z hz
      · rw [List.mem_singleton.mp hz]; exact hw
  rintro acc e ⟨R, c, rfl, hRl, hRp, rfl, d0⟩
  rw [List.length_range] at hRl
  have hR : LOk m n R := ⟨hRl, hRp⟩
  walk_at "wg"
  refine law_1 hP hR hn hm d0 fun e he => ?_
  exact ⟨rfl, he⟩
end UbK
end
open PySem PySem.Spec PyProof.Rows L2 Ub UbM
local macro_rules | `(tactic| walk_at "un") => `(tactic| try dsimp only [L2.start, tVar, tC, tOp, tUn, tTest, tB, tAnd, tOr, tNot, tAndV, tOrV, tNotV, tIf, tNext, tSeq, tBreak, tCont, tDrop, tRet, tRetN, tIfS, tNever, gName, gNil, gCons, gSub, tAsg, tPar, tSl, tPart, tNoPart, tNil, tCons, tCall, tCallS, tCB, tBM, tBM0, tChain, tTupN, tLstN, gTup, Cx.nox, Cx.wish, cxOf, List.map, List.replicate, List.length, List.cons_append, List.nil_append, List.set, List.getElem?_cons_zero, List.getElem?_cons_succ, Nat.reduceAdd, Nat.reduceSub])
local macro_rules | `(tactic| walk_at "dp") => `(tactic| first | assumption | exact .int _ | exact .bl _ | exact .str _ | exact .non | exact Ub.Dp.mono (by assumption) _ _ (by walk_at "dp"))
local macro_rules | `(tactic| walk_at "fr") => `(tactic| first | assumption | exact Ub.Fr.mono (by assumption) (by walk_at "fr"))
local macro_rules | `(tactic| walk_at "dps") => `(tactic| first | exact .nil | (refine' .cons ?j1 ?j2; (case j1 => walk_at "dp"); (case j2 => walk_at "dps")))
local macro_rules | `(tactic| walk_at "st") => `(tactic| first
  | (with_reducible refine ⟨_, rfl, ?_⟩)
  | (with_reducible refine rdAdd ?_)
  | (with_reducible refine rdSub ?_)
  | (with_reducible refine rdNeg ?_)
  | (with_reducible refine rdEqI ?_)
  | (with_reducible refine rdNeI ?_)
  | (with_reducible refine rdLt ?_)
  | (with_reducible refine rdGt ?_)
  | (with_reducible refine rdLe ?_)
  | (with_reducible refine rdGe ?_)
  | (with_reducible refine rdInt ?_)
  | (with_reducible refine rdIntB ?_)
  | (with_reducible refine rdAbs ?_)
  | (with_reducible refine rdGcd ?_)
  | (with_reducible refine rdEqB ?_)
  | (with_reducible refine rdEqS ?_)
  | (with_reducible refine rdNeS ?_)
  | ((with_reducible refine' ixFr0 ?k1 ?_); (case k1 => walk_at "fr"))
  | ((with_reducible refine' ixFr1 ?k1 ?_); (case k1 => walk_at "fr"))
  | ((with_reducible refine' ixP0 ?k1 ?_); (case k1 => walk_at "dp"))
  | ((with_reducible refine' ixP1 ?k1 ?_); (case k1 => walk_at "dp"))
  | ((with_reducible refine' rdIsN ?k1 ?_); (case k1 => walk_at "dp"))
  | ((with_reducible refine' rdNotN ?k1 ?_); (case k1 => walk_at "dp"))
  | ((with_reducible refine' isiInt ?k1 ?_); (case k1 => walk_at "dp"))
  | ((with_reducible refine' isiBool ?k1 ?_); (case k1 => walk_at "dp"))
  | ((with_reducible refine' isiStr ?k1 ?_); (case k1 => walk_at "dp"))
  | ((with_reducible refine' isiTup ?k1 ?_); (case k1 => walk_at "dp"))
  | ((with_reducible refine' isiLst ?k1 ?_); (case k1 => walk_at "dp"))
  | ((with_reducible refine' rdIxL ?k1 ?k2 ?_); (case k1 => first | assumption | exact .inl (.inl (by assumption)) | exact .inl (.inl upd_same)); (case k2 => exact rfl))
  | ((with_reducible refine' rdMul ?k1 ?_); (case k1 => first | exact .inl (.inr ⟨by decide, by decide⟩) | exact .inl (.inl ⟨by decide, by decide⟩) | exact mulW (by assumption) (by assumption) (by omega)))
  | ((with_reducible refine' rdLenL ?k1 ?_); (case k1 => first | assumption | exact .inl (.inl (by assumption))))
  | ((with_reducible refine' rdLenT ?k1 ?_); (case k1 => first | assumption | exact .inl (.inl (by assumption))))
  | (with_reducible refine rdMin2 ?_)
  | ((with_reducible refine' rdTupD (K := ‹PySem.W.Frag›) ?k1 ?k2 (fun _ _ _ _ => ?_)); (case k1 => walk_at "dps"); (case k2 => exact small_line (Nat.le_of_ble_eq_true rfl)))
  | (with_reducible refine ⟨_, by rfl, ?_⟩))
local macro_rules | `(tactic| walk_at "go") => `(tactic| repeat walk_at "st")
local macro_rules | `(tactic| walk_at "for") => `(tactic| try dsimp only [tFor, iRng1, iRng2, iList, iTup, tCons, tC, tNil, tVar, tOp, tCB, tUn, List.getElem?_cons_zero, List.getElem?_cons_succ])
local macro_rules | `(tactic| walk_at "ew") => `(tactic| (simp only [dInt, dBool, dStr, dTup, dLst, dNon, Bool.not_true, Bool.not_false, reduceIte, Bool.false_eq_true, Bool.true_eq_false, decide_true, decide_false, Bool.not_not, if_true, if_false, decide_eq_true_eq, true_and, and_true]))
local macro_rules | `(tactic| walk_at "ev") => `(tactic| try walk_at "ew")
local macro_rules | `(tactic| walk_at "gv") => `(tactic| repeat first | walk_at "st" | walk_at "ew")
local macro_rules | `(tactic| walk_at "it") => `(tactic| try dsimp only [iRng1, iRng2, iList, iTup, iZip, iEnum])
namespace UbK
open UbP
structure Tx (K : PySem.W.Frag) (mg : Str → Option Value) : Prop where
  n_abs : mg "abs" = none
  n_all : mg "all" = none
  n_any : mg "any" = none
  n_bool : mg "bool" = none
  n_enumerate : mg "enumerate" = none
  n_int : mg "int" = none
  n_isinstance : mg "isinstance" = none
  n_len : mg "len" = none
  n_list : mg "list" = none
  n_range : mg "range" = none
  n_reversed : mg "reversed" = none
  n_set : mg "set" = none
  n_str : mg "str" = none
  n_super : mg "super" = none
  n_tuple : mg "tuple" = none
  c_MOST_MEMBERS : ∃ t, mg "MOST_MEMBERS" = some (.int 8 t)
  gc_InvalidWishes : mg "InvalidWishes" = some (.ref (He.ga K "InvalidWishes"))
  gc_TooLarge : mg "TooLarge" = some (.ref (He.ga K "TooLarge"))
  x_TooLarge : UbC.OexI K (He.ga K "TooLarge")
  x_InvalidWishes : UbC.OexI K (He.ga K "InvalidWishes")
  na_InvalidWishes_reason : PySem.W.findIn K (.ref (He.ga K "InvalidWishes")) "reason" = some none
  na_TooLarge_limit : PySem.W.findIn K (.ref (He.ga K "TooLarge")) "limit" = some none
section
variable {P : Program} {w : World} {K : PySem.W.Frag} {mg : Str → Option Value} {base : Heap}
theorem ok__law_rank {f : Addr} {fd : FuncData} (T : Tx K mg) (F : FunD K "_law_rank" "_law_rank" (defArgs s__law_rank) (defBody s__law_rank) (defScope s__law_rank) [] [] f fd) : FnOk P w K mg base (L2.CX P w) 1 f fd ["wishes", "thing"] (spF K (tbs K) p__law_rank 2) := F.ok sc__law_rank (fun vs H Q E h => h.1) (fun cdv A outer s H vs Q E hr h => def_body (z := ⟨K, tbs K, none, fun cls d _ H => E cls d H⟩) (fb := b__law_rank) (pu_scons (pu_sif (pu_tcmp os_isNo op_isA (pe_pv 1) pu_non (nomark _)) (pu_sone (pu_sret (pu_B1 us_len cl_lenA (by rfl) T.n_len bb_len (pe_pv 0)))) pu_snil)
 (pu_scons (pu_sif (pu_tcmp os_in (op_inB hr.units) (pe_pv 1) (pe_pv 0) (by with_unfolding_all rfl)) (pu_sone (pu_sret (pu_idx rfl hr.units65 (pe_pv 0) (pe_pv 1)))) pu_snil)
 (pu_sone (pu_sret (pu_op os_add op_addA (pu_B1 us_len cl_lenA (by rfl) T.n_len bb_len (pe_pv 0)) pu_int))))) rfl rfl h rfl)
theorem ok__law_stable {f : Addr} {fd : FuncData} (T : Tx K mg) (F : FunD K "_law_stable" "_law_stable" (defArgs s__law_stable) (defBody s__law_stable) (defScope s__law_stable) [] [] f fd) (C__law_rank : Cal P w K mg base "_law_rank" 1 ["wishes", "thing"] [] (spF K (tbs K) p__law_rank 2)) : FnOk P w K mg base (L2.CX P w) 2 f fd ["proposers", "receivers", "matching"] (spF K (tbs K) p__law_stable 3) := F.ok sc__law_stable (fun vs H Q E h => h.1) (fun cdv A outer s H vs Q E hr h => def_body (z := ⟨K, tbs K, none, fun cls d _ H => E cls d H⟩) (fb := b__law_stable) (pu_scons (pu_sfor (tgt := (.nm 3)) PassesOwn.leaving rfl (pu_iR1 (by rfl) T.n_range (pu_B1 us_len cl_lenA (by rfl) T.n_len bb_len (pe_pv 0))) (pg_name (i := 3) sc__law_stable.nd rfl (Or.inl rfl)) (pu_scons (pu_sset (i := 4) sc__law_stable.nd rfl (Or.inl rfl) (pu_ix os_ix ix_seq (pe_pv 2) (pe_pv 3) (fun _ _ => rfl)))
 (pu_scons (pu_sif (pu_wand (pu_tcmp os_notNo op_notA (pe_pv 4) pu_non (nomark _)) (pu_wand1 (pu_wor (pu_tcmp os_nin (op_ninB hr.units) (pe_pv 4) (pu_ix os_ix ix_seq (pe_pv 0) (pe_pv 3) (fun _ _ => rfl)) (by with_unfolding_all rfl)) (pu_wor1 (pu_tcmp os_nin (op_ninB hr.units) (pe_pv 3) (pu_ix os_ix ix_seq (pe_pv 1) (pe_pv 4) (fun _ _ => rfl)) (by with_unfolding_all rfl)))).pt)).pt (pu_sone (pu_sret pu_bl)) pu_snil)
 (pu_sone (pu_sfor (tgt := (.nm 5)) PassesOwn.leaving rfl (pu_iR1 (by rfl) T.n_range (pu_B1 us_len cl_lenA (by rfl) T.n_len bb_len (pe_pv 1))) (pg_name (i := 5) sc__law_stable.nd rfl (Or.inl rfl)) (pu_scons (pu_sset (i := 6) sc__law_stable.nd rfl (Or.inl rfl) pu_non)
 (pu_scons (pu_sif (pu_tcmp os_in (op_inB hr.units) (pe_pv 5) (pe_pv 2) (by with_unfolding_all rfl)) (pu_sone (pu_sset (i := 6) sc__law_stable.nd rfl (Or.inl rfl) (pu_idx rfl hr.units65 (pe_pv 2) (pe_pv 5)))) pu_snil)
 (pu_sone (pu_sif (pu_wand (pu_tcmp os_in (op_inB hr.units) (pe_pv 5) (pu_ix os_ix ix_seq (pe_pv 0) (pe_pv 3) (fun _ _ => rfl)) (by with_unfolding_all rfl)) (pu_wand1 (pu_tcmp os_in (op_inB hr.units) (pe_pv 3) (pu_ix os_ix ix_seq (pe_pv 1) (pe_pv 5) (fun _ _ => rfl)) (by with_unfolding_all rfl)))).pt (pu_sone (pu_sif (pu_tcmp os_lt op_lt (pu_call (z := _) (ms := [false, false]) rfl C__law_rank (fun _ _ => .nil) rfl rfl hr (by decide) (by rfl) (takes_of rfl rfl rfl rfl) (pu_cons (pu_ix os_ix ix_seq (pe_pv 0) (pe_pv 3) (fun _ _ => rfl)) (pu_cons (pe_pv 5) pu_nil))) (pu_call (z := _) (ms := [false, false]) rfl C__law_rank (fun _ _ => .nil) rfl rfl hr (by decide) (by rfl) (takes_of rfl rfl rfl rfl) (pu_cons (pu_ix os_ix ix_seq (pe_pv 0) (pe_pv 3) (fun _ _ => rfl)) (pu_cons (pe_pv 4) pu_nil))) (nomark _)) (pu_sone (pu_sif (pu_tcmp os_lt op_lt (pu_call (z := _) (ms := [false, false]) rfl C__law_rank (fun _ _ => .nil) rfl rfl hr (by decide) (by rfl) (takes_of rfl rfl rfl rfl) (pu_cons (pu_ix os_ix ix_seq (pe_pv 1) (pe_pv 5) (fun _ _ => rfl)) (pu_cons (pe_pv 3) pu_nil))) (pu_call (z := _) (ms := [false, false]) rfl C__law_rank (fun _ _ => .nil) rfl rfl hr (by decide) (by rfl) (takes_of rfl rfl rfl rfl) (pu_cons (pu_ix os_ix ix_seq (pe_pv 1) (pe_pv 5) (fun _ _ => rfl)) (pu_cons (pe_pv 6) pu_nil))) (nomark _)) (pu_sone (pu_sret pu_bl)) pu_snil)) pu_snil)) pu_snil)))))))))
 (pu_sone (pu_sret pu_bl))) rfl rfl h rfl)
theorem ok__law_all {f : Addr} {fd : FuncData} (T : Tx K mg) (F : FunD K "_law_all" "_law_all" (defArgs s__law_all) (defBody s__law_all) (defScope s__law_all) [] [] f fd) (C__law_stable : Cal P w K mg base "_law_stable" 2 ["proposers", "receivers", "matching"] [] (spF K (tbs K) p__law_stable 3)) : FnOk P w K mg base (L2.CX P w) 3 f fd ["proposers", "receivers"] (spF K (tbs K) p__law_all 2) := F.ok sc__law_all (fun vs H Q E h => h.1) (fun cdv A outer s H vs Q E hr h => def_body (z := ⟨K, tbs K, none, fun cls d _ H => E cls d H⟩) (fb := b__law_all) (pu_scons (pu_sset (i := 2) sc__law_all.nd rfl (Or.inl rfl) (pu_lst (pu_cons (pu_lst pu_nil) pu_nil)))
 (pu_scons (pu_sfor (tgt := (.nm 3)) PassesOwn.leaving rfl (pu_iR1 (by rfl) T.n_range (pu_B1 us_len cl_lenA (by rfl) T.n_len bb_len (pe_pv 0))) (pg_name (i := 3) sc__law_all.nd rfl (Or.inl rfl)) (pu_scons (pu_sown (i := 4) sc__law_all.nd rfl (Or.inl rfl) (pu_lst pu_nil))
 (pu_scons (pu_sfor (tgt := (.nm 5)) PassesOwn.leaving rfl (pu_iE rfl (pu_Y1 us_list cl_list (by rfl) T.n_list bb_list (pe_pv 2))) (pg_name (i := 5) sc__law_all.nd rfl (Or.inl rfl)) (pu_scons (pu_sex (pu_app (pe_pv 4) (pu_op os_add op_addA (pe_pv 5) (pu_lst (pu_cons pu_non pu_nil)))))
 (pu_sone (pu_sfor (tgt := (.nm 6)) PassesOwn.leaving rfl (pu_iR1 (by rfl) T.n_range (pu_B1 us_len cl_lenA (by rfl) T.n_len bb_len (pe_pv 1))) (pg_name (i := 6) sc__law_all.nd rfl (Or.inl rfl)) (pu_sone (pu_sif (pu_tcmp os_nin (op_ninB hr.units) (pe_pv 6) (pe_pv 5) (by with_unfolding_all rfl)) (pu_sone (pu_sex (pu_app (pe_pv 4) (pu_op os_add op_addA (pe_pv 5) (pu_lst (pu_cons (pe_pv 6) pu_nil)))))) pu_snil))))))
 (pu_frz (pu_sone (pu_sset (i := 2) sc__law_all.nd rfl (Or.inl rfl) (pe_pv 4)))))))
 (pu_sone (pu_sret (pu_lc (own := [("row", 5)]) (tgt := (.nm 5)) rfl sc__law_all.nd  (pu_iE rfl (pe_pv 2)) (blkOk_by (N := N__law_all) (sc := defScope s__law_all) (by decide +kernel)) (fun _ _ _ _ _ => (pg_name (i := 5) sc__law_all.nd rfl (by first | exact Or.inl rfl | exact Or.inr rfl))) (fun _ _ _ _ _ => (pts_one (pu_truth rfl (pu_call (z := _) (ms := [false, false, false]) rfl C__law_stable (fun _ _ => .nil) rfl rfl hr (by decide) (by rfl) takes0 (pu_cons (pe_pv 0) (pu_cons (pe_pv 1) (pu_cons (pe_pv 5) pu_nil))))))) (fun _ _ _ _ _ => (pe_pv 5)) (by decide)))))) rfl rfl h rfl)
theorem ok__law_copied {f : Addr} {fd : FuncData} (T : Tx K mg) (F : FunD K "_law_copied" "_law_copied" (defArgs s__law_copied) (defBody s__law_copied) (defScope s__law_copied) [] [] f fd) : FnOk P w K mg base (L2.CX P w) 1 f fd ["rows"] (spF K (tbs K) p__law_copied 1) := F.ok sc__law_copied (fun vs H Q E h => h.1) (fun cdv A outer s H vs Q E hr h => def_body (z := ⟨K, tbs K, none, fun cls d _ H => E cls d H⟩) (fb := b__law_copied) (pu_sone (pu_sret (pu_lc (own := [("row", 1)]) (tgt := (.nm 1)) rfl sc__law_copied.nd  (pu_iE rfl (pe_pv 0)) (blkOk_by (N := N__law_copied) (sc := defScope s__law_copied) (by decide +kernel)) (fun _ _ _ _ _ => (pg_name (i := 1) sc__law_copied.nd rfl (by first | exact Or.inl rfl | exact Or.inr rfl))) (fun _ _ _ _ _ => pts_ret) (fun _ _ _ _ _ => (pu_Y1 us_list cl_list (by rfl) T.n_list bb_list (pe_pv 1))) (by decide)))) rfl rfl h rfl)
theorem ok__law_draws {f : Addr} {fd : FuncData} (T : Tx K mg) (F : FunD K "_law_draws" "_law_draws" (defArgs s__law_draws) (defBody s__law_draws) (defScope s__law_draws) [] [] f fd) : FnOk P w K mg base (L2.CX P w) 1 f fd ["script"] (spF K (tbs K) p__law_draws 1) := F.ok sc__law_draws (fun vs H Q E h => h.1) (fun cdv A outer s H vs Q E hr h => def_body (z := ⟨K, tbs K, none, fun cls d _ H => E cls d H⟩) (fb := b__law_draws) (pu_scons (pu_sown (i := 1) sc__law_draws.nd rfl (Or.inl rfl) (pu_lst pu_nil))
 (pu_scons (pu_sfor (tgt := (.nm 2)) PassesOwn.leaving rfl (pu_iE rfl (pe_pv 0)) (pg_name (i := 2) sc__law_draws.nd rfl (Or.inl rfl)) (pu_scons (pu_sset (i := 3) sc__law_draws.nd rfl (Or.inl rfl) (pu_B1 us_abs cl_abs (by rfl) T.n_abs bb_abs (pe_pv 2)))
 (pu_scons (pu_sif (pu_tcmp os_lt op_lt (pe_pv 3) (pu_op os_pow op_pow pu_int pu_int) (nomark _)) (pu_scons (pu_sset (i := 4) sc__law_draws.nd rfl (Or.inl rfl) (pu_op os_mod op_modN (pu_Y1 us_int cl_int (by rfl) T.n_int bb_int (pu_op os_add op_addA (pu_op os_mul op_mulA (pe_pv 3) pu_int) pu_int)) pu_int))
 (pu_scons (pu_sex (pu_app (pe_pv 1) (pu_op os_mod op_modN (pu_Y1 us_int cl_int (by rfl) T.n_int bb_int (pu_op os_add op_addA (pu_op os_mul op_mulA (pe_pv 4) pu_int) (pe_pv 3))) pu_int)))
 (pu_scons (pu_sex (pu_app (pe_pv 1) (pu_op os_mod op_modN (pu_Y1 us_int cl_int (by rfl) T.n_int bb_int (pu_op os_add op_addA (pe_pv 4) (pu_op os_fdiv op_fdivX (pe_pv 3) pu_int))) pu_int)))
 (pu_sone (pu_sset (i := 3) sc__law_draws.nd rfl (Or.inl rfl) pu_int))))) pu_snil)
 (pu_sone (pu_sfor (tgt := (.nm 5)) PassesOwn.leaving rfl (pu_iR1 (by rfl) T.n_range pu_int) (pg_name (i := 5) sc__law_draws.nd rfl (Or.inl rfl)) (pu_sone (pu_sif (pu_tcmp os_gt op_gt (pe_pv 3) pu_int (nomark _)) (pu_scons (pu_sex (pu_app (pe_pv 1) (pu_op os_mod op_modN (pu_Y1 us_int cl_int (by rfl) T.n_int bb_int (pe_pv 3)) pu_int)))
 (pu_sone (pu_sset (i := 3) sc__law_draws.nd rfl (Or.inl rfl) (pu_op os_fdiv op_fdivX (pe_pv 3) pu_int)))) pu_snil)))))))
 (pu_scons (pu_sset (i := 6) sc__law_draws.nd rfl (Or.inl rfl) pu_int)
 (pu_scons (pu_sif (pu_tcmp os_gt op_gt (pu_B1 us_len cl_lenA (by rfl) T.n_len bb_len (pe_pv 0)) pu_int (nomark _)) (pu_sone (pu_sset (i := 6) sc__law_draws.nd rfl (Or.inl rfl) (pu_op os_add op_addA pu_int (pu_B1 us_abs cl_abs (by rfl) T.n_abs bb_abs (pu_ix os_ix ix_seq (pe_pv 0) pu_int (fun _ _ => rfl)))))) pu_snil)
 (pu_scons (pu_sfor (tgt := (.nm 5)) PassesOwn.leaving rfl (pu_iR1 (by rfl) T.n_range pu_int) (pg_name (i := 5) sc__law_draws.nd rfl (Or.inl rfl)) (pu_scons (pu_sset (i := 6) sc__law_draws.nd rfl (Or.inl rfl) (pu_op os_mod op_modN (pu_Y1 us_int cl_int (by rfl) T.n_int bb_int (pu_op os_add op_addA (pu_op os_mul op_mulA (pe_pv 6) pu_int) pu_int)) pu_int))
 (pu_sone (pu_sex (pu_app (pe_pv 1) (pu_op os_fdiv op_fdivX (pe_pv 6) pu_int))))))
 (pu_frz (pu_sone (pu_sret (pu_rev rfl rfl (by rfl) T.n_list (by rfl) T.n_reversed (pe_pv 1)))))))))) rfl rfl h rfl)
theorem ok__law_is_matching {f : Addr} {fd : FuncData} (T : Tx K mg) (F : FunD K "_law_is_matching" "_law_is_matching" (defArgs s__law_is_matching) (defBody s__law_is_matching) (defScope s__law_is_matching) [] [] f fd) : FnOk P w K mg base (L2.CX P w) 1 f fd ["told", "proposers", "receivers"] (spF K (tbs K) p__law_is_matching 3) := F.ok sc__law_is_matching (fun vs H Q E h => h.1) (fun cdv A outer s H vs Q E hr h => def_body (z := ⟨K, tbs K, none, fun cls d _ H => E cls d H⟩) (fb := b__law_is_matching) (pu_scons (pu_sif (pu_wor (pu_tnot (pu_truth rfl (pu_isi rfl isi_list (by rfl) T.n_isinstance (by rfl) T.n_list bb_list (pe_pv 0)))) (pu_wor1 (pu_tcmp os_ne (op_neA hr.units) (pu_B1 us_len cl_lenA (by rfl) T.n_len bb_len (pe_pv 0)) (pu_B1 us_len cl_lenA (by rfl) T.n_len bb_len (pe_pv 1)) (nomark _)))).pt (pu_sone (pu_sret pu_bl)) pu_snil)
 (pu_scons (pu_sfor (tgt := (.nm 3)) PassesOwn.leaving rfl (pu_iR1 (by rfl) T.n_range (pu_B1 us_len cl_lenA (by rfl) T.n_len bb_len (pe_pv 0))) (pg_name (i := 3) sc__law_is_matching.nd rfl (Or.inl rfl)) (pu_sone (pu_sif (pu_tcmp os_notNo op_notA (pu_ix os_ix ix_seq (pe_pv 0) (pe_pv 3) (fun _ _ => rfl)) pu_non (nomark _)) (pu_scons (pu_sif (pu_wor (pu_tnot (pu_truth rfl (pu_isi rfl isi_int (by rfl) T.n_isinstance (by rfl) T.n_int bb_int (pu_ix os_ix ix_seq (pe_pv 0) (pe_pv 3) (fun _ _ => rfl))))) (pu_wor (pu_truth rfl (pu_isi rfl isi_bool (by rfl) T.n_isinstance (by rfl) T.n_bool bb_bool (pu_ix os_ix ix_seq (pe_pv 0) (pe_pv 3) (fun _ _ => rfl)))) (pu_wor1 (pu_tnot (pu_tchain os_le os_lt op_le op_lt pu_int (pu_ix os_ix ix_seq (pe_pv 0) (pe_pv 3) (fun _ _ => rfl)) (pe_pv 2)))))).pt (pu_sone (pu_sret pu_bl)) pu_snil)
 (pu_sone (pu_sif (pu_tcmp os_in (op_inB hr.units) (pu_ix os_ix ix_seq (pe_pv 0) (pe_pv 3) (fun _ _ => rfl)) (pu_slice rfl (pe_pv 0) pu_pn (pu_ps (pe_pv 3))) (by with_unfolding_all rfl)) (pu_sone (pu_sret pu_bl)) pu_snil))) pu_snil)))
 (pu_sone (pu_sret pu_bl)))) rfl rfl h rfl)
theorem ok__law_same {f : Addr} {fd : FuncData} (T : Tx K mg) (F : FunD K "_law_same" "_law_same" (defArgs s__law_same) (defBody s__law_same) (defScope s__law_same) [] [] f fd) (m_self : mg "_law_same" = some (.ref f)) : ∀ n : Nat, FnOk P w K mg base (L2.CX P w) (1 + n) f fd ["value", "due"] (spF K (tbs K) (p__law_same n) 2)
  | 0 => ⟨fun vs H Q E h => h.1, fun A outer s H args us vs Q E hr he hb hv h => by obtain ⟨_, _, _, _, _, z⟩ := h; exact z.elim⟩
  | n + 1 =>
    have C__law_same : Cal P w K mg base "_law_same" (1 + n) ["value", "due"] [] (spF K (tbs K) (p__law_same n) 2) := ⟨f, fd, [], ok__law_same T F  m_self n, m_self, F.kp, .nil, F.bindsN fun _ _ _ _ _ _ us hl => match us, hl with | [_, _], _ => rfl⟩
    F.ok sc__law_same (fun vs H Q E h => h.1) (fun cdv A outer s H vs Q E hr h => def_body (z := ⟨K, tbs K, none, fun cls d _ H => E cls d H⟩) (fb := b__law_same (p__law_same n)) (pu_scons (pu_sif (pu_wor (pu_truth rfl (pu_isi rfl isi_tuple (by rfl) T.n_isinstance (by rfl) T.n_tuple bb_tuple (pe_pv 1))) (pu_wor1 (pu_truth rfl (pu_isi rfl isi_list (by rfl) T.n_isinstance (by rfl) T.n_list bb_list (pe_pv 1))))).pt (pu_scons (pu_sif (pu_wor (pu_tcmp os_ne (op_neA hr.units) (pu_isi rfl isi_tuple (by rfl) T.n_isinstance (by rfl) T.n_tuple bb_tuple (pe_pv 1)) (pu_isi rfl isi_tuple (by rfl) T.n_isinstance (by rfl) T.n_tuple bb_tuple (pe_pv 0)) (nomark _)) (pu_wor1 (pu_tcmp os_ne (op_neA hr.units) (pu_isi rfl isi_list (by rfl) T.n_isinstance (by rfl) T.n_list bb_list (pe_pv 1)) (pu_isi rfl isi_list (by rfl) T.n_isinstance (by rfl) T.n_list bb_list (pe_pv 0)) (nomark _)))).pt (pu_sone (pu_sret pu_bl)) pu_snil)
 (pu_scons (pu_sif (pu_tcmp os_ne (op_neA hr.units) (pu_B1 us_len cl_lenA (by rfl) T.n_len bb_len (pe_pv 0)) (pu_B1 us_len cl_lenA (by rfl) T.n_len bb_len (pe_pv 1)) (nomark _)) (pu_sone (pu_sret pu_bl)) pu_snil)
 (pu_scons (pu_sfor (tgt := (.nm 2)) PassesOwn.leaving rfl (pu_iR1 (by rfl) T.n_range (pu_B1 us_len cl_lenA (by rfl) T.n_len bb_len (pe_pv 1))) (pg_name (i := 2) sc__law_same.nd rfl (Or.inl rfl)) (pu_sone (pu_sif (pu_tnot (pu_truth rfl (pu_call (z := _) (ms := [false, false]) rfl C__law_same (fun _ _ => .nil) rfl rfl hr (Nat.le_refl _) (by rfl) (takes_of rfl rfl rfl rfl) (pu_cons (pu_ix os_ix ix_seq (pe_pv 0) (pe_pv 2) (fun _ _ => rfl)) (pu_cons (pu_ix os_ix ix_seq (pe_pv 1) (pe_pv 2) (fun _ _ => rfl)) pu_nil))))) (pu_sone (pu_sret pu_bl)) pu_snil)))
 (pu_sone (pu_sret pu_bl))))) pu_snil)
 (pu_scons (pu_sif (pu_tcmp os_ne (op_neA hr.units) (pu_isi rfl isi_bool (by rfl) T.n_isinstance (by rfl) T.n_bool bb_bool (pe_pv 1)) (pu_isi rfl isi_bool (by rfl) T.n_isinstance (by rfl) T.n_bool bb_bool (pe_pv 0)) (nomark _)) (pu_sone (pu_sret pu_bl)) pu_snil)
 (pu_scons (pu_sif (pu_wor (pu_tcmp os_ne (op_neA hr.units) (pu_isi rfl isi_int (by rfl) T.n_isinstance (by rfl) T.n_int bb_int (pe_pv 1)) (pu_isi rfl isi_int (by rfl) T.n_isinstance (by rfl) T.n_int bb_int (pe_pv 0)) (nomark _)) (pu_wor1 (pu_tcmp os_ne (op_neA hr.units) (pu_isi rfl isi_str (by rfl) T.n_isinstance (by rfl) T.n_str bb_str (pe_pv 1)) (pu_isi rfl isi_str (by rfl) T.n_isinstance (by rfl) T.n_str bb_str (pe_pv 0)) (nomark _)))).pt (pu_sone (pu_sret pu_bl)) pu_snil)
 (pu_sone (pu_sret (pu_cmp os_eq (op_eqA hr.units) (pe_pv 0) (pe_pv 1) (nomark _))))))) rfl rfl h rfl)
theorem ok__law_take {f : Addr} {fd : FuncData} (T : Tx K mg) (F : FunD K "_law_take" "_law_take" (defArgs s__law_take) (defBody s__law_take) (defScope s__law_take) [] [] f fd) : FnOk P w K mg base (L2.CX P w) 1 f fd ["draws", "bound"] (spF K (tbs K) p__law_take 2) := F.ok sc__law_take (fun vs H Q E h => h.1) (fun cdv A outer s H vs Q E hr h => def_body (z := ⟨K, tbs K, none, fun cls d _ H => E cls d H⟩) (fb := b__law_take) (pu_scons (pu_sif (pu_tcmp os_eq (op_eqA hr.units) (pu_B1 us_len cl_lenA (by rfl) T.n_len bb_len (pe_pv 0)) pu_int (nomark _)) (pu_sone (pu_sret pu_int)) pu_snil)
 (pu_sone (pu_sret (pu_op os_mod op_modN (pu_Y1 us_int cl_int (by rfl) T.n_int bb_int (pu_pop (pe_pv 0))) (pe_pv 1))))) rfl rfl h rfl)
theorem ok__law_wishes {f : Addr} {fd : FuncData} (T : Tx K mg) (F : FunD K "_law_wishes" "_law_wishes" (defArgs s__law_wishes) (defBody s__law_wishes) (defScope s__law_wishes) [] [] f fd) (C__law_take : Cal P w K mg base "_law_take" 1 ["draws", "bound"] [] (spF K (tbs K) p__law_take 2)) : FnOk P w K mg base (L2.CX P w) 2 f fd ["draws", "count", "whole"] (spF K (tbs K) p__law_wishes 3) := F.ok sc__law_wishes (fun vs H Q E h => h.1) (fun cdv A outer s H vs Q E hr h => def_body (z := ⟨K, tbs K, none, fun cls d _ H => E cls d H⟩) (fb := b__law_wishes) (pu_scons (pu_sown (i := 3) sc__law_wishes.nd rfl (Or.inr rfl) (pu_rg1 rfl (by rfl) T.n_list (by rfl) T.n_range (pe_pv 1)))
 (pu_scons (pu_setLc (i := 4) (own := [("k", 5)]) (tgt := (.nm 5)) rfl sc__law_wishes.nd rfl rfl (sw_true rfl rfl rfl rfl) (pu_iR1 (by rfl) T.n_range (pe_pv 1)) (blkOk_by (N := N__law_wishes) (sc := defScope s__law_wishes) (by decide +kernel)) (fun _ _ _ _ _ => (pg_name (i := 5) sc__law_wishes.nd rfl (by first | exact Or.inl rfl | exact Or.inr rfl))) (fun _ _ _ _ _ => pts_ret) (fun _ _ _ _ _ => (pu_popA (pe_pv 3) (pu_call (z := _) (ms := [true, false]) rfl C__law_take (fun _ _ => .nil) rfl rfl hr (by decide) (by rfl) takes0 (pu_cons (pe_pv 0) (pu_cons (pu_B1 us_len cl_lenA (by rfl) T.n_len bb_len (pe_pv 3)) pu_nil))))) (by decide))
 (pu_scons (pu_sif (pu_wor (pu_truth rfl (pe_pv 2)) (pu_wor1 (pu_tcmp os_eq (op_eqA hr.units) (pu_call (z := _) (ms := [true, false]) rfl C__law_take (fun _ _ => .nil) rfl rfl hr (by decide) (by rfl) (takes_of rfl rfl rfl rfl) (pu_cons (pe_pv 0) (pu_cons pu_int pu_nil))) pu_int (nomark _)))).pt (pu_sone (pu_sret (pe_pv 4))) pu_snil)
 (pu_sone (pu_sret (pu_slice rfl (pe_pv 4) pu_pn (pu_ps (pu_call (z := _) (ms := [true, false]) rfl C__law_take (fun _ _ => .nil) rfl rfl hr (by decide) (by rfl) (takes_of rfl rfl rfl rfl) (pu_cons (pe_pv 0) (pu_cons (pu_op os_add op_addA (pe_pv 1) pu_int) pu_nil)))))))))) rfl rfl h rfl)
theorem ok_TooLarge___init__ {f : Addr} {fd : FuncData} {file : Str} (T : Tx K mg) (F : UbS.FunS K (He.ga K "TooLarge") file "__init__" "TooLarge.__init__" (defArgs s_TooLarge___init__) (defBody s_TooLarge___init__) (defScope s_TooLarge___init__) f fd) (B : UbS.SupC K (He.ga K "TooLarge")) (hfile : (P.main.file == file) = true) (htop : (P.main.scope.names.lookup ("super" : Str)).isSome = false) : FnOk P w K mg base (L2.CX P w) 1 f fd ["self", "limit"] (UbC.spEI (He.ga K "TooLarge") (UbC.fl1 "limit") UbC.okT) := by
  refine UbS.FunS.ok F B T.x_TooLarge.oex T.n_super hfile htop sc_TooLarge___init__ (by rfl) (by rfl) (by rfl) (by rfl) (fun _ _ _ => rfl) (fun _ _ _ => rfl) (fun _ _ _ => rfl) (fun _ _ _ => rfl) (fun vs H Q E h => ?_) (fun cc cda A outer s H vs Q E hr h => ?_)
  · obtain ⟨_, _, rfl, h, _⟩ := h
    obtain ⟨_, rfl, _⟩ := h
    rfl
  · obtain ⟨a, us, rfl, ⟨y, rfl, hy⟩, ha, q⟩ := h
    refine ⟨_, _, a, _, rfl, ha, (pa_cons (pe_joined (PJ.cons pe_str (PJ.cons (pe_fmt (pv 1)) PJ.nil))) pa_nil), (pss_one (ps_ost (pv 0) (pv 1))), ?_⟩
    dsimp only [N_TooLarge___init__]
    walk_at "un"
    dsimp only [NdefX.startF, tOst, tCons, tVar, tC, tNil, tFmt, tJs, List.map_cons, List.map_nil, List.length_cons, List.length_nil, List.replicate, List.cons_append, List.nil_append, List.append_nil, List.getElem?_cons_zero, List.getElem?_cons_succ]
    walk_at "go"
    refine ⟨UbC.flen0 (by decide +kernel), _, rfl, .inl ⟨y, rfl, by rw [sizeLine_eq]; omega, y, rfl, UbC.flen (by decide +kernel) hy, Nat.le_of_ble_eq_true rfl, ha, .str y, rfl, .ref a, rfl, a, _, rfl, T.x_TooLarge.oex, T.na_TooLarge_limit, .inl ⟨ha, fun d nd hd => q d nd hd⟩⟩⟩
theorem ok_check_size {f : Addr} {fd : FuncData} (T : Tx K mg) (F : FunD K "check_size" "check_size" (defArgs s_check_size) (defBody s_check_size) (defScope s_check_size) [] [] f fd) (hf : f = He.fAd K (("check_size", none) : He.Defn)) (TB : GxR.TabB base mg (He.cT K (("check_size", none) : He.Defn)).1 (He.cT K (("check_size", none) : He.Defn)).2) (X_TooLarge : UbC.CalX P w K mg base "TooLarge" 1 (UbC.spEI (He.ga K "TooLarge") (UbC.fl1 "limit") UbC.okT)) : FnOk P w K mg base (L2.CX P w) 3 f fd ["sizes", "most"] (spF K (tbs K) p_check_size 2) := UbG.FunD.okT F hf sc_check_size (fun vs H Q E h => h.1) (fun A outer s H vs Q E hr h => def_body (z := ⟨K, tbs K, none, fun cls d _ H => E cls d H⟩) (fb := b_check_size) (pu_sone (pu_sif (pu_truth rfl (pu_any (c := (He.cT K (("check_size", none) : He.Defn)).1) (P := (He.cT K (("check_size", none) : He.Defn)).2) (k := 1) (own := [("size", 2)]) (tg := (.nm 2)) (by show _ ∈ tbs K; unfold tbs tf0; simp) hr sc_check_size.nd (by rfl) T.n_any TB rfl (UbG.gexOk_by (N := N_check_size) (sc := defScope s_check_size) (by decide +kernel)) (pu_iE rfl (pe_pv 0)) (fun _ _ _ _ _ _ _ hrG => ⟨(pg_name (i := 2) sc_check_size.nd rfl (by first | exact Or.inl rfl | exact Or.inr rfl)), (pu_cmp os_gt op_gt (pe_pv 2) (pe_pv 1) (nomark _))⟩) (by decide))) (pu_sone (pu_sraise (fs := ["limit"]) (okd := okT) rfl rfl (takes_of rfl rfl rfl rfl) X_TooLarge hr (by decide) (by rfl) hok_okT (pu_cons pu_str pu_nil))) pu_snil)) rfl rfl h rfl)
theorem ok_InvalidWishes___init__ {f : Addr} {fd : FuncData} {file : Str} (T : Tx K mg) (F : UbS.FunS K (He.ga K "InvalidWishes") file "__init__" "InvalidWishes.__init__" (defArgs s_InvalidWishes___init__) (defBody s_InvalidWishes___init__) (defScope s_InvalidWishes___init__) f fd) (B : UbS.SupC K (He.ga K "InvalidWishes")) (hfile : (P.main.file == file) = true) (htop : (P.main.scope.names.lookup ("super" : Str)).isSome = false) : FnOk P w K mg base (L2.CX P w) 1 f fd ["self", "reason"] (UbC.spEI (He.ga K "InvalidWishes") (UbC.fl1 "reason") UbC.okT) := by
  refine UbS.FunS.ok F B T.x_InvalidWishes.oex T.n_super hfile htop sc_InvalidWishes___init__ (by rfl) (by rfl) (by rfl) (by rfl) (fun _ _ _ => rfl) (fun _ _ _ => rfl) (fun _ _ _ => rfl) (fun _ _ _ => rfl) (fun vs H Q E h => ?_) (fun cc cda A outer s H vs Q E hr h => ?_)
  · obtain ⟨_, _, rfl, h, _⟩ := h
    obtain ⟨_, rfl, _⟩ := h
    rfl
  · obtain ⟨a, us, rfl, ⟨y, rfl, hy⟩, ha, q⟩ := h
    refine ⟨_, _, a, _, rfl, ha, (pa_cons (pe_joined (PJ.cons pe_str (PJ.cons (pe_fmt (pv 1)) PJ.nil))) pa_nil), (pss_one (ps_ost (pv 0) (pv 1))), ?_⟩
    dsimp only [N_InvalidWishes___init__]
    walk_at "un"
    dsimp only [NdefX.startF, tOst, tCons, tVar, tC, tNil, tFmt, tJs, List.map_cons, List.map_nil, List.length_cons, List.length_nil, List.replicate, List.cons_append, List.nil_append, List.append_nil, List.getElem?_cons_zero, List.getElem?_cons_succ]
    walk_at "go"
    refine ⟨UbC.flen0 (by decide +kernel), _, rfl, .inl ⟨y, rfl, by rw [sizeLine_eq]; omega, y, rfl, UbC.flen (by decide +kernel) hy, Nat.le_of_ble_eq_true rfl, ha, .str y, rfl, .ref a, rfl, a, _, rfl, T.x_InvalidWishes.oex, T.na_InvalidWishes_reason, .inl ⟨ha, fun d nd hd => q d nd hd⟩⟩⟩
theorem ok_are_different {f : Addr} {fd : FuncData} (T : Tx K mg) (F : FunD K "are_different" "are_different" (defArgs s_are_different) (defBody s_are_different) (defScope s_are_different) [] [] f fd) (hf : f = He.fAd K (("are_different", none) : He.Defn)) (TB : GxR.TabB base mg (He.cT K (("are_different", none) : He.Defn)).1 (He.cT K (("are_different", none) : He.Defn)).2) : FnOk P w K mg base (L2.CX P w) 2 f fd ["numbers", "many"] (spF K (tbs K) p_are_different 2) := UbG.FunD.okT F hf sc_are_different (fun vs H Q E h => h.1) (fun A outer s H vs Q E hr h => def_body (z := ⟨K, tbs K, none, fun cls d _ H => E cls d H⟩) (fb := b_are_different) (pu_sone (pu_sret (pu_and rfl (pu_all (c := (He.cT K (("are_different", none) : He.Defn)).1) (P := (He.cT K (("are_different", none) : He.Defn)).2) (k := 0) (own := [("number", 2)]) (tg := (.nm 2)) (by show _ ∈ tbs K; unfold tbs tf0; simp) hr sc_are_different.nd (by rfl) T.n_all TB rfl (UbG.gexOk_by (N := N_are_different) (sc := defScope s_are_different) (by decide +kernel)) (pu_iE rfl (pe_pv 0)) (fun _ _ _ _ _ _ _ hrG => ⟨(pg_name (i := 2) sc_are_different.nd rfl (by first | exact Or.inl rfl | exact Or.inr rfl)), (pu_echain os_le os_lt op_le op_lt pu_int (pe_pv 2) (pe_pv 1))⟩) (by decide)) (pu_one (pu_cmp os_eq (op_eqA hr.units) (pu_lens rfl rfl (by rfl) T.n_len (by rfl) T.n_set (pe_pv 0)) (pu_B1 us_len cl_lenA (by rfl) T.n_len bb_len (pe_pv 0)) (nomark _)))))) rfl rfl h rfl)
theorem ok_check_wishes {f : Addr} {fd : FuncData} (T : Tx K mg) (F : FunD K "check_wishes" "check_wishes" (defArgs s_check_wishes) (defBody s_check_wishes) (defScope s_check_wishes) [] [] f fd) (hf : f = He.fAd K (("check_wishes", none) : He.Defn)) (TB : GxR.TabB base mg (He.cT K (("check_wishes", none) : He.Defn)).1 (He.cT K (("check_wishes", none) : He.Defn)).2) (X_InvalidWishes : UbC.CalX P w K mg base "InvalidWishes" 1 (UbC.spEI (He.ga K "InvalidWishes") (UbC.fl1 "reason") UbC.okT)) (C_are_different : Cal P w K mg base "are_different" 2 ["numbers", "many"] [] (spF K (tbs K) p_are_different 2)) : FnOk P w K mg base (L2.CX P w) 4 f fd ["wishes", "things"] (spF K (tbs K) p_check_wishes 2) := UbG.FunD.okT F hf sc_check_wishes (fun vs H Q E h => h.1) (fun A outer s H vs Q E hr h => def_body (z := ⟨K, tbs K, none, fun cls d _ H => E cls d H⟩) (fb := b_check_wishes) (pu_sone (pu_sif (pu_tnot (pu_truth rfl (pu_all (c := (He.cT K (("check_wishes", none) : He.Defn)).1) (P := (He.cT K (("check_wishes", none) : He.Defn)).2) (k := 2) (own := [("line", 2)]) (tg := (.nm 2)) (by show _ ∈ tbs K; unfold tbs tf0; simp) hr sc_check_wishes.nd (by rfl) T.n_all TB rfl (UbG.gexOk_by (N := N_check_wishes) (sc := defScope s_check_wishes) (by decide +kernel)) (pu_iE rfl (pe_pv 0)) (fun _ _ _ _ _ _ _ hrG => ⟨(pg_name (i := 2) sc_check_wishes.nd rfl (by first | exact Or.inl rfl | exact Or.inr rfl)), (pu_call (z := _) (ms := [false, false]) rfl C_are_different (fun _ _ => .nil) rfl rfl hrG (by decide) (by rfl) takes0 (pu_cons (pe_pv 2) (pu_cons (pe_pv 1) pu_nil)))⟩) (by decide)))) (pu_sone (pu_sraise (fs := ["reason"]) (okd := okT) rfl rfl (takes_of rfl rfl rfl rfl) X_InvalidWishes hr (by decide) (by rfl) hok_okT (pu_cons pu_str pu_nil))) pu_snil)) rfl rfl h rfl)
theorem ok__check_sides {f : Addr} {fd : FuncData} (T : Tx K mg) (F : FunD K "_check_sides" "_check_sides" (defArgs s__check_sides) (defBody s__check_sides) (defScope s__check_sides) [] [] f fd) (C_check_size : Cal P w K mg base "check_size" 3 ["sizes", "most"] [] (spF K (tbs K) p_check_size 2)) (C_check_wishes : Cal P w K mg base "check_wishes" 4 ["wishes", "things"] [] (spF K (tbs K) p_check_wishes 2)) : FnOk P w K mg base (L2.CX P w) 5 f fd ["proposers", "receivers"] (spF K (tbs K) p__check_sides 2) := F.ok sc__check_sides (fun vs H Q E h => h.1) (fun cdv A outer s H vs Q E hr h => def_body (z := ⟨K, tbs K, none, fun cls d _ H => E cls d H⟩) (fb := b__check_sides) (pu_scons (pu_sex (pu_call (z := _) (ms := [false, false]) rfl C_check_size (fun _ _ => .nil) rfl rfl hr (by decide) (by rfl) (takes_of rfl rfl rfl rfl) (pu_cons (pu_lst (pu_cons (pu_B1 us_len cl_lenA (by rfl) T.n_len bb_len (pe_pv 0)) (pu_cons (pu_B1 us_len cl_lenA (by rfl) T.n_len bb_len (pe_pv 1)) pu_nil))) (pu_cons (pu_glob (v := .int 8) (fun _ => .int _) (by rfl) T.c_MOST_MEMBERS.choose_spec ⟨_, rfl⟩) pu_nil))))
 (pu_scons (pu_sex (pu_call (z := _) (ms := [false, false]) rfl C_check_wishes (fun _ _ => .nil) rfl rfl hr (by decide) (by rfl) (takes_of rfl rfl rfl rfl) (pu_cons (pe_pv 0) (pu_cons (pu_B1 us_len cl_lenA (by rfl) T.n_len bb_len (pe_pv 1)) pu_nil))))
 (pu_sone (pu_sex (pu_call (z := _) (ms := [false, false]) rfl C_check_wishes (fun _ _ => .nil) rfl rfl hr (by decide) (by rfl) (takes_of rfl rfl rfl rfl) (pu_cons (pe_pv 1) (pu_cons (pu_B1 us_len cl_lenA (by rfl) T.n_len bb_len (pe_pv 0)) pu_nil))))))) rfl rfl h rfl)
theorem ok__turned {f : Addr} {fd : FuncData} (T : Tx K mg) (F : FunD K "_turned" "_turned" (defArgs s__turned) (defBody s__turned) (defScope s__turned) [] [] f fd) : FnOk P w K mg base (L2.CX P w) 1 f fd ["pairs", "many"] (spF K (tbs K) p__turned 2) := F.ok sc__turned (fun vs H Q E h => h.1) (fun cdv A outer s H vs Q E hr h => def_body (z := ⟨K, tbs K, none, fun cls d _ H => E cls d H⟩) (fb := b__turned) (pu_scons (pu_sown (i := 2) sc__turned.nd rfl (Or.inl rfl) (pu_op os_mul op_mulA (pu_lst (pu_cons pu_non pu_nil)) (pe_pv 1)))
 (pu_scons (pu_sfor (tgt := (.tp [(.nm 3), (.nm 4)])) PassesOwn.leaving rfl (pu_iEn rfl (by rfl) T.n_enumerate (pe_pv 0)) (pg_tup rfl (pgs_cons (pg_name (i := 3) sc__turned.nd rfl (Or.inl rfl)) (pgs_cons (pg_name (i := 4) sc__turned.nd rfl (Or.inl rfl)) pgs_nil))) (pu_sone (pu_sif (pu_tcmp os_notNo op_notA (pe_pv 4) pu_non (nomark _)) (pu_sone (pu_sitem (pe_pv 3) (pg_sub (pe_pv 2) (pe_pv 4) set_list))) pu_snil)))
 (pu_sone (pu_sret (pe_pv 2))))) rfl rfl h rfl)
theorem ok_prefers {f : Addr} {fd : FuncData} (T : Tx K mg) (F : FunD K "prefers" "prefers" (defArgs s_prefers) (defBody s_prefers) (defScope s_prefers) [] [] f fd) : FnOk P w K mg base (L2.CX P w) 1 f fd ["wishes", "thing", "other"] (spF K (tbs K) p_prefers 3) := F.ok sc_prefers (fun vs H Q E h => h.1) (fun cdv A outer s H vs Q E hr h => def_body (z := ⟨K, tbs K, none, fun cls d _ H => E cls d H⟩) (fb := b_prefers) (pu_scons (pu_sif (pu_tcmp os_nin (op_ninB hr.units) (pe_pv 1) (pe_pv 0) (by with_unfolding_all rfl)) (pu_sone (pu_sret pu_bl)) pu_snil)
 (pu_sone (pu_sret (pu_or rfl (pu_cmp os_nin (op_ninB hr.units) (pe_pv 2) (pe_pv 0) (by with_unfolding_all rfl)) (pu_one (pu_cmp os_lt op_lt (pu_idx rfl hr.units65 (pe_pv 0) (pe_pv 1)) (pu_idx rfl hr.units65 (pe_pv 0) (pe_pv 2)) (nomark _))))))) rfl rfl h rfl)
theorem ok_accept {f : Addr} {fd : FuncData} (T : Tx K mg) (F : FunD K "accept" "accept" (defArgs s_accept) (defBody s_accept) (defScope s_accept) [] [] f fd) (C__check_sides : Cal P w K mg base "_check_sides" 5 ["proposers", "receivers"] [] (spF K (tbs K) p__check_sides 2)) (C__turned : Cal P w K mg base "_turned" 1 ["pairs", "many"] [] (spF K (tbs K) p__turned 2)) (C_prefers : Cal P w K mg base "prefers" 1 ["wishes", "thing", "other"] [] (spF K (tbs K) p_prefers 3)) : FnOk P w K mg base (L2.CX P w) 6 f fd ["proposers", "receivers"] (spF K (tbs K) p_accept 2) := F.ok sc_accept (fun vs H Q E h => h.1) (fun cdv A outer s H vs Q E hr h => def_body (z := ⟨K, tbs K, none, fun cls d _ H => E cls d H⟩) (fb := b_accept) (pu_scons (pu_sex (pu_call (z := _) (ms := [false, false]) rfl C__check_sides (fun _ _ => .nil) rfl rfl hr (by decide) (by rfl) (takes_of rfl rfl rfl rfl) (pu_cons (pe_pv 0) (pu_cons (pe_pv 1) pu_nil))))
 (pr_enter (i := 2) (own := [("wishes", 8)]) (tgt := (.nm 8)) rfl sc_accept.nd rfl rfl (sw_true rfl rfl rfl rfl) (pu_iE rfl (pe_pv 0)) (blkOk_by (N := N_accept) (sc := defScope s_accept) (by decide +kernel)) (fun _ _ _ _ _ => (pg_name (i := 8) sc_accept.nd rfl (by first | exact Or.inl rfl | exact Or.inr rfl))) (fun _ _ _ _ _ => pts_ret) (fun _ _ _ _ _ => (pu_Y1 us_list cl_list (by rfl) T.n_list bb_list (pe_pv 8))) (by decide) (fun g hg => (prl_cons (pr_lift (pu_sown (i := 3) sc_accept.nd rfl (Or.inl rfl) (pu_op os_mul op_mulA (pu_lst (pu_cons pu_non pu_nil)) (pu_B1 us_len cl_lenA (by rfl) T.n_len bb_len (pe_pv 1)))))
 (prl_cons (pr_lift (pu_sown (i := 4) sc_accept.nd rfl (Or.inl rfl) (pu_rg1 rfl (by rfl) T.n_list (by rfl) T.n_range (pu_B1 us_len cl_lenA (by rfl) T.n_len bb_len (pe_pv 0)))))
 (prl_cons (pr_while (n := 1000) PassesOwn.leaving (pu_truth rfl (pe_pv 4)) (pr_cons (pr_lift (pu_sset (i := 5) sc_accept.nd rfl (Or.inl rfl) (pu_pop (pe_pv 4))))
 (pr_one (pr_ifRow hg rfl rfl (Or.inl rfl) (by decide) (by decide) (pe_pv 5) (fun _ _ => rfl) (pr_cons (pr_popRow (t := 6) hg rfl rfl (Or.inl rfl) (by decide) (by decide) (pe_pv 5) (fun _ _ => rfl) pu_int sc_accept.nd rfl (Or.inl rfl))
 (pr_lifts (pu_scons (pu_sset (i := 7) sc_accept.nd rfl (Or.inl rfl) (pe_pv 5))
 (pu_scons (pu_sif (pu_truth rfl (pu_call (z := _) (ms := [false, false, false]) rfl C_prefers (fun _ _ => .nil) rfl rfl hr (by decide) (by rfl) (takes_of rfl rfl rfl rfl) (pu_cons (pu_ix os_ix ix_seq (pe_pv 1) (pe_pv 6) (fun _ _ => rfl)) (pu_cons (pe_pv 5) (pu_cons (pu_ix os_ix ix_seq (pe_pv 3) (pe_pv 6) (fun _ _ => rfl)) pu_nil))))) (pu_scons (pu_sset (i := 7) sc_accept.nd rfl (Or.inl rfl) (pu_ix os_ix ix_seq (pe_pv 3) (pe_pv 6) (fun _ _ => rfl)))
 (pu_sone (pu_sitem (pe_pv 5) (pg_sub (pe_pv 3) (pe_pv 6) set_list)))) pu_snil)
 (pu_sone (pu_sif (pu_tcmp os_notNo op_notA (pe_pv 7) pu_non (nomark _)) (pu_sone (pu_sex (pu_app (pe_pv 4) (pe_pv 7)))) pu_snil)))))) (pr_lifts pu_snil)))))
 (prl_exit hg (pu_frz (pu_sone (pu_sret (pu_call (z := _) (ms := [false, false]) rfl C__turned (fun _ _ => .nil) rfl rfl hr (by decide) (by rfl) (takes_of rfl rfl rfl rfl) (pu_cons (pe_pv 3) (pu_cons (pu_B1 us_len cl_lenA (by rfl) T.n_len bb_len (pe_pv 0)) pu_nil))))))))))))) rfl rfl h rfl)
theorem ok_law {f : Addr} {fd : FuncData} (T : Tx K mg) (F : FunD K "law" "law" (defArgs s_law) (defBody s_law) (defScope s_law) [] [] f fd) (C__law_all : Cal P w K mg base "_law_all" 3 ["proposers", "receivers"] [] (spF K (tbs K) p__law_all 2)) (C__law_copied : Cal P w K mg base "_law_copied" 1 ["rows"] [] (spF K (tbs K) p__law_copied 1)) (C__law_draws : Cal P w K mg base "_law_draws" 1 ["script"] [] (spF K (tbs K) p__law_draws 1)) (C__law_is_matching : Cal P w K mg base "_law_is_matching" 1 ["told", "proposers", "receivers"] [] (spF K (tbs K) p__law_is_matching 3)) (C__law_rank : Cal P w K mg base "_law_rank" 1 ["wishes", "thing"] [] (spF K (tbs K) p__law_rank 2)) (C__law_same : Cal P w K mg base "_law_same" 71 ["value", "due"] [] (spF K (tbs K) (p__law_same 70) 2)) (C__law_stable : Cal P w K mg base "_law_stable" 2 ["proposers", "receivers", "matching"] [] (spF K (tbs K) p__law_stable 3)) (C__law_take : Cal P w K mg base "_law_take" 1 ["draws", "bound"] [] (spF K (tbs K) p__law_take 2)) (C__law_wishes : Cal P w K mg base "_law_wishes" 2 ["draws", "count", "whole"] [] (spF K (tbs K) p__law_wishes 3)) (C_accept : Cal P w K mg base "accept" 6 ["proposers", "receivers"] [] (spF K (tbs K) p_accept 2)) : FnOk P w K mg base (L2.CX P w) 72 f fd ["script"] (spF K (tbs K) p_law 1) := F.ok sc_law (fun vs H Q E h => h.1) (fun cdv A outer s H vs Q E hr h => def_body (z := ⟨K, tbs K, none, fun cls d _ H => E cls d H⟩) (fb := b_law) (pu_scons (pu_sown (i := 1) sc_law.nd rfl (Or.inr rfl) (pu_call (z := _) (ms := [false]) rfl C__law_draws (fun _ _ => .nil) rfl rfl hr (by decide) (by rfl) (takes_of rfl rfl rfl rfl) (pu_cons (pe_pv 0) pu_nil)))
 (pu_scons (pu_sset (i := 2) sc_law.nd rfl (Or.inr rfl) (pu_lst (pu_cons (pu_call (z := _) (ms := [true, false]) rfl C__law_take (fun _ _ => .nil) rfl rfl hr (by decide) (by rfl) (takes_of rfl rfl rfl rfl) (pu_cons (pe_pv 1) (pu_cons pu_int pu_nil))) (pu_cons (pu_call (z := _) (ms := [true, false]) rfl C__law_take (fun _ _ => .nil) rfl rfl hr (by decide) (by rfl) (takes_of rfl rfl rfl rfl) (pu_cons (pe_pv 1) (pu_cons pu_int pu_nil))) pu_nil))))
 (pu_scons (pu_setLc (i := 3) (own := [("k", 13)]) (tgt := (.nm 13)) rfl sc_law.nd rfl rfl (sw_true rfl rfl rfl rfl) (pu_iR1 (by rfl) T.n_range (pu_ix os_ix ix_seq (pe_pv 2) pu_int (fun _ _ => rfl))) (blkOk_by (N := N_law) (sc := defScope s_law) (by decide +kernel)) (fun _ _ _ _ _ => (pg_name (i := 13) sc_law.nd rfl (by first | exact Or.inl rfl | exact Or.inr rfl))) (fun _ _ _ _ _ => pts_ret) (fun _ _ _ _ _ => (pu_call (z := _) (ms := [true, false, false]) rfl C__law_wishes (fun _ _ => .nil) rfl rfl hr (by decide) (by rfl) takes0 (pu_cons (pe_pv 1) (pu_cons (pu_ix os_ix ix_seq (pe_pv 2) pu_int (fun _ _ => rfl)) (pu_cons pu_bl pu_nil))))) (by decide))
 (pu_scons (pu_setLc (i := 4) (own := [("k", 13)]) (tgt := (.nm 13)) rfl sc_law.nd rfl rfl (sw_true rfl rfl rfl rfl) (pu_iR1 (by rfl) T.n_range (pu_ix os_ix ix_seq (pe_pv 2) pu_int (fun _ _ => rfl))) (blkOk_by (N := N_law) (sc := defScope s_law) (by decide +kernel)) (fun _ _ _ _ _ => (pg_name (i := 13) sc_law.nd rfl (by first | exact Or.inl rfl | exact Or.inr rfl))) (fun _ _ _ _ _ => pts_ret) (fun _ _ _ _ _ => (pu_call (z := _) (ms := [true, false, false]) rfl C__law_wishes (fun _ _ => .nil) rfl rfl hr (by decide) (by rfl) takes0 (pu_cons (pe_pv 1) (pu_cons (pu_ix os_ix ix_seq (pe_pv 2) pu_int (fun _ _ => rfl)) (pu_cons pu_bl pu_nil))))) (by decide))
 (pu_scons (pu_sset (i := 5) sc_law.nd rfl (Or.inl rfl) (pu_lst (pu_cons (pu_call (z := _) (ms := [false]) rfl C__law_copied (fun _ _ => .nil) rfl rfl hr (by decide) (by rfl) (takes_of rfl rfl rfl rfl) (pu_cons (pe_pv 3) pu_nil)) (pu_cons (pu_call (z := _) (ms := [false]) rfl C__law_copied (fun _ _ => .nil) rfl rfl hr (by decide) (by rfl) (takes_of rfl rfl rfl rfl) (pu_cons (pe_pv 4) pu_nil)) pu_nil))))
 (pu_scons (pu_sset (i := 6) sc_law.nd rfl (Or.inl rfl) (pu_call (z := _) (ms := [false, false]) rfl C_accept (fun _ _ => .nil) rfl rfl hr (by decide) (by rfl) (takes_of rfl rfl rfl rfl) (pu_cons (pu_ix os_ix ix_seq (pe_pv 5) pu_int (fun _ _ => rfl)) (pu_cons (pu_ix os_ix ix_seq (pe_pv 5) pu_int (fun _ _ => rfl)) pu_nil))))
 (pu_scons (pu_sif (pu_wor (pu_tnot (pu_truth rfl (pu_call (z := _) (ms := [false, false, false]) rfl C__law_is_matching (fun _ _ => .nil) rfl rfl hr (by decide) (by rfl) (takes_of rfl rfl rfl rfl) (pu_cons (pe_pv 6) (pu_cons (pe_pv 3) (pu_cons (pu_ix os_ix ix_seq (pe_pv 2) pu_int (fun _ _ => rfl)) pu_nil)))))) (pu_wor1 (pu_tnot (pu_truth rfl (pu_call (z := _) (ms := [false, false, false]) rfl C__law_stable (fun _ _ => .nil) rfl rfl hr (by decide) (by rfl) (takes_of rfl rfl rfl rfl) (pu_cons (pe_pv 3) (pu_cons (pe_pv 4) (pu_cons (pe_pv 6) pu_nil)))))))).pt (pu_sone (pu_sret pu_bl)) pu_snil)
 (pu_scons (pu_sif (pu_tnot (pu_truth rfl (pu_call (z := _) (ms := [false, false]) rfl C__law_same (fun _ _ => .nil) rfl rfl hr (by decide) (by rfl) (takes_of rfl rfl rfl rfl) (pu_cons (pe_pv 5) (pu_cons (pu_lst (pu_cons (pe_pv 3) (pu_cons (pe_pv 4) pu_nil))) pu_nil))))) (pu_sone (pu_sret pu_bl)) pu_snil)
 (pu_scons (pu_sfor (tgt := (.nm 7)) PassesOwn.leaving rfl (pu_iE rfl (pu_call (z := _) (ms := [false, false]) rfl C__law_all (fun _ _ => .nil) rfl rfl hr (by decide) (by rfl) (takes_of rfl rfl rfl rfl) (pu_cons (pe_pv 3) (pu_cons (pe_pv 4) pu_nil)))) (pg_name (i := 7) sc_law.nd rfl (Or.inl rfl)) (pu_scons (pu_sfor (tgt := (.nm 8)) PassesOwn.leaving rfl (pu_iR1 (by rfl) T.n_range (pu_ix os_ix ix_seq (pe_pv 2) pu_int (fun _ _ => rfl))) (pg_name (i := 8) sc_law.nd rfl (Or.inl rfl)) (pu_scons (pu_sif (pu_tcmp os_lt op_lt (pu_call (z := _) (ms := [false, false]) rfl C__law_rank (fun _ _ => .nil) rfl rfl hr (by decide) (by rfl) (takes_of rfl rfl rfl rfl) (pu_cons (pu_ix os_ix ix_seq (pe_pv 3) (pe_pv 8) (fun _ _ => rfl)) (pu_cons (pu_ix os_ix ix_seq (pe_pv 7) (pe_pv 8) (fun _ _ => rfl)) pu_nil))) (pu_call (z := _) (ms := [false, false]) rfl C__law_rank (fun _ _ => .nil) rfl rfl hr (by decide) (by rfl) (takes_of rfl rfl rfl rfl) (pu_cons (pu_ix os_ix ix_seq (pe_pv 3) (pe_pv 8) (fun _ _ => rfl)) (pu_cons (pu_ix os_ix ix_seq (pe_pv 6) (pe_pv 8) (fun _ _ => rfl)) pu_nil))) (nomark _)) (pu_sone (pu_sret pu_bl)) pu_snil)
 (pu_sone (pu_sif (pu_tcmp os_ne (op_neA hr.units) (pu_cmp os_isNo op_isA (pu_ix os_ix ix_seq (pe_pv 7) (pe_pv 8) (fun _ _ => rfl)) pu_non (nomark _)) (pu_cmp os_isNo op_isA (pu_ix os_ix ix_seq (pe_pv 6) (pe_pv 8) (fun _ _ => rfl)) pu_non (nomark _)) (nomark _)) (pu_sone (pu_sret pu_bl)) pu_snil))))
 (pu_sone (pu_sfor (tgt := (.nm 9)) PassesOwn.leaving rfl (pu_iR1 (by rfl) T.n_range (pu_ix os_ix ix_seq (pe_pv 2) pu_int (fun _ _ => rfl))) (pg_name (i := 9) sc_law.nd rfl (Or.inl rfl)) (pu_sone (pu_sif (pu_tcmp os_ne (op_neA hr.units) (pu_cmp os_in (op_inB hr.units) (pe_pv 9) (pe_pv 7) (by with_unfolding_all rfl)) (pu_cmp os_in (op_inB hr.units) (pe_pv 9) (pe_pv 6) (by with_unfolding_all rfl)) (nomark _)) (pu_sone (pu_sret pu_bl)) pu_snil))))))
 (pu_scons (pu_sif (pu_tcmp os_eq (op_eqA hr.units) (pu_ix os_ix ix_seq (pe_pv 2) pu_int (fun _ _ => rfl)) pu_int (nomark _)) (pu_sone (pu_sret pu_bl)) pu_snil)
 (pu_scons (pu_sset (i := 10) sc_law.nd rfl (Or.inl rfl) (pu_call (z := _) (ms := [true, false]) rfl C__law_take (fun _ _ => .nil) rfl rfl hr (by decide) (by rfl) (takes_of rfl rfl rfl rfl) (pu_cons (pe_pv 1) (pu_cons (pu_ix os_ix ix_seq (pe_pv 2) pu_int (fun _ _ => rfl)) pu_nil))))
 (pu_scons (pu_sown (i := 11) sc_law.nd rfl (Or.inl rfl) (pu_call (z := _) (ms := [false]) rfl C__law_copied (fun _ _ => .nil) rfl rfl hr (by decide) (by rfl) (takes_of rfl rfl rfl rfl) (pu_cons (pe_pv 3) pu_nil)))
 (pu_scons (pu_sitem (pu_call (z := _) (ms := [true, false, false]) rfl C__law_wishes (fun _ _ => .nil) rfl rfl hr (by decide) (by rfl) (takes_of rfl rfl rfl rfl) (pu_cons (pe_pv 1) (pu_cons (pu_ix os_ix ix_seq (pe_pv 2) pu_int (fun _ _ => rfl)) (pu_cons pu_bl pu_nil)))) (pg_sub (pe_pv 11) (pe_pv 10) set_list))
 (pu_frz (pu_scons (pu_sset (i := 12) sc_law.nd rfl (Or.inl rfl) (pu_call (z := _) (ms := [false, false]) rfl C_accept (fun _ _ => .nil) rfl rfl hr (by decide) (by rfl) (takes_of rfl rfl rfl rfl) (pu_cons (pe_pv 11) (pu_cons (pu_call (z := _) (ms := [false]) rfl C__law_copied (fun _ _ => .nil) rfl rfl hr (by decide) (by rfl) (takes_of rfl rfl rfl rfl) (pu_cons (pe_pv 4) pu_nil)) pu_nil))))
 (pu_sone (pu_sret (pu_cmp os_ge op_ge (pu_call (z := _) (ms := [false, false]) rfl C__law_rank (fun _ _ => .nil) rfl rfl hr (by decide) (by rfl) (takes_of rfl rfl rfl rfl) (pu_cons (pu_ix os_ix ix_seq (pe_pv 3) (pe_pv 10) (fun _ _ => rfl)) (pu_cons (pu_ix os_ix ix_seq (pe_pv 12) (pe_pv 10) (fun _ _ => rfl)) pu_nil))) (pu_call (z := _) (ms := [false, false]) rfl C__law_rank (fun _ _ => .nil) rfl rfl hr (by decide) (by rfl) (takes_of rfl rfl rfl rfl) (pu_cons (pu_ix os_ix ix_seq (pe_pv 3) (pe_pv 10) (fun _ _ => rfl)) (pu_cons (pu_ix os_ix ix_seq (pe_pv 6) (pe_pv 10) (fun _ _ => rfl)) pu_nil))) (nomark _))))))))))))))))))) rfl rfl h rfl)
end
theorem law_sp {K : PySem.W.Frag} {H : Hp} {a : Addr} {ns : List Int} {Q : VK} {E : XK} (hl : ns.length ≤ 63) (hT : ∀ p ∈ tf0, GxR.TabG H (He.cT K p).2) (hS : SqL K H a (ns.map V.int)) (q : ∀ H', Q (.bl true) H') : spF K (tbs K) p_law 1 [.ref a] H Q E := law_start (fun P hP => by obtain ⟨p, hp, rfl⟩ := List.mem_map.mp hP; exact hT p hp) hS (law_pure ns hl) q
theorem facts {w : World} {K : PySem.W.Frag} {h : Heap} {mg : Str → Option Value} {f : Addr} (X : K.In h) (G : h.Ns mainGlobals mg) (hfa : mg ("law" : Str) = some (.ref f)) (c0 : UbS.SaysS fa fn tf fs ex w h K) (P : Program) (hfile : (P.main.file == fileS) = true) (htop : (P.main.scope.names.lookup ("super" : Str)).isSome = false) :
    ∃ fd : FuncData, (∀ (s : Shared) (v : Value), BindsTo s fd ⟨[v], []⟩ [("script", v)]) ∧ ∀ base : Heap, K.In base → base.Ns mainGlobals mg → (∀ p ∈ tf, GxR.TabB base mg (He.cT K p).1 (He.cT K p).2) → FnOk P w K mg base (L2.CX P w) 72 f fd ["script"] (spF K (tbs K) p_law 1) := by
  have c := c0.x
  have cd := c.t.d
  have cm := c.more
  unfold ex at cm
  obtain ⟨cm0, cm⟩ := He.ba cm
  obtain ⟨cm1, cm⟩ := He.ba cm
  obtain ⟨cm2, cm⟩ := He.ba cm
  obtain ⟨cm3, cm⟩ := He.ba cm
  obtain ⟨cm4, cm⟩ := He.ba cm
  obtain ⟨cm5, cm⟩ := He.ba cm
  have T : Tx K mg := { n_abs := He.free_ok X G (cd.fact 21 rfl), n_all := He.free_ok X G (cd.fact 22 rfl), n_any := He.free_ok X G (cd.fact 23 rfl), n_bool := He.free_ok X G (cd.fact 24 rfl), n_enumerate := He.free_ok X G (cd.fact 25 rfl), n_int := He.free_ok X G (cd.fact 26 rfl), n_isinstance := He.free_ok X G (cd.fact 27 rfl), n_len := He.free_ok X G (cd.fact 28 rfl), n_list := He.free_ok X G (cd.fact 29 rfl), n_range := He.free_ok X G (cd.fact 30 rfl), n_reversed := He.free_ok X G (cd.fact 31 rfl), n_set := He.free_ok X G (cd.fact 32 rfl), n_str := He.free_ok X G (cd.fact 33 rfl), n_super := He.free_ok X G (cd.fact 34 rfl), n_tuple := He.free_ok X G (cd.fact 35 rfl), c_MOST_MEMBERS := He.int_ok X G (cd.fact 36 rfl), gc_InvalidWishes := He.glo_ok X G (cd.fact 17 rfl), gc_TooLarge := He.glo_ok X G (cd.fact 18 rfl), x_TooLarge := UbC.oexB_ok cm0, x_InvalidWishes := UbC.oexB_ok cm1, na_InvalidWishes_reason := He.noat_ok (cd.fact 19 rfl), na_TooLarge_limit := He.noat_ok (cd.fact 20 rfl) }
  obtain ⟨fd_TooLarge___init__, F_TooLarge___init__⟩ := UbS.funS_of (c0.def_ 0 (d := d_TooLarge___init__) rfl) cm2
  have B_TooLarge___init__ := UbS.supB_ok cm4
  obtain ⟨fd_InvalidWishes___init__, F_InvalidWishes___init__⟩ := UbS.funS_of (c0.def_ 1 (d := d_InvalidWishes___init__) rfl) cm3
  have B_InvalidWishes___init__ := UbS.supB_ok cm5
  obtain ⟨fd__law_rank, F__law_rank⟩ := cd.def_ 0 (d := d__law_rank) rfl
  have m__law_rank := He.glo_ok X G (cd.fact 0 (f := .glo "_law_rank") rfl)
  obtain ⟨fd__law_stable, F__law_stable⟩ := cd.def_ 1 (d := d__law_stable) rfl
  have m__law_stable := He.glo_ok X G (cd.fact 1 (f := .glo "_law_stable") rfl)
  obtain ⟨fd__law_all, F__law_all⟩ := cd.def_ 2 (d := d__law_all) rfl
  have m__law_all := He.glo_ok X G (cd.fact 2 (f := .glo "_law_all") rfl)
  obtain ⟨fd__law_copied, F__law_copied⟩ := cd.def_ 3 (d := d__law_copied) rfl
  have m__law_copied := He.glo_ok X G (cd.fact 3 (f := .glo "_law_copied") rfl)
  obtain ⟨fd__law_draws, F__law_draws⟩ := cd.def_ 4 (d := d__law_draws) rfl
  have m__law_draws := He.glo_ok X G (cd.fact 4 (f := .glo "_law_draws") rfl)
  obtain ⟨fd__law_is_matching, F__law_is_matching⟩ := cd.def_ 5 (d := d__law_is_matching) rfl
  have m__law_is_matching := He.glo_ok X G (cd.fact 5 (f := .glo "_law_is_matching") rfl)
  obtain ⟨fd__law_same, F__law_same⟩ := cd.def_ 6 (d := d__law_same) rfl
  have m__law_same := He.glo_ok X G (cd.fact 6 (f := .glo "_law_same") rfl)
  obtain ⟨fd__law_take, F__law_take⟩ := cd.def_ 7 (d := d__law_take) rfl
  have m__law_take := He.glo_ok X G (cd.fact 7 (f := .glo "_law_take") rfl)
  obtain ⟨fd__law_wishes, F__law_wishes⟩ := cd.def_ 8 (d := d__law_wishes) rfl
  have m__law_wishes := He.glo_ok X G (cd.fact 8 (f := .glo "_law_wishes") rfl)
  obtain ⟨fd_check_size, F_check_size⟩ := cd.def_ 9 (d := d_check_size) rfl
  have m_check_size := He.glo_ok X G (cd.fact 9 (f := .glo "check_size") rfl)
  obtain ⟨fd_are_different, F_are_different⟩ := cd.def_ 10 (d := d_are_different) rfl
  have m_are_different := He.glo_ok X G (cd.fact 10 (f := .glo "are_different") rfl)
  obtain ⟨fd_check_wishes, F_check_wishes⟩ := cd.def_ 11 (d := d_check_wishes) rfl
  have m_check_wishes := He.glo_ok X G (cd.fact 11 (f := .glo "check_wishes") rfl)
  obtain ⟨fd__check_sides, F__check_sides⟩ := cd.def_ 12 (d := d__check_sides) rfl
  have m__check_sides := He.glo_ok X G (cd.fact 12 (f := .glo "_check_sides") rfl)
  obtain ⟨fd__turned, F__turned⟩ := cd.def_ 13 (d := d__turned) rfl
  have m__turned := He.glo_ok X G (cd.fact 13 (f := .glo "_turned") rfl)
  obtain ⟨fd_prefers, F_prefers⟩ := cd.def_ 14 (d := d_prefers) rfl
  have m_prefers := He.glo_ok X G (cd.fact 14 (f := .glo "prefers") rfl)
  obtain ⟨fd_accept, F_accept⟩ := cd.def_ 15 (d := d_accept) rfl
  have m_accept := He.glo_ok X G (cd.fact 15 (f := .glo "accept") rfl)
  obtain ⟨fd_law, F_law⟩ := cd.def_ 16 (d := d_law) rfl
  have m_law := He.glo_ok X G (cd.fact 16 (f := .glo "law") rfl)
  have e := hfa.symm.trans m_law
  cases e
  have bl := FunD.bindsA (ps := ["script"]) F_law fun _ _ _ _ _ _ us hl => match us, hl with | [_], _ => rfl
  refine ⟨fd_law, fun s v => bl s [v] rfl, fun base _ _ TBs => ?_⟩
  have G__law_rank : FnOk P w K mg base (L2.CX P w) 1 (He.ga K "_law_rank") fd__law_rank ["wishes", "thing"] (spF K (tbs K) p__law_rank 2) := ok__law_rank T F__law_rank 
  have C__law_rank : Cal P w K mg base "_law_rank" 1 ["wishes", "thing"] [] (spF K (tbs K) p__law_rank 2) := ⟨_, _, [], G__law_rank, m__law_rank, F__law_rank.kp, .nil, F__law_rank.bindsN fun _ _ _ _ _ _ us hl => match us, hl with | [_, _], _ => rfl⟩
  have G__law_stable : FnOk P w K mg base (L2.CX P w) 2 (He.ga K "_law_stable") fd__law_stable ["proposers", "receivers", "matching"] (spF K (tbs K) p__law_stable 3) := ok__law_stable T F__law_stable C__law_rank
  have C__law_stable : Cal P w K mg base "_law_stable" 2 ["proposers", "receivers", "matching"] [] (spF K (tbs K) p__law_stable 3) := ⟨_, _, [], G__law_stable, m__law_stable, F__law_stable.kp, .nil, F__law_stable.bindsN fun _ _ _ _ _ _ us hl => match us, hl with | [_, _, _], _ => rfl⟩
  have G__law_all : FnOk P w K mg base (L2.CX P w) 3 (He.ga K "_law_all") fd__law_all ["proposers", "receivers"] (spF K (tbs K) p__law_all 2) := ok__law_all T F__law_all C__law_stable
  have C__law_all : Cal P w K mg base "_law_all" 3 ["proposers", "receivers"] [] (spF K (tbs K) p__law_all 2) := ⟨_, _, [], G__law_all, m__law_all, F__law_all.kp, .nil, F__law_all.bindsN fun _ _ _ _ _ _ us hl => match us, hl with | [_, _], _ => rfl⟩
  have G__law_copied : FnOk P w K mg base (L2.CX P w) 1 (He.ga K "_law_copied") fd__law_copied ["rows"] (spF K (tbs K) p__law_copied 1) := ok__law_copied T F__law_copied 
  have C__law_copied : Cal P w K mg base "_law_copied" 1 ["rows"] [] (spF K (tbs K) p__law_copied 1) := ⟨_, _, [], G__law_copied, m__law_copied, F__law_copied.kp, .nil, F__law_copied.bindsN fun _ _ _ _ _ _ us hl => match us, hl with | [_], _ => rfl⟩
  have G__law_draws : FnOk P w K mg base (L2.CX P w) 1 (He.ga K "_law_draws") fd__law_draws ["script"] (spF K (tbs K) p__law_draws 1) := ok__law_draws T F__law_draws 
  have C__law_draws : Cal P w K mg base "_law_draws" 1 ["script"] [] (spF K (tbs K) p__law_draws 1) := ⟨_, _, [], G__law_draws, m__law_draws, F__law_draws.kp, .nil, F__law_draws.bindsN fun _ _ _ _ _ _ us hl => match us, hl with | [_], _ => rfl⟩
  have G__law_is_matching : FnOk P w K mg base (L2.CX P w) 1 (He.ga K "_law_is_matching") fd__law_is_matching ["told", "proposers", "receivers"] (spF K (tbs K) p__law_is_matching 3) := ok__law_is_matching T F__law_is_matching 
  have C__law_is_matching : Cal P w K mg base "_law_is_matching" 1 ["told", "proposers", "receivers"] [] (spF K (tbs K) p__law_is_matching 3) := ⟨_, _, [], G__law_is_matching, m__law_is_matching, F__law_is_matching.kp, .nil, F__law_is_matching.bindsN fun _ _ _ _ _ _ us hl => match us, hl with | [_, _, _], _ => rfl⟩
  have G__law_same : FnOk P w K mg base (L2.CX P w) 71 (He.ga K "_law_same") fd__law_same ["value", "due"] (spF K (tbs K) (p__law_same 70) 2) := ok__law_same T F__law_same  m__law_same 70
  have C__law_same : Cal P w K mg base "_law_same" 71 ["value", "due"] [] (spF K (tbs K) (p__law_same 70) 2) := ⟨_, _, [], G__law_same, m__law_same, F__law_same.kp, .nil, F__law_same.bindsN fun _ _ _ _ _ _ us hl => match us, hl with | [_, _], _ => rfl⟩
  have G__law_take : FnOk P w K mg base (L2.CX P w) 1 (He.ga K "_law_take") fd__law_take ["draws", "bound"] (spF K (tbs K) p__law_take 2) := ok__law_take T F__law_take 
  have C__law_take : Cal P w K mg base "_law_take" 1 ["draws", "bound"] [] (spF K (tbs K) p__law_take 2) := ⟨_, _, [], G__law_take, m__law_take, F__law_take.kp, .nil, F__law_take.bindsN fun _ _ _ _ _ _ us hl => match us, hl with | [_, _], _ => rfl⟩
  have G__law_wishes : FnOk P w K mg base (L2.CX P w) 2 (He.ga K "_law_wishes") fd__law_wishes ["draws", "count", "whole"] (spF K (tbs K) p__law_wishes 3) := ok__law_wishes T F__law_wishes C__law_take
  have C__law_wishes : Cal P w K mg base "_law_wishes" 2 ["draws", "count", "whole"] [] (spF K (tbs K) p__law_wishes 3) := ⟨_, _, [], G__law_wishes, m__law_wishes, F__law_wishes.kp, .nil, F__law_wishes.bindsN fun _ _ _ _ _ _ us hl => match us, hl with | [_, _, _], _ => rfl⟩
  have G_TooLarge___init__ : FnOk P w K mg base (L2.CX P w) 1 (He.ma K (He.ga K "TooLarge") "__init__") fd_TooLarge___init__ ["self", "limit"] (UbC.spEI (He.ga K "TooLarge") (UbC.fl1 "limit") UbC.okT) := ok_TooLarge___init__ T F_TooLarge___init__ B_TooLarge___init__ hfile htop
  have X_TooLarge : UbC.CalX P w K mg base "TooLarge" 1 (UbC.spEI (He.ga K "TooLarge") (UbC.fl1 "limit") UbC.okT) := ⟨T.x_TooLarge, T.gc_TooLarge, _, _, G_TooLarge___init__, F_TooLarge___init__.bindsN fun _ _ _ _ _ _ us hl => match us, hl with | [_, _], _ => rfl⟩
  have G_check_size : FnOk P w K mg base (L2.CX P w) 3 (He.ga K "check_size") fd_check_size ["sizes", "most"] (spF K (tbs K) p_check_size 2) := ok_check_size T F_check_size rfl (TBs (("check_size", none) : He.Defn) (by unfold tf tf0; simp)) X_TooLarge
  have C_check_size : Cal P w K mg base "check_size" 3 ["sizes", "most"] [] (spF K (tbs K) p_check_size 2) := ⟨_, _, [], G_check_size, m_check_size, F_check_size.kp, .nil, F_check_size.bindsN fun _ _ _ _ _ _ us hl => match us, hl with | [_, _], _ => rfl⟩
  have G_InvalidWishes___init__ : FnOk P w K mg base (L2.CX P w) 1 (He.ma K (He.ga K "InvalidWishes") "__init__") fd_InvalidWishes___init__ ["self", "reason"] (UbC.spEI (He.ga K "InvalidWishes") (UbC.fl1 "reason") UbC.okT) := ok_InvalidWishes___init__ T F_InvalidWishes___init__ B_InvalidWishes___init__ hfile htop
  have X_InvalidWishes : UbC.CalX P w K mg base "InvalidWishes" 1 (UbC.spEI (He.ga K "InvalidWishes") (UbC.fl1 "reason") UbC.okT) := ⟨T.x_InvalidWishes, T.gc_InvalidWishes, _, _, G_InvalidWishes___init__, F_InvalidWishes___init__.bindsN fun _ _ _ _ _ _ us hl => match us, hl with | [_, _], _ => rfl⟩
  have G_are_different : FnOk P w K mg base (L2.CX P w) 2 (He.ga K "are_different") fd_are_different ["numbers", "many"] (spF K (tbs K) p_are_different 2) := ok_are_different T F_are_different rfl (TBs (("are_different", none) : He.Defn) (by unfold tf tf0; simp)) 
  have C_are_different : Cal P w K mg base "are_different" 2 ["numbers", "many"] [] (spF K (tbs K) p_are_different 2) := ⟨_, _, [], G_are_different, m_are_different, F_are_different.kp, .nil, F_are_different.bindsN fun _ _ _ _ _ _ us hl => match us, hl with | [_, _], _ => rfl⟩
  have G_check_wishes : FnOk P w K mg base (L2.CX P w) 4 (He.ga K "check_wishes") fd_check_wishes ["wishes", "things"] (spF K (tbs K) p_check_wishes 2) := ok_check_wishes T F_check_wishes rfl (TBs (("check_wishes", none) : He.Defn) (by unfold tf tf0; simp)) X_InvalidWishes C_are_different
  have C_check_wishes : Cal P w K mg base "check_wishes" 4 ["wishes", "things"] [] (spF K (tbs K) p_check_wishes 2) := ⟨_, _, [], G_check_wishes, m_check_wishes, F_check_wishes.kp, .nil, F_check_wishes.bindsN fun _ _ _ _ _ _ us hl => match us, hl with | [_, _], _ => rfl⟩
  have G__check_sides : FnOk P w K mg base (L2.CX P w) 5 (He.ga K "_check_sides") fd__check_sides ["proposers", "receivers"] (spF K (tbs K) p__check_sides 2) := ok__check_sides T F__check_sides C_check_size C_check_wishes
  have C__check_sides : Cal P w K mg base "_check_sides" 5 ["proposers", "receivers"] [] (spF K (tbs K) p__check_sides 2) := ⟨_, _, [], G__check_sides, m__check_sides, F__check_sides.kp, .nil, F__check_sides.bindsN fun _ _ _ _ _ _ us hl => match us, hl with | [_, _], _ => rfl⟩
  have G__turned : FnOk P w K mg base (L2.CX P w) 1 (He.ga K "_turned") fd__turned ["pairs", "many"] (spF K (tbs K) p__turned 2) := ok__turned T F__turned 
  have C__turned : Cal P w K mg base "_turned" 1 ["pairs", "many"] [] (spF K (tbs K) p__turned 2) := ⟨_, _, [], G__turned, m__turned, F__turned.kp, .nil, F__turned.bindsN fun _ _ _ _ _ _ us hl => match us, hl with | [_, _], _ => rfl⟩
  have G_prefers : FnOk P w K mg base (L2.CX P w) 1 (He.ga K "prefers") fd_prefers ["wishes", "thing", "other"] (spF K (tbs K) p_prefers 3) := ok_prefers T F_prefers 
  have C_prefers : Cal P w K mg base "prefers" 1 ["wishes", "thing", "other"] [] (spF K (tbs K) p_prefers 3) := ⟨_, _, [], G_prefers, m_prefers, F_prefers.kp, .nil, F_prefers.bindsN fun _ _ _ _ _ _ us hl => match us, hl with | [_, _, _], _ => rfl⟩
  have G_accept : FnOk P w K mg base (L2.CX P w) 6 (He.ga K "accept") fd_accept ["proposers", "receivers"] (spF K (tbs K) p_accept 2) := ok_accept T F_accept C__check_sides C__turned C_prefers
  have C_accept : Cal P w K mg base "accept" 6 ["proposers", "receivers"] [] (spF K (tbs K) p_accept 2) := ⟨_, _, [], G_accept, m_accept, F_accept.kp, .nil, F_accept.bindsN fun _ _ _ _ _ _ us hl => match us, hl with | [_, _], _ => rfl⟩
  exact ok_law T F_law C__law_all C__law_copied C__law_draws C__law_is_matching C__law_rank C__law_same C__law_stable C__law_take C__law_wishes C_accept
end UbK
open PySem PySem.W PySem.Calls PyProof.Rows
set_option maxHeartbeats 0 in
theorem PySem.Challenge.cw_unbent_k48_deferred_acceptance_holds : PySem.Challenge.rw_unbent_k48_deferred_acceptance.Holds := by
  w_on; o_law
  refine HandSHeadRun.head_any (r := OpenLaw.row PySem.Challenge.rw_unbent_k48_deferred_acceptance) (q := view (OpenLaw.row PySem.Challenge.rw_unbent_k48_deferred_acceptance).prog [23]) (H := UbK.hk) (ob := UbK.ob) (M := 4000) (loose := UbK.loose) (d := HandSHeadRun.topDef (OpenLaw.row PySem.Challenge.rw_unbent_k48_deferred_acceptance).prog 23) (kwd := []) UbK.ob_eq
    (by kernel_rfl) (fun s => by kernel_rfl) UbK.runHead (by kernel_rfl) (by kernel_rfl) (by kernel_rfl) (by rfl) (by first | assumption | decide +kernel) (by decide +kernel) ⟨rfl, rfl, rfl, rfl, rfl, by decide +kernel⟩ ?hw ?hc
  case hw => w_witness2
  case hc =>
    refine UbG.endOfLawT (l := PySem.Challenge.rw_unbent_k48_deferred_acceptance) (n := 63) (k := 72) (x := "script") rfl (by decide) (by kernel_rfl) ⟨rfl, by decide, by decide⟩ UbK.tf ?F
    intro w mg fa h Y G hmg0
    obtain ⟨K, KX, c⟩ := Y
    have hmg : mg ("law" : PySem.Str) = some (.ref fa) := by
      have e : (HandSHeadRun.topDef (OpenLaw.row PySem.Challenge.rw_unbent_k48_deferred_acceptance).prog 23).name = ("law" : PySem.Str) := by kernel_rfl
      rw [← e]
      exact hmg0
    obtain ⟨fd, hb, hF⟩ := UbK.facts KX G hmg c (PySem.Challenge.rw_unbent_k48_deferred_acceptance).prog (by kernel_rfl) (by kernel_rfl)
    exact ⟨K, fd, UbP.spF K (UbK.tbs K) UbK.p_law 1, KX, c.x.hd, c.x.out, c.x.empty, hb, fun H a ns hl hz hT hS => UbK.law_sp hl hT hS fun _ => rfl, hF⟩
